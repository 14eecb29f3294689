import PyProof.Rows.All
import Wide.All
import OpenK.AllK
import Wide.FinOn
import KE.GoesEnum
import HandS.ForMost
import HandS.Conv
import HandS.Defaults
import HandS.Walk
import HandS.WideBits
import HandS.IsInst
import HandS.TupAny
import HandS.Style
import HandS.TupLe
import HandS.Head0
import HandS.Head1
import HandS.Head2
import HandS.HeadEnd
import HandS.HeadHook1
import HandS.HeadHook2
import HandS.Exc
import HandS.ExcInit
import HandS.ExcOwn
import HandS.ExcIs
import HandS.ExcField
import KE.KTryMore
import KE.KExcInit
import HandS.FStrTup
import HandS.Codes
import HandS.TupMul
import HandS.ReplaceLit
import HandS.ReplaceList
import HandS.Strs
import KE.KRevSl
import HandS.Rev
import KE.DataMinMax
import HandS.Wide
import HandS.SetFor
import HandS.TupLen
import HandS.RevTup
import PyProof.JoinWalk
import KE.BitLaws
import PyProof.Rows.TupDisplay
import HandS.TupSets
import HandS.Deep
import HandS.MakeKwOnly
import KE.SortData
import KE.KeyNested
import HandS.Iter
import PyProof.WalksS
import PyProof.AutoSeq1
import HandS.HotCalls
import KE.KExcIs
import HandS.Lambda
import HandS.EndTab
import KE.KNestM
import PyProof.ListStr
import PyProof.TupleOfStr
import HandS.ExcValue
import PyProof.FactsAll.dict
import HandS.MakeKw
import PySem.Challenge.RW_lastpasses_k92_limits_and_errors
set_option Elab.async false
set_option linter.all false
set_option maxRecDepth 100000
set_option maxHeartbeats 4000000
namespace Lp
open PySem PySem.Spec PyProof.Rows L2
/-! ### enumerate of a tuple -/
theorem meetsEnum1 {v : Value} {o : Obj} {C : Heap → Prop} (B : Begins v o C) :
    Meets (Builtin.«enumerate.__new__» ⟨[.type "enumerate", v], []⟩) (fun _ R s => C s.heap ∧
      R (.ok (.ret (.ref (s.heap.push o).objs.size)))
        { s with heap := (s.heap.push o).push { cls := .type "enumerate", data := .fields #[.none, .bool false, .ref s.heap.objs.size, rawInt 0, .none, .none] } }) :=
  .of_wp fun prog w A R s hc => by
    obtain ⟨hp, gn, dn, tk, os⟩ := s
    obtain ⟨c1, hc⟩ := hc
    have hsub := sub_enumerate
    have qi : ∀ {A2 : Around} {E2 : Value → Shared → Prop} {Q2 : Value → Shared → Prop}, Q2 (.ref hp.objs.size) ⟨hp.push o, gn, dn, tk, os⟩ → wpAny (model prog w) A2 (pyIter v) Q2 E2 ⟨hp, gn, dn, tk, os⟩ :=
      fun q => B.iter prog w _ _ ⟨hp, gn, dn, tk, os⟩ _ c1 q
    wp_walk using qi
    refine wpAny_stack_any fun stk => wpAny_pure ?_
    split
    · rename_i cc _ _ _ _ _
      cases (cc == Value.type "enumerate")
      · wp_walk using qi
        exact ⟨_, rfl, hc⟩
      · wp_walk using qi
        exact ⟨_, rfl, hc⟩
    · wp_walk using qi
      exact ⟨_, rfl, hc⟩
section
variable {prog : Program} {w : World} {A : Around} {E : Value → Shared → Prop} {s : Shared}
theorem callEnum1 {v : Value} {o : Obj} {C : Heap → Prop} {Q : Value → Shared → Prop} (B : Begins v o C) (c1 : C s.heap)
    (hq : ∀ h2, IsEnum h2 (s.heap.objs.size + 1) s.heap.objs.size 0 .none → h2.get? s.heap.objs.size = some o → h2.objs.size = s.heap.objs.size + 2 →
      (∀ b u, s.heap.get? b = some u → h2.get? b = some u) → Q (.ref (s.heap.objs.size + 1)) { s with heap := h2 }) :
    wpAny (model prog w) A (call (.type "enumerate") [v]) Q E s := by
  refine callType_new F.called_enumerate (by decide) (F.typeCall_enumerate_1 _) (F.newCall_enumerate_1 _) (fun ob => F.args_object_init_2 ob _) F.entry_enumerate_new (meetsEnum1 B) ⟨c1, ?_⟩
  have sz : (s.heap.push o).objs.size = s.heap.objs.size + 1 := Heap.size_push ..
  show _ ∧ _
  rw [sz]
  have en : IsEnum ((s.heap.push o).push { cls := .type "enumerate", data := .fields #[.none, .bool false, .ref s.heap.objs.size, rawInt 0, .none, .none] }) (s.heap.objs.size + 1) s.heap.objs.size 0 .none := by
    have z := Heap.get?_push_size (s.heap.push o) (o := { cls := .type "enumerate", data := .fields #[.none, .bool false, .ref s.heap.objs.size, rawInt 0, .none, .none] }) rfl
    rw [sz] at z
    exact z
  refine ⟨⟨_, en, rfl⟩, hq _ en (Heap.get?_push_of_some _ (Heap.get?_push_size _ B.free)) (by rw [Heap.size_push, sz]) fun b u x => Heap.get?_push_of_some _ (Heap.get?_push_of_some _ x)⟩
end
/-- what is fed at each place, each in a new pair with its number -/
def ItE (go stop : Nat → Hp → Prop) (is : Nat → Hp → V → Prop) : It where
  go := go
  stop := stop
  yld := fun i H v H' => ∃ T x, v = .ref T ∧ H T = none ∧ is i H x ∧ H' = upd H T (.tup [.int (i : Nat), x])
/-- the iterator at `it` (its state at place i: st i) feeds the enumerate at e -/
structure Feed (P : Program) (w : World) (K : PySem.W.Frag) (e it : Addr) (st : Nat → Heap → Prop) (go stop : Nat → Hp → Prop) (is : Nat → Hp → V → Prop) : Prop where
  apart : e ≠ it
  lives : ∀ i h, st i h → ∃ o, h.get? it = some o ∧ ∀ v, o.data ≠ .cell v
  stays : ∀ i h g, st i h → (∀ o, h.get? it = some o → g.get? it = some o) → st i g
  more : ∀ X : Cx, X.prog = P → X.w = w → X.K = K → X.calm = true → ∀ i pins s σ H, Inv X pins σ H s → st i s.heap → go i H →
    ∃ n fp Y S, Draws P w X.A.in1 it fp n Y S ∧ i < n ∧ S i s.heap ∧ e ∉ fp ∧ (∀ h, S (i + 1) h → st (i + 1) h) ∧ ∀ v, Y i v → ∃ x, RelV x v ∧ is i H x
  ends : ∀ X : Cx, X.prog = P → X.w = w → X.K = K → X.calm = true → ∀ i pins s σ H, Inv X pins σ H s → st i s.heap → stop i H →
    ∃ fp Y S, Draws P w X.A.in1 it fp i Y S ∧ S i s.heap
theorem turnE {P : Program} {w : World} {K : PySem.W.Frag} {e it : Addr} {st : Nat → Heap → Prop} {go stop : Nat → Hp → Prop} {is : Nat → Hp → V → Prop} (F : Feed P w K e it st go stop is) {l : List Expr} {c : Nat} {q : Pos} :
    Turn P w K (.Tuple l c q) (ItE go stop is) [e, it] e (fun i h => (∃ last, IsEnum h e it ((i : Nat) : Int) last) ∧ st i h) where
  mem := by simp
  obj := by
    rintro i h ⟨⟨last, en⟩, b⟩ x hx
    have two : x = e ∨ x = it := by simpa using hx
    rcases two with rfl | rfl
    · exact ⟨_, en, fun _ z => nomatch z⟩
    · exact F.lives i h b
  keep := by
    rintro i h g ⟨⟨last, en⟩, b⟩ k
    exact ⟨⟨last, k e (by simp) _ en⟩, F.stays i h g b (k it (by simp))⟩
  item := by
    rintro X rfl rfl rfl calm i pins s σ H _ I fr ⟨⟨last, en⟩, b⟩ g
    obtain ⟨n, fp, Y, S, D, lt, at_, out, nxt, val⟩ := F.more X rfl rfl rfl calm i pins s σ H I b g
    refine wpAny_pyNext_enum_itemD D en at_ lt F.apart out fun u h1 tk hu eo at1 pair size old => ⟨_, rfl, ?_⟩
    obtain ⟨x, rx, ix⟩ := val u hu
    have inOld : ∀ {b : Addr} {o : Obj}, s.heap.get? b = some o → b ≠ s.heap.objs.size := fun q z => Nat.lt_irrefl _ (z ▸ Heap.lt_size q)
    have eOld := inOld en
    obtain ⟨oi, hi, _⟩ := F.lives i s.heap b
    have iOld := inOld hi
    refine wpAny_letOwnedTupleGo_enum (s := { s with heap := h1, toks := tk + 1 }) eo fun h2 en2 same => ?_
    have pair2 : h2.get? s.heap.objs.size = some { cls := .type "tuple", data := .seq #[.int i tk, u] } := (same.2 _ eOld.symm).trans pair
    have rest : ∀ b o, b ∉ [e, it] → s.heap.get? b = some o → h2.get? b = some o := fun b o nb q => by
      have hb : b ≠ e ∧ b ≠ it := by simpa using nb
      rw [same.2 b hb.1]
      exact old b o hb.1 hb.2 q
    have J := I.turnedNew (t' := tk + 1) (h' := h2) (ob := .tup [.int (i : Nat), x]) rest fr (Nat.le_refl s.heap.objs.size) ⟨(by decide : 2 ≤ sizeLine), [.int i tk, u], .cons ⟨tk, rfl⟩ (.cons rx .nil), _, pair2, rfl, _, rfl⟩
    refine ⟨.ref s.heap.objs.size, _, J, rfl, ⟨_, x, rfl, I.hok.fresh (Nat.le_refl _), ix, rfl⟩, ⟨⟨u, by push_cast; exact en2⟩, F.stays _ h1 h2 (nxt h1 at1) fun o q => (same.2 it F.apart.symm).trans q⟩, fun y hy => ?_⟩
    have two : y = e ∨ y = it := by simpa using hy
    have yo : y ≠ s.heap.objs.size := by rcases two with rfl | rfl <;> assumption
    rw [upd_ne yo]
    exact (fr y hy).1
  done := by
    rintro X rfl rfl rfl calm i pins s σ H _ I fr ⟨⟨last, en⟩, b⟩ g
    obtain ⟨fp, Y, S, D, at_⟩ := F.ends X rfl rfl rfl calm i pins s σ H I b g
    obtain ⟨u0, u1, _, u3, u4, u5⟩ := fr it (by simp)
    exact wpAny_pyNext_enum_endD D en at_ fun h1 same => ⟨rfl, I.turned (t' := s.toks) (fun b o nb q => same b o nb q) u0 u1 u3 u4 u5⟩
  self := fun _ _ _ _ _ z q => let ⟨⟨_, en⟩, _⟩ := z; wpAny_pyIter_enum en q
/-- for i, x in enumerate(..): n things are fed, Pv holds between the turns -/
theorem walkE {go stop : Nat → Hp → Prop} {is : Nat → Hp → V → Prop} {g : TG} {tb : TS} {D : Ends} {σ : L2.St} {H : Hp} (n : Nat) (Pv : Nat → L2.St → Hp → Prop) (first : Pv 0 σ H) (on : ∀ i σ H, i < n → Pv i σ H → go i H) (off : ∀ σ H, Pv n σ H → stop n H)
    (turn : ∀ i x T σ H, i < n → is i H x → Pv i σ H → H T = none → g (.ref T) σ (upd H T (.tup [.int (i : Nat), x])) fun σ2 H2 => tb { D with nx := Pv (i + 1), ct := Pv (i + 1), bk := D.nx } σ2 H2) (last : ∀ σ H, Pv n σ H → D.nx σ H) :
    tFor (fun _ H R => R (ItE go stop is) H) g tb D σ H := by
  refine ⟨fun i m σ H => i + m = n ∧ Pv i σ H, ⟨n, Nat.zero_add n, first⟩, fun i m σ H z => ?_⟩
  obtain ⟨e, p⟩ := z
  cases m with
  | zero =>
    have : i = n := e
    subst this
    exact .inl ⟨off σ H p, last σ H p⟩
  | succ m =>
    have lt : i < n := by omega
    refine .inr ⟨on i σ H lt p, Pv (i + 1), fun _ _ p2 => ⟨m, Nat.lt_succ_self m, by omega, p2⟩, fun v H2 y => ?_⟩
    obtain ⟨T, x, rfl, new, ix, rfl⟩ := y
    exact turn i x T σ H lt ix p new
/-! #### .. of a tuple -/
def goT (K : PySem.W.Frag) (a : Addr) : Nat → Hp → Prop := fun i H => ∃ (xs : List V) (x : V), SqT K H a xs ∧ xs[i]? = some x
def stopT (K : PySem.W.Frag) (a : Addr) : Nat → Hp → Prop := fun i H => ∃ xs : List V, SqT K H a xs ∧ xs.length ≤ i
def isT (K : PySem.W.Frag) (a : Addr) : Nat → Hp → V → Prop := fun i H x => ∀ xs, SqT K H a xs → xs[i]? = some x
theorem feedT {P : Program} {w : World} {K : PySem.W.Frag} {a e it : Addr} (n1 : e ≠ it) (n2 : a ≠ it) (n3 : a ≠ e) : Feed P w K e it (fun i h => h.IsTupleIter it a i) (goT K a) (stopT K a) (isT K a) where
  apart := n1
  lives := fun i h z => let ⟨o, ho, _, hd⟩ := z; ⟨o, ho, fun v q => by rw [hd] at q; cases q⟩
  stays := fun i h g z k => z.at k
  more := by
    rintro X rfl rfl rfl calm i pins s σ H I at_ ⟨xs, x, hq, hx⟩
    obtain ⟨us, rs, tup, _⟩ := I.tuple hq
    obtain ⟨u, hu, ru⟩ := rs.get hx
    have hu2 : us.toArray[i]? = some u := by simpa using hu
    refine ⟨_, _, _, _, Draws.tuple (A := X.A.in1) (I.ok.hd calm) it a n2 us.toArray, (Array.getElem?_eq_some_iff.mp hu2).1, ⟨at_, tup⟩, by simp [n1, n3.symm], fun h z => z.1, fun v hv => ⟨x, ?_, fun ys hy => ?_⟩⟩
    · rw [Option.some.inj (hv.symm.trans hu2)]
      exact ru
    · rw [I.tuple_inj hy hq]
      exact hx
  ends := by
    rintro X rfl rfl rfl calm i pins s σ H I at_ ⟨xs, hq, hx⟩
    obtain ⟨us, rs, tup, _⟩ := I.tuple hq
    have none_ : us.toArray[i]? = none := by
      rw [Array.getElem?_eq_none_iff, List.size_toArray, ← rs.length]
      exact hx
    exact ⟨[it, a], fun _ _ => False, fun j h => j = i ∧ h.IsTupleIter it a i ∧ h.IsTuple a us.toArray,
      { live := fun _ _ z => let ⟨o, ho, _⟩ := z.2.1; ⟨o, ho⟩
        frame := fun _ _ _ z k => ⟨z.1, z.2.1.at (k it (by simp)), z.2.2.at (k a (by simp))⟩
        item := fun j _ _ _ lt z _ => absurd z.1 (Nat.ne_of_lt lt)
        done := fun _ _ _ z q => wpAny_nextOf_tuple_end (A := X.A.in1) (I.ok.hd calm) z.2.1 z.2.2 none_ q }, rfl, at_, tup⟩
def iEnumT (K : PySem.W.Frag) (ta : TA) : TI := fun σ H R => ta σ H fun vs H1 => ∃ a xs, vs = [.ref a] ∧ SqT K H1 a xs ∧ R (ItE (goT K a) (stopT K a) (isT K a)) H1
theorem pi_enumT {X : Cx} {x : Expr} {ta : TA} {p pos q : Pos} {l : List Expr} {c : Nat} (hg : Gl X "enumerate") (hm : X.mg "enumerate" = none) (ha : PA X [x] ta)
    (hs : starEach [x] X.env = [(false, eval x X.env)] := by rfl) : PI X (.Tuple l c q) (.Call (.Name "enumerate" p) [x] [] pos) (iEnumT X.K ta) := ⟨fun pins s σ H R I h => by
  refine Call_ (ld_blt I hg hm boot_enumerate (PyProof.Rows.callWith_type1 (wpAny_mono (ha.run pos pins s σ H _ I h) (fun us s1 z => ?_) fun _ _ z => z) hs rfl))
  obtain ⟨vs, H1, I1, rs, a, xs, rfl, hq, r⟩ := z
  rw [Vals.ref1 rs]
  obtain ⟨us', _, tup, _⟩ := I1.tuple hq
  have al := tup.lt
  refine callEnum1 (begins_tuple a us'.toArray) tup fun h2 en fed size old => wpAny_pyIter_enum en ?_
  have new : ∀ b ∈ [s1.heap.objs.size + 1, s1.heap.objs.size], s1.heap.objs.size ≤ b := fun b hb => by
    have two : b = s1.heap.objs.size + 1 ∨ b = s1.heap.objs.size := by simpa using hb
    omega
  exact ⟨_, _, _, _, H1, rfl, I1.kept (h' := h2) (t' := s1.toks) old, turnE (feedT (a := a) (e := s1.heap.objs.size + 1) (it := s1.heap.objs.size) (Nat.succ_ne_self _) (Nat.ne_of_lt al) (Nat.ne_of_lt (Nat.lt_succ_of_lt al))), ⟨⟨.none, en⟩, ⟨_, fed, rfl, rfl⟩⟩, fun b hb => I1.fpOk (new b hb) (I1.hok.fresh (new b hb)), r⟩⟩
theorem walk_enumT {K : PySem.W.Frag} {a : Addr} {xs : List V} {g : TG} {tb : TS} {D : Ends} {σ : L2.St} {H : Hp} (Pv : Nat → L2.St → Hp → Prop) (h0 : Pv 0 σ H) (hq : ∀ i σ H, i ≤ xs.length → Pv i σ H → SqT K H a xs)
    (hs : ∀ i x T σ H, xs[i]? = some x → Pv i σ H → H T = none → g (.ref T) σ (upd H T (.tup [.int (i : Nat), x])) fun σ2 H2 => tb { D with nx := Pv (i + 1), ct := Pv (i + 1), bk := D.nx } σ2 H2) (hd : ∀ σ H, Pv xs.length σ H → D.nx σ H) :
    tFor (fun _ H R => R (ItE (goT K a) (stopT K a) (isT K a)) H) g tb D σ H :=
  walkE xs.length Pv h0 (fun i σ H lt p => ⟨xs, xs[i], hq i σ H (Nat.le_of_lt lt) p, List.getElem?_eq_getElem lt⟩) (fun σ H p => ⟨xs, hq _ σ H (Nat.le_refl _) p, Nat.le_refl _⟩)
    (fun i x T σ H lt ix p n => hs i x T σ H (ix xs (hq i σ H (Nat.le_of_lt lt) p)) p n) hd
/-! ### defs by their names -/
abbrev FnP (K : PySem.W.Frag) (x : Str) (st : Stmt) (f : Addr) (fd : FuncData) : Prop := FunD K x x (defArgs st) (defBody st) (defScope st) [] [] f fd
/-- the def st stands under its name x -/
structure Df (K : PySem.W.Frag) (mg : Str → Option Value) (x : Str) (st : Stmt) : Prop where
  ex : ∃ f fd, FnP K x st f fd ∧ mg x = some (.ref f)
/-- what is called by the name x keeps sp -/
structure Cl (P : Program) (w : World) (K : PySem.W.Frag) (mg : Str → Option Value) (base : Heap) (k : Nat) (x : Str) (st : Stmt) (ps : List Str) (sp : Sp) : Prop where
  ex : ∃ f fd, FnP K x st f fd ∧ FnOk P w K mg base CX0 k f fd ps sp ∧ mg x = some (.ref f) ∧ Binds K fd ps []
section
variable {P : Program} {w : World} {K : PySem.W.Frag} {mg : Str → Option Value} {base : Heap} {x : Str} {st : Stmt} {N ps ks : List Str} {k : Nat} {sp : Sp}
theorem Df.ok (D : Df K mg x st) (S : FnScope N ps (defScope st))
    (bd : ∀ (kV doc pm : Value) (an : Option Addr) (cdv ct : Value) (us : List Value), us.length = ps.length → bindArgs (PySem.W.fnOf x x (defArgs st) (defBody st) (defScope st) .none kV doc pm an cdv ct) ⟨us, []⟩ = pure (ps.zip us))
    (len : ∀ vs H Q E, sp vs H Q E → vs.length = ps.length)
    (body : ∀ (f : Addr) (cdv : Value) (A : Around) (outer : List Env) (s : Shared) (H : Hp) (vs : List V) (Q : VK) (E : XK), Room k (A.deeper (envOfC x (defScope st) s.heap.objs.size f cdv)) → sp vs H Q E →
      ∃ t, PSs (cxOf CX0 P w K mg base N x (defScope st) f cdv A outer s H E).nox (defBody st) t ∧ t { nx := fun _ H' => Q .non H', rt := Q } (start N vs) H) : Cl P w K mg base (k + 1) x st ps sp := by
  obtain ⟨f, fd, F, hm⟩ := D.ex
  refine ⟨f, fd, F, F.ok S len fun cdv A outer s H vs Q E hr h => ?_, hm, F.bindsN bd⟩
  obtain ⟨t, h1, h2⟩ := body f cdv A outer s H vs Q E hr h
  exact ⟨t, h1.nox, h2⟩
theorem Cl.imp {sp' : Sp} (c : Cl P w K mg base k x st ps sp) (h : ∀ vs H Q E, sp' vs H Q E → sp vs H Q E) : Cl P w K mg base k x st ps sp' := by
  obtain ⟨f, fd, F, G, hm, b⟩ := c.ex
  exact ⟨f, fd, F, G.imp h, hm, b⟩
end
section
variable {X : Cx} {x : Str} {st : Stmt} {ps ks : List Str} {j k : Nat} {sp : Sp} {e : Expr} {es : List Expr} {kws : List Keyword} {t tk : TA} {p pos : Pos}
/-- f(e, ..) -/
theorem pe_u (c : Cl X.prog X.w X.K X.mg X.base k x st ps sp) (hr : Room j X.A) (hk : k ≤ j) (hg : Gl X x) (ha : PA X (e :: es) t)
    (hdb : (x == ("__debug__" : Str)) = false := by decide) (he : starEach (e :: es) X.env = (false, eval e X.env) :: starEach es X.env := by rfl) (hpl : (backTo pos (starEach es X.env)).any (·.1) = false := by rfl) :
    PE X (.Call (.Name x p) (e :: es) [] pos) (tCall sp [] E0 t) := by
  obtain ⟨f, fd, F, G, hm, b⟩ := c.ex
  exact pe_call G (hr.mono hk) hg hm F.kp b .nil pass0 ha hdb he hpl
def tKw (n : Nat) (sp : Sp) (g : List V → List V) (tk : TA) : TE := fun σ H Q => tk σ H fun zs H2 => zs.length = n ∧ sp (g zs) H2 Q E0
/-- f(k = e, ..) -/
theorem pe_uk (g : {α : Type} → List α → List α) (c : Cl X.prog X.w X.K X.mg X.base k x st ps sp) (hr : Room j X.A) (hk : k ≤ j) (hg : Gl X x)
    (bd : ∀ (kV doc pm : Value) (an : Option Addr) (cdv ct : Value) (ws : List Value), ws.length = ks.length → bindArgs (PySem.W.fnOf x x (defArgs st) (defBody st) (defScope st) .none kV doc pm an cdv ct) ⟨[], ks.zip ws⟩ = pure (ps.zip (g ws)))
    (rel : ∀ {zs : List V} {ws : List Value}, Vals zs ws → Vals (g zs) (g ws)) (hkw : PK X kws tk)
    (hall : (backToKw pos (keywordEach kws X.env)).all (·.1.isSome) = true := by rfl) (hks : (backToKw pos (keywordEach kws X.env)).filterMap (·.1) = ks := by rfl)
    (hdb : (x == ("__debug__" : Str)) = false := by decide) (hpl : ((backTo pos (starEach [] X.env)).any (·.1) || (backToKw pos (keywordEach kws X.env)).any (·.1.isNone)) = false := by rfl) :
    PE X (.Call (.Name x p) [] kws pos) (tKw ks.length sp g tk) := by
  obtain ⟨f, fd, F, G, hm, b⟩ := c.ex
  have kb : KBn X.K fd ps 0 ks (fun _ ws => g ws) (fun _ zs => g zs) := by
    obtain ⟨oc, od, dV, kV, doc, pm, an, cdv, ct, osl, rfl, lk, hcd, hD, hK⟩ := F.ex
    rcases hD with ⟨_, rfl⟩ | ⟨z, _⟩
    · refine ⟨fun s us ws X1 l1 l2 => ?_, fun _ r => rel r⟩
      have e0 : us = [] := List.length_eq_zero_iff.mp l1
      subst e0
      exact .of_eq (bd kV doc pm an cdv ct ws l2)
    · exact absurd rfl z
  refine ⟨fun pins s σ H Q I h => ?_⟩
  refine wpAny_Call_Name_kw (ld_glob I hg hm ?_ hdb)
  refine PySem.W.callWith_KW0 (h₀ := X.base) I.ok.mod.kin F.kp hall (thn (hkw.run pos pins s σ H _ I h) fun ws s2 ⟨zs, H2, I2, rz, l2, q2⟩ => ⟨I2.kIn, ?_⟩) hpl
  rw [hks]
  exact run_fnN G (hr.mono hk) kb pass0 I2 .nil rz rfl l2 q2
end
def swap2 {α : Type} : List α → List α
  | [a, b] => [b, a]
  | l => l
theorem rel_swap2 {zs : List V} {ws : List Value} (r : Vals zs ws) : Vals (swap2 zs) (swap2 ws) := by
  cases r with
  | nil => exact .nil
  | cons a r =>
    cases r with
    | nil => exact .cons a .nil
    | cons b r =>
      cases r with
      | nil => exact .cons b (.cons a .nil)
      | cons c r => exact .cons a (.cons b (.cons c r))
/-! ### rules whose readings name K alone (for the elements of comprehensions) -/
abbrev rLenS (K : PySem.W.Frag) : List V → Hp → VK → Prop := fun xs H Q => ∃ p ys, xs = [.ref p] ∧ (SqL K H p ys ∨ SqT K H p ys) ∧ Q (.int ys.length) H
theorem call_lenS {X : Cx} : CallR X (.builtin "len") (rLenS X.K) := call_len_seq
/-! ### a text times a number -/
theorem op_mul_str {X : Cx} : OpR X (binaryOp .Mult) (fun x y H Q => ∃ (z : Str) (n : Int), x = .str z ∧ y = .int n ∧ 1 ≤ n ∧ n ≤ 1000 ∧ z.length ≤ 1000 ∧ Q (.str (Txt.mul z n)) H) := by
  intro pins s σ H x y v u Q I rx ry h
  obtain ⟨z, n, rfl, rfl, h1, h2, h3, q⟩ := h
  obtain ⟨t, rfl⟩ := rx
  obtain ⟨t', rfl⟩ := ry
  refine SB.mul ⟨?_, fun _ _ => ?_, fun _ _ => ?_⟩ fun t2 k2 => ⟨.str (Txt.mul z n), H, I.tok k2, ⟨t2, rfl⟩, q⟩
  · rw [Bool.or_eq_false_iff]
    exact ⟨decide_eq_false (by omega), decide_eq_false (by omega)⟩
  · have e : (1000 : Int) ≤ (2 ^ 63 - 1) / n := Int.le_ediv_of_mul_le (by omega) (by omega)
    omega
  · unfold PySem.Builtin.Str.tooLong
    have e : z.length * n.toNat ≤ 1000 * 1000 := Nat.mul_le_mul h3 (by omega)
    exact decide_eq_false (by rw [Nat.not_lt]; exact Nat.le_trans e (by decide))
/-! ### heaps, pools, rows -/
theorem same_upd {H : Hp} {p : Addr} {o : HO} (h : H p = none) : Same H (upd H p o) := fun b x e => by
  rw [upd_ne (ne_of_none e h)]
  exact e
/-- all but a is as it was -/
def Kp (a : Addr) (H H' : Hp) : Prop := ∀ b o, H b = some o → b ≠ a → H' b = some o
theorem Kp.refl (a : Addr) (H : Hp) : Kp a H H := fun _ _ e _ => e
theorem Kp.trans {a : Addr} {H H1 H2 : Hp} (x : Kp a H H1) (y : Kp a H1 H2) : Kp a H H2 := fun b o e ne => y b o (x b o e ne) ne
theorem Kp.of_same {a : Addr} {H H1 : Hp} (x : Same H H1) : Kp a H H1 := fun b o e _ => x b o e
theorem Kp.upd {a p : Addr} {H H1 : Hp} {o : HO} (x : Kp a H H1) (h : H p = none) : Kp a H (L2.upd H1 p o) := fun b u e ne => by
  rw [upd_ne (ne_of_none e h)]
  exact x b u e ne
theorem Kp.free {a p : Addr} {H H1 : Hp} (x : Kp a H H1) (h : H1 p = none) (ne : p ≠ a) : H p = none := by
  cases e : H p with
  | none => rfl
  | some o =>
    rw [x p o e ne] at h
    cases h
/-- the pool at a -/
def Pool (H : Hp) (a : Addr) : Prop := ∃ s d n : Int, H a = some (.lst [.int s, .int d, .int n]) ∧ 0 ≤ s ∧ s < 2147483399 ∧ 0 ≤ d
theorem Pool.of {H H' : Hp} {a : Addr} (p : Pool H a) (e : ∀ o, H a = some o → H' a = some o) : Pool H' a := by
  obtain ⟨s, d, n, h, r⟩ := p
  exact ⟨s, d, n, e _ h, r⟩
theorem Pool.ne {H : Hp} {a p : Addr} (x : Pool H a) (h : H p = none) : p ≠ a := fun e => by
  obtain ⟨s, d, n, g, _⟩ := x
  subst e
  rw [h] at g
  cases g
theorem Pool.upd {H : Hp} {a p : Addr} {o : HO} (x : Pool H a) (ne : a ≠ p) : Pool (L2.upd H p o) a := x.of fun u e => by
  rw [upd_ne ne]
  exact e
/-- a row of people -/
structure Row (ns : List Int) : Prop where
  pos : 1 ≤ ns.length
  most : ns.length ≤ 12
  nd : ns.Nodup
  rng : ∀ x ∈ ns, 1 ≤ x ∧ x ≤ 999
theorem small_div {i j : Int} (h1 : 0 < j) (h2 : j ≤ 1000000) : Builtin.divisionGoesByPylong i j = false := by
  have hj : j.natAbs.log2 ≤ 20 := by
    have : j.natAbs < 2 ^ 21 := by omega
    have h3 := (Nat.log2_lt (by omega)).mpr this
    omega
  have h0 : ¬ (j == 0) = true := by simpa using (show j ≠ 0 by omega)
  show (decide ((if j == 0 then 0 else j.natAbs.log2 / 30 + 1) > 300) && _) = false
  rw [if_neg h0]
  have h4 : ¬ (j.natAbs.log2 / 30 + 1 > 300) := by omega
  rw [decide_eq_false h4]
  rfl
/-! ### ranges as lists of ints -/
def rg (a b : Int) : List Int := (List.range (b - a).toNat).map fun i => a + (i : Nat)
theorem rgV_rg (a b : Int) : rgV a b = (rg a b).map V.int := by
  unfold rgV rg
  rw [List.map_map]
  rfl
theorem rg_len (a b : Int) : (rg a b).length = (b - a).toNat := by
  unfold rg
  rw [List.length_map, List.length_range]
theorem rg_mem {a b x : Int} (h : x ∈ rg a b) : a ≤ x ∧ x < b := by
  unfold rg at h
  obtain ⟨i, hi, rfl⟩ := List.mem_map.mp h
  have := List.mem_range.mp hi
  omega
theorem nodup_map_inj {α β : Type} {f : α → β} (hf : ∀ x y, f x = f y → x = y) : ∀ {l : List α}, l.Nodup → (l.map f).Nodup
  | [], _ => List.nodup_nil
  | a :: l, h => by
    rw [List.map_cons, List.nodup_cons]
    rw [List.nodup_cons] at h
    refine ⟨fun hm => ?_, nodup_map_inj hf h.2⟩
    obtain ⟨y, hy, e⟩ := List.mem_map.mp hm
    rw [hf y a e] at hy
    exact h.1 hy
theorem rg_nodup (a b : Int) : (rg a b).Nodup := nodup_map_inj (fun x y e => by omega) List.nodup_range
theorem erase_perm : ∀ (l : List Int) (k : Nat) (h : k < l.length), (l[k] :: l.eraseIdx k).Perm l
  | a :: l, 0, _ => .refl _
  | a :: l, k + 1, h => by
    show (l[k]'(Nat.lt_of_succ_lt_succ h) :: a :: l.eraseIdx k).Perm (a :: l)
    exact (List.Perm.swap ..).trans (.cons a (erase_perm l k (Nat.lt_of_succ_lt_succ h)))
theorem eraseI : ∀ {l : List Int} {k : Nat}, (l.map V.int).eraseIdx k = (l.eraseIdx k).map V.int
  | [], _ => rfl
  | _ :: _, 0 => rfl
  | a :: l, k + 1 => by
    show V.int a :: (l.map V.int).eraseIdx k = V.int a :: (l.eraseIdx k).map V.int
    rw [eraseI]
/-- one is taken out of the left ones -/
theorem take_perm {taken left : List Int} {k : Nat} (h : k < left.length) : ((taken ++ [left[k]]) ++ left.eraseIdx k).Perm (taken ++ left) := by
  rw [List.append_assoc]
  exact (erase_perm left k h).append_left taken
theorem getI {l : List Int} {k : Nat} (h : k < l.length) : (l.map V.int)[k]? = some (.int l[k]) := by
  rw [List.getElem?_map, List.getElem?_eq_getElem h]
  rfl
theorem len_lt {n : Nat} (h : n ≤ 100000) : n < sizeLine := Nat.lt_of_le_of_lt h (by decide)
theorem seqIx {i : Int} {n : Nat} (h0 : 0 ≤ i) (h1 : i < n) : seqIndex? i n = some i.toNat := PySem.seqIndex_of h0 h1
/-! ### enumerate of a text -/
def goS (z : Str) : Nat → Hp → Prop := fun i _ => i < z.cps.size
def stopS (z : Str) : Nat → Hp → Prop := fun i _ => z.cps.size ≤ i
def isS (z : Str) : Nat → Hp → V → Prop := fun i _ x => ∃ c, z.cps[i]? = some c ∧ x = .str ⟨#[c]⟩
theorem feedS {P : Program} {w : World} {K : PySem.W.Frag} {z : Str} {t : Tok} {e it : Addr} (ne : e ≠ it) : Feed P w K e it (fun i h => h.IsStrIter it (strIterType z) z t i) (goS z) (stopS z) (isS z) where
  apart := ne
  lives := fun i h y => let ⟨o, ho, _, hd⟩ := y; ⟨o, ho, fun v q => by rw [hd] at q; cases q⟩
  stays := fun i h g y k => let ⟨o, ho, r⟩ := y; ⟨o, k o ho, r⟩
  more := by
    rintro X rfl rfl rfl calm i pins s σ H I at_ lt
    exact ⟨_, _, _, _, Draws.text (A := X.A.in1) (I.ok.hd calm) it z t, lt, at_, by simp [ne], fun h y => y, fun v ⟨c, u, hc, ev⟩ => ⟨.str ⟨#[c]⟩, ⟨u, ev⟩, c, hc, rfl⟩⟩
  ends := by
    rintro X rfl rfl rfl calm i pins s σ H I at_ le
    have none_ : z.cps[i]? = none := Array.getElem?_eq_none_iff.mpr le
    exact ⟨[it], fun _ _ => False, fun j h => j = i ∧ h.IsStrIter it (strIterType z) z t i,
      { live := fun _ _ y => let ⟨o, ho, _⟩ := y.2; ⟨o, ho⟩
        frame := fun _ _ _ y k => ⟨y.1, let ⟨o, ho, r⟩ := y.2; ⟨o, k it (by simp) o ho, r⟩⟩
        item := fun j _ _ _ lt y _ => absurd y.1 (Nat.ne_of_lt lt)
        done := fun _ _ _ y q => by
          have it2 := y.2
          unfold strIterType at it2
          split at it2
          · exact wpAny_nextOf_ascii_end (A := X.A.in1) (I.ok.hd calm) it2 none_ q
          · exact wpAny_nextOf_wide_end (A := X.A.in1) (I.ok.hd calm) it2 none_ q }, rfl, at_⟩
def iEnumS (ta : TA) : TI := fun σ H R => ta σ H fun vs H1 => ∃ z, vs = [.str z] ∧ R (ItE (goS z) (stopS z) (isS z)) H1
theorem pi_enumS {X : Cx} {x : Expr} {ta : TA} {p pos q : Pos} {l : List Expr} {c : Nat} (hg : Gl X "enumerate") (hm : X.mg "enumerate" = none) (ha : PA X [x] ta)
    (hs : starEach [x] X.env = [(false, eval x X.env)] := by rfl) : PI X (.Tuple l c q) (.Call (.Name "enumerate" p) [x] [] pos) (iEnumS ta) := ⟨fun pins s σ H R I h => by
  refine Call_ (ld_blt I hg hm boot_enumerate (PyProof.Rows.callWith_type1 (wpAny_mono (ha.run pos pins s σ H _ I h) (fun us s1 y => ?_) fun _ _ y => y) hs rfl))
  obtain ⟨vs, H1, I1, rs, z, rfl, r⟩ := y
  obtain ⟨t, rfl⟩ : ∃ t, us = [.str z t] := by
    match us, rs with
    | [_], .cons ⟨t, rfl⟩ .nil => exact ⟨t, rfl⟩
  refine callEnum1 (begins_text z t) trivial fun h2 en fed size old => wpAny_pyIter_enum en ?_
  have new : ∀ b ∈ [s1.heap.objs.size + 1, s1.heap.objs.size], s1.heap.objs.size ≤ b := fun b hb => by
    have two : b = s1.heap.objs.size + 1 ∨ b = s1.heap.objs.size := by simpa using hb
    omega
  exact ⟨_, _, _, _, H1, rfl, I1.kept (h' := h2) (t' := s1.toks) old, turnE (feedS (z := z) (t := t) (e := s1.heap.objs.size + 1) (it := s1.heap.objs.size) (Nat.succ_ne_self _)), ⟨⟨.none, en⟩, ⟨_, fed, rfl, rfl⟩⟩, fun b hb => I1.fpOk (new b hb) (I1.hok.fresh (new b hb)), r⟩⟩
theorem walk_enumS {z : Str} {g : TG} {tb : TS} {D : Ends} {σ : L2.St} {H : Hp} (Pv : Nat → L2.St → Hp → Prop) (h0 : Pv 0 σ H)
    (hs : ∀ i c T σ H, z.cps[i]? = some c → Pv i σ H → H T = none → g (.ref T) σ (upd H T (.tup [.int (i : Nat), .str ⟨#[c]⟩])) fun σ2 H2 => tb { D with nx := Pv (i + 1), ct := Pv (i + 1), bk := D.nx } σ2 H2) (hd : ∀ σ H, Pv z.cps.size σ H → D.nx σ H) :
    tFor (fun _ H R => R (ItE (goS z) (stopS z) (isS z)) H) g tb D σ H :=
  walkE z.cps.size Pv h0 (fun i σ H lt _ => lt) (fun σ H _ => Nat.le_refl _) (fun i x T σ H _ ix p n => by
    obtain ⟨c, hc, rfl⟩ := ix
    exact hs i c T σ H hc p n) hd
/-! ### kinds of values -/
def Tys : List String := ["NoneType", "int", "bool", "str", "list", "tuple", "dict"]
/-- v is of the built-in type T -/
structure Tv (K : PySem.W.Frag) (H : Hp) (v : V) (T : String) : Prop where
  ty : TyX K H v (.type T)
  mem : T ∈ Tys
theorem Tv.same {K : PySem.W.Frag} {H H' : Hp} {v : V} {T : String} (t : Tv K H v T) (e : Same H H') : Tv K H' v T := by
  refine ⟨?_, t.mem⟩
  cases t.ty with
  | base b =>
    cases b with
    | non => exact .base .non
    | bl x => exact .base (.bl x)
    | int i => exact .base (.int i)
    | str x => exact .base (.str x)
    | flt x => exact .base (.flt x)
    | lst h => exact .base (.lst (e _ _ h))
    | frz h => exact .base (.frz (e _ _ h))
    | tup h => exact .base (.tup (e _ _ h))
    | dK h => exact .base (.dK (e _ _ h))
    | dT h => exact .base (.dT (e _ _ h))
  | byt b => exact .byt b
  | set h => exact .set (e _ _ h)
  | kList h c => exact .kList h c
  | kTuple h c => exact .kTuple h c
  | kDict h c => exact .kDict h c
  | fTuple h => exact .fTuple (e _ _ h)
  | fDict h => exact .fDict (e _ _ h)
theorem Tv.int {K : PySem.W.Frag} {H : Hp} (i : Int) : Tv K H (.int i) "int" := ⟨.base (.int i), by decide⟩
theorem Tv.int_of {K : PySem.W.Frag} {H : Hp} {v : V} (t : Tv K H v "int") : ∃ i, v = .int i := by
  generalize hT : Value.type "int" = u at *
  have ty := t.ty
  rw [hT] at ty
  cases ty with
  | base b =>
    cases b with
    | int i => exact ⟨i, rfl⟩
    | _ => first | exact absurd (Value.type.inj hT) (by decide) | exact nomatch hT
  | _ => exact absurd (Value.type.inj hT) (by decide)
theorem Tv.of_int {K : PySem.W.Frag} {H : Hp} {i : Int} {T : String} (t : Tv K H (.int i) T) : T = "int" := by
  cases t.ty with
  | base b =>
    cases b with
    | int i => rfl
theorem SqT.same {K : PySem.W.Frag} {H H' : Hp} {a : Addr} {xs : List V} (e : Same H H') (h : SqT K H a xs) : SqT K H' a xs := by
  rcases h with (h | ⟨o, h⟩) | h
  · exact .inl (.inl (e _ _ h))
  · exact .inl (.inr ⟨o, e _ _ h⟩)
  · exact .inr h
theorem Tv.tup {K : PySem.W.Frag} {H : Hp} {a : Addr} {xs : List V} (h : SqT K H a xs) : Tv K H (.ref a) "tuple" := by
  refine ⟨?_, by decide⟩
  rcases h with (h | ⟨o, h⟩) | ⟨o, its, n, h, c, _⟩
  · exact .base (.tup h)
  · exact .fTuple h
  · exact .kTuple h c
theorem kit_int {K : PySem.W.Frag} {T : String} (h : T ∈ Tys) : PySem.W.kitOne K (.type T) (.type "int") = some (decide (T = "int") || decide (T = "bool")) := by
  have hs : ∀ S ∈ Tys, kitB S "int" = some (decide (S = "int") || decide (S = "bool")) := by decide +kernel
  exact kit_ty (hs T h)
theorem kit_bool {K : PySem.W.Frag} {T : String} (h : T ∈ Tys) : PySem.W.kitOne K (.type T) (.type "bool") = some (decide (T = "bool")) := by
  have hs : ∀ S ∈ Tys, kitB S "bool" = some (decide (S = "bool")) := by decide +kernel
  exact kit_ty (hs T h)
theorem kit_tuple {K : PySem.W.Frag} {T : String} (h : T ∈ Tys) : PySem.W.kitOne K (.type T) (.type "tuple") = some (decide (T = "tuple")) := by
  have hs : ∀ S ∈ Tys, kitB S "tuple" = some (decide (S = "tuple")) := by decide +kernel
  exact kit_ty (hs T h)
theorem kit_str {K : PySem.W.Frag} {T : String} (h : T ∈ Tys) : PySem.W.kitOne K (.type T) (.type "str") = some (decide (T = "str")) := by
  have hs : ∀ S ∈ Tys, kitB S "str" = some (decide (S = "str")) := by decide +kernel
  exact kit_ty (hs T h)
def heightB : V → Bool
  | .int i => decide (1 ≤ i) && decide (i ≤ 999)
  | _ => false
/-- the i-th is a height that stands not earlier -/
def okAt (xs : List V) (i : Nat) : Bool := match xs[i]? with
  | some x => heightB x && !inV x (xs.take i)
  | none => true
theorem heightB_int {x : V} (h : heightB x = true) : ∃ i, x = .int i ∧ 1 ≤ i ∧ i ≤ 999 := by
  cases x with
  | int i =>
    have h2 : (decide (1 ≤ i) && decide (i ≤ 999)) = true := h
    rw [Bool.and_eq_true] at h2
    exact ⟨i, rfl, of_decide_eq_true h2.1, of_decide_eq_true h2.2⟩
  | _ => cases h
theorem flat_of_ok {xs : List V} {i : Nat} (hi : i ≤ xs.length) (h : ∀ j < i, okAt xs j = true) : (xs.take i).all flatV = true := by
  rw [List.all_eq_true]
  intro x hx
  obtain ⟨j, hj, e⟩ := List.mem_take_iff_getElem.mp hx
  have hj2 : j < i := by omega
  have o := h j hj2
  unfold okAt at o
  rw [List.getElem?_eq_getElem (by omega)] at o
  have o2 := (Bool.and_eq_true_iff.mp o).1
  rw [e] at o2
  obtain ⟨n, rfl, _⟩ := heightB_int o2
  rfl
theorem inV_ints {n : Int} {ms : List Int} : inV (.int n) (ms.map V.int) = decide (n ∈ ms) := by
  unfold inV
  rw [List.any_map]
  by_cases h : n ∈ ms
  · rw [decide_eq_true h, List.any_eq_true]
    exact ⟨n, h, by show (n == n) = true; exact beq_self_eq_true n⟩
  · rw [decide_eq_false h, List.any_eq_false]
    intro x hx e
    have e2 : (x == n) = true := e
    rw [eq_of_beq e2] at hx
    exact h hx
theorem Row.ok {ns : List Int} (r : Row ns) (i : Nat) : okAt (ns.map V.int) i = true := by
  unfold okAt
  by_cases h : i < ns.length
  · rw [getI h]
    show (heightB (.int ns[i]) && !inV (.int ns[i]) ((ns.map V.int).take i)) = true
    have g := r.rng ns[i] (List.getElem_mem h)
    have e1 : heightB (.int ns[i]) = true := by
      show (decide (1 ≤ ns[i]) && decide (ns[i] ≤ 999)) = true
      rw [decide_eq_true g.1, decide_eq_true g.2]
      rfl
    rw [e1, ← List.map_take, inV_ints]
    have hn : ns[i] ∉ ns.take i := fun hm => by
      obtain ⟨j, hj, e⟩ := List.mem_take_iff_getElem.mp hm
      have := (List.getElem_inj r.nd).mp e
      omega
    rw [decide_eq_false hn]
    rfl
  · rw [List.getElem?_eq_none_iff.mpr (by rw [List.length_map]; omega)]
end Lp
namespace Lp
open PySem PySem.Spec PyProof.Rows L2
/-! ### the mathematics of passes -/
def code : Bool → Nat
  | true => 84
  | false => 83
/-- the text of a word -/
def wd (bs : List Bool) : Str := ⟨(bs.map code).toArray⟩
abbrev ltr (b : Bool) : Str := ⟨#[code b]⟩
theorem ltrT : Str.ofString "T" = ltr true := by decide +kernel
theorem ltrS : Str.ofString "S" = ltr false := by decide +kernel
theorem ltr_inj {a b : Bool} (h : ltr a = ltr b) : a = b := by
  cases a <;> cases b <;> first | rfl | exact absurd h (by decide +kernel)
theorem wd_len (bs : List Bool) : (wd bs).length = bs.length := by
  show (bs.map code).toArray.size = _
  rw [List.size_toArray, List.length_map]
theorem wd_get {bs : List Bool} {i c : Nat} (h : (wd bs).cps[i]? = some c) : ∃ b, bs[i]? = some b ∧ c = code b := by
  have h2 : (bs.map code)[i]? = some c := by
    rw [← List.getElem?_toArray]
    exact h
  rw [List.getElem?_map] at h2
  obtain ⟨b, e1, e2⟩ := Option.map_eq_some_iff.mp h2
  exact ⟨b, e1, e2.symm⟩
theorem wd_app (a b : List Bool) : wd a ++ wd b = wd (a ++ b) := by
  show (⟨(a.map code).toArray ++ (b.map code).toArray⟩ : Str) = ⟨((a ++ b).map code).toArray⟩
  rw [List.map_append, List.append_toArray]
def takes (b : Bool) (p s : Int) : Bool := if b then decide (s < p) else decide (p < s)
def stepW (b : Bool) (st : List Int × List Int × Int) (p : Int) : List Int × List Int × Int :=
  if takes b p st.2.2 = true then (st.1 ++ [st.2.2], st.2.1 ++ [st.2.2], p) else (st.1 ++ [p], st.2.1, st.2.2)
def runW (b : Bool) (x : Int) (xs : List Int) : List Int × List Int × Int := xs.foldl (stepW b) ([], [], x)
def passL (b : Bool) : List Int → List Int
  | [] => []
  | x :: xs => (runW b x xs).1 ++ [(runW b x xs).2.2]
def seatL (b : Bool) : List Int → List Int
  | [] => []
  | x :: xs => (runW b x xs).2.1 ++ [(runW b x xs).2.2]
def afterL (bs : List Bool) (ns : List Int) : List Int := bs.foldl (fun acc b => passL b acc) ns
theorem runW_perm (b : Bool) : ∀ (xs l s : List Int) (x : Int), ((xs.foldl (stepW b) (l, s, x)).1 ++ [(xs.foldl (stepW b) (l, s, x)).2.2]).Perm (l ++ x :: xs)
  | [], l, s, x => .refl _
  | p :: xs, l, s, x => by
    rw [List.foldl_cons, show stepW b (l, s, x) p = (if takes b p x = true then (l ++ [x], s ++ [x], p) else (l ++ [p], s, x)) from rfl]
    split
    · refine (runW_perm b xs _ _ _).trans ?_
      rw [List.append_assoc]
      exact .refl _
    · refine (runW_perm b xs _ _ _).trans ?_
      rw [List.append_assoc]
      exact (List.Perm.swap x p xs).append_left l
theorem passL_perm (b : Bool) : ∀ ns : List Int, (passL b ns).Perm ns
  | [] => .refl _
  | x :: xs => runW_perm b xs [] [] x
theorem Row.perm {ns ms : List Int} (r : Row ns) (h : ms.Perm ns) : Row ms :=
  ⟨by rw [h.length_eq]; exact r.pos, by rw [h.length_eq]; exact r.most, h.nodup_iff.mpr r.nd, fun x hx => r.rng x (h.mem_iff.mp hx)⟩
theorem Row.pass {ns : List Int} (r : Row ns) (b : Bool) : Row (passL b ns) := r.perm (passL_perm b ns)
theorem afterL_perm : ∀ (bs : List Bool) (ns : List Int), (afterL bs ns).Perm ns
  | [], ns => .refl _
  | b :: bs, ns => (afterL_perm bs (passL b ns)).trans (passL_perm b ns)
theorem Row.after {ns : List Int} (r : Row ns) (bs : List Bool) : Row (afterL bs ns) := r.perm (afterL_perm bs ns)
theorem afterL_app (a b : List Bool) (ns : List Int) : afterL (a ++ b) ns = afterL b (afterL a ns) := List.foldl_append ..
theorem afterL_take {bs : List Bool} {i : Nat} {b : Bool} (h : bs[i]? = some b) (ns : List Int) : afterL (bs.take (i + 1)) ns = passL b (afterL (bs.take i) ns) := by
  rw [List.take_add_one, h, afterL_app]
  rfl
theorem seatL_ne {b : Bool} {ns : List Int} (h : ns ≠ []) : seatL b ns ≠ [] := by
  cases ns with
  | nil => exact absurd rfl h
  | cons x xs =>
    unfold seatL
    simp
theorem runW_len (b : Bool) : ∀ (xs l s : List Int) (x : Int), (xs.foldl (stepW b) (l, s, x)).1.length = l.length + xs.length ∧ (xs.foldl (stepW b) (l, s, x)).2.1.length ≤ s.length + xs.length
  | [], l, s, x => ⟨rfl, Nat.le_refl _⟩
  | p :: xs, l, s, x => by
    rw [List.foldl_cons, show stepW b (l, s, x) p = (if takes b p x = true then (l ++ [x], s ++ [x], p) else (l ++ [p], s, x)) from rfl]
    split
    · have := runW_len b xs (l ++ [x]) (s ++ [x]) p
      simp only [List.length_append, List.length_cons, List.length_nil] at this ⊢
      omega
    · have := runW_len b xs (l ++ [p]) s x
      simp only [List.length_append, List.length_cons, List.length_nil] at this ⊢
      omega
theorem fold_take {α β : Type} {f : α → β → α} {xs : List β} {i : Nat} {x : β} {z : α} (h : xs[i]? = some x) : (xs.take (i + 1)).foldl f z = f ((xs.take i).foldl f z) x := by
  rw [List.take_add_one, h, List.foldl_append]
  rfl
theorem cut1 {x : V} {xs : List V} : cutV (x :: xs) (some 1) none = xs := by
  unfold cutV
  rw [show HT.sIx (x :: xs).length 0 (some 1) = min 1 (x :: xs).length from HT.sIx_nat (x :: xs).length 0 1, HT.sIx_none, List.length_cons, Nat.min_eq_left (by omega)]
  show (xs.take (xs.length + 1 - 1)) = xs
  rw [Nat.add_sub_cancel]
  exact List.take_length
def kindB (z : Str) : Bool := decide (z = ltr false) || decide (z = ltr true)
theorem kindB_ltr (b : Bool) : kindB (ltr b) = true := by cases b <;> decide +kernel
theorem inV_kinds (z : Str) : inV (.str z) [.str (ltr false), .str (ltr true)] = kindB z := by
  show ((ltr false == z) || ((ltr true == z) || false)) = kindB z
  unfold kindB
  rw [Bool.or_false]
  have h : ∀ a : Str, (a == z) = decide (z = a) := fun a => by
    by_cases e : z = a
    · subst e
      rw [decide_eq_true rfl, beq_self_eq_true]
    · rw [decide_eq_false e]
      exact beq_eq_false_iff_ne.mpr (Ne.symm e)
  rw [h, h]
theorem nw1 {n : Nat} (h : 1 ≤ n) : HT.sIx n 0 (some 1) ≠ 0 := by
  rw [show HT.sIx n 0 (some 1) = min 1 n from HT.sIx_nat n 0 1]
  omega
theorem cutS_take (bs : List Bool) (k : Nat) : cutS (wd bs) none (some (k : Nat)) = wd (bs.take k) := by
  unfold cutS
  rw [HT.sIx_none, HT.sIx_nat, wd_len]
  show (⟨((bs.map code).take (min k bs.length - 0)).toArray⟩ : Str) = ⟨((bs.take k).map code).toArray⟩
  rw [Nat.sub_zero, List.map_take]
  congr 2
  by_cases h : k ≤ bs.length
  · rw [Nat.min_eq_left h]
  · rw [Nat.min_eq_right (by omega), List.take_of_length_le (by rw [List.length_map]; omega), List.take_of_length_le (by rw [List.length_map]; omega)]
theorem foldl_single (c : Nat) : ∀ (n : Nat) (acc : Array Nat), (List.replicate n #[c]).foldl (· ++ ·) acc = acc ++ (List.replicate n c).toArray
  | 0, acc => by simp
  | n + 1, acc => by
    rw [List.replicate_succ, List.foldl_cons, foldl_single c n, List.replicate_succ]
    apply Array.ext'
    simp
theorem mul_ltr (b : Bool) (n : Nat) : Txt.mul (ltr b) ((n + 1 : Nat) : Int) = wd (List.replicate (n + 1) b) := by
  unfold Txt.mul
  rw [if_neg (by omega)]
  have e2 : wd (List.replicate (n + 1) b) = ⟨(List.replicate (n + 1) (code b)).toArray⟩ := by
    unfold wd
    rw [List.map_replicate]
  rw [e2]
  split
  · rename_i h
    rcases Bool.or_eq_true_iff.mp h with z | z
    · have := eq_of_beq z
      have hn : n = 0 := by omega
      subst hn
      rfl
    · have : (1 == 0) = true := z
      cases this
  · rw [Int.toNat_natCast]
    congr 1
    rw [foldl_single]
    simp
theorem Dp_ints {K : PySem.W.Frag} {H : Hp} : ∀ ns : List Int, DpAll K H (ns.map V.int) (ns.map PyData.int)
  | [] => .nil
  | n :: ns => .cons (.int n) (Dp_ints ns)
theorem Dp_row {K : PySem.W.Frag} {H : Hp} {a : Addr} {ns : List Int} (h : SqT K H a (ns.map V.int)) : Dp K H (.ref a) (.tuple (ns.map PyData.int)) := .tup h (Dp_ints ns)
theorem Dp_list {K : PySem.W.Frag} {H : Hp} {a : Addr} {ns : List Int} (h : SqL K H a (ns.map V.int)) : Dp K H (.ref a) (.list (ns.map PyData.int)) := .lst h (Dp_ints ns)
theorem lay_ints : ∀ ns : List Int, PyData.canLayAll0 (ns.map PyData.int) = true
  | [] => by simp only [List.map_nil, PyData.canLayAll0]
  | n :: ns => by simp only [List.map_cons, PyData.canLayAll0, PyData.canLay0, Bool.true_and, lay_ints ns]
theorem depth_ints : ∀ ns : List Int, PyData.depthAll (ns.map PyData.int) = 0
  | [] => by simp only [List.map_nil, PyData.depthAll]
  | n :: ns => by simp only [List.map_cons, PyData.depthAll, PyData.depth, depth_ints ns, Nat.max_self]
theorem lay_row (ns : List Int) : (PyData.tuple (ns.map PyData.int)).canLay0 = true := by simp only [PyData.canLay0, lay_ints]
theorem shaped_row (ns : List Int) : SeqAt.shaped (.tuple (ns.map PyData.int)) = true := by
  unfold SeqAt.shaped
  simp only [PyData.canLay0, PyData.depth, lay_ints, depth_ints]
  decide
theorem lay_list (ns : List Int) : (PyData.list (ns.map PyData.int)).canLay0 = true := by simp only [PyData.canLay0, lay_ints]
theorem shaped_list (ns : List Int) : SeqAt.shaped (.list (ns.map PyData.int)) = true := by
  unfold SeqAt.shaped
  simp only [PyData.canLay0, PyData.depth, lay_ints, depth_ints]
  decide
theorem eqv_row (ns : List Int) : PyData.eqv (.tuple (ns.map PyData.int)) (.tuple (ns.map PyData.int)) = true := SeqAt.eqv_refl _ (lay_row ns)
theorem eqv_list (ns : List Int) : PyData.eqv (.list (ns.map PyData.int)) (.list (ns.map PyData.int)) = true := SeqAt.eqv_refl _ (lay_list ns)
theorem all_true (n : Nat) : (List.replicate n true).all id = true := by
  rw [List.all_eq_true]
  intro x hx
  rw [(List.mem_replicate.mp hx).2]
  rfl
end Lp
namespace Lp
open PySem PySem.Spec PyProof.Rows L2
/-! ### the head's facts -/
def mkD (x : Str) (st : Stmt) : He.DefD := ⟨(x, none), x, x, defArgs st, defBody st, defScope st, [], []⟩
def obL (n : Nat) (fa : List He.Fa) (fn : List He.DefD) (ex : PySem.W.Frag → Bool) (g : Addr → Option Obj) : He.AlD × Bool := (He.obsDG n fa fn g, ex (He.frG g (He.asD g n)))
def hookL (n : Nat) (fa : List He.Fa) (fn : List He.DefD) (ex : PySem.W.Frag → Bool) : PySem.W.Hook where
  α := He.AlD × Bool
  obs := fun s => obL n fa fn ex s.heap.get?
  val := fun _ => (He.valD fn, true)
  says := fun _ h => ∃ K : PySem.W.Frag, K.In h ∧ He.SaysD fa fn K ∧ ex K = true
  of := fun _ s e => ⟨He.frG s.heap.get? (He.asD s.heap.get? n), He.frG_in, congrArg (fun z : He.AlD × Bool => z.1) e, congrArg (fun z : He.AlD × Bool => z.2) e⟩
  keeps := fun _ _ _ ⟨K, hK, c, x⟩ k => ⟨K, PySem.W.Frag.In.keeps hK k, c, x⟩
theorem obL_eq {n : Nat} {fa : List He.Fa} {fn : List He.DefD} {ex : PySem.W.Frag → Bool} {g : Addr → Option Obj} {s : Shared} (h : ∀ a, g a = s.heap.get? a) : obL n fa fn ex g = (hookL n fa fn ex).obs s := by
  have e : g = s.heap.get? := funext h
  rw [e]
  rfl
section
variable {P : Program} {w : World} {K : PySem.W.Frag} {mg : Str → Option Value} {h : Heap} {fa : List He.Fa} {fn : List He.DefD} {x : Str} {st : Stmt} {ps : List Str} {sp : Sp} {k : Nat} {f : Addr}
theorem Df.of (X : K.In h) (G : h.Ns mainGlobals mg) (c : He.SaysD fa fn K) (i : Nat) (hi : fn[i]? = some (mkD x st)) (hj : fa[i]? = some (.glo x)) : Df K mg x st := by
  obtain ⟨fd, F⟩ := c.def_ i hi
  exact ⟨_, fd, F, He.glo_ok X G (c.fact i hj)⟩
theorem Cl.last (D : Df K mg x st) (hf : mg x = some (.ref f)) (c : ∀ base, Cl P w K mg base k x st ps sp) : ∃ fd, FnP K x st f fd ∧ ∀ base, FnOk P w K mg base CX0 k f fd ps sp := by
  obtain ⟨f0, fd0, F0, m0⟩ := D.ex
  have e0 : f0 = f := Value.ref.inj (Option.some.inj (m0.symm.trans hf))
  subst e0
  refine ⟨fd0, F0, fun base => ?_⟩
  obtain ⟨f1, fd1, F1, G1, m1, _⟩ := (c base).ex
  have e1 : f1 = f0 := Value.ref.inj (Option.some.inj (m1.symm.trans hf))
  subst e1
  obtain ⟨_, _, _, _, _, _, _, _, _, _, _, l0, _⟩ := F0.ex
  obtain ⟨_, _, _, _, _, _, _, _, _, _, _, l1, _⟩ := F1.ex
  have e2 := l0.symm.trans l1
  simp only [Option.some.injEq, Obj.mk.injEq, Data.func.injEq] at e2
  rw [e2.2.2.1]
  exact G1
end
/-- a written tuple whose object has no dict -/
def tupN (K : PySem.W.Frag) (x : Str) : Bool := match K.lookup (He.ga K x) with
  | some o => decide (o.cls = .type "tuple") && o.dict.isNone
  | none => false
theorem tupN_ok {K : PySem.W.Frag} {x : Str} (h : tupN K x = true) : ∃ o, K.lookup (He.ga K x) = some o ∧ o.cls = .type "tuple" ∧ o.dict = none := by
  unfold tupN at h
  cases e : K.lookup (He.ga K x) with
  | none => rw [e] at h; cases h
  | some o =>
    rw [e] at h
    have h2 : (decide (o.cls = .type "tuple") && o.dict.isNone) = true := h
    rw [Bool.and_eq_true] at h2
    exact ⟨o, rfl, of_decide_eq_true h2.1, Option.isNone_iff_eq_none.mp h2.2⟩
def mkDK (x : Str) (st : Stmt) (kd : List (Str × He.Dv)) : He.DefD := ⟨(x, none), x, x, defArgs st, defBody st, defScope st, [], kd⟩
end Lp
namespace Lp
open PySem PySem.Spec PyProof.Rows L2
/-! ### what the head has left of the error classes: what is asked of them -/
/-- the __init__ of a class -/
def initOf (s : Stmt) : Stmt := match s with
  | .ClassDef _ _ _ (.FunctionDef n a b dl r tp sc ts bi po :: _) _ _ _ _ _ _ _ => .FunctionDef n a b dl r tp sc ts bi po
  | _ => .Pass ⟨0, 0, 0, 0⟩
def mkI (x : Str) (q : Str) (st : Stmt) : He.DefD := ⟨(x, some "__init__"), "__init__", q, defArgs (initOf st), defBody (initOf st), defScope (initOf st), [], []⟩
/-- what a class over ValueError is made of: its row of bases begins with itself, its slots end with ValueError's maker and one more -/
def vErrC (C : Addr) (c : ClassData) : Bool := c.hasDict && (!c.hasDel && (match c.mro with
  | top :: up => decide (top = .ref C) && PySem.HandSPX.refsVE up
  | [] => false))
def vErrS (sl : Array (Option Value)) : Bool := match sl.toList with
  | [_, _, _, _, y, _] => decide (y = some (.builtin "ValueError.__new__"))
  | _ => false
def vErrO (C : Addr) (o : Obj) : Bool := decide (o.cls = .type "type") && (vErrS o.slots && (match o.data with
  | .cls c => vErrC C c
  | _ => false))
def oexB (K : PySem.W.Frag) (C : Addr) : Bool := (match K.lookup C with
  | some o => vErrO C o
  | none => false) && (decide (PySem.W.findIn K (.ref C) "__setattr__" = some (some (.builtin "object.__setattr__"))) && (decide (PySem.W.subIn K (.ref C) (.type "BaseException") = some true) && (decide (PySem.W.typeIn K (.ref C) = some (.type "type")) && PySem.W.keepIn K (.ref C))))
def ecB (K : PySem.W.Frag) (x f : Str) : Bool := oexB K (He.ga K x) && (xfB K (He.ga K x) && (decide (PySem.W.findIn K (.ref (He.ga K x)) f = some none) && (decide (PySem.W.findIn K (.ref (He.ga K x)) "__init__" = some (some (.ref (He.ma K (He.ga K x) "__init__")))) && decide (PySem.W.typeIn K (.ref (He.ma K (He.ga K x) "__init__")) = some (.type "function")))))
def errL : List Str := ["InvalidRow", "InvalidNumber", "InvalidKind", "InvalidWord", "InvalidSize", "InvalidProgram", "InvalidText", "InvalidHeights", "InvalidWishes", "InvalidRecord", "InvalidPattern", "InvalidShare", "InvalidPeople", "InvalidName", "InvalidHeight", "InvalidDeed", "InvalidCommand", "NotFinal", "OtherPersons", "UnknownName", "UnknownHeight", "NoOrder", "NameTaken", "HeightTaken", "NothingToUndo", "TooManySeats", "TooManyPeople", "WordTooShort", "TooManyDeeds", "LastPerson"]
def excCB (K : PySem.W.Frag) (D : Addr) : Bool := decide (PySem.W.findIn K (.ref D) "__getattribute__" = some (some (.builtin "BaseException.__getattribute__"))) && (decide (PySem.W.findIn K (.ref D) "__getattr__" = some none) && (decide (PySem.W.subIn K (.ref D) (.type "BaseException") = some true) && (PySem.W.hasDictIn K D && (decide (PySem.W.findIn K (.ref D) "__class__" = some (some (.builtin "object.__class__"))) && (decide (PySem.W.specialIn K (.builtin "object.__class__") "__get__" = some (some (.builtin "getset_descriptor.__get__"))) && (decide (PySem.W.takesIn K (.builtin "object.__class__") = some true) && decide (PySem.W.mroIn K D (.type "object") = some true)))))))
def sortB (K : PySem.W.Frag) (x : Str) (i : Nat) : Bool := excCB K (He.ga K x) && (decide (i < 30) && (((List.range 30).all fun j => decide (PySem.W.kitOne K (.ref (He.ga K x)) (.ref (He.ga K (errL.getD j x))) = some (decide (i = j)))) &&
  (decide (PySem.W.kitOne K (.ref (He.ga K x)) (.ref (He.ga K "PassError")) = some (decide (i < 17))) && (decide (PySem.W.kitOne K (.ref (He.ga K x)) (.ref (He.ga K "FindError")) = some (decide (16 < i) && decide (i < 25))) && (decide (PySem.W.kitOne K (.ref (He.ga K x)) (.ref (He.ga K "LimitError")) = some (decide (24 < i))) &&
  (decide (PySem.W.kitOne K (.ref (He.ga K x)) (.type "ValueError") = some (decide (i < 17))) && (decide (PySem.W.kitOne K (.ref (He.ga K x)) (.type "LookupError") = some (decide (16 < i) && decide (i < 25))) && decide (PySem.W.kitOne K (.ref (He.ga K x)) (.type "ArithmeticError") = some (decide (24 < i))))))))))
/-- the classes' part of what the top has left -/
def clB (K : PySem.W.Frag) (x f : Str) (i : Nat) : Bool := ecB K x f && (sortB K x i && decide (PySem.W.exmAny K (.ref (He.ga K x)) [.ref (He.ga K "PassError"), .ref (He.ga K "FindError"), .ref (He.ga K "LimitError")] = some true))
end Lp
namespace Lp
open PySem PySem.Spec PyProof.Rows L2
/-! ### what the head has left of error classes over other bases -/
/-- what is asked of such a class, as a test -/
def etB (K : PySem.W.Frag) (x f : Str) (rows : List Value) (maker : String) : Bool := PySem.W.excInitIn K (He.ga K x) rows maker && (PySem.W.excOver K (He.ga K x) rows && (PySem.W.hasDictIn K (He.ga K x) && (decide (PySem.W.findIn K (.ref (He.ga K x)) "__setattr__" = some (some (.builtin "object.__setattr__"))) && (decide (PySem.W.subIn K (.ref (He.ga K x)) (.type "BaseException") = some true) && (decide (PySem.W.typeIn K (.ref (He.ga K x)) = some (.type "type")) && (PySem.W.keepIn K (.ref (He.ga K x)) &&
  (xfB K (He.ga K x) && (decide (PySem.W.findIn K (.ref (He.ga K x)) f = some none) && (decide (PySem.W.findIn K (.ref (He.ga K x)) "__init__" = some (some (.ref (He.ma K (He.ga K x) "__init__")))) && decide (PySem.W.typeIn K (.ref (He.ma K (He.ga K x) "__init__")) = some (.type "function")))))))))))
abbrev rowsA : List Value := [.type "ArithmeticError", .type "Exception", .type "BaseException", .type "object"]
abbrev rowsL : List Value := [.type "LookupError", .type "Exception", .type "BaseException", .type "object"]
/-- the classes' part of what the top has left -/
def clT (K : PySem.W.Frag) (x f : Str) (i : Nat) (rows : List Value) (maker : String) : Bool := etB K x f rows maker && (sortB K x i && decide (PySem.W.exmAny K (.ref (He.ga K x)) [.ref (He.ga K "PassError"), .ref (He.ga K "FindError"), .ref (He.ga K "LimitError")] = some true))
end Lp
namespace Lp
open PySem PySem.Spec PyProof.Rows L2
/-! ### what the head has left of error classes without an __init__ -/
def enB (K : PySem.W.Frag) (x : Str) (rows : List Value) (maker : String) : Bool := PySem.W.excIn K (He.ga K x) rows maker && (PySem.W.keepIn K (.ref (He.ga K x)) && (decide (PySem.W.subIn K (.ref (He.ga K x)) (.type "BaseException") = some true) && decide (PySem.W.typeIn K (.ref (He.ga K x)) = some (.type "type"))))
def clN (K : PySem.W.Frag) (x : Str) (i : Nat) (rows : List Value) (maker : String) : Bool := enB K x rows maker && (sortB K x i && decide (PySem.W.exmAny K (.ref (He.ga K x)) [.ref (He.ga K "PassError"), .ref (He.ga K "FindError"), .ref (He.ga K "LimitError")] = some true))
end Lp
namespace Lp
open PySem PySem.Spec PyProof.Rows L2
/-! ### what the head has left of all the error classes, where they are only made and looked at -/
abbrev rowsV : List Value := [.type "ValueError", .type "Exception", .type "BaseException", .type "object"]
def noB (K : PySem.W.Frag) (x : Str) : Bool := ["KeyError", "IndexError", "OverflowError", "ZeroDivisionError"].all fun y => decide (PySem.W.kitOne K (.ref (He.ga K x)) (.type y) = some false)
def clW (K : PySem.W.Frag) (x f : Str) (i : Nat) (rows : List Value) (maker : String) : Bool := etB K x f rows maker && (sortB K x i && noB K x)
def clU (K : PySem.W.Frag) (x : Str) (i : Nat) (rows : List Value) (maker : String) : Bool := enB K x rows maker && (sortB K x i && noB K x)
end Lp
namespace Lp
open PySem PySem.Spec PyProof.Rows L2
/-! ### the head of a law some of whose defs hold lambdas -/
/-- the code object of the def x, and its table -/
def caT (K : PySem.W.Frag) (x : Str) : Addr := match K.lookup (He.ga K x) with
  | some o => (match o.data with
    | .func fd => (match fd.code with
      | .ref c => c
      | _ => 0)
    | _ => 0)
  | none => 0
def refOf (v : Option Value) : Addr := match v with
  | some (.ref P) => P
  | _ => 0
def paT (K : PySem.W.Frag) (x : Str) : Addr := match K.lookup (caT K x) with
  | some o => (match o.data with
    | .fields vs => refOf vs[11]?
    | _ => 0)
  | none => 0
def isRef : Value → Bool
  | .ref _ => true
  | _ => false
def fnRefB (K : PySem.W.Frag) (x : Str) : Bool := match K.lookup (He.ga K x) with
  | some o => (match o.data with
    | .func fd => isRef fd.code
    | _ => false)
  | none => false
def tbB (K : PySem.W.Frag) (x : Str) : Bool := fnRefB K x && (PySem.W.codeHdIn K (caT K x) (paT K x) && ((K.lookup (paT K x)).isNone && !(paT K x == mainGlobals)))
/-- a table in which nothing stands yet -/
def newTab : Obj := { cls := .none, data := .fields #[] }
def newB (o : Obj) : Bool := match o with
  | ⟨.none, none, .fields vs, sl⟩ => vs.isEmpty && sl.isEmpty
  | _ => false
theorem newB_ok {o : Obj} (h : newB o = true) : o = newTab := by
  unfold newB at h
  split at h
  · rename_i vs sl
    obtain ⟨h1, h2⟩ := Bool.and_eq_true_iff.mp h
    rw [Array.isEmpty_iff.mp h1, Array.isEmpty_iff.mp h2]
    rfl
  · cases h
def frT (K : PySem.W.Frag) : PySem.W.Frag := K.filter fun e => !newB e.2
theorem mem_frG {g : Addr → Option Obj} {e : Addr × Obj} : ∀ {as : List Addr}, e ∈ He.frG g as → g e.1 = some e.2 := fun {as} h => by
  unfold He.frG at h
  obtain ⟨a, _, ha⟩ := List.mem_filterMap.mp h
  cases hg : g a with
  | none => rw [hg] at ha; cases ha
  | some o =>
    rw [hg] at ha
    cases ha
    exact hg
theorem frT_in {s : Shared} {as : List Addr} : (frT (He.frG s.heap.get? as)).In s.heap := fun a o e => by
  have m : (a, o) ∈ (He.frG s.heap.get? as).filter fun e => !newB e.2 := PySem.W.mem_of_lookupK e
  exact mem_frG (e := (a, o)) (as := as) (List.mem_filter.mp m).1
/-- the objects that a law's proof asks for: the module's names, the functions' code and keyword defaults, the classes' names and their functions' code -/
def refW : Value → List Addr
  | .ref a => [a]
  | _ => []
def namesX (g : Addr → Option Obj) (a : Addr) : List Addr := match g a with
  | some o => (match o.data with
    | .dict es _ => es.toList.flatMap fun e => refW e.val
    | _ => [])
  | none => []
def codeX (g : Addr → Option Obj) (a : Addr) : List Addr := match g a with
  | some o => (match o.data with
    | .func fd => refW fd.code ++ refW fd.kwdefaults
    | _ => [])
  | none => []
def innerX (g : Addr → Option Obj) (a : Addr) : List Addr := match g a with
  | some o => (match o.data with
    | .cls cd => cd.ns :: (namesX g cd.ns).flatMap fun b => b :: codeX g b
    | .func fd => refW fd.code ++ refW fd.kwdefaults
    | _ => [])
  | none => []
def asX (g : Addr → Option Obj) : List Addr := mainGlobals :: (namesX g mainGlobals).flatMap fun a => a :: innerX g a
def newAt (g : Addr → Option Obj) (P : Addr) : Bool := match g P with
  | some o => newB o
  | none => false
def obT (fa : List He.Fa) (fn : List He.DefD) (ex : PySem.W.Frag → Bool) (ts : List Str) (g : Addr → Option Obj) : He.AlD × (Bool × Bool) :=
  (He.obsD fa fn (frT (He.frG g (asX g))), ex (frT (He.frG g (asX g))), (ts.all fun x => tbB (frT (He.frG g (asX g))) x && newAt g (paT (frT (He.frG g (asX g))) x)) && decide ((ts.map (paT (frT (He.frG g (asX g))))).Nodup))
structure TabsK (K : PySem.W.Frag) (h : Heap) (ts : List Str) : Prop where
  tb : ∀ x ∈ ts, tbB K x = true
  new : ∀ x ∈ ts, h.get? (paT K x) = some newTab
  nd : (ts.map (paT K)).Nodup
def hookT (fa : List He.Fa) (fn : List He.DefD) (ex : PySem.W.Frag → Bool) (ts : List Str) : PySem.W.Hook where
  α := He.AlD × (Bool × Bool)
  obs := fun s => obT fa fn ex ts s.heap.get?
  val := fun _ => (He.valD fn, true, true)
  says := fun _ h => ∃ K : PySem.W.Frag, K.In h ∧ He.SaysD fa fn K ∧ ex K = true ∧ TabsK K h ts
  of := fun _ s e => by
    refine ⟨frT (He.frG s.heap.get? (asX s.heap.get?)), frT_in, congrArg (fun z : He.AlD × (Bool × Bool) => z.1) e, congrArg (fun z : He.AlD × (Bool × Bool) => z.2.1) e, ?_⟩
    have e3 : ((ts.all fun x => tbB (frT (He.frG s.heap.get? (asX s.heap.get?))) x && newAt s.heap.get? (paT (frT (He.frG s.heap.get? (asX s.heap.get?))) x)) && decide ((ts.map (paT (frT (He.frG s.heap.get? (asX s.heap.get?))))).Nodup)) = true := congrArg (fun z : He.AlD × (Bool × Bool) => z.2.2) e
    obtain ⟨e4, e5⟩ := Bool.and_eq_true_iff.mp e3
    have e6 := List.all_eq_true.mp e4
    refine ⟨fun x hx => (Bool.and_eq_true_iff.mp (e6 x hx)).1, fun x hx => ?_, of_decide_eq_true e5⟩
    have e7 := (Bool.and_eq_true_iff.mp (e6 x hx)).2
    unfold newAt at e7
    split at e7
    · rename_i o ho
      rw [ho, newB_ok e7]
    · cases e7
  keeps := fun _ _ _ ⟨K, hK, c, x, t⟩ k => ⟨K, PySem.W.Frag.In.keeps hK k, c, x, t.tb, fun y hy => k _ _ (t.new y hy), t.nd⟩
theorem obT_eq {fa : List He.Fa} {fn : List He.DefD} {ex : PySem.W.Frag → Bool} {ts : List Str} {g : Addr → Option Obj} {s : Shared} (h : ∀ a, g a = s.heap.get? a) : obT fa fn ex ts g = (hookT fa fn ex ts).obs s := by
  have e : g = s.heap.get? := funext h
  rw [e]
  rfl
/-- the two texts that two names of the module stand for, as the heap has them: their tokens are known -/
def twoT (K : PySem.W.Frag) (xo xt : Str) (y z : Str) : Bool := match PySem.W.nsIn K mainGlobals xo, K.lookup (He.ga K xt) with
  | some (some (.str y' u)), some o => (match o.data with
    | .seq its _ => (match (its[0]? : Option Value) with
      | some (.str z' v) => decide (y' = y) && decide (z' = z) && decide (u ≠ 0) && decide (v ≠ 0) && decide (u ≠ v) && decide (o.cls = .type "tuple")
      | _ => false)
    | _ => false)
  | _, _ => false
end Lp
namespace Lp
open PySem PySem.Spec PyProof.Rows L2
def top (i : Nat) : Stmt := PySem.Challenge.pw_lastpasses_k92_limits_and_errors.main.body.getD i (.Pass ⟨0, 0, 0, 0⟩)
/-! ### what the top has left; the head -/
def fnL : List He.DefD := [mkD "_law_cell" (top 40), mkD "_law_pool" (top 41), mkD "_law_draw" (top 42), mkD "_law_sort" (top 43), mkD "_law_first" (top 44), mkD "_law_second" (top 45), mkD "_law_third" (top 46), mkD "_law_right" (top 47), mkD "law" (top 48), mkI "InvalidRow" "InvalidRow.__init__" (top 2), mkI "InvalidNumber" "InvalidNumber.__init__" (top 3), mkI "InvalidKind" "InvalidKind.__init__" (top 4), mkI "InvalidWord" "InvalidWord.__init__" (top 5), mkI "InvalidSize" "InvalidSize.__init__" (top 6), mkI "InvalidProgram" "InvalidProgram.__init__" (top 7), mkI "InvalidText" "InvalidText.__init__" (top 8), mkI "InvalidHeights" "InvalidHeights.__init__" (top 9), mkI "InvalidWishes" "InvalidWishes.__init__" (top 10), mkI "InvalidRecord" "InvalidRecord.__init__" (top 11), mkI "InvalidPattern" "InvalidPattern.__init__" (top 12), mkI "InvalidShare" "InvalidShare.__init__" (top 13), mkI "InvalidPeople" "InvalidPeople.__init__" (top 14), mkI "InvalidName" "InvalidName.__init__" (top 15), mkI "InvalidHeight" "InvalidHeight.__init__" (top 16), mkI "InvalidDeed" "InvalidDeed.__init__" (top 17), mkI "InvalidCommand" "InvalidCommand.__init__" (top 18), mkI "NotFinal" "NotFinal.__init__" (top 20), mkI "UnknownName" "UnknownName.__init__" (top 22), mkI "UnknownHeight" "UnknownHeight.__init__" (top 23), mkI "NameTaken" "NameTaken.__init__" (top 25), mkI "HeightTaken" "HeightTaken.__init__" (top 26), mkI "TooManySeats" "TooManySeats.__init__" (top 29), mkI "TooManyPeople" "TooManyPeople.__init__" (top 30), mkI "WordTooShort" "WordTooShort.__init__" (top 31), mkI "TooManyDeeds" "TooManyDeeds.__init__" (top 32)]
def faL : List He.Fa := [.glo "_law_cell", .glo "_law_pool", .glo "_law_draw", .glo "_law_sort", .glo "_law_first", .glo "_law_second", .glo "_law_third", .glo "_law_right", .glo "law", .free "len", .free "abs", .free "divmod", .free "isinstance", .free "ValueError", .free "LookupError", .free "ArithmeticError", .free "all", .free "any", .free "list", .free "range", .free "max", .free "min", .free "KeyError", .free "IndexError", .free "OverflowError", .free "ZeroDivisionError", .free "repr", .int "MOST_PEOPLE" 12, .int "SMALL" 8, .int "MOST_LETTERS" 400, .int "MOST_TIMES" 1000000000000000000000000000000, .int "MOST_DEEDS" 2000] ++ (errL ++ (["PassError", "FindError", "LimitError"] : List Str)).map He.Fa.glo
def exL : PySem.W.Frag → Bool := fun K => true && clW K "InvalidRow" "index" 0 rowsV "ValueError.__new__" && clW K "InvalidNumber" "number" 1 rowsV "ValueError.__new__" && clW K "InvalidKind" "kind" 2 rowsV "ValueError.__new__" && clW K "InvalidWord" "index" 3 rowsV "ValueError.__new__" && clW K "InvalidSize" "size" 4 rowsV "ValueError.__new__" && clW K "InvalidProgram" "index" 5 rowsV "ValueError.__new__" && clW K "InvalidText" "text" 6 rowsV "ValueError.__new__" && clW K "InvalidHeights" "index" 7 rowsV "ValueError.__new__" && clW K "InvalidWishes" "index" 8 rowsV "ValueError.__new__" && clW K "InvalidRecord" "index" 9 rowsV "ValueError.__new__" && clW K "InvalidPattern" "index" 10 rowsV "ValueError.__new__" && clW K "InvalidShare" "share" 11 rowsV "ValueError.__new__" && clW K "InvalidPeople" "index" 12 rowsV "ValueError.__new__" && clW K "InvalidName" "name" 13 rowsV "ValueError.__new__" && clW K "InvalidHeight" "height" 14 rowsV "ValueError.__new__" && clW K "InvalidDeed" "index" 15 rowsV "ValueError.__new__" && clW K "InvalidCommand" "line" 16 rowsV "ValueError.__new__" && clW K "NotFinal" "index" 17 rowsL "LookupError.__new__" && clW K "UnknownName" "name" 19 rowsL "LookupError.__new__" && clW K "UnknownHeight" "height" 20 rowsL "LookupError.__new__" && clW K "NameTaken" "name" 22 rowsL "LookupError.__new__" && clW K "HeightTaken" "height" 23 rowsL "LookupError.__new__" && clW K "TooManySeats" "seats" 25 rowsA "ArithmeticError.__new__" && clW K "TooManyPeople" "count" 26 rowsA "ArithmeticError.__new__" && clW K "WordTooShort" "length" 27 rowsA "ArithmeticError.__new__" && clW K "TooManyDeeds" "count" 28 rowsA "ArithmeticError.__new__" && clU K "OtherPersons" 18 rowsL "LookupError.__new__" && clU K "NoOrder" 21 rowsL "LookupError.__new__" && clU K "NothingToUndo" 24 rowsL "LookupError.__new__" && clU K "LastPerson" 29 rowsA "ArithmeticError.__new__"
def loose0 : List PySem.Str := ["PassError", "InvalidRow", "InvalidNumber", "InvalidKind", "InvalidWord", "InvalidSize", "InvalidProgram", "InvalidText", "InvalidHeights", "InvalidWishes", "InvalidRecord", "InvalidPattern", "InvalidShare", "InvalidPeople", "InvalidName", "InvalidHeight", "InvalidDeed", "InvalidCommand", "FindError", "NotFinal"]
def loose1 : List PySem.Str := ["OtherPersons", "UnknownName", "UnknownHeight", "NoOrder", "NameTaken", "HeightTaken", "NothingToUndo", "LimitError", "TooManySeats", "TooManyPeople", "WordTooShort", "TooManyDeeds", "LastPerson", "MOST_PEOPLE", "SMALL", "MOST_LETTERS", "MOST_TIMES", "MOST_DEEDS", "_law_cell", "_law_pool"]
def loose2 : List PySem.Str := ["_law_draw", "_law_sort", "_law_first", "_law_second", "_law_third", "_law_right"]
def loose : List PySem.Str := loose0 ++ loose1 ++ loose2

abbrev R : PySem.W.OpenRow := PySem.W.OpenLaw.row PySem.Challenge.rw_lastpasses_k92_limits_and_errors
def tsL : List Str := []
abbrev hk : PySem.W.Hook := hookT faL fnL exL tsL
def ob (s : PySem.W.SharedT) : He.AlD × (Bool × Bool) := obT faL fnL exL tsL (HandSHeadRun.getT s)
theorem ob_eq (s : PySem.W.SharedT) : ob s = hk.obs s.abs := obT_eq (HandSHeadRun.getT_eq s)
theorem run (w : World) : HandSHeadRun.RunEq R (PySem.W.view R.prog [48]) hk ob 20000 loose w := by
  intro os
  kernel_rfl
end Lp
/-! ### sorted of a tuple of ints -/
namespace Lp
open PySem PySem.Spec PyProof.Rows L2
section
variable {prog : Program} {w : World} {A : Around} {E : Value → Shared → Prop} {s : Shared}
/-- sorted(t): the items are gathered (the heap grows to some g), laid into a new list, and that list is put in order -/
theorem sortedT {t : Addr} {us : List Value} {ns : List Int} {Q : Value → Shared → Prop} (tup : s.heap.IsTuple t us.toArray) (nums : IntsAre us ns) (few : us.length < 64)
    (q : ∀ (g : Heap) (out : Array Value) (ms : List Int), (∀ b o, s.heap.get? b = some o → g.get? b = some o) → IntsAre out.toList ms → ms.Perm ns → ms.Pairwise (· ≤ ·) →
      Q (.ref g.objs.size) { s with heap := sortedHeap (g.push (seqObj "list" us.toArray 0)) g.objs.size us out }) :
    wpAny (model prog w) A (call (.builtin "sorted") [.ref t]) Q E s := by
  obtain ⟨o, ho, cls, m, dat⟩ := tup
  have small : us.toArray.size ≤ sizeLine := by
    rw [List.size_toArray]
    exact Nat.le_of_lt (len_lt (Nat.le_trans (Nat.le_of_lt few) (by decide)))
  refine Calls.call_function_entry kind_sorted plain_sorted entry_sorted (args_sorted1 (.ref t)) ?_
  unfold Builtin.«sorted»
  refine wpAny_bind (m := checkCount "sorted" 1 1 1) (wpAny_pure (wpAny_bind (wpAny_collect_seq t (.inr rfl) ho cls dat (fun g old => ?_) small)))
  refine wpAny_bind (wpAny_newList ?_ (by rw [← List.size_toArray]; exact small))
  have new : (g.push (seqObj "list" us.toArray 0)).get? g.objs.size = some (seqObj "list" us.toArray 0) := Heap.get?_push_size g rfl
  exact wpAny_bind (wpAny_holding (wpAny_call_entry slot_list_sort ⟨_, new, rfl⟩ entry_list_sort (list_sort_tree new nums few fun out ms i1 i2 i3 => ⟨_, rfl, wpAny_pure ⟨_, rfl, q g out ms old i1 i2 i3⟩⟩) (args_list_sort (.ref g.objs.size))))
end
def rSortedTp (K : PySem.W.Frag) : List V → Hp → VK → Prop := fun vs H Q => ∃ (a : Addr) (ns : List Int), vs = [V.ref a] ∧ SqT K H a (ns.map V.int) ∧ ns.length < 64 ∧
  ∀ (ms : List Int) (p : Addr), ms.Perm ns → ms.Pairwise (· ≤ ·) → H p = none → Q (.ref p) (upd H p (.lst (ms.map V.int)))
theorem cr_sortedTp {X : Cx} : CallR X (.builtin "sorted") (rSortedTp X.K) := fun pins s σ H vs us Q I r h => by
  obtain ⟨a, ns, rfl, sq, few, q⟩ := h
  obtain ⟨its, rv, tup, _⟩ := I.tuple sq
  rw [Vals.ref1 r]
  have nums := rv.ints
  refine sortedT tup nums (nums.length ▸ few) fun g out ms old i1 i2 i3 => ?_
  have I1 : Inv X pins σ H { s with heap := g } := I.kept (t' := s.toks) old
  have size : (ms.map V.int).length ≤ sizeLine := by
    rw [List.length_map, i2.length_eq]
    exact Nat.le_of_lt (len_lt (by omega))
  obtain ⟨ep, there⟩ := PyProof.Rows.sortedHeap_at (vs := its) (out := out) (Heap.get?_push_size g rfl : (g.push (seqObj "list" its.toArray 0)).get? g.objs.size = some (seqObj "list" its.toArray 0))
  have J := I1.laid (t' := s.toks) (a := g.objs.size) (o := .lst (ms.map V.int)) (h' := sortedHeap (g.push (seqObj "list" its.toArray 0)) g.objs.size its out) (fun b u z => by
    have lt := Heap.lt_size z
    rw [PyProof.Rows.sortedHeap_old (Nat.ne_of_lt lt) (by rw [size_push']; exact Nat.lt_succ_of_lt lt)]
    exact Heap.get?_push_of_some _ z) (Nat.le_refl _) ⟨size, out.toList, ep, vals_of_ints i1, there⟩
  exact ⟨.ref g.objs.size, _, J, rfl, q ms _ i2 i3 (I1.hok.fresh (Nat.le_refl _))⟩
end Lp
/-! ### promises of defs that are called where no repr is under way -/
namespace Lp
open PySem PySem.Spec PyProof.Rows L2
structure FnG (P : Program) (w : World) (K : PySem.W.Frag) (mg : Str → Option Value) (base : Heap) (k : Nat) (f : Addr) (fd : FuncData) (ps : List Str) (sp : Sp) : Prop where
  len : ∀ vs H Q E, sp vs H Q E → vs.length = ps.length
  run : ∀ (A : Around) (outer : List Env) (s : Shared) (H : Hp) (args : Args) (us : List Value) (vs : List V) (Q : VK) (E : XK), Room k A → A.guards = some [] → Env0 P w K mg base A outer s H →
    BindsTo s fd args (ps.zip us) → Vals vs us → sp vs H Q E → codeAny (model P w) A (.call (.ref f) args) (CR CX0 outer P w H s Q E) s
structure ClG (P : Program) (w : World) (K : PySem.W.Frag) (mg : Str → Option Value) (base : Heap) (k : Nat) (x : Str) (st : Stmt) (ps : List Str) (sp : Sp) : Prop where
  ex : ∃ f fd, FnP K x st f fd ∧ FnG P w K mg base k f fd ps sp ∧ mg x = some (.ref f) ∧ Binds K fd ps []
section
variable {P : Program} {w : World} {K : PySem.W.Frag} {mg : Str → Option Value} {base : Heap} {x : Str} {st : Stmt} {N ps : List Str} {k : Nat} {sp : Sp} {f : Addr}
theorem Df.okG (D : Df K mg x st) (S : FnScope N ps (defScope st))
    (bd : ∀ (kV doc pm : Value) (an : Option Addr) (cdv ct : Value) (us : List Value), us.length = ps.length → bindArgs (PySem.W.fnOf x x (defArgs st) (defBody st) (defScope st) .none kV doc pm an cdv ct) ⟨us, []⟩ = pure (ps.zip us))
    (len : ∀ vs H Q E, sp vs H Q E → vs.length = ps.length)
    (body : ∀ (f : Addr) (cdv : Value) (A : Around) (outer : List Env) (s : Shared) (H : Hp) (vs : List V) (Q : VK) (E : XK), Room k (A.deeper (envOfC x (defScope st) s.heap.objs.size f cdv)) → A.guards = some [] → sp vs H Q E →
      ∃ t, PSs (cxOf CX0 P w K mg base N x (defScope st) f cdv A outer s H E).nox (defBody st) t ∧ t { nx := fun _ H' => Q .non H', rt := Q } (start N vs) H) : ClG P w K mg base (k + 1) x st ps sp := by
  obtain ⟨f, fd, F, hm⟩ := D.ex
  refine ⟨f, fd, F, ?_, hm, F.bindsN bd⟩
  obtain ⟨oc, od, dV, kV, doc, pm, an, cdv, ct, osl, rfl, lk, hcd, _, _⟩ := F.ex
  refine ⟨len, fun A outer s H args us vs Q E hr hgd e0 hb rel hsp => ?_⟩
  have ln := len _ _ _ _ hsp
  have kx : K.In s.heap := e0.mod.kin.keeps fun b o e => (e0.bs b o e).1
  have nl : s.heap.NoLimit := e0.mod.nolimit.keeps fun b o e => (e0.bs b o e).1
  have kinds : ∀ y ∈ ps.zip us, (defScope st).names.lookup y.1 = some .local ∨ ((defScope st).names.lookup y.1 = some .cell ∧ ((cellsFrom (s.heap.objs.size + 1) (defScope st).names []).lookup y.1).isSome = true) := fun y hy => by
    obtain ⟨nm, vl⟩ := y
    rcases S.par nm (List.of_mem_zip hy).1 with z | z
    · exact Or.inl z
    · exact Or.inr ⟨z, PySem.W.cellsFrom_some _ _ _ (Or.inl z)⟩
  refine codeAny_call_function hr.depth (kx _ _ lk) rfl S.co S.gen rfl (PySem.W.codeRec_of kx hcd) (hb _ _ _ _ ?_)
  refine wpAny_newFunctionEnv_cells S.kind kinds fun env henv s1 xc => ?_
  subst henv
  refine ⟨nl.keeps xc.toInCall.keep, codeAny_func ?_⟩
  obtain ⟨t, ht, hq⟩ := body f cdv A outer s H vs Q E (hr.deeper _) hgd hsp
  have ini : L2.Inv (cxOf CX0 P w K mg base N x (defScope st) f cdv A outer s H E) [] (start N vs) H s1 := inv_start S hr.hd e0 ln rel xc
  refine wpAny_mono (ht.nox.run [] s1 (start N vs) H _ ini hq) (fun fl s2 hs => ?_) fun e s2 hs => hs
  have back : ∀ {σ2 : L2.St} {H2 : Hp} {v : V} {u : Value}, L2.Inv (cxOf CX0 P w K mg base N x (defScope st) f cdv A outer s H E) [] σ2 H2 s2 → RelV v u → Q v H2 → CE outer P w H s Q u s2 :=
    fun {σ2 H2 v u} J rv q => ⟨v, H2, J.os, J.bare, J.base, J.hok, rv, q⟩
  cases fl with
  | ret u =>
    obtain ⟨v, σ2, H2, J, rv, q⟩ := hs
    exact back J rv q
  | next =>
    obtain ⟨σ2, H2, J, q⟩ := hs
    exact back (v := V.non) (u := Value.none) J rfl q
  | brk =>
    obtain ⟨_, _, _, q⟩ := hs
    exact q.elim
  | cont =>
    obtain ⟨_, _, _, q⟩ := hs
    exact q.elim
theorem ClG.last (D : Df K mg x st) (hf : mg x = some (.ref f)) (c : ∀ base, ClG P w K mg base k x st ps sp) : ∃ fd, FnP K x st f fd ∧ ∀ base, FnG P w K mg base k f fd ps sp := by
  obtain ⟨f0, fd0, F0, m0⟩ := D.ex
  have e0 : f0 = f := Value.ref.inj (Option.some.inj (m0.symm.trans hf))
  subst e0
  refine ⟨fd0, F0, fun base => ?_⟩
  obtain ⟨f1, fd1, F1, G1, m1, _⟩ := (c base).ex
  have e1 : f1 = f0 := Value.ref.inj (Option.some.inj (m1.symm.trans hf))
  subst e1
  obtain ⟨_, _, _, _, _, _, _, _, _, _, _, l0, _⟩ := F0.ex
  obtain ⟨_, _, _, _, _, _, _, _, _, _, _, l1, _⟩ := F1.ex
  have e2 := l0.symm.trans l1
  simp only [Option.some.injEq, Obj.mk.injEq, Data.func.injEq] at e2
  rw [e2.2.2.1]
  exact G1
end
section
variable {X : Cx} {x : Str} {st : Stmt} {ps ks : List Str} {j k : Nat} {sp : Sp} {e : Expr} {es : List Expr} {t : TA} {p pos : Pos}
theorem pe_ug (c : ClG X.prog X.w X.K X.mg X.base k x st ps sp) (hr : Room j X.A) (hgd : X.A.guards = some []) (hk : k ≤ j) (hg : Gl X x) (ha : PA X (e :: es) t)
    (hdb : (x == ("__debug__" : Str)) = false := by decide) (he : starEach (e :: es) X.env = (false, eval e X.env) :: starEach es X.env := by rfl) (hpl : (backTo pos (starEach es X.env)).any (·.1) = false := by rfl) :
    PE X (.Call (.Name x p) (e :: es) [] pos) (tCall sp [] E0 t) := by
  obtain ⟨f, fd, F, G, hm, b⟩ := c.ex
  refine ⟨fun pins s σ H Q I h => wpAny_Call_Name_kw (ld_glob I hg hm ?_ hdb)⟩
  refine PySem.W.callWith_K (h₀ := X.base) I.ok.mod.kin F.kp (thn (ha.run pos pins s σ H _ I h) fun us s1 ⟨vs, H1, I1, rel, q⟩ => ⟨I1.kIn, ?_⟩) he hpl
  have q1 : sp vs H1 Q E0 := by
    have z : sp (vs ++ []) H1 Q E0 := q
    rw [List.append_nil] at z
    exact z
  have ln : (us ++ []).length = ps.length := by
    rw [List.append_nil, ← rel.length]
    exact G.len _ _ _ _ q1
  have bd := b s1 us I1.kIn ln
  rw [List.append_nil] at bd
  refine wpAny_call (codeAny_mono (G.run X.A X.stack s1 H1 ⟨us, []⟩ us vs Q E0 (hr.mono hk) hgd I1.env0 bd rel q1) fun res s2 hq => ?_)
  cases res with
  | error er => exact hq.elim
  | ok fl =>
    cases fl with
    | ret u => exact I1.after hq
    | next => exact hq.elim
    | brk => exact hq.elim
    | cont => exact hq.elim
end
/-- the law's own call, no repr under way -/
theorem lawCallG {P : Program} {w : World} {K : PySem.W.Frag} {mg mb : Str → Option Value} {k : Nat} {fa a : Addr} {fd : FuncData} {x : Str} {sp : Sp} {s1 : Shared} {vs : List Value} {ns : List Int}
    (kx : K.In s1.heap) (gns : s1.heap.Ns mainGlobals mg) (bns : s1.heap.Ns builtinsNs mb) (bbt : ∀ x : Str, x ≠ "__name__" → mb x = bootBuiltins x) (nlim : s1.heap.NoLimit) (gen0 : s1.gens = #[])
    (hob : s1.heap.get? a = some { cls := .type "list", data := .seq vs.toArray }) (hint : IntsAre vs ns) (hlen : ns.length ≤ sizeLine) (hr : Room k callerA)
    (F : ∀ base : Heap, FnG P w K mg base k fa fd [x] sp) (hbind : ∀ (s : Shared) (u : Value), BindsTo s fd ⟨[u], []⟩ [(x, u)])
    (hsp : ∀ H : Hp, SqL K H a (ns.map V.int) → sp [.ref a] H (fun v _ => v = .bl true) fun _ _ _ => False) :
    codeAny (model P w) callerA (.call (.ref fa) ⟨[.ref a], []⟩) (fun r s' => r = .ok (.ret (.bool true)) ∧ OldK s1.heap s'.heap ∧ s'.os = s1.os ∧ AllBare s'.gens) s1 := by
  have rel := vals_ints hint
  have lv := hint.length
  have main : ∀ H : Hp, SqL K H a (ns.map V.int) → HOk P w H s1.heap → (∀ b u, H b = some u → b = a ∧ K.lookup a = none ∧ ∃ xs, u = .frz { cls := .type "list", data := .seq vs.toArray } (.lst xs)) →
      codeAny (model P w) callerA (.call (.ref fa) ⟨[.ref a], []⟩) (fun r s' => r = .ok (.ret (.bool true)) ∧ OldK s1.heap s'.heap ∧ s'.os = s1.os ∧ AllBare s'.gens) s1 := by
    intro H hS hok only
    have free : ∀ {b : Addr} {o : Obj}, s1.heap.get? b = some o → o ≠ { cls := .type "list", data := .seq vs.toArray } → H b = none := fun {b o} e ne => by
      cases hb : H b with
      | none => rfl
      | some u =>
        obtain ⟨rfl, _, _⟩ := only b u hb
        rw [hob] at e
        exact absurd (Option.some.inj e).symm ne
    have nsk : ∀ {b : Addr} {m : Str → Option Value}, s1.heap.Ns b m → (hidT s1.heap H).Ns b m := fun {b m} z => by
      obtain ⟨o, es, ep, e, d, r⟩ := z
      exact ⟨o, es, ep, hidT_get e (free e fun q => by rw [q] at d; cases d), d, r⟩
    have kb : K.In (hidT s1.heap H) := fun b o e => hidT_get (kx b o e) (by
      cases hb : H b with
      | none => rfl
      | some u =>
        obtain ⟨rfl, z, _⟩ := only b u hb
        rw [z] at e
        cases e)
    obtain ⟨mc, c1, c2⟩ := nlim
    have md : Mod K mg (hidT s1.heap H) := ⟨kb, nsk gns, ⟨mb, nsk bns, bbt⟩, ⟨mc, nsk c1, c2⟩⟩
    have en : Env0 P w K mg (hidT s1.heap H) callerA [] s1 H := ⟨rfl, md, fun b o e => of_hidT e, Nat.le_of_eq (hidT_size _ _), trivial, fun b hb => absurd (show b ∈ ([] : List Addr) from hb) List.not_mem_nil, hok, .of_eq gen0⟩
    refine codeAny_mono ((F _).run callerA [] s1 H ⟨[.ref a], []⟩ [.ref a] [.ref a] _ _ hr rfl en (hbind s1 (.ref a)) (.cons rfl .nil) (hsp H hS)) fun r s2 h => ?_
    cases r with
    | error e => exact h.elim
    | ok fl =>
      cases fl with
      | next => exact h.elim
      | brk => exact h.elim
      | cont => exact h.elim
      | ret u =>
        obtain ⟨v, H2, os, bare, un, hok2, rv, q⟩ := h
        have q2 : v = .bl true := q
        subst q2
        obtain rfl : u = Value.bool true := rv
        refine ⟨rfl, OldK.of_keep fun b o e => ?_, os, bare⟩
        cases hb : H b with
        | none => exact un.keep b o e hb (fun z => absurd (show b ∈ ([] : List Addr) from z) List.not_mem_nil) List.not_mem_nil
        | some u =>
          obtain ⟨_, _, xs, rfl⟩ := only b u hb
          obtain ⟨z1, _⟩ := hok b _ hb
          obtain ⟨z2, _⟩ := hok2 b _ (un.frzs b _ _ hb)
          rw [z1] at e
          cases e
          exact z2
  cases hk : K.lookup a with
  | some o =>
    have e := kx a o hk
    rw [hob] at e
    cases e
    refine main (fun _ => none) (.inr ⟨_, vs.toArray, _, hk, rfl, rfl, rfl, by rw [List.size_toArray, lv]; exact hlen, by simpa using rel⟩) (fun b u z => nomatch z) fun b u z => nomatch z
  | none =>
    refine main (fun b => if b = a then some (.frz { cls := .type "list", data := .seq vs.toArray } (.lst (ns.map V.int))) else none) (.inl (.inr ⟨_, if_pos rfl⟩)) (fun b u z => ?_) fun b u z => ?_
    · by_cases hb : b = a
      · have z2 := (if_pos hb).symm.trans z
        cases z2
        subst hb
        exact ⟨hob, by rw [List.length_map]; exact hlen, vs, _, rel, hob⟩
      · have z2 := (if_neg hb).symm.trans z
        cases z2
    · by_cases hb : b = a
      · have z2 := (if_pos hb).symm.trans z
        cases z2
        exact ⟨hb, hk, _, rfl⟩
      · have z2 := (if_neg hb).symm.trans z
        cases z2
theorem walkG {l : PySem.W.OpenLaw} {n k : Nat} {q : Program} {loose : List Str} {XP : (Str → Option Value) → Heap → Prop} {YP : World → Heap → Prop} {d : DefRec} {x : Str}
    (hn : l.most = some n) (hn2 : n ≤ sizeLine) (hdf : d.params.defaults = []) (hr : Room k callerA)
    (F : ∀ (w : World) (mg : Str → Option Value) (fa : Addr) (h : Heap), YP w h → h.Ns mainGlobals mg → mg d.name = some (.ref fa) →
      ∃ (K : PySem.W.Frag) (fd : FuncData) (sp : Sp), K.In h ∧ (∀ (s : Shared) (u : Value), BindsTo s fd ⟨[u], []⟩ [(x, u)]) ∧
        (∀ (H : Hp) (a : Addr) (ns : List Int), ns.length ≤ n → SqL K H a (ns.map V.int) → sp [.ref a] H (fun v _ => v = .bl true) fun _ _ _ => False) ∧ ∀ base : Heap, FnG l.prog w K mg base k fa fd [x] sp) :
    PySem.W.WalkO q loose XP YP l.row.toRowW d [] (fun f vs => PySem.call f vs) := by
  refine Att.attach_call hn hdf fun w s0 s1 mg mb fa o pm cd doc a vs ns G Y ho hd hcd hmg hobj hints hlen hg => ?_
  obtain ⟨K, fd, sp, kx, hb, hsp, hF⟩ := F w mg fa _ Y G.T.g hmg
  exact lawCallG kx G.T.g G.T.b G.T.builtins G.T.nolimit hg hobj hints (Nat.le_trans hlen hn2) hr hF hb fun H hS => hsp H a ns hlen hS
/-! ### repr of data -/
def rReprD (K : PySem.W.Frag) : List V → Hp → VK → Prop := fun xs H Q => ∃ (v : V) (d : PyData), xs = [v] ∧ Dp K H v d ∧ d.canLay0 = true ∧ d.depth ≤ 60 ∧ d.showable = true ∧ d.shown.length ≤ sizeLine ∧ Q (.str d.shown) H
theorem call_reprD {X : Cx} {k : Nat} (hr : Room k X.A) (hgd : X.A.guards = some []) : CallR X (.builtin "repr") (rReprD X.K) := by
  intro pins s σ H xs us Q I r h
  obtain ⟨v, d, rfl, hd, hl, hdp, hs, hz, q⟩ := h
  obtain ⟨u, rfl, rv⟩ := vals1 r
  have fin : ∀ (h' : Heap) (t : Tok) (tk : Tok), (∀ b o, s.heap.get? b = some o → h'.get? b = some o) → EP X pins σ Q (.str d.shown t) { s with heap := h', toks := tk } := fun h' t tk hk =>
    ⟨.str d.shown, H, I.kept (t' := tk) hk, ⟨t, rfl⟩, q⟩
  have fin0 : ∀ (t tk : Tok), EP X pins σ Q (.str d.shown t) { s with toks := tk } := fun t tk => fin s.heap t tk fun _ _ e => e
  have hu := hr.un
  obtain ⟨as, rd⟩ := Dp.reads I d v u hd rv
  cases hd with
  | non =>
    cases rv
    exact PySem.P.repr_of_none (fin0 _ _)
  | bl b =>
    cases rv
    have z := fin0 s.toks (s.toks + 1)
    cases b <;> exact PySem.P.repr_of_bool z
  | int i =>
    obtain ⟨t, rfl⟩ := rv
    have hs2 : i.natAbs.log2 < 1920 := of_decide_eq_true hs
    exact PySem.P.repr_of_int hs2 (fin0 _ _)
  | str x =>
    obtain ⟨t, rfl⟩ := rv
    exact PySem.P.repr_of_str (fin0 _ _) hz
  | lst _ _ =>
    cases rv
    exact repr_of_reads' rd hs (PyData.noDict_hsm (PyData.hasDict_of_canLay _ hl)) hgd (by omega) (fun _ _ e => e) (fun h' t tk hk => fin h' t tk hk) hz
  | tup _ _ =>
    cases rv
    exact repr_of_reads' rd hs (PyData.noDict_hsm (PyData.hasDict_of_canLay _ hl)) hgd (by omega) (fun _ _ e => e) (fun h' t tk hk => fin h' t tk hk) hz
end Lp
namespace Lp
open PySem PySem.Spec PyProof.Rows L2
/-! ### parts of a text -/
def lcScope : Expr → Scope
  | .ListComp _ _ sc _ => sc
  | _ => { kind := .function, names := [], isGenerator := false, isCoroutine := false }
def asgVal : Stmt → Expr
  | .Assign _ v _ => v
  | _ => .Constant .none 0 ⟨0, 0, 0, 0⟩
/-! ### ranks and signs -/
def rk (ns : List Int) (x : Int) : Int := 1 + ((ns.filter fun y => decide (y < x)).length : Nat)
def ranksL (ns : List Int) : List Int := ns.map (rk ns)
theorem filter_lt_none : ∀ {l : List Int} {x : Int}, (∀ y ∈ l, x ≤ y) → (l.filter fun y => decide (y < x)) = []
  | [], _, _ => rfl
  | a :: l, x, h => by
    rw [List.filter_cons, decide_eq_false (by have := h a (List.mem_cons_self ..); omega)]
    exact filter_lt_none fun y hy => h y (List.mem_cons_of_mem _ hy)
theorem filter_sorted : ∀ {l : List Int} {j : Nat} (h : j < l.length), l.Pairwise (· ≤ ·) → l.Nodup → (l.filter fun y => decide (y < l[j])).length = j
  | a :: l, 0, _, hp, _ => by
    rw [List.pairwise_cons] at hp
    show ((a :: l).filter fun y => decide (y < a)).length = 0
    rw [filter_lt_none fun y hy => ?_]
    · rfl
    · rcases List.mem_cons.mp hy with z | z
      · omega
      · exact hp.1 y z
  | a :: l, j + 1, h, hp, hn => by
    rw [List.pairwise_cons] at hp
    rw [List.nodup_cons] at hn
    have h2 : j < l.length := Nat.lt_of_succ_lt_succ h
    show ((a :: l).filter fun y => decide (y < l[j])).length = j + 1
    have hm : l[j] ∈ l := List.getElem_mem h2
    have lt : a < l[j] := by
      have := hp.1 _ hm
      rcases Int.lt_or_eq_of_le this with z | z
      · exact z
      · rw [z] at hn
        exact absurd hm hn.1
    rw [List.filter_cons, decide_eq_true lt]
    show ((l.filter fun y => decide (y < l[j])).length) + 1 = j + 1
    rw [filter_sorted h2 hp.2 hn.2]
theorem rk_sorted {ns ms : List Int} (hp : ms.Perm ns) (hs : ms.Pairwise (· ≤ ·)) (hn : ms.Nodup) {j : Nat} (h : j < ms.length) : rk ns ms[j] = 1 + (j : Nat) := by
  unfold rk
  rw [← (hp.filter fun y => decide (y < ms[j])).length_eq, filter_sorted h hs hn]
def sg (b : Bool) : Str := if b then Str.ofString "1" else Str.ofString "0"
def sgL (ns : List Int) (h : Int) : List Str := ns.map fun x => sg (decide (h ≤ x))
def signS (ns : List Int) (h : Int) : Str := Txt.join (Str.ofString "") (sgL ns h)
theorem sgL_len (ns : List Int) (h : Int) : ((sgL ns h).map (·.length)).sum + (sgL ns h).length * (Str.ofString "").length ≤ ns.length := by
  have e0 : (Str.ofString "").length = 0 := by decide +kernel
  rw [e0, Nat.mul_zero, Nat.add_zero]
  unfold sgL
  induction ns with
  | nil => exact Nat.le_refl _
  | cons a l ih =>
    rw [List.map_cons, List.map_cons, List.sum_cons, List.length_cons]
    have e1 : (sg (decide (h ≤ a))).length = 1 := by
      unfold sg
      split <;> decide +kernel
    rw [e1]
    omega
theorem take_succ_map {α β : Type} {f : α → β} {l : List α} {i : Nat} (h : i < l.length) : ((l.take (i + 1)).map f) = (l.take i).map f ++ [f l[i]] := by
  rw [List.take_add_one, List.getElem?_eq_getElem h, List.map_append]
  rfl
theorem take_succ_filter {p : Int → Bool} {l : List Int} {i : Nat} (h : i < l.length) : ((l.take (i + 1)).filter p) = if p l[i] = true then (l.take i).filter p ++ [l[i]] else (l.take i).filter p := by
  rw [List.take_add_one, List.getElem?_eq_getElem h, List.filter_append]
  show _ ++ ([l[i]].filter p) = _
  cases hp : p l[i] with
  | true => rw [if_pos rfl]; simp [hp]
  | false => rw [if_neg (by decide)]; simp [hp]
end Lp
namespace Lp
open PySem PySem.Spec PyProof.Rows L2
/-! ### repr of rows -/
abbrev rowS (ns : List Int) : Str := (PyData.tuple (ns.map PyData.int)).shown
theorem small_log {x : Int} (h : 1 ≤ x ∧ x ≤ 999) : x.natAbs.log2 < 1920 := by
  have h1 : x.natAbs < 2 ^ 10 := by omega
  have h2 := (Nat.log2_lt (by omega)).mpr h1
  omega
theorem showable_ints : ∀ {ns : List Int}, (∀ x ∈ ns, x.natAbs.log2 < 1920) → PyData.showableAll (ns.map PyData.int) = true
  | [], _ => by simp only [List.map_nil, PyData.showableAll]
  | n :: ns, h => by
    simp only [List.map_cons, PyData.showableAll, PyData.showable, Bool.and_eq_true]
    exact ⟨decide_eq_true (h n (List.mem_cons_self ..)), showable_ints fun x hx => h x (List.mem_cons_of_mem _ hx)⟩
theorem piled_ints : ∀ {ns : List Int}, (∀ x ∈ ns, x.natAbs.log2 < 1920) → piled (PyData.shownAll (ns.map PyData.int)) ≤ 1923 * ns.length
  | [], _ => by simp only [List.map_nil, PyData.shownAll, piled_nil, List.length_nil]; omega
  | n :: ns, h => by
    simp only [List.map_cons, PyData.shownAll, PyData.shown, piled_cons, List.length_cons]
    have h1 := int_text_len_1921 (h n (List.mem_cons_self ..))
    have h2 := piled_ints fun x hx => h x (List.mem_cons_of_mem _ hx)
    have h3 : (toString n : Str).length ≤ 1921 := h1
    omega
theorem row_dep (ns : List Int) : (PyData.tuple (ns.map PyData.int)).depth ≤ 60 := by
  simp only [PyData.depth, depth_ints]
  decide
theorem row_showI {ns : List Int} (hx : ∀ x ∈ ns, x.natAbs.log2 < 1920) : (PyData.tuple (ns.map PyData.int)).showable = true := by
  simp only [PyData.showable]
  exact showable_ints hx
theorem row_lenI {ns : List Int} (hl : ns.length ≤ 1000) (hx : ∀ x ∈ ns, x.natAbs.log2 < 1920) : (PyData.tuple (ns.map PyData.int)).shown.length ≤ sizeLine := by
  simp only [PyData.shown]
  have h1 := fmt_text (PyData.shownAll (ns.map PyData.int))
  have h2 := piled_ints hx
  rw [sizeLine_eq]
  omega
theorem row_show {ns : List Int} (r : Row ns) : (PyData.tuple (ns.map PyData.int)).showable = true := row_showI fun x hx => small_log (r.rng x hx)
theorem row_len {ns : List Int} (r : Row ns) : (PyData.tuple (ns.map PyData.int)).shown.length ≤ sizeLine := row_lenI (Nat.le_trans r.most (by decide)) fun x hx => small_log (r.rng x hx)
theorem run_mem (b : Bool) : ∀ (xs l s : List Int) (x : Int), (xs.foldl (stepW b) (l, s, x)).2.2 ∈ x :: xs
  | [], l, s, x => List.mem_cons_self ..
  | p :: xs, l, s, x => by
    rw [List.foldl_cons, show stepW b (l, s, x) p = (if takes b p x = true then (l ++ [x], s ++ [x], p) else (l ++ [p], s, x)) from rfl]
    split
    · exact List.mem_cons_of_mem _ (run_mem b xs _ _ p)
    · rcases List.mem_cons.mp (run_mem b xs (l ++ [p]) s x) with z | z
      · rw [z]
        exact List.mem_cons_self ..
      · exact List.mem_cons_of_mem _ (List.mem_cons_of_mem _ z)
theorem takes_eq {b : Bool} {p s : Int} (h : p ≠ s) : takes b p s = (decide (s < p) == b) := by
  unfold takes
  cases b with
  | true =>
    rw [if_pos rfl]
    cases decide (s < p) <;> rfl
  | false =>
    rw [if_neg (by decide)]
    by_cases z : s < p
    · rw [decide_eq_true z, decide_eq_false (by omega)]
      rfl
    · rw [decide_eq_false z, decide_eq_true (by omega)]
      rfl
theorem kindT (b : Bool) : decide (V.str (ltr b) = V.str (Str.ofString "T")) = b := by
  rw [ltrT]
  cases b with
  | true => exact decide_eq_true rfl
  | false => exact decide_eq_false fun z => absurd (ltr_inj (V.str.inj z)) (by decide)
theorem bl_eq (x y : Bool) : decide (V.bl x = V.bl y) = (x == y) := by
  cases x <;> cases y <;> rfl
end Lp
namespace Lp
open PySem PySem.Spec PyProof.Rows L2
/-! ### who sits down -/
def recB (b : Bool) (E : List Int) (p : Int) : Bool := E.all fun o => decide (o < p) == b
def dueUp (b : Bool) (ns : List Int) : Nat → List Int
  | 0 => []
  | i + 1 => if recB b (ns.take i) (ns.getD i 0) = true then dueUp b ns i ++ [ns.getD i 0] else dueUp b ns i
/-- s is the greatest (the least) so far -/
def Ext (b : Bool) (s : Int) (E : List Int) : Prop := s ∈ E ∧ ∀ o ∈ E, if b then o ≤ s else s ≤ o
theorem recB_takes {b : Bool} {s p : Int} {E : List Int} (h : Ext b s E) (hp : p ∉ E) : recB b E p = takes b p s := by
  obtain ⟨hs, he⟩ := h
  unfold recB takes
  cases b with
  | true =>
    rw [if_pos rfl]
    by_cases z : s < p
    · rw [decide_eq_true z, List.all_eq_true]
      intro o ho
      have h1 : o ≤ s := he o ho
      rw [decide_eq_true (by omega)]
      rfl
    · rw [decide_eq_false z, List.all_eq_false]
      refine ⟨s, hs, ?_⟩
      rw [decide_eq_false z]
      decide
  | false =>
    rw [if_neg (by decide)]
    have ne : p ≠ s := fun e => hp (e ▸ hs)
    by_cases z : p < s
    · rw [decide_eq_true z, List.all_eq_true]
      intro o ho
      have h1 : s ≤ o := he o ho
      rw [decide_eq_false (by omega)]
      rfl
    · rw [decide_eq_false z, List.all_eq_false]
      refine ⟨s, hs, ?_⟩
      rw [decide_eq_true (by omega)]
      decide
theorem run_ext (b : Bool) (x : Int) (xs : List Int) : ∀ i, i ≤ xs.length → Ext b ((xs.take i).foldl (stepW b) ([], [], x)).2.2 (x :: xs.take i)
  | 0, _ => ⟨List.mem_cons_self .., fun o ho => by
      rw [List.take_zero] at ho
      rw [List.mem_singleton.mp ho]
      show if b then x ≤ x else x ≤ x
      split <;> exact Int.le_refl _⟩
  | i + 1, h => by
    have lt : i < xs.length := h
    obtain ⟨hs, he⟩ := run_ext b x xs i (Nat.le_of_lt lt)
    rw [fold_take (List.getElem?_eq_getElem lt)]
    have tk : x :: xs.take (i + 1) = (x :: xs.take i) ++ [xs[i]] := by
      rw [List.take_add_one, List.getElem?_eq_getElem lt]
      rfl
    rw [tk]
    generalize (xs.take i).foldl (stepW b) ([], [], x) = r at hs he
    rw [show stepW b r xs[i] = (if takes b xs[i] r.2.2 = true then (r.1 ++ [r.2.2], r.2.1 ++ [r.2.2], xs[i]) else (r.1 ++ [xs[i]], r.2.1, r.2.2)) from rfl]
    by_cases ht : takes b xs[i] r.2.2 = true
    · rw [if_pos ht]
      refine ⟨List.mem_append_right _ (List.mem_singleton_self _), fun o ho => ?_⟩
      show if b then o ≤ xs[i] else xs[i] ≤ o
      unfold takes at ht
      cases b with
      | true =>
        rw [if_pos rfl] at ht ⊢
        have h1 := of_decide_eq_true ht
        rcases List.mem_append.mp ho with z | z
        · have h2 : o ≤ r.2.2 := he o z
          omega
        · rw [List.mem_singleton.mp z]
          omega
      | false =>
        rw [if_neg (by decide)] at ht ⊢
        have h1 := of_decide_eq_true ht
        rcases List.mem_append.mp ho with z | z
        · have h2 : r.2.2 ≤ o := he o z
          omega
        · rw [List.mem_singleton.mp z]
          omega
    · rw [if_neg ht]
      refine ⟨List.mem_append_left _ hs, fun o ho => ?_⟩
      show if b then o ≤ r.2.2 else r.2.2 ≤ o
      unfold takes at ht
      cases b with
      | true =>
        rw [if_pos rfl] at ht ⊢
        have h1 : ¬ r.2.2 < xs[i] := fun z => ht (decide_eq_true z)
        rcases List.mem_append.mp ho with z | z
        · exact he o z
        · rw [List.mem_singleton.mp z]
          omega
      | false =>
        rw [if_neg (by decide)] at ht ⊢
        have h1 : ¬ xs[i] < r.2.2 := fun z => ht (decide_eq_true z)
        rcases List.mem_append.mp ho with z | z
        · exact he o z
        · rw [List.mem_singleton.mp z]
          omega
theorem dueUp_run (b : Bool) {x : Int} {xs : List Int} (nd : (x :: xs).Nodup) : ∀ i, i ≤ xs.length → dueUp b (x :: xs) (i + 1) = ((xs.take i).foldl (stepW b) ([], [], x)).2.1 ++ [((xs.take i).foldl (stepW b) ([], [], x)).2.2]
  | 0, _ => rfl
  | i + 1, h => by
    have lt : i < xs.length := h
    have ih := dueUp_run b nd i (Nat.le_of_lt lt)
    have ex := run_ext b x xs i (Nat.le_of_lt lt)
    have gd : (x :: xs).getD (i + 1) 0 = xs[i] := by
      rw [List.getD_cons_succ, List.getD_eq_getElem?_getD, List.getElem?_eq_getElem lt]
      rfl
    have hp : xs[i] ∉ x :: xs.take i := fun hm => by
      rw [List.nodup_cons] at nd
      rcases List.mem_cons.mp hm with z | z
      · rw [← z] at nd
        exact nd.1 (List.getElem_mem lt)
      · obtain ⟨j, hj, e⟩ := List.mem_take_iff_getElem.mp z
        have := (List.getElem_inj nd.2).mp e
        omega
    show (if recB b ((x :: xs).take (i + 1)) ((x :: xs).getD (i + 1) 0) = true then dueUp b (x :: xs) (i + 1) ++ [(x :: xs).getD (i + 1) 0] else dueUp b (x :: xs) (i + 1)) = _
    rw [gd, show (x :: xs).take (i + 1) = x :: xs.take i from rfl, recB_takes ex hp, ih, fold_take (List.getElem?_eq_getElem lt)]
    generalize (xs.take i).foldl (stepW b) ([], [], x) = r
    rw [show stepW b r xs[i] = (if takes b xs[i] r.2.2 = true then (r.1 ++ [r.2.2], r.2.1 ++ [r.2.2], xs[i]) else (r.1 ++ [xs[i]], r.2.1, r.2.2)) from rfl]
    split <;> rfl
theorem dueUp_seat (b : Bool) {ns : List Int} (r : Row ns) : dueUp b ns ns.length = seatL b ns := by
  cases ns with
  | nil => exact absurd r.pos (by decide)
  | cons x xs =>
    have z := dueUp_run b r.nd xs.length (Nat.le_refl _)
    rw [List.take_length] at z
    exact z
theorem dueUp_len (b : Bool) (ns : List Int) : ∀ i, (dueUp b ns i).length ≤ i
  | 0 => Nat.le_refl _
  | i + 1 => by
    have := dueUp_len b ns i
    unfold dueUp
    split
    · rw [List.length_append]
      show _ + 1 ≤ _
      omega
    · omega
theorem dueUp_succ (b : Bool) {ns : List Int} {i : Nat} (h : i < ns.length) : dueUp b ns (i + 1) = if recB b (ns.take i) ns[i] = true then dueUp b ns i ++ [ns[i]] else dueUp b ns i := by
  have gd : ns.getD i 0 = ns[i] := by
    rw [List.getD_eq_getElem?_getD, List.getElem?_eq_getElem h]
    rfl
  show (if recB b (ns.take i) (ns.getD i 0) = true then dueUp b ns i ++ [ns.getD i 0] else dueUp b ns i) = _
  rw [gd]
/-- the last of the row behind a pass is the last who sat -/
theorem lasts (b : Bool) {ns : List Int} (h : 1 ≤ ns.length) : ∃ (z : Int) (ps ss : List Int), passL b ns = ps ++ [z] ∧ seatL b ns = ss ++ [z] := by
  cases ns with
  | nil => exact absurd h (by decide)
  | cons x xs => exact ⟨_, _, _, rfl, rfl⟩
theorem seat_mem (b : Bool) {ns : List Int} (r : Row ns) : ∀ x ∈ seatL b ns, x ∈ ns := by
  rw [← dueUp_seat b r]
  have go : ∀ i, i ≤ ns.length → ∀ x ∈ dueUp b ns i, x ∈ ns := by
    intro i
    induction i with
    | zero => intro _ x hx; cases hx
    | succ i ih =>
      intro h x hx
      rw [dueUp_succ b h] at hx
      split at hx
      · rcases List.mem_append.mp hx with z | z
        · exact ih (Nat.le_of_succ_le h) x z
        · rw [List.mem_singleton.mp z]
          exact List.getElem_mem _
      · exact ih (Nat.le_of_succ_le h) x hx
  exact go _ (Nat.le_refl _)
theorem seat_log (b : Bool) {ns : List Int} (r : Row ns) : ∀ x ∈ seatL b ns, x.natAbs.log2 < 1920 := fun x hx => small_log (r.rng x (seat_mem b r x hx))
theorem seat_le (b : Bool) {ns : List Int} (r : Row ns) : (seatL b ns).length ≤ 1000 := by
  rw [← dueUp_seat b r]
  have h1 := dueUp_len b ns ns.length
  have h2 := r.most
  omega
theorem all_recB (b : Bool) (E : List Int) (p : Int) : (E.map fun o => decide (o < p) == b).all id = recB b E p := by
  rw [List.all_map]
  rfl
end Lp
namespace Lp
open PySem PySem.Spec PyProof.Rows L2
/-! ### texts of words -/
theorem fold_ltr : ∀ (bs : List Bool) (acc : Array Nat), (bs.map ltr).foldl (fun acc p => acc ++ (Str.ofString "").cps ++ p.cps) acc = acc ++ (bs.map code).toArray
  | [], acc => by simp
  | b :: bs, acc => by
    rw [List.map_cons, List.foldl_cons, fold_ltr bs]
    have e0 : (Str.ofString "").cps = #[] := by decide +kernel
    rw [e0]
    apply Array.ext'
    simp
theorem join_wd : ∀ bs : List Bool, Txt.join (Str.ofString "") (bs.map ltr) = wd bs
  | [] => by decide +kernel
  | b :: bs => by
    show (⟨(bs.map ltr).foldl (fun acc p => acc ++ (Str.ofString "").cps ++ p.cps) (ltr b).cps⟩ : Str) = wd (b :: bs)
    rw [fold_ltr]
    show (⟨#[code b] ++ (bs.map code).toArray⟩ : Str) = ⟨((b :: bs).map code).toArray⟩
    congr 1
    apply Array.ext'
    simp
theorem fold_wd (bs : List Bool) : ∀ (n : Nat) (acc : Array Nat), (List.replicate n (wd bs).cps).foldl (· ++ ·) acc = acc ++ ((List.replicate n bs).flatten.map code).toArray
  | 0, acc => by simp
  | n + 1, acc => by
    rw [List.replicate_succ, List.foldl_cons, fold_wd bs n, List.replicate_succ]
    apply Array.ext'
    simp [wd]
theorem mul_wd {bs : List Bool} {n : Nat} (hn : 2 ≤ n) (hb : bs ≠ []) : Txt.mul (wd bs) ((n : Nat) : Int) = wd (List.replicate n bs).flatten := by
  unfold Txt.mul
  rw [if_neg (by omega)]
  have e1 : ((((n : Nat) : Int) == 1) || ((wd bs).length == 0)) = false := by
    rw [Bool.or_eq_false_iff]
    refine ⟨beq_eq_false_iff_ne.mpr (by omega), beq_eq_false_iff_ne.mpr ?_⟩
    rw [wd_len]
    intro z
    exact hb (List.length_eq_zero_iff.mp z)
  rw [if_neg (by rw [e1]; decide), Int.toNat_natCast, fold_wd]
  unfold wd
  congr 1
  simp
theorem sumlen_ltr (bs : List Bool) : ((bs.map ltr).map (·.length)).sum + (bs.map ltr).length * (Str.ofString "").length = bs.length := by
  have e0 : (Str.ofString "").length = 0 := by decide +kernel
  rw [e0, Nat.mul_zero, Nat.add_zero]
  induction bs with
  | nil => rfl
  | cons b bs ih =>
    rw [List.map_cons, List.map_cons, List.sum_cons, ih, List.length_cons]
    show 1 + bs.length = bs.length + 1
    omega
theorem flat_len (n : Nat) (bs : List Bool) : (List.replicate n bs).flatten.length = n * bs.length := by
  induction n with
  | zero => simp
  | succ n ih =>
    rw [List.replicate_succ, List.flatten_cons, List.length_append, ih, Nat.succ_mul]
    omega
theorem wdTTSTS : Str.ofString "TTSTS" = wd [true, true, false, true, false] := by decide +kernel
theorem wdS : Str.ofString "S" = wd [false] := by decide +kernel
theorem wdNil : Str.ofString "" = wd [] := by decide +kernel
theorem ltr_wd (b : Bool) : ltr b = wd [b] := rfl
end Lp
namespace Lp
open PySem PySem.Spec PyProof.Rows L2
/-! ### rows told -/
def rowB (xs : List V) : Bool := decide (1 ≤ xs.length) && (decide (xs.length ≤ 12) && (List.range xs.length).all (okAt xs))
theorem rowB_true {xs : List V} (h1 : 1 ≤ xs.length) (h2 : xs.length ≤ 12) (h : ∀ i, i < xs.length → okAt xs i = true) : rowB xs = true := by
  unfold rowB
  rw [decide_eq_true h1, decide_eq_true h2, Bool.true_and, Bool.true_and, List.all_eq_true]
  exact fun i hi => h i (List.mem_range.mp hi)
theorem rowB_bad {xs : List V} {i : Nat} (hi : i < xs.length) (h : okAt xs i = false) : rowB xs = false := by
  unfold rowB
  have e : (List.range xs.length).all (okAt xs) = false := by
    rw [List.all_eq_false]
    exact ⟨i, List.mem_range.mpr hi, by rw [h]; decide⟩
  rw [e, Bool.and_false, Bool.and_false]
theorem rowB_len {xs : List V} (h : ¬ (1 ≤ xs.length ∧ xs.length ≤ 12)) : rowB xs = false := by
  unfold rowB
  by_cases h1 : 1 ≤ xs.length
  · rw [decide_eq_false (fun z => h ⟨h1, z⟩), Bool.false_and, Bool.and_false]
  · rw [decide_eq_false h1, Bool.false_and]
theorem Row.rowB {ns : List Int} (r : Row ns) : rowB (ns.map V.int) = true :=
  rowB_true (by rw [List.length_map]; exact r.pos) (by rw [List.length_map]; exact r.most) fun i _ => r.ok i
/-! ### odd values -/
theorem Tv.kp {K : PySem.W.Frag} {a : Addr} {H H' : Hp} {v : V} {T : String} (t : Tv K H v T) (ne : v ≠ .ref a) (e : Kp a H H') : Tv K H' v T := by
  refine ⟨?_, t.mem⟩
  have go : ∀ {b : Addr} {o : HO}, v = .ref b → H b = some o → H' b = some o := fun {b o} ev h => e b o h fun z => ne (by rw [ev, z])
  cases t.ty with
  | base b =>
    cases b with
    | non => exact .base .non
    | bl x => exact .base (.bl x)
    | int i => exact .base (.int i)
    | str x => exact .base (.str x)
    | flt x => exact .base (.flt x)
    | lst h => exact .base (.lst (go rfl h))
    | frz h => exact .base (.frz (go rfl h))
    | tup h => exact .base (.tup (go rfl h))
    | dK h => exact .base (.dK (go rfl h))
    | dT h => exact .base (.dT (go rfl h))
  | byt b => exact .byt b
  | set h => exact .set (go rfl h)
  | kList h c => exact .kList h c
  | kTuple h c => exact .kTuple h c
  | kDict h c => exact .kDict h c
  | fTuple h => exact .fTuple (go rfl h)
  | fDict h => exact .fDict (go rfl h)
/-- typed, and not the pool itself -/
structure Od (K : PySem.W.Frag) (a : Addr) (H : Hp) (v : V) : Prop where
  ty : ∃ T, Tv K H v T
  ne : v ≠ .ref a
theorem Od.kp {K : PySem.W.Frag} {a : Addr} {H H' : Hp} {v : V} (o : Od K a H v) (e : Kp a H H') : Od K a H' v := by
  obtain ⟨⟨T, t⟩, ne⟩ := o
  exact ⟨⟨T, t.kp ne e⟩, ne⟩
theorem Od.int {K : PySem.W.Frag} {a : Addr} {H : Hp} (i : Int) : Od K a H (.int i) := ⟨⟨_, Tv.int i⟩, fun z => nomatch z⟩
theorem Od.bl {K : PySem.W.Frag} {a : Addr} {H : Hp} (b : Bool) : Od K a H (.bl b) := ⟨⟨"bool", .base (.bl b), by decide⟩, fun z => nomatch z⟩
theorem Od.non {K : PySem.W.Frag} {a : Addr} {H : Hp} : Od K a H .non := ⟨⟨"NoneType", .base .non, by decide⟩, fun z => nomatch z⟩
theorem Od.str {K : PySem.W.Frag} {a : Addr} {H : Hp} (x : Str) : Od K a H (.str x) := ⟨⟨"str", .base (.str x), by decide⟩, fun z => nomatch z⟩
theorem Od.ref {K : PySem.W.Frag} {a b : Addr} {H : Hp} {T : String} (t : Tv K H (.ref b) T) (ne : b ≠ a) : Od K a H (.ref b) := ⟨⟨T, t⟩, fun z => ne (V.ref.inj z)⟩
theorem Tv.lst {K : PySem.W.Frag} {b : Addr} {H : Hp} {xs : List V} (h : H b = some (.lst xs)) : Tv K H (.ref b) "list" := ⟨.base (.lst h), by decide⟩
theorem Tv.dct {K : PySem.W.Frag} {b : Addr} {H : Hp} {kvs : List (Key × V)} (h : H b = some (.dK kvs)) : Tv K H (.ref b) "dict" := ⟨.base (.dK h), by decide⟩
/-- what may be asked: no tuple, or a tuple of such -/
def Askd (K : PySem.W.Frag) (a : Addr) (H : Hp) (v : V) : Prop := (∃ T, Tv K H v T ∧ T ≠ "tuple" ∧ v ≠ .ref a) ∨ ∃ (b : Addr) (xs : List V), v = .ref b ∧ b ≠ a ∧ SqT K H b xs ∧ xs.length ≤ 1000 ∧ ∀ x ∈ xs, Od K a H x
theorem Askd.tup {K : PySem.W.Frag} {a b : Addr} {H : Hp} {xs : List V} (h : H b = some (.tup xs)) (ne : b ≠ a) (hl : xs.length ≤ 1000) (hx : ∀ x ∈ xs, Od K a H x) : Askd K a H (.ref b) := .inr ⟨b, xs, rfl, ne, .inl (.inl h), hl, hx⟩
theorem od_upd {K : PySem.W.Frag} {a p : Addr} {H : Hp} {o : HO} {v : V} (h : Od K a H v) (np : H p = none) : Od K a (upd H p o) v := h.kp (.of_same (same_upd np))
theorem od_ints {K : PySem.W.Frag} {a : Addr} {H : Hp} {ns : List Int} : ∀ x ∈ ns.map V.int, Od K a H x := fun x hx => by
  obtain ⟨n, _, rfl⟩ := List.mem_map.mp hx
  exact Od.int n
/-- a draw's place in a list -/
theorem pick {xs : List V} {d : Int} {n : Nat} (h0 : 0 ≤ d) (h1 : d < n) (hn : xs.length = n) : ∃ v, atI xs d = some v ∧ v ∈ xs := by
  have lt : d.toNat < xs.length := by omega
  obtain ⟨k, rfl⟩ : ∃ k : Nat, d = (k : Nat) := ⟨d.toNat, by omega⟩
  have lk : k < xs.length := by omega
  exact ⟨xs[k], atI_nat (List.getElem?_eq_getElem lk), List.getElem_mem lk⟩
theorem cut_mem {xs : List V} {lo hi : Option Int} {x : V} (h : x ∈ cutV xs lo hi) : x ∈ xs := List.mem_of_mem_drop (List.mem_of_mem_take h)
theorem cut_len (xs : List V) (lo hi : Option Int) : (cutV xs lo hi).length ≤ xs.length := by
  unfold cutV
  rw [List.length_take, List.length_drop]
  omega
theorem notwhole_hi {n k : Nat} (h : k < n) (lo : Option Int) : ¬ (HT.sIx n 0 lo = 0 ∧ HT.sIx n n (some (k : Nat)) = n) := fun z => by
  have e := z.2
  rw [HT.sIx_nat] at e
  omega
theorem SqT.kp {K : PySem.W.Frag} {a b : Addr} {H H' : Hp} {xs : List V} (e : Kp a H H') (ne : b ≠ a) (h : SqT K H b xs) : SqT K H' b xs := by
  rcases h with (h | ⟨o, h⟩) | h
  · exact .inl (.inl (e _ _ h ne))
  · exact .inl (.inr ⟨o, e _ _ h ne⟩)
  · exact .inr h
theorem Askd.kp {K : PySem.W.Frag} {a : Addr} {H H' : Hp} {v : V} (h : Askd K a H v) (e : Kp a H H') : Askd K a H' v := by
  rcases h with ⟨T, t, nt, ne⟩ | ⟨b, xs, rfl, ne, hS, hl, hx⟩
  · exact .inl ⟨T, t.kp ne e, nt, ne⟩
  · exact .inr ⟨b, xs, rfl, ne, SqT.kp e ne hS, hl, fun x hm => (hx x hm).kp e⟩
section
variable {X : Cx}
def rCatB (K : PySem.W.Frag) : R2 := fun x y H Q => ∃ a b xs ys, x = .ref a ∧ y = .ref b ∧ SqT K H a xs ∧ SqT K H b ys ∧ xs.length + ys.length ≤ sizeLine ∧
  ∀ (p : Addr) (G : Hp), Same H G → SqT K G p (xs ++ ys) → (p = a ∨ p = b ∨ H p = none) → Q (.ref p) G
theorem op_catB : OpR X (binaryOp .Add) (rCatB X.K) := by
  intro pins s σ H x y v u Q I rx ry h
  obtain ⟨a, b, xs, ys, rfl, rfl, ha, hb, hz, q⟩ := h
  refine op_catA pins s σ H _ _ v u Q I rx ry ⟨a, b, xs, ys, rfl, rfl, ha, hb, hz, fun e => ?_, fun _ e => ?_, fun _ _ p np => ?_⟩
  · subst e
    exact q b H (Same.refl H) hb (.inr (.inl rfl))
  · subst e
    refine q a H (Same.refl H) ?_ (.inl rfl)
    rw [List.append_nil]
    exact ha
  · exact q p _ (same_upd np) (.inl (.inl upd_same)) (.inr (.inr np))
def rSlB' (K : PySem.W.Frag) : V → Option Int → Option Int → Hp → VK → Prop := fun x lo hi H Q => ∃ a xs, x = .ref a ∧ SqT K H a xs ∧
  ∀ (p : Addr) (G : Hp), Same H G → SqT K G p (cutV xs lo hi) → (p = a ∨ H p = none) → Q (.ref p) G
theorem cut_whole {xs : List V} {lo hi : Option Int} (h : HT.sIx xs.length 0 lo = 0 ∧ HT.sIx xs.length xs.length hi = xs.length) : cutV xs lo hi = xs := by
  unfold cutV
  rw [h.1, h.2, Nat.sub_zero]
  show xs.take xs.length = xs
  exact List.take_length
theorem sl_tupB : SlR X (rSlB' X.K) := by
  intro pins s σ H x v vl vu lo hi sl Q I rx hs pl pu h
  obtain ⟨a, xs, rfl, ha, q⟩ := h
  refine sl_tupA pins s σ H _ v vl vu lo hi sl Q I rx hs pl pu ⟨a, xs, rfl, ha, fun z => ?_, fun _ p np => ?_⟩
  · refine q a H (Same.refl H) ?_ (.inl rfl)
    rw [cut_whole z]
    exact ha
  · exact q p _ (same_upd np) (.inl (.inl upd_same)) (.inr np)
end
end Lp
namespace Lp
open PySem PySem.Spec PyProof.Rows L2
/-! ### behind a written number a token is out
PR, PRs, PRS: as the library's readings of an expression, of arguments, of a statement, and the end says besides that some token is out. -/
section
variable {X : Cx} {e o i : Expr} {es : List Expr} {te ti : TE} {ta : TA} {pos p : Pos}
abbrev out1 (s : Shared) : Prop := 1 ≤ s.toks
def PR (X : Cx) (e : Expr) (t : TE) : Prop :=
  ∀ pins s σ H (Q : VK), Inv X pins σ H s → t σ H Q → wpAny (model X.prog X.w) X.A (eval e X.env) (fun u s' => out1 s' ∧ EP X pins σ Q u s') X.xe s
def PRs (X : Cx) (es : List Expr) (t : TA) : Prop :=
  ∀ at_ pins s σ H (Q : List V → Hp → Prop), Inv X pins σ H s → t σ H Q → wpAny (model X.prog X.w) X.A (spliced (backTo at_ (starEach es X.env))) (fun us s' => out1 s' ∧ AP X pins σ Q us s') X.xe s
def PRS (X : Cx) (st : Stmt) (t : TS) : Prop :=
  ∀ pins s σ H (D : Ends), Inv X pins σ H s → t D σ H → wpAny (model X.prog X.w) X.A (exec st X.env) (fun f s' => out1 s' ∧ SP X pins D f s') X.xe s
/-- once out, a token stays out -/
theorem stays {α : Type} {t : Sem α} {Q : α → Shared → Prop} {E : Value → Shared → Prop} {s : Shared} (k : out1 s) (h : wpAny (model X.prog X.w) X.A t Q E s) : wpAny (model X.prog X.w) X.A t (fun a s' => out1 s' ∧ Q a s') E s :=
  wpAny_mono (PySem.wpAny_toks_of k h) (fun _ _ z => z) fun _ _ z => z.2
theorem pr_int {n : Int} {j : Nat} : PR X (.Constant (.int n) j pos) (tC (.int n)) := fun _ s _ H _ I q => wpAny_Constant_int ⟨(Nat.succ_le_succ (Nat.zero_le s.toks) : 1 ≤ s.toks + 1), .int n, H, I.tok _, ⟨_, rfl⟩, q⟩
theorem prs_here (a : PR X e te) (r : PA X es ta) (hs : starEach (e :: es) X.env = (false, eval e X.env) :: starEach es X.env := by rfl) : PRs X (e :: es) (tCons te ta) := fun at_ pins s σ H Q I h => by
  rw [hs]
  refine Calls.spliced_cons (wpAny_mono (a pins s σ H _ I h) (fun u s1 z => ?_) fun _ _ z => z)
  obtain ⟨k, x, H1, I1, rx, q⟩ := z
  refine wpAny_mono (stays k (r.run at_ pins s1 σ H1 _ I1 q)) (fun us s2 z2 => ?_) fun _ _ z2 => z2
  exact ⟨z2.1, let ⟨xs, H2, I2, rs, q2⟩ := z2.2; ⟨x :: xs, H2, I2, .cons rx rs, q2⟩⟩
theorem prs_later (a : PE X e te) (r : PRs X es ta) (hs : starEach (e :: es) X.env = (false, eval e X.env) :: starEach es X.env := by rfl) : PRs X (e :: es) (tCons te ta) := fun at_ pins s σ H Q I h => by
  rw [hs]
  refine Calls.spliced_cons (wpAny_mono (a.run pins s σ H _ I h) (fun u s1 z => ?_) fun _ _ z => z)
  obtain ⟨x, H1, I1, rx, q⟩ := z
  refine wpAny_mono (r at_ pins s1 σ H1 _ I1 q) (fun us s2 z2 => ?_) fun _ _ z2 => z2
  exact ⟨z2.1, let ⟨xs, H2, I2, rs, q2⟩ := z2.2; ⟨x :: xs, H2, I2, .cons rx rs, q2⟩⟩
/-- f(..), one of its arguments with a written number -/
theorem pr_call {k j : Nat} {x : Str} {st : Stmt} {ps : List Str} {sp : Sp} (c : Cl X.prog X.w X.K X.mg X.base k x st ps sp) (hr : Room j X.A) (hk : k ≤ j) (hg : Gl X x) (a : PRs X (e :: es) ta)
    (hdb : (x == ("__debug__" : Str)) = false := by decide) (h1 : starEach (e :: es) X.env = (false, eval e X.env) :: starEach es X.env := by rfl) (h2 : (backTo pos (starEach es X.env)).any (·.1) = false := by rfl) :
    PR X (.Call (.Name x p) (e :: es) [] pos) (tCall sp [] E0 ta) := fun pins s σ H Q I h => by
  obtain ⟨f, fd, F, G, hm, b⟩ := c.ex
  have args := wpAny_mono (a pos pins s σ H _ I h) (E' := X.xe) (Q' := fun us s1 => X.K.In s1.heap ∧ wpAny (model X.prog X.w) X.A (call (.ref f) us) (fun u s' => out1 s' ∧ EP X pins σ Q u s') X.xe s1) (fun us s1 z => by
    obtain ⟨k1, vs, H1, I1, rs, q⟩ := z
    exact ⟨I1.kIn, stays k1 (run_fn G (hr.mono hk) b .nil pass0 I1 rs q)⟩) fun _ _ z => z
  exact wpAny_Call_Name_kw (ld_glob I hg hm (PySem.W.callWith_K (h₀ := X.base) I.ok.mod.kin F.kp args h1 h2) hdb)
/-- x = e -/
theorem pr_set {n : Nat} {x : Str} {pos' : Pos} (hN : X.N.Nodup) (hi : X.N[n]? = some x) (hx : Loc X.env.scope x) (a : PR X e te) (hs : swapsWith e (some (.Name x pos')) pos.line X.env = pure false := by rfl)
    (hf : X.fn x = true ∨ X.env.scope.names.lookup x = some .local := by first | exact .inl rfl | exact .inr rfl) : PRS X (.Assign [.Name x pos'] e pos) (tAsg te (gName n)) := fun pins s σ H D I h =>
  wpAny_Assign_Name (wpAny_mono (a pins s σ H _ I h) (fun u s1 z => by
    obtain ⟨k, y, H1, I1, ry, q⟩ := z
    exact stays k (store_ok I1 hN hi hx ry (fun s2 I2 => ⟨_, H1, I2, q⟩) hf)) fun _ _ z => z) hs
theorem pss_out {st : Stmt} {rest : List Stmt} {t u : TS} (a : PRS X st t) (r : PSsT X rest u) : PSs X (st :: rest) (tSeq t u) := ⟨fun pins s σ H D I h => by
  refine wpAny_execs_cons (wpAny_mono (a pins s σ H { D with nx := u D } I h) (fun f s1 z => ?_) fun _ _ z => z)
  obtain ⟨k, z⟩ := z
  cases f
  case next =>
    obtain ⟨σ1, H1, I1, q⟩ := z
    exact r pins s1 σ1 H1 D k I1 q
  all_goals exact z⟩
/-- o[i], o with a written number -/
theorem pr_ix {r : V → V → Hp → VK → Prop} (hr : IxR X r) (a : PR X o te) (b : PE X i ti) (hs : PlainIx i) : PR X (.Subscript o i pos) (tOp r te ti) := fun pins s σ H Q I h =>
  Subscript_ (wpAny_mono (a pins s σ H _ I h) (fun v s1 z => by
    obtain ⟨k, x, H1, I1, rx, q⟩ := z
    refine wpAny_mono (stays k (b.run pins s1 σ H1 _ I1 q)) (fun u s2 z2 => ?_) fun _ _ z2 => z2
    obtain ⟨k2, y, H2, I2, ry, q2⟩ := z2
    exact stays k2 (hr o i pins s2 σ H2 x y v u Q I2 rx ry q2 (hs _ _))) fun _ _ z => z)
/-- [e, ..] -/
theorem pr_lst (a : PRs X es ta) : PR X (.List es pos) (tLst ta) := fun pins s σ H Q I h =>
  wpAny_List_spliced (wpAny_mono (a pos pins s σ H _ I h) (fun us s1 z => by
    obtain ⟨k, vs, H1, I1, rs, small, q⟩ := z
    have len : us.length ≤ sizeLine := rs.length ▸ small
    have new := I1.hok.fresh (Nat.le_refl s1.heap.objs.size)
    have J := I1.laid (t' := s1.toks) (o := .lst vs) (h' := s1.heap.push { cls := .type "list", data := .seq us.toArray 0 }) (fun _ _ z => Heap.get?_push_of_some _ z) (Nat.le_refl _) ⟨small, us, 0, rs, Heap.get?_push_size _ rfl⟩
    exact ⟨len, k, .ref s1.heap.objs.size, upd H1 s1.heap.objs.size (.lst vs), J, rfl, q _ new⟩) fun _ _ z => z)
end
/-! ### a, b = x, y, one token out -/
theorem two_of {v w : V} {us : List Value} (r : Vals [v, w] us) : ∃ u1 u2, us = [u1, u2] ∧ RelV v u1 ∧ RelV w u2 := by
  match us, r with
  | [u1, u2], .cons p (.cons q .nil) => exact ⟨u1, u2, rfl, p, q⟩
theorem pst_par {X : Cx} {n m : Nat} {x y : Str} {e1 e2 : Expr} {ta : TA} {p1 p2 p3 p4 pos : Pos} {c1 c2} (calm : X.calm = true) (nd : X.N.Nodup) (hn : X.N[n]? = some x) (hm : X.N[m]? = some y) (ne : n ≠ m)
    (lx : X.env.scope.names.lookup x = some .local) (ly : X.env.scope.names.lookup y = some .local) (a : PAT X [e1, e2] ta)
    (sw : swappedStores [.Tuple [.Name x p1, .Name y p2] c1 p3] (.Tuple [e1, e2] c2 p4) X.env = pure (some [x, y])) (so : swapsWithSole [.Tuple [.Name x p1, .Name y p2] c1 p3] (.Tuple [e1, e2] c2 p4) pos.line X.env = pure false := by rfl) :
    PST X (.Assign [.Tuple [.Name x p1, .Name y p2] c1 p3] (.Tuple [e1, e2] c2 p4) pos) (tPar n m ta) := fun pins s σ H D k I h => by
  -- what is stored, once both values stand
  have stores : ∀ (u1 u2 : Value) (s1 : Shared) (v w : V) (H1 : Hp), Inv X pins σ H1 s1 → RelV v u1 → RelV w u2 → D.nx ((σ.set n (some v)).set m (some w)) H1 →
      wpAny (model X.prog X.w) X.A (assignInOrder [fun z => bindName X.env y z, fun z => bindName X.env x z] [u2, u1] >>= fun _ => pure Flow.next) (SP X pins D) X.xe s1 := fun u1 u2 s1 v w H1 I1 r1 r2 q =>
    wpAny_bind (assignInOrder_cons (wpAny_bindName (store_ok I1 nd hm (.inl ly) r2 (fun s2 I2 => assignInOrder_cons (wpAny_bindName (store_ok I2 nd hn (.inl lx) r1 (fun s3 I3 => assignInOrder_nil (wpAny_pure
      ⟨_, H1, by rw [List.set_comm _ _ ne]; exact I3, q⟩)) (.inr lx)))) (.inr ly))))
  -- the pair is made and taken apart
  have made : ∀ (u1 u2 : Value) (s1 : Shared) (v w : V) (H1 : Hp), Inv X pins σ H1 s1 → RelV v u1 → RelV w u2 → D.nx ((σ.set n (some v)).set m (some w)) H1 →
      wpAny (model X.prog X.w) X.A (do rule "assign.swapped-stores"; let its ← unpackItems (.ref s1.heap.objs.size) 2 none; assignInOrder [fun z => bindName X.env y z, fun z => bindName X.env x z] its.reverse; pure Flow.next) (SP X pins D) X.xe
        { s1 with heap := s1.heap.push { cls := .type "tuple", data := .seq [u1, u2].toArray } } := fun u1 u2 s1 v w H1 I1 r1 r2 q => by
    have I2 := I1.kept (h' := s1.heap.push { cls := .type "tuple", data := .seq [u1, u2].toArray }) (t' := s1.toks) fun _ _ z => Heap.get?_push_of_some _ z
    refine wpAny_bind (wpAny_rule (wpAny_bind (unpackItems_tuple (items := #[u1, u2]) (I1.ok.hd calm) (IsTup.new s1.heap _) fun h2 same => ?_)))
    exact stores u1 u2 _ v w H1 (I2.kept (h' := h2) (t' := s1.toks) fun b o z => same b o (Nat.ne_of_lt (Heap.lt_size z)) z) r1 r2 q
  rw [exec_Assign_arm]
  refine wpAny_bind (wpAny_standAt ?_)
  rw [so]
  refine wpAny_bind (wpAny_pure ?_)
  simp only [Bool.false_eq_true, if_false]
  refine wpAny_bind (Tuple_ (wpAny_mono (a _ pins s σ H _ k I h) (fun us s1 z => ?_) fun _ _ z => z))
  obtain ⟨vs, H1, I1, rs, v, w, ev, q⟩ := z
  subst ev
  obtain ⟨u1, u2, eu, r1, r2⟩ := two_of rs
  subst eu
  refine wpAny_newObj_type ?_ (show [u1, u2].length ≤ sizeLine by show 2 ≤ sizeLine; decide)
  rw [sw]
  exact wpAny_bind (wpAny_pure (made u1 u2 s1 v w H1 I1 r1 r2 q))
theorem uni {k : Nat} {A : Around} (hr : Room k A) : A.units + 1 < cLine := by have := hr.un; omega
/-! ### texts of signs -/
def sgc : Bool → Nat
  | true => 49
  | false => 48
def sw (bs : List Bool) : Str := ⟨(bs.map sgc).toArray⟩
abbrev sl (b : Bool) : Str := ⟨#[sgc b]⟩
theorem sl1 : Str.ofString "1" = sl true := by decide +kernel
theorem sl0 : Str.ofString "0" = sl false := by decide +kernel
theorem sl_inj {a b : Bool} (h : sl a = sl b) : a = b := by
  cases a <;> cases b <;> first | rfl | exact absurd h (by decide +kernel)
theorem sw_len (bs : List Bool) : (sw bs).length = bs.length := by
  show (bs.map sgc).toArray.size = _
  rw [List.size_toArray, List.length_map]
theorem sw_get {bs : List Bool} {i c : Nat} (h : (sw bs).cps[i]? = some c) : ∃ b, bs[i]? = some b ∧ c = sgc b := by
  have h2 : (bs.map sgc)[i]? = some c := by
    rw [← List.getElem?_toArray]
    exact h
  rw [List.getElem?_map] at h2
  obtain ⟨b, e1, e2⟩ := Option.map_eq_some_iff.mp h2
  exact ⟨b, e1, e2.symm⟩
theorem sw_app (a b : List Bool) : sw a ++ sw b = sw (a ++ b) := by
  show (⟨(a.map sgc).toArray ++ (b.map sgc).toArray⟩ : Str) = ⟨((a ++ b).map sgc).toArray⟩
  rw [List.map_append, List.append_toArray]
theorem sw_nil : Str.ofString "" = sw [] := by decide +kernel
theorem sw_one (b : Bool) : sl b = sw [b] := by cases b <;> rfl
/-- the text behind replace of S, then of T -/
theorem repl1 (c d : Nat) : ∀ l : List Nat, StrLaws.replL [c] [d] l = l.map fun x => if x = c then d else x
  | [] => StrLaws.replL_nil
  | x :: l => by
    by_cases e : x = c
    · subst e
      rw [StrLaws.replL_hit (by simp) (by rfl), List.map_cons, if_pos rfl]
      exact congrArg (d :: ·) (repl1 x d l)
    · rw [StrLaws.replL_miss (y := [c]) (fun h => e (by have h2 : [x] = [c] := h; exact List.head_eq_of_cons_eq h2)), List.map_cons, if_neg e, repl1 c d l]
theorem repl_bits (bs : List Bool) : Txt.replace (Txt.replace (wd bs) (Str.ofString "S") (Str.ofString "0")) (Str.ofString "T") (Str.ofString "1") = sw bs := by
  have eS : Str.ofString "S" = ⟨#[83]⟩ := by decide +kernel
  have eT : Str.ofString "T" = ⟨#[84]⟩ := by decide +kernel
  have e0 : Str.ofString "0" = ⟨#[48]⟩ := by decide +kernel
  have e1 : Str.ofString "1" = ⟨#[49]⟩ := by decide +kernel
  have ext : ∀ {a b : Str}, a.cps.toList = b.cps.toList → a = b := fun {a b} h => by
    cases a; cases b
    exact congrArg Str.mk (Array.ext' h)
  apply ext
  rw [eS, eT, e0, e1, StrLaws.replace_list (by show 1 ≤ 1; decide), StrLaws.replace_list (by show 1 ≤ 1; decide)]
  show StrLaws.replL [84] [49] (StrLaws.replL [83] [48] (bs.map code).toArray.toList) = (bs.map sgc).toArray.toList
  rw [repl1, repl1, List.map_map, List.toList_toArray, List.toList_toArray, List.map_map]
  apply List.map_congr_left
  intro b _
  cases b <;> rfl
theorem repl_len (bs : List Bool) : (Txt.replace (wd bs) (Str.ofString "S") (Str.ofString "0")).length = bs.length := by
  have eS : Str.ofString "S" = ⟨#[83]⟩ := by decide +kernel
  have e0 : Str.ofString "0" = ⟨#[48]⟩ := by decide +kernel
  rw [eS, e0]
  show (Txt.replace (wd bs) ⟨#[83]⟩ ⟨#[48]⟩).cps.size = _
  rw [← Array.length_toList, StrLaws.replace_list (by show 1 ≤ 1; decide)]
  show (StrLaws.replL [83] [48] (bs.map code).toArray.toList).length = _
  rw [repl1, List.length_map, List.toList_toArray, List.length_map]
theorem count_sw (bs : List Bool) (b : Bool) : Txt.count (sw bs) (sl b) = (bs.count b : Nat) := by
  rw [show (sl b) = ⟨#[sgc b]⟩ from rfl, PyProof.Rows.count_cnt]
  show PyProof.Rows.cnt (sgc b) (bs.map sgc).toArray.toList = _
  rw [List.toList_toArray]
  induction bs with
  | nil => rfl
  | cons a l ih =>
    rw [List.map_cons, PyProof.Rows.cnt_cons, ih, List.count_cons]
    cases a <;> cases b <;> simp [sgc] <;> omega
/-! ### the signs of a row -/
def sgn (h : Int) (ns : List Int) : List Bool := ns.map fun x => decide (h ≤ x)
theorem fold_sl : ∀ (l : List Bool) (acc : Array Nat), (l.map sl).foldl (fun acc p => acc ++ (Str.ofString "").cps ++ p.cps) acc = acc ++ (l.map sgc).toArray
  | [], acc => by simp
  | b :: l, acc => by
    rw [List.map_cons, List.foldl_cons, fold_sl l, show (Str.ofString "").cps = #[] by decide +kernel]
    apply Array.ext'
    simp
theorem join_sl : ∀ l : List Bool, Txt.join (Str.ofString "") (l.map sl) = sw l
  | [] => by decide +kernel
  | b :: l => by
    show (⟨(l.map sl).foldl (fun acc p => acc ++ (Str.ofString "").cps ++ p.cps) (sl b).cps⟩ : Str) = sw (b :: l)
    rw [fold_sl]
    show (⟨#[sgc b] ++ (l.map sgc).toArray⟩ : Str) = ⟨((b :: l).map sgc).toArray⟩
    congr 1
    apply Array.ext'
    simp
theorem signS_sw (ns : List Int) (h : Int) : signS ns h = sw (sgn h ns) := by
  unfold signS sgL sgn
  rw [← join_sl, List.map_map]
  congr 1
  apply List.map_congr_left
  intro x _
  show sg (decide (h ≤ x)) = sl (decide (h ≤ x))
  cases decide (h ≤ x) <;> decide +kernel
theorem seat_sgn (b : Bool) (h : Int) : ∀ (xs l s : List Int) (x : Int), sgn h ((xs.foldl (stepW b) (l, s, x)).1 ++ [(xs.foldl (stepW b) (l, s, x)).2.2]) = sgn h l ++ (sgn h (x :: xs) ++ [b]).erase b
  | [], l, s, x => by
    show sgn h (l ++ [x]) = sgn h l ++ (decide (h ≤ x) :: [b]).erase b
    unfold sgn
    rw [List.map_append]
    congr 1
    by_cases hx : h ≤ x <;> cases b <;> simp [hx]
  | p :: xs, l, s, x => by
    rw [List.foldl_cons, show stepW b (l, s, x) p = (if takes b p x = true then (l ++ [x], s ++ [x], p) else (l ++ [p], s, x)) from rfl]
    have key : ∀ (a c : Int), sgn h (l ++ [a]) ++ (sgn h (c :: xs) ++ [b]).erase b = sgn h l ++ (decide (h ≤ a) :: (decide (h ≤ c) :: (sgn h xs ++ [b])).erase b) := fun a c => by
      unfold sgn
      rw [List.map_append, List.append_assoc]
      rfl
    split
    · rename_i ht
      rw [seat_sgn b h xs, key]
      congr 1
      show _ = (decide (h ≤ x) :: decide (h ≤ p) :: (sgn h xs ++ [b])).erase b
      generalize sgn h xs ++ [b] = R
      unfold takes at ht
      cases b
      · have : p < x := by simpa using ht
        by_cases h1 : h ≤ x <;> by_cases h2 : h ≤ p <;> simp [h1, h2] <;> omega
      · have : x < p := by simpa using ht
        by_cases h1 : h ≤ x <;> by_cases h2 : h ≤ p <;> simp [h1, h2] <;> omega
    · rename_i ht
      rw [seat_sgn b h xs, key]
      congr 1
      show _ = (decide (h ≤ x) :: decide (h ≤ p) :: (sgn h xs ++ [b])).erase b
      generalize sgn h xs ++ [b] = R
      unfold takes at ht
      cases b
      · have : x ≤ p := by simpa using ht
        by_cases h1 : h ≤ x <;> by_cases h2 : h ≤ p <;> simp [h1, h2] <;> omega
      · have : p ≤ x := by simpa using ht
        by_cases h1 : h ≤ x <;> by_cases h2 : h ≤ p <;> simp [h1, h2] <;> omega
theorem pass_sgn (b : Bool) (h : Int) {ns : List Int} (hn : ns ≠ []) : sgn h (passL b ns) = (sgn h ns ++ [b]).erase b := by
  cases ns with
  | nil => exact absurd rfl hn
  | cons x xs => exact (seat_sgn b h xs [] [] x).trans (List.nil_append _)
/-- the first z zeros and the first o ones left out -/
def dropN : Nat → Nat → List Bool → List Bool
  | _, _, [] => []
  | 0, o, false :: r => false :: dropN 0 o r
  | z + 1, o, false :: r => dropN z o r
  | z, 0, true :: r => true :: dropN z 0 r
  | z, o + 1, true :: r => dropN z o r
theorem dropN_f : ∀ (z o : Nat) (l : List Bool), dropN (z + 1) o l = dropN z o (l.erase false)
  | z, o, [] => by simp [dropN]
  | z, o, false :: r => by simp [dropN]
  | z, 0, true :: r => by
    rw [show (true :: r).erase false = true :: r.erase false by simp]
    rw [dropN, dropN, dropN_f z 0 r]
  | z, o + 1, true :: r => by
    rw [show (true :: r).erase false = true :: r.erase false by simp]
    rw [dropN, dropN, dropN_f z o r]
theorem dropN_t : ∀ (z o : Nat) (l : List Bool), dropN z (o + 1) l = dropN z o (l.erase true)
  | z, o, [] => by simp [dropN]
  | z, o, true :: r => by
    rw [show (true :: r).erase true = r by simp, dropN]
  | 0, o, false :: r => by
    rw [show (false :: r).erase true = false :: r.erase true by simp]
    rw [dropN, dropN, dropN_t 0 o r]
  | z + 1, o, false :: r => by
    rw [show (false :: r).erase true = false :: r.erase true by simp]
    rw [dropN, dropN, dropN_t z o r]
theorem dropN_0 : ∀ l : List Bool, dropN 0 0 l = l
  | [] => rfl
  | false :: r => by rw [dropN, dropN_0 r]
  | true :: r => by rw [dropN, dropN_0 r]
theorem after_sgn (h : Int) : ∀ (bs : List Bool) (ns : List Int), ns ≠ [] → sgn h (afterL bs ns) = dropN (bs.count false) (bs.count true) (sgn h ns ++ bs)
  | [], ns, _ => by
    rw [List.append_nil]
    exact (dropN_0 _).symm
  | b :: bs, ns, hn => by
    have hn2 : passL b ns ≠ [] := fun z => hn (by
      have := (passL_perm b ns).length_eq
      rw [z] at this
      exact List.length_eq_zero_iff.mp this.symm)
    rw [show afterL (b :: bs) ns = afterL bs (passL b ns) from rfl, after_sgn h bs _ hn2, pass_sgn b h hn]
    have ea : (sgn h ns ++ [b]).erase b ++ bs = (sgn h ns ++ b :: bs).erase b := by
      rw [← List.erase_append_left _ (by simp), List.append_assoc]
      rfl
    rw [ea]
    cases b
    · rw [← dropN_f]
      congr 1 <;> simp
    · rw [← dropN_t]
      congr 1 <;> simp
/-- the loop's state after i signs: how many of each are still to be left out, and what was kept -/
def stepN (st : Nat × Nat × List Bool) : Bool → Nat × Nat × List Bool
  | false => if 0 < st.1 then (st.1 - 1, st.2.1, st.2.2) else (st.1, st.2.1, st.2.2 ++ [false])
  | true => if 0 < st.2.1 then (st.1, st.2.1 - 1, st.2.2) else (st.1, st.2.1, st.2.2 ++ [true])
theorem fold_dropN : ∀ (l : List Bool) (z o : Nat) (acc : List Bool), (l.foldl stepN (z, o, acc)).2.2 = acc ++ dropN z o l
  | [], z, o, acc => (List.append_nil _).symm
  | false :: r, 0, o, acc => by
    rw [List.foldl_cons, show stepN (0, o, acc) false = (0, o, acc ++ [false]) from rfl, fold_dropN r, dropN, List.append_assoc]
    rfl
  | false :: r, z + 1, o, acc => by
    rw [List.foldl_cons, show stepN (z + 1, o, acc) false = (z, o, acc) from rfl, fold_dropN r, dropN]
  | true :: r, z, 0, acc => by
    rw [List.foldl_cons, show stepN (z, 0, acc) true = (z, 0, acc ++ [true]) from rfl, fold_dropN r, dropN, List.append_assoc]
    rfl
  | true :: r, z, o + 1, acc => by
    rw [List.foldl_cons, show stepN (z, o + 1, acc) true = (z, o, acc) from rfl, fold_dropN r, dropN]
theorem fold_len : ∀ (l : List Bool) (st : Nat × Nat × List Bool), (l.foldl stepN st).2.2.length ≤ st.2.2.length + l.length
  | [], _ => Nat.le_refl _
  | b :: r, st => by
    rw [List.foldl_cons]
    have := fold_len r (stepN st b)
    have h1 : (stepN st b).2.2.length ≤ st.2.2.length + 1 := by
      cases b
      · show (if 0 < st.1 then (st.1 - 1, st.2.1, st.2.2) else (st.1, st.2.1, st.2.2 ++ [false])).2.2.length ≤ _
        split <;> simp
      · show (if 0 < st.2.1 then (st.1, st.2.1 - 1, st.2.2) else (st.1, st.2.1, st.2.2 ++ [true])).2.2.length ≤ _
        split <;> simp
    rw [List.length_cons]
    omega
/-- the table of two counts -/
def dk (z o : Int) : List (Key × V) := [(.inr (sl false), .int z), (.inr (sl true), .int o)]
theorem mk2 (z o : Int) : mergeK [] [(.inr (Str.ofString "0"), .int z), (.inr (Str.ofString "1"), .int o)] = dk z o := by
  rw [sl0, sl1]
  rfl
theorem dk_get (z o : Int) (b : Bool) : valV (dk z o) (.inr (sl b)) = some (.int (if b then o else z)) := by
  cases b <;> rfl
theorem dk_put0 (z o v : Int) : putK (dk z o) (.inr (sl false)) (.int v) = dk v o := rfl
theorem dk_put1 (z o v : Int) : putK (dk z o) (.inr (sl true)) (.int v) = dk z v := rfl
theorem one0 : (Str.ofString "0").length = 1 := by decide +kernel
theorem one1 : (Str.ofString "1").length = 1 := by decide +kernel
end Lp
/-! ### the mathematics of words: the row is forgotten, the last letters tell (no program is spoken of) -/
namespace Lp
open PySem PySem.Spec PyProof.Rows L2
theorem dropN_app : ∀ (l m : List Bool) (a b : Nat), dropN a b (l ++ m) = dropN a b l ++ dropN (a - l.count false) (b - l.count true) m
  | [], m, a, b => by simp [dropN]
  | false :: l, m, 0, b => by
    rw [List.cons_append, dropN, dropN, dropN_app l m 0 b]
    simp
  | false :: l, m, a + 1, b => by
    rw [List.cons_append, dropN, dropN, dropN_app l m a b]
    simp
  | true :: l, m, a, 0 => by
    rw [List.cons_append, dropN, dropN, dropN_app l m a 0]
    simp
  | true :: l, m, a, b + 1 => by
    rw [List.cons_append, dropN, dropN, dropN_app l m a b]
    simp
theorem dropN_zeros : ∀ (l : List Bool) (a b : Nat), l.count false ≤ a → dropN a b l = List.replicate (l.count true - b) true
  | [], a, b, _ => by simp [dropN]
  | false :: l, 0, b, h => by simp at h
  | false :: l, a + 1, b, h => by
    rw [dropN, dropN_zeros l a b (by simpa using h)]
    simp
  | true :: l, a, 0, h => by
    rw [dropN, dropN_zeros l a 0 (by simpa using h)]
    simp [List.replicate_succ]
  | true :: l, a, b + 1, h => by
    rw [dropN, dropN_zeros l a b (by simpa using h)]
    simp
theorem dropN_ones : ∀ (l : List Bool) (a b : Nat), l.count true ≤ b → dropN a b l = List.replicate (l.count false - a) false
  | [], a, b, _ => by simp [dropN]
  | true :: l, a, 0, h => by simp at h
  | true :: l, a, b + 1, h => by
    rw [dropN, dropN_ones l a b (by simpa using h)]
    simp
  | false :: l, 0, b, h => by
    rw [dropN, dropN_ones l 0 b (by simpa using h)]
    simp [List.replicate_succ]
  | false :: l, a + 1, b, h => by
    rw [dropN, dropN_ones l a b (by simpa using h)]
    simp
/-- as many letters as people less one: the signs ahead of them are forgotten -/
theorem forget {l m : List Bool} {a b : Nat} (e0 : l.count false = m.count false) (e1 : l.count true = m.count true) (h : l.count false + l.count true ≤ a + b + 1) : dropN a b l = dropN a b m := by
  by_cases h0 : l.count false ≤ a
  · rw [dropN_zeros l a b h0, dropN_zeros m a b (by omega), e1]
  · have h1 : l.count true ≤ b := by omega
    rw [dropN_ones l a b h1, dropN_ones m a b (by omega), e0]
theorem count_two (l : List Bool) : l.count false + l.count true = l.length := by
  induction l with
  | nil => rfl
  | cons b l ih => cases b <;> simp <;> omega
theorem sgn_len (h : Int) (ns : List Int) : (sgn h ns).length = ns.length := List.length_map ..
theorem sgn_perm {h : Int} {ms ns : List Int} (p : ms.Perm ns) : (sgn h ms).Perm (sgn h ns) := p.map _
theorem sgn_inj : ∀ {xs ys : List Int}, xs.length = ys.length → (∀ h, sgn h xs = sgn h ys) → xs = ys
  | [], [], _, _ => rfl
  | x :: xs, y :: ys, hl, hs => by
    have hd : ∀ h, decide (h ≤ x) = decide (h ≤ y) ∧ sgn h xs = sgn h ys := fun h => by
      have := hs h
      simp only [sgn, List.map_cons, List.cons.injEq] at this
      exact this
    have e1 := (hd x).1
    have e2 := (hd y).1
    have hxy : x = y := by
      simp at e1 e2
      omega
    rw [hxy, sgn_inj (Nat.succ.inj hl) fun h => (hd h).2]
theorem afterL_len (bs : List Bool) (ns : List Int) : (afterL bs ns).length = ns.length := (afterL_perm bs ns).length_eq
theorem afterL_nil : ∀ bs : List Bool, afterL bs [] = []
  | [] => rfl
  | b :: bs => afterL_nil bs
/-- behind n - 1 passes the order ahead of them is forgotten -/
theorem after_forget {bs : List Bool} {ms ns : List Int} (p : ms.Perm ns) (h : ns.length ≤ bs.length + 1) : afterL bs ms = afterL bs ns := by
  by_cases hn : ns = []
  · subst hn
    rw [List.perm_nil.mp p]
  have hm : ms ≠ [] := fun z => hn (List.perm_nil.mp (z ▸ p.symm))
  refine sgn_inj (by rw [afterL_len, afterL_len, p.length_eq]) fun t => ?_
  rw [after_sgn t bs ms hm, after_sgn t bs ns hn, dropN_app, dropN_app]
  have c0 : (sgn t ms).count false = (sgn t ns).count false := (sgn_perm p).count_eq false
  have c1 : (sgn t ms).count true = (sgn t ns).count true := (sgn_perm p).count_eq true
  rw [c0, c1]
  congr 1
  refine forget c0 c1 ?_
  have l1 := count_two (sgn t ms)
  rw [sgn_len, p.length_eq] at l1
  have l2 := count_two bs
  omega
/-- the last n - 1 letters tell -/
theorem after_last {a b : List Bool} {ns : List Int} (h : ns.length ≤ b.length + 1) : afterL (a ++ b) ns = afterL b ns := by
  rw [afterL_app]
  exact after_forget (afterL_perm a ns) h
theorem after_drop {bs : List Bool} {ns : List Int} : afterL (bs.drop (bs.length + 1 - ns.length)) ns = afterL bs ns := by
  by_cases h : bs.length + 1 ≤ ns.length
  · rw [show bs.length + 1 - ns.length = 0 by omega, List.drop_zero]
  · by_cases hn : ns = []
    · subst hn
      rw [afterL_nil, afterL_nil]
    · have n1 : 0 < ns.length := List.length_pos_iff.mpr hn
      conv => rhs; rw [← List.take_append_drop (bs.length + 1 - ns.length) bs]
      rw [after_last]
      rw [List.length_drop]
      omega
theorem dropN_0x (o : Nat) : ∀ z c0 c1 : Nat, dropN c0 c1 (List.replicate z false ++ List.replicate o true) = List.replicate (z - c0) false ++ List.replicate (o - c1) true := fun z c0 c1 => by
  rw [dropN_app]
  have k0 : (List.replicate z false).count true = 0 := by simp [List.count_replicate]
  have k1 : (List.replicate o true).count false = 0 := by simp [List.count_replicate]
  rw [dropN_ones _ c0 c1 (by omega), dropN_zeros _ _ _ (by omega)]
  simp [List.count_replicate]
theorem dropN_1x (o : Nat) : ∀ z c0 c1 : Nat, dropN c0 c1 (List.replicate o true ++ List.replicate z false) = List.replicate (o - c1) true ++ List.replicate (z - c0) false := fun z c0 c1 => by
  rw [dropN_app]
  have k0 : (List.replicate o true).count false = 0 := by simp [List.count_replicate]
  have k1 : (List.replicate z false).count true = 0 := by simp [List.count_replicate]
  rw [dropN_zeros _ c0 c1 (by omega), dropN_ones _ _ _ (by omega)]
  simp [List.count_replicate]
theorem sgn_all {t : Int} : ∀ {l : List Int} (b : Bool), (∀ x ∈ l, decide (t ≤ x) = b) → sgn t l = List.replicate l.length b
  | [], b, _ => rfl
  | x :: l, b, h => by
    show decide (t ≤ x) :: sgn t l = _
    rw [h x (List.mem_cons_self ..), sgn_all b fun y hy => h y (List.mem_cons_of_mem _ hy)]
    rfl
/-- fewer letters: the ascending row and the descending one stay apart -/
theorem after_apart {bs : List Bool} {ns : List Int} (hs : ns.Pairwise (· < ·)) (h : bs.length + 2 ≤ ns.length) : afterL bs ns ≠ afterL bs ns.reverse := by
  intro e
  have cb := count_two bs
  have hz : bs.count false + 1 < ns.length := by omega
  generalize hzz : bs.count false + 1 = z at hz
  have hn : ns ≠ [] := fun q => by
    rw [q] at hz
    exact absurd hz (Nat.not_lt_zero _)
  have hr : ns.reverse ≠ [] := fun q => hn (List.reverse_eq_nil_iff.mp q)
  have e2 := congrArg (sgn ns[z]) e
  rw [after_sgn _ bs ns hn, after_sgn _ bs ns.reverse hr] at e2
  have s1 : sgn ns[z] ns = List.replicate z false ++ List.replicate (ns.length - z) true := by
    have hsp : ns = ns.take z ++ ns.drop z := (List.take_append_drop z ns).symm
    have g := List.pairwise_iff_getElem.mp hs
    have f1 : sgn ns[z] (ns.take z) = List.replicate z false := by
      have := sgn_all (t := ns[z]) (l := ns.take z) false fun x hx => by
        obtain ⟨i, hi, ex⟩ := List.mem_iff_getElem.mp hx
        rw [List.length_take] at hi
        rw [← ex, List.getElem_take]
        have := g i z (by omega) hz (by omega)
        exact decide_eq_false (by omega)
      rw [this, List.length_take, Nat.min_eq_left (by omega)]
    have f2 : sgn ns[z] (ns.drop z) = List.replicate (ns.length - z) true := by
      have := sgn_all (t := ns[z]) (l := ns.drop z) true fun x hx => by
        obtain ⟨i, hi, ex⟩ := List.mem_iff_getElem.mp hx
        rw [List.length_drop] at hi
        rw [← ex, List.getElem_drop]
        by_cases h0 : i = 0
        · subst h0
          simp
        · have := g z (z + i) hz (by omega) (by omega)
          exact decide_eq_true (by omega)
      rw [this, List.length_drop]
    have f3 : sgn ns[z] (ns.take z ++ ns.drop z) = sgn ns[z] (ns.take z) ++ sgn ns[z] (ns.drop z) := List.map_append ..
    rw [List.take_append_drop] at f3
    rw [f3, f1, f2]
  have s2 : sgn ns[z] ns.reverse = List.replicate (ns.length - z) true ++ List.replicate z false := by
    have : sgn ns[z] ns.reverse = (sgn ns[z] ns).reverse := List.map_reverse ..
    rw [this, s1, List.reverse_append, List.reverse_replicate, List.reverse_replicate]
  rw [dropN_app, dropN_app, s1, s2, dropN_0x, dropN_1x] at e2
  have z1 : z - bs.count false = 1 := by omega
  obtain ⟨k, hk⟩ : ∃ k, ns.length - z - bs.count true = k + 1 := ⟨ns.length - z - bs.count true - 1, by omega⟩
  rw [z1, hk, List.replicate_succ] at e2
  simp [List.replicate_succ] at e2
/-! ### the last pass, read backwards -/
theorem ends_max {w : List Bool} {ns : List Int} {M : Int} (hM : M ∈ ns) (top : ∀ x ∈ ns, x ≤ M) (h : ns.length ≤ w.length + 2) : afterL (w ++ [true]) ns = afterL w (ns.erase M) ++ [M] := by
  have hn : ns ≠ [] := List.ne_nil_of_mem hM
  have pe : (M :: ns.erase M).Perm ns := (List.perm_cons_erase hM).symm
  have le := pe.length_eq
  rw [List.length_cons] at le
  refine sgn_inj (by rw [afterL_len, List.length_append, afterL_len, ← le]; rfl) fun t => ?_
  rw [after_sgn t _ ns hn]
  have app : sgn t (afterL w (ns.erase M) ++ [M]) = sgn t (afterL w (ns.erase M)) ++ [decide (t ≤ M)] := List.map_append ..
  have rest : sgn t (afterL w (ns.erase M)) = dropN (w.count false) (w.count true) (sgn t (ns.erase M) ++ w) := by
    by_cases hr : ns.erase M = []
    · rw [hr, afterL_nil]
      have : dropN (w.count false) (w.count true) w = [] := by rw [dropN_zeros _ _ _ (Nat.le_refl _), Nat.sub_self]; rfl
      exact this.symm
    · exact after_sgn t w _ hr
  rw [app, rest]
  have k0 : (w ++ [true]).count false = w.count false := by simp
  have k1 : (w ++ [true]).count true = w.count true + 1 := by simp
  rw [k0, k1]
  have c0 : (sgn t ns).count false = ((decide (t ≤ M)) :: sgn t (ns.erase M)).count false := ((sgn_perm pe).count_eq false).symm
  have c1 : (sgn t ns).count true = ((decide (t ≤ M)) :: sgn t (ns.erase M)).count true := ((sgn_perm pe).count_eq true).symm
  have cl := count_two (sgn t (ns.erase M))
  rw [sgn_len] at cl
  have cw := count_two w
  by_cases hd : t ≤ M
  · rw [decide_eq_true hd] at c0 c1 ⊢
    have d0 : (sgn t ns).count false = (sgn t (ns.erase M)).count false := by rw [c0]; simp
    have d1 : (sgn t ns).count true = (sgn t (ns.erase M)).count true + 1 := by rw [c1]; simp
    have mem : true ∈ sgn t ns := List.count_pos_iff.mp (by omega)
    rw [dropN_t, List.erase_append_left _ mem, dropN_app, dropN_app (sgn t (ns.erase M)) w]
    have f0 : ((sgn t ns).erase true).count false = (sgn t (ns.erase M)).count false := by rw [List.count_erase_of_ne (by decide), d0]
    have f1 : ((sgn t ns).erase true).count true = (sgn t (ns.erase M)).count true := by rw [List.count_erase_self, d1]; omega
    rw [f0, f1, forget f0 f1 (by omega), dropN_app w [true]]
    have z0 : w.count false - (sgn t (ns.erase M)).count false - w.count false = 0 := by omega
    have z1 : w.count true - (sgn t (ns.erase M)).count true - w.count true = 0 := by omega
    rw [z0, z1, ← List.append_assoc]
    rfl
  · rw [decide_eq_false hd] at c0 c1 ⊢
    have d0 : (sgn t ns).count false = (sgn t (ns.erase M)).count false + 1 := by rw [c0]; simp
    have d1 : (sgn t ns).count true = 0 := by
      rw [List.count_eq_zero]
      intro z
      obtain ⟨x, hx, ex⟩ := List.mem_map.mp z
      have := top x hx
      have : t ≤ x := of_decide_eq_true ex
      omega
    have d2 : (sgn t (ns.erase M)).count true = 0 := by
      have : (sgn t ns).count true = (sgn t (ns.erase M)).count true := by rw [c1]; simp
      omega
    rw [dropN_ones _ _ _ (by simp [d1]), dropN_ones _ _ _ (by simp [d2])]
    have e1 : (sgn t ns ++ (w ++ [true])).count false - w.count false = (sgn t (ns.erase M)).count false + 1 := by simp [d0]
    have e2 : (sgn t (ns.erase M) ++ w).count false - w.count false = (sgn t (ns.erase M)).count false := by simp
    rw [e1, e2, List.replicate_succ']
theorem ends_min {w : List Bool} {ns : List Int} {m : Int} (hm : m ∈ ns) (low : ∀ x ∈ ns, m ≤ x) (h : ns.length ≤ w.length + 2) : afterL (w ++ [false]) ns = afterL w (ns.erase m) ++ [m] := by
  have hn : ns ≠ [] := List.ne_nil_of_mem hm
  have pe : (m :: ns.erase m).Perm ns := (List.perm_cons_erase hm).symm
  have le := pe.length_eq
  rw [List.length_cons] at le
  refine sgn_inj (by rw [afterL_len, List.length_append, afterL_len, ← le]; rfl) fun t => ?_
  rw [after_sgn t _ ns hn]
  have app : sgn t (afterL w (ns.erase m) ++ [m]) = sgn t (afterL w (ns.erase m)) ++ [decide (t ≤ m)] := List.map_append ..
  have rest : sgn t (afterL w (ns.erase m)) = dropN (w.count false) (w.count true) (sgn t (ns.erase m) ++ w) := by
    by_cases hr : ns.erase m = []
    · rw [hr, afterL_nil]
      have : dropN (w.count false) (w.count true) w = [] := by rw [dropN_zeros _ _ _ (Nat.le_refl _), Nat.sub_self]; rfl
      exact this.symm
    · exact after_sgn t w _ hr
  rw [app, rest]
  have k0 : (w ++ [false]).count false = w.count false + 1 := by simp
  have k1 : (w ++ [false]).count true = w.count true := by simp
  rw [k0, k1]
  have c0 : (sgn t ns).count false = ((decide (t ≤ m)) :: sgn t (ns.erase m)).count false := ((sgn_perm pe).count_eq false).symm
  have c1 : (sgn t ns).count true = ((decide (t ≤ m)) :: sgn t (ns.erase m)).count true := ((sgn_perm pe).count_eq true).symm
  have cl := count_two (sgn t (ns.erase m))
  rw [sgn_len] at cl
  have cw := count_two w
  by_cases hd : t ≤ m
  · rw [decide_eq_true hd] at c0 c1 ⊢
    have d0 : (sgn t ns).count false = 0 := by
      rw [List.count_eq_zero]
      intro z
      obtain ⟨x, hx, ex⟩ := List.mem_map.mp z
      have := low x hx
      have : ¬ t ≤ x := of_decide_eq_false ex
      omega
    have d1 : (sgn t ns).count true = (sgn t (ns.erase m)).count true + 1 := by rw [c1]; simp
    have d2 : (sgn t (ns.erase m)).count false = 0 := by
      have : (sgn t ns).count false = (sgn t (ns.erase m)).count false := by rw [c0]; simp
      omega
    rw [dropN_zeros _ _ _ (by simp [d0]), dropN_zeros _ _ _ (by simp [d2])]
    have e1 : (sgn t ns ++ (w ++ [false])).count true - w.count true = (sgn t (ns.erase m)).count true + 1 := by simp [d1]
    have e2 : (sgn t (ns.erase m) ++ w).count true - w.count true = (sgn t (ns.erase m)).count true := by simp
    rw [e1, e2, List.replicate_succ']
  · rw [decide_eq_false hd] at c0 c1 ⊢
    have d0 : (sgn t ns).count false = (sgn t (ns.erase m)).count false + 1 := by rw [c0]; simp
    have d1 : (sgn t ns).count true = (sgn t (ns.erase m)).count true := by rw [c1]; simp
    have mem : false ∈ sgn t ns := List.count_pos_iff.mp (by omega)
    rw [dropN_f, List.erase_append_left _ mem, dropN_app, dropN_app (sgn t (ns.erase m)) w]
    have f0 : ((sgn t ns).erase false).count false = (sgn t (ns.erase m)).count false := by rw [List.count_erase_self, d0]; omega
    have f1 : ((sgn t ns).erase false).count true = (sgn t (ns.erase m)).count true := by rw [List.count_erase_of_ne (by decide), d1]
    rw [f0, f1, forget f0 f1 (by omega), dropN_app w [false]]
    have z0 : w.count false - (sgn t (ns.erase m)).count false - w.count false = 0 := by omega
    have z1 : w.count true - (sgn t (ns.erase m)).count true - w.count true = 0 := by omega
    rw [z0, z1, ← List.append_assoc]
    rfl
/-! ### how many of each kind, not their order, tells who stays in front -/
theorem dropN_len : ∀ (l : List Bool) (a b : Nat), (dropN a b l).length = (l.count false - a) + (l.count true - b)
  | [], a, b => by simp [dropN]
  | false :: l, 0, b => by rw [dropN, List.length_cons, dropN_len l 0 b]; simp; omega
  | false :: l, a + 1, b => by rw [dropN, dropN_len l a b]; simp
  | true :: l, a, 0 => by rw [dropN, List.length_cons, dropN_len l a 0]; simp; omega
  | true :: l, a, b + 1 => by rw [dropN, dropN_len l a b]; simp
theorem kept_any {v w : List Bool} {ns : List Int} (e0 : v.count false = w.count false) (e1 : v.count true = w.count true) : (afterL v ns).take (ns.length - v.length) = (afterL w ns).take (ns.length - v.length) := by
  by_cases hn : ns = []
  · subst hn
    rw [afterL_nil, afterL_nil]
  refine sgn_inj (by rw [List.length_take, List.length_take, afterL_len, afterL_len]) fun t => ?_
  have tk : ∀ (k : Nat) (l : List Int), sgn t (l.take k) = (sgn t l).take k := fun k l => List.map_take ..
  rw [tk, tk, after_sgn t v ns hn, after_sgn t w ns hn, dropN_app, dropN_app, e0, e1]
  have ln := dropN_len (sgn t ns) (w.count false) (w.count true)
  have c1 := count_two (sgn t ns)
  have c2 := count_two v
  rw [sgn_len] at c1
  have le : ns.length - v.length ≤ (dropN (w.count false) (w.count true) (sgn t ns)).length := by omega
  rw [List.take_append_of_le_length le, List.take_append_of_le_length le]
/-! ### final rows, read from the last letter on -/
/-- the word backwards, the heights ascending -/
def finR : List Bool → List Int → List Int
  | _, [] => []
  | _, [x] => [x]
  | [], hs => hs
  | true :: r, x :: y :: l => finR r ((x :: y :: l).dropLast) ++ [(x :: y :: l).getLast (by simp)]
  | false :: r, x :: y :: l => finR r (y :: l) ++ [x]
theorem after_one (w : List Bool) (x : Int) : afterL w [x] = [x] := List.perm_singleton.mp (afterL_perm w [x])
theorem after_fin : ∀ (r : List Bool) (hs ns : List Int), hs.Pairwise (· < ·) → ns.Perm hs → hs.length ≤ r.length + 1 → afterL r.reverse ns = finR r hs
  | r, [], ns, _, p, _ => by
    rw [List.perm_nil.mp p, afterL_nil]
    cases r with
    | nil => rfl
    | cons b r => cases b <;> rfl
  | r, [x], ns, _, p, _ => by
    rw [List.perm_singleton.mp p, after_one]
    cases r with
    | nil => rfl
    | cons b r => cases b <;> rfl
  | [], x :: y :: l, ns, _, _, h => by simp at h
  | true :: r, x :: y :: l, ns, hs, p, h => by
    rw [List.reverse_cons]
    have ne : x :: y :: l ≠ [] := by simp
    generalize hM : (x :: y :: l).getLast ne = M
    have sp : (x :: y :: l).dropLast ++ [M] = x :: y :: l := by rw [← hM]; exact List.dropLast_concat_getLast ne
    have pw : ((x :: y :: l).dropLast ++ [M]).Pairwise (· < ·) := by rw [sp]; exact hs
    rw [List.pairwise_append] at pw
    have memM : M ∈ ns := p.mem_iff.mpr (by rw [← sp]; simp)
    have top : ∀ z ∈ ns, z ≤ M := fun z hz => by
      have := p.mem_iff.mp hz
      rw [← sp] at this
      rcases List.mem_append.mp this with q | q
      · exact Int.le_of_lt (pw.2.2 z q M (by simp))
      · rw [List.mem_singleton.mp q]
        exact Int.le_refl _
    have hl : ns.length ≤ r.reverse.length + 2 := by rw [p.length_eq, List.length_reverse]; simpa using h
    have pe : (ns.erase M).Perm (x :: y :: l).dropLast := by
      have := p.erase M
      rw [← sp] at this
      refine this.trans ?_
      have nm : M ∉ (x :: y :: l).dropLast := fun z => by
        have := pw.2.2 M z M (by simp)
        omega
      rw [List.erase_append_right _ nm]
      simp
    rw [ends_max memM top hl]
    show _ = finR r ((x :: y :: l).dropLast) ++ [(x :: y :: l).getLast ne]
    rw [hM, after_fin r _ _ pw.1 pe (by simp at h ⊢; omega)]
  | false :: r, x :: y :: l, ns, hs, p, h => by
    rw [List.reverse_cons]
    have pw := hs
    rw [List.pairwise_cons] at pw
    have memx : x ∈ ns := p.mem_iff.mpr (by simp)
    have low : ∀ z ∈ ns, x ≤ z := fun z hz => by
      rcases List.mem_cons.mp (p.mem_iff.mp hz) with q | q
      · omega
      · exact Int.le_of_lt (pw.1 z q)
    have hl : ns.length ≤ r.reverse.length + 2 := by rw [p.length_eq, List.length_reverse]; simpa using h
    have pe : (ns.erase x).Perm (y :: l) := by
      have := p.erase x
      simpa using this
    rw [ends_min memx low hl, after_fin r _ _ pw.2 pe (by simp at h ⊢; omega)]
    rfl
/-! ### desks -/
theorem sgn_sorted {t : Int} : ∀ {l : List Int}, l.Pairwise (· ≤ ·) → sgn t l = List.replicate ((sgn t l).count false) false ++ List.replicate ((sgn t l).count true) true
  | [], _ => rfl
  | x :: l, h => by
    rw [List.pairwise_cons] at h
    have ih := sgn_sorted (t := t) h.2
    by_cases hx : t ≤ x
    · have al : sgn t (x :: l) = List.replicate (x :: l).length true := sgn_all true fun y hy => by
        rcases List.mem_cons.mp hy with q | q
        · rw [q]; exact decide_eq_true hx
        · have := h.1 y q
          exact decide_eq_true (by omega)
      rw [al]
      simp [List.count_replicate]
    · have e : sgn t (x :: l) = false :: sgn t l := by
        show decide (t ≤ x) :: sgn t l = _
        rw [decide_eq_false hx]
      rw [e]
      have c0 : (false :: sgn t l).count false = (sgn t l).count false + 1 := by simp
      have c1 : (false :: sgn t l).count true = (sgn t l).count true := by simp
      rw [c0, c1, List.replicate_succ, List.cons_append, ← ih]
/-- signs of people who come to a desk with s short seats and t tall ones, a zeros and b ones there -/
def deskB (s t : Nat) : Nat → Nat → List Bool → List Bool
  | a, b, [] => List.replicate (min (s - a) b) true ++ List.replicate (min a s) false ++ (List.replicate (a - s) false ++ List.replicate (b - (s - a)) true)
  | a, b, false :: r => if s + t < a + 1 + b then (if s < a + 1 then false :: deskB s t a b r else true :: deskB s t (a + 1) (b - 1) r) else deskB s t (a + 1) b r
  | a, b, true :: r => if s + t < a + (b + 1) then (if s < a then false :: deskB s t (a - 1) (b + 1) r else true :: deskB s t a b r) else deskB s t a (b + 1) r
def deskG (s t a b : Nat) (l : List Bool) : List Bool :=
  List.replicate (a - s) false ++ (List.replicate (b - t) true ++ (dropN (s - a) (t - b) l ++ (List.replicate (min s (a + l.count false)) false ++ List.replicate (min t (b + l.count true)) true)))
theorem rep_glue {α : Type} (x : α) (m n : Nat) (l : List α) : List.replicate m x ++ (List.replicate n x ++ l) = List.replicate (m + n) x ++ l := by
  rw [← List.append_assoc, List.replicate_append_replicate]
theorem deskB_eq (s t : Nat) : ∀ (l : List Bool) (a b : Nat), a + b ≤ s + t → s + t ≤ a + b + l.length → deskB s t a b l = deskG s t a b l
  | [], a, b, h1, h2 => by
    have e : a + b = s + t := by simp at h2; omega
    unfold deskB deskG
    rw [dropN, List.nil_append]
    by_cases ha : a ≤ s
    · rw [show min (s - a) b = s - a by omega, show min a s = a by omega, show a - s = 0 by omega, show b - (s - a) = t by omega, show b - t = s - a by omega]
      simp [List.append_assoc, show min s a = a by omega, show min t b = t by omega]
    · rw [show s - a = 0 by omega, show min a s = s by omega, show b - t = 0 by omega]
      simp only [Nat.zero_min, List.replicate_zero, List.nil_append, Nat.sub_zero, List.count_nil, Nat.add_zero]
      rw [show min s a = s by omega, show min t b = b by omega, rep_glue, rep_glue, Nat.add_comm]
  | false :: r, a, b, h1, h2 => by
    rw [List.length_cons] at h2
    unfold deskB
    by_cases hf : s + t < a + 1 + b
    · rw [if_pos hf]
      by_cases ha : s < a + 1
      · rw [if_pos ha, deskB_eq s t r a b h1 (by omega)]
        unfold deskG
        have m0 : min s (a + (false :: r).count false) = min s (a + r.count false) := by simp; omega
        have m1 : (false :: r).count true = r.count true := by simp
        rw [m0, m1, show s - a = 0 by omega, show b - t = 0 by omega, dropN]
        simp only [List.replicate_zero, List.nil_append, List.cons_append]
        rw [← List.cons_append, ← List.replicate_succ, List.replicate_succ', List.append_assoc]
        rfl
      · rw [if_neg ha, deskB_eq s t r (a + 1) (b - 1) (by omega) (by omega)]
        unfold deskG
        have m0 : a + (false :: r).count false = a + 1 + r.count false := by simp; omega
        have m1 : (false :: r).count true = r.count true := by simp
        obtain ⟨k, hk⟩ : ∃ k, s - a = k + 1 := ⟨s - a - 1, by omega⟩
        rw [m0, m1, hk, dropN, show a + 1 - s = 0 by omega, show a - s = 0 by omega, show t - (b - 1) = 0 by omega, show t - b = 0 by omega, show s - (a + 1) = k by omega, show b - t = (b - 1 - t) + 1 by omega, List.replicate_succ,
          show min t (b - 1 + r.count true) = min t (b + r.count true) by omega]
        rfl
    · rw [if_neg hf, deskB_eq s t r (a + 1) b (by omega) (by omega)]
      unfold deskG
      have m0 : a + (false :: r).count false = a + 1 + r.count false := by simp; omega
      have m1 : (false :: r).count true = r.count true := by simp
      rw [m0, m1]
      by_cases ha : a < s
      · obtain ⟨k, hk⟩ : ∃ k, s - a = k + 1 := ⟨s - a - 1, by omega⟩
        rw [hk, dropN, show a + 1 - s = 0 by omega, show a - s = 0 by omega, show s - (a + 1) = k by omega]
      · rw [show s - a = 0 by omega, show s - (a + 1) = 0 by omega, dropN, show b - t = 0 by omega, show a + 1 - s = (a - s) + 1 by omega, List.replicate_succ', List.append_assoc]
        rfl
  | true :: r, a, b, h1, h2 => by
    rw [List.length_cons] at h2
    unfold deskB
    have m0 : (true :: r).count false = r.count false := by simp
    by_cases hf : s + t < a + (b + 1)
    · rw [if_pos hf]
      by_cases ha : s < a
      · rw [if_pos ha, deskB_eq s t r (a - 1) (b + 1) (by omega) (by omega)]
        unfold deskG
        have m1 : b + (true :: r).count true = b + 1 + r.count true := by simp; omega
        obtain ⟨k, hk⟩ : ∃ k, t - b = k + 1 := ⟨t - b - 1, by omega⟩
        rw [m0, m1, hk, dropN, show s - a = 0 by omega, show s - (a - 1) = 0 by omega, show b + 1 - t = 0 by omega, show b - t = 0 by omega, show t - (b + 1) = k by omega, show a - s = (a - 1 - s) + 1 by omega, List.replicate_succ,
          show min s (a - 1 + r.count false) = min s (a + r.count false) by omega]
        rfl
      · rw [if_neg ha, deskB_eq s t r a b h1 (by omega)]
        unfold deskG
        have m1 : min t (b + (true :: r).count true) = min t (b + r.count true) := by simp; omega
        rw [m0, m1, show a - s = 0 by omega, show t - b = 0 by omega, dropN]
        simp only [List.replicate_zero, List.nil_append, List.cons_append]
        rw [← List.cons_append, ← List.replicate_succ, List.replicate_succ', List.append_assoc]
        rfl
    · rw [if_neg hf, deskB_eq s t r a (b + 1) (by omega) (by omega)]
      unfold deskG
      have m1 : b + (true :: r).count true = b + 1 + r.count true := by simp; omega
      rw [m0, m1]
      by_cases hb : b < t
      · obtain ⟨k, hk⟩ : ∃ k, t - b = k + 1 := ⟨t - b - 1, by omega⟩
        rw [hk, dropN, show b + 1 - t = 0 by omega, show b - t = 0 by omega, show t - (b + 1) = k by omega]
      · rw [show t - b = 0 by omega, show t - (b + 1) = 0 by omega, dropN, show a - s = 0 by omega, show b + 1 - t = (b - t) + 1 by omega, List.replicate_succ', List.append_assoc]
        rfl
/-- who leaves when one too many is there: exactly s are shorter -/
def leaver (s : Nat) (l : List Int) : Int := (l.find? fun x => decide ((l.filter fun y => decide (y < x)).length = s)).getD 0
/-- d are at the desk, the others come -/
def deskGo (s t : Nat) : List Int → List Int → List Int
  | d, [] => ((d.mergeSort fun x y => decide (x ≤ y)).take s).reverse ++ (d.mergeSort fun x y => decide (x ≤ y)).drop s
  | d, p :: r => if s + t < d.length + 1 then leaver s (d ++ [p]) :: deskGo s t ((d ++ [p]).erase (leaver s (d ++ [p]))) r else deskGo s t (d ++ [p]) r
theorem sort_ok (l : List Int) : (l.mergeSort fun x y => decide (x ≤ y)).Perm l ∧ (l.mergeSort fun x y => decide (x ≤ y)).Pairwise (· ≤ ·) := by
  refine ⟨List.mergeSort_perm .., ?_⟩
  have := List.pairwise_mergeSort (le := fun x y : Int => decide (x ≤ y)) (fun a b c h1 h2 => by simp at h1 h2 ⊢; omega) (fun a b => by simp; omega) l
  exact this.imp fun h => by simpa using h
theorem leaver_ok {s : Nat} {l : List Int} (nd : l.Nodup) (h : s < l.length) : leaver s l ∈ l ∧ (l.filter fun y => decide (y < leaver s l)).length = s := by
  obtain ⟨p, so⟩ := sort_ok l
  generalize l.mergeSort (fun x y => decide (x ≤ y)) = m at p so
  have hm : s < m.length := by rw [p.length_eq]; exact h
  have fx := filter_sorted hm so (p.nodup_iff.mpr nd)
  rw [(p.filter _).length_eq] at fx
  unfold leaver
  cases e : l.find? fun x => decide ((l.filter fun y => decide (y < x)).length = s) with
  | none =>
    have := List.find?_eq_none.mp e m[s] (p.mem_iff.mp (List.getElem_mem hm))
    exact absurd (decide_eq_true fx) this
  | some z =>
    have q := List.find?_some (p := fun x => decide ((l.filter fun y => decide (y < x)).length = s)) e
    exact ⟨List.mem_of_find?_eq_some e, of_decide_eq_true q⟩
theorem zeros_count (h : Int) (l : List Int) : (sgn h l).count false = (l.filter fun y => decide (y < h)).length := by
  induction l with
  | nil => rfl
  | cons x l ih =>
    show (decide (h ≤ x) :: sgn h l).count false = _
    by_cases hx : h ≤ x
    · rw [List.filter_cons, decide_eq_true hx, decide_eq_false (by omega : ¬ x < h)]
      simpa using ih
    · rw [List.filter_cons, decide_eq_false hx, decide_eq_true (by omega : x < h)]
      simp [ih]
theorem below_or_at (x : Int) : ∀ l : List Int, (l.filter fun y => decide (y < x + 1)).length = (l.filter fun y => decide (y < x)).length + l.count x
  | [] => rfl
  | y :: l => by
    have ih := below_or_at x l
    rw [List.filter_cons, List.filter_cons, List.count_cons]
    by_cases h1 : y < x
    · rw [decide_eq_true h1, decide_eq_true (by omega : y < x + 1)]
      have : (y == x) = false := beq_eq_false_iff_ne.mpr (by omega)
      simp [this, ih]
      omega
    · by_cases h2 : y = x
      · subst h2
        rw [decide_eq_false h1, decide_eq_true (by omega : y < y + 1)]
        simp [ih]
        omega
      · rw [decide_eq_false h1, decide_eq_false (by omega : ¬ y < x + 1)]
        have : (y == x) = false := beq_eq_false_iff_ne.mpr h2
        simp [this, ih]
theorem below_mono {a b : Int} (h : a ≤ b) (l : List Int) : (l.filter fun y => decide (y < a)).length ≤ (l.filter fun y => decide (y < b)).length := by
  rw [← List.countP_eq_length_filter, ← List.countP_eq_length_filter]
  exact List.countP_mono_left fun x _ hx => by simp at hx ⊢; omega
theorem leaver_sgn {s : Nat} {l : List Int} (nd : l.Nodup) (h : s < l.length) (t : Int) : decide (t ≤ leaver s l) = decide ((sgn t l).count false ≤ s) := by
  obtain ⟨mem, cnt⟩ := leaver_ok nd h
  rw [zeros_count]
  by_cases ht : t ≤ leaver s l
  · rw [decide_eq_true ht]
    have := below_mono ht l
    exact (decide_eq_true (by omega)).symm
  · rw [decide_eq_false ht]
    have h1 := below_or_at (leaver s l) l
    have h2 : 1 ≤ l.count (leaver s l) := List.count_pos_iff.mpr mem
    have h3 := below_mono (by omega : leaver s l + 1 ≤ t) l
    exact (decide_eq_false (by omega)).symm
theorem sgn_erase {l : List Int} {x : Int} (h : x ∈ l) (t : Int) (b : Bool) : (sgn t l).count b = (sgn t (l.erase x)).count b + (if decide (t ≤ x) = b then 1 else 0) := by
  have p := sgn_perm (h := t) (List.perm_cons_erase h)
  rw [p.count_eq b]
  show (decide (t ≤ x) :: sgn t (l.erase x)).count b = _
  rw [List.count_cons]
  congr 1
  cases decide (t ≤ x) <;> cases b <;> rfl
theorem desk_sgn (s t : Nat) (u : Int) : ∀ (r d : List Int), (d ++ r).Nodup → d.length ≤ s + t → s + t ≤ d.length + r.length → sgn u (deskGo s t d r) = deskB s t ((sgn u d).count false) ((sgn u d).count true) (sgn u r)
  | [], d, _, h1, h2 => by
    obtain ⟨p, so⟩ := sort_ok d
    unfold deskGo
    generalize d.mergeSort (fun x y => decide (x ≤ y)) = m at p so
    have pc := sgn_perm (h := u) p
    have ss := sgn_sorted (t := u) so
    rw [pc.count_eq false, pc.count_eq true] at ss
    have e : sgn u ((m.take s).reverse ++ m.drop s) = ((sgn u m).take s).reverse ++ (sgn u m).drop s := by
      unfold sgn
      rw [List.map_append, List.map_reverse, List.map_take, List.map_drop]
    rw [e, ss]
    show _ = deskB s t _ _ []
    unfold deskB
    generalize (sgn u d).count false = a
    generalize (sgn u d).count true = b
    rw [List.take_append, List.drop_append, List.take_replicate, List.take_replicate, List.drop_replicate, List.drop_replicate, List.length_replicate, List.reverse_append, List.reverse_replicate, List.reverse_replicate, Nat.min_comm s a]
  | p :: r, d, nd, h1, h2 => by
    rw [List.length_cons] at h2
    have nd2 : ((d ++ [p]) ++ r).Nodup := by simpa using nd
    have nd3 : (d ++ [p]).Nodup := (List.nodup_append.mp nd2).1
    have cc := count_two (sgn u d)
    rw [sgn_len] at cc
    have sap : sgn u (d ++ [p]) = sgn u d ++ [decide (u ≤ p)] := List.map_append ..
    have a0 : (sgn u (d ++ [p])).count false = (sgn u d).count false + (if decide (u ≤ p) = false then 1 else 0) := by
      rw [sap, List.count_append]
      cases decide (u ≤ p) <;> rfl
    have a1 : (sgn u (d ++ [p])).count true = (sgn u d).count true + (if decide (u ≤ p) = true then 1 else 0) := by
      rw [sap, List.count_append]
      cases decide (u ≤ p) <;> rfl
    have hr : sgn u (p :: r) = decide (u ≤ p) :: sgn u r := rfl
    have len : (d ++ [p]).length = d.length + 1 := by simp
    rw [hr]
    unfold deskGo
    by_cases hf : s + t < d.length + 1
    · rw [if_pos hf]
      have lt : s < (d ++ [p]).length := by omega
      obtain ⟨mem, _⟩ := leaver_ok nd3 lt
      have ls := leaver_sgn nd3 lt u
      have er0 := sgn_erase mem u false
      have er1 := sgn_erase mem u true
      generalize hx : leaver s (d ++ [p]) = x at *
      have sub : ((d ++ [p]).erase x ++ r).Sublist (d ++ [p] ++ r) := List.Sublist.append (List.erase_sublist ..) (List.Sublist.refl _)
      have el : ((d ++ [p]).erase x).length = d.length := by rw [List.length_erase_of_mem mem, len]; rfl
      have ih := desk_sgn s t u r ((d ++ [p]).erase x) (sub.nodup nd2) (by omega) (by omega)
      show decide (u ≤ x) :: sgn u (deskGo s t ((d ++ [p]).erase x) r) = _
      rw [ih]
      generalize sgn u r = R
      generalize (sgn u d).count false = a at *
      generalize (sgn u d).count true = b at *
      cases hp : decide (u ≤ p)
      · rw [hp] at a0 a1
        simp only [if_true, Bool.false_eq_true, if_false, Nat.add_zero] at a0 a1
        rw [a0] at ls er0
        rw [a1] at er1
        show _ = deskB s t a b (false :: R)
        conv => rhs; unfold deskB
        rw [if_pos (by omega)]
        by_cases hs : s < a + 1
        · rw [decide_eq_false (by omega : ¬ a + 1 ≤ s)] at ls
          rw [ls] at er0 er1 ⊢
          simp at er0 er1
          rw [if_pos hs, ← er0, ← er1]
        · rw [decide_eq_true (by omega : a + 1 ≤ s)] at ls
          rw [ls] at er0 er1 ⊢
          simp at er0 er1
          rw [if_neg hs, ← er0, show b - 1 = (sgn u ((d ++ [p]).erase x)).count true by omega]
      · rw [hp] at a0 a1
        simp only [if_true, Bool.true_eq_false, if_false, Nat.add_zero] at a0 a1
        rw [a0] at ls er0
        rw [a1] at er1
        show _ = deskB s t a b (true :: R)
        conv => rhs; unfold deskB
        rw [if_pos (by omega)]
        by_cases hs : s < a
        · rw [decide_eq_false (by omega : ¬ a ≤ s)] at ls
          rw [ls] at er0 er1 ⊢
          simp at er0 er1
          rw [if_pos hs, ← er1, show a - 1 = (sgn u ((d ++ [p]).erase x)).count false by omega]
        · rw [decide_eq_true (by omega : a ≤ s)] at ls
          rw [ls] at er0 er1 ⊢
          simp at er0 er1
          rw [if_neg hs, ← er0, ← er1]
    · rw [if_neg hf, desk_sgn s t u r (d ++ [p]) nd2 (by omega) (by omega), a0, a1]
      cases hp : decide (u ≤ p)
      · show deskB s t ((sgn u d).count false + 1) ((sgn u d).count true) (sgn u r) = deskB s t _ _ (false :: sgn u r)
        conv => rhs; unfold deskB
        rw [if_neg (by omega)]
      · show deskB s t ((sgn u d).count false) ((sgn u d).count true + 1) (sgn u r) = deskB s t _ _ (true :: sgn u r)
        conv => rhs; unfold deskB
        rw [if_neg (by omega)]
/-- a desk is its passes -/
theorem desk_passes {s t : Nat} {ns : List Int} (nd : ns.Nodup) (h : s + t ≤ ns.length) : deskGo s t [] ns = afterL (List.replicate s false ++ List.replicate t true) ns := by
  by_cases hn : ns = []
  · subst hn
    rw [afterL_nil]
    have hs : s = 0 := by simp at h; omega
    subst hs
    unfold deskGo
    simp [List.mergeSort]
  have key : ∀ u, sgn u (deskGo s t [] ns) = sgn u (afterL (List.replicate s false ++ List.replicate t true) ns) := fun u => by
    rw [desk_sgn s t u ns [] (by simpa using nd) (Nat.zero_le _) (by simpa using h), after_sgn u _ ns hn]
    show deskB s t 0 0 (sgn u ns) = _
    rw [deskB_eq s t _ 0 0 (Nat.zero_le _) (by rw [sgn_len]; simpa using h)]
    have c0 : (List.replicate s false ++ List.replicate t true).count false = s := by simp [List.count_replicate]
    have c1 : (List.replicate s false ++ List.replicate t true).count true = t := by simp [List.count_replicate]
    rw [c0, c1, dropN_app, dropN_0x]
    unfold deskG
    simp only [Nat.zero_sub, List.replicate_zero, List.nil_append, Nat.sub_zero, Nat.zero_add]
    rw [show s - (s - (sgn u ns).count false) = min s ((sgn u ns).count false) by omega, show t - (t - (sgn u ns).count true) = min t ((sgn u ns).count true) by omega]
  refine sgn_inj ?_ key
  have := congrArg List.length (key 0)
  rwa [sgn_len, sgn_len] at this
end Lp
namespace Lp
open PySem PySem.Spec PyProof.Rows L2
/-! ### desks with the numbers of arrivals -/
theorem below_inj {l : List Int} {x y : Int} (hx : x ∈ l) (hy : y ∈ l) (h : (l.filter fun z => decide (z < x)).length = (l.filter fun z => decide (z < y)).length) : x = y := by
  have h1 := below_or_at x l
  have h2 := below_or_at y l
  have c1 : 1 ≤ l.count x := List.count_pos_iff.mpr hx
  have c2 : 1 ≤ l.count y := List.count_pos_iff.mpr hy
  rcases Int.lt_trichotomy x y with z | z | z
  · have := below_mono (by omega : x + 1 ≤ y) l
    omega
  · exact z
  · have := below_mono (by omega : y + 1 ≤ x) l
    omega
theorem leaver_at {s : Nat} {d ds : List Int} (p : ds.Perm d) (so : ds.Pairwise (· ≤ ·)) (nd : d.Nodup) (h : s < ds.length) : ds[s] = leaver s d := by
  have hd : s < d.length := by rw [← p.length_eq]; exact h
  obtain ⟨mem, cnt⟩ := leaver_ok nd hd
  refine below_inj (p.mem_iff.mp (List.getElem_mem h)) mem ?_
  rw [cnt, ← (p.filter _).length_eq]
  exact filter_sorted h so (p.nodup_iff.mpr nd)
theorem erase_at : ∀ {l : List Int} {k : Nat} (h : k < l.length), l.Nodup → l.eraseIdx k = l.erase l[k]
  | a :: l, 0, _, _ => by simp
  | a :: l, k + 1, h, nd => by
    rw [List.nodup_cons] at nd
    have hk : k < l.length := Nat.lt_of_succ_lt_succ h
    have ne : (a == (a :: l)[k + 1]) = false := by
      show (a == l[k]) = false
      exact beq_eq_false_iff_ne.mpr fun e => nd.1 (e ▸ List.getElem_mem hk)
    rw [List.erase_cons, ne]
    show a :: l.eraseIdx k = a :: l.erase l[k]
    rw [erase_at hk nd.2]
theorem sorted_uniq {a b : List Int} (p : a.Perm b) (ha : a.Pairwise (· ≤ ·)) (hb : b.Pairwise (· ≤ ·)) : a = b :=
  p.eq_of_pairwise (fun x y _ _ h1 h2 => by omega) ha hb
/-- the people of an ascending list as they leave at last -/
def lastGo (s : Nat) (ds : List Int) : List Int := (ds.take s).reverse ++ ds.drop s
def stepD (s t : Nat) (st : List (Int × Int) × List Int × Nat) (p : Int) : List (Int × Int) × List Int × Nat :=
  if s + t < st.2.1.length + 1 then (st.1 ++ [(((st.2.2 + 1 : Nat) : Int), leaver s (st.2.1 ++ [p]))], (st.2.1 ++ [p]).erase (leaver s (st.2.1 ++ [p])), st.2.2 + 1)
  else (st.1, st.2.1 ++ [p], st.2.2 + 1)
def runD (s t : Nat) (ns : List Int) : List (Int × Int) × List Int × Nat := ns.foldl (stepD s t) ([], [], 0)
def sortL (l : List Int) : List Int := l.mergeSort fun x y => decide (x ≤ y)
def depL (s t : Nat) (ns : List Int) : List (Int × Int) := (runD s t ns).1 ++ (lastGo s (sortL (runD s t ns).2.1)).map fun p => ((ns.length : Int), p)
theorem depGo (s t : Nat) : ∀ (r d : List Int) (l : List (Int × Int)) (k : Nat), ((r.foldl (stepD s t) (l, d, k)).1.map (·.2)) ++ lastGo s (sortL (r.foldl (stepD s t) (l, d, k)).2.1) = l.map (·.2) ++ deskGo s t d r
  | [], d, l, k => rfl
  | p :: r, d, l, k => by
    rw [List.foldl_cons, show stepD s t (l, d, k) p = (if s + t < d.length + 1 then (l ++ [(((k + 1 : Nat) : Int), leaver s (d ++ [p]))], (d ++ [p]).erase (leaver s (d ++ [p])), k + 1) else (l, d ++ [p], k + 1)) from rfl, deskGo]
    split
    · rw [depGo s t r, List.map_append, List.append_assoc]
      rfl
    · rw [depGo s t r]
theorem depL_desk (s t : Nat) (ns : List Int) : (depL s t ns).map (·.2) = deskGo s t [] ns := by
  have := depGo s t ns [] [] 0
  unfold depL runD
  rw [List.map_append, List.map_map, show ((fun x : Int × Int => x.2) ∘ fun p => ((ns.length : Int), p)) = id from rfl, List.map_id]
  exact this
theorem runD_take {s t : Nat} {ns : List Int} {i : Nat} (h : i < ns.length) : runD s t (ns.take (i + 1)) = stepD s t (runD s t (ns.take i)) ns[i] := fold_take (List.getElem?_eq_getElem h)
/-- who is at the desk, of those who came -/
theorem runD_desk (s t : Nat) : ∀ (r d : List Int) (l : List (Int × Int)) (k : Nat), (d ++ r).Nodup → d.length ≤ s + t → (r.foldl (stepD s t) (l, d, k)).2.1.Nodup ∧ (∀ x ∈ (r.foldl (stepD s t) (l, d, k)).2.1, x ∈ d ++ r) ∧ (r.foldl (stepD s t) (l, d, k)).2.1.length ≤ s + t ∧ (r.foldl (stepD s t) (l, d, k)).2.2 = k + r.length
  | [], d, l, k, nd, hd => by
    rw [List.append_nil] at nd ⊢
    exact ⟨nd, fun x hx => hx, hd, rfl⟩
  | p :: r, d, l, k, nd, hd => by
    have nd2 : ((d ++ [p]) ++ r).Nodup := by rw [List.append_assoc]; exact nd
    have ndp : (d ++ [p]).Nodup := (List.nodup_append.mp nd2).1
    rw [List.foldl_cons, show stepD s t (l, d, k) p = (if s + t < d.length + 1 then (l ++ [(((k + 1 : Nat) : Int), leaver s (d ++ [p]))], (d ++ [p]).erase (leaver s (d ++ [p])), k + 1) else (l, d ++ [p], k + 1)) from rfl]
    split
    · rename_i hlt
      have hs : s < (d ++ [p]).length := by
        rw [List.length_append]
        show s < d.length + 1
        omega
      obtain ⟨mem, _⟩ := leaver_ok ndp hs
      have sub : ((d ++ [p]).erase (leaver s (d ++ [p])) ++ r).Sublist ((d ++ [p]) ++ r) := (List.erase_sublist ..).append_right r
      obtain ⟨h1, h2, h3, h4⟩ := runD_desk s t r ((d ++ [p]).erase (leaver s (d ++ [p]))) (l ++ [(((k + 1 : Nat) : Int), leaver s (d ++ [p]))]) (k + 1) (nd2.sublist sub) (by
        rw [List.length_erase_of_mem mem, List.length_append]
        show d.length + 1 - 1 ≤ s + t
        omega)
      refine ⟨h1, fun x hx => ?_, h3, by rw [h4, List.length_cons]; omega⟩
      have := sub.mem (h2 x hx)
      rw [List.append_assoc] at this
      exact this
    · rename_i hlt
      obtain ⟨h1, h2, h3, h4⟩ := runD_desk s t r (d ++ [p]) l (k + 1) nd2 (by
        rw [List.length_append]
        show d.length + 1 ≤ s + t
        omega)
      refine ⟨h1, fun x hx => ?_, h3, by rw [h4, List.length_cons]; omega⟩
      have := h2 x hx
      rw [List.append_assoc] at this
      exact this
theorem runD_ok {s t : Nat} {ns : List Int} (nd : ns.Nodup) (i : Nat) : (runD s t (ns.take i)).2.1.Nodup ∧ (∀ x ∈ (runD s t (ns.take i)).2.1, x ∈ ns.take i) ∧ (runD s t (ns.take i)).2.1.length ≤ s + t ∧ (runD s t (ns.take i)).2.2 = (ns.take i).length := by
  obtain ⟨h1, h2, h3, h4⟩ := runD_desk s t (ns.take i) [] [] 0 (by rw [List.nil_append]; exact nd.sublist (List.take_sublist ..)) (Nat.zero_le _)
  exact ⟨h1, fun x hx => by simpa using h2 x hx, h3, by unfold runD; rw [h4]; omega⟩
/-- pairs of numbers in the heap -/
def PairsAt (H : Hp) : List Addr → List (Int × Int) → Prop
  | [], [] => True
  | r :: rs, p :: ps => H r = some (.tup [.int p.1, .int p.2]) ∧ PairsAt H rs ps
  | [], _ :: _ => False
  | _ :: _, [] => False
theorem PairsAt.keep {H H' : Hp} : ∀ {rs : List Addr} {ps : List (Int × Int)}, PairsAt H rs ps → (∀ r ∈ rs, ∀ o, H r = some o → H' r = some o) → PairsAt H' rs ps
  | [], [], _, _ => trivial
  | r :: rs, p :: ps, h, e => ⟨e r (List.mem_cons_self ..) _ h.1, PairsAt.keep h.2 fun x hx => e x (List.mem_cons_of_mem _ hx)⟩
theorem PairsAt.same {H H' : Hp} {rs : List Addr} {ps : List (Int × Int)} (h : PairsAt H rs ps) (e : Same H H') : PairsAt H' rs ps := h.keep fun _ _ o z => e _ o z
theorem PairsAt.snoc {H : Hp} {r : Addr} {p : Int × Int} : ∀ {rs : List Addr} {ps : List (Int × Int)}, PairsAt H rs ps → H r = some (.tup [.int p.1, .int p.2]) → PairsAt H (rs ++ [r]) (ps ++ [p])
  | [], [], _, e => ⟨e, trivial⟩
  | _ :: _, _ :: _, h, e => ⟨h.1, PairsAt.snoc h.2 e⟩
theorem PairsAt.len {H : Hp} : ∀ {rs : List Addr} {ps : List (Int × Int)}, PairsAt H rs ps → rs.length = ps.length
  | [], [], _ => rfl
  | _ :: _, _ :: _, h => by rw [List.length_cons, List.length_cons, PairsAt.len h.2]
theorem PairsAt.get {H : Hp} : ∀ {rs : List Addr} {ps : List (Int × Int)} {i : Nat} {r : Addr}, PairsAt H rs ps → rs[i]? = some r → ∃ p, ps[i]? = some p ∧ H r = some (.tup [.int p.1, .int p.2])
  | r :: rs, p :: ps, 0, r', h, e => ⟨p, rfl, by rw [← Option.some.inj e]; exact h.1⟩
  | r :: rs, p :: ps, i + 1, r', h, e => PairsAt.get (i := i) h.2 e
theorem PairsAt.app {H : Hp} : ∀ {rs qs : List Addr} {ps os : List (Int × Int)}, PairsAt H rs ps → PairsAt H qs os → PairsAt H (rs ++ qs) (ps ++ os)
  | [], _, [], _, _, h => h
  | _ :: _, _, _ :: _, _, h, g => ⟨h.1, PairsAt.app h.2 g⟩
theorem cutT (ns : List Int) (k : Nat) : cutV (ns.map V.int) none (some (k : Nat)) = (ns.take k).map V.int := by
  unfold cutV
  rw [HT.sIx_none, HT.sIx_nat, List.length_map]
  show ((ns.map V.int).take (min k ns.length - 0)) = _
  rw [Nat.sub_zero, List.map_take]
  by_cases h : k ≤ ns.length
  · rw [Nat.min_eq_left h]
  · rw [Nat.min_eq_right (by omega), List.take_of_length_le (by rw [List.length_map]; omega), List.take_of_length_le (by rw [List.length_map]; omega)]
theorem cutD (ns : List Int) (k : Nat) : cutV (ns.map V.int) (some (k : Nat)) none = (ns.drop k).map V.int := by
  unfold cutV
  rw [HT.sIx_none, HT.sIx_nat, List.length_map]
  show (((ns.map V.int).drop (min k ns.length)).take (ns.length - min k ns.length)) = _
  rw [List.map_drop]
  by_cases h : k ≤ ns.length
  · rw [Nat.min_eq_left h, List.take_of_length_le (by rw [List.length_drop, List.length_map]; omega)]
  · rw [Nat.min_eq_right (by omega), List.drop_of_length_le (by rw [List.length_map]; omega), List.drop_of_length_le (by rw [List.length_map]; omega)]
    exact List.take_nil
end Lp
namespace Lp
open PySem PySem.Spec PyProof.Rows L2
/-! ### lists of texts as data -/
theorem strOk_wd (bs : List Bool) : PyData.strOk (wd bs) = true := by
  show ((bs.map code).toArray.all (· < 0x110000)) = true
  rw [List.all_toArray, List.all_eq_true]
  intro c hc
  obtain ⟨b, _, rfl⟩ := List.mem_map.mp hc
  cases b <;> decide
abbrev vW (bs : List Bool) : V := .str (wd bs)
abbrev dW (bs : List Bool) : PyData := .str (wd bs)
theorem Dp_wds {K : PySem.W.Frag} {H : Hp} : ∀ zs : List (List Bool), DpAll K H (zs.map vW) (zs.map dW)
  | [] => .nil
  | z :: zs => .cons (.str (wd z)) (Dp_wds zs)
theorem lay_wds : ∀ zs : List (List Bool), PyData.canLayAll0 (zs.map dW) = true
  | [] => by simp only [List.map_nil, PyData.canLayAll0]
  | n :: ns => by simp only [List.map_cons, PyData.canLayAll0, PyData.canLay0, strOk_wd, Bool.true_and, lay_wds ns]
theorem depth_wds : ∀ zs : List (List Bool), PyData.depthAll (zs.map dW) = 0
  | [] => by simp only [List.map_nil, PyData.depthAll]
  | n :: ns => by simp only [List.map_cons, PyData.depthAll, PyData.depth, depth_wds ns, Nat.max_self]
theorem shaped_wds (zs : List (List Bool)) : SeqAt.shaped (.list (zs.map dW)) = true := by
  unfold SeqAt.shaped
  simp only [PyData.canLay0, PyData.depth, lay_wds, depth_wds]
  decide
theorem eqv_wds (zs : List (List Bool)) : PyData.eqv (.list (zs.map dW)) (.list (zs.map dW)) = true := SeqAt.eqv_refl _ (by simp only [PyData.canLay0, lay_wds])
theorem Dp_texts {K : PySem.W.Frag} {H : Hp} {a : Addr} {zs : List (List Bool)} (h : SqL K H a (zs.map vW)) : Dp K H (.ref a) (.list (zs.map dW)) := .lst h (Dp_wds zs)
theorem neV (v : V) : (!decide (v = v)) = false := by rw [decide_eq_true rfl]; rfl
theorem Pool.row {H : Hp} {a p : Addr} {xs : List V} (x : Pool H a) (h : H p = some (.tup xs)) : p ≠ a := fun e => by
  obtain ⟨s, d, n, g, _⟩ := x
  subst e
  rw [h] at g
  cases g
theorem SqL.kp {K : PySem.W.Frag} {a b : Addr} {H H' : Hp} {xs : List V} (e : Kp a H H') (ne : b ≠ a) (h : SqL K H b xs) : SqL K H' b xs := by
  rcases h with (h | ⟨o, h⟩) | h
  · exact .inl (.inl (e _ _ h ne))
  · exact .inl (.inr ⟨o, e _ _ h ne⟩)
  · exact .inr h
theorem SqT.pool {K : PySem.W.Frag} {a b : Addr} {H H' : Hp} {xs : List V} (h : SqT K H b xs) (x : Pool H a) (e : Kp a H H') : SqT K H' b xs := by
  obtain ⟨_, _, _, g, _⟩ := x
  rcases h with (h | ⟨o, h⟩) | h
  · exact .inl (.inl (e _ _ h fun z => by subst z; rw [h] at g; cases g))
  · exact .inl (.inr ⟨o, e _ _ h fun z => by subst z; rw [h] at g; cases g⟩)
  · exact .inr h
theorem SqL.fresh {K : PySem.W.Frag} {a b : Addr} {H H' G : Hp} {xs : List V} (h : SqL K H a xs) (nb : H b = none) (s : Same H H') (k : Kp b H' G) : SqL K G a xs := by
  rcases h with (h | ⟨o, h⟩) | h
  · exact .inl (.inl (k _ _ (s _ _ h) (ne_of_none h nb)))
  · exact .inl (.inr ⟨o, k _ _ (s _ _ h) (ne_of_none h nb)⟩)
  · exact .inr h
theorem getN {M : List Nat} {i : Nat} (h : i < M.length) : (M.map fun m => V.int (m : Nat))[i]? = some (.int (M[i] : Nat)) := by
  rw [List.getElem?_map, List.getElem?_eq_getElem h]
  rfl
theorem atST (d : Int) (h0 : 0 ≤ d) (h1 : d < 2) : atI (Str.ofString "ST").cps.toList d = some (code (decide (d = 1))) := by
  have h : d = 0 ∨ d = 1 := by omega
  rcases h with rfl | rfl <;> decide +kernel
theorem cutS_drop (bs : List Bool) (k : Nat) : cutS (wd bs) (some (k : Nat)) none = wd (bs.drop k) := by
  unfold cutS
  rw [HT.sIx_none, HT.sIx_nat, wd_len]
  show (⟨(((bs.map code).drop (min k bs.length)).take (bs.length - min k bs.length)).toArray⟩ : Str) = ⟨((bs.drop k).map code).toArray⟩
  rw [List.map_drop]
  congr 2
  by_cases h : k ≤ bs.length
  · rw [Nat.min_eq_left h, List.take_of_length_le (by rw [List.length_drop, List.length_map]; omega)]
  · rw [Nat.min_eq_right (by omega), List.drop_of_length_le (by rw [List.length_map]; omega), List.drop_of_length_le (by rw [List.length_map]; omega)]
    exact List.take_nil
theorem cutS_mid (bs : List Bool) (i j : Nat) : cutS (wd bs) (some (i : Nat)) (some (j : Nat)) = wd ((bs.drop (min i bs.length)).take (min j bs.length - min i bs.length)) := by
  unfold cutS
  rw [HT.sIx_nat, HT.sIx_nat, wd_len]
  show (⟨(((bs.map code).drop (min i bs.length)).take (min j bs.length - min i bs.length)).toArray⟩ : Str) = ⟨(((bs.drop (min i bs.length)).take (min j bs.length - min i bs.length)).map code).toArray⟩
  rw [List.map_take, List.map_drop]
/-- the last m - 1 letters -/
def lastN (m : Nat) (bs : List Bool) : List Bool := bs.drop (bs.length + 1 - m)
theorem lastN_len (m : Nat) (bs : List Bool) : (lastN m bs).length = min bs.length (m - 1) := by
  unfold lastN
  rw [List.length_drop]
  omega
theorem lastN_lastN {m : Nat} (hm : 1 ≤ m) (bs : List Bool) : lastN m (lastN m bs) = lastN m bs := by
  have h : (lastN m bs).length + 1 - m = 0 := by
    rw [lastN_len]
    omega
  show (lastN m bs).drop ((lastN m bs).length + 1 - m) = _
  rw [h]
  rfl
theorem after_lastN {ns : List Int} {m : Nat} (h : ns.length = m) (bs : List Bool) : afterL (lastN m bs) ns = afterL bs ns := by
  rw [← h]
  exact after_drop
theorem wd_inj {a b : List Bool} (h : wd a = wd b) : a = b := by
  have h1 : (a.map code).toArray = (b.map code).toArray := congrArg Str.cps h
  have h2 : a.map code = b.map code := by simpa using congrArg Array.toList h1
  refine List.map_inj_right (fun x y e => ?_) |>.mp h2
  cases x <;> cases y <;> first | rfl | exact absurd e (by decide)
/-! ### list of a text -/
theorem letters_rel {bs : List Bool} {acc : Array Value} (items : ItemsOf (SignAt (wd bs)) acc (wd bs).cps.size) : Vals (bs.map fun b => V.str (ltr b)) acc.toList := by
  have sz : acc.toList.length = (bs.map fun b => V.str (ltr b)).length := by
    rw [List.length_map, Array.length_toList, items.1]
    exact wd_len bs
  refine vals_of_at sz.symm fun j x u hx hu => ?_
  obtain ⟨c, tk, hc, rfl⟩ := items.2 j u (by simpa using hu)
  obtain ⟨b, hb, rfl⟩ := wd_get hc
  rw [List.getElem?_map, hb] at hx
  rw [← Option.some.inj hx]
  exact ⟨tk, rfl⟩
def rListW : List V → Hp → VK → Prop := fun xs H Q => ∃ bs : List Bool, xs = [.str (wd bs)] ∧ bs.length ≤ 1000 ∧ ∀ l, H l = none → Q (.ref l) (upd H l (.lst (bs.map fun b => V.str (ltr b))))
theorem cr_listW {X : Cx} (calm : X.calm = true) : CallR X (.type "list") rListW := fun pins s σ H xs us Q I r h => by
  obtain ⟨bs, rfl, hl, q⟩ := h
  obtain ⟨u, rfl, tk0, rfl⟩ := vals1 r
  have fits : (wd bs).cps.size ≤ sizeLine := Nat.le_trans (Nat.le_of_eq (wd_len bs)) (Nat.le_of_lt (len_lt (by omega)))
  refine call_list_str (hn := fits) (I.ok.hd calm) (wd bs) tk0 fun h2 tk acc c keep at_ items => ?_
  have new : ObjOk X.prog X.w (upd H s.heap.objs.size (.lst (bs.map fun b => V.str (ltr b)))) h2 s.heap.objs.size (.lst (bs.map fun b => V.str (ltr b))) :=
    ⟨by rw [List.length_map]; exact Nat.le_of_lt (len_lt (by omega)), acc.toList, c, letters_rel items, by simpa using at_⟩
  exact ⟨.ref s.heap.objs.size, _, I.laid (t' := tk) keep (Nat.le_refl _) new, rfl, q _ (I.hok.fresh (Nat.le_refl _))⟩
/-! ### a letter times a number -/
theorem mul_ltr0 (b : Bool) (n : Nat) : Txt.mul (ltr b) ((n : Nat) : Int) = wd (List.replicate n b) := by
  cases n with
  | zero => rfl
  | succ n => exact mul_ltr b n
theorem op_mulL {X : Cx} : OpR X (binaryOp .Mult) (fun x y H Q => ∃ (b : Bool) (n : Nat), x = .str (ltr b) ∧ y = .int (n : Nat) ∧ n ≤ 1000 ∧ Q (.str (wd (List.replicate n b))) H) := by
  intro pins s σ H x y v u Q I rx ry h
  obtain ⟨b, n, rfl, rfl, h2, q⟩ := h
  obtain ⟨t, rfl⟩ := rx
  obtain ⟨t', rfl⟩ := ry
  rw [← mul_ltr0] at q
  refine SB.mul ⟨?_, fun h1 _ => ?_, fun h1 _ => ?_⟩ fun t2 k2 => ⟨.str _, H, I.tok k2, ⟨t2, rfl⟩, q⟩
  · rw [Bool.or_eq_false_iff]
    exact ⟨decide_eq_false (by omega), decide_eq_false (by omega)⟩
  · have e : (1000 : Int) ≤ (2 ^ 63 - 1) / (n : Nat) := Int.le_ediv_of_mul_le (by omega) (by omega)
    have e1 : (ltr b).length = 1 := rfl
    rw [e1]
    omega
  · have e1 : (ltr b).length = 1 := rfl
    rw [e1]
    unfold PySem.Builtin.Str.tooLong
    exact decide_eq_false (by rw [Nat.not_lt, Nat.one_mul]; exact Nat.le_trans (by omega : _ ≤ 1000) (by decide))
/-! ### three names in another order -/
def rev3 {α : Type} : List α → List α
  | [a, b, c] => [c, b, a]
  | l => l
def rotL3 {α : Type} : List α → List α
  | [a, b, c] => [b, c, a]
  | l => l
def rotR3 {α : Type} : List α → List α
  | [a, b, c] => [c, a, b]
  | l => l
theorem three_of {zs : List V} {ws : List Value} (r : Vals zs ws) : (∃ a b c x y z, zs = [a, b, c] ∧ ws = [x, y, z] ∧ RelV a x ∧ RelV b y ∧ RelV c z) ∨ (zs.length ≠ 3 ∧ ws.length ≠ 3) := by
  have l := r.length
  by_cases h : zs.length = 3
  · match zs, ws, r, h with
    | [a, b, c], [x, y, z], .cons p (.cons q (.cons s .nil)), _ => exact .inl ⟨a, b, c, x, y, z, rfl, rfl, p, q, s⟩
  · exact .inr ⟨h, by omega⟩
theorem rev3_id {α : Type} {l : List α} (h : l.length ≠ 3) : rev3 l = l := by
  match l, h with
  | [], _ | [_], _ | [_, _], _ => rfl
  | [_, _, _], h => exact absurd rfl h
  | _ :: _ :: _ :: _ :: _, _ => rfl
theorem rotL3_id {α : Type} {l : List α} (h : l.length ≠ 3) : rotL3 l = l := by
  match l, h with
  | [], _ | [_], _ | [_, _], _ => rfl
  | [_, _, _], h => exact absurd rfl h
  | _ :: _ :: _ :: _ :: _, _ => rfl
theorem rotR3_id {α : Type} {l : List α} (h : l.length ≠ 3) : rotR3 l = l := by
  match l, h with
  | [], _ | [_], _ | [_, _], _ => rfl
  | [_, _, _], h => exact absurd rfl h
  | _ :: _ :: _ :: _ :: _, _ => rfl
theorem rel_rev3 {zs : List V} {ws : List Value} (r : Vals zs ws) : Vals (rev3 zs) (rev3 ws) := by
  rcases three_of r with ⟨a, b, c, x, y, z, rfl, rfl, p, q, s⟩ | ⟨h1, h2⟩
  · exact .cons s (.cons q (.cons p .nil))
  · rw [rev3_id h1, rev3_id h2]
    exact r
theorem rel_rotL3 {zs : List V} {ws : List Value} (r : Vals zs ws) : Vals (rotL3 zs) (rotL3 ws) := by
  rcases three_of r with ⟨a, b, c, x, y, z, rfl, rfl, p, q, s⟩ | ⟨h1, h2⟩
  · exact .cons q (.cons s (.cons p .nil))
  · rw [rotL3_id h1, rotL3_id h2]
    exact r
theorem rel_rotR3 {zs : List V} {ws : List Value} (r : Vals zs ws) : Vals (rotR3 zs) (rotR3 ws) := by
  rcases three_of r with ⟨a, b, c, x, y, z, rfl, rfl, p, q, s⟩ | ⟨h1, h2⟩
  · exact .cons s (.cons p (.cons q .nil))
  · rw [rotR3_id h1, rotR3_id h2]
    exact r
/-! ### each of a list of places holds its own -/
def Each {β : Type} (R : Addr → β → Prop) : List Addr → List β → Prop
  | [], [] => True
  | r :: rs, p :: ps => R r p ∧ Each R rs ps
  | [], _ :: _ => False
  | _ :: _, [] => False
theorem Each.get {β : Type} {R : Addr → β → Prop} : ∀ {rs : List Addr} {ps : List β} {i : Nat} {r : Addr}, Each R rs ps → rs[i]? = some r → ∃ p, ps[i]? = some p ∧ R r p
  | r :: rs, p :: ps, 0, r', h, e => ⟨p, rfl, by rw [← Option.some.inj e]; exact h.1⟩
  | r :: rs, p :: ps, i + 1, r', h, e => Each.get (i := i) h.2 e
theorem Each.imp {β : Type} {R S : Addr → β → Prop} : ∀ {rs : List Addr} {ps : List β}, Each R rs ps → (∀ r ∈ rs, ∀ p, R r p → S r p) → Each S rs ps
  | [], [], _, _ => trivial
  | r :: rs, p :: ps, h, e => ⟨e r (List.mem_cons_self ..) _ h.1, Each.imp h.2 fun x hx => e x (List.mem_cons_of_mem _ hx)⟩
theorem Each.snoc {β : Type} {R : Addr → β → Prop} {r : Addr} {p : β} : ∀ {rs : List Addr} {ps : List β}, Each R rs ps → R r p → Each R (rs ++ [r]) (ps ++ [p])
  | [], [], _, e => ⟨e, trivial⟩
  | _ :: _, _ :: _, h, e => ⟨h.1, Each.snoc h.2 e⟩
theorem Each.len {β : Type} {R : Addr → β → Prop} : ∀ {rs : List Addr} {ps : List β}, Each R rs ps → rs.length = ps.length
  | [], [], _ => rfl
  | _ :: _, _ :: _, h => by rw [List.length_cons, List.length_cons, Each.len h.2]
theorem Each.app {β : Type} {R : Addr → β → Prop} : ∀ {rs qs : List Addr} {ps os : List β}, Each R rs ps → Each R qs os → Each R (rs ++ qs) (ps ++ os)
  | [], _, [], _, _, h => h
  | _ :: _, _, _ :: _, _, h, g => ⟨h.1, Each.app h.2 g⟩
theorem getR {rs : List Addr} {k : Nat} (h : k < rs.length) : (rs.map V.ref)[k]? = some (.ref rs[k]) := by
  rw [List.getElem?_map, List.getElem?_eq_getElem h]
  rfl
theorem lt_of_get {α β : Type} {f : α → β} {xs : List α} {i : Nat} {x : β} (h : (xs.map f)[i]? = some x) : i < xs.length := by
  have := (List.getElem?_eq_some_iff.mp h).1
  rw [List.length_map] at this
  exact this
theorem getB {l : List Bool} {k : Nat} (h : k < l.length) : (l.map fun b => V.str (ltr b))[k]? = some (.str (ltr l[k])) := by
  rw [List.getElem?_map, List.getElem?_eq_getElem h]
  rfl
end Lp
namespace Lp
open PySem PySem.Spec PyProof.Rows L2
/-! ### tuples of pairs as data -/
abbrev dP (p : Int × Int) : PyData := .tuple [.int p.1, .int p.2]
def Small (p : Int × Int) : Prop := (0 ≤ p.1 ∧ p.1 ≤ 999) ∧ 0 ≤ p.2 ∧ p.2 ≤ 999
theorem small_log0 {x : Int} (h : 0 ≤ x ∧ x ≤ 999) : x.natAbs.log2 < 1920 := by
  by_cases h0 : x = 0
  · subst h0
    decide
  · exact small_log ⟨by omega, h.2⟩
theorem Dp_pairs {K : PySem.W.Frag} {H : Hp} : ∀ {rs : List Addr} {ps : List (Int × Int)}, PairsAt H rs ps → DpAll K H (rs.map V.ref) (ps.map dP)
  | [], [], _ => .nil
  | _ :: _, p :: _, h => .cons (.tup (.inl (.inl h.1)) (Dp_ints [p.1, p.2])) (Dp_pairs h.2)
theorem lay_pairs : ∀ ps : List (Int × Int), PyData.canLayAll0 (ps.map dP) = true
  | [] => by simp only [List.map_nil, PyData.canLayAll0]
  | n :: ns => by simp only [List.map_cons, PyData.canLayAll0, PyData.canLay0, Bool.true_and, lay_pairs ns]
theorem depth_pairs : ∀ ps : List (Int × Int), PyData.depthAll (ps.map dP) ≤ 1
  | [] => by simp only [List.map_nil, PyData.depthAll]; decide
  | n :: ns => by
    have := depth_pairs ns
    simp only [List.map_cons, PyData.depthAll, PyData.depth]
    omega
theorem show_pairs : ∀ {ps : List (Int × Int)}, (∀ p ∈ ps, Small p) → PyData.showableAll (ps.map dP) = true
  | [], _ => by simp only [List.map_nil, PyData.showableAll]
  | n :: ns, h => by
    have hn := h n (List.mem_cons_self ..)
    have e1 := small_log0 hn.1
    have e2 := small_log0 hn.2
    simp only [List.map_cons, PyData.showableAll, PyData.showable, Bool.and_eq_true, Bool.and_true]
    exact ⟨⟨decide_eq_true e1, decide_eq_true e2⟩, show_pairs fun x hx => h x (List.mem_cons_of_mem _ hx)⟩
theorem pair_len {p : Int × Int} (h : Small p) : (dP p).shown.length ≤ 10000 := by
  have h1 := fmt_text (PyData.shownAll ([p.1, p.2].map PyData.int))
  have h2 := piled_ints (ns := [p.1, p.2]) fun x hx => by
    rcases List.mem_cons.mp hx with rfl | hx
    · exact small_log0 h.1
    · rw [List.mem_singleton.mp hx]
      exact small_log0 h.2
  have e : (dP p).shown = (PyData.tuple ([p.1, p.2].map PyData.int)).shown := rfl
  rw [e]
  simp only [PyData.shown]
  have l2 : [p.1, p.2].length = 2 := rfl
  rw [l2] at h2
  omega
theorem piled_pairs : ∀ {ps : List (Int × Int)}, (∀ p ∈ ps, Small p) → piled (PyData.shownAll (ps.map dP)) ≤ 10002 * ps.length
  | [], _ => by simp only [List.map_nil, PyData.shownAll, piled_nil, List.length_nil]; omega
  | n :: ns, h => by
    have h1 := pair_len (h n (List.mem_cons_self ..))
    have h2 := piled_pairs fun x hx => h x (List.mem_cons_of_mem _ hx)
    rw [List.map_cons, PyData.shownAll, piled_cons, List.length_cons]
    omega
abbrev pairS (ps : List (Int × Int)) : Str := (PyData.tuple (ps.map dP)).shown
theorem pairs_dep (ps : List (Int × Int)) : (PyData.tuple (ps.map dP)).depth ≤ 60 := by
  have := depth_pairs ps
  simp only [PyData.depth]
  omega
theorem pairs_lay (ps : List (Int × Int)) : (PyData.tuple (ps.map dP)).canLay0 = true := by simp only [PyData.canLay0, lay_pairs]
theorem pairs_show {ps : List (Int × Int)} (h : ∀ p ∈ ps, Small p) : (PyData.tuple (ps.map dP)).showable = true := by
  simp only [PyData.showable]
  exact show_pairs h
theorem pairs_len {ps : List (Int × Int)} (hl : ps.length ≤ 1000) (h : ∀ p ∈ ps, Small p) : (PyData.tuple (ps.map dP)).shown.length ≤ sizeLine := by
  simp only [PyData.shown]
  have h1 := fmt_text (PyData.shownAll (ps.map dP))
  have h2 := piled_pairs h
  rw [sizeLine_eq]
  omega
theorem pairs_shaped (ps : List (Int × Int)) : SeqAt.shaped (.tuple (ps.map dP)) = true := by
  have := depth_pairs ps
  unfold SeqAt.shaped
  simp only [PyData.canLay0, PyData.depth, lay_pairs]
  simp
  omega
theorem pairs_eqv (ps : List (Int × Int)) : PyData.eqv (.tuple (ps.map dP)) (.tuple (ps.map dP)) = true := SeqAt.eqv_refl _ (pairs_lay ps)
theorem Dp_prs {K : PySem.W.Frag} {H : Hp} {a : Addr} {rs : List Addr} {ps : List (Int × Int)} (h : SqT K H a (rs.map V.ref)) (e : PairsAt H rs ps) : Dp K H (.ref a) (.tuple (ps.map dP)) := .tup h (Dp_pairs e)
/-- what stands in the departures -/
theorem runD_fst (s t : Nat) : ∀ (r d : List Int) (l : List (Int × Int)) (k : Nat), (d ++ r).Nodup → d.length ≤ s + t → (∀ p ∈ l, 0 ≤ p.1 ∧ p.1 ≤ ((k + r.length : Nat) : Int)) → ∀ p ∈ (r.foldl (stepD s t) (l, d, k)).1, 0 ≤ p.1 ∧ p.1 ≤ ((k + r.length : Nat) : Int)
  | [], d, l, k, nd, hd, h => h
  | p :: r, d, l, k, nd, hd, h => by
    rw [List.foldl_cons, show stepD s t (l, d, k) p = (if s + t < d.length + 1 then (l ++ [(((k + 1 : Nat) : Int), leaver s (d ++ [p]))], (d ++ [p]).erase (leaver s (d ++ [p])), k + 1) else (l, d ++ [p], k + 1)) from rfl]
    have nd2 : ((d ++ [p]) ++ r).Nodup := by rw [List.append_assoc]; exact nd
    have ndp : (d ++ [p]).Nodup := (List.nodup_append.mp nd2).1
    have e : k + (p :: r).length = k + 1 + r.length := by rw [List.length_cons]; omega
    rw [e] at h ⊢
    split
    · rename_i hlt
      have hs : s < (d ++ [p]).length := by
        rw [List.length_append]
        show s < d.length + 1
        omega
      obtain ⟨mem, _⟩ := leaver_ok ndp hs
      refine runD_fst s t r _ _ (k + 1) (nd2.sublist ((List.erase_sublist ..).append_right r)) (by
        rw [List.length_erase_of_mem mem, List.length_append]
        show d.length + 1 - 1 ≤ s + t
        omega) fun x hx => ?_
      rcases List.mem_append.mp hx with z | z
      · exact h x z
      · rw [List.mem_singleton.mp z]
        show 0 ≤ ((k + 1 : Nat) : Int) ∧ ((k + 1 : Nat) : Int) ≤ ((k + 1 + r.length : Nat) : Int)
        omega
    · rename_i hlt
      exact runD_fst s t r _ _ (k + 1) nd2 (by
        rw [List.length_append]
        show d.length + 1 ≤ s + t
        omega) h
theorem depL_small {s t : Nat} {ns : List Int} (r : Row ns) (h : s + t ≤ ns.length) : (∀ p ∈ depL s t ns, Small p) ∧ (depL s t ns).length = ns.length := by
  have e := depL_desk s t ns
  rw [desk_passes r.nd h] at e
  have hl : (depL s t ns).length = ns.length := by
    rw [← List.length_map (f := (·.2)), e, afterL_len]
  have most := r.most
  refine ⟨fun p hp => ⟨?_, ?_⟩, hl⟩
  · unfold depL at hp
    rcases List.mem_append.mp hp with z | z
    · have := runD_fst s t ns [] [] 0 (by rw [List.nil_append]; exact r.nd) (Nat.zero_le _) (fun p hp => nomatch hp) p z
      omega
    · obtain ⟨x, _, rfl⟩ := List.mem_map.mp z
      show 0 ≤ ((ns.length : Nat) : Int) ∧ ((ns.length : Nat) : Int) ≤ 999
      omega
  · have m : p.2 ∈ (depL s t ns).map (·.2) := List.mem_map_of_mem hp
    rw [e] at m
    have := r.rng _ ((afterL_perm _ ns).mem_iff.mp m)
    omega
end Lp
namespace Lp
open PySem PySem.Spec PyProof.Rows L2
/-! ### only ranks matter -/
def Mono (f : Int → Int) (l : List Int) : Prop := ∀ u ∈ l, ∀ v ∈ l, (u < v ↔ f u < f v)
theorem takes_map {f : Int → Int} {b : Bool} {p x : Int} (h1 : p < x ↔ f p < f x) (h2 : x < p ↔ f x < f p) : takes b (f p) (f x) = takes b p x := by
  unfold takes
  cases b with
  | true => exact decide_eq_decide.mpr h2.symm
  | false => exact decide_eq_decide.mpr h1.symm
theorem run_map {f : Int → Int} (b : Bool) : ∀ (xs l s : List Int) (x : Int), Mono f (x :: xs) → (xs.map f).foldl (stepW b) (l.map f, s.map f, f x) = ((xs.foldl (stepW b) (l, s, x)).1.map f, (xs.foldl (stepW b) (l, s, x)).2.1.map f, f (xs.foldl (stepW b) (l, s, x)).2.2)
  | [], l, s, x, _ => rfl
  | p :: xs, l, s, x, m => by
    have mp : p ∈ x :: p :: xs := List.mem_cons_of_mem _ (List.mem_cons_self ..)
    have mx : x ∈ x :: p :: xs := List.mem_cons_self ..
    have e := takes_map (b := b) (m p mp x mx) (m x mx p mp)
    rw [List.map_cons, List.foldl_cons, List.foldl_cons]
    have s1 : stepW b (l.map f, s.map f, f x) (f p) = (if takes b (f p) (f x) = true then (l.map f ++ [f x], s.map f ++ [f x], f p) else (l.map f ++ [f p], s.map f, f x)) := rfl
    have s2 : stepW b (l, s, x) p = (if takes b p x = true then (l ++ [x], s ++ [x], p) else (l ++ [p], s, x)) := rfl
    rw [s1, s2, e]
    by_cases ht : takes b p x = true
    · rw [if_pos ht, if_pos ht]
      have ih := run_map b xs (l ++ [x]) (s ++ [x]) p fun u hu v hv => m u (List.mem_cons_of_mem _ hu) v (List.mem_cons_of_mem _ hv)
      rw [List.map_append, List.map_append] at ih
      exact ih
    · rw [if_neg ht, if_neg ht]
      have sub : ∀ u ∈ x :: xs, u ∈ x :: p :: xs := fun u hu => by
        rcases List.mem_cons.mp hu with rfl | hu
        · exact List.mem_cons_self ..
        · exact List.mem_cons_of_mem _ (List.mem_cons_of_mem _ hu)
      have ih := run_map b xs (l ++ [p]) s x fun u hu v hv => m u (sub u hu) v (sub v hv)
      rw [List.map_append] at ih
      exact ih
theorem pass_map {f : Int → Int} (b : Bool) : ∀ {ns : List Int}, Mono f ns → passL b (ns.map f) = (passL b ns).map f
  | [], _ => rfl
  | x :: xs, m => by
    have e := run_map b xs [] [] x m
    show (runW b (f x) (xs.map f)).1 ++ [(runW b (f x) (xs.map f)).2.2] = ((runW b x xs).1 ++ [(runW b x xs).2.2]).map f
    have e2 : runW b (f x) (xs.map f) = ((runW b x xs).1.map f, (runW b x xs).2.1.map f, f (runW b x xs).2.2) := e
    rw [e2, List.map_append]
    rfl
theorem after_map {f : Int → Int} : ∀ (bs : List Bool) {ns : List Int}, Mono f ns → afterL bs (ns.map f) = (afterL bs ns).map f
  | [], ns, _ => rfl
  | b :: bs, ns, m => by
    show afterL bs (passL b (ns.map f)) = (afterL bs (passL b ns)).map f
    rw [pass_map b m]
    exact after_map bs fun u hu v hv => m u ((passL_perm b ns).mem_iff.mp hu) v ((passL_perm b ns).mem_iff.mp hv)
theorem rk_lt {ns : List Int} {u v : Int} (hu : u ∈ ns) (h : u < v) : rk ns u < rk ns v := by
  have h1 := below_or_at u ns
  have h2 : 1 ≤ ns.count u := List.count_pos_iff.mpr hu
  have h3 := below_mono (by omega : u + 1 ≤ v) ns
  unfold rk
  omega
theorem rk_mono (ns : List Int) : Mono (rk ns) ns := fun u hu v hv => by
  refine ⟨rk_lt hu, fun h => ?_⟩
  rcases Int.lt_trichotomy u v with z | z | z
  · exact z
  · rw [z] at h
    omega
  · have := rk_lt (ns := ns) hv z
    omega
theorem rk_perm {ms ns : List Int} (p : ms.Perm ns) (x : Int) : rk ms x = rk ns x := by
  unfold rk
  rw [(p.filter _).length_eq]
theorem ranks_after (bs : List Bool) (ns : List Int) : afterL bs (ranksL ns) = (afterL bs ns).map (rk ns) := after_map bs (rk_mono ns)
theorem ranks_of_after (bs : List Bool) (ns : List Int) : ranksL (afterL bs ns) = (afterL bs ns).map (rk ns) := by
  unfold ranksL
  exact List.map_congr_left fun x _ => rk_perm (afterL_perm bs ns) x
theorem Row.ranks {ns : List Int} (r : Row ns) : Row (ranksL ns) := by
  have ln : (ranksL ns).length = ns.length := List.length_map ..
  refine ⟨by rw [ln]; exact r.pos, by rw [ln]; exact r.most, ?_, fun x hx => ?_⟩
  · unfold ranksL
    refine List.pairwise_map.mpr (List.Pairwise.imp_of_mem (R := (· ≠ ·)) (fun {a b} ha hb hne e => ?_) r.nd)
    rcases Int.lt_trichotomy a b with z | z | z
    · have := rk_lt ha z
      omega
    · exact hne z
    · have := rk_lt hb z
      omega
  · obtain ⟨y, _, rfl⟩ := List.mem_map.mp hx
    have h1 := List.length_filter_le (fun z => decide (z < y)) ns
    have h2 := r.most
    unfold rk
    omega
end Lp
namespace Lp
open PySem PySem.Spec PyProof.Rows L2
/-! ### the place of a number in a tuple -/
def rIndexT (K : PySem.W.Frag) : V → List V → Hp → VK → Prop := fun x xs H Q => ∃ (p : Addr) (ns : List Int) (j : Nat) (h : j < ns.length), x = .ref p ∧ xs = [.int ns[j]] ∧ SqT K H p (ns.map V.int) ∧ ns.Nodup ∧ Q (.int (j : Nat)) H
theorem mt_tupN {X : Cx} : MtR X "tuple.index" (rIndexT X.K) := fun pins s σ H x xs v us Q I rx rs h => by
  obtain ⟨p, ns, j, lt, rfl, rfl, hq, nd, good⟩ := h
  cases rx
  obtain ⟨u, rfl, tk, rfl⟩ := vals1 rs
  obtain ⟨its, r, pl, _⟩ := I.tuple hq
  obtain ⟨⟨cl, dd, dt, sl⟩, at_, c1, n, d1⟩ := pl
  simp only at c1 d1
  subst c1 d1
  have size : its.toArray.size = ns.length := by
    rw [List.size_toArray, ← r.length]
    exact List.length_map ..
  have item : ∀ (m : Nat) (hm : m < its.toArray.size), ∃ t2, its.toArray[m] = Value.int (ns[m]'(by rw [← size]; exact hm)) t2 := fun m hm => by
    have hm2 : m < ns.length := by rw [← size]; exact hm
    obtain ⟨w, hw, t2, e⟩ := r.get (i := m) (x := .int ns[m]) (getI hm2)
    have e2 := (List.getElem?_eq_some_iff.mp hw).2
    exact ⟨t2, by rw [← e, ← e2]; simp⟩
  have flat : (ns.map V.int).all flatV = true := by
    rw [List.all_map, List.all_eq_true]
    exact fun _ _ => rfl
  have lt2 : j < its.toArray.size := by rw [size]; exact lt
  have hit : eqU (.int ns[j]) its.toArray[j] = true := by
    obtain ⟨t2, e⟩ := item j lt2
    rw [e]
    show (ns[j] == ns[j]) = true
    exact beq_self_eq_true _
  have miss : ∀ m (hm : m < its.toArray.size), m < j → eqU (.int ns[j]) its.toArray[m] = false := fun m hm mj => by
    obtain ⟨t2, e⟩ := item m hm
    rw [e]
    show (_ == ns[j]) = false
    exact beq_eq_false_iff_ne.mpr fun z => by
      have := (List.getElem_inj nd).mp z
      omega
  refine call_meets PySem.F.slot_tuple_index ⟨_, at_, rfl⟩ PySem.F.entry_tuple_index (PySem.F.args_tuple_index_2 _ _) (TI.tuple_indexAt p its.toArray n dd sl (.int ns[j] tk) (eqU (.int ns[j])) j lt2 hit miss) ?_
  exact ⟨at_, fun w hw => mem_eqAt (x := .int ns[j]) ⟨tk, rfl⟩ rfl r flat w (by simpa using hw), ⟨.int (j : Nat), H, I.tok _, ⟨_, rfl⟩, good⟩⟩
/-! ### what is kept of what is kept -/
theorem dropN_dropN : ∀ (l : List Bool) (a b c d : Nat), dropN c d (dropN a b l) = dropN (a + c) (b + d) l
  | [], a, b, c, d => by
    have e : ∀ x y, dropN x y [] = [] := fun x y => by cases x <;> cases y <;> rfl
    rw [e, e, e]
  | false :: l, 0, b, 0, d => by
    show false :: dropN 0 d (dropN 0 b l) = false :: dropN 0 (b + d) l
    rw [dropN_dropN l 0 b 0 d]
  | false :: l, 0, b, c + 1, d => by
    rw [show 0 + (c + 1) = (0 + c) + 1 by omega]
    show dropN c d (dropN 0 b l) = dropN (0 + c) (b + d) l
    exact dropN_dropN l 0 b c d
  | false :: l, a + 1, b, c, d => by
    rw [show a + 1 + c = (a + c) + 1 by omega]
    show dropN c d (dropN a b l) = dropN (a + c) (b + d) l
    exact dropN_dropN l a b c d
  | true :: l, a, 0, c, 0 => by
    have e1 : dropN a 0 (true :: l) = true :: dropN a 0 l := by cases a <;> rfl
    have e2 : ∀ m, dropN c 0 (true :: m) = true :: dropN c 0 m := fun m => by cases c <;> rfl
    have e3 : dropN (a + c) (0 + 0) (true :: l) = true :: dropN (a + c) (0 + 0) l := by cases (a + c) <;> rfl
    rw [e1, e2, e3, dropN_dropN l a 0 c 0]
  | true :: l, a, 0, c, d + 1 => by
    have e1 : dropN a 0 (true :: l) = true :: dropN a 0 l := by cases a <;> rfl
    have e2 : ∀ m, dropN c (d + 1) (true :: m) = dropN c d m := fun m => by cases c <;> rfl
    have e3 : dropN (a + c) (0 + (d + 1)) (true :: l) = dropN (a + c) (0 + d) l := by
      rw [show 0 + (d + 1) = (0 + d) + 1 by omega]
      cases (a + c) <;> rfl
    rw [e1, e2, e3, dropN_dropN l a 0 c d]
  | true :: l, a, b + 1, c, d => by
    have e1 : dropN a (b + 1) (true :: l) = dropN a b l := by cases a <;> rfl
    have e3 : dropN (a + c) (b + 1 + d) (true :: l) = dropN (a + c) (b + d) l := by
      rw [show b + 1 + d = (b + d) + 1 by omega]
      cases (a + c) <;> rfl
    rw [e1, e3, dropN_dropN l a b c d]
theorem dropN_take {k m a b : Nat} {l : List Bool} (h : k + a + b ≤ m) (hm : m ≤ l.length) : (dropN a b (l.take m)).take k = (dropN a b l).take k := by
  have e : dropN a b l = dropN a b (l.take m) ++ dropN (a - (l.take m).count false) (b - (l.take m).count true) (l.drop m) := by
    rw [← dropN_app, List.take_append_drop]
  have le := dropN_len (l.take m) a b
  have two := count_two (l.take m)
  rw [List.length_take] at two
  rw [e, List.take_append_of_le_length (by omega)]
def keptL (s t : Nat) (ns : List Int) : List Int := (deskGo s t [] ns).take (ns.length - s - t)
theorem keptL_sgn {s t : Nat} {ns : List Int} (hrow : Row ns) (hst : s + t ≤ ns.length) (h : Int) : sgn h (keptL s t ns) = (dropN s t (sgn h ns)).take (ns.length - s - t) := by
  have ne : ns ≠ [] := fun z => by
    have := hrow.pos
    rw [z] at this
    cases this
  unfold keptL
  rw [desk_passes hrow.nd hst]
  show ((afterL _ ns).take _).map _ = _
  rw [List.map_take]
  show (sgn h (afterL _ ns)).take _ = _
  rw [after_sgn h _ ns ne]
  have c0 : (List.replicate s false ++ List.replicate t true).count false = s := by simp [List.count_append, List.count_replicate]
  have c1 : (List.replicate s false ++ List.replicate t true).count true = t := by simp [List.count_append, List.count_replicate]
  rw [c0, c1, dropN_app]
  have le := dropN_len (sgn h ns) s t
  have two := count_two (sgn h ns)
  rw [sgn_len] at two
  rw [List.take_append_of_le_length (by omega)]
theorem keptL_len {s t : Nat} {ns : List Int} (hrow : Row ns) (hst : s + t ≤ ns.length) : (keptL s t ns).length = ns.length - s - t := by
  unfold keptL
  rw [desk_passes hrow.nd hst, List.length_take, afterL_len]
  omega
theorem keptL_sub {s t : Nat} {ns : List Int} (hrow : Row ns) (hst : s + t ≤ ns.length) : ∃ m : List Int, keptL s t ns = m.take (ns.length - s - t) ∧ m.Perm ns := by
  unfold keptL
  rw [desk_passes hrow.nd hst]
  exact ⟨_, rfl, afterL_perm _ ns⟩
theorem keptL_row {s t : Nat} {ns : List Int} (hrow : Row ns) (hst : s + t < ns.length) : Row (keptL s t ns) := by
  have ln := keptL_len hrow (Nat.le_of_lt hst)
  obtain ⟨m, e, p⟩ := keptL_sub hrow (Nat.le_of_lt hst)
  have most := hrow.most
  refine ⟨by omega, by omega, ?_, fun x hx => ?_⟩
  · rw [e]
    exact (p.nodup_iff.mpr hrow.nd).sublist (List.take_sublist ..)
  · rw [e] at hx
    exact hrow.rng x (p.mem_iff.mp (List.mem_of_mem_take hx))
theorem keptL_keptL {s t a b : Nat} {ns : List Int} (hrow : Row ns) (hst : s + t < ns.length) (hab : a + b ≤ ns.length - s - t) : keptL a b (keptL s t ns) = keptL (s + a) (t + b) ns := by
  have r1 := keptL_row hrow hst
  have l1 := keptL_len hrow (Nat.le_of_lt hst)
  have l2 := keptL_len r1 (s := a) (t := b) (by omega)
  have l3 := keptL_len hrow (s := s + a) (t := t + b) (by omega)
  refine sgn_inj (by omega) fun h => ?_
  have le := dropN_len (sgn h ns) s t
  have two := count_two (sgn h ns)
  rw [sgn_len] at two
  rw [keptL_sgn r1 (by omega), keptL_sgn hrow (Nat.le_of_lt hst), keptL_sgn hrow (by omega), l1, dropN_take (by omega) (by omega), dropN_dropN, show ns.length - s - t - a - b = ns.length - (s + a) - (t + b) by omega]
/-- who is kept, in order -/
theorem below_sgn (h : Int) (l : List Int) : (l.filter fun y => decide (y < h)).length = (sgn h l).count false := (zeros_count h l).symm
theorem kept_below {s t : Nat} {ns : List Int} (hrow : Row ns) (hst : s + t ≤ ns.length) (h : Int) : (sgn h (keptL s t ns)).count false = min ((sgn h ns).count false - s) (ns.length - s - t) := by
  rw [keptL_sgn hrow hst]
  have two := count_two (sgn h ns)
  rw [sgn_len] at two
  by_cases h0 : (sgn h ns).count false ≤ s
  · rw [dropN_zeros _ _ _ h0, List.take_replicate, List.count_replicate]
    simp
    omega
  · by_cases h1 : (sgn h ns).count true ≤ t
    · rw [dropN_ones _ _ _ h1, List.take_replicate, List.count_replicate]
      simp
      omega
    · have le := dropN_len (sgn h ns) s t
      rw [List.take_of_length_le (by omega)]
      have c : ∀ (l : List Bool) (a b : Nat), (dropN a b l).count false = l.count false - a := fun l => by
        induction l with
        | nil =>
          intro a b
          have e : dropN a b [] = [] := by cases a <;> cases b <;> rfl
          rw [e]
          simp
        | cons x l ih =>
          intro a b
          cases x with
          | false =>
            cases a with
            | zero =>
              show (false :: dropN 0 b l).count false = _
              rw [List.count_cons_self, List.count_cons_self, ih]
              omega
            | succ a =>
              show (dropN a b l).count false = _
              rw [List.count_cons_self, ih]
              omega
          | true =>
            cases b with
            | zero =>
              have e : dropN a 0 (true :: l) = true :: dropN a 0 l := by cases a <;> rfl
              rw [e, List.count_cons_of_ne (by decide), List.count_cons_of_ne (by decide), ih]
            | succ b =>
              have e : dropN a (b + 1) (true :: l) = dropN a b l := by cases a <;> rfl
              rw [e, List.count_cons_of_ne (by decide), ih]
      rw [c]
      omega
theorem slice_below {es : List Int} (so : es.Pairwise (· ≤ ·)) (s k : Nat) (hk : s + k ≤ es.length) (h : Int) : (sgn h ((es.drop s).take k)).count false = min ((sgn h es).count false - s) k := by
  have two := count_two (sgn h es)
  rw [sgn_len] at two
  have e : sgn h ((es.drop s).take k) = ((sgn h es).drop s).take k := by
    show ((es.drop s).take k).map _ = ((es.map _).drop s).take k
    rw [List.map_take, List.map_drop]
  have ss := sgn_sorted (t := h) so
  generalize (sgn h es).count false = cf at ss two ⊢
  generalize (sgn h es).count true = ct at ss two
  rw [e, ss, List.drop_append, List.length_replicate, List.drop_replicate, List.drop_replicate, List.take_append, List.length_replicate, List.take_replicate, List.take_replicate, List.count_append, List.count_replicate, List.count_replicate]
  simp
  omega
theorem kept_slice {s t : Nat} {ns es : List Int} (hrow : Row ns) (hst : s + t ≤ ns.length) (p : es.Perm ns) (so : es.Pairwise (· ≤ ·)) : (keptL s t ns).Perm ((es.drop s).take (ns.length - s - t)) := by
  have el := p.length_eq
  have same : ∀ h, (sgn h (keptL s t ns)).count false = (sgn h ((es.drop s).take (ns.length - s - t))).count false := fun h => by
    rw [kept_below hrow hst, slice_below so s _ (by omega), (sgn_perm p).count_eq]
  refine List.perm_iff_count.mpr fun x => ?_
  have a1 := below_or_at x (keptL s t ns)
  have a2 := below_or_at x ((es.drop s).take (ns.length - s - t))
  have b1 := same x
  have b2 := same (x + 1)
  rw [zeros_count, zeros_count] at b1 b2
  omega
theorem kept_rank {s t : Nat} {ns : List Int} (hrow : Row ns) (hst : s + t ≤ ns.length) {x : Int} (hx : x ∈ keptL s t ns) : rk (keptL s t ns) x = rk ns x - s := by
  obtain ⟨p, so⟩ := sort_ok ns
  generalize ns.mergeSort (fun x y => decide (x ≤ y)) = es at p so
  have pk := kept_slice hrow hst p so
  obtain ⟨j, hj, ej⟩ := List.mem_iff_getElem.mp (pk.mem_iff.mp hx)
  have el := p.length_eq
  have hj2 : j < ns.length - s - t := by
    rw [List.length_take] at hj
    omega
  have hsj : s + j < es.length := by omega
  have ex : es[s + j] = x := by
    rw [← ej, List.getElem_take, List.getElem_drop]
  have nd : es.Nodup := p.nodup_iff.mpr hrow.nd
  have bx : (es.filter fun y => decide (y < x)).length = s + j := by
    rw [← ex]
    exact filter_sorted hsj so nd
  rw [(p.filter _).length_eq] at bx
  have kb := kept_below hrow hst x
  rw [zeros_count, zeros_count, bx] at kb
  unfold rk
  rw [kb, bx]
  omega
end Lp
namespace Lp
open PySem PySem.Spec PyProof.Rows L2
/-! ### a text backwards: z[::-1] -/
theorem back_places (n : Nat) : Builtin.Str.strSliceIndices none none (-1) n = (List.range n).reverse := by
  show sliceRange ((n : Int) - 1) (-1) (-1) = _
  rw [PySem.W.krv_sliceRange]
  exact PySem.W.krv_range n
theorem back_text (bs : List Bool) : (⟨((Builtin.Str.strSliceIndices none none (-1) (wd bs).length).filterMap ((wd bs).cps[·]?)).toArray⟩ : Str) = wd bs.reverse := by
  rw [back_places, List.filterMap_reverse]
  have all : (List.range (wd bs).length).filterMap ((wd bs).cps[·]?) = bs.map code := (PySem.W.krv_all (wd bs).cps).trans rfl
  rw [all, ← List.map_reverse]
  rfl
/-- e[::-1] of a word -/
def tBack (te : TE) : TE := fun σ H Q => te σ H fun x G => ∃ bs : List Bool, x = .str (wd bs) ∧ bs.length ≤ 1000 ∧ Q (.str (wd bs.reverse)) G
theorem minus_one {X : Cx} {j : Nat} {q1 q2 : Pos} : PO X (some (.UnaryOp .USub (.Constant (.int 1) j q1) q2)) (tPart (tUn (rU fun i => .int (-i)) (tC (.int 1)))) := po_some (pe_un un_neg pe_int)
theorem pe_back {X : Cx} {e : Expr} {te : TE} {j : Nat} {q1 q2 q3 q : Pos} (a : PE X e te) : PE X (.Subscript e (.Slice none none (some (.UnaryOp .USub (.Constant (.int 1) j q1) q2)) q3) q) (tBack te) := by
  constructor
  intro pins s σ H Q I h
  refine Subscript_ (thn (a.run pins s σ H _ I h) fun v s1 z => ?_)
  obtain ⟨x, H1, I1, r1, bs, rfl, hb, good⟩ := z
  obtain ⟨tk, rfl⟩ := r1
  refine wpAny_Slice (thn (po_none.run pins s1 σ H1 (fun o G => o = none ∧ G = H1) I1 ⟨rfl, rfl⟩) fun vl s2 z => ?_)
  obtain ⟨_, G2, I2, pl, rfl, rfl⟩ := z
  refine thn (po_none.run pins s2 σ _ (fun o G => o = none ∧ G = G2) I2 ⟨rfl, rfl⟩) fun vu s3 z => ?_
  obtain ⟨_, G3, I3, pu, rfl, rfl⟩ := z
  refine thn (minus_one.run pins s3 σ _ (fun o G => o = some (-1) ∧ G = G3) I3 ⟨1, rfl, -1, rfl, rfl, rfl⟩) fun vs s4 z => ?_
  obtain ⟨_, _, I4, ps, rfl, rfl⟩ := z
  have J := I4.kept (t' := s4.toks) (h' := s4.heap.push { cls := .type "slice", data := .fields #[vl, vu, vs] }) fun b ob w => Heap.get?_push_of_some _ w
  refine tail_any (ops := [.ref s4.heap.objs.size]) (typeIs_str _ _ _) F.slot_str_getitem.lookup ?_ (by with_unfolding_all rfl)
  obtain ⟨l, rfl, hl⟩ := IsPart.raw pl
  obtain ⟨u, rfl, hu⟩ := IsPart.raw pu
  obtain ⟨st, rfl, hst⟩ := IsPart.raw ps
  have l0 : l = none := by cases l <;> first | rfl | cases hl
  have u0 : u = none := by cases u <;> first | rfl | cases hu
  subst l0
  subst u0
  refine wpAny_getItem_str_slice (l := none) (u := none) (st := st) ⟨_, Heap.get?_push_size _ rfl, rfl, rfl⟩ (by rw [hst]; rfl) ?_
  have made : sliceMade (wd bs) tk none none st = .str (wd bs.reverse) := by
    unfold sliceMade slicePicked
    rw [hst]
    have := back_text bs
    have f : ((some (-1 : Int)).getD 1 == 1) = false := by decide
    rw [f, Bool.false_and, if_neg Bool.false_ne_true]
    exact congrArg Made.str this
  rw [made]
  exact ⟨by rw [wd_len, List.length_reverse]; exact Nat.le_of_lt (len_lt (by omega)), .str _, _, J.tok _, ⟨_, rfl⟩, good⟩
/-! ### reversed(z) of a word -/
theorem str_norev : typeLookup (.type "str") "__reversed__" = pure none := by
  rw [typeLookup_type]
  rw [builtinLookup_eq_fast]
  kernel_rfl
theorem str_get : typeLookup (.type "str") "__getitem__" = pure (some (.builtin "str.__getitem__")) := F.slot_str_getitem.lookup
/-- reversed(z) stands at a, the place j comes next -/
def Bw (h : Heap) (a : Addr) (z : Str) (tk : Tok) (j : Int) : Prop := ∃ ob, h.get? a = some ob ∧ ob.cls = .type "reversed" ∧ ob.data = .fields #[.str z tk, rawInt j]
theorem Bw.keep {h g : Heap} {a : Addr} {z : Str} {tk : Tok} {j : Int} (b : Bw h a z tk j) (e : ∀ ob, h.get? a = some ob → g.get? a = some ob) : Bw g a z tk j := by
  obtain ⟨ob, at_, r⟩ := b
  exact ⟨ob, e ob at_, r⟩
section
variable {prog : Program} {w : World} {A : Around} {E : Value → Shared → Prop} {s : Shared} {z : Str} {tk : Tok}
theorem Bw.ty {a : Addr} {j : Int} (b : Bw s.heap a z tk j) : s.TypeIs (.ref a) "reversed" := by
  obtain ⟨ob, at_, c, _⟩ := b
  exact ⟨ob, at_, c⟩
def bwObj (z : Str) (tk : Tok) (j : Int) : Obj := { cls := .type "reversed", data := .fields #[.str z tk, rawInt j] }
theorem bw_code {R : Value → Shared → Prop} (fit : ¬ (z.length : Int) ≥ 2 ^ 63) (good : R (.ref s.heap.objs.size) { s with heap := s.heap.push (bwObj z tk ((z.length : Int) - 1)), toks := s.toks + 1 + 1 }) :
    codeAny (model prog w) A (.call (.builtin "reversed.__new__") ⟨[.type "reversed", .str z tk], []⟩) (wants R E) s := by
  have ty := typeIs_str s z tk
  apply codeAny_of_tree
  show wpAny _ A.in1 (checkBuiltinCall "reversed.__new__" ⟨[.type "reversed", .str z tk], []⟩ >>= fun _ => again (.builtin "reversed.__new__" ⟨[.type "reversed", .str z tk], []⟩)) _ _ s
  apply wpAny_bind
  apply wpAny_of_eq (F.newCall_reversed_1 _)
  refine wpAny_pure ⟨plainId_quiet F.plain_reversed_new _, codeAny_builtin F.entry_reversed_new (?body)⟩
  case body =>
  rw [Around.under_plainId F.plain_reversed_new]
  unfold Builtin.«reversed.__new__»; apply wpAny_bind
  refine wpAny_of_eq (newClass_reversed (.str z tk)) (?_ : wpAny _ _ _ _ _ s)
  apply wpAny_bind
  apply wpAny_of_eq (a := ()) (by kernel_rfl)
  apply wpAny_bind
  apply wpAny_of_eq (a := ()) (by kernel_rfl)
  apply wpAny_bind
  apply wpAny_specialOf ty str_norev
  apply wpAny_bind
  wp_delta
  apply wpAny_bind
  refine wpAny_isInstance (T := "str") (U := "dict") (b := false) ty F.sub_str_dict (?_ : wpAny _ _ _ _ _ s)
  rw [if_neg Bool.false_ne_true]; apply wpAny_bind
  refine wpAny_specialOf ty str_get (?_ : wpAny _ _ _ _ _ s)
  dsimp only
  rw [if_pos (show (["tuple.__getitem__", "str.__getitem__", "bytes.__getitem__", "bytearray.__getitem__", "memoryview.__getitem__", "numpy.ndarray.__getitem__", "sqlite3.Row.__getitem__"].contains "str.__getitem__") = true by decide +kernel)]
  apply wpAny_pure
  rw [if_neg (show ¬ (!true) = true by decide)]
  apply wpAny_bind
  refine PySem.P.len_str fit (?_ : wpAny _ _ _ _ _ _)
  apply wpAny_bind
  refine wpAny_of_eq (a := some (z.length : Int)) rfl (?_ : wpAny _ _ _ _ _ _)
  apply wpAny_bind
  show wpAny _ _ (newObj (.type "reversed") (.fields #[.str z tk, rawInt ((z.length : Int) - 1)])) _ _ _
  exact wpAny_newObj_type (wpAny_pure good)
theorem bw_call {R : Value → Shared → Prop} (fit : ¬ (z.length : Int) ≥ 2 ^ 63) (good : R (.ref s.heap.objs.size) { s with heap := s.heap.push (bwObj z tk ((z.length : Int) - 1)), toks := s.toks + 1 + 1 }) :
    wpAny (model prog w) A (call (.type "reversed") [.str z tk]) R E s := by
  have made := bw_code (prog := prog) (w := w) (A := A.in1) (E := E) (s := s) (tk := tk) (R := fun v g => g.TypeIs v "reversed" ∧ R v g) fit ⟨⟨_, Heap.get?_push_size _ rfl, rfl⟩, good⟩
  refine callType_codes RT.called_rt (F.typeCall_reversed_1 _) F.entry_object_init made fun v g h => ?_
  exact ⟨h.1, F.args_object_init_2 v _, object_init_meets RT.called_rt.init.lookup RT.called_rt.made (by decide) prog w A.in1 _ g ⟨h.1, rfl, h.2⟩⟩
theorem bw_iter {a : Addr} {j : Int} {R : Value → Shared → Prop} (b : Bw s.heap a z tk j) (good : R (.ref a) s) : wpAny (model prog w) A (pyIter (.ref a)) R E s := by
  refine wpAny_pyIter_slot b.ty RT.slot_rt_iter (wpAny_call_entry RT.slot_rt_iter b.ty RT.entry_rt_iter (?_ : wpAny _ _ (ret (.ref a)) _ _ s) (RT.args_rt_iter _))
  exact wpAny_pure ⟨_, rfl, "reversed", _, b.ty, RT.slot_rt_next.lookup, good⟩
theorem bw_more {a : Addr} {j c : Nat} {R : Option Value → Shared → Prop} (b : Bw s.heap a z tk (j : Nat)) (hc : z.cps[j]? = some c) (few : z.length ≤ sizeLine)
    (good : ∀ h u, Bw h a z tk ((j : Int) - 1) → Heap.SameBut a s.heap h → R (some (.str ⟨#[c]⟩ u)) { s with heap := h, toks := u + 1 }) : wpAny (model prog w) A (pyNext (.ref a)) R E s := by
  obtain ⟨ob, at_, cl, dt⟩ := id b
  have lt : j < z.length := (Array.getElem?_eq_some_iff.mp hc).1
  have big := sizeLine_eq
  unfold pyNext
  apply wpAny_bind
  apply wpAny_attempt
  refine wpAny_callSpecial?_slot (name := Str.ofString "__next__") b.ty RT.slot_rt_next (wpAny_call_entry RT.slot_rt_next b.ty RT.entry_rt_next (?_ : wpAny _ _ _ _ _ s) (RT.args_rt_next _))
  unfold Builtin.«reversed.__next__»; apply wpAny_bind
  apply wpAny_of_eq (a := (Value.ref a, [])) rfl
  apply wpAny_bind
  refine wpAny_field at_ dt (x := .str z tk) rfl (?_ : wpAny _ _ _ _ _ s)
  apply wpAny_bind
  refine wpAny_field at_ dt (x := rawInt (j : Int)) rfl (?_ : wpAny _ _ (if (j : Int) < 0 then _ else _) _ _ s)
  rw [if_neg (show ¬ (j : Int) < 0 by omega)]
  apply wpAny_bind
  refine wpAny_specialOf (typeIs_str s z tk) str_get (?_ : wpAny _ _ _ _ _ s)
  rw [if_neg (show ¬ ((some (Value.builtin "str.__getitem__")).isNone = true) by decide)]
  apply wpAny_bind
  refine wpAny_mkInt (?_ : wpAny _ _ _ _ _ { s with toks := s.toks + 1 })
  apply wpAny_bind
  apply wpAny_attempt
  have ix : (seqIndex? (j : Int) z.length).bind (z.cps[·]?) = some c := by
    rw [seqIx (by omega) (by omega), Int.toNat_natCast]
    exact hc
  refine PySem.P.getItem_str (s := { s with toks := s.toks + 1 }) ?_ ix (?_ : wpAny _ _ _ _ _ { s with toks := s.toks + 1 + 1 })
  · rw [Bool.or_eq_false_iff]
    exact ⟨decide_eq_false (by omega), decide_eq_false (by omega)⟩
  apply wpAny_bind
  refine wpAny_field (s := { s with toks := s.toks + 1 + 1 }) at_ dt (x := rawInt (j : Int)) rfl (?_ : wpAny _ _ _ _ _ _)
  apply wpAny_bind
  refine wpAny_setField (s := { s with toks := s.toks + 1 + 1 }) at_ dt (by simp) (?_ : wpAny _ _ _ _ _ _)
  have bw2 : Bw (s.heap.update a (Obj.mapFields (·.setIfInBounds 1 (rawInt ((j : Int) - 1))))) a z tk ((j : Int) - 1) :=
    ⟨_, Heap.get?_update_self _ at_ (Obj.isFreed_of_fields (Obj.data_mapFields dt _)), (Obj.cls_mapFields ..).trans cl, by rw [Obj.data_mapFields dt]; simp⟩
  exact wpAny_pure ⟨_, rfl, wpAny_pure (good _ (s.toks + 1) bw2 (Heap.SameBut.update ..))⟩
theorem bw_end {a : Addr} {R : Option Value → Shared → Prop} (calm : A.handled = none) (b : Bw s.heap a z tk (-1)) (good : ∀ h, Heap.ExtBut a s.heap h → R none { s with heap := h }) : wpAny (model prog w) A (pyNext (.ref a)) R E s := by
  obtain ⟨ob, at_, cl, dt⟩ := id b
  unfold pyNext
  apply wpAny_bind
  apply wpAny_attempt
  refine wpAny_callSpecial?_slot (name := Str.ofString "__next__") b.ty RT.slot_rt_next (wpAny_call_entry RT.slot_rt_next b.ty RT.entry_rt_next (?_ : wpAny _ _ _ _ _ s) (RT.args_rt_next _))
  unfold Builtin.«reversed.__next__»; apply wpAny_bind
  apply wpAny_of_eq (a := (Value.ref a, [])) rfl
  apply wpAny_bind
  refine wpAny_field at_ dt (x := .str z tk) rfl (?_ : wpAny _ _ _ _ _ s)
  apply wpAny_bind
  refine wpAny_field at_ dt (x := rawInt (-1)) rfl (?_ : wpAny _ _ (if (-1 : Int) < 0 then _ else _) _ _ s)
  rw [if_pos (show (-1 : Int) < 0 by decide)]
  apply wpAny_bind
  apply wpAny_rule
  apply wpAny_bind
  wp_delta
  apply wpAny_bind
  refine wpAny_setField at_ dt (by simp) (?_ : wpAny _ _ _ _ _ _)
  have at2 := Heap.get?_update_self (Obj.mapFields (·.setIfInBounds 1 (rawInt (-1)))) at_ (Obj.isFreed_of_fields (Obj.data_mapFields dt _))
  refine wpAny_setField (s := { s with heap := s.heap.update a (Obj.mapFields (·.setIfInBounds 1 (rawInt (-1)))) }) at2 (Obj.data_mapFields dt _) (by simp) (?_ : wpAny _ _ _ _ _ _)
  apply wpAny_bind
  show wpAny _ _ (newExc (.type "StopIteration") [] >>= raiseNew) _ _ _
  apply wpAny_bind
  simp only [newExc, newTuple, raiseNew]
  apply wpAny_bind
  apply wpAny_newObj_type (h := ?_) (by size_fits)
  apply wpAny_bind (m := firstArgMember _ _)
  apply wpAny_of_eq (a := Value.none) (by simp only [firstArgMember]; rfl)
  apply wpAny_newObj_type (h := ?_) (by size_fits)
  apply wpAny_bind
  apply wpAny_handled
  rw [show A.in1.handled = none from calm]
  refine wpAny_bind (wpAny_pure (wpAny_throw (?_ : wpAny _ _ _ _ _ _)))
  apply wpAny_bind
  refine wpAny_isInstance (T := "StopIteration") (b := true) ⟨_, Heap.get?_push_size _ rfl, rfl⟩ isSubtype_stop (?_ : wpAny _ _ _ _ _ _)
  have ext : Heap.ExtBut a s.heap ((s.heap.update a (Obj.mapFields fun x => x.setIfInBounds 1 (rawInt (-1)))).update a (Obj.mapFields fun x => x.setIfInBounds 0 Value.none)) :=
    fun b ob hb e => (Heap.get?_update_other _ _ (Ne.symm hb)).trans ((Heap.get?_update_other _ _ (Ne.symm hb)).trans e)
  exact wpAny_pure (good _ ((ext.push _).push _))
end
/-- the letters of a word, the last one first -/
def ItB (bs : List Bool) : It where
  go := fun i _ => i < bs.length
  stop := fun i _ => bs.length ≤ i
  yld := fun i H v H' => H' = H ∧ ∃ b, bs.reverse[i]? = some b ∧ v = .str (ltr b)
theorem turnB {P : Program} {w : World} {K : PySem.W.Frag} {tg : Expr} {bs : List Bool} {tk : Tok} (few : bs.length ≤ 1000) (it : Addr) : Turn P w K tg (ItB bs) [it] it (fun i h => i ≤ bs.length ∧ Bw h it (wd bs) tk ((bs.length : Int) - 1 - (i : Nat))) where
  mem := by simp
  obj := by
    rintro i h ⟨_, ob, at_, c, d⟩ b hb
    rw [List.mem_singleton] at hb
    subst hb
    exact ⟨ob, at_, fun v e => by rw [d] at e; cases e⟩
  keep := fun i h g st k => ⟨st.1, st.2.keep fun ob e => k it (by simp) ob e⟩
  item := by
    rintro X rfl rfl rfl calm i pins s σ H E I fr ⟨le, b⟩ lt
    have lt2 : i < bs.length := lt
    obtain ⟨u0, u1, _, u3, u4, u5⟩ := fr it (by simp)
    have ej : (bs.length : Int) - 1 - ((i : Nat) : Int) = ((bs.length - 1 - i : Nat) : Int) := by omega
    rw [ej] at b
    have at_ : bs.length - 1 - i < bs.length := by omega
    have hc : (wd bs).cps[bs.length - 1 - i]? = some (code bs[bs.length - 1 - i]) := by
      show (bs.map code).toArray[bs.length - 1 - i]? = _
      rw [List.getElem?_toArray, List.getElem?_map, List.getElem?_eq_getElem at_]
      rfl
    refine bw_more b hc (by rw [wd_len]; exact Nat.le_of_lt (len_lt (by omega))) fun h u b2 same => ?_
    have eb : bs.reverse[i]? = some bs[bs.length - 1 - i] := by
      rw [List.getElem?_reverse lt2, List.getElem?_eq_getElem at_]
    have e2 : ((bs.length - 1 - i : Nat) : Int) - 1 = (bs.length : Int) - 1 - ((i + 1 : Nat) : Int) := by omega
    rw [e2] at b2
    have J : Inv X pins σ H { s with heap := h, toks := u + 1 } := I.turned (t' := u + 1) (fun c o nc q => (same.2 c nc).trans q) u0 u1 u3 u4 u5
    obtain ⟨o2, a2, c2, d2⟩ := id b2
    exact ⟨_, rfl, go_of (s := { s with heap := h, toks := u + 1 }) a2 c2 d2 (by decide) ⟨.str (ltr bs[bs.length - 1 - i]), H, J, ⟨u, rfl⟩, ⟨rfl, _, eb, rfl⟩, ⟨lt2, b2⟩, fun c hc => (fr c hc).1⟩⟩
  done := by
    rintro X rfl rfl rfl calm i pins s σ H E I fr ⟨le, b⟩ ge
    have ge2 : bs.length ≤ i := ge
    obtain ⟨u0, u1, _, u3, u4, u5⟩ := fr it (by simp)
    have ej : (bs.length : Int) - 1 - ((i : Nat) : Int) = -1 := by omega
    rw [ej] at b
    exact bw_end (I.ok.hd calm) b fun h ext => ⟨rfl, I.turned (t' := s.toks) (fun c o nc q => ext c o nc q) u0 u1 u3 u4 u5⟩
  self := fun _ _ _ _ _ st q => bw_iter st.2 q
def iBack (te : TE) : TI := fun σ H R => te σ H fun x G => ∃ bs : List Bool, x = .str (wd bs) ∧ bs.length ≤ 1000 ∧ R (ItB bs) G
theorem pi_back {X : Cx} {tg e : Expr} {te : TE} {p q : Pos} (hg : Gl X "reversed") (hm : X.mg "reversed" = none) (a : PE X e te) (one : starEach [e] X.env = (false, eval e X.env) :: starEach [] X.env := by rfl) :
    PI X tg (.Call (.Name "reversed" p) [e] [] q) (iBack te) := by
  constructor
  intro pins s σ H R I h
  refine Call_ (ld_blt I hg hm PyProof.Rows.boot_reversed (PyProof.Rows.callWith_type1 (args_cons (thn (a.run pins s σ H _ I h) fun u s1 z => args_nil ?_) one) one rfl))
  obtain ⟨x, G, J, r, bs, rfl, few, good⟩ := z
  obtain ⟨tk, rfl⟩ := r
  have fit : ¬ (((wd bs).length : Nat) : Int) ≥ 2 ^ 63 := by
    rw [wd_len]
    omega
  have e0 : (((wd bs).length : Nat) : Int) - 1 = (bs.length : Int) - 1 - ((0 : Nat) : Int) := by
    rw [wd_len]
    omega
  have here : Bw (s1.heap.push (bwObj (wd bs) tk (((wd bs).length : Int) - 1))) s1.heap.objs.size (wd bs) tk (((wd bs).length : Int) - 1) := ⟨_, Heap.get?_push_size _ rfl, rfl, rfl⟩
  refine bw_call fit (bw_iter (s := { s1 with heap := s1.heap.push (bwObj (wd bs) tk (((wd bs).length : Int) - 1)), toks := s1.toks + 1 + 1 }) here ?_)
  refine pi_one (tk := s1.toks + 1 + 1) J _ (turnB (tk := tk) few s1.heap.objs.size) ⟨Nat.zero_le _, ?_⟩ good
  rw [← e0]
  exact here
/-- for .. in reversed(word) -/
theorem walk_back {bs : List Bool} : Walk (ItB bs) bs.length (fun _ => True) (fun i H x H' => H' = H ∧ ∃ b, bs.reverse[i]? = some b ∧ x = .str (ltr b)) := ⟨fun _ _ lt _ => lt, fun _ _ => Nat.le_refl _, fun _ _ _ _ _ _ y => y⟩
end Lp
namespace Lp
open PySem PySem.Spec PyProof.Rows L2
/-! ### the greatest and the least of a tuple of numbers -/
theorem ints_read {h : Heap} : ∀ {us : List Value} {ns : List Int}, Vals (ns.map V.int) us → ReadsAll h us (ns.map PyData.int) []
  | [], [], _ => .nil
  | _ :: _, n :: ns, .cons ⟨t, e⟩ r => by
    subst e
    exact .cons (as := []) (.int n t) (ints_read r)
theorem ints_alike (ns : List Int) : PySem.W.AlikeAll (ns.map PyData.int) := by
  refine ⟨fun x hx y hy => ?_, fun x hx => ?_⟩
  · obtain ⟨a, _, rfl⟩ := List.mem_map.mp hx
    obtain ⟨b, _, rfl⟩ := List.mem_map.mp hy
    rfl
  · obtain ⟨a, _, rfl⟩ := List.mem_map.mp hx
    exact fun z => nomatch z
theorem fold_max : ∀ (ns : List Int) (n : Int), ns.foldl max n ∈ n :: ns ∧ ∀ y ∈ n :: ns, y ≤ ns.foldl max n
  | [], n => ⟨List.mem_cons_self .., fun y hy => by rw [List.mem_singleton.mp hy]; exact Int.le_refl _⟩
  | k :: ns, n => by
    obtain ⟨m, b⟩ := fold_max ns (max n k)
    rw [List.foldl_cons]
    refine ⟨?_, fun y hy => ?_⟩
    · rcases List.mem_cons.mp m with z | z
      · rw [z]
        rcases Int.le_total n k with w | w
        · rw [Int.max_eq_right w]
          exact List.mem_cons_of_mem _ (List.mem_cons_self ..)
        · rw [Int.max_eq_left w]
          exact List.mem_cons_self ..
      · exact List.mem_cons_of_mem _ (List.mem_cons_of_mem _ z)
    · have top := b (max n k) (List.mem_cons_self ..)
      rcases List.mem_cons.mp hy with rfl | hy
      · omega
      · rcases List.mem_cons.mp hy with rfl | hy
        · omega
        · exact b y (List.mem_cons_of_mem _ hy)
theorem fold_min : ∀ (ns : List Int) (n : Int), ns.foldl min n ∈ n :: ns ∧ ∀ y ∈ n :: ns, ns.foldl min n ≤ y
  | [], n => ⟨List.mem_cons_self .., fun y hy => by rw [List.mem_singleton.mp hy]; exact Int.le_refl _⟩
  | k :: ns, n => by
    obtain ⟨m, b⟩ := fold_min ns (min n k)
    rw [List.foldl_cons]
    refine ⟨?_, fun y hy => ?_⟩
    · rcases List.mem_cons.mp m with z | z
      · rw [z]
        rcases Int.le_total n k with w | w
        · rw [Int.min_eq_left w]
          exact List.mem_cons_self ..
        · rw [Int.min_eq_right w]
          exact List.mem_cons_of_mem _ (List.mem_cons_self ..)
      · exact List.mem_cons_of_mem _ (List.mem_cons_of_mem _ z)
    · have top := b (min n k) (List.mem_cons_self ..)
      rcases List.mem_cons.mp hy with rfl | hy
      · omega
      · rcases List.mem_cons.mp hy with rfl | hy
        · omega
        · exact b y (List.mem_cons_of_mem _ hy)
def rMaxT (K : PySem.W.Frag) : List V → Hp → VK → Prop := fun vs H Q => ∃ (a : Addr) (ns : List Int), vs = [V.ref a] ∧ SqT K H a (ns.map V.int) ∧ ns ≠ [] ∧ ∀ m, m ∈ ns → (∀ y ∈ ns, y ≤ m) → Q (.int m) H
def rMinT (K : PySem.W.Frag) : List V → Hp → VK → Prop := fun vs H Q => ∃ (a : Addr) (ns : List Int), vs = [V.ref a] ∧ SqT K H a (ns.map V.int) ∧ ns ≠ [] ∧ ∀ m, m ∈ ns → (∀ y ∈ ns, m ≤ y) → Q (.int m) H
theorem cr_maxT {X : Cx} (calm : X.calm = true) (room : X.A.units + 1 < cLine) : CallR X (.builtin "max") (rMaxT X.K) := fun pins s σ H vs us Q I r h => by
  obtain ⟨a, ns, rfl, hq, ne, good⟩ := h
  obtain ⟨its, rel, tup, _⟩ := I.tuple hq
  rw [Vals.ref1 r]
  cases ns with
  | nil => exact absurd rfl ne
  | cons n ns =>
    have reads : ReadsAll s.heap its.toArray.toList (.int n :: ns.map PyData.int) [] := ints_read (ns := n :: ns) (by simpa using rel)
    have dep : X.A.units + 1 + PyData.depthAll (.int n :: ns.map PyData.int) < cLine := by
      have := depth_ints (n :: ns)
      rw [List.map_cons] at this
      rw [this]
      exact room
    refine PySem.W.max_tuple_data (I.ok.hd calm) tup reads (ints_alike (n :: ns)) dep fun i v h2 tk bs _ rd keep => ?_
    rw [PySem.W.maxD_ints] at rd
    cases rd with
    | int _ t => exact ⟨.int _, H, I.kept keep, ⟨t, rfl⟩, good _ (fold_max ns n).1 (fold_max ns n).2⟩
theorem cr_minT {X : Cx} (calm : X.calm = true) (room : X.A.units + 1 < cLine) : CallR X (.builtin "min") (rMinT X.K) := fun pins s σ H vs us Q I r h => by
  obtain ⟨a, ns, rfl, hq, ne, good⟩ := h
  obtain ⟨its, rel, tup, _⟩ := I.tuple hq
  rw [Vals.ref1 r]
  cases ns with
  | nil => exact absurd rfl ne
  | cons n ns =>
    have reads : ReadsAll s.heap its.toArray.toList (.int n :: ns.map PyData.int) [] := ints_read (ns := n :: ns) (by simpa using rel)
    have dep : X.A.units + 1 + PyData.depthAll (.int n :: ns.map PyData.int) < cLine := by
      have := depth_ints (n :: ns)
      rw [List.map_cons] at this
      rw [this]
      exact room
    refine PySem.W.min_tuple_data (I.ok.hd calm) tup reads (ints_alike (n :: ns)) dep fun i v h2 tk bs _ rd keep => ?_
    rw [PySem.W.minD_ints] at rd
    cases rd with
    | int _ t => exact ⟨.int _, H, I.kept keep, ⟨t, rfl⟩, good _ (fold_min ns n).1 (fold_min ns n).2⟩
end Lp
namespace Lp
open PySem PySem.Spec PyProof.Rows L2
/-! ### the kinds of the people behind the front -/
def lk (l : List Int) (z : Int) : Option Bool := if (l.all fun y => decide (y ≤ z)) = true then some true else if (l.all fun y => decide (z ≤ y)) = true then some false else none
def kinds (ns : List Int) : List (Option Bool) := (List.range (ns.length - 1)).map fun i => lk (ns.take (i + 1)) (ns.getD (i + 1) 0)
def kV : Option Bool → V
  | some b => .str (ltr b)
  | none => .non
theorem kinds_len (ns : List Int) : (kinds ns).length = ns.length - 1 := by
  unfold kinds
  rw [List.length_map, List.length_range]
theorem kinds_get {ns : List Int} {i : Nat} (h : i + 1 < ns.length) : (kinds ns)[i]? = some (lk (ns.take (i + 1)) ns[i + 1]) := by
  unfold kinds
  rw [List.getElem?_map, List.getElem?_range (by omega)]
  show some (lk (ns.take (i + 1)) (ns.getD (i + 1) 0)) = _
  rw [List.getD_eq_getElem?_getD, List.getElem?_eq_getElem h]
  rfl
theorem kinds_snoc {l : List Int} (z : Int) (h : 1 ≤ l.length) : kinds (l ++ [z]) = kinds l ++ [lk l z] := by
  have e : (l ++ [z]).length - 1 = (l.length - 1) + 1 := by
    rw [List.length_append]
    show l.length + 1 - 1 = _
    omega
  unfold kinds
  rw [e, List.range_succ, List.map_append]
  congr 1
  · refine List.map_congr_left fun i hi => ?_
    have hi2 := List.mem_range.mp hi
    rw [List.take_append_of_le_length (by omega), List.getD_eq_getElem?_getD, List.getD_eq_getElem?_getD, List.getElem?_append_left (by omega)]
  · show [lk ((l ++ [z]).take (l.length - 1 + 1)) ((l ++ [z]).getD (l.length - 1 + 1) 0)] = _
    rw [show l.length - 1 + 1 = l.length by omega, List.take_append_of_le_length (Nat.le_refl _), List.take_length, List.getD_eq_getElem?_getD, List.getElem?_append_right (Nat.le_refl _), Nat.sub_self]
    rfl
theorem lk_max {l : List Int} {z : Int} (h : ∀ y ∈ l, y ≤ z) : lk l z = some true := by
  unfold lk
  rw [if_pos (List.all_eq_true.mpr fun y hy => decide_eq_true (h y hy))]
theorem lk_min {l : List Int} {z : Int} (h1 : l ≠ []) (h : ∀ y ∈ l, z < y) : lk l z = some false := by
  unfold lk
  rw [if_neg, if_pos (List.all_eq_true.mpr fun y hy => decide_eq_true (Int.le_of_lt (h y hy)))]
  intro w
  obtain ⟨y, hy⟩ := List.exists_mem_of_ne_nil l h1
  have a := of_decide_eq_true (List.all_eq_true.mp w y hy)
  have b := h y hy
  omega
theorem lk_inv {l : List Int} {z : Int} {b : Bool} (h : lk l z = some b) : if b then ∀ y ∈ l, y ≤ z else ∀ y ∈ l, z ≤ y := by
  unfold lk at h
  split at h
  · rename_i w
    have e := Option.some.inj h
    subst e
    exact fun y hy => of_decide_eq_true (List.all_eq_true.mp w y hy)
  · split at h
    · rename_i w
      have e := Option.some.inj h
      subst e
      exact fun y hy => of_decide_eq_true (List.all_eq_true.mp w y hy)
    · cases h
/-- a row of kinds is what its word leaves -/
theorem kinds_back : ∀ (n : Nat) (ns ms : List Int) (bs : List Bool), ns.length = n + 1 → ns.Nodup → ms.Perm ns → kinds ns = bs.map some → afterL bs ms = ns
  | 0, ns, ms, bs, hn, nd, pm, hk => by
    obtain ⟨x, rfl⟩ : ∃ x, ns = [x] := List.length_eq_one_iff.mp hn
    have e := List.perm_singleton.mp pm
    subst e
    exact after_one bs x
  | n + 1, ns, ms, bs, hn, nd, pm, hk => by
    have ne : ns ≠ [] := by
      intro z
      rw [z] at hn
      cases hn
    obtain ⟨l, z, rfl⟩ : ∃ l z, ns = l ++ [z] := ⟨ns.dropLast, ns.getLast ne, (List.dropLast_concat_getLast ne).symm⟩
    have ll : l.length = n + 1 := by
      rw [List.length_append] at hn
      have : l.length + 1 = n + 1 + 1 := hn
      omega
    rw [kinds_snoc z (by omega)] at hk
    have bl : bs.length = n + 1 := by
      have := congrArg List.length hk
      rw [List.length_append, kinds_len, List.length_map] at this
      have : l.length - 1 + 1 = bs.length := this
      omega
    have bne : bs ≠ [] := by
      intro w
      rw [w] at bl
      cases bl
    obtain ⟨w, b, rfl⟩ : ∃ w b, bs = w ++ [b] := ⟨bs.dropLast, bs.getLast bne, (List.dropLast_concat_getLast bne).symm⟩
    rw [List.map_append] at hk
    obtain ⟨h1, h2⟩ := List.append_inj' hk rfl
    have h2' : lk l z = some b := by
      have := List.cons.inj h2
      exact this.1
    have wl : w.length = n := by
      rw [List.length_append] at bl
      have : w.length + 1 = n + 1 := bl
      omega
    have mz : z ∈ ms := pm.mem_iff.mpr (List.mem_append_right _ (List.mem_singleton_self z))
    have nz : z ∉ l := fun hz => (List.nodup_append.mp nd).2.2 z hz z (List.mem_singleton_self z) rfl
    have pe : (ms.erase z).Perm l := by
      have := pm.erase z
      rw [List.erase_append_right _ nz] at this
      simpa using this
    have ih := kinds_back n l (ms.erase z) w ll (List.nodup_append.mp nd).1 pe h1
    have ml : ms.length ≤ w.length + 2 := by
      rw [pm.length_eq, hn, wl]
      exact Nat.le_refl _
    have inv := lk_inv h2'
    have mem : ∀ x ∈ ms, x ∈ l ∨ x = z := fun x hx => by
      rcases List.mem_append.mp (pm.mem_iff.mp hx) with q | q
      · exact .inl q
      · exact .inr (List.mem_singleton.mp q)
    cases b with
    | true =>
      rw [ends_max mz (fun x hx => by rcases mem x hx with q | q; exact inv x q; omega) ml, ih]
    | false =>
      rw [ends_min mz (fun x hx => by rcases mem x hx with q | q; exact inv x q; omega) ml, ih]
/-- the word of a final row -/
theorem kinds_fin : ∀ (r : List Bool) (hs : List Int), hs.Pairwise (· < ·) → 1 ≤ hs.length → hs.length ≤ r.length + 1 → kinds (finR r hs) = (r.take (hs.length - 1)).reverse.map some ∧ (finR r hs).Perm hs
  | r, [], _, h, _ => absurd h (by decide)
  | r, [x], _, _, _ => by
    have e : finR r [x] = [x] := by cases r <;> rfl
    rw [e]
    exact ⟨by rfl, .refl _⟩
  | [], x :: y :: l, _, _, h => absurd h (by simp)
  | true :: r, x :: y :: l, up, _, h => by
    have len : (x :: y :: l).dropLast.length = l.length + 1 := by rw [List.length_dropLast]; rfl
    have h' : (x :: y :: l).length ≤ (true :: r).length + 1 := h
    rw [List.length_cons, List.length_cons, List.length_cons] at h'
    have sub := List.dropLast_sublist (x :: y :: l)
    obtain ⟨i1, i2⟩ := kinds_fin r ((x :: y :: l).dropLast) (up.sublist sub) (by omega) (by omega)
    have dl := List.dropLast_concat_getLast (l := x :: y :: l) (by simp)
    have top : ∀ z ∈ finR r ((x :: y :: l).dropLast), z ≤ (x :: y :: l).getLast (by simp) := fun z hz => by
      have hz2 := i2.mem_iff.mp hz
      rw [← dl] at up
      exact Int.le_of_lt ((List.pairwise_append.mp up).2.2 z hz2 _ (List.mem_singleton_self _))
    have fl : 1 ≤ (finR r ((x :: y :: l).dropLast)).length := by rw [i2.length_eq, len]; omega
    refine ⟨?_, ?_⟩
    · rw [finR, kinds_snoc _ fl, i1, lk_max top, len]
      show _ = ((true :: r).take (l.length + 1 + 1 - 1)).reverse.map some
      rw [show l.length + 1 + 1 - 1 = (l.length + 1 - 1) + 1 by omega, List.take_succ_cons, List.reverse_cons, List.map_append]
      rfl
    · rw [finR]
      refine (i2.append_right _).trans ?_
      rw [dl]
  | false :: r, x :: y :: l, up, _, h => by
    have h' : (x :: y :: l).length ≤ (false :: r).length + 1 := h
    rw [List.length_cons, List.length_cons, List.length_cons] at h'
    rw [List.pairwise_cons] at up
    obtain ⟨i1, i2⟩ := kinds_fin r (y :: l) up.2 (by simp) (by rw [List.length_cons]; omega)
    have low : ∀ z ∈ finR r (y :: l), x < z := fun z hz => up.1 z (i2.mem_iff.mp hz)
    have fl : 1 ≤ (finR r (y :: l)).length := by rw [i2.length_eq]; simp
    have fne : finR r (y :: l) ≠ [] := fun z => by rw [z] at fl; cases fl
    refine ⟨?_, ?_⟩
    · rw [finR, kinds_snoc _ fl, i1, lk_min fne low]
      show _ = ((false :: r).take (l.length + 1 + 1 - 1)).reverse.map some
      rw [show l.length + 1 + 1 - 1 = ((y :: l).length - 1) + 1 by rw [List.length_cons]; omega, List.take_succ_cons, List.reverse_cons, List.map_append]
      rfl
    · rw [finR]
      refine (i2.append_right _).trans ?_
      exact List.perm_append_singleton x (y :: l)
end Lp
namespace Lp
open PySem PySem.Spec PyProof.Rows L2
/-! ### a tuple backwards: t[::-1] -/
theorem back_size (n : Nat) : Builtin.Slice.slicePlaces ((n : Int) - 1) (-1) (-1) = n := by
  unfold Builtin.Slice.slicePlaces; rw [if_neg (show ¬ (-1 : Int) > 0 by decide)]
  split
  · have e : ((n : Int) - 1 - -1 - 1) / (- -1) = (n : Int) - 1 := by
      rw [show (- -1 : Int) = 1 from rfl, Int.ediv_one]
      omega
    rw [e]
    omega
  · omega
theorem fm_congr {α β : Type} {f g : α → Option β} : ∀ {l : List α}, (∀ x ∈ l, f x = g x) → l.filterMap f = l.filterMap g
  | [], _ => rfl
  | x :: l, h => by
    rw [List.filterMap_cons, List.filterMap_cons, h x (List.mem_cons_self ..), fm_congr fun y hy => h y (List.mem_cons_of_mem _ hy)]
theorem back_items (xs : Array Value) : ((List.range xs.size).filterMap fun (k : Nat) => xs[((xs.size : Int) - 1 + (k : Int) * -1).toNat]?).toArray = xs.toList.reverse.toArray := by
  congr 1
  have e : (List.range xs.size).filterMap (fun (k : Nat) => xs[((xs.size : Int) - 1 + (k : Int) * -1).toNat]?) = ((List.range xs.size).map fun k => xs.size - 1 - k).filterMap (xs[·]?) := by
    rw [List.filterMap_map]
    refine fm_congr fun k hk => ?_
    have := List.mem_range.mp hk
    have z : ((xs.size : Int) - 1 + (k : Int) * -1).toNat = xs.size - 1 - k := by omega
    show xs[((xs.size : Int) - 1 + (k : Int) * -1).toNat]? = xs[xs.size - 1 - k]?
    rw [z]
  rw [e, PySem.W.krv_range, List.filterMap_reverse, PySem.W.krv_all]
section
variable {prog : Program} {w : World} {A : Around} {E : Value → Shared → Prop} {s : Shared}
theorem back_parts {sl : Addr} {n : Nat} {tk : Tok} {R : Int × Int × Nat → Shared → Prop} (h : s.heap.IsSliceOf sl .none .none (.int (-1) tk)) (good : R ((n : Int) - 1, -1, n) s) : wpAny (model prog w) A (Builtin.Slice.sliceApplied (.ref sl) (pure (n : Int))) R E s := by
  obtain ⟨ob, at_, cl, dt⟩ := id h
  unfold Builtin.Slice.sliceApplied Builtin.Slice.sliceFields; apply wpAny_bind
  refine wpAny_bind (wpAny_field at_ dt (x := .none) rfl (?_ : wpAny _ _ _ _ _ s))
  refine wpAny_bind (wpAny_field at_ dt (x := .none) rfl (?_ : wpAny _ _ _ _ _ s))
  refine wpAny_bind (wpAny_field at_ dt (x := .int (-1) tk) rfl (wpAny_pure (?_ : wpAny _ _ _ _ _ s)))
  refine wpAny_bind (HT.slicePart_ (.int (-1) tk) (?_ : wpAny _ _ (if ((-1 : Int) == 0) = true then _ else _) _ _ s))
  rw [if_neg (show ¬ ((-1 : Int) == 0) = true by decide)]
  refine wpAny_bind (HT.slicePart_ .none (wpAny_bind (HT.slicePart_ .none (wpAny_bind (wpAny_pure (?_ : wpAny _ _ _ _ _ s))))))
  show wpAny _ _ (pure ((n : Int) - 1, (-1 : Int), Builtin.Slice.slicePlaces ((n : Int) - 1) (-1) (-1))) _ _ s
  rw [back_size]
  exact wpAny_pure good
theorem back_item {t sl : Addr} {items : Array Value} {tk : Tok} {R : Value → Shared → Prop} (ht : IsTup s.heap t items) (hs : s.heap.IsSliceOf sl .none .none (.int (-1) tk)) (few : items.size ≤ sizeLine)
    (good : R (.ref s.heap.objs.size) { s with heap := s.heap.push { cls := .type "tuple", data := .seq items.toList.reverse.toArray } }) : wpAny (model prog w) A (getItem (.ref t) (.ref sl)) R E s := by
  obtain ⟨ob, at_, cl, dt⟩ := id hs
  have ty : s.TypeIs (.ref sl) "slice" := ⟨ob, at_, cl⟩
  have fit : sizeOk (.seq items.toList.reverse.toArray) := by
    show items.toList.reverse.toArray.size ≤ sizeLine
    rw [List.size_toArray, List.length_reverse, Array.length_toList]
    exact few
  unfold getItem
  refine wpAny_holding (?_ : wpAny _ _ _ _ _ s)
  refine wpAny_bind (wpAny_sequenceKey ht.typeIs (by decide) (?_ : wpAny _ _ _ _ _ s))
  refine wpAny_bind (wpAny_callSpecial?_slot (name := Str.ofString "__getitem__") ht.typeIs PyProof.Rows.slot_tuple_getitem (wpAny_call_entry PyProof.Rows.slot_tuple_getitem ht.typeIs PyProof.Rows.entry_tuple_getitem (?_ : wpAny _ _ (Builtin.Tuple.tupleItemsOf (.ref t) >>= _) _ _ s) (PyProof.Rows.args_tuple_getitem _ _)))
  refine wpAny_bind (PyProof.Rows.tupleItemsOf_ ht (?_ : wpAny _ _ _ _ _ s))
  refine wpAny_bind (wpAny_typeOf ty (?_ : wpAny _ _ _ _ _ s))
  rw [if_pos (show (Value.type "slice" == Value.type "slice") = true by decide)]
  refine wpAny_bind (back_parts hs (?_ : wpAny _ _ _ _ _ s))
  have off : ¬ ((((items.size : Int) - 1 == 0) && ((-1 : Int) == 1) && (items.size == items.size)) = true) := by
    rw [show ((-1 : Int) == 1) = false by decide, Bool.and_false, Bool.false_and]
    exact Bool.false_ne_true
  show wpAny _ _ (if (((items.size : Int) - 1 == 0) && ((-1 : Int) == 1) && (items.size == items.size)) = true then _ else _) _ _ s
  rw [if_neg off, back_items]
  exact wpAny_bind (m := Builtin.Tuple.tupleExact _) (wpAny_newObj_type (wpAny_pure ⟨_, rfl, wpAny_pure good⟩) fit)
end
def tBackT (K : PySem.W.Frag) (te : TE) : TE := fun σ H Q => te σ H fun x G => ∃ a xs, x = .ref a ∧ SqT K G a xs ∧ ∀ p, G p = none → Q (.ref p) (upd G p (.tup xs.reverse))
theorem pe_backT {X : Cx} {e : Expr} {te : TE} {j : Nat} {q1 q2 q3 q : Pos} (a : PE X e te) : PE X (.Subscript e (.Slice none none (some (.UnaryOp .USub (.Constant (.int 1) j q1) q2)) q3) q) (tBackT X.K te) := by
  constructor
  intro pins s σ H Q I h
  refine Subscript_ (thn (a.run pins s σ H _ I h) fun v s1 z => ?_)
  obtain ⟨x, H1, I1, r1, b, xs, rfl, hx, good⟩ := z
  cases r1
  refine wpAny_Slice (thn (po_none.run pins s1 σ H1 (fun o G => o = none ∧ G = H1) I1 ⟨rfl, rfl⟩) fun vl s2 z => ?_)
  obtain ⟨_, G2, I2, pl, rfl, rfl⟩ := z
  refine thn (po_none.run pins s2 σ _ (fun o G => o = none ∧ G = G2) I2 ⟨rfl, rfl⟩) fun vu s3 z => ?_
  obtain ⟨_, G3, I3, pu, rfl, rfl⟩ := z
  refine thn (minus_one.run pins s3 σ _ (fun o G => o = some (-1) ∧ G = G3) I3 ⟨1, rfl, -1, rfl, rfl, rfl⟩) fun vs s4 z => ?_
  obtain ⟨_, G4, I4, ps, rfl, rfl⟩ := z
  cases pl
  cases pu
  cases ps with
  | int _ tk =>
    have J := I4.kept (t' := s4.toks) (h' := s4.heap.push { cls := .type "slice", data := .fields #[.none, .none, .int (-1) tk] }) fun b ob w => Heap.get?_push_of_some _ w
    obtain ⟨its, r, ht, few⟩ := J.tuple hx
    have size : its.toArray.size ≤ sizeLine := by
      rw [List.size_toArray, ← r.length]
      exact few
    refine tail_any (ops := [.ref b, .ref s4.heap.objs.size]) ht.typeIs PyProof.Rows.slot_tuple_getitem.lookup ?_ (by with_unfolding_all rfl)
    refine back_item ht (Heap.IsSliceOf.new _ .none .none (.int (-1) tk)) size ?_
    have same : its.toArray.toList.reverse.toArray = its.reverse.toArray := by simp
    have new := J.laid (t' := s4.toks) (o := .tup xs.reverse) (h' := (s4.heap.push { cls := .type "slice", data := .fields #[.none, .none, .int (-1) tk] }).push { cls := .type "tuple", data := .seq its.toArray.toList.reverse.toArray }) (fun b ob w => Heap.get?_push_of_some _ w) (Nat.le_refl _) ⟨by rw [List.length_reverse]; exact few, its.reverse, r.reverse, by rw [← same]; exact IsTup.new _ _⟩
    exact ⟨.ref _, _, new, rfl, good _ (J.hok.fresh (Nat.le_refl _))⟩
/-! ### rows told apart -/
theorem eqv_all : ∀ a b : List Int, PyData.eqvAll (a.map PyData.int) (b.map PyData.int) = decide (a = b)
  | [], [] => by simp [PyData.eqvAll]
  | [], y :: b => by simp [PyData.eqvAll]
  | x :: a, [] => by simp [PyData.eqvAll]
  | x :: a, y :: b => by
    rw [List.map_cons, List.map_cons, PyData.eqvAll, eqv_all a b, PyData.eqv]
    by_cases h : x = y
    · by_cases h2 : a = b
      · simp [h, h2]
      · simp [h, h2]
    · simp [h]
theorem eqv_rows (a b : List Int) : PyData.eqv (.tuple (a.map PyData.int)) (.tuple (b.map PyData.int)) = decide (a = b) := by
  rw [PyData.eqv, eqv_all]
end Lp
namespace Lp
open PySem PySem.Spec PyProof.Rows L2
/-! ### tuples whose object is known: they have methods -/
structure TupO (o : Obj) : Prop where
  cls : o.cls = .type "tuple"
  nod : o.dict = none
def TupAt (H : Hp) (p : Addr) (xs : List V) : Prop := ∃ o, TupO o ∧ H p = some (.frz o (.tup xs))
theorem TupAt.sq {K : PySem.W.Frag} {H : Hp} {p : Addr} {xs : List V} (h : TupAt H p xs) : SqT K H p xs := by
  obtain ⟨o, _, e⟩ := h
  exact .inl (.inr ⟨o, e⟩)
theorem TupAt.same {H H' : Hp} {p : Addr} {xs : List V} (h : TupAt H p xs) (s : Same H H') : TupAt H' p xs := by
  obtain ⟨o, t, e⟩ := h
  exact ⟨o, t, s _ _ e⟩
theorem TupAt.kp {H H' : Hp} {p a : Addr} {xs : List V} (h : TupAt H p xs) (s : Kp a H H') (ne : p ≠ a) : TupAt H' p xs := by
  obtain ⟨o, t, e⟩ := h
  exact ⟨o, t, s _ _ e ne⟩
theorem TupAt.some_ {H : Hp} {p : Addr} {xs : List V} (h : TupAt H p xs) : H p ≠ none := by
  obtain ⟨o, _, e⟩ := h
  rw [e]
  exact fun z => nomatch z
/-- tuple(xs), xs a list: the new object is known -/
def rTupF (K : PySem.W.Frag) : List V → Hp → VK → Prop := fun xs H Q => ∃ p ys, xs = [.ref p] ∧ SqL K H p ys ∧ ∀ l o, TupO o → H l = none → Q (.ref l) (upd H l (.frz o (.tup ys)))
theorem call_tupF {X : Cx} : CallR X (.type "tuple") (rTupF X.K) := by
  intro pins s σ H xs us Q I r h
  obtain ⟨p, ys, rfl, hq, q⟩ := h
  obtain ⟨u, rfl, rx⟩ := vals1 r
  cases rx
  obtain ⟨its, r2, pl, hz⟩ := I.list hq
  have hlen := r2.length
  refine call_tuple_list pl.isList (fun h2 kp => ?_) (by have := line63; simp only [List.size_toArray]; omega)
  have J1 : Inv X pins σ H { s with heap := h2 } := I.kept (t' := s.toks) kp
  have at_ := Heap.get?_push_size h2 (o := { cls := .type "tuple", data := .seq its.toArray }) rfl
  have J2 : Inv X pins σ (upd H h2.objs.size (.frz { cls := .type "tuple", data := .seq its.toArray } (.tup ys))) { s with heap := h2.push { cls := .type "tuple", data := .seq its.toArray } } :=
    J1.laid (t' := s.toks) (fun b o e => Heap.get?_push_of_some _ e) (Nat.le_refl _) (show ObjOk X.prog X.w _ _ _ (.frz _ (.tup ys)) from ⟨at_, hz, its, r2, IsTup.new _ _⟩)
  exact ⟨.ref h2.objs.size, _, J2, rfl, q _ _ ⟨rfl, rfl⟩ (J1.hok.fresh (Nat.le_refl _))⟩
/-- o.index(e), o such a tuple -/
def tTix (r : V → List V → Hp → VK → Prop) (to : TE) (t : TA) : TE := fun σ H Q => to σ H fun x H1 => (∃ p xs, x = .ref p ∧ TupAt H1 p xs) ∧ t σ H1 fun vs H2 => r x vs H2 Q
section
variable {X : Cx} {o e : Expr} {es : List Expr} {to : TE} {t : TA} {apos cpos : Pos} {r : V → List V → Hp → VK → Prop}
theorem pe_tix (hm : MtR X "tuple.index" r) (ho : PE X o to) (ha : PA X (e :: es) t)
    (hbase : attributeBase o "index" X.env (eval o X.env) = eval o X.env := by rfl)
    (few : ((backTo cpos (starEach (e :: es) X.env)).all (fun x => !x.1) && (backToKw cpos (keywordEach [] X.env)).all (fun x => x.1.isSome) && decide ((e :: es).length + ([] : List Keyword).length + (if ([] : List Keyword).isEmpty then 0 else 1) < 30)) = true := by rfl)
    (line : (apos.endLine == cpos.line) = true := by rfl) (st : starEach (e :: es) X.env = (false, eval e X.env) :: starEach es X.env := by rfl) (plain : (backTo cpos (starEach es X.env)).any (·.1) = false := by rfl) :
    PE X (.Call (.Attribute o "index" apos) (e :: es) [] cpos) (tTix r to t) := ⟨fun pins s σ H Q I h => by
  refine wpAny_Call_method_late hbase few line rfl (thn (ho.run pins s σ H _ I h) fun v s1 y => ?_)
  obtain ⟨x, H1, J1, rx, ⟨p, xs, rfl, ob, tb, hp⟩, q1⟩ := y
  cases rx
  have at_ : s1.heap.get? p = some ob := (J1.hok p _ hp).1
  refine ⟨"tuple", "tuple.index", F.plainAttrs_tuple, F.slot_tuple_index, F.type_tuple_index, ⟨ob, at_, tb.cls⟩, fun a ea => ?_, ?_⟩
  · cases ea
    exact ⟨ob, at_, tb.nod⟩
  · have run := ha.run cpos pins s1 σ H1 _ J1 q1
    rw [st] at run ⊢
    refine Calls.callWith_builtin (by show (false || (backTo cpos (starEach es X.env)).any (·.1)) = false; rw [plain]; rfl) (Calls.evalArgs_plain ?_)
    exact thn run fun us s2 y2 => by
      obtain ⟨vs, H2, J2, rs, q2⟩ := y2
      exact hm pins s2 σ H2 (.ref p) vs (.ref p) us Q J2 rfl rs q2⟩
end
end Lp
namespace Lp
open PySem PySem.Spec PyProof.Rows L2
/-! ### the last people: each the tallest or the shortest up to there (bs: from the back) -/
def EndsR : List Bool → List Int → Prop
  | [], _ => True
  | b :: bs, r => ∃ l z, r = l ++ [z] ∧ (∀ y ∈ l, if b then y ≤ z else z ≤ y) ∧ EndsR bs l
def EndsB : List Bool → List Bool → Prop
  | [], _ => True
  | b :: bs, r => ∃ l c, r = l ++ [c] ∧ (c = !b → ∀ y ∈ l, y = !b) ∧ EndsB bs l
theorem snoc_of {α : Type} {l : List α} (h : 1 ≤ l.length) : ∃ m z, l = m ++ [z] := by
  have ne : l ≠ [] := fun e => by
    rw [e] at h
    exact absurd h (Nat.not_succ_le_zero 0)
  exact ⟨l.dropLast, l.getLast ne, (List.dropLast_concat_getLast ne).symm⟩
theorem endsB_const : ∀ (bs l : List Bool) (e : Bool), bs.length ≤ l.length → (∀ y ∈ l, y = e) → EndsB bs l
  | [], _, _, _, _ => trivial
  | b :: bs, l, e, hl, h => by
    rw [List.length_cons] at hl
    obtain ⟨m, z, rfl⟩ := snoc_of (show 1 ≤ l.length by omega)
    rw [List.length_append, List.length_singleton] at hl
    have hz : z = e := h z (by simp)
    refine ⟨m, z, rfl, fun ez y hy => ?_, endsB_const bs m e (by omega) fun y hy => h y (by simp [hy])⟩
    rw [← ez, hz]
    exact h y (by simp [hy])
theorem endsB_erase : ∀ (bs l : List Bool) (b : Bool), bs.length + 1 ≤ l.length → b ∈ l → EndsB bs l → EndsB bs (l.erase b)
  | [], _, _, _, _, _ => trivial
  | d :: bs, l, b, hl, hb, h => by
    rw [List.length_cons] at hl
    obtain ⟨m, c, rfl, h1, h2⟩ := h
    rw [List.length_append, List.length_singleton] at hl
    by_cases hm : b ∈ m
    · rw [List.erase_append_left _ hm]
      exact ⟨m.erase b, c, rfl, fun ec y hy => h1 ec y (List.mem_of_mem_erase hy), endsB_erase bs m b (by omega) hm h2⟩
    · have ec : c = b := by
        rcases List.mem_append.mp hb with z | z
        · exact absurd z hm
        · exact (List.mem_singleton.mp z).symm
      rw [List.erase_append_right _ hm, ec, List.erase_cons_head, List.append_nil]
      refine endsB_const (d :: bs) m (!b) (by rw [List.length_cons]; omega) fun y hy => ?_
      cases y <;> cases b <;> first | rfl | exact absurd hy hm
theorem endsB_pass {bs l : List Bool} {b : Bool} (hl : bs.length + 1 ≤ l.length) (h : EndsB bs l) : EndsB (b :: bs) ((l ++ [b]).erase b) := by
  by_cases hb : b ∈ l
  · rw [List.erase_append_left _ hb]
    exact ⟨l.erase b, b, rfl, (fun e => absurd e (by cases b <;> decide)), endsB_erase bs l b hl hb h⟩
  · rw [List.erase_append_right _ hb, List.erase_cons_head, List.append_nil]
    refine endsB_const (b :: bs) l (!b) (by rw [List.length_cons]; omega) fun y hy => ?_
    cases y <;> cases b <;> first | rfl | exact absurd hy hb
theorem endsB_after (h : Int) {ns : List Int} (ne : ns ≠ []) : ∀ r : List Bool, r.length ≤ ns.length → EndsB r (sgn h (afterL r.reverse ns))
  | [], _ => trivial
  | b :: r, hl => by
    rw [List.length_cons] at hl
    have ih := endsB_after h ne r (by omega)
    rw [List.reverse_cons, afterL_app]
    show EndsB (b :: r) (sgn h (passL b (afterL r.reverse ns)))
    have ln : (afterL r.reverse ns).length = ns.length := afterL_len ..
    have ne2 : afterL r.reverse ns ≠ [] := fun e => by
      rw [e] at ln
      exact ne (List.length_eq_zero_iff.mp ln.symm)
    rw [pass_sgn b h ne2]
    refine endsB_pass ?_ ih
    rw [sgn_len, ln]
    exact hl
theorem endsR_of : ∀ (bs : List Bool) (r : List Int), (∀ h, EndsB bs (sgn h r)) → EndsR bs r
  | [], _, _ => trivial
  | b :: bs, r, hB => by
    have pos : 1 ≤ r.length := by
      obtain ⟨l, c, e, _⟩ := hB 0
      have := congrArg List.length e
      rw [sgn_len, List.length_append, List.length_singleton] at this
      omega
    obtain ⟨m, z, rfl⟩ := snoc_of pos
    have split_ : ∀ h, (decide (h ≤ z) = !b → ∀ y ∈ sgn h m, y = !b) ∧ EndsB bs (sgn h m) := fun h => by
      obtain ⟨l, c, e, h1, h2⟩ := hB h
      have e2 : sgn h (m ++ [z]) = sgn h m ++ [decide (h ≤ z)] := List.map_append ..
      rw [e2] at e
      obtain ⟨e3, e4⟩ := List.append_inj' e rfl
      rw [e3]
      refine ⟨fun q => h1 ?_, h2⟩
      rw [← q]
      exact (List.cons.inj e4).1.symm
    refine ⟨m, z, rfl, fun y hy => ?_, endsR_of bs m fun h => (split_ h).2⟩
    cases b with
    | true =>
      show y ≤ z
      by_cases hlt : y ≤ z
      · exact hlt
      · have := (split_ y).1 (decide_eq_false hlt) (decide (y ≤ y)) (List.mem_map.mpr ⟨y, hy, rfl⟩)
        rw [decide_eq_true (Int.le_refl y)] at this
        cases this
    | false =>
      show z ≤ y
      have := (split_ z).1 (decide_eq_true (Int.le_refl z)) (decide (z ≤ y)) (List.mem_map.mpr ⟨y, hy, rfl⟩)
      exact of_decide_eq_true this
theorem endsR_after {ns : List Int} (ne : ns ≠ []) {r : List Bool} (hl : r.length ≤ ns.length) : EndsR r (afterL r.reverse ns) := endsR_of _ _ fun h => endsB_after h ne r hl
theorem endsR_uniq : ∀ (bs : List Bool) (r g : List Int), EndsR bs r → EndsR bs g → r.Perm g → r.take (r.length - bs.length) = g.take (r.length - bs.length) → r = g
  | [], r, g, _, _, p, e => by
    rw [List.length_nil, Nat.sub_zero, List.take_length, List.take_of_length_le (Nat.le_of_eq p.length_eq.symm)] at e
    exact e
  | b :: bs, r, g, hr, hg, p, e => by
    obtain ⟨l, z, rfl, h1, h2⟩ := hr
    obtain ⟨m, y, rfl, g1, g2⟩ := hg
    have ez : z = y := by
      have a1 : z ∈ m ++ [y] := p.mem_iff.mp (by simp)
      have a2 : y ∈ l ++ [z] := p.mem_iff.mpr (by simp)
      rcases List.mem_append.mp a1 with w1 | w1
      · rcases List.mem_append.mp a2 with w2 | w2
        · have q1 := g1 z w1
          have q2 := h1 y w2
          cases b <;> simp at q1 q2 <;> omega
        · exact (List.mem_singleton.mp w2).symm
      · exact List.mem_singleton.mp w1
    subst ez
    have pl : l.Perm m := (List.perm_append_right_iff [z]).mp p
    have ll := pl.length_eq
    rw [List.length_append, List.length_singleton, List.length_cons, show l.length + 1 - (bs.length + 1) = l.length - bs.length by omega, List.take_append_of_le_length (by omega), List.take_append_of_le_length (by omega)] at e
    rw [endsR_uniq bs l m h2 g2 pl e]
/-! ### the words that may have placed the last people -/
def endsW : List (Option Bool) → List Bool → List (List Bool)
  | some b :: ks, w => w :: endsW ks (b :: w)
  | _, w => [w]
def endsOf (gs : List Int) : List (List Bool) := endsW (kinds gs).reverse []
theorem endsW_nil (w : List Bool) : endsW [] w = [w] := rfl
theorem endsW_none (ks : List (Option Bool)) (w : List Bool) : endsW (none :: ks) w = [w] := rfl
theorem endsW_some (b : Bool) (ks : List (Option Bool)) (w : List Bool) : endsW (some b :: ks) w = w :: endsW ks (b :: w) := rfl
theorem endsW_get : ∀ (ks : List (Option Bool)) (v : List Bool) (j : Nat) (w : List Bool), (endsW ks v)[j]? = some w → j ≤ ks.length ∧ ∃ u : List Bool, u.length = j ∧ w = u.reverse ++ v ∧ ks.take j = u.map some
  | [], v, j, w, h => by
    rw [endsW_nil] at h
    cases j with
    | zero => exact ⟨Nat.le_refl _, [], rfl, (Option.some.inj h).symm, rfl⟩
    | succ j => cases h
  | none :: ks, v, j, w, h => by
    rw [endsW_none] at h
    cases j with
    | zero => exact ⟨Nat.zero_le _, [], rfl, (Option.some.inj h).symm, rfl⟩
    | succ j => cases h
  | some b :: ks, v, j, w, h => by
    rw [endsW_some] at h
    cases j with
    | zero => exact ⟨Nat.zero_le _, [], rfl, (Option.some.inj h).symm, rfl⟩
    | succ j =>
      rw [List.getElem?_cons_succ] at h
      obtain ⟨h1, u, h2, h3, h4⟩ := endsW_get ks (b :: v) j w h
      refine ⟨by rw [List.length_cons]; omega, b :: u, by rw [List.length_cons, h2], ?_, ?_⟩
      · rw [h3, List.reverse_cons, List.append_assoc]
        rfl
      · rw [List.take_succ_cons, h4]
        rfl
theorem kinds_ends : ∀ (u : List Bool) (gs : List Int), (kinds gs).reverse.take u.length = u.map some → u.length ≤ gs.length - 1 → EndsR u gs
  | [], _, _, _ => trivial
  | b :: u, gs, h, hl => by
    rw [List.length_cons] at hl
    obtain ⟨m, z, rfl⟩ := snoc_of (show 1 ≤ gs.length by omega)
    rw [List.length_append, List.length_singleton] at hl
    rw [kinds_snoc z (by omega), List.reverse_append, List.length_cons] at h
    have h2 : lk m z :: (kinds m).reverse.take u.length = some b :: u.map some := h
    obtain ⟨e1, e2⟩ := List.cons.inj h2
    have inv := lk_inv e1
    refine ⟨m, z, rfl, fun y hy => ?_, kinds_ends u m e2 (by omega)⟩
    cases b with
    | true => exact inv y hy
    | false => exact inv y hy
theorem ends_get {gs : List Int} {j : Nat} {w : List Bool} (h : (endsOf gs)[j]? = some w) : w.length = j ∧ j ≤ gs.length - 1 ∧ EndsR w.reverse gs := by
  obtain ⟨h1, u, h2, h3, h4⟩ := endsW_get _ _ _ _ h
  rw [List.length_reverse, kinds_len] at h1
  rw [List.append_nil] at h3
  subst h3
  rw [List.length_reverse, List.reverse_reverse]
  subst h2
  exact ⟨rfl, h1, kinds_ends u gs h4 h1⟩
theorem keptL_after {w : List Bool} {ns : List Int} (hrow : Row ns) (h : w.length ≤ ns.length) : keptL (w.count false) (w.count true) ns = (afterL w ns).take (ns.length - w.length) := by
  have two := count_two w
  unfold keptL
  rw [desk_passes hrow.nd (by omega), show ns.length - w.count false - w.count true = ns.length - w.length by omega]
  have c0 : (List.replicate (w.count false) false ++ List.replicate (w.count true) true).count false = w.count false := by simp [List.count_append, List.count_replicate]
  have c1 : (List.replicate (w.count false) false ++ List.replicate (w.count true) true).count true = w.count true := by simp [List.count_append, List.count_replicate]
  have ka := kept_any (ns := ns) c0 c1
  rw [List.length_append, List.length_replicate, List.length_replicate, two] at ka
  exact ka
/-- a possible end leads there just where the people kept are the first ones -/
theorem ends_lead {ns gs : List Int} {w : List Bool} (hrow : Row ns) (p : gs.Perm ns) (h : w ∈ endsOf gs) : afterL w ns = gs ↔ keptL (w.count false) (w.count true) ns = gs.take (ns.length - w.length) := by
  obtain ⟨j, hj⟩ := List.mem_iff_getElem?.mp h
  obtain ⟨h1, h2, h3⟩ := ends_get hj
  have lp := p.length_eq
  have pos := hrow.pos
  have ne : ns ≠ [] := fun e => by
    rw [e] at pos
    exact absurd pos (by decide)
  rw [keptL_after hrow (by omega)]
  constructor
  · intro e
    rw [e]
  · intro e
    have er := endsR_after ne (r := w.reverse) (by rw [List.length_reverse]; omega)
    rw [List.reverse_reverse] at er
    refine endsR_uniq w.reverse _ _ er h3 ((afterL_perm w ns).trans p.symm) ?_
    rw [afterL_len, List.length_reverse]
    exact e
/-! ### the first index at which two differ -/
def fmI : List Int → List Int → Option Nat
  | x :: xs, y :: ys => if x = y then (fmI xs ys).map (· + 1) else some 0
  | _, _ => none
theorem fmI_none : ∀ (xs ys : List Int), xs.length ≤ ys.length → (fmI xs ys = none ↔ xs = ys.take xs.length)
  | [], ys, _ => by cases ys <;> exact ⟨fun _ => rfl, fun _ => rfl⟩
  | x :: xs, [], h => absurd h (by simp)
  | x :: xs, y :: ys, h => by
    have ih := fmI_none xs ys (by simpa using h)
    rw [List.length_cons, List.take_succ_cons]
    show (if x = y then (fmI xs ys).map (· + 1) else some 0) = none ↔ _
    by_cases e : x = y
    · rw [if_pos e, Option.map_eq_none_iff, ih, e, List.cons.injEq]
      exact ⟨fun z => ⟨rfl, z⟩, fun z => z.2⟩
    · rw [if_neg e, List.cons.injEq]
      refine ⟨fun z => absurd z (by simp), fun z => absurd z.1 e⟩
/-- the search along xs -/
theorem fmI_at {xs ys : List Int} (h : xs.length ≤ ys.length) : ∀ i : Nat, (∀ j (hj : j < i) (hx : j < xs.length), xs[j] = ys[j]'(by omega)) → ∀ (hi : i < xs.length), xs[i] ≠ ys[i]'(by omega) → fmI xs ys = some i := by
  intro i
  induction i generalizing xs ys with
  | zero =>
    intro _ hi ne
    match xs, ys, h, hi, ne with
    | x :: xs, y :: ys, _, _, ne =>
      show (if x = y then _ else some 0) = some 0
      rw [if_neg (show ¬ x = y from ne)]
  | succ i ih =>
    intro before hi ne
    match xs, ys, h, hi, ne, before with
    | x :: xs, y :: ys, h, hi, ne, before =>
      have e : x = y := before 0 (by omega) (by simp)
      show (if x = y then (fmI xs ys).map (· + 1) else some 0) = some (i + 1)
      rw [if_pos e, ih (xs := xs) (ys := ys) (by simpa using h) (fun j hj hx => before (j + 1) (by omega) (by simpa using hx)) (by simpa using hi) ne]
      rfl
theorem fmI_all {xs ys : List Int} (h : xs.length ≤ ys.length) (all_ : ∀ j (hx : j < xs.length), xs[j] = ys[j]'(by omega)) : fmI xs ys = none := by
  refine (fmI_none xs ys h).mpr (List.ext_getElem (by rw [List.length_take]; omega) fun j h1 h2 => ?_)
  rw [List.getElem_take]
  exact all_ j h1
end Lp
namespace Lp
open PySem PySem.Spec PyProof.Rows L2
/-! ### all rows of some people -/
def insAt (x : Int) (l : List Int) (k : Nat) : List Int := l.take k ++ [x] ++ l.drop k
def insAll (x : Int) (l : List Int) : List (List Int) := (List.range (l.length + 1)).map (insAt x l)
def allL (ns : List Int) : List (List Int) := ns.foldl (fun found x => found.flatMap (insAll x)) [[]]
theorem insAt_perm (x : Int) (l : List Int) (k : Nat) : (insAt x l k).Perm (l ++ [x]) := by
  unfold insAt
  have e : l ++ [x] = l.take k ++ (l.drop k ++ [x]) := by rw [← List.append_assoc, List.take_append_drop]
  rw [e, List.append_assoc]
  exact (List.perm_append_comm).append_left _
theorem allL_take {ns : List Int} {i : Nat} (h : i < ns.length) : allL (ns.take (i + 1)) = (allL (ns.take i)).flatMap (insAll ns[i]) := fold_take (List.getElem?_eq_getElem h)
theorem fold_perm : ∀ (ns pre : List Int) (F : List (List Int)), (∀ l, l ∈ F ↔ l.Perm pre) → ∀ l, l ∈ ns.foldl (fun found x => found.flatMap (insAll x)) F ↔ l.Perm (pre ++ ns)
  | [], pre, F, h, l => by
    rw [List.append_nil]
    exact h l
  | x :: ns, pre, F, h, l => by
    rw [List.foldl_cons]
    have step : ∀ l, l ∈ F.flatMap (insAll x) ↔ l.Perm (pre ++ [x]) := fun l => by
      refine ⟨fun hl => ?_, fun hl => ?_⟩
      · obtain ⟨m, hm, hl⟩ := List.mem_flatMap.mp hl
        obtain ⟨k, _, rfl⟩ := List.mem_map.mp hl
        exact (insAt_perm x m k).trans (((h m).mp hm).append_right [x])
      · have hx : x ∈ l := hl.mem_iff.mpr (List.mem_append_right _ (List.mem_singleton_self x))
        obtain ⟨a, b, rfl⟩ := List.append_of_mem hx
        refine List.mem_flatMap.mpr ⟨a ++ b, (h _).mpr ?_, List.mem_map.mpr ⟨a.length, List.mem_range.mpr (by rw [List.length_append]; omega), ?_⟩⟩
        · have p1 : (x :: (a ++ b)).Perm (x :: pre) := (List.perm_middle.symm.trans hl).trans (List.perm_append_singleton x pre)
          exact p1.cons_inv
        · unfold insAt
          rw [List.take_left, List.drop_left, List.append_assoc]
          rfl
    have := fold_perm ns (pre ++ [x]) (F.flatMap (insAll x)) step l
    rw [List.append_assoc] at this
    exact this
theorem allL_mem {ns l : List Int} : l ∈ allL ns ↔ l.Perm ns := by
  have := fold_perm ns [] [[]] (fun l => by rw [List.mem_singleton]; exact ⟨fun z => by rw [z], fun z => List.perm_nil.mp z⟩) l
  rw [List.nil_append] at this
  exact this
theorem flat_len_le {F : List (List Int)} {x : Int} {c : Nat} (h : ∀ l ∈ F, l.length + 1 ≤ c) : (F.flatMap (insAll x)).length ≤ F.length * c := by
  induction F with
  | nil => simp
  | cons l F ih =>
    rw [List.flatMap_cons, List.length_append, List.length_cons]
    have h1 : (insAll x l).length ≤ c := by
      unfold insAll
      rw [List.length_map, List.length_range]
      exact h l (List.mem_cons_self ..)
    have h2 := ih fun m hm => h m (List.mem_cons_of_mem _ hm)
    have e : (F.length + 1) * c = F.length * c + c := Nat.succ_mul ..
    omega
theorem allL_few {ns : List Int} (hn : ns.length ≤ 5) : ∀ i, i ≤ ns.length → (allL (ns.take i)).length ≤ 6 ^ i
  | 0, _ => by simp [allL]
  | i + 1, h => by
    rw [allL_take (by omega)]
    have ih := allL_few hn i (by omega)
    have b := flat_len_le (F := allL (ns.take i)) (x := ns[i]) (c := 6) fun l hl => by
      have := (allL_mem.mp hl).length_eq
      rw [List.length_take] at this
      omega
    have e : 6 ^ (i + 1) = 6 ^ i * 6 := Nat.pow_succ ..
    have : (allL (ns.take i)).length * 6 ≤ 6 ^ i * 6 := Nat.mul_le_mul_right 6 ih
    omega
theorem allL_bound {ns : List Int} (hn : ns.length ≤ 5) (i : Nat) (h : i ≤ ns.length) : (allL (ns.take i)).length ≤ 7776 := by
  have h1 := allL_few hn i h
  have h2 : 6 ^ i ≤ 6 ^ 5 := Nat.pow_le_pow_right (by decide) (by omega)
  exact Nat.le_trans h1 (Nat.le_trans h2 (by decide))
theorem flat_take {F : List (List Int)} {x : Int} {j : Nat} (h : j < F.length) : (F.take (j + 1)).flatMap (insAll x) = (F.take j).flatMap (insAll x) ++ insAll x F[j] := by
  rw [List.take_add_one, List.getElem?_eq_getElem h, List.flatMap_append]
  simp
end Lp
namespace Lp
open PySem PySem.Spec PyProof.Rows L2
/-! ### names in any order -/
def pickL {α : Type} (is : List Nat) (l : List α) : List α := is.filterMap fun i => l[i]?
theorem rel_pick (is : List Nat) {zs : List V} {ws : List Value} (r : Vals zs ws) : Vals (pickL is zs) (pickL is ws) := by
  induction is with
  | nil => exact .nil
  | cons i is ih =>
    unfold pickL at ih ⊢
    rw [List.filterMap_cons, List.filterMap_cons]
    cases hz : zs[i]? with
    | none =>
      have hw : ws[i]? = none := by
        rw [List.getElem?_eq_none_iff] at hz ⊢
        rw [← r.length]
        exact hz
      rw [hw]
      exact ih
    | some x =>
      obtain ⟨u, hu, ru⟩ := r.get hz
      rw [hu]
      exact .cons ru ih
/-! ### a < b < c <= d -/
def tChain3 (r r' r'' : R2) (ta tb tc td : TE) : TE := fun σ H Q => ta σ H fun x H1 => tb σ H1 fun y H2 => r x y H2 fun z H3 => ∃ k, z = .bl k ∧
  (if k = true then tc σ H3 fun y' H4 => r' y y' H4 fun z' H5 => ∃ k', z' = .bl k' ∧ (if k' = true then td σ H5 fun y'' H6 => r'' y' y'' H6 Q else Q (.bl false) H5) else Q (.bl false) H3)
theorem pe_chain3 {X : Cx} {a b c d : Expr} {ta tb tc td : TE} {pos : Pos} {o1 o2 o3 : CmpOp} {r r' r'' : R2} (h1 : OpR X (compareOp o1) r) (h2 : OpR X (compareOp o2) r') (h3 : OpR X (compareOp o3) r'') (pa : PE X a ta) (pb : PE X b tb) (pc : PE X c tc) (pd : PE X d td)
    (hm : lastMarks [o1, o2, o3] [b, c, d] = false := by with_unfolding_all rfl) : PE X (.Compare a [o1, o2, o3] [b, c, d] pos) (tChain3 r r' r'' ta tb tc td) := ⟨fun pins s σ H Q I h => by
  refine Compare_chain (thn (pa.run pins s σ H _ I h) fun v s1 w1 => ?_) hm
  obtain ⟨x, H1, I1, r1, q1⟩ := w1
  refine chain_link (thn (pb.run pins s1 σ H1 _ I1 q1) fun u s2 w2 => ?_)
  obtain ⟨y, H2, I2, r2, q2⟩ := w2
  refine thn (h1 pins s2 σ H2 x y v u _ I2 r1 r2 q2) fun e s3 w3 => ?_
  obtain ⟨z, H3, I3, r3, k, ek, q3⟩ := w3
  subst ek
  cases r3
  refine wpAny_truthy_bool ?_
  cases k with
  | false => exact ite_ff ⟨.bl false, H3, I3, rfl, q3⟩
  | true =>
    refine ite_tt (chain_link (thn (pc.run pins s3 σ H3 _ I3 q3) fun u2 s4 w4 => ?_))
    obtain ⟨y2, H4, I4, r4, q4⟩ := w4
    refine thn (h2 pins s4 σ H4 y y2 u u2 _ I4 r2 r4 q4) fun e2 s5 w5 => ?_
    obtain ⟨z2, H5, I5, r5, k2, ek2, q5⟩ := w5
    subst ek2
    cases r5
    refine wpAny_truthy_bool ?_
    cases k2 with
    | false => exact ite_ff ⟨.bl false, H5, I5, rfl, q5⟩
    | true =>
      refine ite_tt (chain_last (thn (pd.run pins s5 σ H5 _ I5 q5) fun u3 s6 w6 => ?_))
      obtain ⟨y3, H6, I6, r6, q6⟩ := w6
      exact h3 pins s6 σ H6 y2 y3 u2 u3 Q I6 r4 r6 q6⟩
/-! ### powers and lowest terms -/
theorem pow_lt {x k m : Nat} (hx : x < 1024) (hk : k ≤ m) : x ^ k < 2 ^ (10 * m + 1) := by
  have h1 : x ^ k ≤ 1024 ^ k := Nat.pow_le_pow_left (by omega) k
  have h2 : (1024 : Nat) ^ k ≤ 1024 ^ m := Nat.pow_le_pow_right (by decide) hk
  have h3 : (1024 : Nat) ^ m = 2 ^ (10 * m) := by
    rw [show (1024 : Nat) = 2 ^ 10 by decide, ← Nat.pow_mul]
  have h4 : (2 : Nat) ^ (10 * m) < 2 ^ (10 * m + 1) := Nat.pow_lt_pow_right (by decide) (by omega)
  omega
theorem log_lt {n m : Nat} (h : n < 2 ^ m) (hm : 0 < m) : n.log2 < m := by
  by_cases h0 : n = 0
  · subst h0
    exact Nat.lt_of_le_of_lt (by decide) hm
  · exact (Nat.log2_lt h0).mpr h
theorem lowest {t w : Nat} (h : Nat.gcd t w = 1) (lt : t < w) (a b n : Nat) : Nat.gcd (t ^ a * (w - t) ^ b) (w ^ n) = 1 := by
  have c1 : Nat.Coprime t w := h
  have c2 : Nat.Coprime (w - t) w := by
    have d1 := Nat.gcd_dvd_left (w - t) w
    have d2 := Nat.gcd_dvd_right (w - t) w
    have d3 : Nat.gcd (w - t) w ∣ t := by
      have := Nat.dvd_sub d2 d1
      rw [show w - (w - t) = t by omega] at this
      exact this
    have d4 := Nat.dvd_gcd d3 d2
    rw [h] at d4
    exact Nat.eq_one_of_dvd_one d4
  exact (Nat.Coprime.pow a n c1).mul_left (Nat.Coprime.pow b n c2)
/-! ### tuples that stand in the heap: parts and sums stand there too -/
def rCatC : R2 := fun x y H Q => ∃ a b xs ys, x = .ref a ∧ y = .ref b ∧ H a = some (.tup xs) ∧ H b = some (.tup ys) ∧ xs.length + ys.length ≤ sizeLine ∧
  ∀ (p : Addr) (G : Hp), Same H G → G p = some (.tup (xs ++ ys)) → Q (.ref p) G
theorem op_catC {X : Cx} : OpR X (binaryOp .Add) rCatC := by
  intro pins s σ H x y v u Q I rx ry h
  obtain ⟨a, b, xs, ys, rfl, rfl, ha, hb, hz, q⟩ := h
  refine op_catA pins s σ H _ _ v u Q I rx ry ⟨a, b, xs, ys, rfl, rfl, .inl (.inl ha), .inl (.inl hb), hz, fun e => ?_, fun _ e => ?_, fun _ _ p np => ?_⟩
  · subst e
    exact q b H (Same.refl H) hb
  · subst e
    refine q a H (Same.refl H) ?_
    rw [List.append_nil]
    exact ha
  · exact q p _ (same_upd np) upd_same
def rSlC : V → Option Int → Option Int → Hp → VK → Prop := fun x lo hi H Q => ∃ a xs, x = .ref a ∧ H a = some (.tup xs) ∧ ∀ (p : Addr) (G : Hp), Same H G → G p = some (.tup (cutV xs lo hi)) → Q (.ref p) G
theorem sl_tupC {X : Cx} : SlR X rSlC := by
  intro pins s σ H x v vl vu lo hi sl Q I rx hs pl pu h
  obtain ⟨a, xs, rfl, ha, q⟩ := h
  refine sl_tupA pins s σ H _ v vl vu lo hi sl Q I rx hs pl pu ⟨a, xs, rfl, .inl (.inl ha), fun z => ?_, fun _ p np => ?_⟩
  · refine q a H (Same.refl H) ?_
    rw [cut_whole z]
    exact ha
  · exact q p _ (same_upd np) upd_same
end Lp
namespace Lp
open PySem PySem.Spec PyProof.Rows L2
open Builtin Builtin.Str Builtin.Int in
/-- sep.join of an iterator that goes backwards over a list of texts -/
theorem joinBack {prog : Program} {w : World} {A : Around} {E : Value → Shared → Prop} {s : Shared} {sep : Str} {t : Tok} {Q : Value → Shared → Prop} {it l : Addr} {vs : Array Value} (calm : A.handled = none)
    (h1 : s.heap.IsRevIter it l ((vs.size : Int) - 1)) (h2 : s.heap.IsList l vs) (ne : l ≠ it) (fits : vs.size ≤ sizeLine) (texts : ∀ v ∈ vs, ∃ y u, v = Value.str y u)
    (post : ∀ (g : Heap) (k : Nat) (ts : List (Str × Tok)), (∀ b o, b ≠ it → s.heap.get? b = some o → g.get? b = some o) → strValues ts = vs.toList.reverse →
      JoinOk sep (ts.map (·.1)) = true ∧ ∀ t2 k2, Q (.str (Txt.join sep (ts.map (·.1))) t2) { s with heap := g, toks := k2 }) :
    wpAny (model prog w) A (call (.builtin "str.join") [.str sep t, .ref it]) Q E s := by
  apply wpAny_call
  apply codeAny_call_builtin F.slot_str_join.plain F.entry_str_join
  apply F.slot_str_join.check _ _ _ _ _ _ _ _ (typeIs_str _ _ _) (F.args_str_join_2 _ _)
  rw [join_tree_other sep t it]
  apply wpAny_bind
  apply wpAny_typeOf h1.typeIs
  show wpAny _ A.in1 ((pyIter (.ref it)).tryCatch _ >>= fun z => collect z >>= fun us => joinTail sep us) _ _ s
  apply wpAny_bind
  apply wpAny_tryCatch
  apply wpAny_pyIter_revIter h1
  apply wpAny_bind
  apply RT.collect_rev (A := A.in1) calm h1 h2 ne fits
  intro g k acc keep got
  have back : acc.toList = vs.toList.reverse := by
    apply List.ext_getElem?
    intro j
    by_cases hj : j < vs.size
    · have ja : j < acc.size := by rw [got.1]; exact hj
      have e1 : acc[j]? = some acc[j] := Array.getElem?_eq_getElem ja
      have e2 := got.2 j _ e1
      rw [Array.getElem?_toList, e1, List.getElem?_reverse (by rw [Array.length_toList]; exact hj), Array.length_toList, Array.getElem?_toList, e2]
    · rw [List.getElem?_eq_none (by rw [Array.length_toList, got.1]; omega), List.getElem?_eq_none (by rw [List.length_reverse, Array.length_toList]; omega)]
  obtain ⟨ts, hts⟩ := exists_strValues acc.toList fun v hv => by
    rw [back] at hv
    exact texts v (by simpa using hv)
  rw [← hts]
  obtain ⟨ok, fin⟩ := post g k ts keep (hts.trans back)
  have ok2 := ok
  unfold JoinOk at ok2
  rw [Bool.not_eq_true'] at ok2
  have gv2 : Gives (joinTail sep (strValues ts)) (joinMade sep ts) := by
    clear fin ok post hts
    have gv := gives_joinTail sep ts ok2
    cases ts with
    | nil => exact gv
    | cons p r =>
      cases r with
      | nil => exact gv
      | cons p2 r2 => exact gv
  exact gv2 prog w A (wants Q E) { s with heap := g, toks := k } (post_join ts ⟨joinFit_length ok2, fin⟩)
/-- sep.join(reversed(xs)), xs a list of texts -/
def tJoinBack (K : PySem.W.Frag) (to te : TE) : TE := fun σ H Q => to σ H fun v H1 => ∃ sep : Str, v = .str sep ∧ te σ H1 fun u H2 => ∃ (a : Addr) (ws : List Str), u = .ref a ∧ SqL K H2 a (ws.map V.str) ∧ JoinOk sep ws.reverse = true ∧ Q (.str (Txt.join sep ws.reverse)) H2
section
variable {X : Cx} {o e : Expr} {to te : TE} {p pos apos cpos : Pos}
theorem pe_joinBack (calm : X.calm = true) (hg : Gl X "reversed") (hm : X.mg "reversed" = none) (ho : PE X o to) (he : PE X e te)
    (hbase : attributeBase o "join" X.env (eval o X.env) = eval o X.env := by rfl)
    (few : ((backTo cpos (starEach [.Call (.Name "reversed" p) [e] [] pos] X.env)).all (fun x => !x.1) && (backToKw cpos (keywordEach [] X.env)).all (fun x => x.1.isSome) && decide (([.Call (.Name "reversed" p) [e] [] pos] : List Expr).length + ([] : List Keyword).length + (if ([] : List Keyword).isEmpty then 0 else 1) < 30)) = true := by rfl)
    (line : (apos.endLine == cpos.line) = true := by rfl) (s1 : starEach [e] X.env = (false, eval e X.env) :: starEach [] X.env := by rfl)
    (s2 : starEach [.Call (.Name "reversed" p) [e] [] pos] X.env = (false, eval (.Call (.Name "reversed" p) [e] [] pos) X.env) :: starEach [] X.env := by rfl)
    (plain : (backTo cpos (starEach [] X.env)).any (·.1) = false := by rfl) :
    PE X (.Call (.Attribute o "join" apos) [.Call (.Name "reversed" p) [e] [] pos] [] cpos) (tJoinBack X.K to te) := ⟨fun pins s σ H Q I h => by
  refine wpAny_Call_method_late hbase few line rfl (thn (ho.run pins s σ H _ I h) fun v s1' y => ?_)
  obtain ⟨x, H1, J1, rx, sep, rfl, q1⟩ := y
  obtain ⟨tk, rfl⟩ : ∃ t, v = Value.str sep t := rx
  refine ⟨"str", _, PySem.F.plainAttrs_str, PySem.F.slot_str_join, PySem.F.type_str_join, typeIs_str _ _ _, fun _ z => (nomatch z), ?_⟩
  rw [s2]
  refine Calls.callWith_builtin (by show (false || (backTo cpos (starEach [] X.env)).any (·.1)) = false; rw [plain]; rfl) (Calls.evalArgs_plain ?_)
  show wpAny _ _ (spliced ((false, eval (.Call (.Name "reversed" p) [e] [] pos) X.env) :: backTo cpos (starEach [] X.env))) _ _ s1'
  refine Calls.spliced_cons (Call_ (ld_blt J1 hg hm PyProof.Rows.boot_reversed (PyProof.Rows.callWith_type1 (args_cons (thn (he.run pins s1' σ H1 _ J1 q1) fun u s2' y2 => args_nil ?_) s1) s1 rfl)))
  obtain ⟨z, H2, J2, rz, a, ws, rfl, hq, jok, fin⟩ := y2
  obtain rfl : u = Value.ref a := rz
  obtain ⟨its, rv, pl, hz⟩ := J2.list hq
  refine call_reversed_list pl.isList ?_
  have keep0 : ∀ b o2, s2'.heap.get? b = some o2 → (s2'.heap.push (revObj a ((its.toArray.size : Int) - 1))).get? b = some o2 := fun b o2 z => Heap.get?_push_of_some _ z
  have J3 : Inv X pins σ H2 { s2' with heap := s2'.heap.push (revObj a ((its.toArray.size : Int) - 1)) } := J2.kept (t' := s2'.toks) keep0
  obtain ⟨f0, f1, f2, f3, f4, f5⟩ := J2.fpOk (H' := H2) (b := s2'.heap.objs.size) (Nat.le_refl _) (J2.hok.fresh (Nat.le_refl _))
  have hl := pl.isList
  obtain ⟨ol, hol, _⟩ := id hl
  have ne : a ≠ s2'.heap.objs.size := Nat.ne_of_lt (Heap.lt_size hol)
  have fits : its.toArray.size ≤ sizeLine := by rw [List.size_toArray, ← rv.length]; exact hz
  have il := rv.length
  rw [List.length_map] at il
  refine Calls.spliced_nil (joinBack (s := { s2' with heap := s2'.heap.push (revObj a ((its.toArray.size : Int) - 1)) }) (J2.ok.hd calm) ⟨_, Heap.get?_push_size _ rfl, rfl, rfl⟩ (hl.push _) ne fits (fun v hv => ?_) fun g k ts keep hts => ?_)
  · obtain ⟨i, hi, rfl⟩ := Array.mem_iff_getElem.mp hv
    have hi2 : i < ws.length := by
      rw [List.size_toArray] at hi
      omega
    obtain ⟨w, hw, t2, ew⟩ := rv.get (i := i) (x := .str ws[i]) (by rw [List.getElem?_map, List.getElem?_eq_getElem hi2]; rfl)
    refine ⟨ws[i], t2, ?_⟩
    rw [← ew]
    have := (List.getElem?_eq_some_iff.mp hw).2
    rw [← this]
    simp
  · have et : ts.map (·.1) = ws.reverse := by
      have e1 : ts.length = ws.length := by
        have := congrArg List.length hts
        unfold strValues at this
        rw [List.length_map, List.length_reverse] at this
        rw [this, il]
      refine List.ext_getElem? fun j => ?_
      by_cases hj : j < ws.length
      · have hj2 : j < ts.length := by omega
        have hr : ws.length - 1 - j < ws.length := by omega
        rw [List.getElem?_map, List.getElem?_eq_getElem hj2, List.getElem?_reverse hj, List.getElem?_eq_getElem hr]
        have h4 : (strValues ts)[j]? = its.reverse[j]? := by rw [hts]
        unfold strValues at h4
        rw [List.getElem?_map, List.getElem?_eq_getElem hj2, List.getElem?_reverse (by omega), ← il] at h4
        obtain ⟨w, hw, t2, ew⟩ := rv.get (i := ws.length - 1 - j) (x := .str ws[ws.length - 1 - j]) (by rw [List.getElem?_map, List.getElem?_eq_getElem hr]; rfl)
        rw [hw, ew] at h4
        have h5 := Option.some.inj h4
        have h6 : ts[j].1 = ws[ws.length - 1 - j] := (Value.str.inj h5).1
        show some ts[j].1 = some _
        rw [h6]
      · rw [List.getElem?_eq_none (by rw [List.length_map]; omega), List.getElem?_eq_none (by rw [List.length_reverse]; omega)]
    rw [et]
    refine ⟨jok, fun t2 k2 => ?_⟩
    have J4 : Inv X pins σ H2 { s2' with heap := g, toks := k2 } := J3.turned (t' := k2) (fun b o2 hb z => keep b o2 hb z) f0 f1 f3 f4 f5
    exact ⟨.str _, H2, J4, ⟨_, rfl⟩, fin⟩⟩
end
end Lp
namespace Lp
open PySem PySem.Spec PyProof.Rows L2
/-! ### defs with parameters behind a star that have defaults -/
abbrev FnK (K : PySem.W.Frag) (x : Str) (st : Stmt) (kws : List (Str × V)) (f : Addr) (fd : FuncData) : Prop := FunD K x x (defArgs st) (defBody st) (defScope st) [] kws f fd
structure DfK (K : PySem.W.Frag) (mg : Str → Option Value) (x : Str) (st : Stmt) (kws : List (Str × V)) : Prop where
  ex : ∃ f fd, FnK K x st kws f fd ∧ mg x = some (.ref f)
structure ClK (P : Program) (w : World) (K : PySem.W.Frag) (mg : Str → Option Value) (base : Heap) (k : Nat) (x : Str) (st : Stmt) (ps : List Str) (kws : List (Str × V)) (sp : Sp) : Prop where
  ex : ∃ f fd, FnK K x st kws f fd ∧ FnOk P w K mg base CX0 k f fd ps sp ∧ mg x = some (.ref f) ∧ ∃ ds, Vals (kws.map (·.2)) ds ∧ Binds K fd ps ds
section
variable {P : Program} {w : World} {K : PySem.W.Frag} {mg : Str → Option Value} {base : Heap} {x : Str} {st : Stmt} {N ps : List Str} {k : Nat} {sp : Sp} {kws : List (Str × V)}
theorem DfK.ok (D : DfK K mg x st kws) (S : FnScope N ps (defScope st)) (n : Nat) (hk : kws ≠ []) (hn : n + kws.length = ps.length)
    (bd : ∀ (D : Addr) (doc pm : Value) (an : Option Addr) (cdv ct : Value) (us ks : List Value), us.length = n → ks.length = kws.length →
      KwChain D ((kws.map (·.1)).zip ks) (bindArgs (PySem.W.fnOf x x (defArgs st) (defBody st) (defScope st) .none (.ref D) doc pm an cdv ct) ⟨us, []⟩) (ps.zip (us ++ ks)))
    (len : ∀ vs H Q E, sp vs H Q E → vs.length = ps.length)
    (body : ∀ (f : Addr) (cdv : Value) (A : Around) (outer : List Env) (s : Shared) (H : Hp) (vs : List V) (Q : VK) (E : XK), Room k (A.deeper (envOfC x (defScope st) s.heap.objs.size f cdv)) → sp vs H Q E →
      ∃ t, PSs (cxOf CX0 P w K mg base N x (defScope st) f cdv A outer s H E).nox (defBody st) t ∧ t { nx := fun _ H' => Q .non H', rt := Q } (start N vs) H) : ClK P w K mg base (k + 1) x st ps kws sp := by
  obtain ⟨f, fd, F, hm⟩ := D.ex
  refine ⟨f, fd, F, F.ok S len fun cdv A outer s H vs Q E hr h => ?_, hm, F.binds0 n hk hn bd⟩
  obtain ⟨t, ht, hg⟩ := body f cdv A outer s H vs Q E hr h
  exact ⟨t, ht.nox, hg⟩
end
section
variable {X : Cx} {x : Str} {st : Stmt} {ps : List Str} {j k : Nat} {sp : Sp} {e : Expr} {es : List Expr} {t : TA} {p pos : Pos} {kws : List (Str × V)}
/-- f(e, ..), the others by their defaults -/
theorem pe_ud (c : ClK X.prog X.w X.K X.mg X.base k x st ps kws sp) (hr : Room j X.A) (hk : k ≤ j) (hg : Gl X x) (ha : PA X (e :: es) t)
    (hdb : (x == ("__debug__" : Str)) = false := by decide) (he : starEach (e :: es) X.env = (false, eval e X.env) :: starEach es X.env := by rfl) (hpl : (backTo pos (starEach es X.env)).any (·.1) = false := by rfl) :
    PE X (.Call (.Name x p) (e :: es) [] pos) (tCall sp (kws.map (·.2)) E0 t) := by
  obtain ⟨f, fd, F, G, hm, ds, rv, b⟩ := c.ex
  exact pe_call G (hr.mono hk) hg hm F.kp b rv pass0 ha hdb he hpl
end
/-! ### {key: value} with a tuple as its key -/
def tDisp1 (tk tv : TE) : TE := fun σ H Q => ∀ p, H p = none → tk σ (upd H p (.dT [])) fun kx H1 => tv σ H1 fun vx H2 => H2 p = some (.dT []) ∧ ∃ (b : Addr) (key : List L2.Key), kx = .ref b ∧ H2 b = some (.tup (key.map L2.kV)) ∧ Q (.ref p) (upd H2 p (.dT [(key, vx)]))
theorem pe_disp1 {X : Cx} {k v : Expr} {pos : Pos} {tk tv : TE} (hu : X.A.units + 1 < cLine) (hk : PE X k tk) (hv : PE X v tv) : PE X (.Dict [some k] [v] pos) (tDisp1 tk tv) := ⟨fun pins s σ H Q I q => by
  have new := I.hok.fresh (Nat.le_refl s.heap.objs.size)
  have J := I.laid (a := s.heap.objs.size) (o := .dT []) (h' := s.heap.push { cls := .type "dict", data := .dict #[] }) (t' := s.toks) (fun _ _ z => Heap.get?_push_of_some _ z) (Nat.le_refl _) (dt_empty s.heap I.big)
  refine wpAny_Dict_any rfl rfl (by simp) (show 1 ≤ 15 by decide) (pairTrees_cons_walk (thn (hk.run pins _ σ _ _ J (q _ new)) fun kv s1 y1 => ?_))
  obtain ⟨kx, H1, J1, rk, q1⟩ := y1
  refine thn (hv.run pins s1 σ H1 _ J1 q1) fun vv s2 y2 => ?_
  obtain ⟨vx, H2, J2, rv, e, b, key, rfl, hb, fin⟩ := y2
  obtain rfl : kv = Value.ref b := rk
  refine pairTrees_nil_walk ?_
  obtain ⟨z, hd, xs, rel, dd⟩ := dt_of J2.hok e
  have hx : xs = [] := List.length_eq_zero_iff.mp (by rw [← Paired.length rel]; rfl)
  subst hx
  unfold storeAll
  simp only [List.forIn_cons, List.forIn_nil]
  refine wpAny_bind (wpAny_bind (wpAny_dictSet_heap (hsz := by simp) (show X.A.units < cLine by omega) (key_of J2.hok hb) dd fun h' dd' hs => wpAny_pure (wpAny_pure ?_)))
  obtain ⟨q', es, ep, hq, h2, h3, h4, _, h5⟩ := dd'
  refine ⟨.ref s.heap.objs.size, upd H2 s.heap.objs.size (.dT [(key, vx)]), d_write J2 (by rw [e]; exact True.intro) hs ⟨q', hq⟩ ⟨show 1 ≤ sizeLine by decide, hd, _, (rel.put key hb rv).keeps fun c ys ec => ?_, q', es, ep, hq, h2, h3, h4, h5⟩, rfl, fin⟩
  rw [upd_ne (ne_of ec e (fun z => nomatch z))]
  exact ec⟩
end Lp
namespace Lp
open PySem PySem.Spec PyProof.Rows L2
/-! ### the rows that can be reached: mathematics -/
structure ReachI (ns : List Int) (i : Nat) (ls ms : List (List Int)) : Prop where
  sub : ∀ l ∈ ls, l ∈ ms
  frm : ∀ m ∈ ms, ∃ w : List Bool, w.length ≤ i ∧ afterL w ns = m
  all : ∀ w : List Bool, w.length ≤ i → afterL w ns ∈ ms
  cl : ∀ m ∈ ms, m ∈ ls ∨ ∀ b, passL b m ∈ ms
  nl : ls.length ≤ 2 ^ i
  nm : ms.length + 1 ≤ 2 ^ (i + 1)
structure ReachJ (ls ms fs : List (List Int)) (k : Nat) : Prop where
  src : ∀ f ∈ fs, ∃ l ∈ ls, ∃ b, f = passL b l
  done : ∀ (x : Nat) (b : Bool), 2 * x + b.toNat < k → ∀ l, ls[x]? = some l → passL b l ∈ ms ++ fs
  cnt : fs.length ≤ k
theorem after_snoc (w : List Bool) (b : Bool) (ns : List Int) : afterL (w ++ [b]) ns = passL b (afterL w ns) := by
  rw [afterL_app]
  rfl
theorem reachI_zero {ns : List Int} : ReachI ns 0 [ns] [ns] where
  sub := fun l h => h
  frm := fun m h => ⟨[], Nat.le_refl _, (List.mem_singleton.mp h).symm⟩
  all := fun w h => by
    rw [List.length_eq_zero_iff.mp (Nat.le_zero.mp h)]
    exact List.mem_singleton.mpr rfl
  cl := fun m h => .inl h
  nl := Nat.le_refl 1
  nm := Nat.le_refl 2
theorem reachJ_zero {ls ms : List (List Int)} : ReachJ ls ms [] 0 where
  src := fun f h => nomatch h
  done := fun x b h => absurd h (Nat.not_lt_zero _)
  cnt := Nat.le_refl _
theorem two_split {x j : Nat} {a b : Bool} (h : 2 * x + a.toNat < 2 * j + b.toNat + 1) : 2 * x + a.toNat < 2 * j + b.toNat ∨ (x = j ∧ a = b) := by
  cases a <;> cases b <;> simp at h ⊢ <;> omega
theorem ReachJ.old {ls ms fs : List (List Int)} {j : Nat} {b : Bool} (r : ReachJ ls ms fs (2 * j + b.toNat)) {l : List Int} (hl : ls[j]? = some l) (h : passL b l ∈ ms ++ fs) : ReachJ ls ms fs (2 * j + b.toNat + 1) where
  src := r.src
  done := fun x a hx l2 h2 => by
    rcases two_split hx with z | ⟨rfl, rfl⟩
    · exact r.done x a z l2 h2
    · rw [hl] at h2
      cases h2
      exact h
  cnt := Nat.le_succ_of_le r.cnt
theorem ReachJ.new {ls ms fs : List (List Int)} {j : Nat} {b : Bool} (r : ReachJ ls ms fs (2 * j + b.toNat)) {l : List Int} (hl : ls[j]? = some l) : ReachJ ls ms (fs ++ [passL b l]) (2 * j + b.toNat + 1) where
  src := fun f hf => by
    rcases List.mem_append.mp hf with z | z
    · exact r.src f z
    · rw [List.mem_singleton.mp z]
      exact ⟨l, List.mem_of_getElem? hl, b, rfl⟩
  done := fun x a hx l2 h2 => by
    rw [← List.append_assoc]
    rcases two_split hx with z | ⟨rfl, rfl⟩
    · exact List.mem_append_left _ (r.done x a z l2 h2)
    · rw [hl] at h2
      cases h2
      exact List.mem_append_right _ (List.mem_singleton.mpr rfl)
  cnt := by
    rw [List.length_append, List.length_singleton]
    exact Nat.succ_le_succ r.cnt
theorem ReachI.next {ns : List Int} {i : Nat} {ls ms fs : List (List Int)} (r : ReachI ns i ls ms) (t : ReachJ ls ms fs (2 * ls.length)) : ReachI ns (i + 1) fs (ms ++ fs) where
  sub := fun l h => List.mem_append_right _ h
  frm := fun m h => by
    rcases List.mem_append.mp h with z | z
    · obtain ⟨w, hw, e⟩ := r.frm m z
      exact ⟨w, by omega, e⟩
    · obtain ⟨l, hl, b, rfl⟩ := t.src m z
      obtain ⟨w, hw, e⟩ := r.frm l (r.sub l hl)
      exact ⟨w ++ [b], by rw [List.length_append, List.length_singleton]; omega, by rw [after_snoc, e]⟩
  all := fun w hw => by
    by_cases h : w.length ≤ i
    · exact List.mem_append_left _ (r.all w h)
    · obtain ⟨u, b, rfl⟩ := snoc_of (show 1 ≤ w.length by omega)
      rw [List.length_append, List.length_singleton] at hw
      rw [after_snoc]
      rcases r.cl _ (r.all u (by omega)) with z | z
      · obtain ⟨x, hx⟩ := List.mem_iff_getElem?.mp z
        have lt := (List.getElem?_eq_some_iff.mp hx).1
        exact t.done x b (by have := Bool.toNat_lt b; omega) _ hx
      · exact List.mem_append_left _ (z b)
  cl := fun m h => by
    rcases List.mem_append.mp h with z | z
    · rcases r.cl m z with y | y
      · obtain ⟨x, hx⟩ := List.mem_iff_getElem?.mp y
        have lt := (List.getElem?_eq_some_iff.mp hx).1
        exact .inr fun b => t.done x b (by have := Bool.toNat_lt b; omega) _ hx
      · exact .inr fun b => List.mem_append_left _ (y b)
    · exact .inl z
  nl := by
    have := t.cnt
    have := r.nl
    rw [Nat.pow_succ]
    omega
  nm := by
    have := t.cnt
    have := r.nl
    have := r.nm
    rw [List.length_append, Nat.pow_succ, Nat.pow_succ] at *
    omega
/-! ### its dict -/
abbrev kyI (l : List Int) : List L2.Key := l.map Sum.inl
theorem kyI_V (l : List Int) : (kyI l).map L2.kV = l.map V.int := by
  rw [List.map_map]
  rfl
theorem kyI_inj {a b : List Int} (h : kyI a = kyI b) : a = b := (List.map_inj_right fun x y z => Sum.inl.inj z).mp h
abbrev kvI (ms : List (List Int)) : List (List L2.Key × V) := ms.map fun m => (kyI m, V.bl true)
theorem kvI_has (ms : List (List Int)) (m : List Int) : (valV (kvI ms) (kyI m)).isSome = decide (m ∈ ms) := by
  rw [← valV_any, Bool.eq_iff_iff, List.any_eq_true, decide_eq_true_iff]
  constructor
  · rintro ⟨p, hp, e⟩
    obtain ⟨x, hx, rfl⟩ := List.mem_map.mp hp
    rw [← kyI_inj (of_decide_eq_true e)]
    exact hx
  · intro h
    exact ⟨(kyI m, V.bl true), List.mem_map.mpr ⟨m, h, rfl⟩, decide_eq_true rfl⟩
theorem kvI_keys {H : Hp} : ∀ {ms : List (List Int)} {bs : List Addr}, IsKeys H (kvI ms) bs → Each (fun b m => H b = some (.tup (m.map V.int))) bs ms
  | [], _, .nil => trivial
  | _ :: _, _, .cons h t => ⟨h.trans (by show some (HO.tup ((kyI _).map L2.kV)) = _; rw [kyI_V]), kvI_keys t⟩
theorem perm_map_of {α β : Type} {f : α → β} {ys zs : List β} (p : ys.Perm zs) : ∀ l : List α, zs = l.map f → ∃ us : List α, ys = us.map f ∧ us.Perm l := by
  induction p with
  | nil =>
    intro l e
    exact ⟨[], rfl, by rw [List.map_eq_nil_iff.mp e.symm]⟩
  | cons x _ ih =>
    intro l e
    match l, e with
    | a :: l, e =>
      obtain ⟨e1, e2⟩ := List.cons.inj e
      obtain ⟨us, h1, h2⟩ := ih l e2
      exact ⟨a :: us, by rw [List.map_cons, h1, e1], .cons a h2⟩
  | swap x y l0 =>
    intro l e
    match l, e with
    | a :: b :: l, e =>
      obtain ⟨e1, e2⟩ := List.cons.inj e
      obtain ⟨e3, e4⟩ := List.cons.inj e2
      exact ⟨b :: a :: l, by rw [List.map_cons, List.map_cons, e1, e3, e4], .swap ..⟩
  | trans _ _ ih1 ih2 =>
    intro l e
    obtain ⟨vs, h1, h2⟩ := ih2 l e
    obtain ⟨us, h3, h4⟩ := ih1 vs h1
    exact ⟨us, h3, h4.trans h2⟩
theorem each_perm {β : Type} {R : Addr → β → Prop} {rs bs : List Addr} (p : rs.Perm bs) : ∀ ms : List β, Each R bs ms → ∃ ks : List β, ks.Perm ms ∧ Each R rs ks := by
  induction p with
  | nil => exact fun ms h => ⟨ms, .refl _, h⟩
  | cons x _ ih =>
    intro ms h
    match ms, h with
    | m :: ms, ⟨h1, h2⟩ =>
      obtain ⟨ks, k1, k2⟩ := ih ms h2
      exact ⟨m :: ks, .cons m k1, h1, k2⟩
  | swap x y l =>
    intro ms h
    match ms, h with
    | m :: n :: ms, ⟨h1, h2, h3⟩ => exact ⟨n :: m :: ms, .swap .., h2, h1, h3⟩
  | trans _ _ ih1 ih2 =>
    intro ms h
    obtain ⟨ks, k1, k2⟩ := ih2 ms h
    obtain ⟨js, j1, j2⟩ := ih1 ks k2
    exact ⟨js, j1.trans k1, j2⟩
theorem each_mem {β : Type} {R : Addr → β → Prop} : ∀ {rs : List Addr} {ms : List β} {r : Addr}, Each R rs ms → r ∈ rs → ∃ m ∈ ms, R r m
  | _ :: _, _ :: _, _, ⟨h1, h2⟩, h => by
    rcases List.mem_cons.mp h with rfl | z
    · exact ⟨_, List.mem_cons_self .., h1⟩
    · obtain ⟨m, a, b⟩ := each_mem h2 z
      exact ⟨m, List.mem_cons_of_mem _ a, b⟩
end Lp
namespace Lp
open PySem PySem.Spec PyProof.Rows L2
/-! ### x in t, t a tuple of rows -/
section
variable {X : Cx}
abbrev dRow (m : List Int) : PyData := .tuple (m.map PyData.int)
def rInRows (K : PySem.W.Frag) : R2 := fun x y H Q => ∃ (m : List Int) (ms : List (List Int)), Dp K H x (dRow m) ∧ Dp K H y (.tuple (ms.map dRow)) ∧ Q (.bl (decide (m ∈ ms))) H
theorem rows_lay : ∀ ms : List (List Int), PyData.canLayAll0 (ms.map dRow) = true
  | [] => by simp only [List.map_nil, PyData.canLayAll0]
  | m :: ms => by simp only [List.map_cons, PyData.canLayAll0, PyData.canLay0, lay_ints, rows_lay ms, Bool.and_self]
theorem rows_any (m : List Int) (ms : List (List Int)) : ((ms.map dRow).any fun z => PyData.eqv z (dRow m)) = decide (m ∈ ms) := by
  rw [List.any_map, Bool.eq_iff_iff, List.any_eq_true, decide_eq_true_iff]
  constructor
  · rintro ⟨k, hk, e⟩
    have e2 : decide (k = m) = true := by rw [← eqv_rows]; exact e
    exact of_decide_eq_true e2 ▸ hk
  · intro h
    exact ⟨m, h, (eqv_rows m m).trans (decide_eq_true rfl)⟩
theorem op_inRows (hu : X.A.units + 65 < cLine) : OpR X (compareOp .In) (rInRows X.K) := fun pins s σ H x y v u Q I rx ry h => by
  obtain ⟨m, ms, dx, dy, fin⟩ := h
  have sm := shaped_row m
  obtain ⟨one, here⟩ := Dp.reads I _ x v dx rx
  obtain ⟨all, there⟩ := Dp.reads I _ y u dy ry
  refine SeqAt.in_tuple_reads there here (by simp only [PyData.canLay0, rows_lay]) (SeqAt.canLay_of_shaped sm) (room_in_shaped sm hu) ⟨.bl _, H, I, rfl, ?_⟩
  rw [rows_any]
  exact fin
end
theorem Dp_rowsAt {K : PySem.W.Frag} {H : Hp} : ∀ {rs : List Addr} {ms : List (List Int)}, Each (fun r m => H r = some (.tup (m.map V.int))) rs ms → DpAll K H (rs.map V.ref) (ms.map dRow)
  | [], [], _ => .nil
  | _ :: _, _ :: _, h => .cons (Dp_row (.inl (.inl h.1))) (Dp_rowsAt h.2)
theorem Dp_table {K : PySem.W.Frag} {H : Hp} {p : Addr} {rs : List Addr} {ms : List (List Int)} (h : H p = some (.tup (rs.map V.ref))) (e : Each (fun r m => H r = some (.tup (m.map V.int))) rs ms) : Dp K H (.ref p) (.tuple (ms.map dRow)) := .tup (.inl (.inl h)) (Dp_rowsAt e)
/-! ### a text ends with a text -/
theorem ends_wd (v u : List Bool) : Txt.endswith (wd (v ++ u)) (wd u) = true := by
  have e : (wd (v ++ u)).cps = (wd v).cps ++ (wd u).cps := by rw [← wd_app]; rfl
  have l1 : (wd (v ++ u)).length = (wd v).cps.size + (wd u).cps.size := by
    show (wd (v ++ u)).cps.size = _
    rw [e, Array.size_append]
  have l2 : (wd u).length = (wd u).cps.size := rfl
  unfold Txt.endswith Builtin.Str.subAt
  rw [l1, l2, e, Bool.and_eq_true, Nat.add_sub_cancel]
  refine ⟨decide_eq_true (by omega), ?_⟩
  simp [Array.extract_append]
/-! ### the head's fact of a def with defaults behind a star -/
theorem DfK.of {K : PySem.W.Frag} {mg : Str → Option Value} {h : Heap} {fa : List He.Fa} {fn : List He.DefD} {x : Str} {st : Stmt} {kd : List (Str × He.Dv)} (X : K.In h) (G : h.Ns mainGlobals mg) (c : He.SaysD fa fn K) (i : Nat) (hi : fn[i]? = some (mkDK x st kd)) (hj : fa[i]? = some (.glo x)) : DfK K mg x st (kd.map fun p => (p.1, He.Dv.v K p.2)) := by
  obtain ⟨fd, F⟩ := c.def_ i hi
  exact ⟨_, fd, F, He.glo_ok X G (c.fact i hj)⟩
end Lp
namespace Lp
open PySem PySem.Spec PyProof.Rows L2
/-! ### f(e, .., k = v, ..): all parameters behind the star are given -/
section
variable {X : Cx} {x : Str} {st : Stmt} {ps ks : List Str} {j k n : Nat} {sp : Sp} {e : Expr} {es : List Expr} {t tk : TA} {p pos : Pos} {kws : List (Str × V)} {ky : List Keyword}
theorem pe_udk (n : Nat) (ks : List Str) (c : ClK X.prog X.w X.K X.mg X.base k x st ps kws sp) (hr : Room j X.A) (hk : k ≤ j) (hg : Gl X x) (h0 : kws ≠ [])
    (bd : ∀ (D : Addr) (doc pm : Value) (an : Option Addr) (cdv ct : Value) (us ws : List Value), us.length = n → ws.length = ks.length → bindArgs (PySem.W.fnOf x x (defArgs st) (defBody st) (defScope st) .none (.ref D) doc pm an cdv ct) ⟨us, ks.zip ws⟩ = pure (ps.zip (us ++ ws)))
    (ha : PA X (e :: es) t) (hkw : PK X ky tk)
    (hall : (backToKw pos (keywordEach ky X.env)).all (·.1.isSome) = true := by rfl) (hks : (backToKw pos (keywordEach ky X.env)).filterMap (·.1) = ks := by rfl) (hdb : (x == ("__debug__" : Str)) = false := by decide) (he : starEach (e :: es) X.env = (false, eval e X.env) :: starEach es X.env := by rfl)
    (hpl : ((backTo pos (starEach (e :: es) X.env)).any (·.1) || (backToKw pos (keywordEach ky X.env)).any (·.1.isNone)) = false := by rfl) : PE X (.Call (.Name x p) (e :: es) ky pos) (tCallN n ks.length sp (fun vs zs => vs ++ zs) E0 t tk) := by
  obtain ⟨f, fd, F, G, hm, _⟩ := c.ex
  obtain ⟨mv, kb⟩ := F.kbinds0 (ps := ps) n ks [] (fun us _ ws => us ++ ws) h0 (fun q z => nomatch z) (fun a _ b => Vals.append a b) (fun D doc pm an cdv ct us mv ws l1 l2 l3 => by
    have e0 : mv = [] := List.length_eq_zero_iff.mp l2
    subst e0
    exact bd D doc pm an cdv ct us ws l1 l3)
  exact pe_callN G (hr.mono hk) hg hm F.kp kb pass0 ha hkw hall hks hdb he hpl
end
theorem each_pairwise {β : Type} {R : Addr → β → Prop} {S : β → β → Prop} {T : V → V → Prop} (h : ∀ r s m n, R r m → R s n → T (.ref r) (.ref s) → S m n) : ∀ {us : List Addr} {ks : List β}, Each R us ks → (us.map V.ref).Pairwise T → ks.Pairwise S
  | [], [], _, _ => .nil
  | r :: us, m :: ks, ⟨h1, h2⟩, p => by
    rw [List.map_cons, List.pairwise_cons] at p
    refine .cons (fun n hn => ?_) (each_pairwise h h2 p.2)
    obtain ⟨i, hi⟩ := List.mem_iff_getElem?.mp hn
    have lt : i < us.length := by
      rw [h2.len]
      exact (List.getElem?_eq_some_iff.mp hi).1
    obtain ⟨n2, hn2, hr⟩ := h2.get (List.getElem?_eq_getElem lt)
    have e : n2 = n := Option.some.inj (hn2.symm.trans hi)
    subst e
    exact h _ _ _ _ h1 hr (p.1 _ (List.mem_map.mpr ⟨_, List.getElem_mem lt, rfl⟩))
theorem PE.by {X : Cx} {e : Expr} {t t' : TE} (h : PE X e t) (i : ∀ σ H Q, t' σ H Q → t σ H Q) : PE X e t' := ⟨fun pins s σ H Q I q => h.run pins s σ H Q I (i σ H Q q)⟩
/-! ### how many passes may be made -/
def pV : Option Nat → V
  | none => .non
  | some p => .int (p : Nat)
def mostP (n : Nat) : Option Nat → Nat
  | none => n - 1
  | some p => min p (n - 1)
theorem mostP_le (n : Nat) (o : Option Nat) : mostP n o ≤ n - 1 := by
  cases o with
  | none => exact Nat.le_refl _
  | some p => exact Nat.min_le_right ..
end Lp
namespace Lp
open PySem PySem.Spec PyProof.Rows L2
/-! ### a search by rounds finds shortest words: mathematics -/
theorem nodup_le {α : Type} [DecidableEq α] : ∀ (l m : List α), l.Nodup → (∀ x ∈ l, x ∈ m) → l.length ≤ m.length
  | [], _, _, _ => Nat.zero_le _
  | a :: l, m, nd, sub => by
    rw [List.nodup_cons] at nd
    have am := sub a (List.mem_cons_self ..)
    have ih := nodup_le l (m.erase a) nd.2 fun x hx => (List.mem_erase_of_ne (fun (e : x = a) => nd.1 (e ▸ hx))).mpr (sub x (List.mem_cons_of_mem _ hx))
    have := List.length_erase_of_mem am
    have := List.length_pos_of_mem am
    rw [List.length_cons]
    omega
structure Bfs (ns : List Int) (ws : List (List Bool)) (k : Nat) : Prop where
  fst : ws[0]? = some []
  nod : (ws.map fun w => afterL w ns).Nodup
  done : ∀ (x : Nat) (b : Bool), 2 * x + b.toNat < k → ∀ w, ws[x]? = some w → passL b (afterL w ns) ∈ ws.map fun w => afterL w ns
  asc : ws.Pairwise fun u v => u.length ≤ v.length
  near : ∀ (x : Nat) (w : List Bool), k ≤ 2 * x + 1 → ws[x]? = some w → ∀ v ∈ ws, v.length ≤ w.length + 1
  least : ∀ w ∈ ws, ∀ u, afterL u ns = afterL w ns → w.length ≤ u.length
theorem bfs_zero {ns : List Int} : Bfs ns [[]] 0 where
  fst := rfl
  nod := by simp
  done := fun x b h => absurd h (Nat.not_lt_zero _)
  asc := List.pairwise_singleton ..
  near := fun x w _ hx v hv => by
    rw [List.mem_singleton.mp hv]
    exact Nat.zero_le _
  least := fun w hw u _ => by
    rw [List.mem_singleton.mp hw]
    exact Nat.zero_le _
theorem pair_get {α : Type} {R : α → α → Prop} {l : List α} (p : l.Pairwise R) {i j : Nat} {x y : α} (h : i < j) (hx : l[i]? = some x) (hy : l[j]? = some y) : R x y := by
  obtain ⟨hi, rfl⟩ := List.getElem?_eq_some_iff.mp hx
  obtain ⟨hj, rfl⟩ := List.getElem?_eq_some_iff.mp hy
  exact List.pairwise_iff_getElem.mp p i j hi hj h
/-- what fewer passes reach is known -/
theorem Bfs.known {ns : List Int} {ws : List (List Bool)} {at_ : Nat} {b : Bool} (r : Bfs ns ws (2 * at_ + b.toNat)) {w : List Bool} (hw : ws[at_]? = some w) : ∀ (k : Nat) (u : List Bool), u.length = k → k ≤ w.length → afterL u ns ∈ ws.map fun w => afterL w ns
  | 0, u, h, _ => by
    rw [List.length_eq_zero_iff.mp h]
    exact List.mem_map.mpr ⟨[], List.mem_of_getElem? r.fst, rfl⟩
  | k + 1, u, h, le => by
    obtain ⟨v, c, rfl⟩ := snoc_of (show 1 ≤ u.length by omega)
    rw [List.length_append, List.length_singleton] at h
    obtain ⟨z, hz, ez⟩ := List.mem_map.mp (r.known hw k v (by omega) (by omega))
    have lz := r.least z hz v ez.symm
    obtain ⟨x, hx⟩ := List.mem_iff_getElem?.mp hz
    have lt : x < at_ := by
      refine Nat.lt_of_not_le fun g => ?_
      rcases Nat.lt_or_eq_of_le g with g | g
      · have := pair_get r.asc g hw hx
        omega
      · subst g
        have e : w = z := Option.some.inj (hw.symm.trans hx)
        subst e
        omega
    rw [after_snoc, ← ez]
    exact r.done x c (by have := Bool.toNat_lt c; omega) z hx
theorem Bfs.old {ns : List Int} {ws : List (List Bool)} {at_ : Nat} {b : Bool} (r : Bfs ns ws (2 * at_ + b.toNat)) {w : List Bool} (hw : ws[at_]? = some w) (h : passL b (afterL w ns) ∈ ws.map fun w => afterL w ns) : Bfs ns ws (2 * at_ + b.toNat + 1) where
  fst := r.fst
  nod := r.nod
  done := fun x a hx v hv => by
    rcases two_split hx with z | ⟨rfl, rfl⟩
    · exact r.done x a z v hv
    · rw [hw] at hv
      cases hv
      exact h
  asc := r.asc
  near := fun x v hx hv u hu => by
    exact r.near x v (by omega) hv u hu
  least := r.least
theorem Bfs.new {ns : List Int} {ws : List (List Bool)} {at_ : Nat} {b : Bool} (r : Bfs ns ws (2 * at_ + b.toNat)) {w : List Bool} (hw : ws[at_]? = some w) (h : passL b (afterL w ns) ∉ ws.map fun w => afterL w ns) : Bfs ns (ws ++ [w ++ [b]]) (2 * at_ + b.toNat + 1) := by
  have le : ∀ v ∈ ws, v.length ≤ w.length + 1 := r.near at_ w (by have := Bool.toNat_lt b; omega) hw
  have al : at_ < ws.length := (List.getElem?_eq_some_iff.mp hw).1
  have nl : (w ++ [b]).length = w.length + 1 := by rw [List.length_append, List.length_singleton]
  have bl := Bool.toNat_lt b
  have get : ∀ {x : Nat} {v : List Bool}, (ws ++ [w ++ [b]])[x]? = some v → ws[x]? = some v ∨ (x = ws.length ∧ v = w ++ [b]) := fun {x v} hx => by
    by_cases g : x < ws.length
    · rw [List.getElem?_append_left g] at hx
      exact .inl hx
    · have lx := (List.getElem?_eq_some_iff.mp hx).1
      rw [List.length_append, List.length_singleton] at lx
      have ex : x = ws.length := by omega
      subst ex
      rw [List.getElem?_append_right (Nat.le_refl _), Nat.sub_self] at hx
      exact .inr ⟨rfl, (Option.some.inj hx).symm⟩
  refine ⟨?_, ?_, ?_, ?_, ?_, ?_⟩
  · rw [List.getElem?_append_left (by omega)]
    exact r.fst
  · rw [List.map_append]
    refine List.nodup_append.mpr ⟨r.nod, by simp, fun x hx y hy z => h ?_⟩
    rw [← after_snoc, ← List.mem_singleton.mp (show y ∈ [afterL (w ++ [b]) ns] from hy), ← z]
    exact hx
  · intro x a hx v hv
    rw [List.map_append]
    rcases get hv with g | ⟨e1, e2⟩
    · rcases two_split hx with z | ⟨rfl, rfl⟩
      · exact List.mem_append_left _ (r.done x a z v g)
      · rw [hw] at g
        cases g
        refine List.mem_append_right _ ?_
        rw [← after_snoc]
        exact List.mem_singleton.mpr rfl
    · omega
  · refine List.pairwise_append.mpr ⟨r.asc, List.pairwise_singleton .., fun u hu v hv => ?_⟩
    rw [List.mem_singleton.mp hv, nl]
    exact le u hu
  · intro x v hx hv u hu
    have lu : u.length ≤ w.length + 1 := by
      rcases List.mem_append.mp hu with g | g
      · exact le u g
      · rw [List.mem_singleton.mp g, nl]
        exact Nat.le_refl _
    rcases get hv with g | ⟨e1, e2⟩
    · rcases Nat.lt_or_eq_of_le (show at_ ≤ x by omega) with y | y
      · have e2 := pair_get r.asc y hw g
        omega
      · subst y
        have e : w = v := Option.some.inj (hw.symm.trans g)
        subst e
        exact lu
    · rw [e2, nl]
      omega
  · intro v hv u hu
    rcases List.mem_append.mp hv with g | g
    · exact r.least v g u hu
    · rw [List.mem_singleton.mp g] at hu ⊢
      refine Nat.le_of_not_lt fun lt => h ?_
      rw [nl] at lt
      rw [← after_snoc, ← hu]
      exact r.known hw u.length u rfl (by omega)
/-! ### its dict -/
abbrev kvW (ns : List Int) (ws : List (List Bool)) : List (List L2.Key × V) := ws.map fun w => (kyI (afterL w ns), V.str (wd w))
theorem kvW_has (ns : List Int) (ws : List (List Bool)) (m : List Int) : (valV (kvW ns ws) (kyI m)).isSome = decide (m ∈ ws.map fun w => afterL w ns) := by
  rw [← valV_any, Bool.eq_iff_iff, List.any_eq_true, decide_eq_true_iff]
  constructor
  · rintro ⟨p, hp, e⟩
    obtain ⟨x, hx, rfl⟩ := List.mem_map.mp hp
    exact List.mem_map.mpr ⟨x, hx, kyI_inj (of_decide_eq_true e)⟩
  · intro h
    obtain ⟨x, hx, e⟩ := List.mem_map.mp h
    exact ⟨(kyI (afterL x ns), V.str (wd x)), List.mem_map.mpr ⟨x, hx, rfl⟩, decide_eq_true (by rw [e])⟩
theorem kvW_get {ns : List Int} : ∀ {ws : List (List Bool)} {w : List Bool}, (ws.map fun w => afterL w ns).Nodup → w ∈ ws → valV (kvW ns ws) (kyI (afterL w ns)) = some (.str (wd w))
  | u :: ws, w, nd, h => by
    rw [List.map_cons, List.nodup_cons] at nd
    by_cases e : afterL u ns = afterL w ns
    · rcases List.mem_cons.mp h with rfl | z
      · exact valV_pos rfl
      · exact absurd (List.mem_map.mpr ⟨w, z, e.symm⟩) nd.1
    · rcases List.mem_cons.mp h with rfl | z
      · exact absurd rfl e
      · have ne : ¬ kyI (afterL u ns) = kyI (afterL w ns) := fun y => e (kyI_inj y)
        have ih := kvW_get nd.2 z
        unfold valV at ih ⊢
        rw [kvW, List.map_cons, List.find?_cons_of_neg (by simpa using fun y => e (kyI_inj y))]
        exact ih
/-! ### at its end the search knows every row that can be reached -/
theorem Bfs.all {ns : List Int} {ws : List (List Bool)} (r : Bfs ns ws (2 * ws.length)) : ∀ (k : Nat) (u : List Bool), u.length = k → afterL u ns ∈ ws.map fun w => afterL w ns
  | 0, u, h => by
    rw [List.length_eq_zero_iff.mp h]
    exact List.mem_map.mpr ⟨[], List.mem_of_getElem? r.fst, rfl⟩
  | k + 1, u, h => by
    obtain ⟨v, c, rfl⟩ := snoc_of (show 1 ≤ u.length by omega)
    rw [List.length_append, List.length_singleton] at h
    obtain ⟨z, hz, ez⟩ := List.mem_map.mp (r.all k v (by omega))
    obtain ⟨x, hx⟩ := List.mem_iff_getElem?.mp hz
    have lt := (List.getElem?_eq_some_iff.mp hx).1
    rw [after_snoc, ← ez]
    exact r.done x c (by have := Bool.toNat_lt c; omega) z hx
theorem Bfs.mem {ns : List Int} {ws : List (List Bool)} (r : Bfs ns ws (2 * ws.length)) {m : List Int} : m ∈ (ws.map fun w => afterL w ns) ↔ ∃ u : List Bool, afterL u ns = m :=
  ⟨fun h => let ⟨w, _, e⟩ := List.mem_map.mp h; ⟨w, e⟩, fun ⟨u, e⟩ => e ▸ r.all u.length u rfl⟩
end Lp
namespace Lp
open PySem PySem.Spec PyProof.Rows L2
/-! ### sorted rows, any number of them -/
def sortR (ms : List (List Int)) : List (List Int) := ms.mergeSort fun a b => decide (a ≤ b)
abbrev dRw (m : List Int) : PyData := .tuple (m.map PyData.int)
theorem dataLe_tups : PySem.W.dataLe false dRw = fun p q => decide (p ≤ q) := by
  funext p q
  show (!PySem.W.dataLt (.tuple (q.map .int)) (.tuple (p.map .int))) = _
  rw [PySem.W.dataLt_tuple]
  show (!PySem.W.rowLt (q.map .int) (p.map .int)) = _
  rw [PySem.W.dataLt_ints]
  by_cases h : q < p
  · rw [decide_eq_true h, decide_eq_false fun r => List.not_lt.mpr r h]
    rfl
  · rw [decide_eq_false h, decide_eq_true (List.not_lt.mp h)]
    rfl
/-- these tuples stand at these addresses -/
abbrev RwAt (K : PySem.W.Frag) (H : Hp) : List Addr → List (List Int) → Prop := Each fun r m => SqT K H r (m.map V.int)
theorem RwAt.same {K : PySem.W.Frag} {H G : Hp} {rs : List Addr} {ms : List (List Int)} (h : RwAt K H rs ms) (s : Same H G) : RwAt K G rs ms := h.imp fun _ _ _ e => SqT.same s e
def rSortRows (K : PySem.W.Frag) : List V → Hp → VK → Prop := fun vs H Q => ∃ (a : Addr) (rs : List Addr) (ms : List (List Int)), vs = [.ref a] ∧ SqL K H a (rs.map V.ref) ∧ RwAt K H rs ms ∧ (∀ m ∈ ms, m ≠ []) ∧
  ∀ (qs : List Addr) (p : Addr), RwAt K H qs (sortR ms) → H p = none → Q (.ref p) (upd H p (.lst (qs.map V.ref)))
section
variable {X : Cx} {pins : List (Addr × Obj)} {σ : L2.St} {H : Hp} {s : Shared}
theorem rows_each {rs : List Addr} {ms : List (List Int)} {us : List Value} (h : RwAt X.K H rs ms) (v : Vals (rs.map V.ref) us) : PySem.W.EachIs (fun v m => ∃ r, v = Value.ref r ∧ SqT X.K H r (m.map V.int)) us ms := by
  induction rs generalizing ms us with
  | nil =>
    cases ms with
    | nil =>
      cases v
      exact .nil
    | cons m ms => exact h.elim
  | cons r rs ih =>
    cases ms with
    | nil => exact h.elim
    | cons m ms =>
      cases v with
      | cons a b =>
        cases a
        exact .cons ⟨r, rfl, h.1⟩ (ih h.2 b)
theorem each_rows {ms : List (List Int)} {us : List Value} (h : PySem.W.EachIs (fun v m => ∃ r, v = Value.ref r ∧ SqT X.K H r (m.map V.int)) us ms) : ∃ qs : List Addr, us = qs.map Value.ref ∧ RwAt X.K H qs ms := by
  induction h with
  | nil => exact ⟨[], rfl, trivial⟩
  | cons a _ ih =>
    obtain ⟨r, e, h1⟩ := a
    obtain ⟨qs, e2, h2⟩ := ih
    exact ⟨r :: qs, by rw [e, e2]; rfl, h1, h2⟩
theorem vals_refs : ∀ qs : List Addr, Vals (qs.map V.ref) (qs.map Value.ref)
  | [] => .nil
  | q :: qs => .cons (show RelV (.ref q) (.ref q) from rfl) (vals_refs qs)
theorem row_reads (I : Inv X pins σ H s) {r : Addr} {m : List Int} (h : SqT X.K H r (m.map V.int)) : ∃ as, Reads s.heap (.ref r) (dRw m) as := Dp.reads I _ _ _ (Dp_row h) (show RelV (.ref r) (.ref r) from rfl)
theorem cr_sortRows (hu : X.A.units + 64 < cLine) : CallR X (.builtin "sorted") (rSortRows X.K) := by
  intro pins s σ H vs us Q I r h
  obtain ⟨a, rs, ms, rfl, hs, hE, ne, q⟩ := h
  obtain ⟨its, rv, hl, hz⟩ := I.list hs
  rw [Vals.ref1 r]
  have ml := hE.len
  rw [List.length_map] at hz
  have e1 := rows_each hE rv
  have e3 : PySem.W.EachIs (fun v m => ∃ as, Reads s.heap v (dRw m) as) its ms := e1.mono fun v m z => by
    obtain ⟨r, e, h⟩ := z
    rw [e]
    exact row_reads I h
  have al : PySem.W.AllAlike (ms.map dRw) := PySem.W.AllAlike.of fun a b => by
    show PySem.W.alike (.tuple (a.map PyData.int)) (.tuple (b.map PyData.int)) = true
    simp only [PySem.W.alike]
    exact PySem.W.alike_ints a b
  have so : PySem.W.Sortable (ms.map dRw) := .inl fun d hd => by
    obtain ⟨m, hm, e⟩ := List.mem_map.mp hd
    cases m with
    | nil => exact absurd rfl (ne _ hm)
    | cons x m => exact ⟨_, _, e.symm⟩
  have un : ∀ m, m ∈ ms → X.A.units + 2 + (dRw m).depth < cLine := fun m _ => by
    have := depth_ints m
    simp only [PyData.depth]
    omega
  refine PySem.W.sorted_data (enc := dRw) hl.isList e1 e3 al so (by omega) un fun out ol e2 => ?_
  rw [dataLe_tups] at e2
  obtain ⟨qs, rfl, h2⟩ := each_rows e2
  rw [List.length_map] at ol
  obtain ⟨ep, he'⟩ := PyProof.Rows.sortedAll_at s.heap its (qs.map Value.ref).toArray
  refine ⟨.ref _, upd H (s.heap.objs.size + 1) (.lst (qs.map V.ref)), I.laid (t' := s.toks) (fun _ _ => PyProof.Rows.sortedAll_old) (Nat.le_succ _) ⟨?_, qs.map Value.ref, ep, vals_refs qs, he'⟩, rfl, q qs _ h2 (I.hok.fresh (Nat.le_succ _))⟩
  rw [List.length_map]
  omega
end
/-! ### the same rows, sorted, are the same list -/
theorem sortR_perm (ms : List (List Int)) : (sortR ms).Perm ms := List.mergeSort_perm _ _
theorem sortR_eq {a b : List (List Int)} (h : a.Perm b) : sortR a = sortR b := by
  have tr : ∀ x y z : List Int, decide (x ≤ y) = true → decide (y ≤ z) = true → decide (x ≤ z) = true := fun x y z h1 h2 => decide_eq_true (List.le_trans (of_decide_eq_true h1) (of_decide_eq_true h2))
  have to : ∀ x y : List Int, (decide (x ≤ y) || decide (y ≤ x)) = true := fun x y => by
    rcases List.le_total x y with z | z
    · rw [decide_eq_true z]
      rfl
    · rw [decide_eq_true z, Bool.or_true]
  have s1 : (sortR a).Pairwise (fun x y => decide (x ≤ y) = true) := List.pairwise_mergeSort tr to a
  have s2 : (sortR b).Pairwise (fun x y => decide (x ≤ y) = true) := List.pairwise_mergeSort tr to b
  have p : (sortR a).Perm (sortR b) := (sortR_perm a).trans (h.trans (sortR_perm b).symm)
  exact p.eq_of_pairwise (fun x y _ _ h1 h2 => List.le_antisymm (of_decide_eq_true h1) (of_decide_eq_true h2)) s1 s2
theorem perm_nodup {a b : List (List Int)} (ha : a.Nodup) (hb : b.Nodup) (h : ∀ x, x ∈ a ↔ x ∈ b) : a.Perm b := (List.perm_ext_iff_of_nodup ha hb).mpr h
end Lp
namespace Lp
open PySem PySem.Spec PyProof.Rows L2
/-! ### f(k = v, ..) alone, some parameters behind the star left out -/
section
variable {X : Cx} {x : Str} {st : Stmt} {ps : List Str} {j k : Nat} {sp : Sp} {tk : TA} {p pos : Pos} {kws : List (Str × V)} {ky : List Keyword}
theorem pe_udw (ks : List Str) (ms : List (Str × V)) (g : {α : Type} → List α → List α → List α) (c : ClK X.prog X.w X.K X.mg X.base k x st ps kws sp) (hr : Room j X.A) (hk : k ≤ j) (hg : Gl X x) (h0 : kws ≠ []) (hms : ∀ q ∈ ms, q ∈ kws)
    (hrel : ∀ {mz zs : List V} {mv ws : List Value}, Vals mz mv → Vals zs ws → Vals (g mz zs) (g mv ws))
    (bd : ∀ (D : Addr) (doc pm : Value) (an : Option Addr) (cdv ct : Value) (mv ws : List Value), mv.length = ms.length → ws.length = ks.length → KwChain D ((ms.map (·.1)).zip mv) (bindArgs (PySem.W.fnOf x x (defArgs st) (defBody st) (defScope st) .none (.ref D) doc pm an cdv ct) ⟨[], ks.zip ws⟩) (ps.zip (g mv ws)))
    (hkw : PK X ky tk)
    (hall : (backToKw pos (keywordEach ky X.env)).all (·.1.isSome) = true := by rfl) (hks : (backToKw pos (keywordEach ky X.env)).filterMap (·.1) = ks := by rfl)
    (hdb : (x == ("__debug__" : Str)) = false := by decide) (hpl : ((backTo pos (starEach [] X.env)).any (·.1) || (backToKw pos (keywordEach ky X.env)).any (·.1.isNone)) = false := by rfl) :
    PE X (.Call (.Name x p) [] ky pos) (tKw ks.length sp (fun zs => g (ms.map (·.2)) zs) tk) := by
  obtain ⟨f, fd, F, G, hm, _⟩ := c.ex
  obtain ⟨mv, kb⟩ := F.kbinds0 (ps := ps) 0 ks ms (fun _ mv ws => g mv ws) h0 hms (fun _ a b => hrel a b) (fun D doc pm an cdv ct us mv ws l1 l2 l3 => by
    have e0 : us = [] := List.length_eq_zero_iff.mp l1
    subst e0
    exact bd D doc pm an cdv ct mv ws l2 l3)
  refine ⟨fun pins s σ H Q I h => ?_⟩
  refine wpAny_Call_Name_kw (ld_glob I hg hm ?_ hdb)
  refine PySem.W.callWith_KW0 (h₀ := X.base) I.ok.mod.kin F.kp hall (thn (hkw.run pos pins s σ H _ I h) fun ws s2 ⟨zs, H2, I2, rz, l2, q2⟩ => ⟨I2.kIn, ?_⟩) hpl
  rw [hks]
  exact run_fnN G (hr.mono hk) kb pass0 I2 .nil rz rfl l2 q2
end
/-! ### sorted(d), the keys of d tuples of ints -/
section
variable {X : Cx} {pins : List (Addr × Obj)} {σ : L2.St} {H : Hp} {s : Shared}
theorem row_readsN (I : Inv X pins σ H s) {r : Addr} {m : List Int} (h : SqT X.K H r (m.map V.int)) : Reads s.heap (.ref r) (dRw m) [] := by
  obtain ⟨its, rv, ht, _⟩ := I.tuple h
  obtain ⟨o, ho, hc, n, hd⟩ := ht
  have rr : ReadsAll s.heap its.toArray.toList (m.map PyData.int) [] := ints_read (by simpa using rv)
  exact .tuple ho hc hd rr
def rSortDT (K : PySem.W.Frag) : List V → Hp → VK → Prop := fun xs H Q => ∃ (d : Addr) (kvs : List (List L2.Key × V)) (ms : List (List Int)), xs = [.ref d] ∧ H d = some (.dT kvs) ∧ kvs.map (·.1) = ms.map kyI ∧ (∀ m ∈ ms, m ≠ []) ∧
  ∀ (qs : List Addr) (p : Addr), RwAt K H qs (sortR ms) → H p = none → Q (.ref p) (upd H p (.lst (qs.map V.ref)))
theorem keys_rows {K : PySem.W.Frag} {H : Hp} : ∀ {kvs : List (List L2.Key × V)} {bs : List Addr} {ms : List (List Int)}, IsKeys H kvs bs → kvs.map (·.1) = ms.map kyI → RwAt K H bs ms := fun {kvs bs ms} h => by
  induction h generalizing ms with
  | nil =>
    intro e
    rw [List.map_eq_nil_iff.mp e.symm]
    exact trivial
  | cons a _ ih =>
    intro e
    cases ms with
    | nil => cases e
    | cons m ms =>
      obtain ⟨e1, e2⟩ := List.cons.inj e
      refine ⟨.inl (.inl ?_), ih e2⟩
      rw [← kyI_V, ← (show _ = kyI m from e1)]
      exact a
theorem call_sortDT (hc : X.calm = true) (hu : X.A.units + 64 < cLine) : CallR X (.builtin "sorted") (rSortDT X.K) := by
  intro pins s σ H xs us Q I r h
  obtain ⟨d, kvs, ms, rfl, hd, hk, ne, q⟩ := h
  obtain ⟨u, rfl, rx⟩ := r.one
  cases rx
  obtain ⟨z, hs, ks, pr, o, es, ep, ho, hx, hdt, he, hn⟩ := (show ObjOk X.prog X.w H s.heap d (.dT kvs) from I.hok d _ hd)
  have sizes : es.size = ks.length ∧ kvs.length = ks.length := ⟨size_of_entries he, Paired.length pr⟩
  obtain ⟨l1, l2⟩ := sizes
  have keys := keys_rows (K := X.K) (isKeys_of pr) hk
  have kl := keys.len
  rw [List.length_map] at kl
  refine Calls.call_function_entry PyProof.Rows.kind_sorted PyProof.Rows.plain_sorted PyProof.Rows.entry_sorted (PyProof.Rows.args_sorted1 _) ?_
  unfold Builtin.«sorted»
  refine wpAny_bind (m := checkCount "sorted" 1 1 _) (wpAny_pure (wpAny_bind (PySem.W.kdu_collect (A := X.A.in1) (kdl_raw hs hx hdt) (I.ok.hd hc) ho (by omega) fun h' tk acc hkp it => ?_)))
  have many : acc.size = ks.length := it.1.trans l1
  have ea : acc.toList = (ks.map fun x => x.2.1).map Value.ref := List.ext_getElem (by simp [many]) fun j p1 p2 => by
    have jk : j < ks.length := by simpa using p2
    have ja : j < acc.size := by omega
    obtain ⟨en, a1, a2⟩ := it.2 j acc[j] (Array.getElem?_eq_getElem ja)
    have a3 := (entry_at he j).symm.trans a1
    rw [List.getElem?_eq_getElem jk] at a3
    rw [Array.getElem_toList, a2, ← Option.some.inj a3, List.getElem_map, List.getElem_map]
    rfl
  have I1 : Inv X pins σ H { s with heap := h', toks := tk } := I.kept hkp
  have al2 : acc.toList.length ≤ sizeLine := by rw [ea, List.length_map, List.length_map]; omega
  refine wpAny_bind (wpAny_newList ?_ al2)
  have hoL := Heap.get?_push_size h' (o := seqObj "list" acc.toList.toArray 0) rfl
  have e1 : PySem.W.EachIs (fun v m => ∃ r, v = Value.ref r ∧ SqT X.K H r (m.map V.int)) acc.toList ms := by
    rw [ea]
    exact rows_each keys (vals_refs _)
  have e3 : PySem.W.EachIs (fun v m => ∃ as, Reads (h'.push (seqObj "list" acc.toList.toArray 0)) v (dRw m) as ∧ h'.objs.size ∉ as) acc.toList ms := e1.mono fun v m zz => by
    obtain ⟨r, e, hr⟩ := zz
    rw [e]
    exact ⟨[], PyProof.Rows.Reads.keeps (fun _ _ q => Heap.get?_push_of_some _ q) (row_readsN I1 hr), by simp⟩
  have al : PySem.W.AllAlike (ms.map dRw) := PySem.W.AllAlike.of fun a b => by
    show PySem.W.alike (.tuple (a.map PyData.int)) (.tuple (b.map PyData.int)) = true
    simp only [PySem.W.alike]
    exact PySem.W.alike_ints a b
  have so : PySem.W.Sortable (ms.map dRw) := .inl fun d hd => by
    obtain ⟨m, hm, e⟩ := List.mem_map.mp hd
    cases m with
    | nil => exact absurd rfl (ne _ hm)
    | cons x m => exact ⟨_, _, e.symm⟩
  have un : ∀ m, m ∈ ms → X.A.in1.units + 1 + (dRw m).depth < cLine := fun m _ => by
    have := depth_ints m
    have iu : X.A.in1.units ≤ X.A.units + 1 := by
      first | exact Nat.le_refl _ | (show _ ≤ _; simp [Around.in1]; omega)
    simp only [PyData.depth]
    omega
  refine wpAny_bind (wpAny_holding (PySem.W.list_sort_data (enc := dRw) (s := { s with heap := h'.push (seqObj "list" acc.toList.toArray 0), toks := tk }) hoL e1 e3 al so (by omega) un fun out ol e2 => ?_))
  rw [dataLe_tups] at e2
  obtain ⟨qs, rfl, h2⟩ := each_rows e2
  rw [List.length_map] at ol
  obtain ⟨ep2, he'⟩ := PyProof.Rows.sortedHeap_at (vs := acc.toList) (out := (qs.map Value.ref).toArray) hoL
  refine wpAny_pure ⟨_, rfl, .ref h'.objs.size, upd H h'.objs.size (.lst (qs.map V.ref)), I1.laid (t' := tk) (fun b u e => ?_) (Nat.le_refl _) ⟨by rw [List.length_map]; omega, qs.map Value.ref, ep2, vals_refs qs, he'⟩, rfl, q qs _ h2 (I1.hok.fresh (Nat.le_refl _))⟩
  have older := Heap.lt_size e
  rw [PyProof.Rows.sortedHeap_old (Nat.ne_of_lt older) (by rw [size_push']; exact Nat.lt_succ_of_lt older)]
  exact Heap.get?_push_of_some _ e
end
end Lp
namespace Lp
open PySem PySem.Spec PyProof.Rows L2
/-! ### dicts whose keys are tuples, of numbers or of such tuples; each key's own tuple is named, so that more may be known of it -/
mutual
inductive KyV (H : Hp) : NestedKey → V → Prop
  | num (i : Int) : KyV H (.num i) (.int i)
  | tup {a : Addr} {xs : List V} {ks : List NestedKey} : Rd H a (.tup xs) → KyAll H ks xs → KyV H (.tup ks) (.ref a)
inductive KyAll (H : Hp) : List NestedKey → List V → Prop
  | nil : KyAll H [] []
  | cons {k : NestedKey} {v : V} {ks : List NestedKey} {vs : List V} : KyV H k v → KyAll H ks vs → KyAll H (k :: ks) (v :: vs)
end
section
variable {P : Program} {w : World} {H H' : Hp} {h : Heap}
mutual
theorem KyV.nested (ok : HOk P w H h) : ∀ (k : NestedKey) (v : V) (u : Value), KyV H k v → RelV v u → NestedIs h k u
  | .none, _, _, x, _ => by cases x
  | .text _, _, _, x, _ => by cases x
  | .num i, _, _, x, r => by
    cases x
    obtain ⟨t, rfl⟩ := r
    exact .int i t
  | .tup ks, _, u, x, r => by
    cases x with
    | @tup a xs _ hr ha =>
      obtain rfl : u = Value.ref a := r
      obtain ⟨_, its, rv, o, h1, h2, n, h3⟩ := (show ObjOk P w H h a (.tup xs) from hr.ok ok)
      exact .tup h1 h2 h3 (by simpa using KyAll.nested ok ks _ _ ha rv)
theorem KyAll.nested (ok : HOk P w H h) : ∀ (ks : List NestedKey) (vs : List V) (us : List Value), KyAll H ks vs → Vals vs us → NestedAll h ks us
  | [], _, _, x, r => by cases x; cases r; exact .nil
  | k :: ks, _, _, x, r => by
    cases x with
    | cons x1 x2 =>
      cases r with
      | cons r1 r2 => exact .cons (KyV.nested ok k _ _ x1 r1) (KyAll.nested ok ks _ _ x2 r2)
end
mutual
theorem KyV.mono (f : ∀ a xs, Rd H a (.tup xs) → Rd H' a (.tup xs)) : ∀ (k : NestedKey) (v : V), KyV H k v → KyV H' k v
  | .none, _, x => by cases x
  | .text _, _, x => by cases x
  | .num i, _, x => by cases x; exact .num i
  | .tup ks, _, x => by
    cases x with
    | tup hr ha => exact .tup (f _ _ hr) (KyAll.mono f ks _ ha)
theorem KyAll.mono (f : ∀ a xs, Rd H a (.tup xs) → Rd H' a (.tup xs)) : ∀ (ks : List NestedKey) (vs : List V), KyAll H ks vs → KyAll H' ks vs
  | [], _, x => by cases x; exact .nil
  | k :: ks, _, x => by
    cases x with
    | cons x1 x2 => exact .cons (KyV.mono f k _ x1) (KyAll.mono f ks _ x2)
end
end
abbrev NEnt := NestedKey × Addr × V
abbrev NRel : List NEnt → List (NestedKey × Addr × Value) → Prop := Paired fun p q => p.1 = q.1 ∧ p.2.1 = q.2.1 ∧ RelV p.2.2 q.2.2
def valN (L : List NEnt) (k : NestedKey) : Option V := (L.find? fun x => decide (x.1 = k)).map fun x => x.2.2
def newN (k : NestedKey) (v : V) (x : NEnt) : NEnt := if x.1 = k then (x.1, x.2.1, v) else x
def putN (L : List NEnt) (k : NestedKey) (q : Addr) (v : V) : List NEnt := if (valN L k).isSome then L.map (newN k v) else L ++ [(k, q, v)]
theorem valN_pos {x : NEnt} {L : List NEnt} {k : NestedKey} (e : x.1 = k) : valN (x :: L) k = some x.2.2 := by
  unfold valN
  rw [List.find?_cons_of_pos (by exact decide_eq_true e)]
  rfl
theorem valN_neg {x : NEnt} {L : List NEnt} {k : NestedKey} (e : ¬ x.1 = k) : valN (x :: L) k = valN L k := by
  unfold valN
  rw [List.find?_cons_of_neg (by rw [decide_eq_false e]; exact Bool.false_ne_true)]
theorem putN_len (L : List NEnt) (k : NestedKey) (q : Addr) (v : V) : (putN L k q v).length ≤ L.length + 1 := by
  unfold putN
  split
  · rw [List.length_map]
    exact Nat.le_succ _
  · rw [List.length_append]
    exact Nat.le_refl _
theorem NRel.val {L : List NEnt} {xs : List (NestedKey × Addr × Value)} (r : NRel L xs) (k : NestedKey) : RelO (valN L k) ((atKey xs k).map (·.2)) := by
  induction r with
  | nil => exact True.intro
  | @cons p q ps qs hpq t ih =>
    obtain ⟨e1, _, e3⟩ := hpq
    by_cases e : p.1 = k
    · have f : atKey (q :: qs) k = some q.2 := by
        unfold atKey
        rw [List.find?_cons_of_pos (by exact decide_eq_true (e1.symm.trans e))]
        rfl
      rw [valN_pos e, f]
      exact e3
    · have f : atKey (q :: qs) k = atKey qs k := by
        unfold atKey
        rw [List.find?_cons_of_neg (by rw [decide_eq_false fun z => e (e1.trans z)]; exact Bool.false_ne_true)]
      rw [valN_neg e, f]
      exact ih
theorem NRel.renew {L : List NEnt} {xs : List (NestedKey × Addr × Value)} (r : NRel L xs) (k : NestedKey) {y : V} {u : Value} (ry : RelV y u) : NRel (L.map (newN k y)) (xs.map (putAt k u)) := by
  induction r with
  | nil => exact .nil
  | @cons p q ps qs hpq t ih =>
    obtain ⟨e1, e2, e3⟩ := hpq
    refine .cons ?_ ih
    by_cases e : p.1 = k
    · rw [newN, putAt, if_pos e, if_pos (e1.symm.trans e)]
      exact ⟨e1, e2, ry⟩
    · rw [newN, putAt, if_neg e, if_neg fun z => e (e1.trans z)]
      exact ⟨e1, e2, e3⟩
theorem NRel.put {L : List NEnt} {xs : List (NestedKey × Addr × Value)} (r : NRel L xs) (k : NestedKey) (b : Addr) {y : V} {u : Value} (ry : RelV y u) : NRel (putN L k b y) (storedH xs k b u) := by
  have e : (valN L k).isSome = (atKey xs k).isSome := by
    rw [(r.val k).isSome_eq, Option.isSome_map]
  unfold putN storedH
  rw [e]
  by_cases q : (atKey xs k).isSome = true
  · rw [if_pos q, if_pos q]
    exact r.renew k ry
  · rw [if_neg q, if_neg q]
    exact Paired.snoc r ⟨rfl, rfl, ry⟩
theorem NRel.back {L : List NEnt} {xs : List (NestedKey × Addr × Value)} (r : NRel L xs) {x : NestedKey × Addr × Value} (hx : x ∈ xs) : ∃ p ∈ L, p.1 = x.1 ∧ p.2.1 = x.2.1 := by
  induction r with
  | nil => cases hx
  | @cons p q ps qs hpq t ih =>
    rcases List.mem_cons.mp hx with e | hx
    · rw [e]
      exact ⟨p, List.mem_cons_self, hpq.1, hpq.2.1⟩
    · obtain ⟨p', h1, h2⟩ := ih hx
      exact ⟨p', List.mem_cons_of_mem _ h1, h2⟩
theorem NRel.ahead {L : List NEnt} {xs : List (NestedKey × Addr × Value)} (r : NRel L xs) {i : Nat} {p : NEnt} (hp : L[i]? = some p) : ∃ x, xs[i]? = some x ∧ p.1 = x.1 ∧ p.2.1 = x.2.1 ∧ RelV p.2.2 x.2.2 := by
  obtain ⟨x, h1, h2⟩ := paired_get r hp
  exact ⟨x, h1, h2⟩
def NObj (P : Program) (w : World) (L : List NEnt) (o : Obj) : Prop := o.ExactDict ∧ ∃ xs es ep, o.data = .dict es ep ∧ NRel L xs ∧ es.toList = xs.map (entryOfKey (nestedKind P w)) ∧ (xs.map (·.1)).Nodup
/-- such a dict -/
def nD (P : Program) (w : World) (d : Addr) (L : List NEnt) : HO := .ext fun h => (d == sysModules) = false ∧ L.length ≤ sizeLine ∧ ∃ o, h.get? d = some o ∧ NObj P w L o
def NKeys (H : Hp) (L : List NEnt) : Prop := ∀ x ∈ L, KyV H x.1 (.ref x.2.1) ∧ x.1.depth ≤ 8
theorem NKeys.mono {H H' : Hp} {L : List NEnt} (n : NKeys H L) (f : ∀ a xs, Rd H a (.tup xs) → Rd H' a (.tup xs)) : NKeys H' L := fun x hx => ⟨KyV.mono f _ _ (n x hx).1, (n x hx).2⟩
theorem NKeys.put {H : Hp} {L : List NEnt} {k : NestedKey} {q : Addr} {v : V} (n : NKeys H L) (hk : KyV H k (.ref q)) (hd : k.depth ≤ 8) : NKeys H (putN L k q v) := fun x hx => by
  unfold putN at hx
  split at hx
  · obtain ⟨y, hy, rfl⟩ := List.mem_map.mp hx
    have e : (newN k v y).1 = y.1 ∧ (newN k v y).2.1 = y.2.1 := by
      unfold newN
      split <;> exact ⟨rfl, rfl⟩
    rw [e.1, e.2]
    exact n y hy
  · rcases List.mem_append.mp hx with h | h
    · exact n x h
    · rw [List.mem_singleton.mp h]
      exact ⟨hk, hd⟩
section
variable {P : Program} {w : World} {H : Hp} {h : Heap} {d : Addr} {L : List NEnt}
theorem nD_ok {o : Obj} (hs : (d == sysModules) = false) (hl : L.length ≤ sizeLine) (ho : h.get? d = some o) (hn : NObj P w L o) : ObjOk P w H h d (nD P w d L) :=
  ⟨⟨hs, hl, o, ho, hn⟩, ⟨o, ho⟩, fun _ _ ⟨a, b, o, e, n⟩ k => ⟨a, b, o, k o e, n⟩⟩
theorem nD_raw (ok : HOk P w H h) (e : Rd H d (nD P w d L)) : (d == sysModules) = false ∧ L.length ≤ sizeLine ∧ ∃ o, h.get? d = some o ∧ NObj P w L o := by
  obtain ⟨q, _⟩ := (show ObjOk P w H h d (nD P w d L) from e.ok ok)
  exact q
theorem nD_of (ok : HOk P w H h) (e : Rd H d (nD P w d L)) (hk : NKeys H L) : (d == sysModules) = false ∧ L.length ≤ sizeLine ∧ ∃ xs, NRel L xs ∧ h.DictOfH (nestedKind P w) d xs := by
  obtain ⟨hs, hl, o, ho, hx, xs, es, ep, hd, hr, he, hn⟩ := nD_raw ok e
  refine ⟨hs, hl, xs, hr, o, es, ep, ho, hx, hd, he, fun x hx => ?_, hn⟩
  obtain ⟨p, hp, e1, e2⟩ := hr.back hx
  obtain ⟨k1, k2⟩ := hk p hp
  rw [← e1, ← e2]
  exact ⟨KyV.nested ok _ _ _ k1 rfl, k2⟩
theorem nD_type (ok : HOk P w H h) (e : Rd H d (nD P w d L)) : (∃ o, h.get? d = some o ∧ o.cls = .type "dict") ∧ (∀ b, Value.ref d = .ref b → ∃ ob, h.get? b = some ob ∧ ob.dict = none) := by
  obtain ⟨_, _, o, ho, hx, _⟩ := nD_raw ok e
  exact ⟨⟨o, ho, hx.1⟩, fun b q => by cases q; exact ⟨o, ho, hx.2.1⟩⟩
theorem nky_of (ok : HOk P w H h) {k : NestedKey} {q : Addr} (hk : KyV H k (.ref q)) (hd : k.depth ≤ 8) : (nestedKind P w).is h k q := ⟨KyV.nested ok _ _ _ hk rfl, hd⟩
end
/-! ### their rules -/
def tNNew (P : Program) (w : World) : TE := fun _ H Q => ∀ p, H p = none → Q (.ref p) (upd H p (nD P w p []))
def tNDisp1 (P : Program) (w : World) (tk tv : TE) : TE := fun σ H Q => ∀ p, H p = none → tk σ (upd H p (nD P w p [])) fun kx H1 => tv σ H1 fun vx H2 => H2 p = some (nD P w p []) ∧ ∃ (b : Addr) (key : NestedKey), kx = .ref b ∧ KyV H2 key (.ref b) ∧ key.depth ≤ 8 ∧ Q (.ref p) (upd H2 p (nD P w p [(key, b, vx)]))
def tNGet (P : Program) (w : World) (td ty : TE) : TE := fun σ H Q => td σ H fun x H1 => ty σ H1 fun y H2 => ∃ (a q : Addr) (L : List NEnt) (k : NestedKey) (v : V), x = .ref a ∧ y = .ref q ∧ Rd H2 a (nD P w a L) ∧ NKeys H2 L ∧ KyV H2 k (.ref q) ∧ k.depth ≤ 8 ∧ valN L k = some v ∧ Q v H2
def tNGet2 (P : Program) (w : World) (td ty tx : TE) : TE := fun σ H Q => td σ H fun x H1 => ∃ (a : Addr) (L0 : List NEnt), x = .ref a ∧ Rd H1 a (nD P w a L0) ∧ ty σ H1 fun y H2 => tx σ H2 fun z H3 => ∃ (q : Addr) (L : List NEnt) (k : NestedKey), y = .ref q ∧ Rd H3 a (nD P w a L) ∧ NKeys H3 L ∧ KyV H3 k (.ref q) ∧ k.depth ≤ 8 ∧ Q ((valN L k).getD z) H3
def sNPut (P : Program) (w : World) (td ty tv : TE) : TS := fun D σ H => tv σ H fun v H1 => td σ H1 fun x H2 => ty σ H2 fun y H3 => ∃ (a q : Addr) (L : List NEnt) (k : NestedKey), x = .ref a ∧ y = .ref q ∧ H3 a = some (nD P w a L) ∧ NKeys H3 L ∧ KyV H3 k (.ref q) ∧ k.depth ≤ 8 ∧ L.length < sizeLine ∧ D.nx σ (upd H3 a (nD P w a (putN L k q v)))
section
variable {X : Cx} {o i e f value : Expr} {pos pos' : Pos} {td ty tv tx : TE}
theorem room_9 {k : Nat} {A : Around} (r : Room k A) : A.units + 9 < cLine := by
  have := r.un
  omega
theorem room9 {A : Around} {P : Program} {w : World} (hu : A.units + 9 < cLine) : (nestedKind P w).room A.in1 := hu
theorem nD_write {pins : List (Addr × Obj)} {σ : L2.St} {H : Hp} {s : Shared} {h' : Heap} {a : Addr} {L L' : List NEnt} {xs' : List (NestedKey × Addr × Value)} (t' : Nat) (I : Inv X pins σ H s) (e : H a = some (nD X.prog X.w a L)) (hl : L'.length ≤ sizeLine) (r : NRel L' xs') (dd : h'.DictOfH (nestedKind X.prog X.w) a xs') (hs : Heap.SameBut a s.heap h') :
    Inv X pins σ (upd H a (nD X.prog X.w a L')) { s with heap := h', toks := t' } := by
  obtain ⟨ne, _⟩ := nD_raw I.hok (.inl e)
  obtain ⟨q, es, ep, hq, h2, h3, h4, _, h5⟩ := dd
  exact d_write I (by rw [e]; exact True.intro) hs ⟨q, hq⟩ (nD_ok ne hl hq ⟨h2, xs', es, ep, h3, r, h4, h5⟩)
theorem pe_ndnew : PE X (.Dict [] [] pos) (tNNew X.prog X.w) := ⟨fun pins s σ H Q I h =>
  wpAny_Dict_empty ⟨.ref s.heap.objs.size, _, I.laid (a := s.heap.objs.size) (o := nD X.prog X.w s.heap.objs.size []) (t' := s.toks) (fun _ _ q => Heap.get?_push_of_some _ q) (Nat.le_refl _)
    (nD_ok (beq_eq_false_iff_ne.mpr (Ne.symm (Nat.ne_of_lt I.big))) (Nat.zero_le _) (Heap.get?_push_size _ rfl) ⟨⟨rfl, rfl, rfl⟩, [], #[], 0, rfl, .nil, rfl, List.nodup_nil⟩), rfl, h _ (I.hok.fresh (Nat.le_refl _))⟩⟩
theorem pe_ndisp1 {k v : Expr} {tk tv : TE} (hu : X.A.units + 9 < cLine) (hk : PE X k tk) (hv : PE X v tv) : PE X (.Dict [some k] [v] pos) (tNDisp1 X.prog X.w tk tv) := ⟨fun pins s σ H Q I q => by
  have new := I.hok.fresh (Nat.le_refl s.heap.objs.size)
  have J := I.laid (a := s.heap.objs.size) (o := nD X.prog X.w s.heap.objs.size []) (h' := s.heap.push { cls := .type "dict", data := .dict #[] }) (t' := s.toks) (fun _ _ z => Heap.get?_push_of_some _ z) (Nat.le_refl _)
    (nD_ok (beq_eq_false_iff_ne.mpr (Ne.symm (Nat.ne_of_lt I.big))) (Nat.zero_le _) (Heap.get?_push_size _ rfl) ⟨⟨rfl, rfl, rfl⟩, [], #[], 0, rfl, .nil, rfl, List.nodup_nil⟩)
  refine wpAny_Dict_any rfl rfl (by simp) (show 1 ≤ 15 by decide) (pairTrees_cons_walk (thn (hk.run pins _ σ _ _ J (q _ new)) fun kv s1 y1 => ?_))
  obtain ⟨kx, H1, J1, rk, q1⟩ := y1
  refine thn (hv.run pins s1 σ H1 _ J1 q1) fun vv s2 y2 => ?_
  obtain ⟨vx, H2, J2, rv, e, b, key, rfl, hb, hd, fin⟩ := y2
  obtain rfl : kv = Value.ref b := rk
  refine pairTrees_nil_walk ?_
  obtain ⟨_, _, xs, rel, dd⟩ := nD_of J2.hok (.inl e) (fun x hx => nomatch hx)
  cases rel
  unfold storeAll
  simp only [List.forIn_cons, List.forIn_nil]
  refine wpAny_bind (wpAny_bind (wpAny_dictSet_heap (hsz := by simp) (show X.A.units + 8 < cLine by omega) (nky_of J2.hok hb hd) dd fun h' dd' hs => wpAny_pure (wpAny_pure ?_)))
  exact ⟨.ref s.heap.objs.size, _, nD_write _ J2 e (by show 1 ≤ sizeLine; decide) (NRel.put (L := []) .nil key b rv) dd' hs, rfl, fin⟩⟩
theorem pe_nget (hu : X.A.units + 9 < cLine) (ho : PE X o td) (hi : PE X i ty) (hs : NoSl i) : PE X (.Subscript o i pos) (tNGet X.prog X.w td ty) := by
  refine ⟨fun pins s σ H Q I h => ?_⟩
  refine subD_of PySem.F.slot_dict_getitem.lookup hs (thn (ho.run pins s σ H _ I h) fun u s1 y1 => ?_)
  obtain ⟨x, H1, I1, rx, q1⟩ := y1
  refine thn (hi.run pins s1 σ H1 _ I1 q1) fun iv s2 y2 => ?_
  obtain ⟨y, H2, I2, ry, a, q, L, k, v, rfl, rfl, hd, hk, hq, dk, hv, fin⟩ := y2
  obtain rfl : u = Value.ref a := rx
  obtain rfl : iv = Value.ref q := ry
  refine ⟨(nD_type I2.hok hd).1, ?_⟩
  obtain ⟨_, _, xs, rel, dd⟩ := nD_of I2.hok hd hk
  obtain ⟨w', hw, rw'⟩ := RelO.some_of (v := v) (o := (atKey xs k).map (·.2)) (by rw [← hv]; exact rel.val k)
  obtain ⟨p, hp, hp2⟩ := Option.map_eq_some_iff.mp hw
  refine wpAny_getItem_heap (room9 hu) (nky_of I2.hok hq dk) dd hp ?_
  rw [hp2]
  exact ⟨v, H2, I2.tok _, rw', fin⟩
theorem ps_nput (hu : X.A.units + 9 < cLine) (ho : PE X o td) (hi : PE X i ty) (hv : PE X value tv) (hs : swapsWith value (some (.Subscript o i pos')) pos.line X.env = pure false) :
    PS X (.Assign [.Subscript o i pos'] value pos) (sNPut X.prog X.w td ty tv) := by
  refine ⟨fun pins s σ H D I h => ?_⟩
  refine wpAny_Assign_Subscript (thn (hv.run pins s σ H _ I h) fun r s1 y1 => ?_) hs
  obtain ⟨v, H1, I1, rv, q1⟩ := y1
  refine thn (ho.run pins s1 σ H1 _ I1 q1) fun u s2 y2 => ?_
  obtain ⟨x, H2, I2, rx, q2⟩ := y2
  refine thn (hi.run pins s2 σ H2 _ I2 q2) fun iv s3 y3 => ?_
  obtain ⟨y, H3, I3, ry, a, q, L, k, rfl, rfl, hd, hk, hq, dk, hl, fin⟩ := y3
  obtain rfl : u = Value.ref a := rx
  obtain rfl : iv = Value.ref q := ry
  obtain ⟨_, z, xs, rel, dd⟩ := nD_of I3.hok (.inl hd) hk
  have hz : xs.length ≤ sizeLine := by
    rw [← Paired.length rel]
    exact z
  refine wpAny_setItem_heap (hsz := hz) (room9 hu) (nky_of I3.hok hq dk) dd fun h' dd' sb => ?_
  exact ⟨σ, _, nD_write _ I3 hd (by have := putN_len L k q v; omega) (rel.put k q rv) dd' sb, fin⟩
theorem pe_nget2 {apos cpos : Pos} (hu : X.A.units + 9 < cLine) (ho : PE X o td) (he : PE X e ty) (hf : PE X f tx) (m : M2 X o "get" apos e f cpos) : PE X (.Call (.Attribute o "get" apos) [e, f] [] cpos) (tNGet2 X.prog X.w td ty tx) := by
  refine ⟨fun pins s σ H Q I h => ?_⟩
  refine wpAny_Call_method m.base m.few m.line PySem.F.plainAttrs_dict PySem.F.slot_dict_get PySem.F.type_dict_get (thn (ho.run pins s σ H _ I h) fun u s1 y1 => ?_)
  obtain ⟨x, H1, I1, rx, a, L0, rfl, hd0, q1⟩ := y1
  obtain rfl : u = Value.ref a := rx
  obtain ⟨t1, t2⟩ := nD_type I1.hok hd0
  refine ⟨t1, t2, ?_⟩
  rw [m.trees]
  refine Calls.callWith_builtin rfl (Calls.evalArgs_plain (Calls.spliced_cons (thn (he.run pins s1 σ H1 _ I1 q1) fun iv s2 y2 => ?_)))
  obtain ⟨y, H2, I2, ry, q2⟩ := y2
  refine Calls.spliced_cons (thn (hf.run pins s2 σ H2 _ I2 q2) fun fv s3 y3 => Calls.spliced_nil ?_)
  obtain ⟨z, H3, I3, rz, q, L, k, rfl, hd, hk, hq, dk, fin⟩ := y3
  obtain rfl : iv = Value.ref q := ry
  obtain ⟨ne, _, xs, rel, dd⟩ := nD_of I3.hok hd hk
  refine call_meetsIn PySem.F.slot_dict_get dd.typeIs PySem.F.entry_dict_get (PySem.F.args_dict_get_3 _ _ _) (meetsH_dict_get_default (nestedKind X.prog X.w) a q ne fv) ⟨room9 hu, k, xs, nky_of I3.hok hq dk, dd, ?_⟩
  exact ⟨_, H3, I3.tok _, (rel.val k).getD rz, fin⟩
end
/-! ### walked by keys, locked -/
def Itn (P : Program) (w : World) (d : Addr) (o : Obj) (L : List NEnt) : It :=
  ⟨fun i H => H d = some (.frz o (nD P w d L)) ∧ i < L.length, fun i H x H' => H' = H ∧ ∃ (k : NestedKey) (q : Addr) (v : V), L[i]? = some (k, q, v) ∧ x = .ref q, fun i H => H d = some (.frz o (nD P w d L)) ∧ L.length ≤ i⟩
theorem walk_nkeys {P : Program} {w : World} {d : Addr} {o : Obj} {L : List NEnt} : Walk (Itn P w d o L) L.length (fun H => H d = some (.frz o (nD P w d L))) (fun i H x H' => H' = H ∧ ∃ (k : NestedKey) (q : Addr) (v : V), L[i]? = some (k, q, v) ∧ x = .ref q) :=
  ⟨fun _ _ hi q => ⟨q, hi⟩, fun _ q => ⟨q, Nat.le_refl _⟩, fun _ _ _ _ _ _ y => y⟩
theorem nD_frz {X : Cx} {pins : List (Addr × Obj)} {σ : L2.St} {H : Hp} {s : Shared} {d : Addr} {o : Obj} {L : List NEnt} (I : Inv X pins σ H s) (h : H d = some (.frz o (nD X.prog X.w d L))) :
    (d == sysModules) = false ∧ s.heap.get? d = some o ∧ o.ExactDict ∧ ∃ (es : Array DictEntry) (ep : Nat), o.data = .dict es ep ∧ es.size = L.length ∧ ∀ (i : Nat) (k : NestedKey) (q : Addr) (v : V), L[i]? = some (k, q, v) → ∃ en : DictEntry, es[i]? = some en ∧ en.key = .ref q := by
  obtain ⟨e1, e2⟩ := (show ObjOk X.prog X.w H s.heap d (.frz o (nD X.prog X.w d L)) from I.hok d _ h)
  obtain ⟨⟨hs, _, o', ho, hx, xs, es, ep, hd, hr, he, _⟩, _⟩ := (show ObjOk X.prog X.w H s.heap d (nD X.prog X.w d L) from e2)
  rw [e1] at ho
  cases ho
  refine ⟨hs, e1, hx, es, ep, hd, ?_, fun i k q v hi => ?_⟩
  · have l1 : es.toList.length = xs.length := by rw [he, List.length_map]
    rw [Paired.length hr, ← l1, Array.length_toList]
  · obtain ⟨x, h1, _, h3, _⟩ := hr.ahead hi
    refine ⟨entryOfKey (nestedKind X.prog X.w) x, ?_, congrArg Value.ref h3.symm⟩
    rw [← Array.getElem?_toList, he, List.getElem?_map, h1]
    rfl
theorem turn_nkeys {P : Program} {w : World} {K : PySem.W.Frag} {tg : Expr} {d : Addr} {o : Obj} {es : Array DictEntry} {ep : Nat} {L : List NEnt} (it : Addr) (hod : o.data = .dict es ep) : Turn P w K tg (Itn P w d o L) [it] it (fun i h => h.IsKeyIter it d i L.length ep) := by
  have self_ : it ∈ [it] := List.mem_singleton.mpr rfl
  refine { mem := self_, obj := fun n h here b hb => ?_, keep := fun n h h' here k => here.at fun u e => k it self_ u e, item := ?_, done := ?_, self := fun A n t Q E here q => wpAny_pyIter_keyiter here q }
  · obtain ⟨u, at_, _, fl⟩ := here
    refine ⟨u, by rw [List.mem_singleton.mp hb]; exact at_, fun v z => ?_⟩
    rw [fl] at z
    cases z
  · rintro Y rfl rfl rfl - n pp t σ G E J own here ⟨lk, lt⟩
    obtain ⟨e0, e1, e2, e3, e4, e5⟩ := own it self_
    obtain ⟨_, raw, ex, es2, ep2, fl, len, ent⟩ := nD_frz J lk
    cases fl.symm.trans hod
    obtain ⟨en, hen, key⟩ := ent n _ _ _ (List.getElem?_eq_getElem lt)
    refine next_key_item here raw fl len hen fun g here2 rest => ?_
    have J2 : Inv Y pp σ G { t with heap := g } := J.turned (t' := t.toks) (fun b u ne e => (rest.2 b ne).trans e) e0 e1 e3 e4 e5
    obtain ⟨u, at_, cl, fl2⟩ := id here2
    exact ⟨en.key, rfl, go_of (s := { t with heap := g }) at_ cl fl2 (by decide) ⟨.ref L[n].2.1, G, J2, key, ⟨rfl, _, _, _, List.getElem?_eq_getElem lt, rfl⟩, here2, fun b hb => (own b hb).1⟩⟩
  · rintro Y rfl rfl rfl still n pp t σ G E J own here ⟨lk, ge⟩
    obtain ⟨e0, e1, e2, e3, e4, e5⟩ := own it self_
    obtain ⟨_, raw, ex, es2, ep2, fl, len, _⟩ := nD_frz J lk
    cases fl.symm.trans hod
    exact next_key_end (J.ok.hd still) here raw fl len ge fun g rest => ⟨rfl, J.turned (t' := t.toks) (fun b u ne e => rest b u ne e) e0 e1 e3 e4 e5⟩
def iNKeys (P : Program) (w : World) (td : TE) : TI := fun σ H R => td σ H fun x H1 => ∃ (d : Addr) (o : Obj) (L : List NEnt), x = .ref d ∧ H1 d = some (.frz o (nD P w d L)) ∧ R (Itn P w d o L) H1
theorem pi_nkeys {X : Cx} {tg e : Expr} {td : TE} (he : PE X e td) : PI X tg e (iNKeys X.prog X.w td) := by
  refine ⟨fun pins s σ H R I h => ?_⟩
  refine thn (he.run pins s σ H _ I h) fun u s1 y1 => ?_
  obtain ⟨x, H1, I1, rx, d, o, L, rfl, hd, q⟩ := y1
  obtain rfl : u = Value.ref d := rx
  obtain ⟨hs, hgd, hx, es, ep, hdt, hsz, ent⟩ := nD_frz I1 hd
  refine iter_keys hs hgd hx hdt (pi_one (tk := s1.toks) I1 _ (turn_nkeys _ hdt) ⟨_, Heap.get?_push_size _ rfl, rfl, ?_⟩ q)
  rw [hsz] <;> rfl
end Lp
namespace Lp
open PySem PySem.Spec PyProof.Rows L2
/-! ### sorted texts, sorted pairs of texts -/
abbrev cds (z : Str) : List Nat := z.cps.toList
theorem cds_inj {x y : Str} (h : cds x = cds y) : x = y := PySem.W.str_of_cps h
def leS (x y : Str) : Bool := decide (cds x ≤ cds y)
def leP (p q : Str × Str) : Bool := decide (cds p.1 < cds q.1 ∨ (p.1 = q.1 ∧ cds p.2 ≤ cds q.2))
theorem leS_trans (x y z : Str) (h1 : leS x y = true) (h2 : leS y z = true) : leS x z = true := decide_eq_true (List.le_trans (of_decide_eq_true h1) (of_decide_eq_true h2))
theorem leS_total (x y : Str) : (leS x y || leS y x) = true := by
  unfold leS
  rcases List.le_total (cds x) (cds y) with z | z
  · rw [decide_eq_true z]
    rfl
  · rw [decide_eq_true z, Bool.or_true]
theorem leS_anti {x y : Str} (h1 : leS x y = true) (h2 : leS y x = true) : x = y := cds_inj (List.le_antisymm (of_decide_eq_true h1) (of_decide_eq_true h2))
theorem lt_of_ne {x y : List Nat} (h : x ≤ y) (n : ¬ x = y) : x < y := Decidable.by_contra fun z => n (List.le_antisymm h (List.not_lt.mp z))
theorem leP_trans (p q r : Str × Str) (h1 : leP p q = true) (h2 : leP q r = true) : leP p r = true := by
  refine decide_eq_true ?_
  rcases of_decide_eq_true h1 with a | ⟨a1, a2⟩
  · rcases of_decide_eq_true h2 with b | ⟨b1, _⟩
    · exact .inl (List.lt_trans a b)
    · exact .inl (by rw [← b1]; exact a)
  · rcases of_decide_eq_true h2 with b | ⟨b1, b2⟩
    · exact .inl (by rw [a1]; exact b)
    · exact .inr ⟨a1.trans b1, List.le_trans a2 b2⟩
theorem leP_total (p q : Str × Str) : (leP p q || leP q p) = true := by
  unfold leP
  by_cases e : p.1 = q.1
  · rcases List.le_total (cds p.2) (cds q.2) with z | z
    · rw [decide_eq_true (.inr ⟨e, z⟩)]
      rfl
    · rw [decide_eq_true (p := cds q.1 < cds p.1 ∨ _) (.inr ⟨e.symm, z⟩), Bool.or_true]
  · rcases List.le_total (cds p.1) (cds q.1) with z | z
    · rw [decide_eq_true (.inl (lt_of_ne z fun y => e (cds_inj y)))]
      rfl
    · rw [decide_eq_true (p := cds q.1 < cds p.1 ∨ _) (.inl (lt_of_ne z fun y => e (cds_inj y).symm)), Bool.or_true]
theorem leP_anti {p q : Str × Str} (h1 : leP p q = true) (h2 : leP q p = true) : p = q := by
  rcases of_decide_eq_true h1 with a | ⟨a1, a2⟩
  · rcases of_decide_eq_true h2 with b | ⟨b1, _⟩
    · exact absurd (List.lt_trans a b) (List.lt_irrefl _)
    · rw [b1] at a
      exact absurd a (List.lt_irrefl _)
  · rcases of_decide_eq_true h2 with b | ⟨b1, b2⟩
    · rw [a1] at b
      exact absurd b (List.lt_irrefl _)
    · exact Prod.ext a1 (cds_inj (List.le_antisymm a2 b2))
def sortS (zs : List Str) : List Str := zs.mergeSort leS
def sortP (ps : List (Str × Str)) : List (Str × Str) := ps.mergeSort leP
theorem sortS_perm (zs : List Str) : (sortS zs).Perm zs := List.mergeSort_perm _ _
theorem sortP_perm (ps : List (Str × Str)) : (sortP ps).Perm ps := List.mergeSort_perm _ _
theorem sortS_eq {a b : List Str} (h : a.Perm b) : sortS a = sortS b :=
  ((sortS_perm a).trans (h.trans (sortS_perm b).symm)).eq_of_pairwise (fun _ _ _ _ h1 h2 => leS_anti h1 h2) (List.pairwise_mergeSort leS_trans leS_total a) (List.pairwise_mergeSort leS_trans leS_total b)
theorem sortP_eq {a b : List (Str × Str)} (h : a.Perm b) : sortP a = sortP b :=
  ((sortP_perm a).trans (h.trans (sortP_perm b).symm)).eq_of_pairwise (fun _ _ _ _ h1 h2 => leP_anti h1 h2) (List.pairwise_mergeSort leP_trans leP_total a) (List.pairwise_mergeSort leP_trans leP_total b)
abbrev dPr (p : Str × Str) : PyData := .tuple [.str p.1, .str p.2]
theorem dataLe_texts : PySem.W.dataLe false PyData.str = leS := PySem.W.dataLe_str id
theorem dataLe_pairs : PySem.W.dataLe false dPr = leP := by
  funext p q
  show (!PySem.W.dataLt (.tuple [.str q.1, .str q.2]) (.tuple [.str p.1, .str p.2])) = _
  rw [PySem.W.dataLt_pair rfl rfl, PySem.W.dataLt_str, PySem.W.dataLt_str]
  have ev : ∀ x y : Str, PyData.eqv (.str x) (.str y) = decide (x = y) := fun x y => rfl
  rw [ev, ev]
  unfold leP
  by_cases e : q.1 = p.1
  · rw [decide_eq_true e, if_pos rfl]
    have ni : ¬ cds p.1 < cds q.1 := by rw [e]; exact List.lt_irrefl _
    by_cases e2 : q.2 = p.2
    · rw [decide_eq_true e2, if_pos rfl, decide_eq_true (.inr ⟨e.symm, by rw [e2]; exact List.le_refl _⟩)]
      rfl
    · rw [decide_eq_false e2, if_neg Bool.false_ne_true]
      by_cases l : cds q.2 < cds p.2
      · rw [decide_eq_true l, decide_eq_false]
        · rfl
        · rintro (z | ⟨_, z⟩)
          · exact ni z
          · exact List.not_lt.mpr z l
      · rw [decide_eq_false l, decide_eq_true (.inr ⟨e.symm, List.not_lt.mp l⟩)]
        rfl
  · rw [decide_eq_false e, if_neg Bool.false_ne_true]
    by_cases l : cds q.1 < cds p.1
    · rw [decide_eq_true l, decide_eq_false]
      · rfl
      · rintro (z | ⟨z, _⟩)
        · exact List.lt_irrefl _ (List.lt_trans l z)
        · exact e z.symm
    · rw [decide_eq_false l, decide_eq_true (.inl (lt_of_ne (List.not_lt.mp l) fun y => e (cds_inj y).symm))]
      rfl
/-! #### the rules -/
theorem texts_each {zs : List Str} {us : List Value} (v : Vals (zs.map V.str) us) : PySem.W.EachIs (fun u z => ∃ t, u = Value.str z t) us zs := by
  induction zs generalizing us with
  | nil => cases v; exact .nil
  | cons z zs ih =>
    cases v with
    | cons a b =>
      obtain ⟨t, rfl⟩ := a
      exact .cons ⟨t, rfl⟩ (ih b)
theorem each_texts {zs : List Str} {us : List Value} (h : PySem.W.EachIs (fun u z => ∃ t, u = Value.str z t) us zs) : Vals (zs.map V.str) us := by
  induction h with
  | nil => exact .nil
  | cons a _ ih =>
    obtain ⟨t, rfl⟩ := a
    exact .cons ⟨t, rfl⟩ ih
theorem texts_alike (zs : List Str) : PySem.W.AllAlike (zs.map PyData.str) := PySem.W.AllAlike.of fun _ _ => rfl
theorem texts_sortable (zs : List Str) : PySem.W.Sortable (zs.map PyData.str) := PySem.W.Sortable.others fun b => ⟨(nomatch ·), fun xs => (nomatch ·)⟩
def rSortTx (K : PySem.W.Frag) : List V → Hp → VK → Prop := fun vs H Q => ∃ (a : Addr) (zs : List Str), vs = [.ref a] ∧ SqT K H a (zs.map V.str) ∧ zs.length ≤ 1000 ∧ ∀ p : Addr, H p = none → Q (.ref p) (upd H p (.lst ((sortS zs).map V.str)))
section
variable {prog : Program} {w : World} {A : Around} {E : Value → Shared → Prop} {s : Shared}
theorem sort_texts {t : Addr} {us : List Value} {zs : List Str} {Q : Value → Shared → Prop} (tup : s.heap.IsTuple t us.toArray) (is : PySem.W.EachIs (fun u z => ∃ k, u = Value.str z k) us zs) (few : zs.length ≤ 1000) (room : A.units + 64 < cLine)
    (q : ∀ (g : Heap) (out : List Value), (∀ b o, s.heap.get? b = some o → g.get? b = some o) → PySem.W.EachIs (fun u z => ∃ k, u = Value.str z k) out (sortS zs) →
      Q (.ref g.objs.size) { s with heap := sortedHeap (g.push (seqObj "list" us.toArray 0)) g.objs.size us out.toArray }) :
    wpAny (model prog w) A (call (.builtin "sorted") [.ref t]) Q E s := by
  obtain ⟨o, ho, cls, m, dat⟩ := tup
  have small : us.toArray.size ≤ sizeLine := by
    rw [List.size_toArray, is.length]
    exact Nat.le_of_lt (len_lt (by omega))
  refine Calls.call_function_entry kind_sorted plain_sorted entry_sorted (args_sorted1 (.ref t)) ?_
  unfold Builtin.«sorted»
  refine wpAny_bind (m := checkCount "sorted" 1 1 1) (wpAny_pure (wpAny_bind (wpAny_collect_seq t (.inr rfl) ho cls dat (fun g old => ?_) small)))
  refine wpAny_bind (wpAny_newList ?_ (by rw [← List.size_toArray]; exact small))
  have new : (g.push (seqObj "list" us.toArray 0)).get? g.objs.size = some (seqObj "list" us.toArray 0) := Heap.get?_push_size g rfl
  have reads : PySem.W.EachIs (fun v z => ∃ as, Reads (g.push (seqObj "list" us.toArray 0)) v (PyData.str z) as ∧ g.objs.size ∉ as) us zs := is.mono fun v z h => by
    obtain ⟨k, rfl⟩ := h
    exact ⟨[], Reads.str z k, by simp⟩
  have sorted := PySem.W.list_sort_data (prog := prog) (w := w) (A := A.in1) (E := E) (s := { s with heap := g.push (seqObj "list" us.toArray 0) }) (enc := PyData.str) (Q := fun v s' => v = .none ∧ Q (.ref g.objs.size) s') new is reads (texts_alike zs) (texts_sortable zs) (by rw [← is.length, ← List.size_toArray]; exact small)
    (fun z _ => by show A.units + 1 + 1 + 0 < cLine; omega) fun out _ e => ⟨rfl, q g out old (by rw [dataLe_texts] at e; exact e)⟩
  refine wpAny_bind (wpAny_holding ?_)
  refine wpAny_mono sorted (fun v s' h => ?_) fun _ _ z => z
  obtain ⟨rfl, h⟩ := h
  exact wpAny_pure ⟨_, rfl, h⟩
end
theorem cr_sortTx {X : Cx} (hu : X.A.units + 64 < cLine) : CallR X (.builtin "sorted") (rSortTx X.K) := fun pins s σ H vs us Q I r h => by
  obtain ⟨a, zs, rfl, sq, few, q⟩ := h
  obtain ⟨its, rv, tup, _⟩ := I.tuple sq
  rw [Vals.ref1 r]
  refine sort_texts tup (texts_each rv) few hu fun g out old e => ?_
  have I1 : Inv X pins σ H { s with heap := g } := I.kept (t' := s.toks) old
  have size : ((sortS zs).map V.str).length ≤ sizeLine := by
    rw [List.length_map, (sortS_perm zs).length_eq]
    exact Nat.le_of_lt (len_lt (by omega))
  obtain ⟨ep, there⟩ := PyProof.Rows.sortedHeap_at (vs := its) (out := out.toArray) (Heap.get?_push_size g rfl : (g.push (seqObj "list" its.toArray 0)).get? g.objs.size = some (seqObj "list" its.toArray 0))
  have J := I1.laid (t' := s.toks) (a := g.objs.size) (o := .lst ((sortS zs).map V.str)) (h' := sortedHeap (g.push (seqObj "list" its.toArray 0)) g.objs.size its out.toArray) (fun b u z => by
    have lt := Heap.lt_size z
    rw [PyProof.Rows.sortedHeap_old (Nat.ne_of_lt lt) (by rw [size_push']; exact Nat.lt_succ_of_lt lt)]
    exact Heap.get?_push_of_some _ z) (Nat.le_refl _) ⟨size, out, ep, each_texts e, by simpa using there⟩
  exact ⟨.ref g.objs.size, _, J, rfl, q _ (I1.hok.fresh (Nat.le_refl _))⟩
/-- these pairs of texts stand at these addresses -/
abbrev PrAt (K : PySem.W.Frag) (H : Hp) : List Addr → List (Str × Str) → Prop := Each fun r p => SqT K H r [.str p.1, .str p.2]
def rSortPr (K : PySem.W.Frag) : List V → Hp → VK → Prop := fun vs H Q => ∃ (a : Addr) (rs : List Addr) (ps : List (Str × Str)), vs = [.ref a] ∧ SqL K H a (rs.map V.ref) ∧ PrAt K H rs ps ∧
  ∀ (qs : List Addr) (p : Addr), PrAt K H qs (sortP ps) → H p = none → Q (.ref p) (upd H p (.lst (qs.map V.ref)))
section
variable {X : Cx} {pins : List (Addr × Obj)} {σ : L2.St} {H : Hp} {s : Shared}
theorem refs_each {β : Type} {R : Addr → β → Prop} {rs : List Addr} {ms : List β} {us : List Value} (h : Each R rs ms) (v : Vals (rs.map V.ref) us) : PySem.W.EachIs (fun v m => ∃ r, v = Value.ref r ∧ R r m) us ms := by
  induction rs generalizing ms us with
  | nil =>
    cases ms with
    | nil => cases v; exact .nil
    | cons m ms => exact h.elim
  | cons r rs ih =>
    cases ms with
    | nil => exact h.elim
    | cons m ms =>
      cases v with
      | cons a b =>
        cases a
        exact .cons ⟨r, rfl, h.1⟩ (ih h.2 b)
theorem each_refs {β : Type} {R : Addr → β → Prop} {ms : List β} {us : List Value} (h : PySem.W.EachIs (fun v m => ∃ r, v = Value.ref r ∧ R r m) us ms) : ∃ qs : List Addr, us = qs.map Value.ref ∧ Each R qs ms := by
  induction h with
  | nil => exact ⟨[], rfl, trivial⟩
  | cons a _ ih =>
    obtain ⟨r, e, h1⟩ := a
    obtain ⟨qs, e2, h2⟩ := ih
    exact ⟨r :: qs, by rw [e, e2]; rfl, h1, h2⟩
theorem cr_sortPr (hu : X.A.units + 64 < cLine) : CallR X (.builtin "sorted") (rSortPr X.K) := by
  intro pins s σ H vs us Q I r h
  obtain ⟨a, rs, ps, rfl, hs, hE, q⟩ := h
  obtain ⟨its, rv, hl, hz⟩ := I.list hs
  rw [Vals.ref1 r]
  have ml := hE.len
  rw [List.length_map] at hz
  have e1 := refs_each hE rv
  have e3 : PySem.W.EachIs (fun v p => ∃ as, Reads s.heap v (dPr p) as) its ps := e1.mono fun v p z => by
    obtain ⟨r, e, h⟩ := z
    rw [e]
    exact Dp.reads I _ _ _ (.tup h (.cons (.str _) (.cons (.str _) .nil))) (show RelV (.ref r) (.ref r) from rfl)
  refine PySem.W.sorted_data (enc := dPr) hl.isList e1 e3 (PySem.W.AllAlike.of fun _ _ => rfl) (PySem.W.Sortable.tuples fun p => ⟨_, _, rfl⟩) (by omega) (fun p _ => ?_) fun out ol e2 => ?_
  · have d : (dPr p).depth ≤ 60 := by simp [PyData.depth, PyData.depthAll]
    omega
  rw [dataLe_pairs] at e2
  obtain ⟨qs, rfl, h2⟩ := each_refs e2
  rw [List.length_map] at ol
  obtain ⟨ep, there⟩ := PyProof.Rows.sortedAll_at s.heap its (qs.map Value.ref).toArray
  refine ⟨.ref _, upd H (s.heap.objs.size + 1) (.lst (qs.map V.ref)), I.laid (t' := s.toks) (fun _ _ => PyProof.Rows.sortedAll_old) (Nat.le_succ _) ⟨?_, qs.map Value.ref, ep, vals_refs qs, there⟩, rfl, q qs _ h2 (I.hok.fresh (Nat.le_succ _))⟩
  rw [List.length_map]
  omega
end
end Lp
namespace Lp
open PySem PySem.Spec PyProof.Rows L2
/-! ### len(set(xs)) where xs is a tuple of different texts -/
abbrev metTx (zs : List Str) (i : Nat) : Str → Bool := fun z => decide (z ∈ zs.take i)
theorem metTx_next {zs : List Str} (nd : zs.Nodup) {i : Nat} (h : i < zs.length) : metTx zs i zs[i] = false ∧ ∀ z, (metTx zs i z || decide (z = zs[i])) = metTx zs (i + 1) z := by
  have tk : zs.take (i + 1) = zs.take i ++ [zs[i]] := by rw [List.take_add_one, List.getElem?_eq_getElem h]; rfl
  refine ⟨decide_eq_false fun m => ?_, fun z => ?_⟩
  · have nd2 : (zs.take (i + 1)).Nodup := nd.sublist (List.take_sublist _ _)
    rw [tk, List.nodup_append] at nd2
    exact nd2.2.2 _ m _ List.mem_cons_self rfl
  · unfold metTx
    rw [tk, ← Bool.decide_or]
    exact decide_eq_decide.mpr (by rw [List.mem_append, List.mem_singleton])
section
variable {P : Program} {w : World} {A : Around} {R : Result → Shared → Prop} {it : Addr} {fp wr : List Addr} {G : Array GenState → Array GenState → Prop} {Pv : Nat → Value → Prop} {St : Nat → Shared → Prop}
theorem fill_texts {zs : List Str} (nd : zs.Nodup) (few : zs.length ≤ 100) (W : WalksS P w A.in1 it fp wr G zs.length Pv St) {a : Addr} (off : a ∉ fp) (tells : ∀ (i : Nat) (v : Value), Pv i v → ∃ t, zs[i]?.map (fun z => Value.str z t) = some v) :
    ∀ (d i : Nat) (s : Shared), i + d = zs.length → St i s → s.heap.SetOf (strKind P w) a (metTx zs i) i → (∀ s', Moved (a :: wr) G s s' → s'.heap.SetOf (strKind P w) a (metTx zs zs.length) zs.length → R (.ok (.ret .none)) s') →
      codeAny (model P w) A (.builtin "set.update.loop" ⟨[.ref a, .ref it], []⟩) R s := by
  have offW : a ∉ wr := fun m => off (W.sub a m)
  have more : ∀ {b}, b ∈ wr → b ∈ a :: wr := fun m => List.mem_cons_of_mem _ m
  have stays : ∀ {s s' : Shared} {f : Str → Bool} {n : Nat}, Moved wr G s s' → s.heap.SetOf (strKind P w) a f n → s'.heap.SetOf (strKind P w) a f n := fun mv x => by
    obtain ⟨o, es, ep, tb, at_, more⟩ := x
    exact ⟨o, es, ep, tb, mv.heap a _ offW at_, more⟩
  intro d
  induction d with
  | zero =>
    intro i s e st x fin
    refine codeAny_builtin PyProof.Rows.F.entry_set_update_loop ?_
    rw [Around.under_plainId PyProof.Rows.F.plain_set_update_loop _]
    rw [Nat.add_zero] at e
    subst e
    exact wpAny_bind (m := pyNext (.ref it)) (W.done s _ _ st fun s' mv => wpAny_pure (fin s' (mv.mono fun b => more) (stays mv x)))
  | succ d again =>
    intro i s e st x fin
    have lt : i < zs.length := by omega
    obtain ⟨new, next⟩ := metTx_next nd lt
    refine codeAny_builtin PyProof.Rows.F.entry_set_update_loop ?_
    rw [Around.under_plainId PyProof.Rows.F.plain_set_update_loop _]
    refine wpAny_bind (m := pyNext (.ref it)) (W.item i s _ _ lt st fun v s' hv st' mv => ?_)
    obtain ⟨t, ev⟩ := tells i v hv
    rw [List.getElem?_eq_getElem lt] at ev
    cases ev
    refine wpAny_bind (m := holding [Value.str zs[i] t] (setAdd a (.str zs[i] t))) (wpAny_holding ?_)
    unfold setAdd
    refine wpAny_holding (wpAny_bind ((strKind P w).pyHash (k := zs[i]) (strKind_is _ _ _ _) ?_))
    refine wpAny_setAddHashed_of (knd := strKind P w) (s := { s' with toks := s'.toks + 1 }) (strKind_is _ _ _ _) rfl (show Heap.SetOf (strKind P w) s'.heap a _ _ from stays mv x) (by unfold scanBound; omega) fun g but y => ?_
    have y2 : g.SetOf (strKind P w) a (metTx zs (i + 1)) (i + 1) := PyProof.Rows.SetOf_congr y next (by rw [new]; rfl)
    have old : ∀ {b o}, b ≠ a → s'.heap.get? b = some o → g.get? b = some o := fun ne z => (but.2 _ ne).trans z
    refine wpAny_pure ⟨plainId_quiet PyProof.Rows.F.plain_set_update_loop _, again (i + 1) _ (by omega) (W.frame _ s' _ _ st' (Nat.le_succ _) fun b hb o z => old (fun q => off (q ▸ hb)) z) y2 fun s2 mv2 z => ?_⟩
    exact fin s2 (Moved.trans W.gtrans ((mv.mono fun b => more).then_heap (Nat.le_succ _) fun b o nb z => old (fun q => nb (q ▸ List.mem_cons_self)) z) mv2) z
end
section
variable {P : Program} {w : World} {A : Around} {E : Value → Shared → Prop} {s : Shared}
abbrev bareSet (led : Bool) : Obj := { cls := .type "set", dict := none, data := .set #[] 0 (.fresh 0 0 led) }
/-- the set that a tuple of different texts fills -/
theorem init_texts {a t : Addr} {led : Bool} {us : Array Value} {zs : List Str} {Q : Value → Shared → Prop} (calm : A.handled = none) (here : s.heap.get? a = some (bareSet led)) (tup : s.heap.IsTuple t us) (ne : a ≠ t)
    (are : PyProof.Rows.StrsAre us.toList zs) (nd : zs.Nodup) (few : zs.length ≤ 100)
    (q : ∀ s' : Shared, s'.gens = s.gens → s'.drawn = s.drawn → s'.os = s.os → s'.heap.SetOf (strKind P w) a (metTx zs zs.length) zs.length → (∀ b o, b ≠ a → s.heap.get? b = some o → s'.heap.get? b = some o) → Q .none s') :
    codeAny (model P w) A (.call (.builtin "set.__init__") ⟨[.ref a, .ref t], []⟩) (wants Q E) s := by
  have ty : s.TypeIs (.ref a) "set" := ⟨_, here, rfl⟩
  have sz : us.size = zs.length := by rw [← Array.length_toList, PyProof.Rows.StrsAre.len_eq are]
  refine codeAny_mono (codeAny_call_builtin (R := wants Q E) PySem.F.called_set.init.plain PySem.F.entry_set_init (PySem.check_set_init_1 ty ?_)) fun _ _ z => z
  obtain ⟨⟨cls, dict, data, slots⟩, at_, ec, n, ed⟩ := tup
  dsimp only at ec ed
  subst ec
  subst ed
  have tup : s.heap.IsTuple t us := ⟨_, at_, rfl, n, rfl⟩
  have noSet := PySem.F.sub_tuple_set
  have noFroz := PySem.F.sub_tuple_frozenset
  have noDict : (Value.type "tuple" == Value.type "dict") = false := by decide
  unfold Builtin.«set.__init__» noKeywords Builtin.Frozenset.updateFrom
  generalize eI : pyIter = I
  wp_walk
  subst eI
  refine wpAny_pyIter_tuple tup ?_
  have far : t ≠ s.heap.objs.size := Nat.ne_of_lt (Heap.lt_size at_)
  have aLt : a < s.heap.objs.size := Heap.lt_size here
  have calm1 : A.in1.in1.handled = none := by simp [calm]
  have off : a ∉ [s.heap.objs.size, t] := by
    rw [List.mem_cons, List.mem_singleton]
    exact fun z => z.elim (Nat.ne_of_lt aLt) ne
  have tells : ∀ (i : Nat) (v : Value), us[i]? = some v → ∃ k, zs[i]?.map (fun z => Value.str z k) = some v := fun i v e => by
    have e' : us.toList[i]? = some v := by rw [Array.getElem?_toList]; exact e
    obtain ⟨k, rfl⟩ := SS.strs_at are i v e'
    have lt : i < zs.length := by
      have := (Array.getElem?_eq_some_iff.mp e).1
      omega
    refine ⟨k, ?_⟩
    rw [List.getD_eq_getElem?_getD, List.getElem?_eq_getElem lt]
    rfl
  refine wpAny_bind (wpAny_runValue ?_)
  have W := (Walks.tuple (prog := P) (w := w) calm1 _ t far us).toS
  rw [sz] at W
  have gets : (s.heap.push { cls := .type "tuple_iterator", data := .fields #[.ref t, .int 0 0] }).get? a = some (bareSet led) := Heap.get?_push_of_some _ here
  refine fill_texts (A := A.in1) nd few W off tells zs.length 0 _ (Nat.zero_add _) ⟨⟨_, Heap.get?_push_size _ rfl, rfl, rfl⟩, tup.push _⟩ ?_ ?_
  · exact PyProof.Rows.SetOf_congr ((PyProof.Rows.setObjOf_fresh (knd := strKind P w) led).setOf gets (by unfold scanBound; omega)) (fun z => (decide_eq_false (fun m => nomatch m)).symm) rfl
  · intro s' mv full
    refine wpAny_pure (wpAny_pure (q s' mv.gens mv.drawn mv.os full fun b o nb z => ?_))
    refine mv.heap b o (fun m => ?_) (Heap.get?_push_of_some _ z)
    rcases List.mem_cons.mp m with e | m
    · exact nb e
    · have e := List.mem_singleton.mp m
      exact Nat.ne_of_lt (Heap.lt_size z) e
theorem call_set_texts {t : Addr} {us : Array Value} {zs : List Str} {Q : Value → Shared → Prop} (calm : A.handled = none) (tup : s.heap.IsTuple t us) (are : PyProof.Rows.StrsAre us.toList zs) (nd : zs.Nodup) (few : zs.length ≤ 100)
    (q : ∀ s' : Shared, s'.gens = s.gens → s'.drawn = s.drawn → s'.os = s.os → s'.heap.SetOf (strKind P w) s.heap.objs.size (metTx zs zs.length) zs.length → (∀ b o, s.heap.get? b = some o → s'.heap.get? b = some o) → Q (.ref s.heap.objs.size) s') :
    wpAny (model P w) A (call (.type "set") [.ref t]) Q E s := by
  obtain ⟨_, _, line⟩ := PySem.F.called_set.mro
  have f1 := PySem.F.called_set.made
  have f2 := PySem.F.called_set.sub
  have f3 := PySem.F.called_set.notType
  have f4 := PySem.F.called_set.canCreate
  have f5 := PySem.F.typeCall_set_1 (.ref t)
  refine wpAny_call (codeAny_of_tree (wpAny_pure ⟨Code.quiet_builtin _ (by decide +kernel), codeAny_builtin PySem.F.entry_type_call ?_⟩))
  rw [Around.under_plain (weight_type_call_type "set" [.ref t] []) rfl]
  repeat (any_goals (first | assumption | wp_step))
  refine codeAny_mono (PySem.code_set_new_1 (.ref t) (E := E) (Q₁ := fun v g => ∃ led, v = .ref s.heap.objs.size ∧ g = { s with heap := s.heap.push (bareSet led) }) fun led => ⟨led, rfl, rfl⟩) fun r g made => ?_
  match r, made with
  | .error _, made => exact made
  | .ok (.ret v), made =>
    obtain ⟨led, rfl, rfl⟩ := made
    have at_ : (s.heap.push (bareSet led)).get? s.heap.objs.size = some (bareSet led) := Heap.get?_push_size _ rfl
    have ty : Shared.TypeIs { s with heap := s.heap.push (bareSet led) } (.ref s.heap.objs.size) "set" := ⟨_, at_, rfl⟩
    have f6 := PySem.F.called_set.init.lookup
    have f7 := PySem.F.called_set.init.bind (.ref s.heap.objs.size)
    have ne : s.heap.objs.size ≠ t := by
      obtain ⟨o, z, _⟩ := id tup
      exact Nat.ne_of_gt (Heap.lt_size z)
    repeat (any_goals (first | assumption | wp_step))
    refine codeAny_mono (init_texts (s := { s with heap := s.heap.push (bareSet led) }) (E := E) (Q := fun v s' => v = .none ∧ Q (.ref s.heap.objs.size) s') (by simp [calm]) at_ (tup.push _) ne are nd few fun s' e1 e2 e3 full old => ⟨rfl, q s' e1 e2 e3 full fun b o z => old b o (Nat.ne_of_lt (Heap.lt_size z)) (Heap.get?_push_of_some _ z)⟩) fun r2 g2 made2 => ?_
    match r2, made2 with
    | .error _, made2 => exact made2
    | .ok (.ret v), made2 =>
      obtain ⟨rfl, fin⟩ := made2
      repeat (any_goals (first | assumption | wp_step))
end
/-- len(set(xs)), xs a tuple of different texts -/
def tLenSetD (K : PySem.W.Frag) (ta : TE) : TE := fun σ H Q => ta σ H fun v H1 => ∃ (l : Addr) (zs : List Str), v = .ref l ∧ SqT K H1 l (zs.map V.str) ∧ zs.Nodup ∧ zs.length ≤ 100 ∧ Q (.int (zs.length : Nat)) H1
theorem strs_of : ∀ {zs : List Str} {us : List Value}, Vals (zs.map V.str) us → PyProof.Rows.StrsAre us zs
  | [], _, h => by cases h; exact .nil
  | z :: zs, _, h => by
    cases h with
    | cons a b =>
      obtain ⟨k, rfl⟩ := a
      exact .cons z k (strs_of b)
theorem pe_lenSetD {X : Cx} {a : Expr} {ta : TE} {p1 p2 p3 p4 : Pos} (gl : Gl X "len") (ml : X.mg "len" = none) (gs : Gl X "set") (ms : X.mg "set" = none) (ha : PE X a ta) (calm : X.calm = true := by rfl)
    (st : starEach [a] X.env = (false, eval a X.env) :: starEach [] X.env := by rfl) : PE X (.Call (.Name "len" p1) [.Call (.Name "set" p2) [a] [] p3] [] p4) (tLenSetD X.K ta) := ⟨fun pins s σ H Q I h => by
  refine Call_ (ld_blt I gl ml boot_len (PyProof.Rows.callWith_builtin1 (PyProof.Rows.args_cons ?_ rfl) rfl rfl))
  refine Call_ (ld_blt I gs ms boot_set (PyProof.Rows.callWith_type1 (PyProof.Rows.args_cons (thn (ha.run pins s σ H _ I h) fun v t y => PyProof.Rows.args_nil ?_) st) st rfl))
  obtain ⟨x, H1, J, rx, l, zs, rfl, hl, nd, few, fin⟩ := y
  cases rx
  obtain ⟨its, rv, pl, _⟩ := J.tuple hl
  refine call_set_texts (J.ok.hd calm) pl (by simpa using strs_of rv) nd few fun g e1 e2 e3 full old => PyProof.Rows.args_nil ?_
  obtain ⟨gh, gg, gd, gt, go⟩ := g
  dsimp only at e1 e2 e3
  subst e1 e2 e3
  have J2 : Inv X pins σ H1 { t with heap := gh, toks := gt } := J.kept fun b o e => old b o e
  obtain ⟨o, es, ep, tt, at_, ex, fl, _, _, _, free, size⟩ := full
  exact call_len_set at_ ex fl free (by rw [size] <;> omega) ⟨.int (zs.length : Nat), H1, J2.tok _, ⟨_, by rw [size]⟩, fin⟩⟩
end Lp
namespace Lp
open PySem PySem.Spec PyProof.Rows L2
/-! ### data that can be compared and shown: how deep, how long its text -/
structure Okd (D : PyData) (dep len : Nat) : Prop where
  lay : D.canLay0 = true
  deep : D.depth ≤ dep
  shw : D.showable = true
  fits : D.shown.length ≤ len
theorem Okd.le {D : PyData} {a b c e : Nat} (h : Okd D a b) (h1 : a ≤ c) (h2 : b ≤ e) : Okd D c e := ⟨h.lay, Nat.le_trans h.deep h1, h.shw, Nat.le_trans h.fits h2⟩
theorem okd_all {dep len : Nat} : ∀ {ds : List PyData}, (∀ d ∈ ds, Okd d dep len) → PyData.canLayAll0 ds = true ∧ PyData.depthAll ds ≤ dep ∧ PyData.showableAll ds = true ∧ ((PyData.shownAll ds).map (·.length)).sum ≤ ds.length * len ∧ (PyData.shownAll ds).length = ds.length
  | [], _ => by simp [PyData.canLayAll0, PyData.depthAll, PyData.showableAll, PyData.shownAll]
  | d :: ds, h => by
    obtain ⟨a1, a2, a3, a4, a5⟩ := okd_all fun x hx => h x (List.mem_cons_of_mem _ hx)
    have b := h d List.mem_cons_self
    have b2 := b.deep
    have b4 := b.fits
    refine ⟨?_, ?_, ?_, ?_, ?_⟩
    · simp only [PyData.canLayAll0, b.lay, a1, Bool.and_self]
    · simp only [PyData.depthAll]
      omega
    · simp only [PyData.showableAll, b.shw, a3, Bool.and_self]
    · simp only [PyData.shownAll, List.map_cons, List.sum_cons, List.length_cons, Nat.succ_mul]
      omega
    · simp only [PyData.shownAll, List.length_cons, a5]
theorem Okd.tup {ds : List PyData} {dep len m : Nat} (h : ∀ d ∈ ds, Okd d dep len) (hm : ds.length ≤ m) : Okd (.tuple ds) (dep + 1) (m * len + 2 * m + 3) := by
  obtain ⟨a1, a2, a3, a4, a5⟩ := okd_all h
  refine ⟨by simp only [PyData.canLay0, a1], by simp only [PyData.depth]; omega, by simp only [PyData.showable, a3], ?_⟩
  simp only [PyData.shown]
  have l := tupleText_len_le (PyData.shownAll ds)
  have l2 : ds.length * len ≤ m * len := Nat.mul_le_mul_right _ hm
  omega
theorem Okd.lst {ds : List PyData} {dep len m : Nat} (h : ∀ d ∈ ds, Okd d dep len) (hm : ds.length ≤ m) : Okd (.list ds) (dep + 1) (m * len + 2 * m + 3) := by
  obtain ⟨a1, a2, a3, a4, a5⟩ := okd_all h
  refine ⟨by simp only [PyData.canLay0, a1], by simp only [PyData.depth]; omega, by simp only [PyData.showable, a3], ?_⟩
  simp only [PyData.shown]
  have l := listText_len_le (PyData.shownAll ds)
  have l2 : ds.length * len ≤ m * len := Nat.mul_le_mul_right _ hm
  omega
theorem Okd.non : Okd .none 0 4 := ⟨by simp [PyData.canLay0], by simp [PyData.depth], by simp [PyData.showable], by show (Str.ofString "None").length ≤ 4; decide +kernel⟩
theorem Okd.str {z : Str} {m : Nat} (hm : z.cps.size ≤ m) (h : ∀ c ∈ z.cps.toList, c < 128) : Okd (.str z) 0 (10 * m + 2) := by
  refine ⟨?_, by simp [PyData.depth], by simp [PyData.showable], ?_⟩
  · simp only [PyData.canLay0]
    show z.cps.all (· < 0x110000) = true
    rw [← Array.all_toList, List.all_eq_true]
    exact fun c hc => decide_eq_true (Nat.lt_trans (h c hc) (by decide))
  · have h1 := StrLaws.reprText_len z fun c hc => Nat.lt_trans (h c hc) (by decide)
    have e : z.length = z.cps.size := rfl
    show (reprText z).length ≤ _
    omega
theorem Okd.shaped {D : PyData} {a b : Nat} (h : Okd D a b) (ha : a ≤ 64) : SeqAt.shaped D = true := by
  unfold SeqAt.shaped
  rw [h.lay, decide_eq_true (Nat.le_trans h.deep ha)]
  rfl
theorem Okd.same {D : PyData} {a b : Nat} (h : Okd D a b) : PyData.eqv D D = true := SeqAt.eqv_refl _ h.lay
/-! #### texts and pairs of texts that stand in the heap -/
theorem Dp_strs {K : PySem.W.Frag} {H : Hp} : ∀ zs : List Str, DpAll K H (zs.map V.str) (zs.map PyData.str)
  | [] => .nil
  | z :: zs => .cons (.str z) (Dp_strs zs)
theorem Dp_prAt {K : PySem.W.Frag} {H : Hp} : ∀ {rs : List Addr} {ps : List (Str × Str)}, PrAt K H rs ps → DpAll K H (rs.map V.ref) (ps.map dPr)
  | [], [], _ => .nil
  | [], _ :: _, h => h.elim
  | _ :: _, [], h => h.elim
  | r :: rs, p :: ps, h => .cons (.tup h.1 (.cons (.str _) (.cons (.str _) .nil))) (Dp_prAt h.2)
end Lp
namespace Lp
open PySem PySem.Spec PyProof.Rows L2
/-! ### a tuple of any length times a number -/
/-- no items: the tuple itself -/
theorem none_times (q : Addr) (n : Nat) (di : Option Addr) (so : Array (Option Value)) (k : Int) (tk : Tok) (small : (decide (k < -(2 ^ 63)) || decide (k ≥ 2 ^ 63)) = false) :
    Meets (Builtin.«tuple.__mul__» ⟨[.ref q, .int k tk], []⟩) (fun _ Z s => s.heap.get? q = some { cls := .type "tuple", dict := di, data := .seq #[] n, slots := so } ∧ Z (.ok (.ret (.ref q))) s) :=
  .of_wp fun prog w A Z s top => by
    obtain ⟨mem, gl, dd, toks, other⟩ := s
    obtain ⟨atq, top⟩ := top
    have ix := AutoSeq1.idx_int
    wp_walk using wpAny_loadPart' atq
    refine wpAny_ite_false (decide_eq_false fun e => by rw [small] at e; cases e) ?_
    wp_walk using wpAny_loadPart' atq
    all_goals first | exact ⟨_, rfl, top⟩ | exact top | skip
/-- t * n, the tuple of any length -/
def rRepA (K : PySem.W.Frag) : R2 := fun x y H Q => ∃ (l : Addr) (k : Int) (xs : List V), x = .ref l ∧ y = .int k ∧ SqT K H l xs ∧ 2 ≤ k ∧ k ≤ 1000 ∧ xs.length ≤ 1000 ∧ ∀ (p : Addr) (G : Hp), Same H G → SqT K G p (List.replicate k.toNat xs).flatten → Q (.ref p) G
theorem op_repA {X : Cx} : OpR X (binaryOp .Mult) (rRepA X.K) := by
  intro pins s σ H x y v u Q I e1 e2 h
  obtain ⟨l, k, xs, rfl, rfl, at_, k2, k3, short, done⟩ := h
  by_cases em : xs = []
  · subst em
    cases e1
    obtain ⟨tk, rfl⟩ := e2
    obtain ⟨its, r, ⟨⟨ty, di, da, so⟩, here, ety, n, eda⟩, _⟩ := I.tuple at_
    have e0 : its = [] := List.eq_nil_of_length_eq_zero r.length.symm
    subst e0
    simp only at ety eda
    subst ety eda
    have small : (decide (k < -(2 ^ 63)) || decide (k ≥ 2 ^ 63)) = false := by
      rw [Bool.or_eq_false_iff]
      exact ⟨decide_eq_false (by omega), decide_eq_false (by omega)⟩
    have isT : s.TypeIs (.ref l) "tuple" := ⟨_, here, rfl⟩
    have last := call_meets (prog := X.prog) (w := X.w) (A := X.A) (E := X.xe) (Q := EP X pins σ Q) F.slot_tuple_mul isT F.entry_tuple_mul (F.args_tuple_mul_2 _ _) (none_times l n di so k tk small) ⟨here, .ref l, H, I, rfl, done l H (Same.refl H) (by
      have z : (List.replicate k.toNat ([] : List V)).flatten = [] := by simp
      rw [z]
      exact at_)⟩
    exact wpAny_binaryOp_repeat_ref (U := "int") (T := "tuple") (by decide) isT (fun other => typeIs_int other k tk) noFill_tuple_mul F.fills_int_mul F.slot_int_rmul repeat_tuple F.slot_int_index.lookup
      (call_meets F.slot_int_rmul (typeIs_int s k tk) F.entry_int_rmul (F.args_int_rmul_2 _ _) (int_rmul_tuple k tk l #[] n di so) ⟨here, rfl, isT, last⟩)
  · exact op_repT pins s σ H _ _ v u Q I e1 e2 ⟨l, k, xs, rfl, rfl, at_, em, k2, k3, short, fun p np => done p _ (same_upd np) (.inl (.inl upd_same))⟩
end Lp
namespace Lp
open PySem PySem.Spec PyProof.Rows L2
/-! ### defs that may raise -/
structure ClX (P : Program) (w : World) (K : PySem.W.Frag) (mg : Str → Option Value) (base : Heap) (k : Nat) (x : Str) (st : Stmt) (ps : List Str) (sp : Sp) : Prop where
  ex : ∃ f fd, FnP K x st f fd ∧ FnOk P w K mg base (L2.CX P w) k f fd ps sp ∧ mg x = some (.ref f) ∧ Binds K fd ps []
section
variable {P : Program} {w : World} {K : PySem.W.Frag} {mg : Str → Option Value} {base : Heap} {x : Str} {st : Stmt} {N ps ks : List Str} {k : Nat} {sp : Sp}
theorem Df.okX (D : Df K mg x st) (S : FnScope N ps (defScope st))
    (bd : ∀ (kV doc pm : Value) (an : Option Addr) (cdv ct : Value) (us : List Value), us.length = ps.length → bindArgs (PySem.W.fnOf x x (defArgs st) (defBody st) (defScope st) .none kV doc pm an cdv ct) ⟨us, []⟩ = pure (ps.zip us))
    (len : ∀ vs H Q E, sp vs H Q E → vs.length = ps.length)
    (body : ∀ (f : Addr) (cdv : Value) (A : Around) (outer : List Env) (s : Shared) (H : Hp) (vs : List V) (Q : VK) (E : XK), Room k (A.deeper (envOfC x (defScope st) s.heap.objs.size f cdv)) → sp vs H Q E →
      ∃ t, PSs (cxOf (L2.CX P w) P w K mg base N x (defScope st) f cdv A outer s H E) (defBody st) t ∧ t { nx := fun _ H' => Q .non H', rt := Q } (start N vs) H) : ClX P w K mg base (k + 1) x st ps sp := by
  obtain ⟨f, fd, F, hm⟩ := D.ex
  exact ⟨f, fd, F, F.ok S len fun cdv A outer s H vs Q E hr h => body f cdv A outer s H vs Q E hr h, hm, F.bindsN bd⟩
theorem ClX.imp {sp' : Sp} (c : ClX P w K mg base k x st ps sp) (h : ∀ vs H Q E, sp' vs H Q E → sp vs H Q E) : ClX P w K mg base k x st ps sp' := by
  obtain ⟨f, fd, F, G, hm, b⟩ := c.ex
  exact ⟨f, fd, F, G.imp h, hm, b⟩
end
/-- a def's own wish: what leaves it -/
abbrev WD (E : XK) : WX := fun cls d _ H => E cls d H
theorem takesD {P : Program} {w : World} {K : PySem.W.Frag} {mg : Str → Option Value} {base : Heap} {N : List Str} {qual : Str} {scope : Scope} {f : Addr} {cd : Value} {A : Around} {outer : List Env} {s : Shared} {H : Hp} {E : XK} :
    Takes (cxOf (L2.CX P w) P w K mg base N qual scope f cd A outer s H E) (WD E) := takes_of rfl rfl rfl rfl
section
variable {X : Cx} {x : Str} {st : Stmt} {ps ks : List Str} {j k : Nat} {sp : Sp} {e : Expr} {es : List Expr} {kws : List Keyword} {t tk : TA} {p pos : Pos} {W : WX} {E : XK}
/-- f(e, ..), f may raise -/
theorem pe_x (c : ClX X.prog X.w X.K X.mg X.base k x st ps sp) (hw : Takes X W) (hr : Room j X.A) (hk : k ≤ j) (hg : Gl X x) (ha : PA X (e :: es) t)
    (hdb : (x == ("__debug__" : Str)) = false := by decide) (he : starEach (e :: es) X.env = (false, eval e X.env) :: starEach es X.env := by rfl) (hpl : (backTo pos (starEach es X.env)).any (·.1) = false := by rfl) :
    PE X (.Call (.Name x p) (e :: es) [] pos) (tCallS sp (WE W) t) := by
  obtain ⟨f, fd, F, G, hm, b⟩ := c.ex
  exact pe_callS G (hr.mono hk) hg hm F.kp b (fun σ => passAt hw σ) ha hdb he hpl
/-- f(k = e, ..), f may raise -/
def tKwX (n : Nat) (sp : Sp) (g : List V → List V) (E : XK) (tk : TA) : TE := fun σ H Q => tk σ H fun zs H2 => zs.length = n ∧ sp (g zs) H2 Q E
theorem pe_xk (g : {α : Type} → List α → List α) (c : ClX X.prog X.w X.K X.mg X.base k x st ps sp) (hw : Takes X (WD E)) (hr : Room j X.A) (hk : k ≤ j) (hg : Gl X x)
    (bd : ∀ (kV doc pm : Value) (an : Option Addr) (cdv ct : Value) (ws : List Value), ws.length = ks.length → bindArgs (PySem.W.fnOf x x (defArgs st) (defBody st) (defScope st) .none kV doc pm an cdv ct) ⟨[], ks.zip ws⟩ = pure (ps.zip (g ws)))
    (rel : ∀ {zs : List V} {ws : List Value}, Vals zs ws → Vals (g zs) (g ws)) (hkw : PK X kws tk)
    (hall : (backToKw pos (keywordEach kws X.env)).all (·.1.isSome) = true := by rfl) (hks : (backToKw pos (keywordEach kws X.env)).filterMap (·.1) = ks := by rfl)
    (hdb : (x == ("__debug__" : Str)) = false := by decide) (hpl : ((backTo pos (starEach [] X.env)).any (·.1) || (backToKw pos (keywordEach kws X.env)).any (·.1.isNone)) = false := by rfl) :
    PE X (.Call (.Name x p) [] kws pos) (tKwX ks.length sp g E tk) := by
  obtain ⟨f, fd, F, G, hm, b⟩ := c.ex
  have kb : KBn X.K fd ps 0 ks (fun _ ws => g ws) (fun _ zs => g zs) := by
    obtain ⟨oc, od, dV, kV, doc, pm, an, cdv, ct, osl, rfl, lk, hcd, hD, hK⟩ := F.ex
    rcases hD with ⟨_, rfl⟩ | ⟨z, _⟩
    · refine ⟨fun s us ws X1 l1 l2 => ?_, fun _ r => rel r⟩
      have e0 : us = [] := List.length_eq_zero_iff.mp l1
      subst e0
      exact .of_eq (bd kV doc pm an cdv ct ws l2)
    · exact absurd rfl z
  refine ⟨fun pins s σ H Q I h => ?_⟩
  refine wpAny_Call_Name_kw (ld_glob I hg hm ?_ hdb)
  refine PySem.W.callWith_KW0 (h₀ := X.base) I.ok.mod.kin F.kp hall (thn (hkw.run pos pins s σ H _ I h) fun ws s2 ⟨zs, H2, I2, rz, l2, q2⟩ => ⟨I2.kIn, ?_⟩) hpl
  rw [hks]
  exact run_fnN G (hr.mono hk) kb (passes_call hw fun _ _ _ _ z => z) I2 .nil rz rfl l2 q2
end
/-! ### own exception classes over ValueError, one field -/
theorem vErrS_ok {sl : Array (Option Value)} (h : vErrS sl = true) : ∃ y0 y1 y2 y3 y5, sl = #[y0, y1, y2, y3, some (.builtin "ValueError.__new__"), y5] := by
  cases sl with
  | mk l =>
    match l, h with
    | [y0, y1, y2, y3, y, y5], h =>
      have e : y = some (.builtin "ValueError.__new__") := of_decide_eq_true h
      exact ⟨y0, y1, y2, y3, y5, by rw [e]⟩
theorem vErrC_ok {C : Addr} {c : ClassData} (h : vErrC C c = true) : c.hasDict = true ∧ c.hasDel = false ∧ ∃ up, c.mro = .ref C :: up ∧ PySem.HandSPX.refsVE up = true := by
  unfold vErrC at h
  rw [Bool.and_eq_true, Bool.and_eq_true] at h
  refine ⟨h.1, by simpa using h.2.1, ?_⟩
  have h3 := h.2.2
  cases e : c.mro with
  | nil =>
    rw [e] at h3
    cases h3
  | cons top up =>
    rw [e] at h3
    have h4 := Bool.and_eq_true_iff.mp h3
    exact ⟨up, by rw [of_decide_eq_true h4.1], h4.2⟩
theorem oexB_ok {K : PySem.W.Frag} {C : Addr} (h : oexB K C = true) : OexC K C := by
  unfold oexB at h
  simp only [Bool.and_eq_true, decide_eq_true_eq] at h
  refine ⟨?_, h.2.1, h.2.2.1, h.2.2.2.1, h.2.2.2.2⟩
  have g := h.1
  cases look : K.lookup C with
  | none =>
    rw [look] at g
    cases g
  | some o =>
    rw [look] at g
    have g1 := Bool.and_eq_true_iff.mp g
    have g2 := Bool.and_eq_true_iff.mp g1.2
    have ec : o.cls = .type "type" := of_decide_eq_true g1.1
    obtain ⟨y0, y1, y2, y3, y5, es⟩ := vErrS_ok g2.1
    have g3 := g2.2
    cases o with
    | mk cl dct dat sl =>
      cases dat with
      | cls c =>
        obtain ⟨e1, e2, up, e3, hup⟩ := vErrC_ok g3
        cases c
        cases ec
        cases es
        cases e1
        cases e2
        cases e3
        exact ⟨_, _, _, _, up, _, _, _, _, _, y0, y1, y2, y3, y5, rfl, hup⟩
      | _ => cases g3
/-- the class x has an __init__ that keeps its one argument in the field f -/
structure EC (P : Program) (w : World) (K : PySem.W.Frag) (mg : Str → Option Value) (base : Heap) (x f : Str) : Prop where
  gC : mg x = some (.ref (He.ga K x))
  ox : OexC K (He.ga K x)
  xf : XfC K (He.ga K x)
  noN : PySem.W.findIn K (.ref (He.ga K x)) f = some none
  iC : PySem.W.findIn K (.ref (He.ga K x)) "__init__" = some (some (.ref (He.ma K (He.ga K x) "__init__")))
  tC : PySem.W.typeIn K (.ref (He.ma K (He.ga K x) "__init__")) = some (.type "function")
  fn : ∃ fd, FnOk P w K mg base CX0 1 (He.ma K (He.ga K x) "__init__") fd (["self", f] : List Str) (fun vs H Q _ => ∃ (a : Addr) (v : V), vs = [.ref a, v] ∧ H a = some (exo a (He.ga K x) none) ∧ ∀ dx, H dx = none → dx ≠ a → Q .non (upd (upd H dx (exd dx [(f, v)])) a (exo a (He.ga K x) (some dx)))) ∧ Binds K fd (["self", f] : List Str) []
section
variable {P : Program} {w : World} {K : PySem.W.Frag} {mg : Str → Option Value} {base : Heap} {h : Heap} {x f q : Str} {st : Stmt}
theorem EC.of {fd : FuncData} (gC : mg x = some (.ref (He.ga K x))) (e : ecB K x f = true) (F : FunD K "__init__" q (defArgs (initOf st)) (defBody (initOf st)) (defScope (initOf st)) [] [] (He.ma K (He.ga K x) "__init__") fd)
    (S : FnScope (["self", f] : List Str) (["self", f] : List Str) (defScope (initOf st)))
    (bd : ∀ (kV doc pm : Value) (an : Option Addr) (cdv ct : Value) (us : List Value), us.length = 2 → bindArgs (PySem.W.fnOf "__init__" q (defArgs (initOf st)) (defBody (initOf st)) (defScope (initOf st)) .none kV doc pm an cdv ct) ⟨us, []⟩ = pure ((["self", f] : List Str).zip us))
    (hb : ∀ X : Cx, X.N = (["self", f] : List Str) → X.env.scope = defScope (initOf st) → X.fn "self" = true → PSs X (defBody (initOf st)) (tSeq (tOst X.K f (tVar 0) (tVar 1)) tNext)) : EC P w K mg base x f := by
  obtain ⟨h1, e⟩ := Bool.and_eq_true_iff.mp e
  obtain ⟨h2, e⟩ := Bool.and_eq_true_iff.mp e
  obtain ⟨h3, e⟩ := Bool.and_eq_true_iff.mp e
  obtain ⟨h4, h5⟩ := Bool.and_eq_true_iff.mp e
  have ox := oexB_ok h1
  have noN := of_decide_eq_true h3
  refine ⟨gC, ox, xfB_ok h2, noN, of_decide_eq_true h4, of_decide_eq_true h5, fd, F.ok S (fun vs H Q E z => ?_) fun cdv A outer s H vs Q E hr z => ?_, F.bindsN bd⟩
  · obtain ⟨a, v, rfl, _⟩ := z
    rfl
  · obtain ⟨a, v, rfl, ha, q⟩ := z
    refine ⟨_, hb _ rfl rfl rfl, ?_⟩
    exact ⟨_, rfl, _, rfl, a, _, rfl, ox, noN, .inl ⟨ha, fun dx n ne => q dx n ne⟩⟩
end
/-- a reading that may be weakened -/
def tMono (ta : TA) : TA := fun σ H R => ∃ R0, ta σ H R0 ∧ ∀ vs H1, R0 vs H1 → R vs H1
theorem paMono {X : Cx} {es : List Expr} {ta : TA} (ha : PA X es ta) : PA X es (tMono ta) := ⟨fun pos pins s σ H R I h => by
  obtain ⟨R0, h0, im⟩ := h
  exact wpAny_mono (ha.run pos pins s σ H R0 I h0) (fun us s1 ⟨vs, H1, I1, r, q⟩ => ⟨vs, H1, I1, r, im _ _ q⟩) fun _ _ z => z⟩
/-- C(e) -/
def tMkE (C : Addr) (f : Str) (ta : TA) : L2.St → Hp → XK → Prop := fun σ H Q => ta σ H fun vs H1 => ∃ v, vs = [v] ∧ ∀ d, H1 d = none → Q (.ref C) (some d) (upd H1 d (.xd [(f, v)]))
theorem pmk_e {X : Cx} {x f : Str} {e : Expr} {ta : TA} {j : Nat} {p pos : Pos} (T : EC X.prog X.w X.K X.mg X.base x f) (hr : Room j X.A) (hj : 2 ≤ j) (hg : Gl X x) (ha : PA X [e] ta)
    (hdb : (x == ("__debug__" : Str)) = false := by decide) (he : starEach [e] X.env = (false, eval e X.env) :: starEach [] X.env := by rfl) (hpl : (backTo pos (starEach [] X.env)).any (·.1) = false := by rfl) :
    PMk X (.Call (.Name x p) [e] [] pos) (tMkE (He.ga X.K x) f ta) := by
  obtain ⟨fd, F1, hb⟩ := T.fn
  have M := pmk_oex (p := p) (pos := pos) T.ox T.iC T.tC F1 (hr.mono hj) hb (dvs := []) .nil pass0 hg T.gC (paMono ha) hdb he hpl
  intro pins s σ H Q I h
  refine M pins s σ H Q I ⟨_, h, fun vs H1 z => ?_⟩
  obtain ⟨v, rfl, q⟩ := z
  refine ⟨by show 1 ≤ 1000; decide, fun a na => ⟨a, v, rfl, upd_same, fun dx ndx ne => ⟨rfl, dx, _, upd_same, (upd_ne ne).trans upd_same, ?_, ?_⟩⟩⟩
  · rw [upd_ne ne] at ndx
    exact ndx
  · rw [upd_ne ne] at ndx
    have e1 : upd (del (upd (upd (upd H1 a (exo a (He.ga X.K x) none)) dx (exd dx [(f, v)])) a (exo a (He.ga X.K x) (some dx))) a) dx (.xd [(f, v)]) = upd H1 dx (.xd [(f, v)]) := by
      funext b
      by_cases hb : b = dx
      · rw [hb, upd_same, upd_same]
      · rw [upd_ne hb, upd_ne hb]
        by_cases ha : b = a
        · rw [ha, del_same, na]
        · rw [del_ne ha, upd_ne ha, upd_ne hb, upd_ne ha]
    rw [e1]
    exact q dx ndx
end Lp
namespace Lp
open PySem PySem.Spec PyProof.Rows L2
/-! ### a try whose clause names three classes -/
/-- more objects stand beside an exception in flight -/
theorem flyK {B h h' : Heap} {l : List Env} {a : Addr} {Z : Obj → Prop} (fl : HandSPX.FlyingZ B l a Z h) (k : ∀ b o, h.get? b = some o → h'.get? b = some o) : HandSPX.FlyingZ B l a Z h' := by
  obtain ⟨c1, c2, c3, oe, vs, T, oT, ts, d1, d2, d3, d4, d5, d6, d7, d8, d9⟩ := fl
  exact ⟨fun b o z => k b o (c1 b o z), c2, c3.of_keeps fun b o z _ => ⟨o, k b o z, rfl⟩, oe, vs, T, oT, ts, k _ _ d1, d2, d3, d4, d5, d6, k _ _ d7, d8, d9⟩
/-- the clause's test of an exception of the class cls: it is one of these -/
structure TstOk (X : Cx) (t : Expr) (mt : Value → Option Bool) : Prop where
  run : ∀ (a : Addr) (pn : List (Addr × Obj)) (pins : List (Addr × Obj)) (σ : L2.St) (H : Hp) (s : Shared) (cls : Value) (Q : Bool → Shared → Prop) (E : Value → Shared → Prop), mt cls = some true → Inv (X.suite a pn) pins σ H s →
    PySem.W.Looks (model X.prog X.w) s.heap (typeOf (.ref a)) cls → (∀ h', (∀ b o, s.heap.get? b = some o → h'.get? b = some o) → Q true { s with heap := h' }) →
    wpAny (model X.prog X.w) (X.A.mark (some (.ref a))) (eval t X.env) (fun c s1 => wpAny (model X.prog X.w) (X.A.mark (some (.ref a))) (excMatches (.ref a) c) Q E s1) E s
theorem tst3 {X : Cx} {x1 x2 x3 : Str} {c1 c2 c3 : Value} {q1 q2 q3 q : Pos} {n : Nat} (g1 : Gl X x1) (g2 : Gl X x2) (g3 : Gl X x3) (m1 : X.mg x1 = some c1) (m2 : X.mg x2 = some c2) (m3 : X.mg x3 = some c3)
    (u1 : (x1 == ("__debug__" : Str)) = false := by decide) (u2 : (x2 == ("__debug__" : Str)) = false := by decide) (u3 : (x3 == ("__debug__" : Str)) = false := by decide) :
    TstOk X (.Tuple [.Name x1 q1, .Name x2 q2, .Name x3 q3] n q) (fun cls => PySem.W.exmAny X.K cls [c1, c2, c3]) := ⟨fun a pn pins σ H s cls Q E hm I lt fin => by
  refine wpAny_Tuple (wpAny_items_cons (ld_glob (X := X.suite a pn) I g1 m1 ?_ u1))
  refine wpAny_items_cons (ld_glob (X := X.suite a pn) I g2 m2 (wpAny_items_cons (ld_glob (X := X.suite a pn) I g3 m3 ?_ u3)) u2)
  refine wpAny_items_nil ⟨(by show 3 ≤ sizeLine; decide), ?_⟩
  have more : ∀ b o, s.heap.get? b = some o → (s.heap.push { cls := .type "tuple", data := .seq [c1, c2, c3].toArray }).get? b = some o := fun _ _ z => Heap.get?_push_of_some _ z
  exact (PySem.W.exm_tup3 (I.kIn.keeps more) (lt.keeps more) (Heap.get?_push_size s.heap rfl) hm).here (fin _ more)⟩
/-- what such a clause wishes of an exception of the body; its name stands in slot i -/
def wTs (mt : Value → Option Bool) (i : Nat) (ts : Addr → Value → Option Addr → TS) (D : Ends) : WX := fun cls d σ H =>
  mt cls = some true ∧ ∀ a, H a = none → ts a cls d { nx := fun σ2 H2 => D.nx (σ2.set i none) H2, rt := D.rt, bk := fun σ2 H2 => D.bk (σ2.set i none) H2, ct := fun σ2 H2 => D.ct (σ2.set i none) H2 } (σ.set i (some (.ref a))) H
theorem ps_tryT {X : Cx} {n : Str} {t : Expr} {mt : Value → Option Bool} {i : Nat} {body suite : List Stmt} {b0 : Stmt} {pos pos2 : Pos} {tb : WX → TS} {ts : Addr → Value → Option Addr → TS} (hs : X.stack = X.env :: X.outer) (hf : X.env.frame = some X.env.locals) (hN : X.N.Nodup) (hi : X.N[i]? = some n)
    (hln : X.env.kindOf n = some .local) (ht : TstOk X t mt) (hb : ∀ (W : WX) (pn : List (Addr × Obj)) (xe : Value → Shared → Prop), Takes (X.tr pn xe) W → PassesOwn (model X.prog X.w) X.A X.env xe → PSs (X.tr pn xe) body (tb W))
    (hsu : ∀ (a : Addr) (oe : Obj) (cls : Value) (d : Option Addr) (pn : List (Addr × Obj)), Zc cls d oe → (∃ vs, oe.data = .fields vs) → PSs (X.suite a ((a, oe) :: pn)) (b0 :: suite) (ts a cls d)) :
    PS X (.Try body [.ExceptHandler (some t) (some n) (b0 :: suite) pos2] [] [] pos) (fun D σ H => tb (wTs mt i ts D) D σ H) := ⟨fun pins s σ H D I h => by
  have gone : ∀ {a : Addr} {oe : Obj} {s6 : Shared} {σ6 : L2.St} {H6 : Hp} {Q : Shared → Prop}, Inv (X.suite a ((a, oe) :: (X.pn ++ pins))) [] σ6 H6 s6 → (∀ s7, Inv X pins (σ6.set i none) H6 s7 → Q s7) →
      wpAny (model X.prog X.w) X.A (do bindName X.env n .none; unbindBehindTheSuite X.env n pos2) (fun _ s7 => Q s7) X.xe s6 := fun J go => gone_ok (J.unsuite I.ok) hN hi hln go
  -- an exception of the body
  have meet : ∀ u s1, XE (X.tr (X.pn ++ pins) fun e s₁ => wpAny (model X.prog X.w) X.A (noteFrame e X.env) (fun _ s₂ => wpAny (model X.prog X.w) X.A (setFlight e none) (fun _ s₃ => wpAny (model X.prog X.w) X.A (handleBy e X.env [.ExceptHandler (some t) (some n) (b0 :: suite) pos2]) (SP X pins D) X.xe s₃) X.xe s₂) X.xe s₁) (wTs mt i ts D) u s1 →
      wpAny (model X.prog X.w) X.A (noteFrame u X.env) (fun _ s₂ => wpAny (model X.prog X.w) X.A (setFlight u none) (fun _ s₃ => wpAny (model X.prog X.w) X.A (handleBy u X.env [.ExceptHandler (some t) (some n) (b0 :: suite) pos2]) (SP X pins D) X.xe s₃) X.xe s₂) X.xe s1 := fun u s1 xx => by
    obtain ⟨a, B, sI, pins2, σ2, H2, cls, d, eu, J0, ground, up, sky, na, os, bare, hmt, yes⟩ := xx
    subst eu
    have J : Inv X pins σ2 H2 sI := J0.ofTry I.ok
    have frames : X.A.frames = some (X.env :: X.outer) := by rw [I.ok.frames, hs]
    have sky2 : Sky B (X.env :: X.outer) a (Zc cls d) X.env.locals s1.heap := hs ▸ sky
    refine Sky.land Zc.steady frames hf sky2 fun h3 f3 up3 => ?_
    obtain ⟨o3, v3, e3, z3, d3⟩ := f3.there
    have away : a ∉ frs (X.env :: X.outer) := fun hm => by
      obtain ⟨_, o4, e4, no⟩ := f3.2.2.1.mem hm
      rw [e3] at e4
      cases e4
      exact no _ d3
    have n1 : a ≠ X.env.locals := fun z => away (List.mem_filterMap.mpr ⟨X.env, List.mem_cons_self, by rw [hf, z]⟩)
    have n2 : a ∉ X.fs := fun hm => by
      obtain ⟨e, he, z⟩ := List.mem_filterMap.mp hm
      exact away (List.mem_filterMap.mpr ⟨e, List.mem_cons_of_mem _ he, z⟩)
    have land : ∀ {g : Heap}, HandSPX.FlyingZ B (X.env :: X.outer) a (Zc cls d) g → sI.heap.UpToSlots g → Inv X pins σ2 H2 { s1 with heap := g } := fun fg ug => J.landed ground fg.1 ug os bare
    have S3 := (land f3 (up.trans up3)).suite e3 d3 na n1 n2
    have isa : PySem.W.Looks (model X.prog X.w) h3 (typeOf (.ref a)) cls := fun A Q E s k q => wpAny_typeOf_ref (k _ _ e3) (by rw [z3.1]; exact q)
    refine wpAny_handleBy_cons (codeAny_handlers_test (ht.run a _ _ _ _ _ cls _ _ hmt S3 isa fun h4 k4 => ?_)) (by intro z; cases z)
    refine codeAny_handlers_suite_as (HandSPX.lands_againZ (flyK f3 k4) fun h5 f5 up5 => ?_)
    have up4 : sI.heap.UpToSlots h4 := (up.trans up3).trans (Heap.UpToSlots.of_keeps k4)
    obtain ⟨o5, v5, e5, z5, d5⟩ := f5.there
    have S5 := (land f5 (up4.trans up5)).suite e5 d5 na n1 n2
    refine store_ok (X := X.suite a ((a, o5) :: (X.pn ++ pins))) (v := .ref a) S5 hN hi (.inl hln) rfl (fun s6 S6 => ?_) (.inr hln)
    refine wpAny_mono ((hsu a o5 cls d (X.pn ++ pins) z5 ⟨_, d5⟩).run [] s6 _ H2 _ S6 (yes a na)) (fun f s7 e7 => ?_) fun _ _ z => z.elim
    cases f with
    | ret v =>
      obtain ⟨y, σ7, H7, S7, r7, q7⟩ := e7
      exact gone S7 fun s8 J8 => ⟨_, _, _, J8, r7, q7⟩
    | next =>
      obtain ⟨σ7, H7, S7, q7⟩ := e7
      exact gone S7 fun s8 J8 => ⟨_, _, J8, q7⟩
    | cont =>
      obtain ⟨σ7, H7, S7, q7⟩ := e7
      exact gone S7 fun s8 J8 => ⟨_, _, J8, q7⟩
    | brk =>
      obtain ⟨σ7, H7, S7, q7⟩ := e7
      exact gone S7 fun s8 J8 => ⟨_, _, J8, q7⟩
  refine wpAny_Try_except (wpAny_mono ((hb (wTs mt i ts D) (X.pn ++ pins) _ meet PassesOwn.looking).run [] s σ H D (I.toTry _) h) (fun f s1 e1 => ?_) fun _ _ z => z)
  cases f with
  | ret v =>
    obtain ⟨y, σ2, H2, J, r2, q2⟩ := e1
    exact ⟨y, σ2, H2, J.ofTry I.ok, r2, q2⟩
  | next =>
    obtain ⟨σ2, H2, J, q2⟩ := e1
    exact wpAny_execs_nil ⟨σ2, H2, J.ofTry I.ok, q2⟩
  | cont =>
    obtain ⟨σ2, H2, J, q2⟩ := e1
    exact ⟨σ2, H2, J.ofTry I.ok, q2⟩
  | brk =>
    obtain ⟨σ2, H2, J, q2⟩ := e1
    exact ⟨σ2, H2, J.ofTry I.ok, q2⟩⟩
end Lp
namespace Lp
open PySem PySem.Spec PyProof.Rows L2
/-! ### list.count of flat things -/
def rCntF (K : PySem.W.Frag) : V → List V → Hp → VK → Prop := fun x xs H Q => ∃ (a : Addr) (ys : List V) (y : V), x = .ref a ∧ xs = [y] ∧ SqL K H a ys ∧ flatV y = true ∧ ys.all flatV = true ∧ Q (.int ((ys.countP fun z => eqV z y : Nat) : Int)) H
theorem countU {ys : List V} {y : V} {uy : Value} : ∀ {its : List Value}, Vals ys its → ys.all flatV = true → its.countP (eqU y) = ys.countP fun z => eqV z y := by
  intro its r
  induction r with
  | nil => intro _; rfl
  | cons rv _ ih =>
    intro f
    obtain ⟨f1, f2⟩ := Bool.and_eq_true_iff.mp f
    rw [List.countP_cons, List.countP_cons, ih f2, eqU_of rv f1]
theorem mt_fcount {X : Cx} : MtR X "list.count" (rCntF X.K) := by
  intro pins s σ H x xs v us Q I rx rs h
  obtain ⟨a, ys, y, rfl, rfl, hs, fy, fys, q⟩ := h
  cases rx
  obtain ⟨uy, rfl, ry⟩ := rs.one
  obtain ⟨its, rv, ⟨⟨c1, c2, c3, c4⟩, n, ho, e1, e2, e3⟩, _⟩ := I.list hs
  simp only at e1 e3
  subst e1 e3
  refine call_meets PySem.F.slot_list_count ⟨_, ho, rfl⟩ PySem.F.entry_list_count (PySem.F.args_list_count_2 _ _) (SeqAt.list_countAt a its.toArray n c2 c4 uy (eqU y)) ⟨ho, fun z hz => mem_eqAt ry fy rv fys z (by simpa using hz), ?_⟩
  have ec : its.toArray.toList.countP (eqU y) = ys.countP fun z => eqV z y := countU (uy := uy) rv fys
  rw [ec]
  exact ⟨.int ((ys.countP fun z => eqV z y : Nat) : Int), H, I.tok _, ⟨s.toks, rfl⟩, q⟩
/-! ### defs that are called with the exception in hand -/
abbrev SpZ := Addr × Obj → Sp
structure FnZ (P : Program) (w : World) (K : PySem.W.Frag) (mg : Str → Option Value) (base : Heap) (k : Nat) (f : Addr) (fd : FuncData) (ps : List Str) (sp : SpZ) : Prop where
  len : ∀ p vs H Q E, sp p vs H Q E → vs.length = ps.length
  run : ∀ (A : Around) (outer : List Env) (s : Shared) (H : Hp) (args : Args) (us : List Value) (vs : List V) (Q : VK) (E : XK) (p : Addr × Obj), L2H.RoomH k A → L2H.PinOk outer H s p → Env0 P w K mg base A outer s H → BindsTo s fd args (ps.zip us) → Vals vs us → sp p vs H Q E →
    codeAny (model P w) A (.call (.ref f) args) (CR CX0 outer P w H s Q E) s
structure ClZ (P : Program) (w : World) (K : PySem.W.Frag) (mg : Str → Option Value) (base : Heap) (k : Nat) (x : Str) (st : Stmt) (ps : List Str) (sp : SpZ) : Prop where
  ex : ∃ f fd, FnP K x st f fd ∧ FnZ P w K mg base k f fd ps sp ∧ mg x = some (.ref f) ∧ Binds K fd ps []
section
variable {P : Program} {w : World} {K : PySem.W.Frag} {mg : Str → Option Value} {base : Heap} {x : Str} {st : Stmt} {N ps : List Str} {k : Nat} {sp : SpZ}
theorem Df.okZ (D : Df K mg x st) (S : FnScope N ps (defScope st))
    (bd : ∀ (kV doc pm : Value) (an : Option Addr) (cdv ct : Value) (us : List Value), us.length = ps.length → bindArgs (PySem.W.fnOf x x (defArgs st) (defBody st) (defScope st) .none kV doc pm an cdv ct) ⟨us, []⟩ = pure (ps.zip us))
    (len : ∀ p vs H Q E, sp p vs H Q E → vs.length = ps.length)
    (body : ∀ (f : Addr) (cdv : Value) (A : Around) (outer : List Env) (s : Shared) (H : Hp) (vs : List V) (Q : VK) (E : XK) (p : Addr × Obj), L2H.RoomH k (A.deeper (envOfC x (defScope st) s.heap.objs.size f cdv)) → sp p vs H Q E →
      ∃ t, PSs (L2H.cxH CX0 P w K mg base N x (defScope st) f cdv A outer s H E p).nox (defBody st) t ∧ t { nx := fun _ H' => Q .non H', rt := Q } (start N vs) H) : ClZ P w K mg base (k + 1) x st ps sp := by
  obtain ⟨f, fd, F, hm⟩ := D.ex
  refine ⟨f, fd, F, ?_, hm, F.bindsN bd⟩
  obtain ⟨oc, od, dV, kV, doc, pm, an, cdv, ct, osl, rfl, lk, hcd, _, _⟩ := F.ex
  refine ⟨len, fun A outer s H args us vs Q E p hr pin e0 hb rel hsp => ?_⟩
  have ln := len _ _ _ _ _ hsp
  have kx : K.In s.heap := e0.mod.kin.keeps fun b o e => (e0.bs b o e).1
  have nl : s.heap.NoLimit := e0.mod.nolimit.keeps fun b o e => (e0.bs b o e).1
  have kinds : ∀ y ∈ ps.zip us, (defScope st).names.lookup y.1 = some .local ∨ ((defScope st).names.lookup y.1 = some .cell ∧ ((cellsFrom (s.heap.objs.size + 1) (defScope st).names []).lookup y.1).isSome = true) := fun y hy => by
    obtain ⟨nm, vl⟩ := y
    rcases S.par nm (List.of_mem_zip hy).1 with z | z
    · exact Or.inl z
    · exact Or.inr ⟨z, PySem.W.cellsFrom_some _ _ _ (Or.inl z)⟩
  refine codeAny_call_function hr.depth (kx _ _ lk) rfl S.co S.gen rfl (PySem.W.codeRec_of kx hcd) (hb _ _ _ _ ?_)
  refine wpAny_newFunctionEnv_cells S.kind kinds fun env henv s1 xc => ?_
  subst henv
  refine ⟨nl.keeps xc.toInCall.keep, codeAny_func ?_⟩
  obtain ⟨t, ht, hq⟩ := body f cdv A outer s H vs Q E p (hr.deeper _) hsp
  have ini : L2.Inv (L2H.cxH CX0 P w K mg base N x (defScope st) f cdv A outer s H E p) [] (start N vs) H s1 := L2H.inv_startH S pin e0 ln rel xc
  refine wpAny_mono (ht.nox.run [] s1 (start N vs) H _ ini hq) (fun fl s2 hs => ?_) fun e s2 hs => hs
  have back : ∀ {σ2 : L2.St} {H2 : Hp} {v : V} {u : Value}, L2.Inv (L2H.cxH CX0 P w K mg base N x (defScope st) f cdv A outer s H E p) [] σ2 H2 s2 → RelV v u → Q v H2 → CE outer P w H s Q u s2 :=
    fun {σ2 H2 v u} J rv q => ⟨v, H2, J.os, J.bare, J.base, J.hok, rv, q⟩
  cases fl with
  | ret u =>
    obtain ⟨v, σ2, H2, J, rv, q⟩ := hs
    exact back J rv q
  | next =>
    obtain ⟨σ2, H2, J, q⟩ := hs
    exact back (v := V.non) (u := Value.none) J rfl q
  | brk =>
    obtain ⟨_, _, _, q⟩ := hs
    exact q.elim
  | cont =>
    obtain ⟨_, _, _, q⟩ := hs
    exact q.elim
end
section
variable {X : Cx} {x : Str} {st : Stmt} {ps : List Str} {j k : Nat} {sp : SpZ} {e : Expr} {es : List Expr} {t : TA} {q pos : Pos} {p : Addr × Obj}
/-- f(e, ..) in a suite: p is the exception that is handled -/
theorem pe_z (c : ClZ X.prog X.w X.K X.mg X.base k x st ps sp) (hr : L2H.RoomH j X.A) (hk : k ≤ j) (hp : p ∈ X.pn) (hg : Gl X x) (ha : PA X (e :: es) t)
    (hdb : (x == ("__debug__" : Str)) = false := by decide) (he : starEach (e :: es) X.env = (false, eval e X.env) :: starEach es X.env := by rfl) (hpl : (backTo pos (starEach es X.env)).any (·.1) = false := by rfl) :
    PE X (.Call (.Name x q) (e :: es) [] pos) (tCall (sp p) [] E0 t) := by
  obtain ⟨f, fd, F, G, hm, b⟩ := c.ex
  refine ⟨fun pins s σ H Q I h => wpAny_Call_Name_kw (ld_glob I hg hm ?_ hdb)⟩
  refine PySem.W.callWith_K (h₀ := X.base) I.ok.mod.kin F.kp (thn (ha.run pos pins s σ H _ I h) fun us s1 ⟨vs, H1, I1, rel, z0⟩ => ⟨I1.kIn, ?_⟩) he hpl
  have q1 : sp p vs H1 Q E0 := by
    have z : sp p (vs ++ []) H1 Q E0 := z0
    rw [List.append_nil] at z
    exact z
  have ln : (us ++ []).length = ps.length := by
    rw [List.append_nil, ← rel.length]
    exact G.len _ _ _ _ _ q1
  have bd := b s1 us I1.kIn ln
  rw [List.append_nil] at bd
  have P1 := I1.pin p (List.mem_append_left _ hp)
  have pin : L2H.PinOk X.stack H1 s1 p := ⟨P1.1, P1.2.1, fun hm => (List.mem_cons.mp (I1.stkSub p.1 hm)).elim P1.2.2.1 P1.2.2.2.1, P1.2.2.2.2⟩
  refine wpAny_call (codeAny_mono (G.run X.A X.stack s1 H1 ⟨us, []⟩ us vs Q E0 p (hr.mono hk) pin I1.env0 bd rel q1) fun res s2 hq => ?_)
  cases res with
  | error er => exact hq.elim
  | ok fl =>
    cases fl with
    | ret u => exact I1.after hq
    | next => exact hq.elim
    | brk => exact hq.elim
    | cont => exact hq.elim
end
/-! ### isinstance of the exception in hand; its field -/
/-- an instance of the class D, with its dict -/
structure ExZ (p : Addr × Obj) (D dd : Addr) : Prop where
  z : Zc (.ref D) (some dd) p.2
  f : ∃ vs, p.2.data = .fields vs
def rIsZ (K : PySem.W.Frag) (p : Addr × Obj) (D dd : Addr) : List V → Hp → VK → Prop := fun xs H Q => ∃ (c : V) (cv : Value) (b : Bool) (fs : List (Str × V)), xs = [.ref p.1, c] ∧ (∀ u, RelV c u → u = cv) ∧ PySem.W.kitOne K (.ref D) cv = some b ∧ H dd = some (.xd fs) ∧ Q (.bl b) H
theorem call_isZ {X : Cx} {p : Addr × Obj} {D dd : Addr} (C : ExcC X.K D) (hp : p ∈ X.pn) (hz : ExZ p D dd) : CallR X (.builtin "isinstance") (rIsZ X.K p D dd) := by
  intro pins s σ H xs us Q I r h
  obtain ⟨c, cv, b, fs, rfl, hcv, e, hd, q⟩ := h
  cases r with
  | cons rx rr =>
    cases rr with
    | cons rt rr =>
      cases rr
      cases rx
      cases hcv _ rt
      have get := (I.pin p (List.mem_append_left _ hp)).1
      obtain ⟨mA, hns, _⟩ : ∃ mA, s.heap.Ns1 dd mA ∧ ∀ f, RelO (fs.lookup f) (mA f) := I.hok dd _ hd
      obtain ⟨od, ho, _⟩ := lookIn_ns hns
      obtain ⟨vs, hv⟩ := hz.f
      have J : PySem.W.InstAt s.heap p.1 p.2 D (some od) := ⟨get, hz.z.1, by unfold PySem.W.notCls; rw [hv] <;> rfl, by rw [hz.z.2]; exact ho⟩
      obtain ⟨cd, hc, _⟩ := PySem.W.any_some C.hd
      exact PySem.W.kia_one (PySem.W.kitx_exc (by rw [hc]; rfl) C.hg C.hk C.hs C.ha C.hn C.ht C.hm) I.kIn J e (fun z => nomatch z) fun tk => ⟨.bl b, H, I.kept (t' := tk) fun _ _ z => z, rfl, q⟩
end Lp
namespace Lp
open PySem PySem.Spec PyProof.Rows L2
/-! ### repr of data, of an empty dict too; also where an exception is in hand -/
def RpE (K : PySem.W.Frag) (H : Hp) (v : V) (z : Str) : Prop := (∃ d, Dp K H v d ∧ d.canLay0 = true ∧ d.depth ≤ 60 ∧ d.showable = true ∧ d.shown.length ≤ sizeLine ∧ z = d.shown) ∨ ∃ a, v = .ref a ∧ H a = some (.dK []) ∧ z = (PyData.dict []).shown
mutual
theorem dp_same {K : PySem.W.Frag} {H H' : Hp} (s : Same H H') : ∀ (d : PyData) (v : V), Dp K H v d → Dp K H' v d
  | .none, _, h => by cases h; exact .non
  | .bool b, _, h => by cases h; exact .bl b
  | .int i, _, h => by cases h; exact .int i
  | .str x, _, h => by cases h; exact .str x
  | .list ds, _, h => by
    cases h with
    | lst hs ha => exact .lst (s.seq hs) (dpAll_same s ds _ ha)
  | .tuple ds, _, h => by
    cases h with
    | tup hs ha => exact .tup (SqT.same s hs) (dpAll_same s ds _ ha)
  | .dict _, _, h => by cases h
theorem dpAll_same {K : PySem.W.Frag} {H H' : Hp} (s : Same H H') : ∀ (ds : List PyData) (vs : List V), DpAll K H vs ds → DpAll K H' vs ds
  | [], _, h => by cases h; exact .nil
  | d :: ds, _, h => by
    cases h with
    | cons h1 h2 => exact .cons (dp_same s d _ h1) (dpAll_same s ds _ h2)
end
theorem RpE.same {K : PySem.W.Frag} {H H' : Hp} {v : V} {z : Str} (h : RpE K H v z) (s : Same H H') : RpE K H' v z := by
  rcases h with ⟨d, h1, h2⟩ | ⟨a, h1, h2, h3⟩
  · exact .inl ⟨d, dp_same s d v h1, h2⟩
  · exact .inr ⟨a, h1, s _ _ h2, h3⟩
theorem RpE.non {K : PySem.W.Frag} {H : Hp} : RpE K H .non PyData.none.shown := .inl ⟨_, .non, rfl, by decide, rfl, by decide +kernel, rfl⟩
theorem RpE.bl {K : PySem.W.Frag} {H : Hp} (b : Bool) : RpE K H (.bl b) (PyData.bool b).shown := .inl ⟨_, .bl b, rfl, by cases b <;> decide, by cases b <;> rfl, by cases b <;> decide +kernel, rfl⟩
theorem RpE.int {K : PySem.W.Frag} {H : Hp} {i : Int} (h : i.natAbs.log2 < 1920) : RpE K H (.int i) (PyData.int i).shown := by
  refine .inl ⟨_, .int i, ?_, ?_, ?_, ?_, rfl⟩
  · simp only [PyData.canLay0]
  · simp only [PyData.depth]
    decide
  · simp only [PyData.showable]
    exact decide_eq_true h
  · simp only [PyData.shown]
    have h1 := int_text_len_1921 h
    have h3 : (toString i : Str).length ≤ 1921 := h1
    rw [sizeLine_eq]
    omega
theorem RpE.str {K : PySem.W.Frag} {H : Hp} (x : Str) (ho : PyData.strOk x = true) (h : (PyData.str x).shown.length ≤ sizeLine) : RpE K H (.str x) (PyData.str x).shown := by
  refine .inl ⟨_, .str x, ?_, ?_, ?_, h, rfl⟩
  · simp only [PyData.canLay0]
    exact ho
  · simp only [PyData.depth]
    decide
  · simp only [PyData.showable]
theorem RpE.dict {K : PySem.W.Frag} {H : Hp} {a : Addr} (h : H a = some (.dK [])) : RpE K H (.ref a) (PyData.dict []).shown := .inr ⟨a, rfl, h, rfl⟩
def rReprE (K : PySem.W.Frag) : List V → Hp → VK → Prop := fun xs H Q => ∃ (v : V) (z : Str), xs = [v] ∧ RpE K H v z ∧ Q (.str z) H
theorem call_reprE {X : Cx} {k : Nat} (hr : L2H.RoomH k X.A) (hgd : X.A.guards = some []) : CallR X (.builtin "repr") (rReprE X.K) := by
  intro pins s σ H xs us Q I r h
  obtain ⟨v, z, rfl, hz, q⟩ := h
  obtain ⟨u, rfl, rv⟩ := vals1 r
  have hu := hr.un
  rcases hz with ⟨d, hd, hl, hdp, hs, hz, rfl⟩ | ⟨a, rfl, ha, rfl⟩
  · have fin : ∀ (h' : Heap) (t : Tok) (tk : Tok), (∀ b o, s.heap.get? b = some o → h'.get? b = some o) → EP X pins σ Q (.str d.shown t) { s with heap := h', toks := tk } := fun h' t tk hk =>
      ⟨.str d.shown, H, I.kept (t' := tk) hk, ⟨t, rfl⟩, q⟩
    have fin0 : ∀ (t tk : Tok), EP X pins σ Q (.str d.shown t) { s with toks := tk } := fun t tk => fin s.heap t tk fun _ _ e => e
    obtain ⟨as, rd⟩ := Dp.reads I d v u hd rv
    cases hd with
    | non =>
      cases rv
      exact PySem.P.repr_of_none (fin0 _ _)
    | bl b =>
      cases rv
      have z := fin0 s.toks (s.toks + 1)
      cases b <;> exact PySem.P.repr_of_bool z
    | int i =>
      obtain ⟨t, rfl⟩ := rv
      have hs2 : i.natAbs.log2 < 1920 := of_decide_eq_true hs
      exact PySem.P.repr_of_int hs2 (fin0 _ _)
    | str x =>
      obtain ⟨t, rfl⟩ := rv
      exact PySem.P.repr_of_str (fin0 _ _) hz
    | lst _ _ =>
      cases rv
      exact repr_of_reads' rd hs (PyData.noDict_hsm (PyData.hasDict_of_canLay _ hl)) hgd (by omega) (fun _ _ e => e) (fun h' t tk hk => fin h' t tk hk) hz
    | tup _ _ =>
      cases rv
      exact repr_of_reads' rd hs (PyData.noDict_hsm (PyData.hasDict_of_canLay _ hl)) hgd (by omega) (fun _ _ e => e) (fun h' t tk hk => fin h' t tk hk) hz
  · obtain ⟨_, nsm, vs, kv, o, es, ep, g1, g2, g3, g4, g5, _⟩ := dk_of I.hok ha
    cases rv
    have e0 : vs = [] := by cases kv; rfl
    subst e0
    have e1 : es.toList = [] := List.length_eq_zero_iff.mp g5.length
    have rd : Reads s.heap (.ref a) (.dict []) [a] := by
      have r0 := Reads.dict (kvs := []) (as := []) (bs := []) g1 g2.1 g3 (by rw [e1]; exact .nil) (by rw [e1]; exact .nil)
      exact r0
    refine repr_of_reads' rd rfl (fun _ hm => ?_) hgd (by show X.A.units + (_ + 1) < cLine; have : (PyData.dict []).depth ≤ 60 := by decide
                                                          omega) (fun _ _ e => e) (fun h' t tk hk => ⟨.str _, H, I.kept (t' := tk) hk, ⟨t, rfl⟩, q⟩) (by decide +kernel)
    rw [List.mem_singleton.mp hm] at nsm
    rw [beq_self_eq_true] at nsm
    cases nsm
end Lp
namespace Lp
open PySem PySem.Spec PyProof.Rows L2
theorem call_reprK {X : Cx} {K : PySem.W.Frag} {k : Nat} (e : X.K = K) (hr : L2H.RoomH k X.A) (hgd : X.A.guards = some []) : CallR X (.builtin "repr") (rReprE K) := e ▸ call_reprE hr hgd
theorem rm_mark {k : Nat} {A : Around} (r : Room k A) (h : Option Value) : L2H.RoomH k (A.mark h) := ⟨r.dp, r.un⟩
/-- a try whose suite may be read for every object that the exception may be -/
abbrev wTo (mt : Value → Option Bool) (i : Nat) (ts : Addr → Obj → Value → Option Addr → TS) (D : Ends) : WX := wTs mt i (fun a cls d D σ H => ∀ oe, Zc cls d oe → (∃ vs, oe.data = .fields vs) → ts a oe cls d D σ H) D
theorem ps_tryO {X : Cx} {n : Str} {t : Expr} {mt : Value → Option Bool} {i : Nat} {body suite : List Stmt} {b0 : Stmt} {pos pos2 : Pos} {tb : WX → TS} {ts : Addr → Obj → Value → Option Addr → TS} (hs : X.stack = X.env :: X.outer) (hf : X.env.frame = some X.env.locals) (hN : X.N.Nodup) (hi : X.N[i]? = some n)
    (hln : X.env.kindOf n = some .local) (ht : TstOk X t mt) (hb : ∀ (W : WX) (pn : List (Addr × Obj)) (xe : Value → Shared → Prop), Takes (X.tr pn xe) W → PassesOwn (model X.prog X.w) X.A X.env xe → PSs (X.tr pn xe) body (tb W))
    (hsu : ∀ (a : Addr) (oe : Obj) (cls : Value) (d : Option Addr) (pn : List (Addr × Obj)), Zc cls d oe → (∃ vs, oe.data = .fields vs) → PSs (X.suite a ((a, oe) :: pn)) (b0 :: suite) (ts a oe cls d)) :
    PS X (.Try body [.ExceptHandler (some t) (some n) (b0 :: suite) pos2] [] [] pos) (fun D σ H => tb (wTo mt i ts D) D σ H) :=
  ps_tryT (mt := mt) (tb := tb) (ts := fun a cls d D σ H => ∀ oe, Zc cls d oe → (∃ vs, oe.data = .fields vs) → ts a oe cls d D σ H) hs hf hN hi hln ht hb fun a oe cls d pn hz hv => ⟨fun pins s σ H D I h => (hsu a oe cls d pn hz hv).run pins s σ H D I (h oe hz hv)⟩
end Lp
namespace Lp
open PySem PySem.Spec PyProof.Rows L2
/-! ### a def out of a list, called by position; it may raise -/
def IsX (P : Program) (w : World) (K : PySem.W.Frag) (mg : Str → Option Value) (base : Heap) (k : Nat) (f : Addr) (sp : Sp) : Prop := ∃ (fd : FuncData) (ps : List Str), FnOk P w K mg base (L2.CX P w) k f fd ps sp ∧ PySem.W.keepIn K (.ref f) = true ∧ Binds K fd ps []
theorem ClX.isX {P : Program} {w : World} {K : PySem.W.Frag} {mg : Str → Option Value} {base : Heap} {k : Nat} {x : Str} {st : Stmt} {ps : List Str} {sp : Sp} {a : Addr} (c : ClX P w K mg base k x st ps sp) (hm : mg x = some (.ref a)) : IsX P w K mg base k a sp := by
  obtain ⟨f, fd, F, G, m, b⟩ := c.ex
  cases m.symm.trans hm
  exact ⟨fd, ps, G, F.kp, b⟩
theorem IsX.mono {P : Program} {w : World} {K : PySem.W.Frag} {mg : Str → Option Value} {base : Heap} {j k : Nat} {f : Addr} {sp : Sp} {X : Cx} (c : IsX P w K mg base k f sp) (hr : Room j X.A) (hk : k ≤ j) : Room k X.A := hr.mono hk
def tCallE (P : Program) (w : World) (K : PySem.W.Frag) (mg : Str → Option Value) (base : Heap) (j : Nat) (W : WX) (te : TE) (t : TA) : TE := fun σ H Q => te σ H fun x H1 => ∃ (k : Nat) (f : Addr) (sp : Sp), k ≤ j ∧ x = .ref f ∧ IsX P w K mg base k f sp ∧ t σ H1 fun vs H2 => sp vs H2 Q (WE W σ)
theorem pe_xe {X : Cx} {v i e : Expr} {es : List Expr} {te : TE} {t : TA} {W : WX} {j : Nat} {p pos : Pos} (hw : Takes X W) (hr : Room j X.A) (hf : PE X (.Subscript v i p) te) (ha : PA X (e :: es) t)
    (he : starEach (e :: es) X.env = (false, eval e X.env) :: starEach es X.env := by rfl) (hpl : (backTo pos (starEach es X.env)).any (·.1) = false := by rfl) :
    PE X (.Call (.Subscript v i p) (e :: es) [] pos) (tCallE X.prog X.w X.K X.mg X.base j W te t) := by
  refine ⟨fun pins s σ H Q I h => ?_⟩
  show wpAny (model X.prog X.w) X.A (do callWith pos (← eval (.Subscript v i p) X.env) [] (backTo pos (starEach (e :: es) X.env)) (backToKw pos (keywordEach [] X.env))) _ _ _
  refine wpAny_bind (thn (hf.run pins s σ H _ I h) fun u s1 hh => ?_)
  obtain ⟨x, H1, I1, rx, k, f, sp, hk, ex, ⟨fd, ps, G, kp, b⟩, q⟩ := hh
  subst ex
  cases rx
  refine PySem.W.callWith_K (h₀ := X.base) I1.ok.mod.kin kp (thn (ha.run pos pins s1 σ H1 _ I1 q) fun us s2 hh => ?_) he hpl
  obtain ⟨vs, H2, I2, r, q2⟩ := hh
  exact ⟨I2.kIn, run_fnS G (hr.mono hk) b (passAt hw σ) I2 r q2⟩
/-- a def keeps two promises at once -/
theorem Cl.orX {P : Program} {w : World} {K : PySem.W.Frag} {mg : Str → Option Value} {base : Heap} {j i : Nat} {x : Str} {st : Stmt} {ps : List Str} {sp1 sp2 : Sp} (k : Nat) (c1 : Cl P w K mg base i x st ps sp1) (c2 : ClX P w K mg base j x st ps sp2) (h1 : i ≤ k := by omega) (h2 : j ≤ k := by omega) :
    ClX P w K mg base k x st ps (fun vs H Q E => sp1 vs H Q E ∨ sp2 vs H Q E) := by
  obtain ⟨f, fd, F, G, m, b⟩ := c1.ex
  obtain ⟨f', fd', F', G', m', _⟩ := c2.ex
  cases m.symm.trans m'
  have same : fd' = fd := by
    obtain ⟨_, _, _, _, _, _, _, _, _, _, _, l1, _⟩ := F.ex
    obtain ⟨_, _, _, _, _, _, _, _, _, _, _, l2, _⟩ := F'.ex
    have e := l1.symm.trans l2
    simp only [Option.some.injEq, Obj.mk.injEq, Data.func.injEq] at e
    exact e.2.2.1.symm
  subst same
  refine ⟨f, fd', F, ⟨fun vs H Q E z => z.elim (G.len vs H Q E) (G'.len vs H Q E), fun A outer s H args us vs Q E hr e0 hb rel z => ?_⟩, m, b⟩
  rcases z with z | z
  · refine codeAny_mono (G.run A outer s H args us vs Q E (hr.mono h1) e0 hb rel z) fun r s' q => ?_
    cases r with
    | ok fl => cases fl <;> exact q
    | error e => exact False.elim q
  · exact G'.run A outer s H args us vs Q E (hr.mono h2) e0 hb rel z
end Lp
namespace Lp
open PySem PySem.Spec PyProof.Rows L2
/-! ### own exception classes over any built-in base, with one field -/
/-- what is asked of such a class: its bases end with the rows of the base -/
structure OexT (K : PySem.W.Frag) (C : Addr) (rows : List Value) (maker : String) : Prop where
  made : PySem.W.excInitIn K C rows maker = true
  over : PySem.W.excOver K C rows = true
  dict : PySem.W.hasDictIn K C = true
  store : PySem.W.findIn K (Value.ref C) "__setattr__" = some (some (.builtin "object.__setattr__"))
  isExc : PySem.W.subIn K (Value.ref C) (.type "BaseException") = some true
  ofType : PySem.W.typeIn K (Value.ref C) = some (.type "type")
  kept_ : PySem.W.keepIn K (Value.ref C) = true
section
variable {X : Cx} {pins : List (Addr × Obj)} {σ : L2.St} {H : Hp} {s : Shared} {a C : Addr} {f : Str} {y : V} {u : Value} {Q : Unit → Shared → Prop} {E : Value → Shared → Prop} {A : Around} {base maker : String} {rows : List Value}
/-- the first field: the exception's dict is made and holds it -/
theorem ost_first (SF : StoreFacts base rows "object.__setattr__" "object") (T : OexT X.K C rows maker) (free : PySem.W.takerIn X.K C f = some none) (I : Inv X pins σ H s) (here : H a = some (exo a C none)) (ry : RelV y u)
    (done : ∀ dx s', H dx = none → dx ≠ a → Inv X pins σ (upd (upd H dx (exd dx [(f, y)])) a (exo a C (some dx))) s' → Q () s') : wpAny (model X.prog X.w) A (setAttr (.ref a) f u) Q E s := by
  obtain ⟨t1, ho⟩ := exo_at I.hok here
  obtain ⟨cd, look, hasd⟩ := PySem.W.any_some T.dict
  have J1 : Inv X pins σ (upd H s.heap.objs.size (exd s.heap.objs.size [])) { s with heap := s.heap.push (PySem.W.dictOf [] 0), toks := s.toks } := by
    refine I.laid (fun b o z => Heap.get?_push_of_some _ z) (Nat.le_refl _) (exd_ok (mA := fun _ => none) (Heap.Ns1.of_empty ⟨_, #[], _, Heap.get?_push_at rfl rfl, rfl, fun e he => absurd he (by simp), fun _ => rfl⟩) fun g => True.intro)
  obtain ⟨mem, gl, dr, tks, os⟩ := s
  have fresh : H mem.objs.size = none := I.hok.fresh (Nat.le_refl _)
  have apart : a ≠ mem.objs.size := Nat.ne_of_lt (Heap.lt_size ho)
  have ho1 : (mem.push (PySem.W.dictOf [] 0)).get? a = some (PySem.W.excObj C t1 none .none) := Heap.get?_push_of_some _ ho
  have e1 : upd H mem.objs.size (exd mem.objs.size []) a = some (exo a C none) := by
    rw [upd_ne apart]
    exact here
  let mem2 := (mem.push (PySem.W.dictOf [] 0)).update a fun o => { o with dict := some mem.objs.size }
  have at2 : mem2.get? a = some (PySem.W.excObj C t1 (some mem.objs.size) .none) := Heap.get?_update_self _ ho1 rfl
  have J2 : Inv X pins σ (upd (upd H mem.objs.size (exd mem.objs.size [])) a (exo a C (some mem.objs.size))) ⟨mem2, gl, dr, tks, os⟩ :=
    J1.write (t' := tks) (x := a) (e := a) (by rw [e1]; exact True.intro) (.inl rfl) (fun b o ne z => (Heap.get?_update_ne _ _ _ _ ne).trans z) ⟨_, at2⟩ (exo_ok at2)
  have dict2 : mem2.Ns mem.objs.size fun _ => none := ⟨_, #[], _, (Heap.get?_update_ne _ _ _ _ apart.symm).trans (Heap.get?_push_at rfl rfl), rfl, fun e he => absurd he (by simp), fun _ => rfl⟩
  refine PySem.W.set_plain I.kIn (ox := PySem.W.excObj C t1 none .none) (od := none) ⟨ho, rfl, rfl, trivial⟩ T.store ?_
  refine PySem.W.osa_openX (od := none) SF I.kIn ⟨ho, rfl, rfl, trivial⟩ T.over free fun b => ?_
  refine wpAny_bind (wpAny_pure (wpAny_bind (PySem.W.instanceDict_exc ho (PySem.W.looks_clsIn I.kIn look) hasd ?_)))
  show wpAny _ _ (Builtin.ObjectAttr.storeInDict mem.objs.size (.str f _) f u) _ _ _
  refine PySem.HandSPX.store_in_new dict2 fun mem3 tk3 ns same => ?_
  have J3 := J2.write (h' := mem3) (t' := tk3) (x := mem.objs.size) (e := mem.objs.size) (o := exd mem.objs.size [(f, y)]) (by rw [upd_ne apart.symm, upd_same]; exact True.intro) (.inl rfl) (fun b o ne z => (same.2 b ne).trans z) (by
    obtain ⟨o, _, _, e', _⟩ := ns
    exact ⟨o, e'⟩) (exd_ok ns (relO_put (fs := []) ry fun _ => True.intro))
  have swap : upd (upd (upd H mem.objs.size (exd mem.objs.size [])) a (exo a C (some mem.objs.size))) mem.objs.size (exd mem.objs.size [(f, y)]) = upd (upd H mem.objs.size (exd mem.objs.size [(f, y)])) a (exo a C (some mem.objs.size)) := by
    funext b
    by_cases h1 : b = mem.objs.size
    · rw [h1, upd_same, upd_ne apart.symm, upd_same]
    · rw [upd_ne h1]
      by_cases h2 : b = a
      · rw [h2, upd_same, upd_same]
      · rw [upd_ne h2, upd_ne h2, upd_ne h1, upd_ne h1]
  rw [swap] at J3
  exact done mem.objs.size _ fresh apart.symm J3
end
/-- self.f = e, the first field -/
def tOne (K : PySem.W.Frag) (f : Str) (to te : TE) : TS := fun D σ H => te σ H fun y H1 => to σ H1 fun x H2 => ∃ (a C : Addr) (base maker : String) (rows : List Value), x = .ref a ∧ StoreFacts base rows "object.__setattr__" "object" ∧ OexT K C rows maker ∧ PySem.W.takerIn K C f = some none ∧
  H2 a = some (exo a C none) ∧ ∀ dx, H2 dx = none → dx ≠ a → D.nx σ (upd (upd H2 dx (exd dx [(f, y)])) a (exo a C (some dx)))
theorem ps_one {X : Cx} {o e : Expr} {to te : TE} {f : Str} {q pos : Pos} (ho : PE X o to) (he : PE X e te) (hs : swapsWith e (some (.Attribute o f q)) pos.line X.env = pure false := by rfl) : PS X (.Assign [.Attribute o f q] e pos) (tOne X.K f to te) := by
  refine ⟨fun pins s σ H D I h => plainObj_wpAny_Assign_Attribute (thn (he.run pins s σ H _ I h) fun v s1 z1 => ?_) hs⟩
  obtain ⟨y, H1, I1, r1, q1⟩ := z1
  refine thn (ho.run pins s1 σ H1 _ I1 q1) fun u s2 z2 => ?_
  obtain ⟨x, H2, I2, r2, a, C, base, maker, rows, rfl, SF, T, free, here, go⟩ := z2
  obtain rfl : u = Value.ref a := by exact r2
  exact ost_first SF T free I2 here r1 fun dx s' n ne J => ⟨σ, _, J, go dx n ne⟩
/-- the class x, over any base, has an __init__ that keeps its one argument in the field f -/
structure ET (P : Program) (w : World) (K : PySem.W.Frag) (mg : Str → Option Value) (base : Heap) (x f : Str) : Prop where
  gC : mg x = some (.ref (He.ga K x))
  ox : ∃ (up maker ini : String) (rows : List Value), StoreFacts up rows "object.__setattr__" "object" ∧ ExcBaseFacts up maker ini rows ∧ OexT K (He.ga K x) rows maker
  xf : XfC K (He.ga K x)
  noN : PySem.W.findIn K (.ref (He.ga K x)) f = some none
  iC : PySem.W.findIn K (.ref (He.ga K x)) "__init__" = some (some (.ref (He.ma K (He.ga K x) "__init__")))
  tC : PySem.W.typeIn K (.ref (He.ma K (He.ga K x) "__init__")) = some (.type "function")
  fn : ∃ fd, FnOk P w K mg base CX0 1 (He.ma K (He.ga K x) "__init__") fd (["self", f] : List Str) (fun vs H Q _ => ∃ (a : Addr) (v : V), vs = [.ref a, v] ∧ H a = some (exo a (He.ga K x) none) ∧ ∀ dx, H dx = none → dx ≠ a → Q .non (upd (upd H dx (exd dx [(f, v)])) a (exo a (He.ga K x) (some dx)))) ∧ Binds K fd (["self", f] : List Str) []
/-- C(e) -/
theorem pmk_t {X : Cx} {x f : Str} {e : Expr} {ta : TA} {j : Nat} {p pos : Pos} (T : ET X.prog X.w X.K X.mg X.base x f) (hr : Room j X.A) (hj : 2 ≤ j) (hg : Gl X x) (ha : PA X [e] ta)
    (hdb : (x == ("__debug__" : Str)) = false := by decide) (he : starEach [e] X.env = (false, eval e X.env) :: starEach [] X.env := by rfl) (hpl : (backTo pos (starEach [] X.env)).any (·.1) = false := by rfl) :
    PMk X (.Call (.Name x p) [e] [] pos) (tMkE (He.ga X.K x) f ta) := by
  obtain ⟨fd, run_, bnd⟩ := T.fn
  obtain ⟨up, maker, ini, rows, SF, FB, TX⟩ := T.ox
  intro pins s σ H Q I h
  refine wpAny_Call_Name_kw (ld_glob I hg T.gC ?_ hdb)
  refine PySem.W.callWith_K (h₀ := X.base) I.ok.mod.kin TX.kept_ (thn (ha.run pos pins s σ H _ I h) fun us s1 z1 => ?_) he hpl
  obtain ⟨vs, H1, I1, r1, v, rfl, go⟩ := z1
  obtain ⟨u, rfl, ru⟩ := L2.vals1 r1
  refine ⟨I1.kIn, ?_⟩
  obtain ⟨nm, N, qn, bs, bm, hdct, sn, sub, ab, col, dd, k0, k1, k2, k3, k5, atC, names⟩ := PySem.W.excInit_of I1.kIn TX.made
  obtain ⟨hp, g, dr, tk, out⟩ := s1
  have new : H1 (hp.objs.size + 1) = none := I1.hok.fresh (Nat.le_succ _)
  have keeps : ∀ b o, hp.get? b = some o → ((hp.push (PySem.W.kdv_tup [u])).push (PySem.HandSPX.excO (He.ga X.K x) hp.objs.size)).get? b = some o := fun b o z => Heap.get?_push_of_some _ (Heap.get?_push_of_some _ z)
  have exc_ : ((hp.push (PySem.W.kdv_tup [u])).push (PySem.HandSPX.excO (He.ga X.K x) hp.objs.size)).get? (hp.objs.size + 1) = some (PySem.HandSPX.excO (He.ga X.K x) hp.objs.size) := by heap_get
  have I2 := I1.laid (t' := tk) (o := exo (hp.objs.size + 1) (He.ga X.K x) none) keeps (Nat.le_succ _) (exo_ok exc_)
  have vals2 : Vals [V.ref (hp.objs.size + 1), v] [Value.ref (hp.objs.size + 1), u] := .cons rfl (.cons ru .nil)
  have one : ([u] : List Value).length ≤ sizeLine := by show 1 ≤ sizeLine; decide
  have bd := bnd (Shared.mk ((hp.push (PySem.W.kdv_tup [u])).push (PySem.HandSPX.excO (He.ga X.K x) hp.objs.size)) g dr tk out) [Value.ref (hp.objs.size + 1), u] I2.kIn rfl
  refine wpAny_call (PySem.HandSPX.call_own FB names atC (PySem.W.looks_findIn I1.kIn T.iC) (fun self => PySem.W.bind_fn I1.kIn self T.tC) one
    (codeAny_mono (run_.run _ X.stack _ _ ⟨[Value.ref (hp.objs.size + 1), u], []⟩ [Value.ref (hp.objs.size + 1), u] _ (fun w G => w = .non ∧ ∃ dx, H1 dx = none ∧ dx ≠ hp.objs.size + 1 ∧ G = upd (upd (upd H1 (hp.objs.size + 1) (exo (hp.objs.size + 1) (He.ga X.K x) none)) dx (exd dx [(f, v)])) (hp.objs.size + 1) (exo (hp.objs.size + 1) (He.ga X.K x) (some dx))) (fun _ _ _ => False) ((hr.mono hj).make (He.ga X.K x) [u] []) (I2.env0.make (He.ga X.K x) [u] []) bd vals2
      ⟨_, v, rfl, upd_same, fun dx n ne => ⟨rfl, dx, by rw [upd_ne ne] at n; exact n, ne, rfl⟩⟩) fun r s' back => ?_))
  cases r with
  | error er => exact pass0 pins σ _ _ er s' I2 back
  | ok fl =>
    cases fl with
    | next => exact back.elim
    | brk => exact back.elim
    | cont => exact back.elim
    | ret back_ =>
      obtain ⟨w2, G, same, bare, un, ok2, rv, ew, dx, ndx, ne, rfl⟩ := back
      subst ew
      obtain ⟨h2, g2, d2, t2, os2⟩ := s'
      have last : upd (del (upd (upd (upd H1 (hp.objs.size + 1) (exo (hp.objs.size + 1) (He.ga X.K x) none)) dx (exd dx [(f, v)])) (hp.objs.size + 1) (exo (hp.objs.size + 1) (He.ga X.K x) (some dx))) (hp.objs.size + 1)) dx (.xd [(f, v)]) = upd H1 dx (.xd [(f, v)]) := by
        funext b
        by_cases hb : b = dx
        · rw [hb, upd_same, upd_same]
        · rw [upd_ne hb, upd_ne hb]
          by_cases he : b = hp.objs.size + 1
          · rw [he, del_same, new]
          · rw [del_ne he, upd_ne he, upd_ne hb, upd_ne he]
      have q := go dx ndx
      rw [← last] at q
      exact ⟨rv, mk_end (raises_own TX.isExc TX.ofType) I1 (Nat.le_succ _) keeps un ok2 same bare upd_same ((upd_ne ne).trans upd_same) ndx q⟩
section
variable {P : Program} {w : World} {K : PySem.W.Frag} {mg : Str → Option Value} {base : Heap} {h : Heap} {x f q : Str} {st : Stmt} {up maker ini : String} {rows : List Value}
theorem ET.of {fd : FuncData} (SF : StoreFacts up rows "object.__setattr__" "object") (FB : ExcBaseFacts up maker ini rows) (gC : mg x = some (.ref (He.ga K x))) (e : etB K x f rows maker = true) (F : FunD K "__init__" q (defArgs (initOf st)) (defBody (initOf st)) (defScope (initOf st)) [] [] (He.ma K (He.ga K x) "__init__") fd)
    (S : FnScope (["self", f] : List Str) (["self", f] : List Str) (defScope (initOf st)))
    (bd : ∀ (kV doc pm : Value) (an : Option Addr) (cdv ct : Value) (us : List Value), us.length = 2 → bindArgs (PySem.W.fnOf "__init__" q (defArgs (initOf st)) (defBody (initOf st)) (defScope (initOf st)) .none kV doc pm an cdv ct) ⟨us, []⟩ = pure ((["self", f] : List Str).zip us))
    (hb : ∀ X : Cx, X.N = (["self", f] : List Str) → X.env.scope = defScope (initOf st) → X.fn "self" = true → PSs X (defBody (initOf st)) (tSeq (tOne X.K f (tVar 0) (tVar 1)) tNext)) : ET P w K mg base x f := by
  unfold etB at e
  simp only [Bool.and_eq_true, decide_eq_true_eq] at e
  obtain ⟨e1, e2, e3, e4, e5, e6, e7, e8, e9, e10, e11⟩ := e
  have ox : OexT K (He.ga K x) rows maker := ⟨e1, e2, e3, e4, e5, e6, e7⟩
  refine ⟨gC, ⟨up, maker, ini, rows, SF, FB, ox⟩, xfB_ok e8, e9, e10, e11, fd, F.ok S (fun vs H Q E z => ?_) fun cdv A outer s H vs Q E hr z => ?_, F.bindsN bd⟩
  · obtain ⟨a, v, rfl, _⟩ := z
    rfl
  · obtain ⟨a, v, rfl, here, go⟩ := z
    have free : PySem.W.takerIn K (He.ga K x) f = some none := by
      unfold PySem.W.takerIn
      rw [e9]
      rfl
    exact ⟨_, hb _ rfl rfl rfl, _, rfl, _, rfl, a, _, up, maker, rows, rfl, SF, ox, free, here, go⟩
end
end Lp
namespace Lp
open PySem PySem.Spec PyProof.Rows L2
/-! ### repr of data that holds empty dicts: lists made so that their address is known not to be the modules' dict -/
/-- a number as a dict's key -/
abbrev kI (n : Int) : L2.Key := Sum.inl n
mutual
inductive Dr (K : PySem.W.Frag) (H : Hp) : V → PyData → Prop
  | non : Dr K H .non .none
  | bl (b : Bool) : Dr K H (.bl b) (.bool b)
  | int (i : Int) : Dr K H (.int i) (.int i)
  | str (x : Str) : Dr K H (.str x) (.str x)
  | lst {a : Addr} {xs : List V} {ds : List PyData} : H a = some (.lst xs) → a ≠ sysModules → DrAll K H xs ds → Dr K H (.ref a) (.list ds)
  | tup {a : Addr} {xs : List V} {ds : List PyData} : SqT K H a xs → DrAll K H xs ds → Dr K H (.ref a) (.tuple ds)
  | dct {a : Addr} : H a = some (.dK []) → Dr K H (.ref a) (.dict [])
  | dct1 {a : Addr} {ns : List Int} : H a = some (.dT [(ns.map kI, .int 1)]) → Dr K H (.ref a) (.dict [(.tuple (ns.map PyData.int), .int 1)])
inductive DrAll (K : PySem.W.Frag) (H : Hp) : List V → List PyData → Prop
  | nil : DrAll K H [] []
  | cons {x : V} {xs : List V} {d : PyData} {ds : List PyData} : Dr K H x d → DrAll K H xs ds → DrAll K H (x :: xs) (d :: ds)
end
section
variable {X : Cx} {pins : List (Addr × Obj)} {σ : L2.St} {H : Hp} {s : Shared}
theorem intsRead {h : Heap} : ∀ {ns : List Int} {us : List Value}, Vals (ns.map V.int) us → ReadsAll h us (ns.map PyData.int) []
  | [], _, r => by
    cases r
    exact .nil
  | n :: ns, _, r => by
    cases r with
    | cons r1 r2 =>
      obtain ⟨t, rfl⟩ := r1
      exact ReadsAll.cons (as := []) (Reads.int n t) (intsRead r2)
mutual
theorem Dr.reads (I : Inv X pins σ H s) : ∀ (d : PyData) (v : V) (u : Value), Dr X.K H v d → RelV v u → ∃ as, Reads s.heap u d as ∧ sysModules ∉ as
  | .none, _, _, h, r => by
    cases h
    cases r
    exact ⟨_, Reads.none, List.not_mem_nil⟩
  | .bool b, _, _, h, r => by
    cases h
    cases r
    exact ⟨_, Reads.bool b, List.not_mem_nil⟩
  | .int i, _, _, h, r => by
    cases h
    obtain ⟨t, rfl⟩ := r
    exact ⟨_, Reads.int i t, List.not_mem_nil⟩
  | .str x, _, _, h, r => by
    cases h
    obtain ⟨t, rfl⟩ := r
    exact ⟨_, Reads.str x t, List.not_mem_nil⟩
  | .list ds, _, _, h, r => by
    cases h with
    | lst hs ne ha =>
      cases r
      obtain ⟨its, rv, ⟨o, n, ho, hc, _, hd⟩, _⟩ := I.list (.inl (.inl hs))
      obtain ⟨as, hr, no⟩ := Dr.readsAll I ds _ its ha rv
      exact ⟨_, Reads.list ho hc hd hr, fun z => (List.mem_cons.mp z).elim (fun e => ne e.symm) no⟩
  | .tuple ds, _, _, h, r => by
    cases h with
    | tup hs ha =>
      cases r
      obtain ⟨its, rv, ⟨o, ho, hc, n, hd⟩, _⟩ := I.tuple hs
      obtain ⟨as, hr, no⟩ := Dr.readsAll I ds _ its ha rv
      exact ⟨_, Reads.tuple ho hc hd hr, no⟩
  | .dict kvs, _, _, h, r => by
    cases h with
    | dct ha =>
      cases r
      obtain ⟨_, nsm, vs, kv, o, es, ep, g1, g2, g3, g4, g5, _⟩ := dk_of I.hok ha
      have e0 : vs = [] := by cases kv; rfl
      subst e0
      have e1 : es.toList = [] := List.length_eq_zero_iff.mp g5.length
      refine ⟨_, Reads.dict (kvs := []) (as := []) (bs := []) g1 g2.1 g3 (by rw [e1]; exact .nil) (by rw [e1]; exact .nil), fun z => ?_⟩
      rw [List.append_nil] at z
      rw [← List.mem_singleton.mp z, beq_self_eq_true] at nsm
      cases nsm
    | @dct1 a ns ha =>
      cases r
      obtain ⟨_, nsm, xs, kt, o, es, ep, g1, g2, g3, g4, _, _⟩ := dt_of I.hok ha
      cases kt with
      | @cons _ x _ _ hq t =>
        cases t
        obtain ⟨e1, hb, rv⟩ := hq
        obtain ⟨y, b, val⟩ := x
        have e1 : ns.map kI = y := e1
        subst e1
        have hb : H b = some (.tup ((ns.map kI).map L2.kV)) := hb
        obtain ⟨t, ev⟩ : ∃ t, val = .int 1 t := rv
        subst ev
        rw [List.map_map, show L2.kV ∘ kI = V.int from rfl] at hb
        obtain ⟨its, rel, ⟨o2, ho2, hc2, n2, hd2⟩, _⟩ := I.tuple (.inl (.inl hb))
        refine ⟨_, Reads.dict (kvs := [(.tuple (ns.map PyData.int), .int 1)]) (as := []) (bs := []) g1 g2.1 g3 ?_ ?_, fun z => ?_⟩
        · rw [g4]
          exact ReadsAll.cons (as := []) (Reads.tuple ho2 hc2 hd2 (intsRead rel)) .nil
        · rw [g4]
          exact ReadsAll.cons (as := []) (Reads.int 1 t) .nil
        · rw [List.append_nil] at z
          rw [← List.mem_singleton.mp z, beq_self_eq_true] at nsm
          cases nsm
theorem Dr.readsAll (I : Inv X pins σ H s) : ∀ (ds : List PyData) (vs : List V) (us : List Value), DrAll X.K H vs ds → Vals vs us → ∃ as, ReadsAll s.heap us ds as ∧ sysModules ∉ as
  | [], _, _, h, r => by
    cases h
    cases r
    exact ⟨_, ReadsAll.nil, List.not_mem_nil⟩
  | d :: ds, _, _, h, r => by
    cases h with
    | cons h1 h2 =>
      cases r with
      | cons r1 r2 =>
        obtain ⟨as, q1, n1⟩ := Dr.reads I d _ _ h1 r1
        obtain ⟨bs, q2, n2⟩ := Dr.readsAll I ds _ _ h2 r2
        exact ⟨_, ReadsAll.cons q1 q2, fun z => (List.mem_append.mp z).elim n1 n2⟩
end
end
mutual
theorem Dr.same {K : PySem.W.Frag} {H H' : Hp} (s : Same H H') : ∀ {d : PyData} {v : V}, Dr K H v d → Dr K H' v d
  | .none, _, h => by cases h; exact .non
  | .bool b, _, h => by cases h; exact .bl b
  | .int i, _, h => by cases h; exact .int i
  | .str x, _, h => by cases h; exact .str x
  | .list ds, _, h => by
    cases h with
    | lst hs ne ha => exact .lst (s _ _ hs) ne (DrAll.same s ha)
  | .tuple ds, _, h => by
    cases h with
    | tup hs ha => exact .tup (SqT.same s hs) (DrAll.same s ha)
  | .dict _, _, h => by
    cases h with
    | dct ha => exact .dct (s _ _ ha)
    | dct1 ha => exact .dct1 (s _ _ ha)
theorem DrAll.same {K : PySem.W.Frag} {H H' : Hp} (s : Same H H') : ∀ {ds : List PyData} {vs : List V}, DrAll K H vs ds → DrAll K H' vs ds
  | [], _, h => by cases h; exact .nil
  | d :: ds, _, h => by
    cases h with
    | cons h1 h2 => exact .cons (Dr.same s h1) (DrAll.same s h2)
end
/-- a list, or a tuple, that may be shown -/
def rReprR (K : PySem.W.Frag) : List V → Hp → VK → Prop := fun xs H Q => ∃ (a : Addr) (d : PyData), xs = [.ref a] ∧ Dr K H (.ref a) d ∧ d.depth ≤ 60 ∧ d.showable = true ∧ d.shown.length ≤ sizeLine ∧ Q (.str d.shown) H
theorem call_reprR {X : Cx} {k : Nat} (hr : L2H.RoomH k X.A) (hgd : X.A.guards = some []) : CallR X (.builtin "repr") (rReprR X.K) := by
  intro pins s σ H xs us Q I r h
  obtain ⟨a, d, rfl, hd, hdp, hs, hz, q⟩ := h
  obtain ⟨u, rfl, rv⟩ := vals1 r
  have hu := hr.un
  obtain ⟨as, rd, no⟩ := Dr.reads I d _ u hd rv
  cases rv
  exact repr_of_reads' rd hs (fun _ => no) hgd (by omega) (fun _ _ e => e) (fun h' t tk hk => ⟨.str d.shown, H, I.kept (t' := tk) hk, ⟨t, rfl⟩, q⟩) hz
/-- a list display, its address told not to be the modules' dict -/
def tLstB (t : TA) : TE := fun σ H Q => t σ H fun xs H1 => xs.length ≤ sizeLine ∧ ∀ p, H1 p = none → p ≠ sysModules → Q (.ref p) (upd H1 p (.lst xs))
theorem pe_lstB {X : Cx} {es : List Expr} {t : TA} {pos : Pos} (h : PA X es t) : PE X (.List es pos) (tLstB t) := by
  refine ⟨fun pins s σ H Q I hq => wpAny_List_spliced (thn (h.run pos pins s σ H _ I hq) fun us s1 z => ?_)⟩
  obtain ⟨xs, H1, I1, r, sz, q⟩ := z
  have new : H1 s1.heap.objs.size = none := I1.hok.fresh (Nat.le_refl _)
  refine ⟨by rw [← r.length]; exact sz, .ref s1.heap.objs.size, upd H1 s1.heap.objs.size (.lst xs), I1.laid (t' := s1.toks) (fun b u e => Heap.get?_push_of_some _ e) (Nat.le_refl _) ?_, rfl, q _ new (Nat.ne_of_gt I1.big)⟩
  exact ⟨sz, us, 0, r, Heap.get?_push_size _ rfl⟩
/-- list(x) of a tuple or a list, with the same telling -/
def rListB (K : PySem.W.Frag) : List V → Hp → VK → Prop := fun xs H Q => ∃ (p : Addr) (ys : List V), xs = [.ref p] ∧ (SqL K H p ys ∨ SqT K H p ys) ∧ ∀ l, H l = none → l ≠ sysModules → Q (.ref l) (upd H l (.lst ys))
theorem call_listB {X : Cx} : CallR X (.type "list") (rListB X.K) := by
  intro pins s σ H xs us Q I r h
  obtain ⟨p, ys, rfl, at_, q⟩ := h
  obtain ⟨u, rfl, rx⟩ := vals1 r
  cases rx
  have last : ∀ (its : List Value), Vals ys its → ys.length ≤ sizeLine → ∀ (mem : Heap) (c : Nat), (∀ b o, s.heap.get? b = some o → mem.get? b = some o) →
      mem.get? s.heap.objs.size = some { cls := .type "list", dict := none, data := .seq its.toArray c, slots := #[] } → EP X pins σ Q (.ref s.heap.objs.size) { s with heap := mem } := fun its rel few mem c keeps new =>
    ⟨.ref s.heap.objs.size, _, I.laid (t' := s.toks) (o := .lst ys) keeps (Nat.le_refl _) ⟨few, its, c, rel, new⟩, rfl, q _ (I.hok.fresh (Nat.le_refl _)) (Nat.ne_of_gt I.big)⟩
  rcases at_ with at_ | at_
  · obtain ⟨its, rel, pl, few⟩ := I.list at_
    have len := rel.length
    obtain ⟨o, ho, hc, n, hd⟩ := pl.isList
    exact call_list_seq p (.inl rfl) ho hc hd (fun mem c keeps new => last its rel few mem c keeps new) (by simp only [List.size_toArray]; omega)
  · obtain ⟨its, rel, ⟨o, ho, hc, n, hd⟩, few⟩ := I.tuple at_
    have len := rel.length
    exact call_list_seq p (.inr rfl) ho hc hd (fun mem c keeps new => last its rel few mem c keeps new) (by simp only [List.size_toArray]; omega)
end Lp
namespace Lp
open PySem PySem.Spec PyProof.Rows L2
/-! ### own error classes without an __init__; isinstance of an exception in hand, with a dict or without -/
structure E0C (K : PySem.W.Frag) (mg : Str → Option Value) (x : Str) : Prop where
  gC : mg x = some (.ref (He.ga K x))
  ox : ∃ (up maker ini : String) (rows : List Value), ExcBaseFacts up maker ini rows ∧ PySem.W.excIn K (He.ga K x) rows maker = true
  kp : PySem.W.keepIn K (.ref (He.ga K x)) = true
  isExc : PySem.W.subIn K (.ref (He.ga K x)) (.type "BaseException") = some true
  ofType : PySem.W.typeIn K (.ref (He.ga K x)) = some (.type "type")
theorem E0C.of {K : PySem.W.Frag} {mg : Str → Option Value} {x : Str} {up maker ini : String} {rows : List Value} (FB : ExcBaseFacts up maker ini rows) (g : mg x = some (.ref (He.ga K x))) (e : enB K x rows maker = true) : E0C K mg x := by
  unfold enB at e
  simp only [Bool.and_eq_true, decide_eq_true_eq] at e
  exact ⟨g, ⟨up, maker, ini, rows, FB, e.1⟩, e.2.1, e.2.2.1, e.2.2.2⟩
/-- C() -/
theorem pmk_0 {X : Cx} {x : Str} {p pos : Pos} (T : E0C X.K X.mg x) (hg : Gl X x) (hdb : (x == ("__debug__" : Str)) = false := by decide) : PMk X (.Call (.Name x p) [] [] pos) (fun _ H Q => Q (.ref (He.ga X.K x)) none H) := by
  obtain ⟨up, maker, ini, rows, FB, eIn⟩ := T.ox
  intro pins s σ H Q I h
  refine wpAny_Call_Name_kw (ld_glob I hg T.gC (PySem.W.callWith_K0 I.kIn T.kp ?_) hdb)
  obtain ⟨bm, N, nm, qn, bs, hdct, sn, sub, ab, col, dd, _, _, _, _, _, mN, atC, names, noInit, same⟩ := exc_obj I.kIn eIn
  exact wpAny_call_exc_subT FB same atC names noInit (fun h2 e2 made => mk_of I made (raises_own T.isExc T.ofType) h (I.hok.gone made.new)) (Nat.zero_le _)
/-- an instance of the class D, with its dict or without -/
structure ExO (p : Addr × Obj) (D : Addr) (d : Option Addr) : Prop where
  z : Zc (.ref D) d p.2
  f : ∃ vs, p.2.data = .fields vs
def DicO (d : Option Addr) (H : Hp) (fs : List (Str × V)) : Prop := match d with
  | none => True
  | some dd => H dd = some (.xd fs)
theorem DicO.same {d : Option Addr} {H G : Hp} {fs : List (Str × V)} (h : DicO d H fs) (s : Same H G) : DicO d G fs := by
  cases d with
  | none => trivial
  | some dd => exact s _ _ h
def rIsO (K : PySem.W.Frag) (p : Addr × Obj) (D : Addr) (d : Option Addr) : List V → Hp → VK → Prop := fun xs H Q => ∃ (c : V) (cv : Value) (b : Bool) (fs : List (Str × V)), xs = [.ref p.1, c] ∧ (∀ u, RelV c u → u = cv) ∧ PySem.W.kitOne K (.ref D) cv = some b ∧ DicO d H fs ∧ Q (.bl b) H
theorem call_isO {X : Cx} {p : Addr × Obj} {D : Addr} {d : Option Addr} (C : ExcC X.K D) (hp : p ∈ X.pn) (hz : ExO p D d) : CallR X (.builtin "isinstance") (rIsO X.K p D d) := by
  intro pins s σ H xs us Q I r h
  obtain ⟨c, cv, b, fs, rfl, hcv, e, hd, q⟩ := h
  cases r with
  | cons rx rr =>
    cases rr with
    | cons rt rr =>
      cases rr
      cases rx
      cases hcv _ rt
      have get := (I.pin p (List.mem_append_left _ hp)).1
      obtain ⟨vs, hv⟩ := hz.f
      have J : ∃ od, PySem.W.InstAt s.heap p.1 p.2 D od := by
        cases d with
        | none => exact ⟨none, get, hz.z.1, by unfold PySem.W.notCls; rw [hv] <;> rfl, by rw [hz.z.2]; trivial⟩
        | some dd =>
          obtain ⟨mA, hns, _⟩ : ∃ mA, s.heap.Ns1 dd mA ∧ ∀ f, RelO (fs.lookup f) (mA f) := I.hok dd _ hd
          obtain ⟨od, ho, _⟩ := lookIn_ns hns
          exact ⟨some od, get, hz.z.1, by unfold PySem.W.notCls; rw [hv] <;> rfl, by rw [hz.z.2]; exact ho⟩
      obtain ⟨od, J⟩ := J
      obtain ⟨cd, hc, _⟩ := PySem.W.any_some C.hd
      exact PySem.W.kia_one (PySem.W.kitx_exc (by rw [hc]; rfl) C.hg C.hk C.hs C.ha C.hn C.ht C.hm) I.kIn J e (fun z => nomatch z) fun tk => ⟨.bl b, H, I.kept (t' := tk) fun _ _ z => z, rfl, q⟩
end Lp
namespace Lp
open PySem PySem.Spec PyProof.Rows L2
/-! ### displays whose parts are only known by what they are -/
section
variable {X : Cx} {Pre : L2.St → Hp → Prop} {F G : Hp → V → Prop} {n : Nat} {e : Expr} {es : List Expr} {pos : Pos}
def tV (Pre : L2.St → Hp → Prop) (F : Hp → V → Prop) : TE := fun σ H Q => Pre σ H ∧ ∀ (v : V) (H' : Hp), Same H H' → F H' v → Q v H'
def tVs (Pre : L2.St → Hp → Prop) (F : Hp → V → Prop) (n : Nat) : TA := fun σ H Q => Pre σ H ∧ ∀ (vs : List V) (H' : Hp), Same H H' → vs.length = n → (∀ v ∈ vs, F H' v) → Q vs H'
def tVl (Pre : L2.St → Hp → Prop) (F : Hp → V → Prop) (n : Nat) : TE := fun σ H Q => Pre σ H ∧ ∀ (l : Addr) (vs : List V) (H' : Hp), Same H H' → H l = none → l ≠ sysModules → H' l = some (.lst vs) → vs.length = n → (∀ v ∈ vs, F H' v) → Q (.ref l) H'
def StP (Pre : L2.St → Hp → Prop) : Prop := ∀ σ H H', Pre σ H → Same H H' → Pre σ H'
def StF (F : Hp → V → Prop) : Prop := ∀ H H' v, F H v → Same H H' → F H' v
theorem v_by {te : TE} (h : PE X e te) (i : ∀ σ H Q, Pre σ H → (∀ (v : V) (H' : Hp), Same H H' → F H' v → Q v H') → te σ H Q) : PE X e (tV Pre F) := PE.by h fun σ H Q q => i σ H Q q.1 q.2
theorem vs_by {t t' : TA} (h : PA X es t) (i : ∀ σ H Q, t' σ H Q → t σ H Q) : PA X es t' := ⟨fun pos pins s σ H Q I q => h.run pos pins s σ H Q I (i σ H Q q)⟩
theorem v_int {i : Int} {j} (h : ∀ σ H, Pre σ H → F H (.int i)) : PE X (.Constant (.int i) j pos) (tV Pre F) := v_by pe_int fun σ H _ p q => q _ _ (Same.refl H) (h σ H p)
theorem v_str {z : Str} {j} (h : ∀ σ H, Pre σ H → F H (.str z)) : PE X (.Constant (.str z) j pos) (tV Pre F) := v_by pe_str fun σ H _ p q => q _ _ (Same.refl H) (h σ H p)
theorem v_bl {b : Bool} {j} (h : ∀ σ H, Pre σ H → F H (.bl b)) : PE X (.Constant (.bool b) j pos) (tV Pre F) := v_by pe_bl fun σ H _ p q => q _ _ (Same.refl H) (h σ H p)
theorem v_non {j} (h : ∀ σ H, Pre σ H → F H .non) : PE X (.Constant .none j pos) (tV Pre F) := v_by pe_non fun σ H _ p q => q _ _ (Same.refl H) (h σ H p)
theorem v_neg {i : Int} {j p2} (h : ∀ σ H, Pre σ H → F H (.int (-i))) : PE X (.UnaryOp .USub (.Constant (.int i) j pos) p2) (tV Pre F) := v_by (pe_un un_neg pe_int) fun σ H _ p q => ⟨_, rfl, q _ _ (Same.refl H) (h σ H p)⟩
theorem v_pow {i m : Int} {j j2 p2 p3} (h1 : 0 ≤ m) (h2 : m ≤ 1000000) (h3 : i.natAbs < 2 ^ 64) (h : ∀ σ H, Pre σ H → F H (.int (i ^ m.toNat))) : PE X (.BinOp (.Constant (.int i) j pos) .Pow (.Constant (.int m) j2 p2) p3) (tV Pre F) :=
  v_by (pe_op op_pow pe_int pe_int) fun σ H _ p q => ⟨_, _, rfl, rfl, ⟨h1, h2, h3⟩, q _ _ (Same.refl H) (h σ H p)⟩
theorem v_var (i : Nat) {x : Str} (h : ∀ σ H, Pre σ H → ∃ v, σ[i]? = some (some v) ∧ F H v) (hN : X.N[i]? = some x := by rfl) (hv : Vis X.env.scope x := by first | exact Or.inl rfl | exact Or.inr (Or.inl rfl) | exact Or.inr (Or.inr rfl)) (hd : (x == ("__debug__" : Str)) = false := by decide)
    (hcd : (x == ("__classdict__" : Str)) = false := by decide) : PE X (.Name x pos) (tV Pre F) := v_by (pv i hN hv hd hcd) fun σ H _ p q => by
  obtain ⟨v, e, f⟩ := h σ H p
  exact ⟨v, e, q _ _ (Same.refl H) f⟩
theorem vs_nil : PA X [] (tVs Pre F 0) := vs_by pa_nil fun _ H _ q => q.2 _ _ (Same.refl H) rfl fun v hv => nomatch hv
theorem vs_cons (sP : StP Pre) (sF : StF F) (ha : PE X e (tV Pre F)) (hr : PA X es (tVs Pre F n)) (hs : starEach (e :: es) X.env = (false, eval e X.env) :: starEach es X.env := by rfl) : PA X (e :: es) (tVs Pre F (n + 1)) :=
  vs_by (pa_cons ha hr hs) fun σ H _ q => ⟨q.1, fun v G s1 f1 => ⟨sP σ H G q.1 s1, fun vs G2 s2 len f2 => q.2 _ _ (s1.trans s2) (by rw [List.length_cons, len]) fun x hx => by
    rcases List.mem_cons.mp hx with z | z
    · rw [z]
      exact sF _ _ _ f1 s2
    · exact f2 x z⟩⟩
theorem v_small {vs : List V} (h : vs.length = n) (hn : n ≤ 100000) : vs.length ≤ sizeLine := by
  rw [h, sizeLine_eq]
  omega
theorem v_was {H G : Hp} {p : Addr} (s : Same H G) (np : G p = none) : H p = none := by
  cases e : H p with
  | none => rfl
  | some o =>
    rw [s p o e] at np
    cases np
theorem v_tup {x1} (sF : StF F) (h : PA X es (tVs Pre F n)) (hn : n ≤ 100000) (i : ∀ (σ : L2.St) (H0 H : Hp) (r : Addr) (vs : List V), Pre σ H0 → Same H0 H → H0 r = none → H r = some (.tup vs) → vs.length = n → (∀ v ∈ vs, F H v) → G H (.ref r)) : PE X (.Tuple es x1 pos) (tV Pre G) :=
  v_by (pe_tup h) fun σ H _ p q => ⟨p, fun vs F1 s1 len f1 => ⟨v_small len hn, fun r np => q _ _ (s1.trans (same_upd np)) (i σ H _ r vs p (s1.trans (same_upd np)) (v_was s1 np) upd_same len fun v hv => sF _ _ _ (f1 v hv) (same_upd np))⟩⟩
theorem v_lst (sF : StF F) (h : PA X es (tVs Pre F n)) (hn : n ≤ 100000) (i : ∀ (σ : L2.St) (H0 H : Hp) (r : Addr) (vs : List V), Pre σ H0 → Same H0 H → H0 r = none → r ≠ sysModules → H r = some (.lst vs) → vs.length = n → (∀ v ∈ vs, F H v) → G H (.ref r)) : PE X (.List es pos) (tV Pre G) :=
  v_by (pe_lstB h) fun σ H _ p q => ⟨p, fun vs F1 s1 len f1 => ⟨v_small len hn, fun r np nm => q _ _ (s1.trans (same_upd np)) (i σ H _ r vs p (s1.trans (same_upd np)) (v_was s1 np) nm upd_same len fun v hv => sF _ _ _ (f1 v hv) (same_upd np))⟩⟩
theorem v_dct (i : ∀ (σ : L2.St) (H0 H : Hp) (r : Addr), Pre σ H0 → Same H0 H → H0 r = none → H r = some (.dK []) → G H (.ref r)) : PE X (.Dict [] [] pos) (tV Pre G) :=
  v_by pe_dnewK fun σ H _ p q r np => q _ _ (same_upd np) (i σ H _ r p (same_upd np) np upd_same)
theorem v_list (sF : StF F) (h : PA X es (tVs Pre F n)) (hn : n ≤ 100000) : PE X (.List es pos) (tVl Pre F n) :=
  PE.by (pe_lstB h) fun σ H _ q => ⟨q.1, fun vs F1 s1 len f1 => ⟨v_small len hn, fun r np nm => q.2 r vs _ (s1.trans (same_upd np)) (v_was s1 np) nm upd_same len fun v hv => sF _ _ _ (f1 v hv) (same_upd np)⟩⟩
end
end Lp
namespace Lp
open PySem PySem.Spec PyProof.Rows L2 LamX
/-! ### lambdas without parameters that may raise, handed to a def which calls them in a try -/
abbrev LamT : Type := XK → Hp → VK → Prop
/-- the def st calls what it got as its one thing a; TT: what it makes of that call's reading -/
def Gives (P : Program) (w : World) (K : PySem.W.Frag) (mg : Str → Option Value) (base : Heap) (k : Nat) (N : List Str) (x : Str) (st : Stmt) (a : Str) (TT : LamT → Hp → VK → Prop) : Prop :=
  ∀ (g : Addr) (cdg : Value) (A : Around) (outer : List Env) (s : Shared) (H : Hp) (f c : Addr) (q : Str) (Q : VK) (tl : LamT), Room k (A.deeper (envOfC x (defScope st) s.heap.objs.size g cdg)) → A.guards = some [] →
    (∀ (W : WX) (pn : List (Addr × Obj)) (xe : Value → Shared → Prop) (p1 p2 : Pos), Takes ((cxOf CX0 P w K mg base N x (defScope st) g cdg A outer s H E0).tr pn xe) W →
      PE ((cxOf CX0 P w K mg base N x (defScope st) g cdg A outer s H E0).tr pn xe) (.Call (.Name a p1) [] [] p2) (fun σ2 H2 Q2 => σ2[0]? = some (some (.ref f)) ∧ H2 c = some (CodeO c q) ∧ tl (WE W σ2) H2 Q2)) →
    H c = some (CodeO c q) → TT tl H Q →
    ∃ t, PSs (cxOf CX0 P w K mg base N x (defScope st) g cdg A outer s H E0).nox (defBody st) t ∧ t { nx := fun _ H2 => Q .non H2, rt := Q } (start N [.ref f]) H
structure ClL (P : Program) (w : World) (K : PySem.W.Frag) (mg : Str → Option Value) (base : Heap) (k : Nat) (N : List Str) (x : Str) (st : Stmt) (a : Str) (TT : LamT → Hp → VK → Prop) : Prop where
  df : Df K mg x st
  sc : FnScope N [a] (defScope st)
  bd : ∀ (kV doc pm : Value) (an : Option Addr) (cdv ct : Value) (us : List Value), us.length = ([a] : List Str).length → bindArgs (PySem.W.fnOf x x (defArgs st) (defBody st) (defScope st) .none kV doc pm an cdv ct) ⟨us, []⟩ = pure (([a] : List Str).zip us)
  gv : Gives P w K mg base k N x st a TT
section
variable {P : Program} {w : World} {K : PySem.W.Frag} {mg : Str → Option Value} {base : Heap} {x a : Str} {st : Stmt} {N : List Str} {k : Nat} {TT : LamT → Hp → VK → Prop}
/-- such a def called -/
theorem ClL.run (C : ClL P w K mg base k N x st a TT) : ∃ (g : Addr) (fd : FuncData), mg x = some (.ref g) ∧ PySem.W.keepIn K (.ref g) = true ∧ ∃ cdg : Value, ∀ (A : Around) (outer : List Env) (s : Shared) (H : Hp) (f c : Addr) (q : Str) (Q : VK) (tl : LamT),
    Room (k + 1) A → A.guards = some [] → Env0 P w K mg base A outer s H →
    (Room k (A.deeper (envOfC x (defScope st) s.heap.objs.size g cdg)) → ∀ (W : WX) (pn : List (Addr × Obj)) (xe : Value → Shared → Prop) (p1 p2 : Pos), Takes ((cxOf CX0 P w K mg base N x (defScope st) g cdg A outer s H E0).tr pn xe) W →
      PE ((cxOf CX0 P w K mg base N x (defScope st) g cdg A outer s H E0).tr pn xe) (.Call (.Name a p1) [] [] p2) (fun σ2 H2 Q2 => σ2[0]? = some (some (.ref f)) ∧ H2 c = some (CodeO c q) ∧ tl (WE W σ2) H2 Q2)) →
    H c = some (CodeO c q) → TT tl H Q → codeAny (model P w) A (.call (.ref g) ⟨[.ref f], []⟩) (CR CX0 outer P w H s Q E0) s := by
  obtain ⟨g, fd, F, hm⟩ := C.df.ex
  refine ⟨g, fd, hm, F.kp, ?_⟩
  have bnd := F.bindsN C.bd
  obtain ⟨oc, od, dV, kV, doc, pm, an, cdg, ct, osl, rfl, lk, hcd, _, _⟩ := F.ex
  refine ⟨cdg, fun A outer s H f c q Q tl hr hgd e0 act hc h => ?_⟩
  have kx : K.In s.heap := e0.mod.kin.keeps fun b o e => (e0.bs b o e).1
  have nl : s.heap.NoLimit := e0.mod.nolimit.keeps fun b o e => (e0.bs b o e).1
  have bs := bnd s [.ref f] kx rfl
  rw [List.append_nil] at bs
  have kinds : ∀ y ∈ ([a] : List Str).zip [Value.ref f], (defScope st).names.lookup y.1 = some .local ∨ ((defScope st).names.lookup y.1 = some .cell ∧ ((cellsFrom (s.heap.objs.size + 1) (defScope st).names []).lookup y.1).isSome = true) := fun y hy => by
    obtain ⟨nm, vl⟩ := y
    rcases C.sc.par nm (List.of_mem_zip hy).1 with z | z
    · exact Or.inl z
    · exact Or.inr ⟨z, PySem.W.cellsFrom_some _ _ _ (Or.inl z)⟩
  refine codeAny_call_function hr.depth (kx _ _ lk) rfl C.sc.co C.sc.gen rfl (PySem.W.codeRec_of kx hcd) (bs _ _ _ _ ?_)
  refine wpAny_newFunctionEnv_cells C.sc.kind kinds fun env henv s1 xc => ?_
  subst henv
  refine ⟨nl.keeps xc.toInCall.keep, codeAny_func ?_⟩
  obtain ⟨t, ht, hq⟩ := C.gv g cdg A outer s H f c q Q tl (hr.deeper _) hgd (act (hr.deeper _)) hc h
  have ini : L2.Inv (cxOf CX0 P w K mg base N x (defScope st) g cdg A outer s H E0) [] (start N [.ref f]) H s1 := inv_start (ps := [a]) (us := [.ref f]) C.sc hr.hd e0 rfl (.cons rfl .nil) xc
  refine wpAny_mono (ht.nox.run [] s1 (start N [.ref f]) H _ ini hq) (fun fl s2 hs => ?_) fun e s2 hs => hs
  have back : ∀ {σ2 : L2.St} {H2 : Hp} {v : V} {u : Value}, L2.Inv (cxOf CX0 P w K mg base N x (defScope st) g cdg A outer s H E0) [] σ2 H2 s2 → RelV v u → Q v H2 → CE outer P w H s Q u s2 :=
    fun {σ2 H2 v u} J rv q => ⟨v, H2, J.os, J.bare, J.base, J.hok, rv, q⟩
  cases fl with
  | ret u =>
    obtain ⟨v, σ2, H2, J, rv, q⟩ := hs
    exact back J rv q
  | next =>
    obtain ⟨σ2, H2, J, q⟩ := hs
    exact back (v := V.non) (u := Value.none) J rfl q
  | brk =>
    obtain ⟨_, _, _, q⟩ := hs
    exact q.elim
  | cont =>
    obtain ⟨_, _, _, q⟩ := hs
    exact q.elim
end
section
variable {X : Cx} {pins : List (Addr × Obj)} {σ : L2.St} {H : Hp} {s : Shared}
/-- the lambda called where its maker's call has come to: what its body lets out is told of the caller's names there -/
theorem pe_lamAct {Ng : List Str} {qg : Str} {sg : Scope} {g f c : Addr} {cdg pm ctv : Value} {params : Arguments} {body : Expr} {scope : Scope} {k : Nat} {a : Str} {pn : List (Addr × Obj)} {xe : Value → Shared → Prop} {W : WX} {t : XK → TE} {p1 p2 : Pos}
    (I : Inv X pins σ H s) (L : LamS X.env.scope scope) (hf : s.heap.get? f = some (PySem.W.kla_obj "<lambda>" (X.env.qual ++ "<lambda>") params body scope (cloFrom X.env.cells scope.names []) pm c ctv)) (fresh : H f = none) (nf : f ∉ frs X.stack)
    (bnd : bindArgs (PySem.W.kla_fn "<lambda>" (X.env.qual ++ "<lambda>") params body scope (cloFrom X.env.cells scope.names []) pm (.ref c) ctv) ⟨[], []⟩ = pure [])
    (tk : Takes ((cxOf CX0 X.prog X.w X.K X.mg X.base Ng qg sg g cdg X.A X.stack s H E0).tr pn xe) W) (hr : Room (k + 1) (X.A.deeper (envOfC qg sg s.heap.objs.size g cdg)))
    (hbody : ∀ (A : Around) (outer : List Env) (s : Shared) (H : Hp) (E : XK), Room k (A.deeper (lamEnv X scope s.heap.objs.size f c)) → PE (lamCx X A outer s H E scope f c) body (t E))
    (hN : Ng[0]? = some a) (hv : Vis sg a) (hd : (a == ("__debug__" : Str)) = false) (hcd : (a == ("__classdict__" : Str)) = false) :
    PE ((cxOf CX0 X.prog X.w X.K X.mg X.base Ng qg sg g cdg X.A X.stack s H E0).tr pn xe) (.Call (.Name a p1) [] [] p2)
      (fun σ2 H2 Q2 => σ2[0]? = some (some (.ref f)) ∧ H2 c = some (CodeO c (X.env.qual ++ "<lambda>")) ∧ t (WE W σ2) σ H2 Q2) := by
  refine ⟨fun pins2 s2 σ2 H2 Q2 I2 h => ?_⟩
  obtain ⟨h1, h2, h3⟩ := h
  have name := (pe_var (X := (cxOf CX0 X.prog X.w X.K X.mg X.base Ng qg sg g cdg X.A X.stack s H E0).tr pn xe) (pos := p1) (i := 0) hN hv hd hcd).run pins2 s2 σ2 H2 (fun v H3 => v = .ref f ∧ H3 = H2) I2 ⟨.ref f, h1, rfl, rfl⟩
  refine wpAny_Call_Name_kw (thn name fun u s3 e3 => ?_)
  obtain ⟨v, H3, I3, rv, ev, eH⟩ := e3
  subst ev eH
  obtain rfl : u = Value.ref f := rv
  have there := I3.base.keep f _ hf fresh nf List.not_mem_nil
  refine PySem.W.callWith_F0 ⟨_, _, _, _, there⟩ (wpAny_call ?_)
  obtain ⟨⟨oc, vs, tt, c1, c2, c3⟩, _, _⟩ := I3.hok c _ h2
  have step : codeAny (model X.prog X.w) (X.A.deeper (envOfC qg sg s.heap.objs.size g cdg)) (.call (.ref f) ⟨[], []⟩) (CR (L2.CX X.prog X.w) (envOfC qg sg s.heap.objs.size g cdg :: X.stack) X.prog X.w H3 s3 Q2 (WE W σ2)) s3 := by
    refine PySem.W.kla_callFunE hr.depth there rfl L.co L.gen rfl ⟨c, oc, vs, tt, rfl, c1, c2, c3⟩ ?_
    rw [bnd]
    refine wpAny_pure (wpAny_newFunctionEnv (fun y hy => (L.own y hy).2) (fun y hy => nomatch hy) (fun h4 ns4 sub4 => ⟨I3.nolimit.fresh _ sub4, PySem.W.kla_codeExpr ?_⟩) L.kind)
    have kept : ∀ b o, s3.heap.get? b = some o → h4.get? b = some o := fun b o e => sub4.extBut b o (Nat.ne_of_lt (Heap.lt_size e)) (Heap.get?_push_of_some _ e)
    have J := lam_start2 (E := WE W σ2) (f := f) (c' := c) (tk := s3.toks + ([] : List (Str × Value)).length) I L I3.env0 hr.hd I3.base ns4 kept
    exact wpAny_mono ((hbody _ _ s3 H3 (WE W σ2) (hr.deeper _)).run [] _ _ H3 Q2 J h3) (fun v s5 ⟨y, H5, J5, r5, q5⟩ => ⟨y, H5, J5.os, J5.bare, J5.base, J5.hok, r5, q5⟩) fun _ _ z => z
  refine codeAny_mono step fun r s5 hq => ?_
  cases r with
  | error e => exact passAt tk σ2 pins2 H3 s3 e s5 I3 hq
  | ok fl =>
    cases fl with
    | ret u => exact I3.after hq
    | next => exact hq.elim
    | brk => exact hq.elim
    | cont => exact hq.elim
end
section
variable {X : Cx}
/-- what a lambda's body lets out is taken by whoever asks for it -/
theorem takesL {A : Around} {outer : List Env} {s : Shared} {H : Hp} {E : XK} {scope : Scope} {f c : Addr} : Takes (lamCx X A outer s H E scope f c) (WD E) := takes_of rfl rfl rfl rfl
/-- x(lambda: body) -/
theorem pe_lam {T : List (Addr × Str)} {TT : LamT → Hp → VK → Prop} {x a : Str} {st : Stmt} {N : List Str} {c P : Addr} {j k kl : Nat} {params : Arguments} {body : Expr} {scope : Scope} {t : XK → TE} {p lpos pos : Pos}
    (C : ClL X.prog X.w X.K X.mg X.base k N x st a TT) (hr : Room j X.A) (hgd : X.A.guards = some []) (hk : k + 1 ≤ j) (hkl : kl + 2 ≤ j) (hg : Gl X x) (TB : TabB X.base X.mg c P) (hcode : X.env.code = .ref c) (hT : (P, X.env.qual ++ "<lambda>") ∈ T) (hu : ∀ p ∈ T, p.1 = P → p.2 = X.env.qual ++ "<lambda>")
    (L : LamS X.env.scope scope) (hbody : ∀ (A : Around) (outer : List Env) (s : Shared) (H : Hp) (E : XK) (f c2 : Addr), Room kl (A.deeper (lamEnv X scope s.heap.objs.size f c2)) → PE (lamCx X A outer s H E scope f c2) body (t E))
    (hdef : defaultsOf params X.env = ([], []) := by rfl)
    (bnd : ∀ (q : Str) (cl : List (Str × Addr)) (pm cv ctv : Value), bindArgs (PySem.W.kla_fn "<lambda>" q params body scope cl pm cv ctv) ⟨[], []⟩ = pure [] := by intros; rfl)
    (hNa : N[0]? = some a := by rfl) (hva : Vis (defScope st) a := by decide) (hdb : (x == ("__debug__" : Str)) = false := by decide) (hd : (a == ("__debug__" : Str)) = false := by decide) (hcd : (a == ("__classdict__" : Str)) = false := by decide) :
    PE X (.Call (.Name x p) [.Lambda params body scope lpos] [] pos) (tLam T TT t) := by
  obtain ⟨g, fd, hm, kp, cdg, go⟩ := C.run
  refine ⟨fun pins s σ H Q I h => wpAny_Call_Name_kw (ld_glob I hg hm ?_ hdb)⟩
  obtain ⟨tabs, h⟩ := h
  refine PySem.W.callWith_K (h₀ := X.base) I.ok.mod.kin kp (Calls.spliced_cons (lam_make2 I TB hcode hT hu tabs hdef (L.has I.ok) fun f c2 pm ctv H1 s1 I1 ext tabs1 isf fresh nf isc => ?_)) (by rfl) (by rfl)
  refine Calls.spliced_nil ⟨I1.kIn, wpAny_call (codeAny_mono (go X.A X.stack s1 H1 f c2 _ Q (fun E H2 Q2 => t E σ H2 Q2) (hr.mono hk) hgd I1.env0 (fun hr2 W pn xe p1 p2 tk => ?_) isc (h H1 ext tabs1)) fun r s2 hq => ?_)⟩
  · have hr3 : Room (kl + 1) (X.A.deeper (envOfC x (defScope st) s1.heap.objs.size g cdg)) := (hr.mono hkl).deeper _
    exact pe_lamAct I1 L isf fresh nf (bnd _ _ _ _ _) tk hr3 (fun A outer s H E hr4 => hbody A outer s H E f c2 hr4) hNa hva hd hcd
  · cases r with
    | error e => exact hq.elim
    | ok fl =>
      cases fl with
      | ret u => exact I1.after hq
      | next => exact hq.elim
      | brk => exact hq.elim
      | cont => exact hq.elim
end
/-! ### a heap whose tables may grow -/
/-- what stands outside of S stays, but for the tables of code objects -/
def KpN (S : Addr → Prop) (H H' : Hp) : Prop := ∀ b o, H b = some o → (∀ ps, o ≠ .tbl ps) → ¬ S b → H' b = some o
section
variable {S : Addr → Prop} {H G F : Hp} {a : Addr}
theorem KpN.refl : KpN S H H := fun _ _ h _ _ => h
theorem KpN.trans (h : KpN S H G) (k : KpN S G F) : KpN S H F := fun b o e n m => k b o (h b o e n m) n m
theorem KpN.of_same (s : Same H G) : KpN S H G := fun b o e _ _ => s b o e
theorem KpN.of_ext (s : ExtN H G) : KpN S H G := fun b o e n _ => s b o e n
theorem KpN.of_kp (s : S a) (k : Kp a H G) : KpN S H G := fun b o e _ m => k b o e fun z => m (z ▸ s)
end
end Lp
namespace Lp
open PySem PySem.Spec PyProof.Rows L2 LamX
theorem tbB_ok {K : PySem.W.Frag} {x : Str} (h : tbB K x = true) : (∀ f fd od cl sl, f = He.ga K x → K.lookup f = some ⟨cl, od, .func fd, sl⟩ → fd.code = .ref (caT K x)) ∧ PySem.W.codeHdIn K (caT K x) (paT K x) = true ∧ K.lookup (paT K x) = none ∧ paT K x ≠ mainGlobals := by
  unfold tbB at h
  simp only [Bool.and_eq_true, Bool.not_eq_true', Option.isNone_iff_eq_none] at h
  obtain ⟨h1, h2, h3, h4⟩ := h
  refine ⟨fun f fd od cl sl hf e => ?_, h2, h3, fun z => by rw [z] at h4; simp at h4⟩
  subst hf
  unfold fnRefB at h1
  unfold caT
  rw [e] at h1 ⊢
  have h1 : isRef fd.code = true := h1
  show fd.code = .ref (match fd.code with | .ref c => c | _ => 0)
  cases hc : fd.code with
  | ref c => rfl
  | _ => rw [hc] at h1; cases h1
/-- the def st stands under its name x; c is its code object -/
structure DfT (K : PySem.W.Frag) (mg : Str → Option Value) (x : Str) (st : Stmt) (c : Addr) : Prop where
  ex : ∃ f fd, FnP K x st f fd ∧ mg x = some (.ref f) ∧ fd.code = .ref c
section
variable {P : Program} {w : World} {K : PySem.W.Frag} {mg : Str → Option Value} {h : Heap} {fa : List He.Fa} {fn : List He.DefD} {x : Str} {st : Stmt} {base : Heap} {N ps : List Str} {k : Nat} {sp : Sp} {f c : Addr}
theorem DfT.of (X : K.In h) (G : h.Ns mainGlobals mg) (c : He.SaysD fa fn K) (t : tbB K x = true) (i : Nat) (hi : fn[i]? = some (mkD x st)) (hj : fa[i]? = some (.glo x)) : DfT K mg x st (caT K x) := by
  obtain ⟨fd, F⟩ := c.def_ i hi
  obtain ⟨oc, od, dV, kV, doc, pm, an, cdv, ct, osl, e, lk, _⟩ := F.ex
  exact ⟨_, fd, F, He.glo_ok X G (c.fact i hj), (tbB_ok t).1 _ fd _ _ _ rfl lk⟩
theorem DfT.df (D : DfT K mg x st c) : Df K mg x st := by
  obtain ⟨f, fd, F, hm, _⟩ := D.ex
  exact ⟨f, fd, F, hm⟩
theorem DfT.okG (D : DfT K mg x st c) (S : FnScope N ps (defScope st))
    (bd : ∀ (kV doc pm : Value) (an : Option Addr) (cdv ct : Value) (us : List Value), us.length = ps.length → bindArgs (PySem.W.fnOf x x (defArgs st) (defBody st) (defScope st) .none kV doc pm an cdv ct) ⟨us, []⟩ = pure (ps.zip us))
    (len : ∀ vs H Q E, sp vs H Q E → vs.length = ps.length)
    (body : ∀ (f : Addr) (A : Around) (outer : List Env) (s : Shared) (H : Hp) (vs : List V) (Q : VK) (E : XK), Room k (A.deeper (envOfC x (defScope st) s.heap.objs.size f (.ref c))) → A.guards = some [] → sp vs H Q E →
      ∃ t, PSs (cxOf CX0 P w K mg base N x (defScope st) f (.ref c) A outer s H E).nox (defBody st) t ∧ t { nx := fun _ H' => Q .non H', rt := Q } (start N vs) H) : ClG P w K mg base (k + 1) x st ps sp := by
  obtain ⟨f, fd, F, hm, hc⟩ := D.ex
  refine ⟨f, fd, F, ?_, hm, F.bindsN bd⟩
  obtain ⟨oc, od, dV, kV, doc, pm, an, cdv, ct, osl, rfl, lk, hcd, _, _⟩ := F.ex
  obtain rfl : cdv = .ref c := hc
  refine ⟨len, fun A outer s H args us vs Q E hr hgd e0 hb rel hsp => ?_⟩
  have ln := len _ _ _ _ hsp
  have kx : K.In s.heap := e0.mod.kin.keeps fun b o e => (e0.bs b o e).1
  have nl : s.heap.NoLimit := e0.mod.nolimit.keeps fun b o e => (e0.bs b o e).1
  have kinds : ∀ y ∈ ps.zip us, (defScope st).names.lookup y.1 = some .local ∨ ((defScope st).names.lookup y.1 = some .cell ∧ ((cellsFrom (s.heap.objs.size + 1) (defScope st).names []).lookup y.1).isSome = true) := fun y hy => by
    obtain ⟨nm, vl⟩ := y
    rcases S.par nm (List.of_mem_zip hy).1 with z | z
    · exact Or.inl z
    · exact Or.inr ⟨z, PySem.W.cellsFrom_some _ _ _ (Or.inl z)⟩
  refine codeAny_call_function hr.depth (kx _ _ lk) rfl S.co S.gen rfl (PySem.W.codeRec_of kx hcd) (hb _ _ _ _ ?_)
  refine wpAny_newFunctionEnv_cells S.kind kinds fun env henv s1 xc => ?_
  subst henv
  refine ⟨nl.keeps xc.toInCall.keep, codeAny_func ?_⟩
  obtain ⟨t, ht, hq⟩ := body f A outer s H vs Q E (hr.deeper _) hgd hsp
  have ini : L2.Inv (cxOf CX0 P w K mg base N x (defScope st) f (.ref c) A outer s H E) [] (start N vs) H s1 := inv_start S hr.hd e0 ln rel xc
  refine wpAny_mono (ht.nox.run [] s1 (start N vs) H _ ini hq) (fun fl s2 hs => ?_) fun e s2 hs => hs
  have back : ∀ {σ2 : L2.St} {H2 : Hp} {v : V} {u : Value}, L2.Inv (cxOf CX0 P w K mg base N x (defScope st) f (.ref c) A outer s H E) [] σ2 H2 s2 → RelV v u → Q v H2 → CE outer P w H s Q u s2 :=
    fun {σ2 H2 v u} J rv q => ⟨v, H2, J.os, J.bare, J.base, J.hok, rv, q⟩
  cases fl with
  | ret u =>
    obtain ⟨v, σ2, H2, J, rv, q⟩ := hs
    exact back J rv q
  | next =>
    obtain ⟨σ2, H2, J, q⟩ := hs
    exact back (v := V.non) (u := Value.none) J rfl q
  | brk =>
    obtain ⟨_, _, _, q⟩ := hs
    exact q.elim
  | cont =>
    obtain ⟨_, _, _, q⟩ := hs
    exact q.elim
end
/-- what is known of the tables of these defs in the law's own heap -/
def TabsB (K : PySem.W.Frag) (mg : Str → Option Value) (base : Heap) (ts : List Str) : Prop := ∀ x ∈ ts, TabB base mg (caT K x) (paT K x)
/-- their names -/
def tabL (K : PySem.W.Frag) (ts : List Str) : List (Addr × Str) := ts.map fun x => (paT K x, x ++ ".<locals>." ++ "<lambda>")
theorem tabL_mem {K : PySem.W.Frag} {ts : List Str} {x : Str} (h : x ∈ ts) : (paT K x, x ++ ".<locals>." ++ "<lambda>") ∈ tabL K ts := List.mem_map.mpr ⟨x, h, rfl⟩
theorem nodup_inj {α β : Type} {f : α → β} : ∀ {l : List α}, (l.map f).Nodup → ∀ {x y : α}, x ∈ l → y ∈ l → f x = f y → x = y
  | a :: l, h, x, y, hx, hy, e => by
    rw [List.map_cons, List.nodup_cons] at h
    rcases List.mem_cons.mp hx with z | hx
    · rcases List.mem_cons.mp hy with z2 | hy
      · rw [z, z2]
      · exact absurd (List.mem_map.mpr ⟨y, hy, by rw [← e, z]⟩) h.1
    · rcases List.mem_cons.mp hy with z2 | hy
      · exact absurd (List.mem_map.mpr ⟨x, hx, by rw [e, z2]⟩) h.1
      · exact nodup_inj h.2 hx hy e
theorem tabL_one {K : PySem.W.Frag} {ts : List Str} {x : Str} (nd : (ts.map (paT K)).Nodup) (h : x ∈ ts) : ∀ p ∈ tabL K ts, p.1 = paT K x → p.2 = x ++ ".<locals>." ++ "<lambda>" := fun p hp e => by
  obtain ⟨y, hy, rfl⟩ := List.mem_map.mp hp
  rw [nodup_inj nd hy h e]
/-- the law's own call, tables beside its list -/
theorem lawCallT {P : Program} {w : World} {K : PySem.W.Frag} {mg mb : Str → Option Value} {k : Nat} {fa a : Addr} {fd : FuncData} {x : Str} {sp : Sp} {ts : List Str} {s1 : Shared} {vs : List Value} {ns : List Int}
    (kx : K.In s1.heap) (gns : s1.heap.Ns mainGlobals mg) (bns : s1.heap.Ns builtinsNs mb) (bbt : ∀ x : Str, x ≠ "__name__" → mb x = bootBuiltins x) (nlim : s1.heap.NoLimit) (gen0 : s1.gens = #[]) (tk : TabsK K s1.heap ts)
    (bm : ∃ bm ob, mg "__builtins__" = some (.ref bm) ∧ bm ≠ builtinsNs ∧ s1.heap.get? bm = some ob ∧ ob.cls = .type "module" ∧ ob.dict = some builtinsNs ∧ ob.data = .plain)
    (hob : s1.heap.get? a = some { cls := .type "list", data := .seq vs.toArray }) (hint : IntsAre vs ns) (hlen : ns.length ≤ sizeLine) (hr : Room k callerA)
    (F : ∀ base : Heap, TabsB K mg base ts → FnG P w K mg base k fa fd [x] sp) (hbind : ∀ (s : Shared) (u : Value), BindsTo s fd ⟨[u], []⟩ [(x, u)])
    (hsp : ∀ H : Hp, Tabs (tabL K ts) H → SqL K H a (ns.map V.int) → sp [.ref a] H (fun v _ => v = .bl true) fun _ _ _ => False) :
    codeAny (model P w) callerA (.call (.ref fa) ⟨[.ref a], []⟩) (fun r s' => r = .ok (.ret (.bool true)) ∧ OldK s1.heap s'.heap ∧ s'.os = s1.os ∧ AllBare s'.gens) s1 := by
  have rel := vals_ints hint
  have lv := hint.length
  obtain ⟨lst, hlst⟩ : ∃ o : Obj, o = { cls := .type "list", data := .seq vs.toArray } := ⟨_, rfl⟩
  rw [← hlst] at hob
  have lstData : ∀ {d : Data}, lst.data = d → d = .seq vs.toArray := fun {d} e => by rw [← e, hlst]
  have tabOf : ∀ b, b ∈ ts.map (paT K) → s1.heap.get? b = some newTab ∧ K.lookup b = none := fun b hb => by
    obtain ⟨y, hy, rfl⟩ := List.mem_map.mp hb
    exact ⟨tk.new y hy, (tbB_ok (tk.tb y hy)).2.2.1⟩
  have aNot : a ∉ ts.map (paT K) := fun z => by
    have e := (tabOf a z).1
    rw [hob] at e
    have e2 := congrArg Obj.data (Option.some.inj e)
    rw [hlst] at e2
    cases e2
  have main : ∀ H : Hp, (∀ b ∈ ts.map (paT K), H b = some (.tbl #[])) → SqL K H a (ns.map V.int) → HOk P w H s1.heap → (∀ b u, H b = some u → (b ∈ ts.map (paT K) ∧ u = .tbl #[]) ∨ (b = a ∧ K.lookup a = none ∧ ∃ xs, u = .frz lst (.lst xs))) →
      codeAny (model P w) callerA (.call (.ref fa) ⟨[.ref a], []⟩) (fun r s' => r = .ok (.ret (.bool true)) ∧ OldK s1.heap s'.heap ∧ s'.os = s1.os ∧ AllBare s'.gens) s1 := by
    intro H hT hS hok only
    have free : ∀ {b : Addr} {o : Obj}, s1.heap.get? b = some o → o ≠ lst → o ≠ newTab → H b = none := fun {b o} e n1 n2 => by
      cases hb : H b with
      | none => rfl
      | some u =>
        rcases only b u hb with ⟨m, _⟩ | ⟨rfl, _⟩
        · rw [(tabOf b m).1] at e
          exact absurd (Option.some.inj e).symm n2
        · rw [hob] at e
          exact absurd (Option.some.inj e).symm n1
    have dataFree : ∀ {b : Addr} {o : Obj}, s1.heap.get? b = some o → o.data ≠ .seq vs.toArray → o.data ≠ .fields #[] → (hidT s1.heap H).get? b = some o := fun {b o} e n1 n2 =>
      hidT_get e (free e (fun z => n1 (lstData (by rw [z]))) fun z => n2 (by rw [z]; rfl))
    have nsk : ∀ {b : Addr} {m : Str → Option Value}, s1.heap.Ns b m → (hidT s1.heap H).Ns b m := fun {b m} z => by
      obtain ⟨o, es, ep, e, d, r⟩ := z
      exact ⟨o, es, ep, dataFree e (by rw [d]; intro q; cases q) (by rw [d]; intro q; cases q), d, r⟩
    have kb : K.In (hidT s1.heap H) := fun b o e => hidT_get (kx b o e) (by
      cases hb : H b with
      | none => rfl
      | some u =>
        rcases only b u hb with ⟨m, _⟩ | ⟨rfl, z, _⟩
        · rw [(tabOf b m).2] at e
          cases e
        · rw [z] at e
          cases e)
    have tabs : TabsB K mg (hidT s1.heap H) ts := fun y hy => by
      obtain ⟨_, cb, _, nm⟩ := tbB_ok (tk.tb y hy)
      refine ⟨PySem.W.codeHd_of_K kb cb, ?_, fun z => nm z.symm⟩
      obtain ⟨bmA, ob, b1, b2, b3, b4, b5, b6⟩ := bm
      have mt := tk.new y hy
      refine ⟨bmA, ob, b1, b2, fun z => ?_, fun z => ?_, dataFree b3 (by rw [b6]; intro q; cases q) (by rw [b6]; intro q; cases q), b4, b5, b6⟩
      · obtain ⟨o, es, ep, e, d, _⟩ := gns
        rw [z, e] at b3
        cases b3
        rw [d] at b6
        cases b6
      · rw [z, mt] at b3
        cases b3
        cases b6
    obtain ⟨mc, c1, c2⟩ := nlim
    have md : Mod K mg (hidT s1.heap H) := ⟨kb, nsk gns, ⟨mb, nsk bns, bbt⟩, ⟨mc, nsk c1, c2⟩⟩
    have en : Env0 P w K mg (hidT s1.heap H) callerA [] s1 H := ⟨rfl, md, fun b o e => of_hidT e, Nat.le_of_eq (hidT_size _ _), trivial, fun b hb => absurd (show b ∈ ([] : List Addr) from hb) List.not_mem_nil, hok, .of_eq gen0⟩
    have tabsH : Tabs (tabL K ts) H := fun p hp => by
      obtain ⟨y, hy, rfl⟩ := List.mem_map.mp hp
      exact TabS.nil (hT _ (List.mem_map.mpr ⟨y, hy, rfl⟩))
    refine codeAny_mono ((F _ tabs).run callerA [] s1 H ⟨[.ref a], []⟩ [.ref a] [.ref a] _ _ hr rfl en (hbind s1 (.ref a)) (.cons rfl .nil) (hsp H tabsH hS)) fun r s2 h => ?_
    cases r with
    | error e => exact h.elim
    | ok fl =>
      cases fl with
      | next => exact h.elim
      | brk => exact h.elim
      | cont => exact h.elim
      | ret u =>
        obtain ⟨v, H2, os, bare, un, hok2, rv, q⟩ := h
        have q2 : v = .bl true := q
        subst q2
        obtain rfl : u = Value.bool true := rv
        have grown : ∀ b, b ∈ ts.map (paT K) → ∃ more : Array Value, s2.heap.get? b = some { cls := .none, data := .fields more } := fun b hb => by
          obtain ⟨more, e⟩ := un.tbls b #[] (hT b hb)
          exact ⟨_, hok2 b _ e⟩
        have old : ∀ b o, b ∉ ts.map (paT K) → s1.heap.get? b = some o → s2.heap.get? b = some o := fun b o nb e => by
          cases hb : H b with
          | none => exact un.keep b o e hb (fun z => absurd (show b ∈ ([] : List Addr) from z) List.not_mem_nil) List.not_mem_nil
          | some u =>
            rcases only b u hb with ⟨m, _⟩ | ⟨_, _, xs, rfl⟩
            · exact absurd m nb
            · obtain ⟨z1, _⟩ := hok b _ hb
              obtain ⟨z2, _⟩ := hok2 b _ (un.frzs b _ _ hb)
              rw [z1] at e
              cases e
              exact z2
        refine ⟨rfl, ⟨fun b o e => ?_, fun b o e => ?_⟩, os, bare⟩
        · by_cases hb : b ∈ ts.map (paT K)
          · obtain ⟨more, hm⟩ := grown b hb
            obtain ⟨y, hy, rfl⟩ := List.mem_map.mp hb
            have hn := tk.new y hy
            rw [hn] at e
            cases e
            exact Or.inr (Or.inl ⟨((PySem.W.codeHd_of_K kx (tbB_ok (tk.tb y hy)).2.1).tab hn).isCodeTable, rfl, #[], more, rfl, by rw [Array.empty_append]; exact hm⟩)
          · exact Or.inl (old b o hb e)
        · by_cases hb : b ∈ ts.map (paT K)
          · obtain ⟨more, hm⟩ := grown b hb
            exact ⟨_, hm⟩
          · exact ⟨o, old b o hb e⟩
  cases hk : K.lookup a with
  | some o =>
    have e := kx a o hk
    rw [hob] at e
    cases e
    refine main (fun b => if b ∈ ts.map (paT K) then some (.tbl #[]) else none) (fun b hb => if_pos hb) (.inr ⟨_, vs.toArray, _, hk, by rw [hlst], by rw [hlst], by rw [hlst], by rw [List.size_toArray, lv]; exact hlen, by simpa using rel⟩) (fun b u z => ?_) fun b u z => ?_
    · by_cases hb : b ∈ ts.map (paT K)
      · have z2 := (if_pos hb).symm.trans z
        cases z2
        exact (tabOf b hb).1
      · have z2 := (if_neg hb).symm.trans z
        cases z2
    · by_cases hb : b ∈ ts.map (paT K)
      · have z2 := (if_pos hb).symm.trans z
        cases z2
        exact .inl ⟨hb, rfl⟩
      · have z2 := (if_neg hb).symm.trans z
        cases z2
  | none =>
    refine main (fun b => if b ∈ ts.map (paT K) then some (.tbl #[]) else if b = a then some (.frz lst (.lst (ns.map V.int))) else none) (fun b hb => if_pos hb) (.inl (.inr ⟨_, (if_neg aNot).trans (if_pos rfl)⟩)) (fun b u z => ?_) fun b u z => ?_
    · by_cases hb : b ∈ ts.map (paT K)
      · have z2 := (if_pos hb).symm.trans z
        cases z2
        exact (tabOf b hb).1
      · have z1 := (if_neg hb).symm.trans z
        by_cases ha : b = a
        · have z2 := (if_pos ha).symm.trans z1
          cases z2
          rw [ha]
          exact ⟨hob, by rw [List.length_map]; exact hlen, vs, _, rel, by rw [hob, hlst]⟩
        · have z2 := (if_neg ha).symm.trans z1
          cases z2
    · by_cases hb : b ∈ ts.map (paT K)
      · have z2 := (if_pos hb).symm.trans z
        cases z2
        exact .inl ⟨hb, rfl⟩
      · have z1 := (if_neg hb).symm.trans z
        by_cases ha : b = a
        · have z2 := (if_pos ha).symm.trans z1
          cases z2
          exact .inr ⟨ha, hk, _, rfl⟩
        · have z2 := (if_neg ha).symm.trans z1
          cases z2
theorem walkT {l : PySem.W.OpenLaw} {n k : Nat} {q : Program} {loose : List Str} {XP : (Str → Option Value) → Heap → Prop} {YP : World → Heap → Prop} {d : DefRec} {x : Str} {ts : List Str}
    (hn : l.most = some n) (hn2 : n ≤ sizeLine) (hdf : d.params.defaults = []) (hr : Room k callerA)
    (F : ∀ (w : World) (mg : Str → Option Value) (fa : Addr) (h : Heap), YP w h → h.Ns mainGlobals mg → mg d.name = some (.ref fa) →
      ∃ (K : PySem.W.Frag) (fd : FuncData) (sp : Sp), K.In h ∧ TabsK K h ts ∧ (∀ (s : Shared) (u : Value), BindsTo s fd ⟨[u], []⟩ [(x, u)]) ∧
        (∀ (H : Hp) (a : Addr) (ns : List Int), ns.length ≤ n → Tabs (tabL K ts) H → SqL K H a (ns.map V.int) → sp [.ref a] H (fun v _ => v = .bl true) fun _ _ _ => False) ∧ ∀ base : Heap, TabsB K mg base ts → FnG l.prog w K mg base k fa fd [x] sp) :
    PySem.W.WalkO q loose XP YP l.row.toRowW d [] (fun f vs => PySem.call f vs) := by
  refine Att.attach_call hn hdf fun w s0 s1 mg mb fa o pm cd doc a vs ns G Y ho hd hcd hmg hobj hints hlen hg => ?_
  obtain ⟨K, fd, sp, kx, tk, hb, hsp, hF⟩ := F w mg fa _ Y G.T.g hmg
  exact lawCallT kx G.T.g G.T.b G.T.builtins G.T.nolimit hg tk G.T.bmain hobj hints (Nat.le_trans hlen hn2) hr hF hb fun H hH hS => hsp H a ns hlen hH hS
end Lp
namespace Lp
open PySem PySem.Spec PyProof.Rows L2 LamX
/-! ### what stays where tables of code objects grow -/
section
variable {K : PySem.W.Frag} {S : Addr → Prop} {H G F : Hp} {a b : Addr} {xs : List V} {v : V}
theorem KpN.lst (k : KpN S H G) (h : H b = some (.lst xs)) (n : ¬ S b) : G b = some (.lst xs) := k b _ h (fun _ z => nomatch z) n
theorem KpN.tup (k : KpN S H G) (h : H b = some (.tup xs)) (n : ¬ S b) : G b = some (.tup xs) := k b _ h (fun _ z => nomatch z) n
theorem KpN.dK (k : KpN S H G) (h : H b = some (.dK [])) (n : ¬ S b) : G b = some (.dK []) := k b _ h (fun _ z => nomatch z) n
theorem sqt_kpn (h : SqT K H b xs) (n : ¬ S b) (k : KpN S H G) : SqT K G b xs := by
  rcases h with (h | ⟨o, h⟩) | h
  · exact .inl (.inl (k.tup h n))
  · exact .inl (.inr ⟨o, k b _ h (fun _ z => nomatch z) n⟩)
  · exact .inr h
theorem sql_kpn (h : SqL K H b xs) (n : ¬ S b) (k : KpN S H G) : SqL K G b xs := by
  rcases h with (h | ⟨o, h⟩) | h
  · exact .inl (.inl (k.lst h n))
  · exact .inl (.inr ⟨o, k b _ h (fun _ z => nomatch z) n⟩)
  · exact .inr h
/-- the addresses of S stand in H, and are no tables -/
def Dm (S : Addr → Prop) (H : Hp) : Prop := ∀ b, S b → ∃ o, H b = some o ∧ ∀ ps, o ≠ .tbl ps
theorem Dm.same (d : Dm S H) (s : Same H G) : Dm S G := fun b hb => by
  obtain ⟨o, h, n⟩ := d b hb
  exact ⟨o, s b o h, n⟩
theorem Dm.ext (d : Dm S H) (s : ExtN H G) : Dm S G := fun b hb => by
  obtain ⟨o, h, n⟩ := d b hb
  exact ⟨o, s b o h n, n⟩
theorem Dm.new (d : Dm S H) (h : H b = none) : ¬ S b := fun z => by
  obtain ⟨o, e, _⟩ := d b z
  rw [h] at e
  cases e
theorem ext_same (s : Same H G) : ExtN H G := fun b o h _ => s b o h
/-- no address at all -/
abbrev S0 : Addr → Prop := fun _ => False
theorem Dm.none_ : Dm S0 H := fun _ z => z.elim
theorem kpn_ext (s : ExtN H G) : KpN S H G := KpN.of_ext s
theorem ext_kpn (k : KpN S0 H G) : ExtN H G := fun b o h n => k b o h n id
end
/-- a list made since then is written -/
theorem ext_put {H F G : Hp} {l : Addr} {o : HO} (h : ExtN H F) (n : F l = none) (k : ExtN F G) : ExtN H (upd G l o) := fun b u e nt => by
  have e1 := h b u e nt
  rw [upd_ne (fun z => by rw [z, n] at e1; cases e1)]
  exact k b u e1 nt
theorem tabs_put {T : List (Addr × Str)} {G : Hp} {l : Addr} {xs ys : List V} (t : Tabs T G) (h : G l = some (.lst xs)) : Tabs T (upd G l (.lst ys)) := fun p hp => by
  obtain ⟨ps, h1, h2, h3⟩ := t p hp
  refine ⟨ps, by rw [upd_ne (fun z => by rw [z, h] at h1; cases h1)]; exact h1, h2, fun pos cv hc => ?_⟩
  obtain ⟨c, e1, e2⟩ := h3 pos cv hc
  refine ⟨c, e1, ?_⟩
  rw [upd_ne (fun z => by rw [z, h] at e2; unfold CodeO at e2; cases e2)]
  exact e2
/-! ### shown texts hold characters -/
theorem strOk_of (z : String) : PyData.strOk (Str.ofString z) = true := by
  show (Str.ofString z).cps.all (· < 0x110000) = true
  rw [← Array.all_toList, List.all_eq_true]
  intro c hc
  rw [Str.ofString_eq_toList] at hc
  have h2 : c ∈ z.toList.map Char.toNat := hc
  obtain ⟨d, _, rfl⟩ := List.mem_map.mp h2
  refine decide_eq_true ?_
  rcases d.valid with h | ⟨_, h⟩
  · exact Nat.lt_trans h (by decide)
  · exact h
theorem char_shown : ∀ c < 128, ∀ d ∈ Builtin.Str.reprChar 39 c ++ Builtin.Str.reprChar 34 c, d < 0x110000 := by decide +kernel
theorem fold_shown {q : Nat} (hq : q = 39 ∨ q = 34) : ∀ (l : List Nat) (acc : Array Nat), (∀ c ∈ l, c < 128) → (∀ d ∈ acc, d < 0x110000) → ∀ d ∈ l.foldl (fun out c => out ++ (Builtin.Str.reprChar q c).toArray) acc, d < 0x110000
  | [], acc, _, h2 => h2
  | c :: l, acc, h1, h2 => by
    rw [List.foldl_cons]
    refine fold_shown hq l _ (fun x hx => h1 x (List.mem_cons_of_mem _ hx)) fun d hd => ?_
    rcases Array.mem_append.mp hd with z | z
    · exact h2 d z
    · have z2 : d ∈ Builtin.Str.reprChar q c := by simpa using z
      refine char_shown c (h1 c List.mem_cons_self) d (List.mem_append.mpr ?_)
      rcases hq with e | e
      · exact .inl (by rw [← e]; exact z2)
      · exact .inr (by rw [← e]; exact z2)
theorem quote_two (x : Str) : reprQuote x = 39 ∨ reprQuote x = 34 := by
  unfold reprQuote
  split
  · exact .inr rfl
  · exact .inl rfl
theorem strOk_repr {x : Str} (h : ∀ c ∈ x.cps.toList, c < 128) : PyData.strOk (PyData.str x).shown = true := by
  show (reprText x).cps.all (· < 0x110000) = true
  rw [← Array.all_toList, List.all_eq_true]
  intro d hd
  refine decide_eq_true ?_
  have q := quote_two x
  have hd2 : d ∈ (x.cps.foldl (fun out c => out ++ (Builtin.Str.reprChar (reprQuote x) c).toArray) #[reprQuote x]).push (reprQuote x) := Array.mem_toList_iff.mp hd
  have ql : reprQuote x < 0x110000 := by omega
  rcases Array.mem_push.mp hd2 with z | z
  · rw [← Array.foldl_toList] at z
    exact fold_shown q x.cps.toList _ h (fun e he => by
      have : e = reprQuote x := by simpa using he
      omega) d z
  · omega
theorem strOk_int (i : Int) : PyData.strOk (PyData.int i).shown = true := strOk_of _
/-! ### list and tuple of any text -/
def chars (z : Str) : List V := z.cps.toList.map fun c => V.str ⟨#[c]⟩
theorem chars_len (z : Str) : (chars z).length = z.cps.size := by
  unfold chars
  rw [List.length_map, Array.length_toList]
theorem chars_rel {z : Str} {acc : Array Value} (items : ItemsOf (SignAt z) acc z.cps.size) : Vals (chars z) acc.toList := by
  refine vals_of_at (by rw [chars_len, Array.length_toList, items.1]) fun j x u hx hu => ?_
  obtain ⟨c, tk, hc, rfl⟩ := items.2 j u (by simpa using hu)
  have hc2 : z.cps.toList[j]? = some c := by rw [Array.getElem?_toList]; exact hc
  unfold chars at hx
  rw [List.getElem?_map, hc2] at hx
  rw [← Option.some.inj hx]
  exact ⟨tk, rfl⟩
def rTextZ (tup : Bool) : List V → Hp → VK → Prop := fun xs H Q => ∃ z : Str, xs = [.str z] ∧ z.cps.size ≤ 1000 ∧ ∀ l, H l = none → Q (.ref l) (upd H l (if tup = true then .tup (chars z) else .lst (chars z)))
theorem text_fits {z : Str} (h : z.cps.size ≤ 1000) : z.cps.size ≤ sizeLine := Nat.le_trans h (by decide)
theorem call_listZ {X : Cx} (calm : X.calm = true) : CallR X (.type "list") (rTextZ false) := fun pins s σ H xs us Q I r h => by
  obtain ⟨z, rfl, hl, q⟩ := h
  obtain ⟨u, rfl, tk0, rfl⟩ := vals1 r
  refine call_list_str (hn := text_fits hl) (I.ok.hd calm) z tk0 fun h2 tk acc c keep at_ items => ?_
  have new : ObjOk X.prog X.w (upd H s.heap.objs.size (.lst (chars z))) h2 s.heap.objs.size (.lst (chars z)) := ⟨by rw [chars_len]; exact text_fits hl, acc.toList, c, chars_rel items, by simpa using at_⟩
  exact ⟨.ref s.heap.objs.size, _, I.laid (t' := tk) keep (Nat.le_refl _) new, rfl, q _ (I.hok.fresh (Nat.le_refl _))⟩
theorem call_tupZ {X : Cx} (calm : X.calm = true) : CallR X (.type "tuple") (rTextZ true) := fun pins s σ H xs us Q I r h => by
  obtain ⟨z, rfl, hl, q⟩ := h
  obtain ⟨u, rfl, tk0, rfl⟩ := vals1 r
  refine call_tuple_str (hsz := text_fits hl) (I.ok.hd calm) z tk0 fun h2 tk acc keep items => ?_
  have J1 : Inv X pins σ H { s with heap := h2, toks := tk } := I.kept keep
  have at_ := Heap.get?_push_size h2 (o := { cls := .type "tuple", data := .seq acc }) rfl
  have new : ObjOk X.prog X.w (upd H h2.objs.size (.tup (chars z))) (h2.push { cls := .type "tuple", data := .seq acc }) h2.objs.size (.tup (chars z)) := ⟨by rw [chars_len]; exact text_fits hl, acc.toList, chars_rel items, _, by simpa using at_, rfl, _, rfl⟩
  exact ⟨.ref h2.objs.size, _, J1.laid (t' := tk) (fun b o e => Heap.get?_push_of_some _ e) (Nat.le_refl _) new, rfl, q _ (J1.hok.fresh (Nat.le_refl _))⟩
/-! ### the last def, where more is known of the base -/
theorem ClG.lastT {P : Program} {w : World} {K : PySem.W.Frag} {mg : Str → Option Value} {x : Str} {st : Stmt} {f : Addr} {k : Nat} {ps : List Str} {sp : Sp} {Ok : Heap → Prop} (D : Df K mg x st) (hf : mg x = some (.ref f)) (c : ∀ base, Ok base → ClG P w K mg base k x st ps sp) : ∃ fd, FnP K x st f fd ∧ ∀ base, Ok base → FnG P w K mg base k f fd ps sp := by
  obtain ⟨f0, fd0, F0, m0⟩ := D.ex
  have e0 : f0 = f := Value.ref.inj (Option.some.inj (m0.symm.trans hf))
  subst e0
  refine ⟨fd0, F0, fun base ok => ?_⟩
  obtain ⟨f1, fd1, F1, G1, m1, _⟩ := (c base ok).ex
  have e1 : f1 = f0 := Value.ref.inj (Option.some.inj (m1.symm.trans hf))
  subst e1
  obtain ⟨_, _, _, _, _, _, _, _, _, _, _, l0, _⟩ := F0.ex
  obtain ⟨_, _, _, _, _, _, _, _, _, _, _, l1, _⟩ := F1.ex
  have e2 := l0.symm.trans l1
  simp only [Option.some.injEq, Obj.mk.injEq, Data.func.injEq] at e2
  rw [e2.2.2.1]
  exact G1
section
variable {X : Cx} {x : Str} {st : Stmt} {ps : List Str} {j k : Nat} {sp : Sp} {q pos : Pos}
/-- a call with nothing -/
theorem pe_ug0 (c : ClG X.prog X.w X.K X.mg X.base k x st ps sp) (hr : Room j X.A) (hgd : X.A.guards = some []) (hk : k ≤ j) (hg : Gl X x) (hdb : (x == ("__debug__" : Str)) = false := by decide) : PE X (.Call (.Name x q) [] [] pos) (tCall sp [] E0 tNil) := by
  obtain ⟨f, fd, F, G, hm, b⟩ := c.ex
  refine ⟨fun pins s σ H Q I h => wpAny_Call_Name_kw (ld_glob I hg hm (PySem.W.callWith_K0 I.kIn F.kp ?_) hdb)⟩
  have h1 : sp [] H Q E0 := h
  have bd := b s [] I.kIn (G.len _ _ _ _ h1)
  rw [List.append_nil] at bd
  refine wpAny_call (codeAny_mono (G.run X.A X.stack s H ⟨[], []⟩ [] [] Q E0 (hr.mono hk) hgd I.env0 bd .nil h1) fun res s2 hq => ?_)
  cases res with
  | error er => exact hq.elim
  | ok fl =>
    cases fl with
    | ret u => exact I.after hq
    | next => exact hq.elim
    | brk => exact hq.elim
    | cont => exact hq.elim
theorem pe_u0 (c : Cl X.prog X.w X.K X.mg X.base k x st ps sp) (hr : Room j X.A) (hk : k ≤ j) (hg : Gl X x) (hdb : (x == ("__debug__" : Str)) = false := by decide) : PE X (.Call (.Name x q) [] [] pos) (tCall sp [] E0 tNil) := by
  obtain ⟨f, fd, F, G, hm, b⟩ := c.ex
  refine ⟨fun pins s σ H Q I h => wpAny_Call_Name_kw (ld_glob I hg hm (PySem.W.callWith_K0 I.kIn F.kp ?_) hdb)⟩
  have h1 : sp [] H Q E0 := h
  have bd := b s [] I.kIn (G.len _ _ _ _ h1)
  rw [List.append_nil] at bd
  refine wpAny_call (codeAny_mono (G.run X.A X.stack s H ⟨[], []⟩ [] [] Q E0 (hr.mono hk) I.env0 bd .nil h1) fun res s2 hq => ?_)
  cases res with
  | error er => exact hq.elim
  | ok fl =>
    cases fl with
    | ret u => exact I.after hq
    | next => exact hq.elim
    | brk => exact hq.elim
    | cont => exact hq.elim
end
end Lp
namespace Lp
open PySem PySem.Spec PyProof.Rows L2
/-! ### defs with keyword-only defaults that may raise -/
structure ClKX (P : Program) (w : World) (K : PySem.W.Frag) (mg : Str → Option Value) (base : Heap) (k : Nat) (x : Str) (st : Stmt) (ps : List Str) (kws : List (Str × V)) (sp : Sp) : Prop where
  ex : ∃ f fd, FnK K x st kws f fd ∧ FnOk P w K mg base (L2.CX P w) k f fd ps sp ∧ mg x = some (.ref f) ∧ ∃ ds, Vals (kws.map (·.2)) ds ∧ Binds K fd ps ds
section
variable {P : Program} {w : World} {K : PySem.W.Frag} {mg : Str → Option Value} {base : Heap} {x : Str} {st : Stmt} {N ps : List Str} {k : Nat} {sp sp' : Sp} {kws : List (Str × V)}
theorem DfK.okX (D : DfK K mg x st kws) (S : FnScope N ps (defScope st)) (n : Nat) (hk : kws ≠ []) (hn : n + kws.length = ps.length)
    (bd : ∀ (D : Addr) (doc pm : Value) (an : Option Addr) (cdv ct : Value) (us ks : List Value), us.length = n → ks.length = kws.length →
      KwChain D ((kws.map (·.1)).zip ks) (bindArgs (PySem.W.fnOf x x (defArgs st) (defBody st) (defScope st) .none (.ref D) doc pm an cdv ct) ⟨us, []⟩) (ps.zip (us ++ ks)))
    (len : ∀ vs H Q E, sp vs H Q E → vs.length = ps.length)
    (body : ∀ (f : Addr) (cdv : Value) (A : Around) (outer : List Env) (s : Shared) (H : Hp) (vs : List V) (Q : VK) (E : XK), Room k (A.deeper (envOfC x (defScope st) s.heap.objs.size f cdv)) → sp vs H Q E →
      ∃ t, PSs (cxOf (L2.CX P w) P w K mg base N x (defScope st) f cdv A outer s H E) (defBody st) t ∧ t { nx := fun _ H' => Q .non H', rt := Q } (start N vs) H) : ClKX P w K mg base (k + 1) x st ps kws sp := by
  obtain ⟨f, fd, F, hm⟩ := D.ex
  exact ⟨f, fd, F, F.ok S len fun cdv A outer s H vs Q E hr h => body f cdv A outer s H vs Q E hr h, hm, F.binds0 n hk hn bd⟩
theorem ClKX.imp (c : ClKX P w K mg base k x st ps kws sp) (h : ∀ vs H Q E, sp' vs H Q E → sp vs H Q E) : ClKX P w K mg base k x st ps kws sp' := by
  obtain ⟨f, fd, F, G, hm, b⟩ := c.ex
  exact ⟨f, fd, F, G.imp h, hm, b⟩
/-- a def keeps two promises at once -/
theorem ClK.orX {j i : Nat} {sp1 sp2 : Sp} (k : Nat) (c1 : ClK P w K mg base i x st ps kws sp1) (c2 : ClKX P w K mg base j x st ps kws sp2) (h1 : i ≤ k := by omega) (h2 : j ≤ k := by omega) :
    ClKX P w K mg base k x st ps kws (fun vs H Q E => sp1 vs H Q E ∨ sp2 vs H Q E) := by
  obtain ⟨f, fd, F, G, m, b⟩ := c1.ex
  obtain ⟨f', fd', F', G', m', _⟩ := c2.ex
  cases m.symm.trans m'
  have same : fd' = fd := by
    obtain ⟨_, _, _, _, _, _, _, _, _, _, _, l1, _⟩ := F.ex
    obtain ⟨_, _, _, _, _, _, _, _, _, _, _, l2, _⟩ := F'.ex
    have e := l1.symm.trans l2
    simp only [Option.some.injEq, Obj.mk.injEq, Data.func.injEq] at e
    exact e.2.2.1.symm
  subst same
  refine ⟨f, fd', F, ⟨fun vs H Q E z => z.elim (G.len vs H Q E) (G'.len vs H Q E), fun A outer s H args us vs Q E hr e0 hb rel z => ?_⟩, m, b⟩
  rcases z with z | z
  · refine codeAny_mono (G.run A outer s H args us vs Q E (hr.mono h1) e0 hb rel z) fun r s' q => ?_
    cases r with
    | ok fl => cases fl <;> exact q
    | error e => exact False.elim q
  · exact G'.run A outer s H args us vs Q E (hr.mono h2) e0 hb rel z
end
section
variable {X : Cx} {x : Str} {st : Stmt} {ps ks : List Str} {j k : Nat} {sp : Sp} {e : Expr} {es : List Expr} {t tk : TA} {p pos : Pos} {kws : List (Str × V)} {ky : List Keyword} {E : XK}
/-- f(e, ..), the others by their defaults, f may raise -/
theorem pe_xud (c : ClKX X.prog X.w X.K X.mg X.base k x st ps kws sp) (hw : Takes X (WD E)) (hr : Room j X.A) (hk : k ≤ j) (hg : Gl X x) (ha : PA X (e :: es) t)
    (hdb : (x == ("__debug__" : Str)) = false := by decide) (he : starEach (e :: es) X.env = (false, eval e X.env) :: starEach es X.env := by rfl) (hpl : (backTo pos (starEach es X.env)).any (·.1) = false := by rfl) :
    PE X (.Call (.Name x p) (e :: es) [] pos) (tCall sp (kws.map (·.2)) E t) := by
  obtain ⟨f, fd, F, G, hm, ds, rv, b⟩ := c.ex
  exact pe_call G (hr.mono hk) hg hm F.kp b rv (passes_call hw fun _ _ _ _ z => z) ha hdb he hpl
/-- f(e, .., k = v, ..), f may raise -/
theorem pe_xudk (n : Nat) (ks : List Str) (c : ClKX X.prog X.w X.K X.mg X.base k x st ps kws sp) (hw : Takes X (WD E)) (hr : Room j X.A) (hk : k ≤ j) (hg : Gl X x) (h0 : kws ≠ [])
    (bd : ∀ (D : Addr) (doc pm : Value) (an : Option Addr) (cdv ct : Value) (us ws : List Value), us.length = n → ws.length = ks.length → bindArgs (PySem.W.fnOf x x (defArgs st) (defBody st) (defScope st) .none (.ref D) doc pm an cdv ct) ⟨us, ks.zip ws⟩ = pure (ps.zip (us ++ ws)))
    (ha : PA X (e :: es) t) (hkw : PK X ky tk)
    (hall : (backToKw pos (keywordEach ky X.env)).all (·.1.isSome) = true := by rfl) (hks : (backToKw pos (keywordEach ky X.env)).filterMap (·.1) = ks := by rfl) (hdb : (x == ("__debug__" : Str)) = false := by decide) (he : starEach (e :: es) X.env = (false, eval e X.env) :: starEach es X.env := by rfl)
    (hpl : ((backTo pos (starEach (e :: es) X.env)).any (·.1) || (backToKw pos (keywordEach ky X.env)).any (·.1.isNone)) = false := by rfl) : PE X (.Call (.Name x p) (e :: es) ky pos) (tCallN n ks.length sp (fun vs zs => vs ++ zs) E t tk) := by
  obtain ⟨f, fd, F, G, hm, _⟩ := c.ex
  obtain ⟨mv, kb⟩ := F.kbinds0 (ps := ps) n ks [] (fun us _ ws => us ++ ws) h0 (fun q z => nomatch z) (fun a _ b => Vals.append a b) (fun D doc pm an cdv ct us mv ws l1 l2 l3 => by
    have e0 : mv = [] := List.length_eq_zero_iff.mp l2
    subst e0
    exact bd D doc pm an cdv ct us ws l1 l3)
  exact pe_callN G (hr.mono hk) hg hm F.kp kb (passes_call hw fun _ _ _ _ z => z) ha hkw hall hks hdb he hpl
/-- f(k = v, ..), f may raise -/
theorem pe_xudw (ks : List Str) (ms : List (Str × V)) (g : {α : Type} → List α → List α → List α) (c : ClKX X.prog X.w X.K X.mg X.base k x st ps kws sp) (hw : Takes X (WD E)) (hr : Room j X.A) (hk : k ≤ j) (hg : Gl X x) (h0 : kws ≠ []) (hms : ∀ q ∈ ms, q ∈ kws)
    (hrel : ∀ {mz zs : List V} {mv ws : List Value}, Vals mz mv → Vals zs ws → Vals (g mz zs) (g mv ws))
    (bd : ∀ (D : Addr) (doc pm : Value) (an : Option Addr) (cdv ct : Value) (mv ws : List Value), mv.length = ms.length → ws.length = ks.length → KwChain D ((ms.map (·.1)).zip mv) (bindArgs (PySem.W.fnOf x x (defArgs st) (defBody st) (defScope st) .none (.ref D) doc pm an cdv ct) ⟨[], ks.zip ws⟩) (ps.zip (g mv ws)))
    (hkw : PK X ky tk)
    (hall : (backToKw pos (keywordEach ky X.env)).all (·.1.isSome) = true := by rfl) (hks : (backToKw pos (keywordEach ky X.env)).filterMap (·.1) = ks := by rfl)
    (hdb : (x == ("__debug__" : Str)) = false := by decide) (hpl : ((backTo pos (starEach [] X.env)).any (·.1) || (backToKw pos (keywordEach ky X.env)).any (·.1.isNone)) = false := by rfl) :
    PE X (.Call (.Name x p) [] ky pos) (tKwX ks.length sp (fun zs => g (ms.map (·.2)) zs) E tk) := by
  obtain ⟨f, fd, F, G, hm, _⟩ := c.ex
  obtain ⟨mv, kb⟩ := F.kbinds0 (ps := ps) 0 ks ms (fun _ mv ws => g mv ws) h0 hms (fun _ a b => hrel a b) (fun D doc pm an cdv ct us mv ws l1 l2 l3 => by
    have e0 : us = [] := List.length_eq_zero_iff.mp l1
    subst e0
    exact bd D doc pm an cdv ct mv ws l2 l3)
  refine ⟨fun pins s σ H Q I h => ?_⟩
  refine wpAny_Call_Name_kw (ld_glob I hg hm ?_ hdb)
  refine PySem.W.callWith_KW0 (h₀ := X.base) I.ok.mod.kin F.kp hall (thn (hkw.run pos pins s σ H _ I h) fun ws s2 ⟨zs, H2, I2, rz, l2, q2⟩ => ⟨I2.kIn, ?_⟩) hpl
  rw [hks]
  exact run_fnN G (hr.mono hk) kb (passes_call hw fun _ _ _ _ z => z) I2 .nil rz rfl l2 q2
end
/-! ### shown data hold characters -/
def Txt (z : Str) : Prop := ∀ c ∈ z.cps.toList, c < 0x110000
theorem Txt.strOk {z : Str} (h : Txt z) : PyData.strOk z = true := by
  show z.cps.all (· < 0x110000) = true
  rw [← Array.all_toList, List.all_eq_true]
  exact fun c hc => decide_eq_true (h c hc)
theorem Txt.of {z : Str} (h : PyData.strOk z = true) : Txt z := fun c hc => by
  have h : z.cps.all (· < 0x110000) = true := h
  rw [← Array.all_toList, List.all_eq_true] at h
  exact of_decide_eq_true (h c hc)
theorem Txt.lit (z : String) : Txt (Str.ofString z) := .of (strOk_of z)
theorem Txt.app {a b : Str} (ha : Txt a) (hb : Txt b) : Txt (a ++ b) := fun c hc => by
  have e : (a ++ b).cps.toList = a.cps.toList ++ b.cps.toList := by
    show (a.cps ++ b.cps).toList = _
    rw [Array.toList_append]
  rw [e] at hc
  exact (List.mem_append.mp hc).elim (ha c) (hb c)
theorem Txt.join {sep : Str} (hs : Txt sep) : ∀ {ts : List Str}, (∀ t ∈ ts, Txt t) → Txt (Str.join sep ts)
  | [], _ => fun c hc => by
    have e : (Str.join sep []).cps.toList = [] := rfl
    rw [e] at hc
    cases hc
  | [x], h => h x List.mem_cons_self
  | x :: y :: r, h => ((h x List.mem_cons_self).app hs).app (Txt.join hs (ts := y :: r) fun t ht => h t (List.mem_cons_of_mem _ ht))
theorem Txt.from : ∀ {ts : List Str} {k : Nat} {acc : Str}, Txt acc → (∀ t ∈ ts, Txt t) → Txt (textFrom k acc ts)
  | [], _, _, h, _ => h
  | t :: ts, k, acc, h, g => Txt.from (ts := ts) (k := k + 1) ((h.app (Txt.lit (if k > 0 then ", " else ""))).app (g t List.mem_cons_self)) fun x hx => g x (List.mem_cons_of_mem _ hx)
mutual
/-- data without dicts whose texts are plain -/
def ascD : PyData → Bool
  | .none => true
  | .bool _ => true
  | .int _ => true
  | .str x => x.cps.toList.all fun c => decide (c < 128)
  | .list xs => ascAll xs
  | .tuple xs => ascAll xs
  | .dict _ => false
def ascAll : List PyData → Bool
  | [] => true
  | x :: xs => ascD x && ascAll xs
end
mutual
theorem txt_shown : ∀ d : PyData, ascD d = true → Txt d.shown
  | .none, _ => by simp only [PyData.shown]; exact Txt.lit _
  | .bool b, _ => by
    simp only [PyData.shown]
    cases b
    · exact Txt.lit "False"
    · exact Txt.lit "True"
  | .int i, _ => by simp only [PyData.shown]; exact Txt.lit _
  | .str x, h => by
    simp only [ascD] at h
    exact .of (strOk_repr fun c hc => of_decide_eq_true (List.all_eq_true.mp h c hc))
  | .list xs, h => by
    simp only [ascD] at h
    simp only [PyData.shown]
    exact (Txt.from (Txt.lit "[") (txt_all xs h)).app (Txt.lit "]")
  | .tuple xs, h => by
    simp only [ascD] at h
    simp only [PyData.shown]
    exact ((Txt.lit "(").app (Txt.join (Txt.lit ", ") (txt_all xs h))).app (Txt.lit _)
  | .dict _, h => by simp [ascD] at h
theorem txt_all : ∀ ds : List PyData, ascAll ds = true → ∀ t ∈ PyData.shownAll ds, Txt t
  | [], _ => by
    simp only [PyData.shownAll]
    intro t h
    cases h
  | d :: ds, h => by
    simp only [ascAll, Bool.and_eq_true] at h
    simp only [PyData.shownAll]
    intro t ht
    rcases List.mem_cons.mp ht with z | z
    · rw [z]
      exact txt_shown d h.1
    · exact txt_all ds h.2 t z
end
end Lp
namespace Lp
open PySem PySem.Spec PyProof.Rows L2
/-! ### defs called with the exception in hand, no repr under way -/
structure FnZg (P : Program) (w : World) (K : PySem.W.Frag) (mg : Str → Option Value) (base : Heap) (k : Nat) (f : Addr) (fd : FuncData) (ps : List Str) (sp : SpZ) : Prop where
  len : ∀ p vs H Q E, sp p vs H Q E → vs.length = ps.length
  run : ∀ (A : Around) (outer : List Env) (s : Shared) (H : Hp) (args : Args) (us : List Value) (vs : List V) (Q : VK) (E : XK) (p : Addr × Obj), L2H.RoomH k A → A.guards = some [] → L2H.PinOk outer H s p → Env0 P w K mg base A outer s H → BindsTo s fd args (ps.zip us) → Vals vs us → sp p vs H Q E →
    codeAny (model P w) A (.call (.ref f) args) (CR CX0 outer P w H s Q E) s
structure ClZg (P : Program) (w : World) (K : PySem.W.Frag) (mg : Str → Option Value) (base : Heap) (k : Nat) (x : Str) (st : Stmt) (ps : List Str) (sp : SpZ) : Prop where
  ex : ∃ f fd, FnP K x st f fd ∧ FnZg P w K mg base k f fd ps sp ∧ mg x = some (.ref f) ∧ Binds K fd ps []
section
variable {P : Program} {w : World} {K : PySem.W.Frag} {mg : Str → Option Value} {base : Heap} {x : Str} {st : Stmt} {N ps : List Str} {k : Nat} {sp : SpZ}
theorem Df.okZg (D : Df K mg x st) (S : FnScope N ps (defScope st))
    (bd : ∀ (kV doc pm : Value) (an : Option Addr) (cdv ct : Value) (us : List Value), us.length = ps.length → bindArgs (PySem.W.fnOf x x (defArgs st) (defBody st) (defScope st) .none kV doc pm an cdv ct) ⟨us, []⟩ = pure (ps.zip us))
    (len : ∀ p vs H Q E, sp p vs H Q E → vs.length = ps.length)
    (body : ∀ (f : Addr) (cdv : Value) (A : Around) (outer : List Env) (s : Shared) (H : Hp) (vs : List V) (Q : VK) (E : XK) (p : Addr × Obj), L2H.RoomH k (A.deeper (envOfC x (defScope st) s.heap.objs.size f cdv)) → A.guards = some [] → sp p vs H Q E →
      ∃ t, PSs (L2H.cxH CX0 P w K mg base N x (defScope st) f cdv A outer s H E p).nox (defBody st) t ∧ t { nx := fun _ H' => Q .non H', rt := Q } (start N vs) H) : ClZg P w K mg base (k + 1) x st ps sp := by
  obtain ⟨f, fd, F, hm⟩ := D.ex
  refine ⟨f, fd, F, ?_, hm, F.bindsN bd⟩
  obtain ⟨oc, od, dV, kV, doc, pm, an, cdv, ct, osl, rfl, lk, hcd, _, _⟩ := F.ex
  refine ⟨len, fun A outer s H args us vs Q E p hr hgd pin e0 hb rel hsp => ?_⟩
  have ln := len _ _ _ _ _ hsp
  have kx : K.In s.heap := e0.mod.kin.keeps fun b o e => (e0.bs b o e).1
  have nl : s.heap.NoLimit := e0.mod.nolimit.keeps fun b o e => (e0.bs b o e).1
  have kinds : ∀ y ∈ ps.zip us, (defScope st).names.lookup y.1 = some .local ∨ ((defScope st).names.lookup y.1 = some .cell ∧ ((cellsFrom (s.heap.objs.size + 1) (defScope st).names []).lookup y.1).isSome = true) := fun y hy => by
    obtain ⟨nm, vl⟩ := y
    rcases S.par nm (List.of_mem_zip hy).1 with z | z
    · exact Or.inl z
    · exact Or.inr ⟨z, PySem.W.cellsFrom_some _ _ _ (Or.inl z)⟩
  refine codeAny_call_function hr.depth (kx _ _ lk) rfl S.co S.gen rfl (PySem.W.codeRec_of kx hcd) (hb _ _ _ _ ?_)
  refine wpAny_newFunctionEnv_cells S.kind kinds fun env henv s1 xc => ?_
  subst henv
  refine ⟨nl.keeps xc.toInCall.keep, codeAny_func ?_⟩
  obtain ⟨t, ht, hq⟩ := body f cdv A outer s H vs Q E p (hr.deeper _) hgd hsp
  have ini : L2.Inv (L2H.cxH CX0 P w K mg base N x (defScope st) f cdv A outer s H E p) [] (start N vs) H s1 := L2H.inv_startH S pin e0 ln rel xc
  refine wpAny_mono (ht.nox.run [] s1 (start N vs) H _ ini hq) (fun fl s2 hs => ?_) fun e s2 hs => hs
  have back : ∀ {σ2 : L2.St} {H2 : Hp} {v : V} {u : Value}, L2.Inv (L2H.cxH CX0 P w K mg base N x (defScope st) f cdv A outer s H E p) [] σ2 H2 s2 → RelV v u → Q v H2 → CE outer P w H s Q u s2 :=
    fun {σ2 H2 v u} J rv q => ⟨v, H2, J.os, J.bare, J.base, J.hok, rv, q⟩
  cases fl with
  | ret u =>
    obtain ⟨v, σ2, H2, J, rv, q⟩ := hs
    exact back J rv q
  | next =>
    obtain ⟨σ2, H2, J, q⟩ := hs
    exact back (v := V.non) (u := Value.none) J rfl q
  | brk =>
    obtain ⟨_, _, _, q⟩ := hs
    exact q.elim
  | cont =>
    obtain ⟨_, _, _, q⟩ := hs
    exact q.elim
end
section
variable {X : Cx} {x : Str} {st : Stmt} {ps : List Str} {j k : Nat} {sp : SpZ} {e : Expr} {es : List Expr} {t : TA} {q pos : Pos} {p : Addr × Obj}
/-- f(e, ..) in a suite: p is the exception that is handled -/
theorem pe_zg (c : ClZg X.prog X.w X.K X.mg X.base k x st ps sp) (hr : L2H.RoomH j X.A) (hgd : X.A.guards = some []) (hk : k ≤ j) (hp : p ∈ X.pn) (hg : Gl X x) (ha : PA X (e :: es) t)
    (hdb : (x == ("__debug__" : Str)) = false := by decide) (he : starEach (e :: es) X.env = (false, eval e X.env) :: starEach es X.env := by rfl) (hpl : (backTo pos (starEach es X.env)).any (·.1) = false := by rfl) :
    PE X (.Call (.Name x q) (e :: es) [] pos) (tCall (sp p) [] E0 t) := by
  obtain ⟨f, fd, F, G, hm, b⟩ := c.ex
  refine ⟨fun pins s σ H Q I h => wpAny_Call_Name_kw (ld_glob I hg hm ?_ hdb)⟩
  refine PySem.W.callWith_K (h₀ := X.base) I.ok.mod.kin F.kp (thn (ha.run pos pins s σ H _ I h) fun us s1 ⟨vs, H1, I1, rel, z0⟩ => ⟨I1.kIn, ?_⟩) he hpl
  have q1 : sp p vs H1 Q E0 := by
    have z : sp p (vs ++ []) H1 Q E0 := z0
    rw [List.append_nil] at z
    exact z
  have ln : (us ++ []).length = ps.length := by
    rw [List.append_nil, ← rel.length]
    exact G.len _ _ _ _ _ q1
  have bd := b s1 us I1.kIn ln
  rw [List.append_nil] at bd
  have P1 := I1.pin p (List.mem_append_left _ hp)
  have pin : L2H.PinOk X.stack H1 s1 p := ⟨P1.1, P1.2.1, fun hm => (List.mem_cons.mp (I1.stkSub p.1 hm)).elim P1.2.2.1 P1.2.2.2.1, P1.2.2.2.2⟩
  refine wpAny_call (codeAny_mono (G.run X.A X.stack s1 H1 ⟨us, []⟩ us vs Q E0 p (hr.mono hk) hgd pin I1.env0 bd rel q1) fun res s2 hq => ?_)
  cases res with
  | error er => exact hq.elim
  | ok fl =>
    cases fl with
    | ret u => exact I1.after hq
    | next => exact hq.elim
    | brk => exact hq.elim
    | cont => exact hq.elim
end
/-! ### a field of the exception in hand -/
def tXp (p : Addr × Obj) (dd : Addr) (n : Str) (te : TE) : TE := fun σ H Q => te σ H fun x H1 => x = .ref p.1 ∧ ∃ (fs : List (Str × V)) (v : V), H1 dd = some (.xd fs) ∧ fs.lookup n = some v ∧ Q v H1
theorem pe_xp {X : Cx} {p : Addr × Obj} {C dd : Addr} {e : Expr} {te : TE} {pos : Pos} {n : Str} (T : XfC X.K C) (noN : PySem.W.findIn X.K (.ref C) n = some none) (hp : p ∈ X.pn) (hz : ExZ p C dd) (he : PE X e te) (at_ : attributeBase e n X.env (eval e X.env) = eval e X.env := by rfl) :
    PE X (.Attribute e n pos) (tXp p dd n te) := ⟨fun pins s σ H Q I h => attr_of at_ (thn (he.run pins s σ H _ I h) fun u s1 z => by
  obtain ⟨x, G, J, rx, rfl, fs, v, hd, hl, q⟩ := z
  have ru : u = Value.ref p.1 := rx
  rw [ru]
  have get := (J.pin p (List.mem_append_left _ hp)).1
  obtain ⟨fv, hv⟩ := hz.f
  obtain ⟨m, ns, rel⟩ : ∃ m, s1.heap.Ns1 dd m ∧ ∀ f, RelO (fs.lookup f) (m f) := J.hok dd _ hd
  obtain ⟨od, dict, look⟩ := lookIn_ns ns
  obtain ⟨y, hy, ry⟩ := RelO.some_of (v := v) (o := m n) (hl ▸ rel n)
  have at2 : PySem.W.InstAt s1.heap p.1 p.2 C (some od) := ⟨get, hz.z.1, by unfold PySem.W.notCls; rw [hv] <;> rfl, by rw [hz.z.2]; exact dict⟩
  exact HandSPX.exc_get J.kIn at2 T.ga T.gg T.exC (PySem.W.findObj_own T.hdC noN rfl (by rw [look, hy])) (handed_of ry) ⟨v, G, J.tok _, ry, q⟩)⟩
/-- what is never asked -/
theorem pe_no {X : Cx} {e : Expr} : PE X e (fun _ _ _ => False) := ⟨fun _ _ _ _ _ _ h => h.elim⟩
/-- two promises of a def that may raise -/
theorem ClX.or {P : Program} {w : World} {K : PySem.W.Frag} {mg : Str → Option Value} {base : Heap} {j i : Nat} {x : Str} {st : Stmt} {ps : List Str} {sp1 sp2 : Sp} (k : Nat) (c1 : ClX P w K mg base i x st ps sp1) (c2 : ClX P w K mg base j x st ps sp2) (h1 : i ≤ k := by omega) (h2 : j ≤ k := by omega) :
    ClX P w K mg base k x st ps (fun vs H Q E => sp1 vs H Q E ∨ sp2 vs H Q E) := by
  obtain ⟨f, fd, F, G, m, b⟩ := c1.ex
  obtain ⟨f', fd', F', G', m', _⟩ := c2.ex
  cases m.symm.trans m'
  have same : fd' = fd := by
    obtain ⟨_, _, _, _, _, _, _, _, _, _, _, l1, _⟩ := F.ex
    obtain ⟨_, _, _, _, _, _, _, _, _, _, _, l2, _⟩ := F'.ex
    have e := l1.symm.trans l2
    simp only [Option.some.injEq, Obj.mk.injEq, Data.func.injEq] at e
    exact e.2.2.1.symm
  subst same
  exact ⟨f, fd', F, ⟨fun vs H Q E z => z.elim (G.len vs H Q E) (G'.len vs H Q E), fun A outer s H args us vs Q E hr e0 hb rel z => z.elim (G.run A outer s H args us vs Q E (hr.mono h1) e0 hb rel) (G'.run A outer s H args us vs Q E (hr.mono h2) e0 hb rel)⟩, m, b⟩
end Lp
namespace Lp
open PySem PySem.Spec PyProof.Rows L2
/-! ### an exception that is no longer in hand, tracked like any object -/
/-- an instance of the class at a, with its dict or without -/
def KeptO (cls : Value) (d : Option Addr) (a : Addr) : HO := .ext fun h => ∃ (oe : Obj) (vs : Array Value), h.get? a = some oe ∧ Zc cls d oe ∧ oe.data = .fields vs
def rIsK (K : PySem.W.Frag) (D : Addr) (d : Option Addr) : List V → Hp → VK → Prop := fun xs H Q => ∃ (a : Addr) (c : V) (cv : Value) (b : Bool) (fs : List (Str × V)), xs = [.ref a, c] ∧ H a = some (KeptO (.ref D) d a) ∧ (∀ u, RelV c u → u = cv) ∧ PySem.W.kitOne K (.ref D) cv = some b ∧ DicO d H fs ∧ Q (.bl b) H
/-- isinstance of such -/
theorem call_isK {X : Cx} {D : Addr} {d : Option Addr} (C : ExcC X.K D) : CallR X (.builtin "isinstance") (rIsK X.K D d) := by
  intro pins s σ H xs us Q I r h
  obtain ⟨a, c, cv, b, fs, rfl, ha, hcv, e, hd, q⟩ := h
  cases r with
  | cons rx rr =>
    cases rr with
    | cons rt rr =>
      cases rr
      cases rx
      cases hcv _ rt
      obtain ⟨⟨oe, vs, get, z, hv⟩, _, _⟩ := I.hok a _ ha
      have J : ∃ od, PySem.W.InstAt s.heap a oe D od := by
        cases d with
        | none => exact ⟨none, get, z.1, by unfold PySem.W.notCls; rw [hv] <;> rfl, by rw [z.2]; trivial⟩
        | some dd =>
          obtain ⟨mA, hns, _⟩ : ∃ mA, s.heap.Ns1 dd mA ∧ ∀ f, RelO (fs.lookup f) (mA f) := I.hok dd _ hd
          obtain ⟨od, ho, _⟩ := lookIn_ns hns
          exact ⟨some od, get, z.1, by unfold PySem.W.notCls; rw [hv] <;> rfl, by rw [z.2]; exact ho⟩
      obtain ⟨od, J⟩ := J
      obtain ⟨cd, hc, _⟩ := PySem.W.any_some C.hd
      exact PySem.W.kia_one (PySem.W.kitx_exc (by rw [hc]; rfl) C.hg C.hk C.hs C.ha C.hn C.ht C.hm) I.kIn J e (fun z => nomatch z) fun tk => ⟨.bl b, H, I.kept (t' := tk) fun _ _ z => z, rfl, q⟩
/-- a field of such -/
def tKf (K : PySem.W.Frag) (C : Addr) (n : Str) (te : TE) : TE := fun σ H Q => te σ H fun x H1 => ∃ (a dd : Addr) (fs : List (Str × V)) (v : V), x = .ref a ∧ H1 a = some (KeptO (.ref C) (some dd) a) ∧ H1 dd = some (.xd fs) ∧ fs.lookup n = some v ∧ Q v H1
theorem pe_kf {X : Cx} {C : Addr} {e : Expr} {te : TE} {pos : Pos} {n : Str} (T : XfC X.K C) (noN : PySem.W.findIn X.K (.ref C) n = some none) (he : PE X e te) (at_ : attributeBase e n X.env (eval e X.env) = eval e X.env := by rfl) :
    PE X (.Attribute e n pos) (tKf X.K C n te) := ⟨fun pins s σ H Q I h => attr_of at_ (thn (he.run pins s σ H _ I h) fun u s1 z => by
  obtain ⟨x, G, J, rx, a, dd, fs, v, rfl, ha, hd, hl, q⟩ := z
  have ru : u = Value.ref a := rx
  rw [ru]
  obtain ⟨⟨oe, vs, get, z, hv⟩, _, _⟩ := J.hok a _ ha
  obtain ⟨m, ns, rel⟩ : ∃ m, s1.heap.Ns1 dd m ∧ ∀ f, RelO (fs.lookup f) (m f) := J.hok dd _ hd
  obtain ⟨od, dict, look⟩ := lookIn_ns ns
  obtain ⟨y, hy, ry⟩ := RelO.some_of (v := v) (o := m n) (hl ▸ rel n)
  have at2 : PySem.W.InstAt s1.heap a oe C (some od) := ⟨get, z.1, by unfold PySem.W.notCls; rw [hv] <;> rfl, by rw [z.2]; exact dict⟩
  exact HandSPX.exc_get J.kIn at2 T.ga T.gg T.exC (PySem.W.findObj_own T.hdC noN rfl (by rw [look, hy])) (handed_of ry) ⟨v, G, J.tok _, ry, q⟩)⟩
/-- what makes an exception, as a value: the new object is tracked -/
theorem pe_kept {X : Cx} {e : Expr} {tm : L2.St → Hp → XK → Prop} (M : PMk X e tm) : PE X e (fun σ H Q => tm σ H fun cls d H1 => ∀ a, H1 a = none → Q (.ref a) (upd H1 a (KeptO cls d a))) := by
  refine ⟨fun pins s σ H Q I h => wpAny_mono (M pins s σ H _ I h) (fun u s1 hu => ?_) fun _ _ z => z⟩
  obtain ⟨a, oe, vs, sI, H1, cls, d, rfl, J, k, hne, ha, hz, hd, h1, na, os, ag, r, q⟩ := hu
  obtain ⟨hp, g, dr, tk, o1⟩ := s1
  have new : ObjOk X.prog X.w (upd H1 a (KeptO cls d a)) hp a (KeptO cls d a) := ⟨⟨oe, vs, ha, hz, hd⟩, ⟨oe, ha⟩, fun _ _ ⟨o, v, z, y⟩ kk => ⟨o, v, kk o z, y⟩⟩
  have J2 := J.call (ch := []) (g' := g) (d' := dr) (t' := tk) (Un.laidN k hne na) (J.hok.laidN k na new) ag (fun _ z => nomatch z)
  have os : o1 = sI.os := os
  subst os
  exact ⟨.ref a, _, J2, rfl, q a na⟩
/-! ### an exception that lives on behind the suite -/
theorem inv_pin {X : Cx} {pins : List (Addr × Obj)} {σ : L2.St} {H : Hp} {s : Shared} {a : Addr} {q : Addr × Obj} (I : Inv (X.suite a (q :: (X.pn ++ pins))) [] σ H s) (ok : X.Ok) : Inv X (q :: pins) σ H s :=
  ⟨ok, I.os, I.bare, I.base, I.loc, I.cell, I.free, I.freeC, fun p hp => I.pin p (List.mem_append_left _ (by
    rcases List.mem_append.mp hp with z | z
    · exact List.mem_cons_of_mem _ (List.mem_append_left _ z)
    · rcases List.mem_cons.mp z with z | z
      · rw [z]; exact List.mem_cons_self
      · exact List.mem_cons_of_mem _ (List.mem_append_right _ z))), I.hok, I.len⟩
theorem inv_unpin {X : Cx} {pins : List (Addr × Obj)} {σ : L2.St} {H : Hp} {s : Shared} {q : Addr × Obj} (I : Inv X (q :: pins) σ H s) : Inv X pins σ H s :=
  ⟨I.ok, I.os, I.bare, I.base, I.loc, I.cell, I.free, I.freeC, fun p hp => I.pin p (by
    rcases List.mem_append.mp hp with z | z
    · exact List.mem_append_left _ z
    · exact List.mem_append_right _ (List.mem_cons_of_mem _ z)), I.hok, I.len⟩
theorem inv_track {X : Cx} {pins : List (Addr × Obj)} {σ : L2.St} {H : Hp} {s : Shared} {a : Addr} {oe : Obj} {vs : Array Value} {cls : Value} {d : Option Addr} (I : Inv X ((a, oe) :: pins) σ H s) (n0 : ∀ o, X.s_0.heap.get? a = some o → a ∈ X.ex) (np : ∀ p ∈ X.pn ++ pins, p.1 ≠ a) (hz : Zc cls d oe) (hd : oe.data = .fields vs) :
    Inv X pins σ (upd H a (KeptO cls d a)) s := by
  obtain ⟨get, na, nl, nf, nc⟩ := I.pin (a, oe) (List.mem_append_right _ List.mem_cons_self)
  have I0 := inv_unpin I
  have new : ObjOk X.prog X.w (upd H a (KeptO cls d a)) s.heap a (KeptO cls d a) := ⟨⟨oe, vs, get, hz, hd⟩, ⟨oe, get⟩, fun _ _ ⟨o, v, z, y⟩ kk => ⟨o, v, kk o z, y⟩⟩
  have keepN : ∀ {b : Addr} {u : HO}, H b = some u → upd H a (KeptO cls d a) b = some u := fun {b u} e => by rw [upd_ne (ne_of_none e na)]; exact e
  have ncell : ∀ x c, X.env.cells.lookup x = some c → c ≠ a := fun x c e z => by
    obtain ⟨v, o, ho, hv⟩ := I.cell x c e
    rw [z, get] at ho
    cases ho
    exact nc v hv
  refine ⟨I.ok, I.os, I.bare, ⟨I.base.keep, I.base.slot, fun b o e n hx => ?_, I.base.there, fun b xs e => keepN (I.base.tups b xs e), fun b o u e => keepN (I.base.frzs b o u e), fun b ps e => ?_⟩, I.loc, I.cell, by rw [upd_ne nl.symm]; exact I.free, fun x c e => by rw [upd_ne (ncell x c e)]; exact I.freeC x c e, fun p hp => ?_, I.hok.laidN (fun _ _ z => z) na new, I.len⟩
  · have hb : b ≠ a := fun z => hx (by rw [z]; rw [z] at e; exact n0 o e)
    rw [upd_ne hb]
    exact I.base.free b o e n hx
  · obtain ⟨m, z⟩ := I.base.tbls b ps e
    exact ⟨m, keepN z⟩
  · obtain ⟨e1, e2, e3, e4, e5⟩ := I0.pin p hp
    exact ⟨e1, by rw [upd_ne (np p hp)]; exact e2, e3, e4, e5⟩
/-- what such a clause wishes where the exception is kept -/
def wTk (mt : Value → Option Bool) (i : Nat) (ts : Addr → Value → Option Addr → TS) (D : Ends) : WX := fun cls d σ H =>
  mt cls = some true ∧ ∀ a, H a = none → ts a cls d { nx := fun σ2 H2 => D.nx (σ2.set i none) (upd H2 a (KeptO cls d a)), rt := D.rt, bk := fun σ2 H2 => D.bk (σ2.set i none) H2, ct := fun σ2 H2 => D.ct (σ2.set i none) H2 } (σ.set i (some (.ref a))) H
theorem ps_tryK {X : Cx} {n : Str} {t : Expr} {mt : Value → Option Bool} {i : Nat} {body suite : List Stmt} {b0 : Stmt} {pos pos2 : Pos} {tb : WX → TS} {ts : Addr → Value → Option Addr → TS} (hs : X.stack = X.env :: X.outer) (hf : X.env.frame = some X.env.locals) (hN : X.N.Nodup) (hi : X.N[i]? = some n)
    (hln : X.env.kindOf n = some .local) (ht : TstOk X t mt) (hb : ∀ (W : WX) (pn : List (Addr × Obj)) (xe : Value → Shared → Prop), Takes (X.tr pn xe) W → PassesOwn (model X.prog X.w) X.A X.env xe → PSs (X.tr pn xe) body (tb W))
    (hsu : ∀ (a : Addr) (oe : Obj) (cls : Value) (d : Option Addr) (pn : List (Addr × Obj)), Zc cls d oe → (∃ vs, oe.data = .fields vs) → PSs (X.suite a ((a, oe) :: pn)) (b0 :: suite) (ts a cls d)) :
    PS X (.Try body [.ExceptHandler (some t) (some n) (b0 :: suite) pos2] [] [] pos) (fun D σ H => tb (wTk mt i ts D) D σ H) := ⟨fun pins s σ H D I h => by
  have gone : ∀ {a : Addr} {oe : Obj} {s6 : Shared} {σ6 : L2.St} {H6 : Hp} {Q : Shared → Prop}, Inv (X.suite a ((a, oe) :: (X.pn ++ pins))) [] σ6 H6 s6 → (∀ s7, Inv X ((a, oe) :: pins) (σ6.set i none) H6 s7 → Q s7) →
      wpAny (model X.prog X.w) X.A (do bindName X.env n .none; unbindBehindTheSuite X.env n pos2) (fun _ s7 => Q s7) X.xe s6 := fun J go => gone_ok (inv_pin J I.ok) hN hi hln go
  -- an exception of the body
  have meet : ∀ u s1, XE (X.tr (X.pn ++ pins) fun e s₁ => wpAny (model X.prog X.w) X.A (noteFrame e X.env) (fun _ s₂ => wpAny (model X.prog X.w) X.A (setFlight e none) (fun _ s₃ => wpAny (model X.prog X.w) X.A (handleBy e X.env [.ExceptHandler (some t) (some n) (b0 :: suite) pos2]) (SP X pins D) X.xe s₃) X.xe s₂) X.xe s₁) (wTk mt i ts D) u s1 →
      wpAny (model X.prog X.w) X.A (noteFrame u X.env) (fun _ s₂ => wpAny (model X.prog X.w) X.A (setFlight u none) (fun _ s₃ => wpAny (model X.prog X.w) X.A (handleBy u X.env [.ExceptHandler (some t) (some n) (b0 :: suite) pos2]) (SP X pins D) X.xe s₃) X.xe s₂) X.xe s1 := fun u s1 xx => by
    obtain ⟨a, B, sI, pins2, σ2, H2, cls, d, eu, J0, ground, up, sky, na, os, bare, hmt, yes⟩ := xx
    subst eu
    have J : Inv X pins σ2 H2 sI := J0.ofTry I.ok
    have frames : X.A.frames = some (X.env :: X.outer) := by rw [I.ok.frames, hs]
    have sky2 : Sky B (X.env :: X.outer) a (Zc cls d) X.env.locals s1.heap := hs ▸ sky
    refine Sky.land Zc.steady frames hf sky2 fun h3 f3 up3 => ?_
    obtain ⟨o3, v3, e3, z3, d3⟩ := f3.there
    have away : a ∉ frs (X.env :: X.outer) := fun hm => by
      obtain ⟨_, o4, e4, no⟩ := f3.2.2.1.mem hm
      rw [e3] at e4
      cases e4
      exact no _ d3
    have n1 : a ≠ X.env.locals := fun z => away (List.mem_filterMap.mpr ⟨X.env, List.mem_cons_self, by rw [hf, z]⟩)
    have n2 : a ∉ X.fs := fun hm => by
      obtain ⟨e, he, z⟩ := List.mem_filterMap.mp hm
      exact away (List.mem_filterMap.mpr ⟨e, List.mem_cons_of_mem _ he, z⟩)
    have fresh : sI.heap.get? a = none := by
      cases e : sI.heap.get? a with
      | none => rfl
      | some o =>
        have z := ground a o e (show a ∉ frs X.stack by rw [hs]; exact away)
        rw [f3.2.1] at z
        cases z
    have size0 : ∀ o, X.s_0.heap.get? a = some o → a ∈ X.ex := fun o e => by
      by_cases hx : a ∈ X.ex
      · exact hx
      · obtain ⟨o', z⟩ := J.base.there a o e hx
        rw [fresh] at z
        cases z
    have others : ∀ p ∈ X.pn ++ pins, p.1 ≠ a := fun p hp z => by
      have := (J.pin p hp).1
      rw [z, fresh] at this
      cases this
    have land : ∀ {g : Heap}, HandSPX.FlyingZ B (X.env :: X.outer) a (Zc cls d) g → sI.heap.UpToSlots g → Inv X pins σ2 H2 { s1 with heap := g } := fun fg ug => J.landed ground fg.1 ug os bare
    have S3 := (land f3 (up.trans up3)).suite e3 d3 na n1 n2
    have isa : PySem.W.Looks (model X.prog X.w) h3 (typeOf (.ref a)) cls := fun A Q E s k q => wpAny_typeOf_ref (k _ _ e3) (by rw [z3.1]; exact q)
    refine wpAny_handleBy_cons (codeAny_handlers_test (ht.run a _ _ _ _ _ cls _ _ hmt S3 isa fun h4 k4 => ?_)) (by intro z; cases z)
    refine codeAny_handlers_suite_as (HandSPX.lands_againZ (flyK f3 k4) fun h5 f5 up5 => ?_)
    have up4 : sI.heap.UpToSlots h4 := (up.trans up3).trans (Heap.UpToSlots.of_keeps k4)
    obtain ⟨o5, v5, e5, z5, d5⟩ := f5.there
    have S5 := (land f5 (up4.trans up5)).suite e5 d5 na n1 n2
    refine store_ok (X := X.suite a ((a, o5) :: (X.pn ++ pins))) (v := .ref a) S5 hN hi (.inl hln) rfl (fun s6 S6 => ?_) (.inr hln)
    refine wpAny_mono ((hsu a o5 cls d (X.pn ++ pins) z5 ⟨_, d5⟩).run [] s6 _ H2 _ S6 (yes a na)) (fun f s7 e7 => ?_) fun _ _ z => z.elim
    cases f with
    | ret v =>
      obtain ⟨y, σ7, H7, S7, r7, q7⟩ := e7
      exact gone S7 fun s8 J8 => ⟨_, _, _, inv_unpin J8, r7, q7⟩
    | next =>
      obtain ⟨σ7, H7, S7, q7⟩ := e7
      exact gone S7 fun s8 J8 => ⟨_, _, inv_track J8 size0 others z5 d5, q7⟩
    | cont =>
      obtain ⟨σ7, H7, S7, q7⟩ := e7
      exact gone S7 fun s8 J8 => ⟨_, _, inv_unpin J8, q7⟩
    | brk =>
      obtain ⟨σ7, H7, S7, q7⟩ := e7
      exact gone S7 fun s8 J8 => ⟨_, _, inv_unpin J8, q7⟩
  refine wpAny_Try_except (wpAny_mono ((hb (wTk mt i ts D) (X.pn ++ pins) _ meet PassesOwn.looking).run [] s σ H D (I.toTry _) h) (fun f s1 e1 => ?_) fun _ _ z => z)
  cases f with
  | ret v =>
    obtain ⟨y, σ2, H2, J, r2, q2⟩ := e1
    exact ⟨y, σ2, H2, J.ofTry I.ok, r2, q2⟩
  | next =>
    obtain ⟨σ2, H2, J, q2⟩ := e1
    exact wpAny_execs_nil ⟨σ2, H2, J.ofTry I.ok, q2⟩
  | cont =>
    obtain ⟨σ2, H2, J, q2⟩ := e1
    exact ⟨σ2, H2, J.ofTry I.ok, q2⟩
  | brk =>
    obtain ⟨σ2, H2, J, q2⟩ := e1
    exact ⟨σ2, H2, J.ofTry I.ok, q2⟩⟩
end Lp
namespace Lp
open PySem PySem.Spec PyProof.Rows L2 LamX
/-! ### lambdas that capture nothing, as values that stand in lists -/
/-- the function object of such a lambda -/
def FnO (q : Str) (ar : Arguments) (b : Expr) (sc : Scope) (c f : Addr) : HO := .ext fun h => ∃ pm ctv, h.get? f = some (PySem.W.kla_obj "<lambda>" q ar b sc [] pm c ctv)
theorem fnO_ne {q : Str} {ar : Arguments} {b : Expr} {sc : Scope} {c f : Addr} (ps : Array Value) : FnO q ar b sc c f ≠ .tbl ps := fun z => by
  unfold FnO at z
  cases z
/-- a table that got one row more -/
theorem tabs_row {T : List (Addr × Str)} {H : Hp} {P c : Addr} {q : Str} {ps : Array Value} {l k : Value} {pos : Pos} (all : Tabs T H) (one : ∀ p ∈ T, p.1 = P → p.2 = q) (at_ : H P = some (.tbl ps)) (new : H c = none) (el : l = rawInt pos.line) (ek : k = rawInt pos.col) :
    ExtN H (upd (upd H P (.tbl (ps ++ #[l, k, .ref c]))) c (CodeO c q)) ∧ Tabs T (upd (upd H P (.tbl (ps ++ #[l, k, .ref c]))) c (CodeO c q)) := by
  subst el ek
  have pc : P ≠ c := ne_of_none at_ new
  have grow : ExtN H (upd (upd H P (.tbl (ps ++ #[rawInt pos.line, rawInt pos.col, .ref c]))) c (CodeO c q)) := by
    intro a u hu no
    have ac : a ≠ c := ne_of_none hu new
    have aP : a ≠ P := by
      intro z
      subst z
      rw [at_] at hu
      exact no _ (Option.some.inj hu).symm
    rw [upd_ne ac, upd_ne aP, hu]
  refine ⟨grow, ?_⟩
  intro p hp
  obtain ⟨ps2, h1, h2, h3⟩ := all p hp
  by_cases e : p.1 = P
  · rw [one p hp e]
    rw [one p hp e] at h3
    rw [e] at h1 ⊢
    cases at_.symm.trans h1
    refine ⟨_, (by rw [upd_ne pc, upd_same]), ?_, ?_⟩
    · rw [Array.toList_append]
      exact PySem.TriplesOk_snoc _ _ _ _ h2
    · intro p2 cv hcv
      rw [Array.toList_append] at hcv
      rcases among_app _ h2 hcv with z | z
      · obtain ⟨c2, z1, z2⟩ := h3 p2 cv z
        exact ⟨c2, z1, grow _ _ z2 codeO_ne⟩
      · exact ⟨c, z, upd_same⟩
  · refine ⟨ps2, (by rw [upd_ne (ne_of_none h1 new), upd_ne e]; exact h1), h2, ?_⟩
    intro p2 cv hcv
    obtain ⟨c2, z1, z2⟩ := h3 p2 cv hcv
    exact ⟨c2, z1, grow _ _ z2 codeO_ne⟩
section
variable {X : Cx} {pins : List (Addr × Obj)} {σ : L2.St} {H : Hp} {s : Shared}
/-- a function object laid behind all that there is -/
theorem inv_fn {q : Str} {ar : Arguments} {b : Expr} {sc : Scope} {c : Addr} {pm ctv : Value} {t : Tok} (I : Inv X pins σ H s) :
    Inv X pins σ (upd H s.heap.objs.size (FnO q ar b sc c s.heap.objs.size)) { s with heap := s.heap.push (PySem.W.kla_obj "<lambda>" q ar b sc [] pm c ctv), toks := t } := by
  have there : (s.heap.push (PySem.W.kla_obj "<lambda>" q ar b sc [] pm c ctv)).get? s.heap.objs.size = some (PySem.W.kla_obj "<lambda>" q ar b sc [] pm c ctv) := Heap.get?_push_size _ rfl
  have new : ObjOk X.prog X.w (upd H s.heap.objs.size (FnO q ar b sc c s.heap.objs.size)) (s.heap.push (PySem.W.kla_obj "<lambda>" q ar b sc [] pm c ctv)) s.heap.objs.size (FnO q ar b sc c s.heap.objs.size) :=
    ⟨⟨pm, ctv, there⟩, ⟨_, there⟩, fun _ _ ⟨p2, c2, z⟩ kk => ⟨p2, c2, kk _ z⟩⟩
  exact I.laidN (fun _ _ z => Heap.get?_push_of_some _ z) (Heap.get?_none_of_le (Nat.le_refl _)) (I.hok.fresh (Nat.le_refl _)) new
/-- such a lambda made -/
theorem lam_new {T : List (Addr × Str)} {c P : Addr} {ar : Arguments} {b : Expr} {sc : Scope} {pos : Pos} {E : Value → Shared → Prop} {Q : Value → Shared → Prop} (I : Inv X pins σ H s) (TB : TabB X.base X.mg c P) (hcode : X.env.code = .ref c)
    (hm : (P, X.env.qual ++ "<lambda>") ∈ T) (hu : ∀ p ∈ T, p.1 = P → p.2 = X.env.qual ++ "<lambda>") (all : Tabs T H) (hdef : defaultsOf ar X.env = ([], [])) (nof : ∀ y ∈ sc.names, y.2 ≠ .free)
    (h : ∀ (f c2 : Addr) (H1 : Hp) (s2 : Shared), Inv X pins σ (upd H1 f (FnO (X.env.qual ++ "<lambda>") ar b sc c2 f)) s2 → ExtN H H1 → Tabs T H1 → H1 f = none → H1 c2 = some (CodeO c2 (X.env.qual ++ "<lambda>")) → Q (.ref f) s2) :
    wpAny (model X.prog X.w) X.A (eval (.Lambda ar b sc pos) X.env) Q E s := by
  obtain ⟨ps, at_, tri, told⟩ := all _ hm
  have empty : cloFrom X.env.cells sc.names [] = [] := by
    refine List.eq_nil_iff_forall_not_mem.mpr fun y hy => ?_
    rcases cloFrom_mem hy with z | ⟨z, _⟩
    · cases z
    · exact nof _ z rfl
  have clos : closureFor sc X.env = pure [] := by
    have z := closure_ok (env := X.env) (scope := sc) fun y hy e => absurd e (nof y hy)
    rw [empty] at z
    exact z
  have mine := I.hok P _ at_
  refine PySem.W.kla_eval hdef ?_
  rcases e : codeAmong pos ps.toList with _ | cv
  · refine PySem.W.kla_makeFunction (mg := X.mg) (ps := ps) (P := P) (c := c) clos I.ok.glob (I.mod.glob.keeps I.bk) hcode (TB.code.keeps I.bk) mine tri e TB.gP (TB.bm.keeps I.bk) fun c2 ctv h2 tk ext le _ rec row => ?_
    obtain ⟨c3, oc, vs, tt, e3, z1, z2, z3⟩ := rec
    cases e3
    have J := inv_table (t' := s.toks) (h' := h2) I at_ (fun a o na z => ext a o na z) row le ⟨oc, vs, tt, z1, z2, z3⟩
    obtain ⟨g1, g2⟩ := tabs_row (pos := pos) all hu at_ (I.hok.fresh le) rfl rfl
    exact h _ c2 _ _ (inv_fn (t := tk) J) g1 g2 (J.hok.fresh (Nat.le_refl _)) upd_same
  · obtain ⟨c2, rfl, z⟩ := told pos cv e
    refine PySem.W.kla_makeFunctionHit (mg := X.mg) (ps := ps) (P := P) (c := c) clos I.ok.glob (I.mod.glob.keeps I.bk) hcode (TB.code.keeps I.bk) mine tri e (TB.bm.keeps I.bk) fun ctv h2 tk ext _ => ?_
    have J : Inv X pins σ H { s with heap := h2, toks := s.toks } := I.kept fun a o z => ext a o z
    exact h _ c2 _ _ (inv_fn (t := tk) J) (ExtN.refl H) all (J.hok.fresh (Nat.le_refl _)) z
end
/-- the lambda's expression -/
def tFn (T : List (Addr × Str)) (q : Str) (ar : Arguments) (b : Expr) (sc : Scope) : TE := fun _ H Q => Tabs T H ∧ ∀ (f c : Addr) (H1 : Hp), ExtN H H1 → Tabs T H1 → H1 f = some (FnO q ar b sc c f) → H1 c = some (CodeO c q) → Q (.ref f) H1
theorem pe_fn {X : Cx} {T : List (Addr × Str)} {c P : Addr} {ar : Arguments} {b : Expr} {sc : Scope} {pos : Pos} (TB : TabB X.base X.mg c P) (hcode : X.env.code = .ref c) (hm : (P, X.env.qual ++ "<lambda>") ∈ T) (hu : ∀ p ∈ T, p.1 = P → p.2 = X.env.qual ++ "<lambda>")
    (nof : ∀ y ∈ sc.names, y.2 ≠ .free := by decide) (hdef : defaultsOf ar X.env = ([], []) := by rfl) : PE X (.Lambda ar b sc pos) (tFn T (X.env.qual ++ "<lambda>") ar b sc) := by
  refine ⟨fun pins s σ H Q I h => ?_⟩
  obtain ⟨all, q⟩ := h
  refine lam_new I TB hcode hm hu all hdef nof fun f c2 H1 s2 J e1 e2 new code => ?_
  have ext : ExtN H1 (upd H1 f (FnO (X.env.qual ++ "<lambda>") ar b sc c2 f)) := fun a o z _ => by rw [upd_ne (ne_of_none z new)]; exact z
  exact ⟨.ref f, _, J, rfl, q f c2 _ (e1.trans ext) (e2.ext fun a o z => by rw [upd_ne (ne_of_none z new)]; exact z) upd_same (ext _ _ code codeO_ne)⟩
/-! ### what such a lambda promises, and its call through a name -/
structure LamF (P : Program) (w : World) (K : PySem.W.Frag) (mg : Str → Option Value) (base : Heap) (k : Nat) (q : Str) (ar : Arguments) (b : Expr) (sc : Scope) (N ps : List Str) (sp : Sp) : Prop where
  fs : FnScope N ps sc
  bd : ∀ (pm cv ctv : Value) (us : List Value), us.length = ps.length → bindArgs (PySem.W.kla_fn "<lambda>" q ar b sc [] pm cv ctv) ⟨us, []⟩ = pure (ps.zip us)
  len : ∀ vs H Q E, sp vs H Q E → vs.length = ps.length
  run : ∀ (f : Addr) (cdv : Value) (A : Around) (outer : List Env) (s : Shared) (H : Hp) (vs : List V) (Q : VK) (E : XK), Room k (A.deeper (envOfC q sc s.heap.objs.size f cdv)) → sp vs H Q E → ∃ t, PE (cxOf (L2.CX P w) P w K mg base N q sc f cdv A outer s H E) b t ∧ t (start N vs) H Q
/-- a lambda with that promise stands at f -/
def DoorAt (P : Program) (w : World) (K : PySem.W.Frag) (mg : Str → Option Value) (base : Heap) (k : Nat) (sp : Sp) (H : Hp) (f : Addr) : Prop :=
  ∃ (q : Str) (ar : Arguments) (b : Expr) (sc : Scope) (N ps : List Str) (c : Addr), H f = some (FnO q ar b sc c f) ∧ H c = some (CodeO c q) ∧ LamF P w K mg base k q ar b sc N ps sp
theorem DoorAt.ext {P : Program} {w : World} {K : PySem.W.Frag} {mg : Str → Option Value} {base : Heap} {k : Nat} {sp : Sp} {H G : Hp} {f : Addr} (D : DoorAt P w K mg base k sp H f) (e : ExtN H G) : DoorAt P w K mg base k sp G f := by
  obtain ⟨q, ar, b, sc, N, ps, c, h1, h2, F⟩ := D
  exact ⟨q, ar, b, sc, N, ps, c, e _ _ h1 fnO_ne, e _ _ h2 codeO_ne, F⟩
section
variable {X : Cx} {pins : List (Addr × Obj)} {σ : L2.St} {H : Hp} {s : Shared}
theorem DoorAt.fn {k : Nat} {sp : Sp} {f : Addr} (D : DoorAt X.prog X.w X.K X.mg X.base k sp H f) (I : Inv X pins σ H s) : PySem.W.FnAt f s.heap := by
  obtain ⟨q, ar, b, sc, N, ps, c, h1, h2, F⟩ := D
  obtain ⟨⟨pm, ctv, z⟩, _, _⟩ := I.hok f _ h1
  exact ⟨_, _, _, _, z⟩
theorem run_door {k : Nat} {sp : Sp} {f : Addr} {us : List Value} {vs : List V} {Q : VK} {E : XK} (I : Inv X pins σ H s) (D : DoorAt X.prog X.w X.K X.mg X.base k sp H f) (hr : Room (k + 1) X.A) (hx : PassesAt (L2.CX X.prog X.w) X σ E) (r : Vals vs us) (h : sp vs H Q E) :
    wpAny (model X.prog X.w) X.A (call (.ref f) us) (EP X pins σ Q) X.xe s := by
  obtain ⟨q, ar, b, sc, N, ps, c, h1, h2, F⟩ := D
  obtain ⟨⟨pm, ctv, look⟩, _, _⟩ := I.hok f _ h1
  obtain ⟨⟨oc, fs, tt, c1, c2, c3⟩, _, _⟩ := I.hok c _ h2
  have ul : us.length = ps.length := by
    rw [← r.length]
    exact F.len _ _ _ _ h
  have step : codeAny (model X.prog X.w) X.A (.call (.ref f) ⟨us, []⟩) (CR (L2.CX X.prog X.w) X.stack X.prog X.w H s Q E) s := by
    refine PySem.W.kla_callFunE hr.depth look rfl F.fs.co F.fs.gen rfl ⟨c, oc, fs, tt, rfl, c1, c2, c3⟩ ?_
    rw [F.bd _ _ _ _ ul]
    refine wpAny_pure (wpAny_newFunctionEnv_cells F.fs.kind (fun y hy => ?_) fun env ee s1 x => ?_)
    · obtain ⟨nm, vl⟩ := y
      rcases F.fs.par nm (List.of_mem_zip hy).1 with z | z
      · exact .inl z
      · exact .inr ⟨z, PySem.W.cellsFrom_some _ _ _ (.inl z)⟩
    · subst ee
      refine ⟨I.nolimit.keeps x.toInCall.keep, PySem.W.kla_codeExpr ?_⟩
      obtain ⟨t, pe, z⟩ := F.run f (.ref c) X.A X.stack s H vs Q E (hr.deeper _) h
      have J : Inv (cxOf (L2.CX X.prog X.w) X.prog X.w X.K X.mg X.base N q sc f (.ref c) X.A X.stack s H E) [] (start N vs) H s1 := inv_start F.fs hr.hd I.env0 (by rw [r.length, ul]) r x
      exact wpAny_mono (pe.run [] s1 _ H Q J z) (fun v s3 ⟨y, H3, J3, r3, q3⟩ => ⟨y, H3, J3.os, J3.bare, J3.base, J3.hok, r3, q3⟩) fun _ _ z => z
  refine wpAny_call (codeAny_mono step fun r2 s2 hq => ?_)
  cases r2 with
  | error e => exact hx pins H s e s2 I hq
  | ok fl =>
    cases fl with
    | ret u => exact I.after hq
    | next => exact hq.elim
    | brk => exact hq.elim
    | cont => exact hq.elim
/-- a name holds such a lambda, called with things -/
def tDoor (P : Program) (w : World) (K : PySem.W.Frag) (mg : Str → Option Value) (base : Heap) (k : Nat) (tf : TE) (t : TA) (W : WX) : TE := fun σ H Q => tf σ H fun v H1 => ∃ (f : Addr) (sp : Sp), v = .ref f ∧ DoorAt P w K mg base k sp H1 f ∧ t σ H1 fun vs H2 => DoorAt P w K mg base k sp H2 f ∧ sp vs H2 Q (WE W σ)
theorem pe_door {P : Program} {w : World} {K : PySem.W.Frag} {mg : Str → Option Value} {base : Heap} {k j : Nat} {x : Str} {p pos : Pos} {e : Expr} {es : List Expr} {tf : TE} {t : TA} {W : WX} (eP : X.prog = P) (ew : X.w = w) (eK : X.K = K) (em : X.mg = mg) (eb : X.base = base) (hw : Takes X W) (hr : Room j X.A) (hk : k + 1 ≤ j) (hf : PE X (.Name x p) tf) (ha : PA X (e :: es) t) (he : starEach (e :: es) X.env = (false, eval e X.env) :: starEach es X.env := by rfl) (hpl : (backTo pos (starEach es X.env)).any (·.1) = false := by rfl) :
    PE X (.Call (.Name x p) (e :: es) [] pos) (tDoor P w K mg base k tf t W) := by
  subst eP ew eK em eb
  refine ⟨fun pins s σ H Q I h => wpAny_Call_Name_kw (thn (hf.run pins s σ H _ I h) fun u s1 hh => ?_)⟩
  obtain ⟨v, H1, I1, r1, f, sp, rfl, D, h2⟩ := hh
  cases r1
  refine PySem.W.callWith_F (D.fn I1) (thn (ha.run pos pins s1 σ _ _ I1 h2) fun us s2 z => ?_) he hpl
  obtain ⟨vs, H2, I2, r, D2, q⟩ := z
  exact ⟨D2.fn I2, run_door I2 D2 (hr.mono hk) (passAt hw σ) r q⟩
end
end Lp
namespace Lp
open PySem PySem.Spec PyProof.Rows L2
/-! ### a def that a name holds and that may raise; a field of a kept exception of any class -/
def tKfA (K : PySem.W.Frag) (n : Str) (te : TE) : TE := fun σ H Q => te σ H fun x H1 => ∃ (C a dd : Addr) (fs : List (Str × V)) (v : V), XfC K C ∧ PySem.W.findIn K (.ref C) n = some none ∧ x = .ref a ∧ H1 a = some (KeptO (.ref C) (some dd) a) ∧ H1 dd = some (.xd fs) ∧ fs.lookup n = some v ∧ Q v H1
theorem pe_kfA {X : Cx} {e : Expr} {te : TE} {pos : Pos} {n : Str} (he : PE X e te) (at_ : attributeBase e n X.env (eval e X.env) = eval e X.env := by rfl) : PE X (.Attribute e n pos) (tKfA X.K n te) := ⟨fun pins s σ H Q I h => attr_of at_ (thn (he.run pins s σ H _ I h) fun u s1 z => by
  obtain ⟨x, G, J, rx, C, a, dd, fs, v, T, noN, rfl, ha, hd, hl, q⟩ := z
  cases (show u = Value.ref a from rx)
  obtain ⟨⟨oe, vs, there, zc, fields⟩, _, _⟩ := J.hok a _ ha
  obtain ⟨m, ns, all⟩ : ∃ m, s1.heap.Ns1 dd m ∧ ∀ f, RelO (fs.lookup f) (m f) := J.hok dd _ hd
  obtain ⟨od, dict, look⟩ := lookIn_ns ns
  obtain ⟨y, hy, ry⟩ := RelO.some_of (v := v) (o := m n) (hl ▸ all n)
  have inst : PySem.W.InstAt s1.heap a oe C (some od) := ⟨there, zc.1, by unfold PySem.W.notCls; rw [fields] <;> rfl, by rw [zc.2]; exact dict⟩
  exact HandSPX.exc_get J.kIn inst T.ga T.gg T.exC (PySem.W.findObj_own T.hdC noN rfl (by rw [look, hy])) (handed_of ry) ⟨v, G, J.tok _, ry, q⟩)⟩
section
variable {X : Cx} {P : Program} {w : World} {K : PySem.W.Frag} {mg : Str → Option Value} {base : Heap} {te : TE} {W : WX} {j : Nat} {x : Str} {p pos : Pos}
/-- by position -/
theorem pe_nx {e : Expr} {es : List Expr} {t : TA} (eP : X.prog = P) (ew : X.w = w) (eK : X.K = K) (em : X.mg = mg) (eb : X.base = base) (hw : Takes X W) (hr : Room j X.A) (hf : PE X (.Name x p) te) (ha : PA X (e :: es) t)
    (he : starEach (e :: es) X.env = (false, eval e X.env) :: starEach es X.env := by rfl) (hpl : (backTo pos (starEach es X.env)).any (·.1) = false := by rfl) : PE X (.Call (.Name x p) (e :: es) [] pos) (tCallE P w K mg base j W te t) := by
  subst eP ew eK em eb
  constructor
  intro pins s σ H Q I h
  refine wpAny_Call_Name_kw (thn (hf.run pins s σ H _ I h) fun u s1 z => ?_)
  obtain ⟨y, H1, I1, r1, k, f, sp, le, rfl, ⟨fd, ps, G, kp, b⟩, q⟩ := z
  cases r1
  refine PySem.W.callWith_K (h₀ := X.base) I1.ok.mod.kin kp (thn (ha.run pos pins s1 σ H1 _ I1 q) fun us s2 z2 => ?_) he hpl
  obtain ⟨vs, H2, I2, r2, q2⟩ := z2
  exact ⟨I2.kIn, run_fnS G (hr.mono le) b (passAt hw σ) I2 r2 q2⟩
/-- such a def, called by these names -/
def IsXK (P : Program) (w : World) (K : PySem.W.Frag) (mg : Str → Option Value) (base : Heap) (k : Nat) (f : Addr) (ks : List Str) (g : {α : Type} → List α → List α) (sp : Sp) : Prop := ∃ (fd : FuncData) (ps : List Str), FnOk P w K mg base (L2.CX P w) k f fd ps sp ∧ PySem.W.keepIn K (.ref f) = true ∧ KBn K fd ps 0 ks (fun _ ws => g ws) (fun _ zs => g zs)
theorem ClX.isXK {k : Nat} {y : Str} {st : Stmt} {ps ks : List Str} {sp : Sp} {a : Addr} (g : {α : Type} → List α → List α) (c : ClX P w K mg base k y st ps sp) (hm : mg y = some (.ref a))
    (bd : ∀ (kV doc pm : Value) (an : Option Addr) (cdv ct : Value) (ws : List Value), ws.length = ks.length → bindArgs (PySem.W.fnOf y y (defArgs st) (defBody st) (defScope st) .none kV doc pm an cdv ct) ⟨[], ks.zip ws⟩ = pure (ps.zip (g ws)))
    (rel : ∀ {zs : List V} {ws : List Value}, Vals zs ws → Vals (g zs) (g ws)) : IsXK P w K mg base k a ks g sp := by
  obtain ⟨f, fd, F, G, m, b⟩ := c.ex
  cases m.symm.trans hm
  refine ⟨fd, ps, G, F.kp, ?_⟩
  obtain ⟨oc, od, dV, kV, doc, pm, an, cdv, ct, osl, rfl, lk, hcd, hD, hK⟩ := F.ex
  rcases hD with ⟨_, rfl⟩ | ⟨z, _⟩
  · refine ⟨fun s us ws X1 l1 l2 => ?_, fun _ r => rel r⟩
    have e0 : us = [] := List.length_eq_zero_iff.mp l1
    subst e0
    exact .of_eq (bd kV doc pm an cdv ct ws l2)
  · exact absurd rfl z
def tCallEK (P : Program) (w : World) (K : PySem.W.Frag) (mg : Str → Option Value) (base : Heap) (j : Nat) (ks : List Str) (g : {α : Type} → List α → List α) (W : WX) (te : TE) (tk : TA) : TE := fun σ H Q => te σ H fun x H1 => ∃ (k : Nat) (f : Addr) (sp : Sp), k ≤ j ∧ x = .ref f ∧ IsXK P w K mg base k f ks g sp ∧ tk σ H1 fun zs H2 => zs.length = ks.length ∧ sp (g zs) H2 Q (WE W σ)
theorem pe_nxk {tk : TA} {ks : List Str} {kws : List Keyword} (g : {α : Type} → List α → List α) (eP : X.prog = P) (ew : X.w = w) (eK : X.K = K) (em : X.mg = mg) (eb : X.base = base) (hw : Takes X W) (hr : Room j X.A) (hf : PE X (.Name x p) te) (hkw : PK X kws tk)
    (hall : (backToKw pos (keywordEach kws X.env)).all (·.1.isSome) = true := by rfl) (hks : (backToKw pos (keywordEach kws X.env)).filterMap (·.1) = ks := by rfl)
    (hpl : ((backTo pos (starEach [] X.env)).any (·.1) || (backToKw pos (keywordEach kws X.env)).any (·.1.isNone)) = false := by rfl) :
    PE X (.Call (.Name x p) [] kws pos) (tCallEK P w K mg base j ks g W te tk) := by
  subst eP ew eK em eb
  constructor
  intro pins s σ H Q I h
  refine wpAny_Call_Name_kw (thn (hf.run pins s σ H _ I h) fun u s1 z => ?_)
  obtain ⟨y, H1, I1, r1, k, f, sp, le, rfl, ⟨fd, ps, G, kp, kb⟩, q⟩ := z
  cases r1
  refine PySem.W.callWith_KW0 (h₀ := X.base) I1.ok.mod.kin kp hall (thn (hkw.run pos pins s1 σ H1 _ I1 q) fun ws s2 z2 => ?_) hpl
  obtain ⟨zs, H2, I2, rz, l2, q2⟩ := z2
  refine ⟨I2.kIn, ?_⟩
  rw [hks]
  have given := kb.to s2 [] ws I2.kIn rfl (rz.length.symm.trans l2)
  have done := G.run X.A X.stack s2 H2 ⟨[], ks.zip ws⟩ (g ws) (g zs) Q (WE W σ) (hr.mono le) I2.env0 given (kb.rel .nil rz) q2
  refine wpAny_call (codeAny_mono done fun out s3 z => ?_)
  match out, z with
  | .error er, z => exact passAt hw σ pins H2 s2 er s3 I2 z
  | .ok (.ret _), z => exact I2.after z
  | .ok .next, z => exact z.elim
  | .ok .brk, z => exact z.elim
  | .ok .cont, z => exact z.elim
end
end Lp
/-! ### a text is no dict -/
namespace LpEq
open PySem PySem.Spec PySem.SeqAt
open AutoSeq1 (wpAny_loadPart')
open MeetsSeq
theorem text_dict (b : Str) (u : Tok) (l : Addr) (o : Obj) (hc : o.cls = .type "dict") {es : Array DictEntry} {ep : Nat} (hd : o.data = .dict es ep) : Meets (Builtin.«str.__eq__» ⟨[.str b u, .ref l], []⟩) (fun _ R s => s.heap.get? l = some o ∧ R (.ok (.ret .notImplemented)) s) :=
  .of_wp fun prog w A R s h => by
    obtain ⟨hp, g, d, tk, os⟩ := s
    obtain ⟨hl, h⟩ := h
    obtain ⟨cls, dd, data, sl⟩ := o
    subst hc hd
    wp_walk using wpAny_loadPart' hl, wpAny_load hl
    exact ⟨_, rfl, h⟩
theorem dict_text (b : Str) (u : Tok) (l : Addr) (o : Obj) (hc : o.cls = .type "dict") {es : Array DictEntry} {ep : Nat} (hd : o.data = .dict es ep) : Meets (Builtin.«dict.__eq__» ⟨[.ref l, .str b u], []⟩) (fun _ R s => s.heap.get? l = some o ∧ R (.ok (.ret .notImplemented)) s) :=
  .of_wp fun prog w A R s h => by
    obtain ⟨hp, g, d, tk, os⟩ := s
    obtain ⟨hl, h⟩ := h
    obtain ⟨cls, dd, data, sl⟩ := o
    subst hc hd
    have f1 := F.sub_str_dict
    wp_walk using wpAny_loadPart' hl, wpAny_load hl
    exact ⟨_, rfl, h⟩
theorem eq_text_dict {A : Around} {s : Shared} {l : Addr} {o : Obj} (b : Str) (u : Tok) (hl : s.heap.get? l = some o) (hc : o.cls = .type "dict") {es : Array DictEntry} {ep : Nat} (hd : o.data = .dict es ep) (hu : A.units < cLine) : EqAt A s (.str b u) (.ref l) false := by
  intro prog w E Q h
  have rich : wpAny (model prog w) A (richCompare .Eq (.str b u) (.ref l)) (fun v s' => wpAny (model prog w) A (truthOfDropped v) Q E s') E s :=
    rc_eq_decline_or (k := false) (typeIs_str s b u) ⟨o, hl, hc⟩ (by decide) F.sub_dict_str F.slot_str_eq F.slot_dict_eq_refl
      (fun _ hq => call_meets F.slot_str_eq (typeIs_str s b u) F.entry_str_eq (F.args_str_eq_2 _ _) (text_dict b u l o hc hd) ⟨hl, hq⟩)
      (fun _ hq => call_meets F.slot_dict_eq_refl ⟨o, hl, hc⟩ F.entry_dict_eq (F.args_dict_eq_2 _ _) (dict_text b u l o hc hd) ⟨hl, hq⟩)
      (fun _ hq => wpAny_of_eq (rfl : isSame (.str b u) (.ref l) = pure false) hq) (.inr hu) (wpAny_truthy_bool h)
  unfold eqBool
  exact wpAny_holding (wpAny_ite_split (fun z => absurd (eq_of_beq z) nofun) fun _ => wpAny_bind rich)
end LpEq
namespace Lp
open PySem PySem.Spec PyProof.Rows L2
/-! ### x in a tuple of texts, where x may be a list, a tuple or an empty dict -/
def rInO (K : PySem.W.Frag) : R2 := fun x y H Q => ∃ (p : Addr) (zs : List Str), y = .ref p ∧ SqT K H p (zs.map V.str) ∧ ((flatV x = true ∧ Q (.bl (inV x (zs.map V.str))) H) ∨ ((∃ a, x = .ref a ∧ ((∃ ws, SqL K H a ws) ∨ (∃ ws, SqT K H a ws) ∨ H a = some (.dK []))) ∧ Q (.bl false) H))
theorem op_inO {X : Cx} (hu : X.A.units + 64 < cLine) : OpR X (compareOp .In) (rInO X.K) := by
  intro pins s σ H x y v u Q I rx ry h
  obtain ⟨p, zs, rfl, hS, h⟩ := h
  rcases h with ⟨hf, q⟩ | ⟨⟨a, rfl, ha⟩, q⟩
  · refine op_in_seq pins s σ H x (.ref p) v u Q I rx ry ⟨p, _, rfl, .inr hS, hf, ?_, q⟩
    rw [List.all_map, List.all_eq_true]
    intro z _
    rfl
  · cases ry
    obtain ⟨its, r, pl, _⟩ := I.tuple hS
    cases rx
    have hu1 : X.A.in1.units < cLine := by
      have e : X.A.in1.units ≤ X.A.units + 1 := by simp [Around.in1, Around.units]
      omega
    refine SeqAt.in_tupleAt (fun _ => false) pl (fun w hw => ?_) ⟨.bl _, H, I, rfl, ?_⟩
    · obtain ⟨b, t, rfl⟩ : ∃ b t, w = Value.str b t := by
        have go : ∀ (zs : List Str) (us : List Value), Vals (zs.map V.str) us → ∀ w ∈ us, ∃ b t, w = Value.str b t := fun zs => by
          induction zs with
          | nil =>
            intro us r w hw
            cases r
            cases hw
          | cons z zs ih =>
            intro us r w hw
            cases r with
            | cons r1 r2 =>
              rcases List.mem_cons.mp hw with z | z
              · subst z
                obtain ⟨t, e⟩ := r1
                exact ⟨_, t, e⟩
              · exact ih _ r2 w z
        exact go zs its r w (by simpa using hw)
      rcases ha with ⟨ws, hl⟩ | ⟨ws, ht⟩ | hd
      · obtain ⟨_, _, pl2, _⟩ := I.list hl
        exact SeqAt.EqAt.str_list b t pl2.isList hu1
      · obtain ⟨_, _, pl2, _⟩ := I.tuple ht
        exact SeqAt.EqAt.str_tuple b t pl2 hu1
      · obtain ⟨_, _, vs, _, o, es, ep, ho, he, hd, _⟩ := I.hok a _ hd
        exact LpEq.eq_text_dict b t ho he.1 hd hu1
    · have e : (its.toArray.any fun _ => false) = false := by simp
      rw [e]
      exact q
end Lp
/-! ### an own exception class called by its field's name -/
namespace PySem.HandSPX
open PySem PySem.Spec
section
variable {M : Model} {A : Around} {E : Value → Shared → Prop} {h : Heap} {g : Array GenState} {d : Drawn} {t : Nat} {os : OsState}
variable {nm q : Str} {C N : Addr} {bs bm up : List Value} {hdct : Bool} {sn : List Str} {sub : List Value} {ab : Bool} {col : Option Bool} {dd : Option Addr} {k0 k1 k2 k3 k5 : Option Value} {B maker ini : String} {f : Str} {u : Value}
theorem named_check (F : ExcBaseFacts B maker ini up) (same : ∀ X : String, bm.contains (.type X) = up.contains (.type X)) {Q : Unit → Shared → Prop} (at_ : h.get? C = some (excClassObj nm q C N bs bm hdct sn sub ab col dd k0 k1 k2 k3 k5 maker)) (go : Q () ⟨h, g, d, t, os⟩) :
    wpAny M A (checkBuiltinCall maker ⟨[.ref C], [(f, u)]⟩) Q E ⟨h, g, d, t, os⟩ := by
  have has : (Value.ref C :: bm).contains (.type B) = true := by
    rw [List.contains_cons, same, F.hasB, Bool.or_true]
  have short := F.noStar
  simp only [checkBuiltinCall, F.newKind, F.newSplit, F.newRow]
  repeat (first
    | refine wpAny_loadPart_at at_ ?_
    | (refine wpAny_isSubtype_exc at_ ?_; rw [has])
    | refine wpAny_staticBase_exc at_ ?_
    | refine wpAny_madeBy_exc at_ ?_
    | simp only [bne_self_eq_false, Bool.false_eq_true, if_false]
    | wp_step)
  exact go
end
section
variable {prog : Program} {w : World} {A : Around} {E : Value → Shared → Prop} {R : Result → Shared → Prop} {h : Heap} {g : Array GenState} {d : Drawn} {t : Nat} {os : OsState}
variable {nm q : Str} {C N : Addr} {bs bm up : List Value} {hdct : Bool} {sn : List Str} {sub : List Value} {ab : Bool} {col : Option Bool} {dd : Option Addr} {k0 k1 k2 k3 k5 : Option Value} {B maker ini : String} {f : Str} {u : Value}
/-- the maker looks at no name: the args are empty -/
theorem named_new (F : ExcBaseFacts B maker ini up) (same : ∀ X : String, bm.contains (.type X) = up.contains (.type X)) (at_ : h.get? C = some (excClassObj nm q C N bs bm hdct sn sub ab col dd k0 k1 k2 k3 k5 maker))
    (go : R (.ok (.ret (.ref (h.objs.size + 1)))) ⟨(h.push (W.kdv_tup [])).push (excO C h.objs.size), g, d, t, os⟩) : codeAny (model prog w) A (.builtin maker ⟨[.ref C], [(f, u)]⟩) R ⟨h, g, d, t, os⟩ := by
  have ends := F.ends
  have m1 : (Value.ref C :: bm).contains (.type B) = true := by
    rw [List.contains_cons, same, F.hasB, Bool.or_true]
  have m2 : (Value.ref C :: bm).contains (.type "AttributeError") = false := by
    rw [List.contains_cons, same, F.noAttr]
    rfl
  have m3 : (Value.ref C :: bm).contains (.type "NameError") = false := by
    rw [List.contains_cons, same, F.noName]
    rfl
  have small : ([] : List Value).length ≤ sizeLine := Nat.zero_le _
  refine codeAny_builtinAt F.entry ?_
  unfold Builtin.«BaseException.__new__»
  refine wpAt_bind ?_
  show wpAt _ _ _ (stack >>= _) _ _ _
  refine wpAt_bind (wpAt_stack fun p below => wpAt_of_wpAny ?_)
  wp_walk
  refine wpAt_of_wpAny ?_
  rw [F.owner]
  repeat (first
    | with_reducible refine wpAny_madeHere_exc F.canon at_ ?_
    | with_reducible refine wpAny_loadPart_at at_ ?_
    | (with_reducible refine wpAny_isSubtype_exc at_ ?_; first | rw [m1] | rw [m2] | rw [m3])
    | wp_step)
  show R _ _
  rw [Heap.size_push]
  exact go
theorem named_type (F : ExcBaseFacts B maker ini up) (same : ∀ X : String, bm.contains (.type X) = up.contains (.type X)) {fI : Addr} {Q : Fin → Shared → Prop} (at_ : h.get? C = some (excClassObj nm q C N bs bm hdct sn sub ab col dd k0 k1 k2 k3 k5 maker))
    (init : W.Looks (model prog w) h (typeLookup (.ref C) "__init__") (some (.ref fI))) (bound : ∀ self, W.Looks (model prog w) h (bindSpecial (.ref fI) self) (.ref fI, [self]))
    (go : codeAny (model prog w) A (.call (.ref fI) ⟨[.ref (h.objs.size + 1)], [(f, u)]⟩) (fun r s' => match r with | .ok (.ret v) => v = .none ∧ Q (.done (.ret (.ref (h.objs.size + 1)))) s' | .ok _ => False | .error e => E e s') ⟨(h.push (W.kdv_tup [])).push (excO C h.objs.size), g, d, t, os⟩) :
    wpAny (model prog w) A (Builtin.«type.__call__» ⟨[.ref C], [(f, u)]⟩) Q E ⟨h, g, d, t, os⟩ := by
  repeat (first | with_reducible refine wpAny_loadPart_at at_ ?_ | with_reducible refine wpAny_madeBy_exc at_ ?_ | wp_step)
  refine codeAny_call_builtin_code (Code.quiet_builtin _ F.quiet) (named_check F same at_ ?_)
  refine named_new F same at_ ?_
  show wpAny _ _ _ _ _ _
  have stays : ∀ b o, h.get? b = some o → ((h.push (W.kdv_tup [])).push (excO C h.objs.size)).get? b = some o := fun b o z => Heap.get?_push_of_some _ (Heap.get?_push_of_some _ z)
  have cls2 := stays _ _ at_
  have there : ((h.push (W.kdv_tup [])).push (excO C h.objs.size)).get? (h.objs.size + 1) = some (excO C h.objs.size) := by heap_get
  have own : (Value.ref C :: bm).contains (.ref C) = true := by simp
  have i1 := init.keeps stays
  have b1 := (bound (.ref (h.objs.size + 1))).keeps stays
  unfold isInstance
  repeat (first | with_reducible refine wpAny_loadPart_at there ?_ | (with_reducible refine wpAny_isSubtype_exc cls2 ?_; rw [own]) | wp_step)
  show wpAny _ _ (typeLookup (.ref C) _) _ _ _
  refine i1.at ?_
  refine wpAny_holding (wpAny_bind (b1.at ?_))
  refine wpAny_bind (wpAny_call (codeAny_mono go fun r s' z => ?_))
  match r, z with
  | .error _, z => exact z
  | .ok (.ret v), z =>
    obtain ⟨rfl, z⟩ := z
    first
      | exact wpAny_pure (wpAny_pure z)
      | (wp_walk; exact z)
  | .ok .next, z => exact z.elim
  | .ok .brk, z => exact z.elim
  | .ok .cont, z => exact z.elim
/-- C(f = u) -/
theorem named_call (F : ExcBaseFacts B maker ini up) (same : ∀ X : String, bm.contains (.type X) = up.contains (.type X)) {fI : Addr} (at_ : h.get? C = some (excClassObj nm q C N bs bm hdct sn sub ab col dd k0 k1 k2 k3 k5 maker))
    (init : W.Looks (model prog w) h (typeLookup (.ref C) "__init__") (some (.ref fI))) (bound : ∀ self, W.Looks (model prog w) h (bindSpecial (.ref fI) self) (.ref fI, [self]))
    (go : codeAny (model prog w) (A.under (.builtin "type.__call__" ⟨[.ref C], [(f, u)]⟩)) (.call (.ref fI) ⟨[.ref (h.objs.size + 1)], [(f, u)]⟩) (W.InitBack (h.objs.size + 1) R) ⟨(h.push (W.kdv_tup [])).push (excO C h.objs.size), g, d, t, os⟩) :
    codeAny (model prog w) A (.call (.ref C) ⟨[], [(f, u)]⟩) R ⟨h, g, d, t, os⟩ := by
  have f1 := tc_lookup
  have f2 := tc_bind (.ref C)
  have ty : (⟨h, g, d, t, os⟩ : Shared).TypeIs (.ref C) "type" := ⟨_, at_, rfl⟩
  refine codeAny_of_tree ?_
  show wpAny _ _ (callAny (.ref C) _) _ _ _
  repeat (any_goals (first | assumption | with_reducible refine wpAny_loadPart_at at_ ?_ | wp_step))
  refine ⟨rfl, ?_⟩
  have check : ∀ {M : Model} {A : Around} {E : Value → Shared → Prop} {Q : Unit → Shared → Prop}, Q () ⟨h, g, d, t, os⟩ → wpAny M A (checkBuiltinCall "type.__call__" ⟨[.ref C], [(f, u)]⟩) Q E ⟨h, g, d, t, os⟩ := fun hq => by
    have f3 := tc_sub
    simp only [checkBuiltinCall, tc_kind, tc_split]
    repeat (any_goals (first | assumption | with_reducible refine wpAny_loadPart_at at_ ?_ | with_reducible refine wpAny_onRaise ?_ | with_reducible refine wpAny_map ?_ | wp_step))
  refine codeAny_call_builtin_at (Code.quiet_builtin _ (by decide +kernel)) entry_typeCall (check (named_type F same at_ init bound ?_))
  refine codeAny_mono go fun r s' z => ?_
  match r, z with
  | .error _, z => exact z
  | .ok (.ret _), z => exact z
  | .ok .next, z => exact z
  | .ok .brk, z => exact z
  | .ok .cont, z => exact z
end
end PySem.HandSPX
namespace Lp
open PySem PySem.Spec PyProof.Rows L2
/-- a class that keeps its one argument, given by position or by the field's name -/
structure EK (P : Program) (w : World) (K : PySem.W.Frag) (mg : Str → Option Value) (base : Heap) (x f : Str) : Prop extends ET P w K mg base x f where
  fnK : ∃ fd, FnOk P w K mg base CX0 1 (He.ma K (He.ga K x) "__init__") fd (["self", f] : List Str) (fun vs H Q _ => ∃ (a : Addr) (v : V), vs = [.ref a, v] ∧ H a = some (exo a (He.ga K x) none) ∧ ∀ dx, H dx = none → dx ≠ a → Q .non (upd (upd H dx (exd dx [(f, v)])) a (exo a (He.ga K x) (some dx)))) ∧ KBn K fd (["self", f] : List Str) 1 [f] (fun us ws => us ++ ws) (fun vs zs => vs ++ zs)
/-- C(f = e) -/
theorem pmk_tk {X : Cx} {x f : Str} {kws : List Keyword} {tk : TA} {j : Nat} {p pos : Pos} (T : EK X.prog X.w X.K X.mg X.base x f) (hr : Room j X.A) (hj : 2 ≤ j) (hg : Gl X x) (hkw : PK X kws tk)
    (hall : (backToKw pos (keywordEach kws X.env)).all (·.1.isSome) = true := by rfl) (hks : (backToKw pos (keywordEach kws X.env)).filterMap (·.1) = [f] := by rfl) (hdb : (x == ("__debug__" : Str)) = false := by decide)
    (hpl : ((backTo pos (starEach [] X.env)).any (·.1) || (backToKw pos (keywordEach kws X.env)).any (·.1.isNone)) = false := by rfl) :
    PMk X (.Call (.Name x p) [] kws pos) (tMkE (He.ga X.K x) f tk) := by
  obtain ⟨fd, run_, bnd⟩ := T.fnK
  obtain ⟨up, maker, ini, rows, SF, FB, TX⟩ := T.ox
  intro pins s σ H Q I h
  refine wpAny_Call_Name_kw (ld_glob I hg T.gC ?_ hdb)
  refine PySem.W.callWith_KW0 (h₀ := X.base) I.ok.mod.kin TX.kept_ hall (thn (hkw.run pos pins s σ H _ I h) fun us s1 z1 => ?_) hpl
  obtain ⟨vs, H1, I1, r1, v, rfl, go⟩ := z1
  obtain ⟨u, rfl, ru⟩ := L2.vals1 r1
  refine ⟨I1.kIn, ?_⟩
  rw [hks]
  obtain ⟨nm, N, qn, bs, bm, hdct, sn, sub, ab, col, dd, k0, k1, k2, k3, k5, atC, names⟩ := PySem.W.excInit_of I1.kIn TX.made
  obtain ⟨hp, g, dr, tk, out⟩ := s1
  have new : H1 (hp.objs.size + 1) = none := I1.hok.fresh (Nat.le_succ _)
  have keeps : ∀ b o, hp.get? b = some o → ((hp.push (PySem.W.kdv_tup [])).push (PySem.HandSPX.excO (He.ga X.K x) hp.objs.size)).get? b = some o := fun b o z => Heap.get?_push_of_some _ (Heap.get?_push_of_some _ z)
  have exc_ : ((hp.push (PySem.W.kdv_tup [])).push (PySem.HandSPX.excO (He.ga X.K x) hp.objs.size)).get? (hp.objs.size + 1) = some (PySem.HandSPX.excO (He.ga X.K x) hp.objs.size) := by heap_get
  have I2 := I1.laid (t' := tk) (o := exo (hp.objs.size + 1) (He.ga X.K x) none) keeps (Nat.le_succ _) (exo_ok exc_)
  have vals2 : Vals [V.ref (hp.objs.size + 1), v] [Value.ref (hp.objs.size + 1), u] := .cons rfl (.cons ru .nil)
  have bd := bnd.to (Shared.mk ((hp.push (PySem.W.kdv_tup [])).push (PySem.HandSPX.excO (He.ga X.K x) hp.objs.size)) g dr tk out) [Value.ref (hp.objs.size + 1)] [u] I2.kIn rfl rfl
  refine wpAny_call (PySem.HandSPX.named_call FB names atC (PySem.W.looks_findIn I1.kIn T.iC) (fun self => PySem.W.bind_fn I1.kIn self T.tC)
    (codeAny_mono (run_.run _ X.stack _ _ ⟨[Value.ref (hp.objs.size + 1)], ([f] : List Str).zip [u]⟩ [Value.ref (hp.objs.size + 1), u] _ (fun w G => w = .non ∧ ∃ dx, H1 dx = none ∧ dx ≠ hp.objs.size + 1 ∧ G = upd (upd (upd H1 (hp.objs.size + 1) (exo (hp.objs.size + 1) (He.ga X.K x) none)) dx (exd dx [(f, v)])) (hp.objs.size + 1) (exo (hp.objs.size + 1) (He.ga X.K x) (some dx))) (fun _ _ _ => False) ((hr.mono hj).make (He.ga X.K x) [] (([f] : List Str).zip [u])) (I2.env0.make (He.ga X.K x) [] (([f] : List Str).zip [u])) bd vals2
      ⟨_, v, rfl, upd_same, fun dx n ne => ⟨rfl, dx, by rw [upd_ne ne] at n; exact n, ne, rfl⟩⟩) fun r s' back => ?_))
  cases r with
  | error er => exact pass0 pins σ _ _ er s' I2 back
  | ok fl =>
    cases fl with
    | next => exact back.elim
    | brk => exact back.elim
    | cont => exact back.elim
    | ret back_ =>
      obtain ⟨w2, G, same, bare, un, ok2, rv, ew, dx, ndx, ne, rfl⟩ := back
      subst ew
      obtain ⟨h2, g2, d2, t2, os2⟩ := s'
      have last : upd (del (upd (upd (upd H1 (hp.objs.size + 1) (exo (hp.objs.size + 1) (He.ga X.K x) none)) dx (exd dx [(f, v)])) (hp.objs.size + 1) (exo (hp.objs.size + 1) (He.ga X.K x) (some dx))) (hp.objs.size + 1)) dx (.xd [(f, v)]) = upd H1 dx (.xd [(f, v)]) := by
        funext b
        by_cases hb : b = dx
        · rw [hb, upd_same, upd_same]
        · rw [upd_ne hb, upd_ne hb]
          by_cases he : b = hp.objs.size + 1
          · rw [he, del_same, new]
          · rw [del_ne he, upd_ne he, upd_ne hb, upd_ne he]
      have q := go dx ndx
      rw [← last] at q
      exact ⟨rv, mk_end (raises_own TX.isExc TX.ofType) I1 (Nat.le_succ _) keeps un ok2 same bare upd_same ((upd_ne ne).trans upd_same) ndx q⟩
section
variable {P : Program} {w : World} {K : PySem.W.Frag} {mg : Str → Option Value} {base : Heap} {x f q : Str} {st : Stmt} {up maker ini : String} {rows : List Value}
theorem EK.of {fd : FuncData} (SF : StoreFacts up rows "object.__setattr__" "object") (FB : ExcBaseFacts up maker ini rows) (gC : mg x = some (.ref (He.ga K x))) (e : etB K x f rows maker = true) (F : FunD K "__init__" q (defArgs (initOf st)) (defBody (initOf st)) (defScope (initOf st)) [] [] (He.ma K (He.ga K x) "__init__") fd)
    (S : FnScope (["self", f] : List Str) (["self", f] : List Str) (defScope (initOf st)))
    (bd : ∀ (kV doc pm : Value) (an : Option Addr) (cdv ct : Value) (us : List Value), us.length = 2 → bindArgs (PySem.W.fnOf "__init__" q (defArgs (initOf st)) (defBody (initOf st)) (defScope (initOf st)) .none kV doc pm an cdv ct) ⟨us, []⟩ = pure ((["self", f] : List Str).zip us))
    (bdk : ∀ (kV doc pm : Value) (an : Option Addr) (cdv ct : Value) (us ws : List Value), us.length = 1 → ws.length = 1 → bindArgs (PySem.W.fnOf "__init__" q (defArgs (initOf st)) (defBody (initOf st)) (defScope (initOf st)) .none kV doc pm an cdv ct) ⟨us, ([f] : List Str).zip ws⟩ = pure ((["self", f] : List Str).zip (us ++ ws)))
    (hb : ∀ X : Cx, X.N = (["self", f] : List Str) → X.env.scope = defScope (initOf st) → X.fn "self" = true → PSs X (defBody (initOf st)) (tSeq (tOne X.K f (tVar 0) (tVar 1)) tNext)) : EK P w K mg base x f := by
  have T : ET P w K mg base x f := ET.of SF FB gC e F S bd hb
  refine ⟨T, ?_⟩
  unfold etB at e
  simp only [Bool.and_eq_true, decide_eq_true_eq] at e
  obtain ⟨e1, e2, e3, e4, e5, e6, e7, e8, e9, e10, e11⟩ := e
  have ox : OexT K (He.ga K x) rows maker := ⟨e1, e2, e3, e4, e5, e6, e7⟩
  refine ⟨fd, F.ok S (fun vs H Q E z => ?_) fun cdv A outer s H vs Q E hr z => ?_, ?_⟩
  · obtain ⟨a, v, rfl, _⟩ := z
    rfl
  · obtain ⟨a, v, rfl, here, go⟩ := z
    have free : PySem.W.takerIn K (He.ga K x) f = some none := by
      unfold PySem.W.takerIn
      rw [e9]
      rfl
    exact ⟨_, hb _ rfl rfl rfl, _, rfl, _, rfl, a, _, up, maker, rows, rfl, SF, ox, free, here, go⟩
  · obtain ⟨oc, od, dV, kV, doc, pm, an, cdv, ct, osl, rfl, lk, hcd, hD, hK⟩ := F.ex
    rcases hD with ⟨_, rfl⟩ | ⟨z, _⟩
    · exact ⟨fun s us ws X1 l1 l2 => .of_eq (bdk kV doc pm an cdv ct us ws l1 l2), fun r1 r2 => Vals.append r1 r2⟩
    · exact absurd rfl z
end
/-! ### isinstance of a kept exception of any class -/
def rIsKA (K : PySem.W.Frag) : List V → Hp → VK → Prop := fun xs H Q => ∃ (D a : Addr) (d : Option Addr) (c : V) (cv : Value) (b : Bool) (fs : List (Str × V)), ExcC K D ∧ xs = [.ref a, c] ∧ H a = some (KeptO (.ref D) d a) ∧ (∀ u, RelV c u → u = cv) ∧ PySem.W.kitOne K (.ref D) cv = some b ∧ DicO d H fs ∧ Q (.bl b) H
theorem call_isKA {X : Cx} : CallR X (.builtin "isinstance") (rIsKA X.K) := by
  intro pins s σ H xs us Q I r h
  obtain ⟨D, a, d, c, cv, b, fs, C, e, h⟩ := h
  exact call_isK C pins s σ H xs us Q I r ⟨a, c, cv, b, fs, e, h⟩
/-! ### the same, told of K by its own name -/
theorem pmk_tA {X : Cx} {K : PySem.W.Frag} {x f : Str} {e : Expr} {ta : TA} {j : Nat} {p pos : Pos} (eK : X.K = K) (T : ET X.prog X.w X.K X.mg X.base x f) (hr : Room j X.A) (hj : 2 ≤ j) (hg : Gl X x) (ha : PA X [e] ta)
    (hdb : (x == ("__debug__" : Str)) = false := by decide) (he : starEach [e] X.env = (false, eval e X.env) :: starEach [] X.env := by rfl) (hpl : (backTo pos (starEach [] X.env)).any (·.1) = false := by rfl) : PMk X (.Call (.Name x p) [e] [] pos) (tMkE (He.ga K x) f ta) := by
  subst eK
  exact pmk_t T hr hj hg ha hdb he hpl
theorem pmk_tkA {X : Cx} {K : PySem.W.Frag} {x f : Str} {kws : List Keyword} {tk : TA} {j : Nat} {p pos : Pos} (eK : X.K = K) (T : EK X.prog X.w X.K X.mg X.base x f) (hr : Room j X.A) (hj : 2 ≤ j) (hg : Gl X x) (hkw : PK X kws tk)
    (hall : (backToKw pos (keywordEach kws X.env)).all (·.1.isSome) = true := by rfl) (hks : (backToKw pos (keywordEach kws X.env)).filterMap (·.1) = [f] := by rfl) (hdb : (x == ("__debug__" : Str)) = false := by decide)
    (hpl : ((backTo pos (starEach [] X.env)).any (·.1) || (backToKw pos (keywordEach kws X.env)).any (·.1.isNone)) = false := by rfl) : PMk X (.Call (.Name x p) [] kws pos) (tMkE (He.ga K x) f tk) := by
  subst eK
  exact pmk_tk T hr hj hg hkw hall hks hdb hpl
theorem pmk_0A {X : Cx} {K : PySem.W.Frag} {x : Str} {p pos : Pos} (eK : X.K = K) (T : E0C X.K X.mg x) (hg : Gl X x) (hdb : (x == ("__debug__" : Str)) = false := by decide) : PMk X (.Call (.Name x p) [] [] pos) (fun _ H Q => Q (.ref (He.ga K x)) none H) := by
  subst eK
  exact pmk_0 T hg hdb
end Lp
namespace Lp
open PySem PySem.Spec PyProof.Rows L2
section
variable {P : Program} {w : World} {K : PySem.W.Frag} {mg : Str → Option Value} {base : Heap}
/-! ### the cells of the script -/
abbrev s__law_cell : Stmt := top 40
abbrev N__law_cell : List Str := ["_law_script", "_law_k", "_law_state", "_law_figure"]
theorem sc__law_cell : FnScope N__law_cell ["_law_script", "_law_k"] (defScope s__law_cell) := ⟨rfl, rfl, rfl, by decide +kernel, rfl, by decide +kernel, by decide +kernel⟩
def spCell (K : PySem.W.Frag) : Sp := fun vs H Q _ => ∃ (l : Addr) (ns : List Int) (k : Nat), vs = [.ref l, .int (k : Nat)] ∧ SqL K H l (ns.map V.int) ∧ k ≤ 1000 ∧ ∀ (i : Int) (H' : Hp), Same H H' → Q (.int i) H'
theorem ok_cell (D : Df K mg "_law_cell" s__law_cell) (m_len : mg "len" = none) : Cl P w K mg base 1 "_law_cell" s__law_cell ["_law_script", "_law_k"] (spCell K) := by
  refine D.ok sc__law_cell (fun _ _ _ _ _ _ us hl => match us, hl with | [_, _], _ => rfl) (fun vs H Q E h => ?_) (fun f cdv A outer s H vs Q E hr h => ?_)
  · obtain ⟨l, ns, k, rfl, _⟩ := h
    rfl
  · obtain ⟨l, ns, k, rfl, hS, hk, q⟩ := h
    refine ⟨_, 
      (pss_cons (ps_if (pt_cmpR op_lt (pv 1) (pe_callB call_lenS (by rfl) m_len (by decide +kernel) (pa_cons (pv 0) pa_nil)) (nomark _)) (pss_one (ps_ret (pe_ix ix_list (pv 0) (pv 1) (fun _ _ => rfl)))) pss_nil) 
      (pss_cons (ps_set (i := 2) sc__law_cell.nd rfl (Or.inl rfl) (pe_op op_mod (pe_op op_mul pe_int (pe_op op_add (pe_op op_add (pe_op op_mul (pv 1) (pv 1)) (pe_op op_mul pe_int (pv 1))) pe_int)) pe_int)) 
      (pss_cons (ps_for PassesOwn.never rfl (pi_list (pe_slice sl_list (pv 0) po_none (po_some pe_int))) (pg_name (i := 3) sc__law_cell.nd rfl (Or.inl rfl)) (pss_one (ps_set (i := 2) sc__law_cell.nd rfl (Or.inl rfl) (pe_op op_mod (pe_op op_add (pe_op op_mul (pv 2) pe_int) (pv 3)) pe_int)))) 
      (pss_one (ps_ret (pv 2)))))), ?_⟩
    refine ⟨_, rfl, _, rfl, l, ns.map V.int, rfl, .inl hS, _, _, rfl, rfl, _, rfl, ite2 (fun e => ?_) (fun e => ?_)⟩
    · have lt : k < ns.length := by
        have e2 := of_decide_eq_true e
        rw [List.length_map] at e2
        omega
      have g : (ns.map V.int)[k]? = some (.int ns[k]) := by
        rw [List.getElem?_map, List.getElem?_eq_getElem lt]
        rfl
      exact ⟨_, rfl, _, rfl, l, _, _, _, rfl, rfl, hS, atI_nat g, q _ _ (Same.refl H)⟩
    · refine ⟨_, rfl, _, rfl, _, _, rfl, rfl, .inl ⟨by omega, by omega⟩, _, rfl, _, _, rfl, rfl, .inl ⟨by decide, by decide⟩, _, _, rfl, rfl, _, _, rfl, rfl, _, _, rfl, rfl, .inl ⟨by decide, by decide⟩, _, _, rfl, rfl, (by show (0 : Int) < 2147483399; decide), ?_⟩
      refine ⟨_, rfl, 3, rfl, l, ns.map V.int, rfl, hS, fun c nc => ?_⟩
      have sm : Same H (upd H c (.lst (cutV (ns.map V.int) none (some 3)))) := same_upd nc
      refine ⟨c, rfl, ⟨_, .inl (.inl upd_same)⟩, ?_⟩
      refine for_list (xs := cutV (ns.map V.int) none (some 3)) (fun i σ H2 => ∃ (z : Int) (y : Option V), σ = [some (.ref l), some (.int (k : Nat)), some (.int z), y] ∧ -(2 ^ 64) < z ∧ z < 2 ^ 64 ∧ H2 = upd H c (.lst (cutV (ns.map V.int) none (some 3))))
        ⟨_, none, rfl, ?_, ?_, rfl⟩ (fun i σ H2 _ h2 => ?_) (fun i x σ H2 hx h2 => ?_) (fun σ H2 h2 => ?_)
      · exact Int.lt_of_lt_of_le (by decide) (Int.emod_nonneg _ (by decide))
      · exact Int.lt_trans (Int.emod_lt_of_pos _ (by decide)) (by decide)
      · obtain ⟨z, y, _, _, _, rfl⟩ := h2
        exact .inl (.inl upd_same)
      · obtain ⟨z, y, rfl, h3, h4, rfl⟩ := h2
        have hm : x ∈ ns.map V.int := List.mem_of_mem_drop (List.mem_of_mem_take (List.mem_of_getElem? hx))
        obtain ⟨n, _, rfl⟩ := List.mem_map.mp hm
        refine ⟨_, rfl, _, _, rfl, rfl, .inl ⟨h3, h4⟩, _, rfl, _, _, rfl, rfl, _, _, rfl, rfl, (by show (0 : Int) < 2147483399; decide), ?_⟩
        refine ⟨_, some (.int n), rfl, ?_, ?_, rfl⟩
        · exact Int.lt_of_lt_of_le (by decide) (Int.emod_nonneg _ (by decide))
        · exact Int.lt_trans (Int.emod_lt_of_pos _ (by decide)) (by decide)
      · obtain ⟨z, y, rfl, h3, h4, rfl⟩ := h2
        exact ⟨_, rfl, q _ _ sm⟩
/-! ### the pool -/
abbrev s__law_pool : Stmt := top 41
abbrev N__law_pool : List Str := ["_law_figure", "_law_digits"]
theorem sc__law_pool : FnScope N__law_pool ["_law_figure"] (defScope s__law_pool) := ⟨rfl, rfl, rfl, by decide +kernel, rfl, by decide +kernel, by decide +kernel⟩
def spPool : Sp := fun vs H Q _ => ∃ n : Int, vs = [.int n] ∧ ∀ p H', Same H H' → H p = none → Pool H' p → Q (.ref p) H'
theorem ok_pool (D : Df K mg "_law_pool" s__law_pool) (m_abs : mg "abs" = none) : Cl P w K mg base 1 "_law_pool" s__law_pool ["_law_figure"] spPool := by
  refine D.ok sc__law_pool (fun _ _ _ _ _ _ us hl => match us, hl with | [_], _ => rfl) (fun vs H Q E h => ?_) (fun f cdv A outer s H vs Q E hr h => ?_)
  · obtain ⟨n, rfl, _⟩ := h
    rfl
  · obtain ⟨n, rfl, q⟩ := h
    have fin : ∀ d : Int, 0 ≤ d → ∀ p, H p = none → Q (.ref p) (upd H p (.lst [.int (n % 2147483399), .int d, .int 0])) := fun d hd p np =>
      q p _ (same_upd np) np ⟨_, d, 0, upd_same, Int.emod_nonneg _ (by decide), Int.emod_lt_of_pos _ (by decide), hd⟩
    refine ⟨_, 
      (pss_cons (ps_set (i := 1) sc__law_pool.nd rfl (Or.inl rfl) (pe_ifExp (PW.pt (pw_or (pt_cmpR op_lt (pv 0) pe_int (nomark _)) (pw_or1 (pt_cmpR op_ge (pv 0) (pe_op op_pow pe_int pe_int) (nomark _))))) (pe_callB call_abs (by rfl) m_abs (by decide +kernel) (pa_cons (pv 0) pa_nil)) pe_int)) 
      (pss_one (ps_ret (pe_lst (pa_cons (pe_op op_mod (pv 0) pe_int) (pa_cons (pv 1) (pa_cons pe_int pa_nil))))))), ?_⟩
    refine ⟨_, rfl, _, _, rfl, rfl, _, rfl, ?_⟩
    have three : ∀ d : Int, ([V.int (n % 2147483399), V.int d, V.int 0] : List V).length ≤ sizeLine := fun d => by
      show 3 ≤ sizeLine
      decide
    by_cases h0 : n < 0
    · rw [decide_eq_true h0]
      refine iteT (iteT ⟨_, rfl, _, rfl, _, rfl, _, _, rfl, rfl, (by show (0 : Int) < 2147483399; decide), _, rfl, three _, fun p np => fin _ ?_ p np⟩)
      rw [if_pos h0]
      omega
    · rw [decide_eq_false h0]
      refine iteF ⟨_, rfl, _, _, rfl, rfl, ⟨by decide, by decide, by decide⟩, _, _, rfl, rfl, _, rfl, ?_⟩
      refine ite2 (fun e => ?_) (fun e => ?_)
      · refine ⟨_, rfl, _, rfl, _, rfl, _, _, rfl, rfl, (by show (0 : Int) < 2147483399; decide), _, rfl, three _, fun p np => fin _ ?_ p np⟩
        rw [if_neg h0]
        omega
      · exact ⟨_, rfl, _, _, rfl, rfl, (by show (0 : Int) < 2147483399; decide), _, rfl, three _, fun p np => fin _ (Int.le_refl _) p np⟩
/-! ### a draw -/
abbrev s__law_draw : Stmt := top 42
abbrev N__law_draw : List Str := ["_law_pool_here", "_law_many", "_law_state", "_law_digit"]
theorem sc__law_draw : FnScope N__law_draw ["_law_pool_here", "_law_many"] (defScope s__law_draw) := ⟨rfl, rfl, rfl, by decide +kernel, rfl, by decide +kernel, by decide +kernel⟩
def spDraw : Sp := fun vs H Q _ => ∃ (a : Addr) (c : Int), vs = [.ref a, .int c] ∧ 1 ≤ c ∧ c ≤ 1000000 ∧ Pool H a ∧ ∀ (d : Int) (H' : Hp), 0 ≤ d → d < c → Kp a H H' → Pool H' a → Q (.int d) H'
theorem ok_draw (D : Df K mg "_law_draw" s__law_draw) (m_divmod : mg "divmod" = none) : Cl P w K mg base 1 "_law_draw" s__law_draw ["_law_pool_here", "_law_many"] spDraw := by
  refine D.ok sc__law_draw (fun _ _ _ _ _ _ us hl => match us, hl with | [_, _], _ => rfl) (fun vs H Q E h => ?_) (fun f cdv A outer s H vs Q E hr h => ?_)
  · obtain ⟨a, c, rfl, _⟩ := h
    rfl
  · obtain ⟨a, c, rfl, c1, c2, ⟨st, dg, n, ha, s0, s1, d0⟩, q⟩ := h
    refine ⟨_, 
      (pss_cons (ps_asg (pe_op op_add (pe_ix ix_list (pv 0) pe_int (fun _ _ => rfl)) pe_int) (pg_sub (pv 0) pe_int set_list)) 
      (pss_cons (ps_set (i := 2) sc__law_draw.nd rfl (Or.inl rfl) (pe_ix ix_list (pv 0) pe_int (fun _ _ => rfl))) 
      (pss_cons (ps_asg (pe_op op_mod (pe_op op_add (pe_op op_mul (pv 2) (pe_op op_add (pe_op op_mod (pv 2) pe_int) pe_int)) (pe_op op_mul pe_int (pe_ix ix_list (pv 0) pe_int (fun _ _ => rfl)))) pe_int) (pg_sub (pv 0) pe_int set_list)) 
      (pss_cons (ps_if (pt_cmpR op_gt (pe_ix ix_list (pv 0) pe_int (fun _ _ => rfl)) pe_int (nomark _)) (pss_cons (ps_asg (pe_callB call_divmodW (by rfl) m_divmod (by decide +kernel) (pa_cons (pe_ix ix_list (pv 0) pe_int (fun _ _ => rfl)) (pa_cons (pv 1) pa_nil))) (pg_tup (by rfl) (pgs_cons (pg_sub (pv 0) pe_int set_list) (pgs_cons (pg_name (i := 3) sc__law_draw.nd rfl (Or.inl rfl)) pgs_nil)))) (pss_one (ps_ret (pv 3)))) pss_nil) 
      (pss_one (ps_ret (pe_op op_mod (pe_op op_fdiv (pe_ix ix_list (pv 0) pe_int (fun _ _ => rfl)) pe_int) (pv 1)))))))), ?_⟩
    have at0 : ∀ x y z : V, atI [x, y, z] (0 : Int) = some x := fun _ _ _ => rfl
    have at1 : ∀ x y z : V, atI [x, y, z] (1 : Int) = some y := fun _ _ _ => rfl
    have at2 : ∀ x y z : V, atI [x, y, z] (2 : Int) = some z := fun _ _ _ => rfl
    refine ⟨_, rfl, a, _, 2, _, rfl, rfl, .inl (.inl ha), at2 _ _ _, _, _, rfl, rfl, ?_⟩
    refine ⟨_, rfl, a, _, 2, 2, rfl, rfl, ha, rfl, ?_⟩
    refine ⟨_, rfl, a, _, 0, _, rfl, rfl, .inl (.inl upd_same), at0 _ _ _, ?_⟩
    have b1 : 0 ≤ st % 40961 := Int.emod_nonneg _ (by decide)
    have b2 : st % 40961 < 40961 := Int.emod_lt_of_pos _ (by decide)
    refine ⟨_, rfl, _, rfl, _, _, rfl, rfl, (by show (0 : Int) < 40961; decide), _, _, rfl, rfl, _, _, rfl, rfl, .inl ⟨by omega, by omega⟩, ?_⟩
    refine ⟨_, rfl, a, _, 2, _, rfl, rfl, .inl (.inl upd_same), at2 _ _ _, _, _, rfl, rfl, .inl ⟨by decide, by decide⟩, _, _, rfl, rfl, _, _, rfl, rfl, (by show (0 : Int) < 2147483399; decide), ?_⟩
    refine ⟨_, rfl, a, _, 0, 0, rfl, rfl, upd_same, rfl, ?_⟩
    rw [upd_upd]
    refine ⟨_, rfl, a, _, 1, _, rfl, rfl, .inl (.inl upd_same), at1 _ _ _, _, _, rfl, rfl, _, rfl, ?_⟩
    have kp : ∀ xs, Kp a H (upd H a (.lst xs)) := fun xs b o e ne => by
      rw [upd_ne ne]
      exact e
    refine ite2 (fun e => ?_) (fun e => ?_)
    · refine ⟨_, rfl, a, _, 1, _, rfl, rfl, .inl (.inl upd_same), at1 _ _ _, _, rfl, dg, c, rfl, ⟨by omega, ?_⟩, fun p np => ?_⟩
      · exact small_div (by omega) (by omega)
      · have pa : p ≠ a := fun z => by
          subst z
          rw [upd_same] at np
          cases np
        refine ⟨p, _, rfl, .inl (.inl upd_same), rfl, _, _, rfl, _, rfl, a, _, 1, 1, rfl, rfl, (upd_ne pa.symm).trans upd_same, rfl, _, _, rfl, rfl, ?_⟩
        refine ⟨_, rfl, q _ _ (Int.emod_nonneg _ (by omega)) (Int.emod_lt_of_pos _ (by omega)) (fun b o eb ne => ?_) ⟨_, dg / c, n + 1, upd_same, Int.emod_nonneg _ (by decide), Int.emod_lt_of_pos _ (by decide), Int.ediv_nonneg d0 (by omega)⟩⟩
        have bp : b ≠ p := fun zz => by
          subst zz
          rw [upd_ne ne, eb] at np
          cases np
        rw [upd_ne ne, upd_ne bp, upd_ne ne]
        exact eb
    · refine ⟨_, rfl, a, _, 0, _, rfl, rfl, .inl (.inl upd_same), at0 _ _ _, _, _, rfl, rfl, ⟨by decide, by decide⟩, _, rfl, _, _, rfl, rfl, (by show 0 < c; omega), ?_⟩
      exact q _ _ (Int.emod_nonneg _ (by omega)) (Int.emod_lt_of_pos _ (by omega)) (kp _) ⟨_, dg, n + 1, upd_same, Int.emod_nonneg _ (by decide), Int.emod_lt_of_pos _ (by decide), d0⟩
end
section
/-! ### which of the error classes it is -/
structure SortOk (K : PySem.W.Frag) (x : Str) (i : Nat) : Prop where
  ec : ExcC K (He.ga K x)
  lt : i < 30
  is : ∀ (j : Nat) (y : Str), errL[j]? = some y → PySem.W.kitOne K (.ref (He.ga K x)) (.ref (He.ga K y)) = some (decide (i = j))
  b1 : PySem.W.kitOne K (.ref (He.ga K x)) (.ref (He.ga K "PassError")) = some (decide (i < 17))
  b2 : PySem.W.kitOne K (.ref (He.ga K x)) (.ref (He.ga K "FindError")) = some (decide (16 < i) && decide (i < 25))
  b3 : PySem.W.kitOne K (.ref (He.ga K x)) (.ref (He.ga K "LimitError")) = some (decide (24 < i))
  o1 : PySem.W.kitOne K (.ref (He.ga K x)) (.type "ValueError") = some (decide (i < 17))
  o2 : PySem.W.kitOne K (.ref (He.ga K x)) (.type "LookupError") = some (decide (16 < i) && decide (i < 25))
  o3 : PySem.W.kitOne K (.ref (He.ga K x)) (.type "ArithmeticError") = some (decide (24 < i))
theorem excCB_ok {K : PySem.W.Frag} {D : Addr} (h : excCB K D = true) : ExcC K D := by
  obtain ⟨h1, h⟩ := Bool.and_eq_true_iff.mp h
  obtain ⟨h2, h⟩ := Bool.and_eq_true_iff.mp h
  obtain ⟨h3, h⟩ := Bool.and_eq_true_iff.mp h
  obtain ⟨h4, h⟩ := Bool.and_eq_true_iff.mp h
  obtain ⟨h5, h⟩ := Bool.and_eq_true_iff.mp h
  obtain ⟨h6, h⟩ := Bool.and_eq_true_iff.mp h
  obtain ⟨h7, h8⟩ := Bool.and_eq_true_iff.mp h
  exact ⟨of_decide_eq_true h1, of_decide_eq_true h2, of_decide_eq_true h3, h4, of_decide_eq_true h5, of_decide_eq_true h6, of_decide_eq_true h7, of_decide_eq_true h8⟩
theorem sortB_ok {K : PySem.W.Frag} {x : Str} {i : Nat} (h : sortB K x i = true) : SortOk K x i := by
  obtain ⟨h1, h⟩ := Bool.and_eq_true_iff.mp h
  obtain ⟨h2, h⟩ := Bool.and_eq_true_iff.mp h
  obtain ⟨h3, h⟩ := Bool.and_eq_true_iff.mp h
  obtain ⟨h4, h⟩ := Bool.and_eq_true_iff.mp h
  obtain ⟨h5, h⟩ := Bool.and_eq_true_iff.mp h
  obtain ⟨h6, h⟩ := Bool.and_eq_true_iff.mp h
  obtain ⟨h7, h⟩ := Bool.and_eq_true_iff.mp h
  obtain ⟨h8, h9⟩ := Bool.and_eq_true_iff.mp h
  refine ⟨excCB_ok h1, of_decide_eq_true h2, fun j y hj => ?_, of_decide_eq_true h4, of_decide_eq_true h5, of_decide_eq_true h6, of_decide_eq_true h7, of_decide_eq_true h8, of_decide_eq_true h9⟩
  have lt : j < 30 := (List.getElem?_eq_some_iff.mp hj).1
  have z := of_decide_eq_true (List.all_eq_true.mp h3 j (List.mem_range.mpr lt))
  rw [List.getD_eq_getElem?_getD, hj] at z
  exact z
/-- the first n answers -/
def ksL (i n : Nat) : List V := (List.range n).map fun j => V.bl (decide (i = j))
theorem ksL_add (i n : Nat) : ksL i n ++ [V.bl (decide (i = n)), V.bl (decide (i = n + 1)), V.bl (decide (i = n + 2))] = ksL i (n + 3) := by
  unfold ksL
  simp [List.range_succ]
theorem ksL_len (i n : Nat) : (ksL i n).length = n := by simp [ksL]
theorem ksL_get {i n j : Nat} (h : j < n) : (ksL i n)[j]? = some (.bl (decide (i = j))) := by simp [ksL, h]
theorem ksL_flat (i n : Nat) : (ksL i n).all flatV = true := by simp [ksL, flatV]
theorem ksL_one {i n : Nat} (h : i < n) : ((ksL i n).countP fun z => eqV z (.bl true)) = 1 := by
  have go : ∀ m, ((ksL i m).countP fun z => eqV z (.bl true)) = if i < m then 1 else 0 := fun m => by
    induction m with
    | zero => rfl
    | succ m ih =>
      have e : ksL i (m + 1) = ksL i m ++ [V.bl (decide (i = m))] := by simp [ksL, List.range_succ]
      rw [e, List.countP_append, ih]
      by_cases h1 : i < m
      · rw [if_pos h1, if_pos (by omega), decide_eq_false (by omega)]
        rfl
      · rw [if_neg h1]
        by_cases h2 : i = m
        · rw [if_pos (by omega), decide_eq_true h2]
          rfl
        · rw [if_neg (by omega), decide_eq_false h2]
          rfl
  rw [go, if_pos h]
theorem Dp_b3 {K : PySem.W.Frag} {H : Hp} {l : Addr} {a b c : Bool} (h : SqL K H l [.bl a, .bl b, .bl c]) : Dp K H (.ref l) (.list [.bool a, .bool b, .bool c]) := .lst h (.cons (.bl a) (.cons (.bl b) (.cons (.bl c) .nil)))
theorem sh_b3 (a b c : Bool) : SeqAt.shaped (.list [.bool a, .bool b, .bool c]) = true := by cases a <;> cases b <;> cases c <;> decide +kernel
theorem eq_b3 (a b c : Bool) : PyData.eqv (.list [.bool a, .bool b, .bool c]) (.list [.bool a, .bool b, .bool c]) = true := by cases a <;> cases b <;> cases c <;> decide +kernel
variable {P : Program} {w : World} {K : PySem.W.Frag} {mg : Str → Option Value} {base : Heap}
abbrev s__law_sort : Stmt := top 43
abbrev N__law_sort : List Str := ["_law_e", "_law_sorts", "_law_bases", "_law_own", "_law_at"]
theorem sc__law_sort : FnScope N__law_sort ["_law_e"] (defScope s__law_sort) := ⟨rfl, rfl, rfl, by decide +kernel, rfl, by decide +kernel, by decide +kernel⟩
def spSortK (K : PySem.W.Frag) : Sp := fun vs H Q _ => ∃ (x : Str) (ae : Addr) (d : Option Addr) (fs : List (Str × V)) (i : Nat), vs = [.ref ae] ∧ H ae = some (KeptO (.ref (He.ga K x)) d ae) ∧ DicO d H fs ∧ SortOk K x i ∧ ∀ H', Same H H' → Q (.int ((i : Nat) : Int)) H'
structure ErrG (K : PySem.W.Frag) (mg : Str → Option Value) : Prop where
  at_ : ∀ y ∈ errL ++ (["PassError", "FindError", "LimitError"] : List Str), mg y = some (.ref (He.ga K y))
theorem ok_sortk (D : Df K mg "_law_sort" s__law_sort) (G : ErrG K mg) (m_isinstance : mg "isinstance" = none) (m_ValueError : mg "ValueError" = none) (m_LookupError : mg "LookupError" = none) (m_ArithmeticError : mg "ArithmeticError" = none) : Cl P w K mg base 1 "_law_sort" s__law_sort ["_law_e"] (spSortK K) := by
  refine D.ok sc__law_sort (fun _ _ _ _ _ _ us hl => match us, hl with | [_], _ => rfl) (fun vs H Q E h => ?_) (fun f cdv A outer s H vs Q E hr h => ?_)
  · obtain ⟨x, ae, d, fs, i, rfl, _⟩ := h
    rfl
  · obtain ⟨x, ae, d, fs, i, rfl, hx, hd, so, q⟩ := h
    have g_InvalidRow := G.at_ "InvalidRow" (by decide +kernel)
    have g_InvalidNumber := G.at_ "InvalidNumber" (by decide +kernel)
    have g_InvalidKind := G.at_ "InvalidKind" (by decide +kernel)
    have g_InvalidWord := G.at_ "InvalidWord" (by decide +kernel)
    have g_InvalidSize := G.at_ "InvalidSize" (by decide +kernel)
    have g_InvalidProgram := G.at_ "InvalidProgram" (by decide +kernel)
    have g_InvalidText := G.at_ "InvalidText" (by decide +kernel)
    have g_InvalidHeights := G.at_ "InvalidHeights" (by decide +kernel)
    have g_InvalidWishes := G.at_ "InvalidWishes" (by decide +kernel)
    have g_InvalidRecord := G.at_ "InvalidRecord" (by decide +kernel)
    have g_InvalidPattern := G.at_ "InvalidPattern" (by decide +kernel)
    have g_InvalidShare := G.at_ "InvalidShare" (by decide +kernel)
    have g_InvalidPeople := G.at_ "InvalidPeople" (by decide +kernel)
    have g_InvalidName := G.at_ "InvalidName" (by decide +kernel)
    have g_InvalidHeight := G.at_ "InvalidHeight" (by decide +kernel)
    have g_InvalidDeed := G.at_ "InvalidDeed" (by decide +kernel)
    have g_InvalidCommand := G.at_ "InvalidCommand" (by decide +kernel)
    have g_NotFinal := G.at_ "NotFinal" (by decide +kernel)
    have g_OtherPersons := G.at_ "OtherPersons" (by decide +kernel)
    have g_UnknownName := G.at_ "UnknownName" (by decide +kernel)
    have g_UnknownHeight := G.at_ "UnknownHeight" (by decide +kernel)
    have g_NoOrder := G.at_ "NoOrder" (by decide +kernel)
    have g_NameTaken := G.at_ "NameTaken" (by decide +kernel)
    have g_HeightTaken := G.at_ "HeightTaken" (by decide +kernel)
    have g_NothingToUndo := G.at_ "NothingToUndo" (by decide +kernel)
    have g_TooManySeats := G.at_ "TooManySeats" (by decide +kernel)
    have g_TooManyPeople := G.at_ "TooManyPeople" (by decide +kernel)
    have g_WordTooShort := G.at_ "WordTooShort" (by decide +kernel)
    have g_TooManyDeeds := G.at_ "TooManyDeeds" (by decide +kernel)
    have g_LastPerson := G.at_ "LastPerson" (by decide +kernel)
    have g_PassError := G.at_ "PassError" (by decide +kernel)
    have g_FindError := G.at_ "FindError" (by decide +kernel)
    have g_LimitError := G.at_ "LimitError" (by decide +kernel)
    refine ⟨_, 
      (pss_cons (ps_set (i := 1) sc__law_sort.nd rfl (Or.inl rfl) (pe_lst (pa_cons (pe_callB (call_isK (D := He.ga K x) (d := d) so.ec) (by rfl) m_isinstance (by decide +kernel) (pa_cons (pv 0) (pa_cons (pe_glob (v := .ref (He.ga K "InvalidRow")) (by rfl) g_InvalidRow rfl) pa_nil))) (pa_cons (pe_callB (call_isK (D := He.ga K x) (d := d) so.ec) (by rfl) m_isinstance (by decide +kernel) (pa_cons (pv 0) (pa_cons (pe_glob (v := .ref (He.ga K "InvalidNumber")) (by rfl) g_InvalidNumber rfl) pa_nil))) (pa_cons (pe_callB (call_isK (D := He.ga K x) (d := d) so.ec) (by rfl) m_isinstance (by decide +kernel) (pa_cons (pv 0) (pa_cons (pe_glob (v := .ref (He.ga K "InvalidKind")) (by rfl) g_InvalidKind rfl) pa_nil))) pa_nil))))) 
      (pss_cons (ps_set (i := 1) sc__law_sort.nd rfl (Or.inl rfl) (pe_op op_cat (pv 1) (pe_lst (pa_cons (pe_callB (call_isK (D := He.ga K x) (d := d) so.ec) (by rfl) m_isinstance (by decide +kernel) (pa_cons (pv 0) (pa_cons (pe_glob (v := .ref (He.ga K "InvalidWord")) (by rfl) g_InvalidWord rfl) pa_nil))) (pa_cons (pe_callB (call_isK (D := He.ga K x) (d := d) so.ec) (by rfl) m_isinstance (by decide +kernel) (pa_cons (pv 0) (pa_cons (pe_glob (v := .ref (He.ga K "InvalidSize")) (by rfl) g_InvalidSize rfl) pa_nil))) (pa_cons (pe_callB (call_isK (D := He.ga K x) (d := d) so.ec) (by rfl) m_isinstance (by decide +kernel) (pa_cons (pv 0) (pa_cons (pe_glob (v := .ref (He.ga K "InvalidProgram")) (by rfl) g_InvalidProgram rfl) pa_nil))) pa_nil)))))) 
      (pss_cons (ps_set (i := 1) sc__law_sort.nd rfl (Or.inl rfl) (pe_op op_cat (pv 1) (pe_lst (pa_cons (pe_callB (call_isK (D := He.ga K x) (d := d) so.ec) (by rfl) m_isinstance (by decide +kernel) (pa_cons (pv 0) (pa_cons (pe_glob (v := .ref (He.ga K "InvalidText")) (by rfl) g_InvalidText rfl) pa_nil))) (pa_cons (pe_callB (call_isK (D := He.ga K x) (d := d) so.ec) (by rfl) m_isinstance (by decide +kernel) (pa_cons (pv 0) (pa_cons (pe_glob (v := .ref (He.ga K "InvalidHeights")) (by rfl) g_InvalidHeights rfl) pa_nil))) (pa_cons (pe_callB (call_isK (D := He.ga K x) (d := d) so.ec) (by rfl) m_isinstance (by decide +kernel) (pa_cons (pv 0) (pa_cons (pe_glob (v := .ref (He.ga K "InvalidWishes")) (by rfl) g_InvalidWishes rfl) pa_nil))) pa_nil)))))) 
      (pss_cons (ps_set (i := 1) sc__law_sort.nd rfl (Or.inl rfl) (pe_op op_cat (pv 1) (pe_lst (pa_cons (pe_callB (call_isK (D := He.ga K x) (d := d) so.ec) (by rfl) m_isinstance (by decide +kernel) (pa_cons (pv 0) (pa_cons (pe_glob (v := .ref (He.ga K "InvalidRecord")) (by rfl) g_InvalidRecord rfl) pa_nil))) (pa_cons (pe_callB (call_isK (D := He.ga K x) (d := d) so.ec) (by rfl) m_isinstance (by decide +kernel) (pa_cons (pv 0) (pa_cons (pe_glob (v := .ref (He.ga K "InvalidPattern")) (by rfl) g_InvalidPattern rfl) pa_nil))) (pa_cons (pe_callB (call_isK (D := He.ga K x) (d := d) so.ec) (by rfl) m_isinstance (by decide +kernel) (pa_cons (pv 0) (pa_cons (pe_glob (v := .ref (He.ga K "InvalidShare")) (by rfl) g_InvalidShare rfl) pa_nil))) pa_nil)))))) 
      (pss_cons (ps_set (i := 1) sc__law_sort.nd rfl (Or.inl rfl) (pe_op op_cat (pv 1) (pe_lst (pa_cons (pe_callB (call_isK (D := He.ga K x) (d := d) so.ec) (by rfl) m_isinstance (by decide +kernel) (pa_cons (pv 0) (pa_cons (pe_glob (v := .ref (He.ga K "InvalidPeople")) (by rfl) g_InvalidPeople rfl) pa_nil))) (pa_cons (pe_callB (call_isK (D := He.ga K x) (d := d) so.ec) (by rfl) m_isinstance (by decide +kernel) (pa_cons (pv 0) (pa_cons (pe_glob (v := .ref (He.ga K "InvalidName")) (by rfl) g_InvalidName rfl) pa_nil))) (pa_cons (pe_callB (call_isK (D := He.ga K x) (d := d) so.ec) (by rfl) m_isinstance (by decide +kernel) (pa_cons (pv 0) (pa_cons (pe_glob (v := .ref (He.ga K "InvalidHeight")) (by rfl) g_InvalidHeight rfl) pa_nil))) pa_nil)))))) 
      (pss_cons (ps_set (i := 1) sc__law_sort.nd rfl (Or.inl rfl) (pe_op op_cat (pv 1) (pe_lst (pa_cons (pe_callB (call_isK (D := He.ga K x) (d := d) so.ec) (by rfl) m_isinstance (by decide +kernel) (pa_cons (pv 0) (pa_cons (pe_glob (v := .ref (He.ga K "InvalidDeed")) (by rfl) g_InvalidDeed rfl) pa_nil))) (pa_cons (pe_callB (call_isK (D := He.ga K x) (d := d) so.ec) (by rfl) m_isinstance (by decide +kernel) (pa_cons (pv 0) (pa_cons (pe_glob (v := .ref (He.ga K "InvalidCommand")) (by rfl) g_InvalidCommand rfl) pa_nil))) (pa_cons (pe_callB (call_isK (D := He.ga K x) (d := d) so.ec) (by rfl) m_isinstance (by decide +kernel) (pa_cons (pv 0) (pa_cons (pe_glob (v := .ref (He.ga K "NotFinal")) (by rfl) g_NotFinal rfl) pa_nil))) pa_nil)))))) 
      (pss_cons (ps_set (i := 1) sc__law_sort.nd rfl (Or.inl rfl) (pe_op op_cat (pv 1) (pe_lst (pa_cons (pe_callB (call_isK (D := He.ga K x) (d := d) so.ec) (by rfl) m_isinstance (by decide +kernel) (pa_cons (pv 0) (pa_cons (pe_glob (v := .ref (He.ga K "OtherPersons")) (by rfl) g_OtherPersons rfl) pa_nil))) (pa_cons (pe_callB (call_isK (D := He.ga K x) (d := d) so.ec) (by rfl) m_isinstance (by decide +kernel) (pa_cons (pv 0) (pa_cons (pe_glob (v := .ref (He.ga K "UnknownName")) (by rfl) g_UnknownName rfl) pa_nil))) (pa_cons (pe_callB (call_isK (D := He.ga K x) (d := d) so.ec) (by rfl) m_isinstance (by decide +kernel) (pa_cons (pv 0) (pa_cons (pe_glob (v := .ref (He.ga K "UnknownHeight")) (by rfl) g_UnknownHeight rfl) pa_nil))) pa_nil)))))) 
      (pss_cons (ps_set (i := 1) sc__law_sort.nd rfl (Or.inl rfl) (pe_op op_cat (pv 1) (pe_lst (pa_cons (pe_callB (call_isK (D := He.ga K x) (d := d) so.ec) (by rfl) m_isinstance (by decide +kernel) (pa_cons (pv 0) (pa_cons (pe_glob (v := .ref (He.ga K "NoOrder")) (by rfl) g_NoOrder rfl) pa_nil))) (pa_cons (pe_callB (call_isK (D := He.ga K x) (d := d) so.ec) (by rfl) m_isinstance (by decide +kernel) (pa_cons (pv 0) (pa_cons (pe_glob (v := .ref (He.ga K "NameTaken")) (by rfl) g_NameTaken rfl) pa_nil))) (pa_cons (pe_callB (call_isK (D := He.ga K x) (d := d) so.ec) (by rfl) m_isinstance (by decide +kernel) (pa_cons (pv 0) (pa_cons (pe_glob (v := .ref (He.ga K "HeightTaken")) (by rfl) g_HeightTaken rfl) pa_nil))) pa_nil)))))) 
      (pss_cons (ps_set (i := 1) sc__law_sort.nd rfl (Or.inl rfl) (pe_op op_cat (pv 1) (pe_lst (pa_cons (pe_callB (call_isK (D := He.ga K x) (d := d) so.ec) (by rfl) m_isinstance (by decide +kernel) (pa_cons (pv 0) (pa_cons (pe_glob (v := .ref (He.ga K "NothingToUndo")) (by rfl) g_NothingToUndo rfl) pa_nil))) (pa_cons (pe_callB (call_isK (D := He.ga K x) (d := d) so.ec) (by rfl) m_isinstance (by decide +kernel) (pa_cons (pv 0) (pa_cons (pe_glob (v := .ref (He.ga K "TooManySeats")) (by rfl) g_TooManySeats rfl) pa_nil))) (pa_cons (pe_callB (call_isK (D := He.ga K x) (d := d) so.ec) (by rfl) m_isinstance (by decide +kernel) (pa_cons (pv 0) (pa_cons (pe_glob (v := .ref (He.ga K "TooManyPeople")) (by rfl) g_TooManyPeople rfl) pa_nil))) pa_nil)))))) 
      (pss_cons (ps_set (i := 1) sc__law_sort.nd rfl (Or.inl rfl) (pe_op op_cat (pv 1) (pe_lst (pa_cons (pe_callB (call_isK (D := He.ga K x) (d := d) so.ec) (by rfl) m_isinstance (by decide +kernel) (pa_cons (pv 0) (pa_cons (pe_glob (v := .ref (He.ga K "WordTooShort")) (by rfl) g_WordTooShort rfl) pa_nil))) (pa_cons (pe_callB (call_isK (D := He.ga K x) (d := d) so.ec) (by rfl) m_isinstance (by decide +kernel) (pa_cons (pv 0) (pa_cons (pe_glob (v := .ref (He.ga K "TooManyDeeds")) (by rfl) g_TooManyDeeds rfl) pa_nil))) (pa_cons (pe_callB (call_isK (D := He.ga K x) (d := d) so.ec) (by rfl) m_isinstance (by decide +kernel) (pa_cons (pv 0) (pa_cons (pe_glob (v := .ref (He.ga K "LastPerson")) (by rfl) g_LastPerson rfl) pa_nil))) pa_nil)))))) 
      (pss_cons (ps_set (i := 2) sc__law_sort.nd rfl (Or.inl rfl) (pe_lst (pa_cons (pe_callB (call_isK (D := He.ga K x) (d := d) so.ec) (by rfl) m_isinstance (by decide +kernel) (pa_cons (pv 0) (pa_cons (pe_glob (v := .ref (He.ga K "PassError")) (by rfl) g_PassError rfl) pa_nil))) (pa_cons (pe_callB (call_isK (D := He.ga K x) (d := d) so.ec) (by rfl) m_isinstance (by decide +kernel) (pa_cons (pv 0) (pa_cons (pe_glob (v := .ref (He.ga K "FindError")) (by rfl) g_FindError rfl) pa_nil))) (pa_cons (pe_callB (call_isK (D := He.ga K x) (d := d) so.ec) (by rfl) m_isinstance (by decide +kernel) (pa_cons (pv 0) (pa_cons (pe_glob (v := .ref (He.ga K "LimitError")) (by rfl) g_LimitError rfl) pa_nil))) pa_nil))))) 
      (pss_cons (ps_set (i := 3) sc__law_sort.nd rfl (Or.inl rfl) (pe_lst (pa_cons (pe_callB (call_isK (D := He.ga K x) (d := d) so.ec) (by rfl) m_isinstance (by decide +kernel) (pa_cons (pv 0) (pa_cons (pe_bltn (v := .ty "ValueError") (by rfl) m_ValueError (by decide +kernel) rfl) pa_nil))) (pa_cons (pe_callB (call_isK (D := He.ga K x) (d := d) so.ec) (by rfl) m_isinstance (by decide +kernel) (pa_cons (pv 0) (pa_cons (pe_bltn (v := .ty "LookupError") (by rfl) m_LookupError (by decide +kernel) rfl) pa_nil))) (pa_cons (pe_callB (call_isK (D := He.ga K x) (d := d) so.ec) (by rfl) m_isinstance (by decide +kernel) (pa_cons (pv 0) (pa_cons (pe_bltn (v := .ty "ArithmeticError") (by rfl) m_ArithmeticError (by decide +kernel) rfl) pa_nil))) pa_nil))))) 
      (pss_cons (ps_if (PW.pt (pw_or (pt_cmpR op_ne (pe_bm PySem.F.plainAttrs_list PySem.F.slot_list_count PySem.F.type_list_count mt_fcount (pv 1) (pa_cons pe_bl pa_nil)) pe_int (nomark _)) (pw_or1 (pt_cmpR (op_neD hr.units) (pv 3) (pv 2) (nomark _))))) (pss_one (ps_ret (pe_op op_sub pe_int pe_int))) pss_nil) 
      (pss_cons (ps_set (i := 4) sc__law_sort.nd rfl (Or.inl rfl) (pe_bm PySem.F.plainAttrs_list PySem.F.slot_list_index PySem.F.type_list_index mt_index (pv 1) (pa_cons pe_bl pa_nil))) 
      (pss_one (ps_ret (pe_ifExp (pt_cmpR (op_eqD hr.units) (pv 2) (pe_lst (pa_cons (pe_cmpR op_lt (pv 4) pe_int (nomark _)) (pa_cons (pe_chain op_lt op_lt pe_int (pv 4) pe_int) (pa_cons (pe_cmpR op_gt (pv 4) pe_int (nomark _)) pa_nil)))) (nomark _)) (pv 4) (pe_op op_sub pe_int pe_int)))))))))))))))))), ?_⟩
    have isa : ∀ (j : Nat) (y : Str), errL[j]? = some y → PySem.W.kitOne K (.ref (He.ga K x)) (.ref (He.ga K y)) = some (decide (i = j)) := so.is
    have sA : Same H H := Same.refl H
    refine ⟨_, rfl, ae, _, _, _, fs, rfl, hx, (fun _ r => r), isa 0 _ rfl, hd, ?_⟩
    refine ⟨_, rfl, ae, _, _, _, fs, rfl, hx, (fun _ r => r), isa 1 _ rfl, hd, ?_⟩
    refine ⟨_, rfl, ae, _, _, _, fs, rfl, hx, (fun _ r => r), isa 2 _ rfl, hd, ?_⟩
    refine ⟨(by show 3 ≤ sizeLine; decide), fun a0 na0 => ?_⟩
    have sa0 := same_upd (o := .lst [.bl (decide (i = 0)), .bl (decide (i = 1)), .bl (decide (i = 2))]) na0
    have ha0 : upd H a0 (.lst [.bl (decide (i = 0)), .bl (decide (i = 1)), .bl (decide (i = 2))]) a0 = some (.lst [.bl (decide (i = 0)), .bl (decide (i = 1)), .bl (decide (i = 2))]) := upd_same
    generalize upd H a0 (.lst [.bl (decide (i = 0)), .bl (decide (i = 1)), .bl (decide (i = 2))]) = G0 at sa0 ha0 ⊢
    replace hd := hd.same sa0
    replace hx := sa0 _ _ hx
    replace sA := sA.trans sa0
    replace ha0 : G0 a0 = some (.lst (ksL i 3)) := ha0
    have hk0 := ha0
    refine ⟨_, rfl, ?_⟩
    refine ⟨_, rfl, ae, _, _, _, fs, rfl, hx, (fun _ r => r), isa 3 _ rfl, hd, ?_⟩
    refine ⟨_, rfl, ae, _, _, _, fs, rfl, hx, (fun _ r => r), isa 4 _ rfl, hd, ?_⟩
    refine ⟨_, rfl, ae, _, _, _, fs, rfl, hx, (fun _ r => r), isa 5 _ rfl, hd, ?_⟩
    refine ⟨(by show 3 ≤ sizeLine; decide), fun a1 na1 => ?_⟩
    have sa1 := same_upd (o := .lst [.bl (decide (i = 3)), .bl (decide (i = 4)), .bl (decide (i = 5))]) na1
    have ha1 : upd G0 a1 (.lst [.bl (decide (i = 3)), .bl (decide (i = 4)), .bl (decide (i = 5))]) a1 = some (.lst [.bl (decide (i = 3)), .bl (decide (i = 4)), .bl (decide (i = 5))]) := upd_same
    generalize upd G0 a1 (.lst [.bl (decide (i = 3)), .bl (decide (i = 4)), .bl (decide (i = 5))]) = G1 at sa1 ha1 ⊢
    replace hd := hd.same sa1
    replace hx := sa1 _ _ hx
    replace sA := sA.trans sa1
    refine ⟨a0, a1, _, _, rfl, rfl, sa1 _ _ hk0, ha1, (by rw [ksL_len]; show 3 + 3 ≤ sizeLine; decide), fun k1 nk1 => ?_⟩
    have sk1 := same_upd (o := .lst (ksL i 3 ++ [.bl (decide (i = 3)), .bl (decide (i = 4)), .bl (decide (i = 5))])) nk1
    have hk1 : upd G1 k1 (.lst (ksL i 3 ++ [.bl (decide (i = 3)), .bl (decide (i = 4)), .bl (decide (i = 5))])) k1 = some (.lst (ksL i 6)) := by rw [upd_same, ksL_add]
    generalize upd G1 k1 (.lst (ksL i 3 ++ [.bl (decide (i = 3)), .bl (decide (i = 4)), .bl (decide (i = 5))])) = G2 at sk1 hk1 ⊢
    replace hd := hd.same sk1
    replace hx := sk1 _ _ hx
    replace sA := sA.trans sk1
    refine ⟨_, rfl, ?_⟩
    refine ⟨_, rfl, ae, _, _, _, fs, rfl, hx, (fun _ r => r), isa 6 _ rfl, hd, ?_⟩
    refine ⟨_, rfl, ae, _, _, _, fs, rfl, hx, (fun _ r => r), isa 7 _ rfl, hd, ?_⟩
    refine ⟨_, rfl, ae, _, _, _, fs, rfl, hx, (fun _ r => r), isa 8 _ rfl, hd, ?_⟩
    refine ⟨(by show 3 ≤ sizeLine; decide), fun a2 na2 => ?_⟩
    have sa2 := same_upd (o := .lst [.bl (decide (i = 6)), .bl (decide (i = 7)), .bl (decide (i = 8))]) na2
    have ha2 : upd G2 a2 (.lst [.bl (decide (i = 6)), .bl (decide (i = 7)), .bl (decide (i = 8))]) a2 = some (.lst [.bl (decide (i = 6)), .bl (decide (i = 7)), .bl (decide (i = 8))]) := upd_same
    generalize upd G2 a2 (.lst [.bl (decide (i = 6)), .bl (decide (i = 7)), .bl (decide (i = 8))]) = G3 at sa2 ha2 ⊢
    replace hd := hd.same sa2
    replace hx := sa2 _ _ hx
    replace sA := sA.trans sa2
    refine ⟨k1, a2, _, _, rfl, rfl, sa2 _ _ hk1, ha2, (by rw [ksL_len]; show 6 + 3 ≤ sizeLine; decide), fun k2 nk2 => ?_⟩
    have sk2 := same_upd (o := .lst (ksL i 6 ++ [.bl (decide (i = 6)), .bl (decide (i = 7)), .bl (decide (i = 8))])) nk2
    have hk2 : upd G3 k2 (.lst (ksL i 6 ++ [.bl (decide (i = 6)), .bl (decide (i = 7)), .bl (decide (i = 8))])) k2 = some (.lst (ksL i 9)) := by rw [upd_same, ksL_add]
    generalize upd G3 k2 (.lst (ksL i 6 ++ [.bl (decide (i = 6)), .bl (decide (i = 7)), .bl (decide (i = 8))])) = G4 at sk2 hk2 ⊢
    replace hd := hd.same sk2
    replace hx := sk2 _ _ hx
    replace sA := sA.trans sk2
    refine ⟨_, rfl, ?_⟩
    refine ⟨_, rfl, ae, _, _, _, fs, rfl, hx, (fun _ r => r), isa 9 _ rfl, hd, ?_⟩
    refine ⟨_, rfl, ae, _, _, _, fs, rfl, hx, (fun _ r => r), isa 10 _ rfl, hd, ?_⟩
    refine ⟨_, rfl, ae, _, _, _, fs, rfl, hx, (fun _ r => r), isa 11 _ rfl, hd, ?_⟩
    refine ⟨(by show 3 ≤ sizeLine; decide), fun a3 na3 => ?_⟩
    have sa3 := same_upd (o := .lst [.bl (decide (i = 9)), .bl (decide (i = 10)), .bl (decide (i = 11))]) na3
    have ha3 : upd G4 a3 (.lst [.bl (decide (i = 9)), .bl (decide (i = 10)), .bl (decide (i = 11))]) a3 = some (.lst [.bl (decide (i = 9)), .bl (decide (i = 10)), .bl (decide (i = 11))]) := upd_same
    generalize upd G4 a3 (.lst [.bl (decide (i = 9)), .bl (decide (i = 10)), .bl (decide (i = 11))]) = G5 at sa3 ha3 ⊢
    replace hd := hd.same sa3
    replace hx := sa3 _ _ hx
    replace sA := sA.trans sa3
    refine ⟨k2, a3, _, _, rfl, rfl, sa3 _ _ hk2, ha3, (by rw [ksL_len]; show 9 + 3 ≤ sizeLine; decide), fun k3 nk3 => ?_⟩
    have sk3 := same_upd (o := .lst (ksL i 9 ++ [.bl (decide (i = 9)), .bl (decide (i = 10)), .bl (decide (i = 11))])) nk3
    have hk3 : upd G5 k3 (.lst (ksL i 9 ++ [.bl (decide (i = 9)), .bl (decide (i = 10)), .bl (decide (i = 11))])) k3 = some (.lst (ksL i 12)) := by rw [upd_same, ksL_add]
    generalize upd G5 k3 (.lst (ksL i 9 ++ [.bl (decide (i = 9)), .bl (decide (i = 10)), .bl (decide (i = 11))])) = G6 at sk3 hk3 ⊢
    replace hd := hd.same sk3
    replace hx := sk3 _ _ hx
    replace sA := sA.trans sk3
    refine ⟨_, rfl, ?_⟩
    refine ⟨_, rfl, ae, _, _, _, fs, rfl, hx, (fun _ r => r), isa 12 _ rfl, hd, ?_⟩
    refine ⟨_, rfl, ae, _, _, _, fs, rfl, hx, (fun _ r => r), isa 13 _ rfl, hd, ?_⟩
    refine ⟨_, rfl, ae, _, _, _, fs, rfl, hx, (fun _ r => r), isa 14 _ rfl, hd, ?_⟩
    refine ⟨(by show 3 ≤ sizeLine; decide), fun a4 na4 => ?_⟩
    have sa4 := same_upd (o := .lst [.bl (decide (i = 12)), .bl (decide (i = 13)), .bl (decide (i = 14))]) na4
    have ha4 : upd G6 a4 (.lst [.bl (decide (i = 12)), .bl (decide (i = 13)), .bl (decide (i = 14))]) a4 = some (.lst [.bl (decide (i = 12)), .bl (decide (i = 13)), .bl (decide (i = 14))]) := upd_same
    generalize upd G6 a4 (.lst [.bl (decide (i = 12)), .bl (decide (i = 13)), .bl (decide (i = 14))]) = G7 at sa4 ha4 ⊢
    replace hd := hd.same sa4
    replace hx := sa4 _ _ hx
    replace sA := sA.trans sa4
    refine ⟨k3, a4, _, _, rfl, rfl, sa4 _ _ hk3, ha4, (by rw [ksL_len]; show 12 + 3 ≤ sizeLine; decide), fun k4 nk4 => ?_⟩
    have sk4 := same_upd (o := .lst (ksL i 12 ++ [.bl (decide (i = 12)), .bl (decide (i = 13)), .bl (decide (i = 14))])) nk4
    have hk4 : upd G7 k4 (.lst (ksL i 12 ++ [.bl (decide (i = 12)), .bl (decide (i = 13)), .bl (decide (i = 14))])) k4 = some (.lst (ksL i 15)) := by rw [upd_same, ksL_add]
    generalize upd G7 k4 (.lst (ksL i 12 ++ [.bl (decide (i = 12)), .bl (decide (i = 13)), .bl (decide (i = 14))])) = G8 at sk4 hk4 ⊢
    replace hd := hd.same sk4
    replace hx := sk4 _ _ hx
    replace sA := sA.trans sk4
    refine ⟨_, rfl, ?_⟩
    refine ⟨_, rfl, ae, _, _, _, fs, rfl, hx, (fun _ r => r), isa 15 _ rfl, hd, ?_⟩
    refine ⟨_, rfl, ae, _, _, _, fs, rfl, hx, (fun _ r => r), isa 16 _ rfl, hd, ?_⟩
    refine ⟨_, rfl, ae, _, _, _, fs, rfl, hx, (fun _ r => r), isa 17 _ rfl, hd, ?_⟩
    refine ⟨(by show 3 ≤ sizeLine; decide), fun a5 na5 => ?_⟩
    have sa5 := same_upd (o := .lst [.bl (decide (i = 15)), .bl (decide (i = 16)), .bl (decide (i = 17))]) na5
    have ha5 : upd G8 a5 (.lst [.bl (decide (i = 15)), .bl (decide (i = 16)), .bl (decide (i = 17))]) a5 = some (.lst [.bl (decide (i = 15)), .bl (decide (i = 16)), .bl (decide (i = 17))]) := upd_same
    generalize upd G8 a5 (.lst [.bl (decide (i = 15)), .bl (decide (i = 16)), .bl (decide (i = 17))]) = G9 at sa5 ha5 ⊢
    replace hd := hd.same sa5
    replace hx := sa5 _ _ hx
    replace sA := sA.trans sa5
    refine ⟨k4, a5, _, _, rfl, rfl, sa5 _ _ hk4, ha5, (by rw [ksL_len]; show 15 + 3 ≤ sizeLine; decide), fun k5 nk5 => ?_⟩
    have sk5 := same_upd (o := .lst (ksL i 15 ++ [.bl (decide (i = 15)), .bl (decide (i = 16)), .bl (decide (i = 17))])) nk5
    have hk5 : upd G9 k5 (.lst (ksL i 15 ++ [.bl (decide (i = 15)), .bl (decide (i = 16)), .bl (decide (i = 17))])) k5 = some (.lst (ksL i 18)) := by rw [upd_same, ksL_add]
    generalize upd G9 k5 (.lst (ksL i 15 ++ [.bl (decide (i = 15)), .bl (decide (i = 16)), .bl (decide (i = 17))])) = G10 at sk5 hk5 ⊢
    replace hd := hd.same sk5
    replace hx := sk5 _ _ hx
    replace sA := sA.trans sk5
    refine ⟨_, rfl, ?_⟩
    refine ⟨_, rfl, ae, _, _, _, fs, rfl, hx, (fun _ r => r), isa 18 _ rfl, hd, ?_⟩
    refine ⟨_, rfl, ae, _, _, _, fs, rfl, hx, (fun _ r => r), isa 19 _ rfl, hd, ?_⟩
    refine ⟨_, rfl, ae, _, _, _, fs, rfl, hx, (fun _ r => r), isa 20 _ rfl, hd, ?_⟩
    refine ⟨(by show 3 ≤ sizeLine; decide), fun a6 na6 => ?_⟩
    have sa6 := same_upd (o := .lst [.bl (decide (i = 18)), .bl (decide (i = 19)), .bl (decide (i = 20))]) na6
    have ha6 : upd G10 a6 (.lst [.bl (decide (i = 18)), .bl (decide (i = 19)), .bl (decide (i = 20))]) a6 = some (.lst [.bl (decide (i = 18)), .bl (decide (i = 19)), .bl (decide (i = 20))]) := upd_same
    generalize upd G10 a6 (.lst [.bl (decide (i = 18)), .bl (decide (i = 19)), .bl (decide (i = 20))]) = G11 at sa6 ha6 ⊢
    replace hd := hd.same sa6
    replace hx := sa6 _ _ hx
    replace sA := sA.trans sa6
    refine ⟨k5, a6, _, _, rfl, rfl, sa6 _ _ hk5, ha6, (by rw [ksL_len]; show 18 + 3 ≤ sizeLine; decide), fun k6 nk6 => ?_⟩
    have sk6 := same_upd (o := .lst (ksL i 18 ++ [.bl (decide (i = 18)), .bl (decide (i = 19)), .bl (decide (i = 20))])) nk6
    have hk6 : upd G11 k6 (.lst (ksL i 18 ++ [.bl (decide (i = 18)), .bl (decide (i = 19)), .bl (decide (i = 20))])) k6 = some (.lst (ksL i 21)) := by rw [upd_same, ksL_add]
    generalize upd G11 k6 (.lst (ksL i 18 ++ [.bl (decide (i = 18)), .bl (decide (i = 19)), .bl (decide (i = 20))])) = G12 at sk6 hk6 ⊢
    replace hd := hd.same sk6
    replace hx := sk6 _ _ hx
    replace sA := sA.trans sk6
    refine ⟨_, rfl, ?_⟩
    refine ⟨_, rfl, ae, _, _, _, fs, rfl, hx, (fun _ r => r), isa 21 _ rfl, hd, ?_⟩
    refine ⟨_, rfl, ae, _, _, _, fs, rfl, hx, (fun _ r => r), isa 22 _ rfl, hd, ?_⟩
    refine ⟨_, rfl, ae, _, _, _, fs, rfl, hx, (fun _ r => r), isa 23 _ rfl, hd, ?_⟩
    refine ⟨(by show 3 ≤ sizeLine; decide), fun a7 na7 => ?_⟩
    have sa7 := same_upd (o := .lst [.bl (decide (i = 21)), .bl (decide (i = 22)), .bl (decide (i = 23))]) na7
    have ha7 : upd G12 a7 (.lst [.bl (decide (i = 21)), .bl (decide (i = 22)), .bl (decide (i = 23))]) a7 = some (.lst [.bl (decide (i = 21)), .bl (decide (i = 22)), .bl (decide (i = 23))]) := upd_same
    generalize upd G12 a7 (.lst [.bl (decide (i = 21)), .bl (decide (i = 22)), .bl (decide (i = 23))]) = G13 at sa7 ha7 ⊢
    replace hd := hd.same sa7
    replace hx := sa7 _ _ hx
    replace sA := sA.trans sa7
    refine ⟨k6, a7, _, _, rfl, rfl, sa7 _ _ hk6, ha7, (by rw [ksL_len]; show 21 + 3 ≤ sizeLine; decide), fun k7 nk7 => ?_⟩
    have sk7 := same_upd (o := .lst (ksL i 21 ++ [.bl (decide (i = 21)), .bl (decide (i = 22)), .bl (decide (i = 23))])) nk7
    have hk7 : upd G13 k7 (.lst (ksL i 21 ++ [.bl (decide (i = 21)), .bl (decide (i = 22)), .bl (decide (i = 23))])) k7 = some (.lst (ksL i 24)) := by rw [upd_same, ksL_add]
    generalize upd G13 k7 (.lst (ksL i 21 ++ [.bl (decide (i = 21)), .bl (decide (i = 22)), .bl (decide (i = 23))])) = G14 at sk7 hk7 ⊢
    replace hd := hd.same sk7
    replace hx := sk7 _ _ hx
    replace sA := sA.trans sk7
    refine ⟨_, rfl, ?_⟩
    refine ⟨_, rfl, ae, _, _, _, fs, rfl, hx, (fun _ r => r), isa 24 _ rfl, hd, ?_⟩
    refine ⟨_, rfl, ae, _, _, _, fs, rfl, hx, (fun _ r => r), isa 25 _ rfl, hd, ?_⟩
    refine ⟨_, rfl, ae, _, _, _, fs, rfl, hx, (fun _ r => r), isa 26 _ rfl, hd, ?_⟩
    refine ⟨(by show 3 ≤ sizeLine; decide), fun a8 na8 => ?_⟩
    have sa8 := same_upd (o := .lst [.bl (decide (i = 24)), .bl (decide (i = 25)), .bl (decide (i = 26))]) na8
    have ha8 : upd G14 a8 (.lst [.bl (decide (i = 24)), .bl (decide (i = 25)), .bl (decide (i = 26))]) a8 = some (.lst [.bl (decide (i = 24)), .bl (decide (i = 25)), .bl (decide (i = 26))]) := upd_same
    generalize upd G14 a8 (.lst [.bl (decide (i = 24)), .bl (decide (i = 25)), .bl (decide (i = 26))]) = G15 at sa8 ha8 ⊢
    replace hd := hd.same sa8
    replace hx := sa8 _ _ hx
    replace sA := sA.trans sa8
    refine ⟨k7, a8, _, _, rfl, rfl, sa8 _ _ hk7, ha8, (by rw [ksL_len]; show 24 + 3 ≤ sizeLine; decide), fun k8 nk8 => ?_⟩
    have sk8 := same_upd (o := .lst (ksL i 24 ++ [.bl (decide (i = 24)), .bl (decide (i = 25)), .bl (decide (i = 26))])) nk8
    have hk8 : upd G15 k8 (.lst (ksL i 24 ++ [.bl (decide (i = 24)), .bl (decide (i = 25)), .bl (decide (i = 26))])) k8 = some (.lst (ksL i 27)) := by rw [upd_same, ksL_add]
    generalize upd G15 k8 (.lst (ksL i 24 ++ [.bl (decide (i = 24)), .bl (decide (i = 25)), .bl (decide (i = 26))])) = G16 at sk8 hk8 ⊢
    replace hd := hd.same sk8
    replace hx := sk8 _ _ hx
    replace sA := sA.trans sk8
    refine ⟨_, rfl, ?_⟩
    refine ⟨_, rfl, ae, _, _, _, fs, rfl, hx, (fun _ r => r), isa 27 _ rfl, hd, ?_⟩
    refine ⟨_, rfl, ae, _, _, _, fs, rfl, hx, (fun _ r => r), isa 28 _ rfl, hd, ?_⟩
    refine ⟨_, rfl, ae, _, _, _, fs, rfl, hx, (fun _ r => r), isa 29 _ rfl, hd, ?_⟩
    refine ⟨(by show 3 ≤ sizeLine; decide), fun a9 na9 => ?_⟩
    have sa9 := same_upd (o := .lst [.bl (decide (i = 27)), .bl (decide (i = 28)), .bl (decide (i = 29))]) na9
    have ha9 : upd G16 a9 (.lst [.bl (decide (i = 27)), .bl (decide (i = 28)), .bl (decide (i = 29))]) a9 = some (.lst [.bl (decide (i = 27)), .bl (decide (i = 28)), .bl (decide (i = 29))]) := upd_same
    generalize upd G16 a9 (.lst [.bl (decide (i = 27)), .bl (decide (i = 28)), .bl (decide (i = 29))]) = G17 at sa9 ha9 ⊢
    replace hd := hd.same sa9
    replace hx := sa9 _ _ hx
    replace sA := sA.trans sa9
    refine ⟨k8, a9, _, _, rfl, rfl, sa9 _ _ hk8, ha9, (by rw [ksL_len]; show 27 + 3 ≤ sizeLine; decide), fun k9 nk9 => ?_⟩
    have sk9 := same_upd (o := .lst (ksL i 27 ++ [.bl (decide (i = 27)), .bl (decide (i = 28)), .bl (decide (i = 29))])) nk9
    have hk9 : upd G17 k9 (.lst (ksL i 27 ++ [.bl (decide (i = 27)), .bl (decide (i = 28)), .bl (decide (i = 29))])) k9 = some (.lst (ksL i 30)) := by rw [upd_same, ksL_add]
    generalize upd G17 k9 (.lst (ksL i 27 ++ [.bl (decide (i = 27)), .bl (decide (i = 28)), .bl (decide (i = 29))])) = G18 at sk9 hk9 ⊢
    replace hd := hd.same sk9
    replace hx := sk9 _ _ hx
    replace sA := sA.trans sk9
    refine ⟨_, rfl, ae, _, _, _, fs, rfl, hx, (fun _ r => r), so.b1, hd, ?_⟩
    refine ⟨_, rfl, ae, _, _, _, fs, rfl, hx, (fun _ r => r), so.b2, hd, ?_⟩
    refine ⟨_, rfl, ae, _, _, _, fs, rfl, hx, (fun _ r => r), so.b3, hd, ?_⟩
    refine ⟨(by show 3 ≤ sizeLine; decide), fun bs nbs => ?_⟩
    have sbs := same_upd (o := .lst [.bl (decide (i < 17)), .bl (decide (16 < i) && decide (i < 25)), .bl (decide (24 < i))]) nbs
    have hbs : upd G18 bs (.lst [.bl (decide (i < 17)), .bl (decide (16 < i) && decide (i < 25)), .bl (decide (24 < i))]) bs = some (.lst [.bl (decide (i < 17)), .bl (decide (16 < i) && decide (i < 25)), .bl (decide (24 < i))]) := upd_same
    generalize upd G18 bs (.lst [.bl (decide (i < 17)), .bl (decide (16 < i) && decide (i < 25)), .bl (decide (24 < i))]) = G19 at sbs hbs ⊢
    replace hd := hd.same sbs
    replace hx := sbs _ _ hx
    replace sA := sA.trans sbs
    refine ⟨_, rfl, ae, _, _, _, fs, rfl, hx, (fun _ r => r), so.o1, hd, ?_⟩
    refine ⟨_, rfl, ae, _, _, _, fs, rfl, hx, (fun _ r => r), so.o2, hd, ?_⟩
    refine ⟨_, rfl, ae, _, _, _, fs, rfl, hx, (fun _ r => r), so.o3, hd, ?_⟩
    refine ⟨(by show 3 ≤ sizeLine; decide), fun ow now => ?_⟩
    have sow := same_upd (o := .lst [.bl (decide (i < 17)), .bl (decide (16 < i) && decide (i < 25)), .bl (decide (24 < i))]) now
    have how : upd G19 ow (.lst [.bl (decide (i < 17)), .bl (decide (16 < i) && decide (i < 25)), .bl (decide (24 < i))]) ow = some (.lst [.bl (decide (i < 17)), .bl (decide (16 < i) && decide (i < 25)), .bl (decide (24 < i))]) := upd_same
    generalize upd G19 ow (.lst [.bl (decide (i < 17)), .bl (decide (16 < i) && decide (i < 25)), .bl (decide (24 < i))]) = G20 at sow how ⊢
    replace hd := hd.same sow
    replace hx := sow _ _ hx
    replace sA := sA.trans sow
    have hk := sow _ _ (sbs _ _ hk9)
    have hb := sow _ _ hbs
    refine ⟨_, rfl, .inl ⟨rfl, _, .inl (.inl hk)⟩, k9, _, .bl true, rfl, rfl, .inl (.inl hk), rfl, ksL_flat i 30, rfl, _, rfl, ?_⟩
    rw [ksL_one so.lt, show ((1 : Nat) : Int) = 1 from rfl, neV]
    refine iteF ⟨_, rfl, _, rfl, _, _, Dp_b3 (.inl (.inl how)), Dp_b3 (.inl (.inl hb)), sh_b3 _ _ _, sh_b3 _ _ _, _, rfl, ?_⟩
    rw [eq_b3]
    refine iteF ⟨_, rfl, .inl ⟨rfl, _, .inl (.inl hk)⟩, k9, _, .bl true, i, .bl true, rfl, rfl, .inl (.inl hk), rfl, ksL_flat i 30, ?_, rfl, fun m z hm hz => ?_, ?_⟩
    · rw [ksL_get so.lt, decide_eq_true rfl]
    · rw [ksL_get (by have := so.lt; omega), decide_eq_false (by omega)] at hz
      rw [← Option.some.inj hz]
      rfl
    have fin : ∀ (c : Bool) (F : Hp) (l : Addr), c = (decide (16 < i) && decide (i < 25)) → Same H F → F bs = some (.lst [.bl (decide (i < 17)), .bl (decide (16 < i) && decide (i < 25)), .bl (decide (24 < i))]) → F l = some (.lst [.bl (decide (((i : Nat) : Int) < 17)), .bl c, .bl (decide (24 < ((i : Nat) : Int)))]) →
        Dp K F (.ref bs) (.list [.bool (decide (i < 17)), .bool (decide (16 < i) && decide (i < 25)), .bool (decide (24 < i))]) ∧ Dp K F (.ref l) (.list [.bool (decide (i < 17)), .bool (decide (16 < i) && decide (i < 25)), .bool (decide (24 < i))]) ∧ Same H F := fun c F l hc sF h1 h2 => by
      subst hc
      rw [show decide (((i : Nat) : Int) < 17) = decide (i < 17) from decide_eq_decide.mpr (by omega), show decide (24 < ((i : Nat) : Int)) = decide (24 < i) from decide_eq_decide.mpr (by omega)] at h2
      exact ⟨Dp_b3 (.inl (.inl h1)), Dp_b3 (.inl (.inl h2)), sF⟩
    refine ⟨_, rfl, _, rfl, _, _, rfl, rfl, ?_⟩
    have tail : ∀ c : Bool, c = (decide (16 < i) && decide (i < 25)) → ∀ (l : Addr), G20 l = none → Dp K (upd G20 l (.lst [.bl (decide (((i : Nat) : Int) < 17)), .bl c, .bl (decide (24 < ((i : Nat) : Int)))])) (.ref bs) (.list [.bool (decide (i < 17)), .bool (decide (16 < i) && decide (i < 25)), .bool (decide (24 < i))]) ∧ Dp K (upd G20 l (.lst [.bl (decide (((i : Nat) : Int) < 17)), .bl c, .bl (decide (24 < ((i : Nat) : Int)))])) (.ref l) (.list [.bool (decide (i < 17)), .bool (decide (16 < i) && decide (i < 25)), .bool (decide (24 < i))]) ∧ Same H (upd G20 l (.lst [.bl (decide (((i : Nat) : Int) < 17)), .bl c, .bl (decide (24 < ((i : Nat) : Int)))])) := fun c hc l nl =>
      fin c _ l hc (sA.trans (same_upd nl)) (same_upd nl _ _ hb) upd_same
    refine ⟨_, rfl, _, _, rfl, rfl, _, rfl, ?_⟩
    by_cases h16 : 16 < i
    · rw [decide_eq_true (show (16 : Int) < ((i : Nat) : Int) by omega)]
      refine iteT ⟨_, _, rfl, rfl, _, rfl, _, _, rfl, rfl, (by show 3 ≤ sizeLine; decide), fun l nl => ?_⟩
      obtain ⟨d1, d2, sH⟩ := tail (decide (((i : Nat) : Int) < 25)) (by rw [decide_eq_true h16, Bool.true_and]; exact decide_eq_decide.mpr (by omega)) l nl
      refine ⟨_, _, d1, d2, sh_b3 _ _ _, sh_b3 _ _ _, _, rfl, ?_⟩
      rw [eq_b3]
      exact iteT ⟨_, rfl, q _ sH⟩
    · rw [decide_eq_false (show ¬ (16 : Int) < ((i : Nat) : Int) by omega)]
      refine iteF ⟨_, rfl, _, _, rfl, rfl, (by show 3 ≤ sizeLine; decide), fun l nl => ?_⟩
      obtain ⟨d1, d2, sH⟩ := tail false (by rw [decide_eq_false h16]; rfl) l nl
      refine ⟨_, _, d1, d2, sh_b3 _ _ _, sh_b3 _ _ _, _, rfl, ?_⟩
      rw [eq_b3]
      exact iteT ⟨_, rfl, q _ sH⟩
end
section
variable {P : Program} {w : World} {K : PySem.W.Frag} {mg : Str → Option Value} {base : Heap}
/-! ### errors that are made, and their fields -/
/-- the classes with a field, and all of them by number -/
abbrev clsL : List (Str × Str) := [("InvalidRow", "index"), ("InvalidNumber", "number"), ("InvalidKind", "kind"), ("InvalidWord", "index"), ("InvalidSize", "size"), ("InvalidProgram", "index"), ("InvalidText", "text"), ("InvalidHeights", "index"), ("InvalidWishes", "index"), ("InvalidRecord", "index"), ("InvalidPattern", "index"), ("InvalidShare", "share"), ("InvalidPeople", "index"), ("InvalidName", "name"), ("InvalidHeight", "height"), ("InvalidDeed", "index"), ("InvalidCommand", "line"), ("NotFinal", "index"), ("UnknownName", "name"), ("UnknownHeight", "height"), ("NameTaken", "name"), ("HeightTaken", "height"), ("TooManySeats", "seats"), ("TooManyPeople", "count"), ("WordTooShort", "length"), ("TooManyDeeds", "count")]
abbrev numsL : List (Nat × Str) := [(0, "InvalidRow"), (1, "InvalidNumber"), (2, "InvalidKind"), (3, "InvalidWord"), (4, "InvalidSize"), (5, "InvalidProgram"), (6, "InvalidText"), (7, "InvalidHeights"), (8, "InvalidWishes"), (9, "InvalidRecord"), (10, "InvalidPattern"), (11, "InvalidShare"), (12, "InvalidPeople"), (13, "InvalidName"), (14, "InvalidHeight"), (15, "InvalidDeed"), (16, "InvalidCommand"), (17, "NotFinal"), (18, "OtherPersons"), (19, "UnknownName"), (20, "UnknownHeight"), (21, "NoOrder"), (22, "NameTaken"), (23, "HeightTaken"), (24, "NothingToUndo"), (25, "TooManySeats"), (26, "TooManyPeople"), (27, "WordTooShort"), (28, "TooManyDeeds"), (29, "LastPerson")]
structure NoB (K : PySem.W.Frag) (x : Str) : Prop where
  no : ∀ y ∈ (["KeyError", "IndexError", "OverflowError", "ZeroDivisionError"] : List String), PySem.W.kitOne K (.ref (He.ga K x)) (.type y) = some false
def EksOk (P : Program) (w : World) (K : PySem.W.Frag) (mg : Str → Option Value) (base : Heap) : Prop := ∀ p ∈ clsL, EK P w K mg base p.1 p.2
def SosOk (K : PySem.W.Frag) : Prop := ∀ p ∈ numsL, SortOk K p.2 p.1 ∧ NoB K p.2
def FieldAt (K : PySem.W.Frag) (v : V) (n : Str) (H : Hp) (a : Addr) : Prop := ∃ C dd : Addr, XfC K C ∧ PySem.W.findIn K (.ref C) n = some none ∧ H a = some (KeptO (.ref C) (some dd) a) ∧ H dd = some (.xd [(n, v)])
def SortAt (K : PySem.W.Frag) (H : Hp) (a : Addr) (i : Nat) : Prop := ∃ (x : Str) (d : Option Addr) (fs : List (Str × V)), H a = some (KeptO (.ref (He.ga K x)) d a) ∧ DicO d H fs ∧ SortOk K x i ∧ NoB K x
theorem FieldAt.same {v : V} {n : Str} {H G : Hp} {a : Addr} (h : FieldAt K v n H a) (s : Same H G) : FieldAt K v n G a := by
  obtain ⟨C, dd, h1, h2, h3, h4⟩ := h
  exact ⟨C, dd, h1, h2, s _ _ h3, s _ _ h4⟩
theorem SortAt.same {H G : Hp} {a : Addr} {i : Nat} (h : SortAt K H a i) (s : Same H G) : SortAt K G a i := by
  obtain ⟨x, d, fs, h1, h2, h3⟩ := h
  exact ⟨x, d, fs, s _ _ h1, h2.same s, h3⟩
def Mds (K : PySem.W.Frag) (v : V) (H : Hp) (ps : List (Addr × Nat × Str)) : Prop := ∀ p ∈ ps, FieldAt K v p.2.2 H p.1 ∧ SortAt K H p.1 p.2.1
theorem Mds.same {v : V} {H G : Hp} {ps : List (Addr × Nat × Str)} (h : Mds K v H ps) (s : Same H G) : Mds K v G ps := fun p hp => ⟨(h p hp).1.same s, (h p hp).2.same s⟩
theorem Mds.add {v : V} {H G : Hp} {ps : List (Addr × Nat × Str)} {p : Addr × Nat × Str} (h : Mds K v H ps) (s : Same H G) (n : FieldAt K v p.2.2 G p.1 ∧ SortAt K G p.1 p.2.1) : Mds K v G (ps ++ [p]) := fun r hr => by
  rcases List.mem_append.mp hr with z | z
  · exact h.same s r z
  · rw [List.mem_singleton.mp z]
    exact n
theorem made_same {x f : Str} {v : V} {H : Hp} {d a : Addr} (nd : H d = none) (na : upd H d (.xd [(f, v)]) a = none) : Same H (upd (upd H d (.xd [(f, v)])) a (KeptO (.ref (He.ga K x)) (some d) a)) := (same_upd nd).trans (same_upd na)
theorem made_el {x f : Str} {i : Nat} {v : V} {H : Hp} {d a : Addr} (ek : EK P w K mg base x f) (so : SortOk K x i) (nb : NoB K x) (nd : H d = none) (na : upd H d (.xd [(f, v)]) a = none) :
    FieldAt K v f (upd (upd H d (.xd [(f, v)])) a (KeptO (.ref (He.ga K x)) (some d) a)) a ∧ SortAt K (upd (upd H d (.xd [(f, v)])) a (KeptO (.ref (He.ga K x)) (some d) a)) a i := by
  have hd := same_upd (o := KeptO (.ref (He.ga K x)) (some d) a) na _ _ (upd_same (H := H) (a := d) (o := .xd [(f, v)]))
  exact ⟨⟨_, d, ek.xf, ek.noN, upd_same, hd⟩, ⟨x, some d, [(f, v)], upd_same, hd, so, nb⟩⟩
theorem lookup_one {n : Str} {v : V} : ([(n, v)] : List (Str × V)).lookup n = some v := by simp [List.lookup]
/-- errors of these numbers, in this order -/
def SortsAt (K : PySem.W.Frag) (H : Hp) : List Addr → List Nat → Prop
  | [], [] => True
  | a :: r, i :: s => SortAt K H a i ∧ SortsAt K H r s
  | _, _ => False
theorem sorts_of {v : V} {H : Hp} : ∀ {ps : List (Addr × Nat × Str)}, Mds K v H ps → SortsAt K H (ps.map fun p => p.1) (ps.map fun p => p.2.1)
  | [], _ => trivial
  | p :: ps, h => ⟨(h p List.mem_cons_self).2, sorts_of fun r hr => h r (List.mem_cons_of_mem _ hr)⟩
def spMade (K : PySem.W.Frag) (is : List Nat) : Sp := fun vs H Q _ => ∃ v : V, vs = [v] ∧ ∀ (l m s : Addr) (as : List Addr) (H' : Hp), Same H H' → H' l = some (.lst [.ref m, .ref s]) → H' m = some (.lst (as.map V.ref)) → SortsAt K H' as is → H' s = some (.lst (List.replicate is.length v)) → Q (.ref l) H'
abbrev s__law_first : Stmt := top 44
abbrev N__law_first : List Str := ["_law_thing", "_law_made", "_law_shown", "_law_one"]
theorem sc__law_first : FnScope N__law_first ["_law_thing"] (defScope s__law_first) := ⟨rfl, rfl, rfl, by decide +kernel, rfl, by decide +kernel, by decide +kernel⟩
theorem ok_first (D : Df K mg "_law_first" s__law_first) (eks : EksOk P w K mg base) (sos : SosOk K) : Cl P w K mg base 3 "_law_first" s__law_first ["_law_thing"] (spMade K [0, 0, 1, 1, 2, 2, 3, 3, 4, 4, 5, 5, 6, 6, 7, 7]) := by
  refine D.ok sc__law_first (fun _ _ _ _ _ _ us hl => match us, hl with | [_], _ => rfl) (fun vs H Q E h => ?_) (fun f cdv A outer s H vs Q E hr h => ?_)
  · obtain ⟨v, rfl, _⟩ := h
    rfl
  · obtain ⟨v, rfl, q⟩ := h
    have ek_InvalidRow : EK P w K mg base "InvalidRow" "index" := eks ("InvalidRow", "index") (by decide)
    obtain ⟨so_InvalidRow, nb_InvalidRow⟩ : SortOk K "InvalidRow" 0 ∧ NoB K "InvalidRow" := sos (0, "InvalidRow") (by decide)
    have ek_InvalidNumber : EK P w K mg base "InvalidNumber" "number" := eks ("InvalidNumber", "number") (by decide)
    obtain ⟨so_InvalidNumber, nb_InvalidNumber⟩ : SortOk K "InvalidNumber" 1 ∧ NoB K "InvalidNumber" := sos (1, "InvalidNumber") (by decide)
    have ek_InvalidKind : EK P w K mg base "InvalidKind" "kind" := eks ("InvalidKind", "kind") (by decide)
    obtain ⟨so_InvalidKind, nb_InvalidKind⟩ : SortOk K "InvalidKind" 2 ∧ NoB K "InvalidKind" := sos (2, "InvalidKind") (by decide)
    have ek_InvalidWord : EK P w K mg base "InvalidWord" "index" := eks ("InvalidWord", "index") (by decide)
    obtain ⟨so_InvalidWord, nb_InvalidWord⟩ : SortOk K "InvalidWord" 3 ∧ NoB K "InvalidWord" := sos (3, "InvalidWord") (by decide)
    have ek_InvalidSize : EK P w K mg base "InvalidSize" "size" := eks ("InvalidSize", "size") (by decide)
    obtain ⟨so_InvalidSize, nb_InvalidSize⟩ : SortOk K "InvalidSize" 4 ∧ NoB K "InvalidSize" := sos (4, "InvalidSize") (by decide)
    have ek_InvalidProgram : EK P w K mg base "InvalidProgram" "index" := eks ("InvalidProgram", "index") (by decide)
    obtain ⟨so_InvalidProgram, nb_InvalidProgram⟩ : SortOk K "InvalidProgram" 5 ∧ NoB K "InvalidProgram" := sos (5, "InvalidProgram") (by decide)
    have ek_InvalidText : EK P w K mg base "InvalidText" "text" := eks ("InvalidText", "text") (by decide)
    obtain ⟨so_InvalidText, nb_InvalidText⟩ : SortOk K "InvalidText" 6 ∧ NoB K "InvalidText" := sos (6, "InvalidText") (by decide)
    have ek_InvalidHeights : EK P w K mg base "InvalidHeights" "index" := eks ("InvalidHeights", "index") (by decide)
    obtain ⟨so_InvalidHeights, nb_InvalidHeights⟩ : SortOk K "InvalidHeights" 7 ∧ NoB K "InvalidHeights" := sos (7, "InvalidHeights") (by decide)
    refine ⟨_, 
      (pss_cons (ps_set (i := 1) sc__law_first.nd rfl (Or.inl rfl) (pe_lst (pa_cons (pe_kept (pmk_tA (K := K) rfl ek_InvalidRow.toET hr (by omega) (by rfl) (pa_cons (pv 0) pa_nil))) (pa_cons (pe_kept (pmk_tkA (K := K) rfl ek_InvalidRow hr (by omega) (by rfl) (pk_cons (pv 0) pk_nil))) (pa_cons (pe_kept (pmk_tA (K := K) rfl ek_InvalidNumber.toET hr (by omega) (by rfl) (pa_cons (pv 0) pa_nil))) (pa_cons (pe_kept (pmk_tkA (K := K) rfl ek_InvalidNumber hr (by omega) (by rfl) (pk_cons (pv 0) pk_nil))) pa_nil)))))) 
      (pss_cons (ps_set (i := 1) sc__law_first.nd rfl (Or.inl rfl) (pe_op op_cat (pv 1) (pe_lst (pa_cons (pe_kept (pmk_tA (K := K) rfl ek_InvalidKind.toET hr (by omega) (by rfl) (pa_cons (pv 0) pa_nil))) (pa_cons (pe_kept (pmk_tkA (K := K) rfl ek_InvalidKind hr (by omega) (by rfl) (pk_cons (pv 0) pk_nil))) (pa_cons (pe_kept (pmk_tA (K := K) rfl ek_InvalidWord.toET hr (by omega) (by rfl) (pa_cons (pv 0) pa_nil))) (pa_cons (pe_kept (pmk_tkA (K := K) rfl ek_InvalidWord hr (by omega) (by rfl) (pk_cons (pv 0) pk_nil))) pa_nil))))))) 
      (pss_cons (ps_set (i := 1) sc__law_first.nd rfl (Or.inl rfl) (pe_op op_cat (pv 1) (pe_lst (pa_cons (pe_kept (pmk_tA (K := K) rfl ek_InvalidSize.toET hr (by omega) (by rfl) (pa_cons (pv 0) pa_nil))) (pa_cons (pe_kept (pmk_tkA (K := K) rfl ek_InvalidSize hr (by omega) (by rfl) (pk_cons (pv 0) pk_nil))) (pa_cons (pe_kept (pmk_tA (K := K) rfl ek_InvalidProgram.toET hr (by omega) (by rfl) (pa_cons (pv 0) pa_nil))) (pa_cons (pe_kept (pmk_tkA (K := K) rfl ek_InvalidProgram hr (by omega) (by rfl) (pk_cons (pv 0) pk_nil))) pa_nil))))))) 
      (pss_cons (ps_set (i := 1) sc__law_first.nd rfl (Or.inl rfl) (pe_op op_cat (pv 1) (pe_lst (pa_cons (pe_kept (pmk_tA (K := K) rfl ek_InvalidText.toET hr (by omega) (by rfl) (pa_cons (pv 0) pa_nil))) (pa_cons (pe_kept (pmk_tkA (K := K) rfl ek_InvalidText hr (by omega) (by rfl) (pk_cons (pv 0) pk_nil))) (pa_cons (pe_kept (pmk_tA (K := K) rfl ek_InvalidHeights.toET hr (by omega) (by rfl) (pa_cons (pv 0) pa_nil))) (pa_cons (pe_kept (pmk_tkA (K := K) rfl ek_InvalidHeights hr (by omega) (by rfl) (pk_cons (pv 0) pk_nil))) pa_nil))))))) 
      (pss_cons (ps_setLc (i := 2) (own := [("_law_one", 3)]) (g := gName 3) (te := (tKfA K "index" (tVar 3))) rfl sc__law_first.nd rfl rfl (sw_true rfl rfl rfl (by decide +kernel)) (pi_list (pe_op op_cat (pe_op op_cat (pe_op op_cat (pe_slice sl_list (pv 1) po_none (po_some pe_int)) (pe_slice sl_list (pv 1) (po_some pe_int) (po_some pe_int))) (pe_slice sl_list (pv 1) (po_some pe_int) (po_some pe_int))) (pe_slice sl_list (pv 1) (po_some pe_int) po_none))) (blkOk_by (own := [("_law_one", 3)]) (N := N__law_first) (sc := (defScope s__law_first)) (by decide +kernel)) (fun _ _ _ _ _ => (pg_name (i := 3) sc__law_first.nd rfl (Or.inl rfl))) (fun _ _ _ _ _ => pts_nil) (fun _ _ _ _ _ => (pe_kfA (pv 3)))) 
      (pss_cons (ps_set (i := 2) sc__law_first.nd rfl (Or.inl rfl) (pe_op op_cat (pe_op op_cat (pv 2) (pe_lc (own := [("_law_one", 3)]) (g := gName 3) (te := (tKfA K "number" (tVar 3))) rfl sc__law_first.nd (pi_list (pe_slice sl_list (pv 1) (po_some pe_int) (po_some pe_int))) (blkOk_by (own := [("_law_one", 3)]) (N := N__law_first) (sc := (defScope s__law_first)) (by decide +kernel)) (fun _ _ _ _ _ => (pg_name (i := 3) sc__law_first.nd rfl (Or.inl rfl))) (fun _ _ _ _ _ => pts_nil) (fun _ _ _ _ _ => (pe_kfA (pv 3))))) (pe_lc (own := [("_law_one", 3)]) (g := gName 3) (te := (tKfA K "kind" (tVar 3))) rfl sc__law_first.nd (pi_list (pe_slice sl_list (pv 1) (po_some pe_int) (po_some pe_int))) (blkOk_by (own := [("_law_one", 3)]) (N := N__law_first) (sc := (defScope s__law_first)) (by decide +kernel)) (fun _ _ _ _ _ => (pg_name (i := 3) sc__law_first.nd rfl (Or.inl rfl))) (fun _ _ _ _ _ => pts_nil) (fun _ _ _ _ _ => (pe_kfA (pv 3)))))) 
      (pss_one (ps_ret (pe_lst (pa_cons (pv 1) (pa_cons (pe_op op_cat (pe_op op_cat (pv 2) (pe_lc (own := [("_law_one", 3)]) (g := gName 3) (te := (tKfA K "size" (tVar 3))) rfl sc__law_first.nd (pi_list (pe_slice sl_list (pv 1) (po_some pe_int) (po_some pe_int))) (blkOk_by (own := [("_law_one", 3)]) (N := N__law_first) (sc := (defScope s__law_first)) (by decide +kernel)) (fun _ _ _ _ _ => (pg_name (i := 3) sc__law_first.nd rfl (Or.inl rfl))) (fun _ _ _ _ _ => pts_nil) (fun _ _ _ _ _ => (pe_kfA (pv 3))))) (pe_lc (own := [("_law_one", 3)]) (g := gName 3) (te := (tKfA K "text" (tVar 3))) rfl sc__law_first.nd (pi_list (pe_slice sl_list (pv 1) (po_some pe_int) (po_some pe_int))) (blkOk_by (own := [("_law_one", 3)]) (N := N__law_first) (sc := (defScope s__law_first)) (by decide +kernel)) (fun _ _ _ _ _ => (pg_name (i := 3) sc__law_first.nd rfl (Or.inl rfl))) (fun _ _ _ _ _ => pts_nil) (fun _ _ _ _ _ => (pe_kfA (pv 3))))) pa_nil))))))))))), ?_⟩
    have mm : Mds K v H [] := fun p hp => nomatch hp
    have sA : Same H H := Same.refl H
    refine ⟨_, rfl, v, rfl, fun d nd a1 na => ?_⟩
    have s1 := made_same (K := K) (x := "InvalidRow") (f := "index") (v := v) nd na
    have mm := mm.add (p := (a1, 0, "index")) s1 (made_el ek_InvalidRow so_InvalidRow nb_InvalidRow nd na)
    replace sA := sA.trans s1
    generalize upd (upd H d (.xd [("index", v)])) a1 (KeptO (.ref (He.ga K "InvalidRow")) (some d) a1) = G1 at s1 mm sA ⊢
    clear s1 nd na
    refine ⟨_, rfl, v, rfl, fun d nd a2 na => ?_⟩
    have s1 := made_same (K := K) (x := "InvalidRow") (f := "index") (v := v) nd na
    have mm := mm.add (p := (a2, 0, "index")) s1 (made_el ek_InvalidRow so_InvalidRow nb_InvalidRow nd na)
    replace sA := sA.trans s1
    generalize upd (upd G1 d (.xd [("index", v)])) a2 (KeptO (.ref (He.ga K "InvalidRow")) (some d) a2) = G2 at s1 mm sA ⊢
    clear s1 nd na
    refine ⟨_, rfl, v, rfl, fun d nd a3 na => ?_⟩
    have s1 := made_same (K := K) (x := "InvalidNumber") (f := "number") (v := v) nd na
    have mm := mm.add (p := (a3, 1, "number")) s1 (made_el ek_InvalidNumber so_InvalidNumber nb_InvalidNumber nd na)
    replace sA := sA.trans s1
    generalize upd (upd G2 d (.xd [("number", v)])) a3 (KeptO (.ref (He.ga K "InvalidNumber")) (some d) a3) = G3 at s1 mm sA ⊢
    clear s1 nd na
    refine ⟨_, rfl, v, rfl, fun d nd a4 na => ?_⟩
    have s1 := made_same (K := K) (x := "InvalidNumber") (f := "number") (v := v) nd na
    have mm := mm.add (p := (a4, 1, "number")) s1 (made_el ek_InvalidNumber so_InvalidNumber nb_InvalidNumber nd na)
    replace sA := sA.trans s1
    generalize upd (upd G3 d (.xd [("number", v)])) a4 (KeptO (.ref (He.ga K "InvalidNumber")) (some d) a4) = G4 at s1 mm sA ⊢
    clear s1 nd na
    refine ⟨(by show 4 ≤ sizeLine; decide), fun l1 n1 => ?_⟩
    have s1 := same_upd (o := .lst [.ref a1, .ref a2, .ref a3, .ref a4]) n1
    have h_l1 : upd G4 l1 (.lst [.ref a1, .ref a2, .ref a3, .ref a4]) l1 = some (.lst [.ref a1, .ref a2, .ref a3, .ref a4]) := upd_same
    replace mm := mm.same s1; replace sA := sA.trans s1
    generalize upd G4 l1 (.lst [.ref a1, .ref a2, .ref a3, .ref a4]) = K4 at s1 mm sA h_l1 ⊢
    clear s1 n1
    refine ⟨_, rfl, ?_⟩
    refine ⟨_, rfl, v, rfl, fun d nd a5 na => ?_⟩
    have s1 := made_same (K := K) (x := "InvalidKind") (f := "kind") (v := v) nd na
    have mm := mm.add (p := (a5, 2, "kind")) s1 (made_el ek_InvalidKind so_InvalidKind nb_InvalidKind nd na)
    replace h_l1 := s1 _ _ h_l1
    replace sA := sA.trans s1
    generalize upd (upd K4 d (.xd [("kind", v)])) a5 (KeptO (.ref (He.ga K "InvalidKind")) (some d) a5) = G5 at s1 mm sA h_l1 ⊢
    clear s1 nd na
    refine ⟨_, rfl, v, rfl, fun d nd a6 na => ?_⟩
    have s1 := made_same (K := K) (x := "InvalidKind") (f := "kind") (v := v) nd na
    have mm := mm.add (p := (a6, 2, "kind")) s1 (made_el ek_InvalidKind so_InvalidKind nb_InvalidKind nd na)
    replace h_l1 := s1 _ _ h_l1
    replace sA := sA.trans s1
    generalize upd (upd G5 d (.xd [("kind", v)])) a6 (KeptO (.ref (He.ga K "InvalidKind")) (some d) a6) = G6 at s1 mm sA h_l1 ⊢
    clear s1 nd na
    refine ⟨_, rfl, v, rfl, fun d nd a7 na => ?_⟩
    have s1 := made_same (K := K) (x := "InvalidWord") (f := "index") (v := v) nd na
    have mm := mm.add (p := (a7, 3, "index")) s1 (made_el ek_InvalidWord so_InvalidWord nb_InvalidWord nd na)
    replace h_l1 := s1 _ _ h_l1
    replace sA := sA.trans s1
    generalize upd (upd G6 d (.xd [("index", v)])) a7 (KeptO (.ref (He.ga K "InvalidWord")) (some d) a7) = G7 at s1 mm sA h_l1 ⊢
    clear s1 nd na
    refine ⟨_, rfl, v, rfl, fun d nd a8 na => ?_⟩
    have s1 := made_same (K := K) (x := "InvalidWord") (f := "index") (v := v) nd na
    have mm := mm.add (p := (a8, 3, "index")) s1 (made_el ek_InvalidWord so_InvalidWord nb_InvalidWord nd na)
    replace h_l1 := s1 _ _ h_l1
    replace sA := sA.trans s1
    generalize upd (upd G7 d (.xd [("index", v)])) a8 (KeptO (.ref (He.ga K "InvalidWord")) (some d) a8) = G8 at s1 mm sA h_l1 ⊢
    clear s1 nd na
    refine ⟨(by show 4 ≤ sizeLine; decide), fun l2 n1 => ?_⟩
    have s1 := same_upd (o := .lst [.ref a5, .ref a6, .ref a7, .ref a8]) n1
    refine ⟨l1, l2, _, _, rfl, rfl, s1 _ _ h_l1, upd_same, (by show 8 ≤ sizeLine; decide), fun l3 n2 => ?_⟩
    have s2 := same_upd (o := .lst ([.ref a1, .ref a2, .ref a3, .ref a4] ++ [.ref a5, .ref a6, .ref a7, .ref a8])) n2
    have h_l3 : upd (upd G8 l2 (.lst [.ref a5, .ref a6, .ref a7, .ref a8])) l3 (.lst ([.ref a1, .ref a2, .ref a3, .ref a4] ++ [.ref a5, .ref a6, .ref a7, .ref a8])) l3 = some (.lst [.ref a1, .ref a2, .ref a3, .ref a4, .ref a5, .ref a6, .ref a7, .ref a8]) := upd_same
    replace mm := mm.same (s1.trans s2); replace sA := sA.trans (s1.trans s2)
    generalize upd (upd G8 l2 (.lst [.ref a5, .ref a6, .ref a7, .ref a8])) l3 (.lst ([.ref a1, .ref a2, .ref a3, .ref a4] ++ [.ref a5, .ref a6, .ref a7, .ref a8])) = K8 at s2 mm sA h_l3 ⊢
    clear s1 s2 n1 n2 h_l1
    refine ⟨_, rfl, ?_⟩
    refine ⟨_, rfl, v, rfl, fun d nd a9 na => ?_⟩
    have s1 := made_same (K := K) (x := "InvalidSize") (f := "size") (v := v) nd na
    have mm := mm.add (p := (a9, 4, "size")) s1 (made_el ek_InvalidSize so_InvalidSize nb_InvalidSize nd na)
    replace h_l3 := s1 _ _ h_l3
    replace sA := sA.trans s1
    generalize upd (upd K8 d (.xd [("size", v)])) a9 (KeptO (.ref (He.ga K "InvalidSize")) (some d) a9) = G9 at s1 mm sA h_l3 ⊢
    clear s1 nd na
    refine ⟨_, rfl, v, rfl, fun d nd a10 na => ?_⟩
    have s1 := made_same (K := K) (x := "InvalidSize") (f := "size") (v := v) nd na
    have mm := mm.add (p := (a10, 4, "size")) s1 (made_el ek_InvalidSize so_InvalidSize nb_InvalidSize nd na)
    replace h_l3 := s1 _ _ h_l3
    replace sA := sA.trans s1
    generalize upd (upd G9 d (.xd [("size", v)])) a10 (KeptO (.ref (He.ga K "InvalidSize")) (some d) a10) = G10 at s1 mm sA h_l3 ⊢
    clear s1 nd na
    refine ⟨_, rfl, v, rfl, fun d nd a11 na => ?_⟩
    have s1 := made_same (K := K) (x := "InvalidProgram") (f := "index") (v := v) nd na
    have mm := mm.add (p := (a11, 5, "index")) s1 (made_el ek_InvalidProgram so_InvalidProgram nb_InvalidProgram nd na)
    replace h_l3 := s1 _ _ h_l3
    replace sA := sA.trans s1
    generalize upd (upd G10 d (.xd [("index", v)])) a11 (KeptO (.ref (He.ga K "InvalidProgram")) (some d) a11) = G11 at s1 mm sA h_l3 ⊢
    clear s1 nd na
    refine ⟨_, rfl, v, rfl, fun d nd a12 na => ?_⟩
    have s1 := made_same (K := K) (x := "InvalidProgram") (f := "index") (v := v) nd na
    have mm := mm.add (p := (a12, 5, "index")) s1 (made_el ek_InvalidProgram so_InvalidProgram nb_InvalidProgram nd na)
    replace h_l3 := s1 _ _ h_l3
    replace sA := sA.trans s1
    generalize upd (upd G11 d (.xd [("index", v)])) a12 (KeptO (.ref (He.ga K "InvalidProgram")) (some d) a12) = G12 at s1 mm sA h_l3 ⊢
    clear s1 nd na
    refine ⟨(by show 4 ≤ sizeLine; decide), fun l4 n1 => ?_⟩
    have s1 := same_upd (o := .lst [.ref a9, .ref a10, .ref a11, .ref a12]) n1
    refine ⟨l3, l4, _, _, rfl, rfl, s1 _ _ h_l3, upd_same, (by show 12 ≤ sizeLine; decide), fun l5 n2 => ?_⟩
    have s2 := same_upd (o := .lst ([.ref a1, .ref a2, .ref a3, .ref a4, .ref a5, .ref a6, .ref a7, .ref a8] ++ [.ref a9, .ref a10, .ref a11, .ref a12])) n2
    have h_l5 : upd (upd G12 l4 (.lst [.ref a9, .ref a10, .ref a11, .ref a12])) l5 (.lst ([.ref a1, .ref a2, .ref a3, .ref a4, .ref a5, .ref a6, .ref a7, .ref a8] ++ [.ref a9, .ref a10, .ref a11, .ref a12])) l5 = some (.lst [.ref a1, .ref a2, .ref a3, .ref a4, .ref a5, .ref a6, .ref a7, .ref a8, .ref a9, .ref a10, .ref a11, .ref a12]) := upd_same
    replace mm := mm.same (s1.trans s2); replace sA := sA.trans (s1.trans s2)
    generalize upd (upd G12 l4 (.lst [.ref a9, .ref a10, .ref a11, .ref a12])) l5 (.lst ([.ref a1, .ref a2, .ref a3, .ref a4, .ref a5, .ref a6, .ref a7, .ref a8] ++ [.ref a9, .ref a10, .ref a11, .ref a12])) = K12 at s2 mm sA h_l5 ⊢
    clear s1 s2 n1 n2 h_l3
    refine ⟨_, rfl, ?_⟩
    refine ⟨_, rfl, v, rfl, fun d nd a13 na => ?_⟩
    have s1 := made_same (K := K) (x := "InvalidText") (f := "text") (v := v) nd na
    have mm := mm.add (p := (a13, 6, "text")) s1 (made_el ek_InvalidText so_InvalidText nb_InvalidText nd na)
    replace h_l5 := s1 _ _ h_l5
    replace sA := sA.trans s1
    generalize upd (upd K12 d (.xd [("text", v)])) a13 (KeptO (.ref (He.ga K "InvalidText")) (some d) a13) = G13 at s1 mm sA h_l5 ⊢
    clear s1 nd na
    refine ⟨_, rfl, v, rfl, fun d nd a14 na => ?_⟩
    have s1 := made_same (K := K) (x := "InvalidText") (f := "text") (v := v) nd na
    have mm := mm.add (p := (a14, 6, "text")) s1 (made_el ek_InvalidText so_InvalidText nb_InvalidText nd na)
    replace h_l5 := s1 _ _ h_l5
    replace sA := sA.trans s1
    generalize upd (upd G13 d (.xd [("text", v)])) a14 (KeptO (.ref (He.ga K "InvalidText")) (some d) a14) = G14 at s1 mm sA h_l5 ⊢
    clear s1 nd na
    refine ⟨_, rfl, v, rfl, fun d nd a15 na => ?_⟩
    have s1 := made_same (K := K) (x := "InvalidHeights") (f := "index") (v := v) nd na
    have mm := mm.add (p := (a15, 7, "index")) s1 (made_el ek_InvalidHeights so_InvalidHeights nb_InvalidHeights nd na)
    replace h_l5 := s1 _ _ h_l5
    replace sA := sA.trans s1
    generalize upd (upd G14 d (.xd [("index", v)])) a15 (KeptO (.ref (He.ga K "InvalidHeights")) (some d) a15) = G15 at s1 mm sA h_l5 ⊢
    clear s1 nd na
    refine ⟨_, rfl, v, rfl, fun d nd a16 na => ?_⟩
    have s1 := made_same (K := K) (x := "InvalidHeights") (f := "index") (v := v) nd na
    have mm := mm.add (p := (a16, 7, "index")) s1 (made_el ek_InvalidHeights so_InvalidHeights nb_InvalidHeights nd na)
    replace h_l5 := s1 _ _ h_l5
    replace sA := sA.trans s1
    generalize upd (upd G15 d (.xd [("index", v)])) a16 (KeptO (.ref (He.ga K "InvalidHeights")) (some d) a16) = G16 at s1 mm sA h_l5 ⊢
    clear s1 nd na
    refine ⟨(by show 4 ≤ sizeLine; decide), fun l6 n1 => ?_⟩
    have s1 := same_upd (o := .lst [.ref a13, .ref a14, .ref a15, .ref a16]) n1
    refine ⟨l5, l6, _, _, rfl, rfl, s1 _ _ h_l5, upd_same, (by show 16 ≤ sizeLine; decide), fun l7 n2 => ?_⟩
    have s2 := same_upd (o := .lst ([.ref a1, .ref a2, .ref a3, .ref a4, .ref a5, .ref a6, .ref a7, .ref a8, .ref a9, .ref a10, .ref a11, .ref a12] ++ [.ref a13, .ref a14, .ref a15, .ref a16])) n2
    have h_l7 : upd (upd G16 l6 (.lst [.ref a13, .ref a14, .ref a15, .ref a16])) l7 (.lst ([.ref a1, .ref a2, .ref a3, .ref a4, .ref a5, .ref a6, .ref a7, .ref a8, .ref a9, .ref a10, .ref a11, .ref a12] ++ [.ref a13, .ref a14, .ref a15, .ref a16])) l7 = some (.lst [.ref a1, .ref a2, .ref a3, .ref a4, .ref a5, .ref a6, .ref a7, .ref a8, .ref a9, .ref a10, .ref a11, .ref a12, .ref a13, .ref a14, .ref a15, .ref a16]) := upd_same
    replace mm := mm.same (s1.trans s2); replace sA := sA.trans (s1.trans s2)
    generalize upd (upd G16 l6 (.lst [.ref a13, .ref a14, .ref a15, .ref a16])) l7 (.lst ([.ref a1, .ref a2, .ref a3, .ref a4, .ref a5, .ref a6, .ref a7, .ref a8, .ref a9, .ref a10, .ref a11, .ref a12] ++ [.ref a13, .ref a14, .ref a15, .ref a16])) = K16 at s2 mm sA h_l7 ⊢
    clear s1 s2 n1 n2 h_l5
    have nS : sizeLine = sizeLine := rfl
    have f_a1 := (mm (a1, 0, "index") (by simp)).1
    have f_a2 := (mm (a2, 0, "index") (by simp)).1
    have f_a3 := (mm (a3, 1, "number") (by simp)).1
    have f_a4 := (mm (a4, 1, "number") (by simp)).1
    have f_a5 := (mm (a5, 2, "kind") (by simp)).1
    have f_a6 := (mm (a6, 2, "kind") (by simp)).1
    have f_a7 := (mm (a7, 3, "index") (by simp)).1
    have f_a8 := (mm (a8, 3, "index") (by simp)).1
    have f_a9 := (mm (a9, 4, "size") (by simp)).1
    have f_a10 := (mm (a10, 4, "size") (by simp)).1
    have f_a11 := (mm (a11, 5, "index") (by simp)).1
    have f_a12 := (mm (a12, 5, "index") (by simp)).1
    have f_a13 := (mm (a13, 6, "text") (by simp)).1
    have f_a14 := (mm (a14, 6, "text") (by simp)).1
    have f_a15 := (mm (a15, 7, "index") (by simp)).1
    have f_a16 := (mm (a16, 7, "index") (by simp)).1
    have sB : Same K16 K16 := Same.refl _
    refine ⟨_, rfl, 2, rfl, l7, _, rfl, .inl (.inl h_l7), fun c8 n1 => ?_⟩
    have s1 := same_upd (o := .lst (cutV [.ref a1, .ref a2, .ref a3, .ref a4, .ref a5, .ref a6, .ref a7, .ref a8, .ref a9, .ref a10, .ref a11, .ref a12, .ref a13, .ref a14, .ref a15, .ref a16] none (some 2))) n1
    have h_c8 : upd K16 c8 (.lst (cutV [.ref a1, .ref a2, .ref a3, .ref a4, .ref a5, .ref a6, .ref a7, .ref a8, .ref a9, .ref a10, .ref a11, .ref a12, .ref a13, .ref a14, .ref a15, .ref a16] none (some 2))) c8 = some (.lst [.ref a1, .ref a2]) := upd_same
    replace h_l7 := s1 _ _ h_l7
    replace sB := sB.trans s1
    generalize upd K16 c8 (.lst (cutV [.ref a1, .ref a2, .ref a3, .ref a4, .ref a5, .ref a6, .ref a7, .ref a8, .ref a9, .ref a10, .ref a11, .ref a12, .ref a13, .ref a14, .ref a15, .ref a16] none (some 2))) = J1 at s1 sB h_l7 h_c8 ⊢
    clear s1 n1
    refine ⟨_, rfl, 6, rfl, 8, rfl, l7, _, rfl, .inl (.inl h_l7), fun c9 n1 => ?_⟩
    have s1 := same_upd (o := .lst (cutV [.ref a1, .ref a2, .ref a3, .ref a4, .ref a5, .ref a6, .ref a7, .ref a8, .ref a9, .ref a10, .ref a11, .ref a12, .ref a13, .ref a14, .ref a15, .ref a16] (some 6) (some 8))) n1
    have h_c9 : upd J1 c9 (.lst (cutV [.ref a1, .ref a2, .ref a3, .ref a4, .ref a5, .ref a6, .ref a7, .ref a8, .ref a9, .ref a10, .ref a11, .ref a12, .ref a13, .ref a14, .ref a15, .ref a16] (some 6) (some 8))) c9 = some (.lst [.ref a7, .ref a8]) := upd_same
    replace h_c8 := s1 _ _ h_c8
    replace h_l7 := s1 _ _ h_l7
    replace sB := sB.trans s1
    generalize upd J1 c9 (.lst (cutV [.ref a1, .ref a2, .ref a3, .ref a4, .ref a5, .ref a6, .ref a7, .ref a8, .ref a9, .ref a10, .ref a11, .ref a12, .ref a13, .ref a14, .ref a15, .ref a16] (some 6) (some 8))) = J2 at s1 sB h_l7 h_c9 h_c8 ⊢
    clear s1 n1
    refine ⟨c8, c9, _, _, rfl, rfl, h_c8, h_c9, (by show 4 ≤ sizeLine; decide), fun m10 n1 => ?_⟩
    have s1 := same_upd (o := .lst ([.ref a1, .ref a2] ++ [.ref a7, .ref a8])) n1
    have h_m10 : upd J2 m10 (.lst ([.ref a1, .ref a2] ++ [.ref a7, .ref a8])) m10 = some (.lst ([.ref a1, .ref a2, .ref a7, .ref a8])) := upd_same
    replace h_c8 := s1 _ _ h_c8
    replace h_c9 := s1 _ _ h_c9
    replace h_l7 := s1 _ _ h_l7
    replace sB := sB.trans s1
    generalize upd J2 m10 (.lst ([.ref a1, .ref a2] ++ [.ref a7, .ref a8])) = J3 at s1 sB h_l7 h_m10 h_c8 h_c9 ⊢
    clear s1 n1
    refine ⟨_, rfl, 10, rfl, 12, rfl, l7, _, rfl, .inl (.inl h_l7), fun c11 n1 => ?_⟩
    have s1 := same_upd (o := .lst (cutV [.ref a1, .ref a2, .ref a3, .ref a4, .ref a5, .ref a6, .ref a7, .ref a8, .ref a9, .ref a10, .ref a11, .ref a12, .ref a13, .ref a14, .ref a15, .ref a16] (some 10) (some 12))) n1
    have h_c11 : upd J3 c11 (.lst (cutV [.ref a1, .ref a2, .ref a3, .ref a4, .ref a5, .ref a6, .ref a7, .ref a8, .ref a9, .ref a10, .ref a11, .ref a12, .ref a13, .ref a14, .ref a15, .ref a16] (some 10) (some 12))) c11 = some (.lst [.ref a11, .ref a12]) := upd_same
    replace h_c8 := s1 _ _ h_c8
    replace h_c9 := s1 _ _ h_c9
    replace h_m10 := s1 _ _ h_m10
    replace h_l7 := s1 _ _ h_l7
    replace sB := sB.trans s1
    generalize upd J3 c11 (.lst (cutV [.ref a1, .ref a2, .ref a3, .ref a4, .ref a5, .ref a6, .ref a7, .ref a8, .ref a9, .ref a10, .ref a11, .ref a12, .ref a13, .ref a14, .ref a15, .ref a16] (some 10) (some 12))) = J4 at s1 sB h_l7 h_c11 h_c8 h_c9 h_m10 ⊢
    clear s1 n1
    refine ⟨m10, c11, _, _, rfl, rfl, h_m10, h_c11, (by show 6 ≤ sizeLine; decide), fun m12 n1 => ?_⟩
    have s1 := same_upd (o := .lst ([.ref a1, .ref a2, .ref a7, .ref a8] ++ [.ref a11, .ref a12])) n1
    have h_m12 : upd J4 m12 (.lst ([.ref a1, .ref a2, .ref a7, .ref a8] ++ [.ref a11, .ref a12])) m12 = some (.lst ([.ref a1, .ref a2, .ref a7, .ref a8, .ref a11, .ref a12])) := upd_same
    replace h_c8 := s1 _ _ h_c8
    replace h_c9 := s1 _ _ h_c9
    replace h_m10 := s1 _ _ h_m10
    replace h_c11 := s1 _ _ h_c11
    replace h_l7 := s1 _ _ h_l7
    replace sB := sB.trans s1
    generalize upd J4 m12 (.lst ([.ref a1, .ref a2, .ref a7, .ref a8] ++ [.ref a11, .ref a12])) = J5 at s1 sB h_l7 h_m12 h_c8 h_c9 h_m10 h_c11 ⊢
    clear s1 n1
    refine ⟨_, rfl, 14, rfl, l7, _, rfl, .inl (.inl h_l7), fun c13 n1 => ?_⟩
    have s1 := same_upd (o := .lst (cutV [.ref a1, .ref a2, .ref a3, .ref a4, .ref a5, .ref a6, .ref a7, .ref a8, .ref a9, .ref a10, .ref a11, .ref a12, .ref a13, .ref a14, .ref a15, .ref a16] (some 14) none)) n1
    have h_c13 : upd J5 c13 (.lst (cutV [.ref a1, .ref a2, .ref a3, .ref a4, .ref a5, .ref a6, .ref a7, .ref a8, .ref a9, .ref a10, .ref a11, .ref a12, .ref a13, .ref a14, .ref a15, .ref a16] (some 14) none)) c13 = some (.lst [.ref a15, .ref a16]) := upd_same
    replace h_c8 := s1 _ _ h_c8
    replace h_c9 := s1 _ _ h_c9
    replace h_m10 := s1 _ _ h_m10
    replace h_c11 := s1 _ _ h_c11
    replace h_m12 := s1 _ _ h_m12
    replace h_l7 := s1 _ _ h_l7
    replace sB := sB.trans s1
    generalize upd J5 c13 (.lst (cutV [.ref a1, .ref a2, .ref a3, .ref a4, .ref a5, .ref a6, .ref a7, .ref a8, .ref a9, .ref a10, .ref a11, .ref a12, .ref a13, .ref a14, .ref a15, .ref a16] (some 14) none)) = J6 at s1 sB h_l7 h_c13 h_c8 h_c9 h_m10 h_c11 h_m12 ⊢
    clear s1 n1
    refine ⟨m12, c13, _, _, rfl, rfl, h_m12, h_c13, (by show 8 ≤ sizeLine; decide), fun m14 n1 => ?_⟩
    have s1 := same_upd (o := .lst ([.ref a1, .ref a2, .ref a7, .ref a8, .ref a11, .ref a12] ++ [.ref a15, .ref a16])) n1
    have h_m14 : upd J6 m14 (.lst ([.ref a1, .ref a2, .ref a7, .ref a8, .ref a11, .ref a12] ++ [.ref a15, .ref a16])) m14 = some (.lst ([.ref a1, .ref a2, .ref a7, .ref a8, .ref a11, .ref a12, .ref a15, .ref a16])) := upd_same
    replace h_c8 := s1 _ _ h_c8
    replace h_c9 := s1 _ _ h_c9
    replace h_m10 := s1 _ _ h_m10
    replace h_c11 := s1 _ _ h_c11
    replace h_m12 := s1 _ _ h_m12
    replace h_c13 := s1 _ _ h_c13
    replace h_l7 := s1 _ _ h_l7
    replace sB := sB.trans s1
    generalize upd J6 m14 (.lst ([.ref a1, .ref a2, .ref a7, .ref a8, .ref a11, .ref a12] ++ [.ref a15, .ref a16])) = J7 at s1 sB h_l7 h_m14 h_c8 h_c9 h_m10 h_c11 h_m12 h_c13 ⊢
    clear s1 n1
    refine ⟨m14, rfl, ⟨_, .inl (.inl (show J7 m14 = some (.lst [.ref a1, .ref a2, .ref a7, .ref a8, .ref a11, .ref a12, .ref a15, .ref a16]) from h_m14))⟩, fun D15 nD => ?_⟩
    have fl : ∀ x ∈ ([.ref a1, .ref a2, .ref a7, .ref a8, .ref a11, .ref a12, .ref a15, .ref a16] : List V), ∃ a : Addr, x = .ref a ∧ FieldAt K v "index" J7 a := fun x hx => by
      simp only [List.mem_cons, List.not_mem_nil, or_false] at hx
      rcases hx with rfl | rfl | rfl | rfl | rfl | rfl | rfl | rfl
      · exact ⟨_, rfl, f_a1.same sB⟩
      · exact ⟨_, rfl, f_a2.same sB⟩
      · exact ⟨_, rfl, f_a7.same sB⟩
      · exact ⟨_, rfl, f_a8.same sB⟩
      · exact ⟨_, rfl, f_a11.same sB⟩
      · exact ⟨_, rfl, f_a12.same sB⟩
      · exact ⟨_, rfl, f_a15.same sB⟩
      · exact ⟨_, rfl, f_a16.same sB⟩
    refine lc_list (xs := [.ref a1, .ref a2, .ref a7, .ref a8, .ref a11, .ref a12, .ref a15, .ref a16]) (fun i G => G D15 = some (.lst (List.replicate i v)) ∧ Same J7 G) ⟨upd_same, same_upd nD⟩ (fun i G _ hI => .inl (.inl (hI.2 _ _ h_m14))) (fun i x G hx hI => ?_) (fun G hI => ?_)
    · obtain ⟨hD, sm⟩ := hI
      obtain ⟨a, rfl, C, dd, xf, noN, hk, hd⟩ := fl x (List.mem_of_getElem? hx)
      have li := (List.getElem?_eq_some_iff.mp hx).1
      refine ⟨rfl, _, rfl, C, a, dd, _, v, xf, noN, rfl, sm _ _ hk, sm _ _ hd, lookup_one, _, hD, ?_, ?_, fun b o e => ?_⟩
      · rw [List.length_replicate]; exact len_lt (Nat.le_trans (Nat.le_of_lt li) (by show 8 ≤ 100000; decide))
      · rw [upd_same, List.replicate_succ']
      · rw [upd_ne (ne_of_none e nD)]; exact sm b o e
    obtain ⟨hD0, s1⟩ := hI
    have h_D15 : G D15 = some (.lst (List.replicate 8 v)) := hD0
    replace h_c8 := s1 _ _ h_c8
    replace h_c9 := s1 _ _ h_c9
    replace h_m10 := s1 _ _ h_m10
    replace h_c11 := s1 _ _ h_c11
    replace h_m12 := s1 _ _ h_m12
    replace h_c13 := s1 _ _ h_c13
    replace h_m14 := s1 _ _ h_m14
    replace h_l7 := s1 _ _ h_l7
    replace sB := sB.trans s1
    clear s1 hD0 fl nD
    refine ⟨_, rfl, ?_⟩
    refine ⟨_, rfl, 2, rfl, 4, rfl, l7, _, rfl, .inl (.inl h_l7), fun c16 n1 => ?_⟩
    have s1 := same_upd (o := .lst (cutV [.ref a1, .ref a2, .ref a3, .ref a4, .ref a5, .ref a6, .ref a7, .ref a8, .ref a9, .ref a10, .ref a11, .ref a12, .ref a13, .ref a14, .ref a15, .ref a16] (some 2) (some 4))) n1
    have h_c16 : upd G c16 (.lst (cutV [.ref a1, .ref a2, .ref a3, .ref a4, .ref a5, .ref a6, .ref a7, .ref a8, .ref a9, .ref a10, .ref a11, .ref a12, .ref a13, .ref a14, .ref a15, .ref a16] (some 2) (some 4))) c16 = some (.lst [.ref a3, .ref a4]) := upd_same
    replace h_c8 := s1 _ _ h_c8
    replace h_c9 := s1 _ _ h_c9
    replace h_m10 := s1 _ _ h_m10
    replace h_c11 := s1 _ _ h_c11
    replace h_m12 := s1 _ _ h_m12
    replace h_c13 := s1 _ _ h_c13
    replace h_m14 := s1 _ _ h_m14
    replace h_D15 := s1 _ _ h_D15
    replace h_l7 := s1 _ _ h_l7
    replace sB := sB.trans s1
    generalize upd G c16 (.lst (cutV [.ref a1, .ref a2, .ref a3, .ref a4, .ref a5, .ref a6, .ref a7, .ref a8, .ref a9, .ref a10, .ref a11, .ref a12, .ref a13, .ref a14, .ref a15, .ref a16] (some 2) (some 4))) = J9 at s1 sB h_l7 h_c16 h_c8 h_c9 h_m10 h_c11 h_m12 h_c13 h_m14 h_D15 ⊢
    clear s1 n1
    refine ⟨c16, rfl, ⟨_, .inl (.inl (show J9 c16 = some (.lst [.ref a3, .ref a4]) from h_c16))⟩, fun D17 nD => ?_⟩
    have fl : ∀ x ∈ ([.ref a3, .ref a4] : List V), ∃ a : Addr, x = .ref a ∧ FieldAt K v "number" J9 a := fun x hx => by
      simp only [List.mem_cons, List.not_mem_nil, or_false] at hx
      rcases hx with rfl | rfl
      · exact ⟨_, rfl, f_a3.same sB⟩
      · exact ⟨_, rfl, f_a4.same sB⟩
    refine lc_list (xs := [.ref a3, .ref a4]) (fun i G => G D17 = some (.lst (List.replicate i v)) ∧ Same J9 G) ⟨upd_same, same_upd nD⟩ (fun i G _ hI => .inl (.inl (hI.2 _ _ h_c16))) (fun i x G hx hI => ?_) (fun G hI => ?_)
    · obtain ⟨hD, sm⟩ := hI
      obtain ⟨a, rfl, C, dd, xf, noN, hk, hd⟩ := fl x (List.mem_of_getElem? hx)
      have li := (List.getElem?_eq_some_iff.mp hx).1
      refine ⟨rfl, _, rfl, C, a, dd, _, v, xf, noN, rfl, sm _ _ hk, sm _ _ hd, lookup_one, _, hD, ?_, ?_, fun b o e => ?_⟩
      · rw [List.length_replicate]; exact len_lt (Nat.le_trans (Nat.le_of_lt li) (by show 2 ≤ 100000; decide))
      · rw [upd_same, List.replicate_succ']
      · rw [upd_ne (ne_of_none e nD)]; exact sm b o e
    obtain ⟨hD0, s1⟩ := hI
    have h_D17 : G D17 = some (.lst (List.replicate 2 v)) := hD0
    replace h_c8 := s1 _ _ h_c8
    replace h_c9 := s1 _ _ h_c9
    replace h_m10 := s1 _ _ h_m10
    replace h_c11 := s1 _ _ h_c11
    replace h_m12 := s1 _ _ h_m12
    replace h_c13 := s1 _ _ h_c13
    replace h_m14 := s1 _ _ h_m14
    replace h_D15 := s1 _ _ h_D15
    replace h_c16 := s1 _ _ h_c16
    replace h_l7 := s1 _ _ h_l7
    replace sB := sB.trans s1
    clear s1 hD0 fl nD
    refine ⟨D15, D17, _, _, rfl, rfl, h_D15, h_D17, (by show 10 ≤ sizeLine; decide), fun m18 n1 => ?_⟩
    have s1 := same_upd (o := .lst (List.replicate 8 v ++ List.replicate 2 v)) n1
    have h_m18 : upd G m18 (.lst (List.replicate 8 v ++ List.replicate 2 v)) m18 = some (.lst (List.replicate 10 v)) := upd_same
    replace h_c8 := s1 _ _ h_c8
    replace h_c9 := s1 _ _ h_c9
    replace h_m10 := s1 _ _ h_m10
    replace h_c11 := s1 _ _ h_c11
    replace h_m12 := s1 _ _ h_m12
    replace h_c13 := s1 _ _ h_c13
    replace h_m14 := s1 _ _ h_m14
    replace h_D15 := s1 _ _ h_D15
    replace h_c16 := s1 _ _ h_c16
    replace h_D17 := s1 _ _ h_D17
    replace h_l7 := s1 _ _ h_l7
    replace sB := sB.trans s1
    generalize upd G m18 (.lst (List.replicate 8 v ++ List.replicate 2 v)) = J11 at s1 sB h_l7 h_m18 h_c8 h_c9 h_m10 h_c11 h_m12 h_c13 h_m14 h_D15 h_c16 h_D17 ⊢
    clear s1 n1
    refine ⟨_, rfl, 4, rfl, 6, rfl, l7, _, rfl, .inl (.inl h_l7), fun c19 n1 => ?_⟩
    have s1 := same_upd (o := .lst (cutV [.ref a1, .ref a2, .ref a3, .ref a4, .ref a5, .ref a6, .ref a7, .ref a8, .ref a9, .ref a10, .ref a11, .ref a12, .ref a13, .ref a14, .ref a15, .ref a16] (some 4) (some 6))) n1
    have h_c19 : upd J11 c19 (.lst (cutV [.ref a1, .ref a2, .ref a3, .ref a4, .ref a5, .ref a6, .ref a7, .ref a8, .ref a9, .ref a10, .ref a11, .ref a12, .ref a13, .ref a14, .ref a15, .ref a16] (some 4) (some 6))) c19 = some (.lst [.ref a5, .ref a6]) := upd_same
    replace h_c8 := s1 _ _ h_c8
    replace h_c9 := s1 _ _ h_c9
    replace h_m10 := s1 _ _ h_m10
    replace h_c11 := s1 _ _ h_c11
    replace h_m12 := s1 _ _ h_m12
    replace h_c13 := s1 _ _ h_c13
    replace h_m14 := s1 _ _ h_m14
    replace h_D15 := s1 _ _ h_D15
    replace h_c16 := s1 _ _ h_c16
    replace h_D17 := s1 _ _ h_D17
    replace h_m18 := s1 _ _ h_m18
    replace h_l7 := s1 _ _ h_l7
    replace sB := sB.trans s1
    generalize upd J11 c19 (.lst (cutV [.ref a1, .ref a2, .ref a3, .ref a4, .ref a5, .ref a6, .ref a7, .ref a8, .ref a9, .ref a10, .ref a11, .ref a12, .ref a13, .ref a14, .ref a15, .ref a16] (some 4) (some 6))) = J12 at s1 sB h_l7 h_c19 h_c8 h_c9 h_m10 h_c11 h_m12 h_c13 h_m14 h_D15 h_c16 h_D17 h_m18 ⊢
    clear s1 n1
    refine ⟨c19, rfl, ⟨_, .inl (.inl (show J12 c19 = some (.lst [.ref a5, .ref a6]) from h_c19))⟩, fun D20 nD => ?_⟩
    have fl : ∀ x ∈ ([.ref a5, .ref a6] : List V), ∃ a : Addr, x = .ref a ∧ FieldAt K v "kind" J12 a := fun x hx => by
      simp only [List.mem_cons, List.not_mem_nil, or_false] at hx
      rcases hx with rfl | rfl
      · exact ⟨_, rfl, f_a5.same sB⟩
      · exact ⟨_, rfl, f_a6.same sB⟩
    refine lc_list (xs := [.ref a5, .ref a6]) (fun i G => G D20 = some (.lst (List.replicate i v)) ∧ Same J12 G) ⟨upd_same, same_upd nD⟩ (fun i G _ hI => .inl (.inl (hI.2 _ _ h_c19))) (fun i x G hx hI => ?_) (fun G hI => ?_)
    · obtain ⟨hD, sm⟩ := hI
      obtain ⟨a, rfl, C, dd, xf, noN, hk, hd⟩ := fl x (List.mem_of_getElem? hx)
      have li := (List.getElem?_eq_some_iff.mp hx).1
      refine ⟨rfl, _, rfl, C, a, dd, _, v, xf, noN, rfl, sm _ _ hk, sm _ _ hd, lookup_one, _, hD, ?_, ?_, fun b o e => ?_⟩
      · rw [List.length_replicate]; exact len_lt (Nat.le_trans (Nat.le_of_lt li) (by show 2 ≤ 100000; decide))
      · rw [upd_same, List.replicate_succ']
      · rw [upd_ne (ne_of_none e nD)]; exact sm b o e
    obtain ⟨hD0, s1⟩ := hI
    have h_D20 : G D20 = some (.lst (List.replicate 2 v)) := hD0
    replace h_c8 := s1 _ _ h_c8
    replace h_c9 := s1 _ _ h_c9
    replace h_m10 := s1 _ _ h_m10
    replace h_c11 := s1 _ _ h_c11
    replace h_m12 := s1 _ _ h_m12
    replace h_c13 := s1 _ _ h_c13
    replace h_m14 := s1 _ _ h_m14
    replace h_D15 := s1 _ _ h_D15
    replace h_c16 := s1 _ _ h_c16
    replace h_D17 := s1 _ _ h_D17
    replace h_m18 := s1 _ _ h_m18
    replace h_c19 := s1 _ _ h_c19
    replace h_l7 := s1 _ _ h_l7
    replace sB := sB.trans s1
    clear s1 hD0 fl nD
    refine ⟨m18, D20, _, _, rfl, rfl, h_m18, h_D20, (by show 12 ≤ sizeLine; decide), fun m21 n1 => ?_⟩
    have s1 := same_upd (o := .lst (List.replicate 10 v ++ List.replicate 2 v)) n1
    have h_m21 : upd G m21 (.lst (List.replicate 10 v ++ List.replicate 2 v)) m21 = some (.lst (List.replicate 12 v)) := upd_same
    replace h_c8 := s1 _ _ h_c8
    replace h_c9 := s1 _ _ h_c9
    replace h_m10 := s1 _ _ h_m10
    replace h_c11 := s1 _ _ h_c11
    replace h_m12 := s1 _ _ h_m12
    replace h_c13 := s1 _ _ h_c13
    replace h_m14 := s1 _ _ h_m14
    replace h_D15 := s1 _ _ h_D15
    replace h_c16 := s1 _ _ h_c16
    replace h_D17 := s1 _ _ h_D17
    replace h_m18 := s1 _ _ h_m18
    replace h_c19 := s1 _ _ h_c19
    replace h_D20 := s1 _ _ h_D20
    replace h_l7 := s1 _ _ h_l7
    replace sB := sB.trans s1
    generalize upd G m21 (.lst (List.replicate 10 v ++ List.replicate 2 v)) = J14 at s1 sB h_l7 h_m21 h_c8 h_c9 h_m10 h_c11 h_m12 h_c13 h_m14 h_D15 h_c16 h_D17 h_m18 h_c19 h_D20 ⊢
    clear s1 n1
    refine ⟨_, rfl, ?_⟩
    refine ⟨_, rfl, ?_⟩
    refine ⟨_, rfl, 8, rfl, 10, rfl, l7, _, rfl, .inl (.inl h_l7), fun c22 n1 => ?_⟩
    have s1 := same_upd (o := .lst (cutV [.ref a1, .ref a2, .ref a3, .ref a4, .ref a5, .ref a6, .ref a7, .ref a8, .ref a9, .ref a10, .ref a11, .ref a12, .ref a13, .ref a14, .ref a15, .ref a16] (some 8) (some 10))) n1
    have h_c22 : upd J14 c22 (.lst (cutV [.ref a1, .ref a2, .ref a3, .ref a4, .ref a5, .ref a6, .ref a7, .ref a8, .ref a9, .ref a10, .ref a11, .ref a12, .ref a13, .ref a14, .ref a15, .ref a16] (some 8) (some 10))) c22 = some (.lst [.ref a9, .ref a10]) := upd_same
    replace h_c8 := s1 _ _ h_c8
    replace h_c9 := s1 _ _ h_c9
    replace h_m10 := s1 _ _ h_m10
    replace h_c11 := s1 _ _ h_c11
    replace h_m12 := s1 _ _ h_m12
    replace h_c13 := s1 _ _ h_c13
    replace h_m14 := s1 _ _ h_m14
    replace h_D15 := s1 _ _ h_D15
    replace h_c16 := s1 _ _ h_c16
    replace h_D17 := s1 _ _ h_D17
    replace h_m18 := s1 _ _ h_m18
    replace h_c19 := s1 _ _ h_c19
    replace h_D20 := s1 _ _ h_D20
    replace h_m21 := s1 _ _ h_m21
    replace h_l7 := s1 _ _ h_l7
    replace sB := sB.trans s1
    generalize upd J14 c22 (.lst (cutV [.ref a1, .ref a2, .ref a3, .ref a4, .ref a5, .ref a6, .ref a7, .ref a8, .ref a9, .ref a10, .ref a11, .ref a12, .ref a13, .ref a14, .ref a15, .ref a16] (some 8) (some 10))) = J15 at s1 sB h_l7 h_c22 h_c8 h_c9 h_m10 h_c11 h_m12 h_c13 h_m14 h_D15 h_c16 h_D17 h_m18 h_c19 h_D20 h_m21 ⊢
    clear s1 n1
    refine ⟨c22, rfl, ⟨_, .inl (.inl (show J15 c22 = some (.lst [.ref a9, .ref a10]) from h_c22))⟩, fun D23 nD => ?_⟩
    have fl : ∀ x ∈ ([.ref a9, .ref a10] : List V), ∃ a : Addr, x = .ref a ∧ FieldAt K v "size" J15 a := fun x hx => by
      simp only [List.mem_cons, List.not_mem_nil, or_false] at hx
      rcases hx with rfl | rfl
      · exact ⟨_, rfl, f_a9.same sB⟩
      · exact ⟨_, rfl, f_a10.same sB⟩
    refine lc_list (xs := [.ref a9, .ref a10]) (fun i G => G D23 = some (.lst (List.replicate i v)) ∧ Same J15 G) ⟨upd_same, same_upd nD⟩ (fun i G _ hI => .inl (.inl (hI.2 _ _ h_c22))) (fun i x G hx hI => ?_) (fun G hI => ?_)
    · obtain ⟨hD, sm⟩ := hI
      obtain ⟨a, rfl, C, dd, xf, noN, hk, hd⟩ := fl x (List.mem_of_getElem? hx)
      have li := (List.getElem?_eq_some_iff.mp hx).1
      refine ⟨rfl, _, rfl, C, a, dd, _, v, xf, noN, rfl, sm _ _ hk, sm _ _ hd, lookup_one, _, hD, ?_, ?_, fun b o e => ?_⟩
      · rw [List.length_replicate]; exact len_lt (Nat.le_trans (Nat.le_of_lt li) (by show 2 ≤ 100000; decide))
      · rw [upd_same, List.replicate_succ']
      · rw [upd_ne (ne_of_none e nD)]; exact sm b o e
    obtain ⟨hD0, s1⟩ := hI
    have h_D23 : G D23 = some (.lst (List.replicate 2 v)) := hD0
    replace h_c8 := s1 _ _ h_c8
    replace h_c9 := s1 _ _ h_c9
    replace h_m10 := s1 _ _ h_m10
    replace h_c11 := s1 _ _ h_c11
    replace h_m12 := s1 _ _ h_m12
    replace h_c13 := s1 _ _ h_c13
    replace h_m14 := s1 _ _ h_m14
    replace h_D15 := s1 _ _ h_D15
    replace h_c16 := s1 _ _ h_c16
    replace h_D17 := s1 _ _ h_D17
    replace h_m18 := s1 _ _ h_m18
    replace h_c19 := s1 _ _ h_c19
    replace h_D20 := s1 _ _ h_D20
    replace h_m21 := s1 _ _ h_m21
    replace h_c22 := s1 _ _ h_c22
    replace h_l7 := s1 _ _ h_l7
    replace sB := sB.trans s1
    clear s1 hD0 fl nD
    refine ⟨m21, D23, _, _, rfl, rfl, h_m21, h_D23, (by show 14 ≤ sizeLine; decide), fun m24 n1 => ?_⟩
    have s1 := same_upd (o := .lst (List.replicate 12 v ++ List.replicate 2 v)) n1
    have h_m24 : upd G m24 (.lst (List.replicate 12 v ++ List.replicate 2 v)) m24 = some (.lst (List.replicate 14 v)) := upd_same
    replace h_c8 := s1 _ _ h_c8
    replace h_c9 := s1 _ _ h_c9
    replace h_m10 := s1 _ _ h_m10
    replace h_c11 := s1 _ _ h_c11
    replace h_m12 := s1 _ _ h_m12
    replace h_c13 := s1 _ _ h_c13
    replace h_m14 := s1 _ _ h_m14
    replace h_D15 := s1 _ _ h_D15
    replace h_c16 := s1 _ _ h_c16
    replace h_D17 := s1 _ _ h_D17
    replace h_m18 := s1 _ _ h_m18
    replace h_c19 := s1 _ _ h_c19
    replace h_D20 := s1 _ _ h_D20
    replace h_m21 := s1 _ _ h_m21
    replace h_c22 := s1 _ _ h_c22
    replace h_D23 := s1 _ _ h_D23
    replace h_l7 := s1 _ _ h_l7
    replace sB := sB.trans s1
    generalize upd G m24 (.lst (List.replicate 12 v ++ List.replicate 2 v)) = J17 at s1 sB h_l7 h_m24 h_c8 h_c9 h_m10 h_c11 h_m12 h_c13 h_m14 h_D15 h_c16 h_D17 h_m18 h_c19 h_D20 h_m21 h_c22 h_D23 ⊢
    clear s1 n1
    refine ⟨_, rfl, 12, rfl, 14, rfl, l7, _, rfl, .inl (.inl h_l7), fun c25 n1 => ?_⟩
    have s1 := same_upd (o := .lst (cutV [.ref a1, .ref a2, .ref a3, .ref a4, .ref a5, .ref a6, .ref a7, .ref a8, .ref a9, .ref a10, .ref a11, .ref a12, .ref a13, .ref a14, .ref a15, .ref a16] (some 12) (some 14))) n1
    have h_c25 : upd J17 c25 (.lst (cutV [.ref a1, .ref a2, .ref a3, .ref a4, .ref a5, .ref a6, .ref a7, .ref a8, .ref a9, .ref a10, .ref a11, .ref a12, .ref a13, .ref a14, .ref a15, .ref a16] (some 12) (some 14))) c25 = some (.lst [.ref a13, .ref a14]) := upd_same
    replace h_c8 := s1 _ _ h_c8
    replace h_c9 := s1 _ _ h_c9
    replace h_m10 := s1 _ _ h_m10
    replace h_c11 := s1 _ _ h_c11
    replace h_m12 := s1 _ _ h_m12
    replace h_c13 := s1 _ _ h_c13
    replace h_m14 := s1 _ _ h_m14
    replace h_D15 := s1 _ _ h_D15
    replace h_c16 := s1 _ _ h_c16
    replace h_D17 := s1 _ _ h_D17
    replace h_m18 := s1 _ _ h_m18
    replace h_c19 := s1 _ _ h_c19
    replace h_D20 := s1 _ _ h_D20
    replace h_m21 := s1 _ _ h_m21
    replace h_c22 := s1 _ _ h_c22
    replace h_D23 := s1 _ _ h_D23
    replace h_m24 := s1 _ _ h_m24
    replace h_l7 := s1 _ _ h_l7
    replace sB := sB.trans s1
    generalize upd J17 c25 (.lst (cutV [.ref a1, .ref a2, .ref a3, .ref a4, .ref a5, .ref a6, .ref a7, .ref a8, .ref a9, .ref a10, .ref a11, .ref a12, .ref a13, .ref a14, .ref a15, .ref a16] (some 12) (some 14))) = J18 at s1 sB h_l7 h_c25 h_c8 h_c9 h_m10 h_c11 h_m12 h_c13 h_m14 h_D15 h_c16 h_D17 h_m18 h_c19 h_D20 h_m21 h_c22 h_D23 h_m24 ⊢
    clear s1 n1
    refine ⟨c25, rfl, ⟨_, .inl (.inl (show J18 c25 = some (.lst [.ref a13, .ref a14]) from h_c25))⟩, fun D26 nD => ?_⟩
    have fl : ∀ x ∈ ([.ref a13, .ref a14] : List V), ∃ a : Addr, x = .ref a ∧ FieldAt K v "text" J18 a := fun x hx => by
      simp only [List.mem_cons, List.not_mem_nil, or_false] at hx
      rcases hx with rfl | rfl
      · exact ⟨_, rfl, f_a13.same sB⟩
      · exact ⟨_, rfl, f_a14.same sB⟩
    refine lc_list (xs := [.ref a13, .ref a14]) (fun i G => G D26 = some (.lst (List.replicate i v)) ∧ Same J18 G) ⟨upd_same, same_upd nD⟩ (fun i G _ hI => .inl (.inl (hI.2 _ _ h_c25))) (fun i x G hx hI => ?_) (fun G hI => ?_)
    · obtain ⟨hD, sm⟩ := hI
      obtain ⟨a, rfl, C, dd, xf, noN, hk, hd⟩ := fl x (List.mem_of_getElem? hx)
      have li := (List.getElem?_eq_some_iff.mp hx).1
      refine ⟨rfl, _, rfl, C, a, dd, _, v, xf, noN, rfl, sm _ _ hk, sm _ _ hd, lookup_one, _, hD, ?_, ?_, fun b o e => ?_⟩
      · rw [List.length_replicate]; exact len_lt (Nat.le_trans (Nat.le_of_lt li) (by show 2 ≤ 100000; decide))
      · rw [upd_same, List.replicate_succ']
      · rw [upd_ne (ne_of_none e nD)]; exact sm b o e
    obtain ⟨hD0, s1⟩ := hI
    have h_D26 : G D26 = some (.lst (List.replicate 2 v)) := hD0
    replace h_c8 := s1 _ _ h_c8
    replace h_c9 := s1 _ _ h_c9
    replace h_m10 := s1 _ _ h_m10
    replace h_c11 := s1 _ _ h_c11
    replace h_m12 := s1 _ _ h_m12
    replace h_c13 := s1 _ _ h_c13
    replace h_m14 := s1 _ _ h_m14
    replace h_D15 := s1 _ _ h_D15
    replace h_c16 := s1 _ _ h_c16
    replace h_D17 := s1 _ _ h_D17
    replace h_m18 := s1 _ _ h_m18
    replace h_c19 := s1 _ _ h_c19
    replace h_D20 := s1 _ _ h_D20
    replace h_m21 := s1 _ _ h_m21
    replace h_c22 := s1 _ _ h_c22
    replace h_D23 := s1 _ _ h_D23
    replace h_m24 := s1 _ _ h_m24
    replace h_c25 := s1 _ _ h_c25
    replace h_l7 := s1 _ _ h_l7
    replace sB := sB.trans s1
    clear s1 hD0 fl nD
    refine ⟨m24, D26, _, _, rfl, rfl, h_m24, h_D26, (by show 16 ≤ sizeLine; decide), fun m27 n1 => ?_⟩
    have s1 := same_upd (o := .lst (List.replicate 14 v ++ List.replicate 2 v)) n1
    have h_m27 : upd G m27 (.lst (List.replicate 14 v ++ List.replicate 2 v)) m27 = some (.lst (List.replicate 16 v)) := upd_same
    replace h_c8 := s1 _ _ h_c8
    replace h_c9 := s1 _ _ h_c9
    replace h_m10 := s1 _ _ h_m10
    replace h_c11 := s1 _ _ h_c11
    replace h_m12 := s1 _ _ h_m12
    replace h_c13 := s1 _ _ h_c13
    replace h_m14 := s1 _ _ h_m14
    replace h_D15 := s1 _ _ h_D15
    replace h_c16 := s1 _ _ h_c16
    replace h_D17 := s1 _ _ h_D17
    replace h_m18 := s1 _ _ h_m18
    replace h_c19 := s1 _ _ h_c19
    replace h_D20 := s1 _ _ h_D20
    replace h_m21 := s1 _ _ h_m21
    replace h_c22 := s1 _ _ h_c22
    replace h_D23 := s1 _ _ h_D23
    replace h_m24 := s1 _ _ h_m24
    replace h_c25 := s1 _ _ h_c25
    replace h_D26 := s1 _ _ h_D26
    replace h_l7 := s1 _ _ h_l7
    replace sB := sB.trans s1
    generalize upd G m27 (.lst (List.replicate 14 v ++ List.replicate 2 v)) = J20 at s1 sB h_l7 h_m27 h_c8 h_c9 h_m10 h_c11 h_m12 h_c13 h_m14 h_D15 h_c16 h_D17 h_m18 h_c19 h_D20 h_m21 h_c22 h_D23 h_m24 h_c25 h_D26 ⊢
    clear s1 n1
    refine ⟨(by show 2 ≤ sizeLine; decide), fun r n1 => ?_⟩
    have s1 := same_upd (o := .lst [.ref l7, .ref m27]) n1
    refine q r l7 m27 [a1, a2, a3, a4, a5, a6, a7, a8, a9, a10, a11, a12, a13, a14, a15, a16] _ (sA.trans (sB.trans s1)) upd_same (s1 _ _ h_l7) ?_ (s1 _ _ h_m27)
    exact sorts_of (mm.same (sB.trans s1))
end
section
variable {P : Program} {w : World} {K : PySem.W.Frag} {mg : Str → Option Value} {base : Heap}
abbrev s__law_second : Stmt := top 45
abbrev N__law_second : List Str := ["_law_thing", "_law_made", "_law_shown", "_law_one"]
theorem sc__law_second : FnScope N__law_second ["_law_thing"] (defScope s__law_second) := ⟨rfl, rfl, rfl, by decide +kernel, rfl, by decide +kernel, by decide +kernel⟩
theorem ok_second (D : Df K mg "_law_second" s__law_second) (eks : EksOk P w K mg base) (sos : SosOk K) : Cl P w K mg base 3 "_law_second" s__law_second ["_law_thing"] (spMade K [8, 8, 9, 9, 10, 10, 11, 11, 12, 12, 13, 13, 14, 14, 15, 15, 16, 16]) := by
  refine D.ok sc__law_second (fun _ _ _ _ _ _ us hl => match us, hl with | [_], _ => rfl) (fun vs H Q E h => ?_) (fun f cdv A outer s H vs Q E hr h => ?_)
  · obtain ⟨v, rfl, _⟩ := h
    rfl
  · obtain ⟨v, rfl, q⟩ := h
    have ek_InvalidWishes : EK P w K mg base "InvalidWishes" "index" := eks ("InvalidWishes", "index") (by decide)
    obtain ⟨so_InvalidWishes, nb_InvalidWishes⟩ : SortOk K "InvalidWishes" 8 ∧ NoB K "InvalidWishes" := sos (8, "InvalidWishes") (by decide)
    have ek_InvalidRecord : EK P w K mg base "InvalidRecord" "index" := eks ("InvalidRecord", "index") (by decide)
    obtain ⟨so_InvalidRecord, nb_InvalidRecord⟩ : SortOk K "InvalidRecord" 9 ∧ NoB K "InvalidRecord" := sos (9, "InvalidRecord") (by decide)
    have ek_InvalidPattern : EK P w K mg base "InvalidPattern" "index" := eks ("InvalidPattern", "index") (by decide)
    obtain ⟨so_InvalidPattern, nb_InvalidPattern⟩ : SortOk K "InvalidPattern" 10 ∧ NoB K "InvalidPattern" := sos (10, "InvalidPattern") (by decide)
    have ek_InvalidShare : EK P w K mg base "InvalidShare" "share" := eks ("InvalidShare", "share") (by decide)
    obtain ⟨so_InvalidShare, nb_InvalidShare⟩ : SortOk K "InvalidShare" 11 ∧ NoB K "InvalidShare" := sos (11, "InvalidShare") (by decide)
    have ek_InvalidPeople : EK P w K mg base "InvalidPeople" "index" := eks ("InvalidPeople", "index") (by decide)
    obtain ⟨so_InvalidPeople, nb_InvalidPeople⟩ : SortOk K "InvalidPeople" 12 ∧ NoB K "InvalidPeople" := sos (12, "InvalidPeople") (by decide)
    have ek_InvalidName : EK P w K mg base "InvalidName" "name" := eks ("InvalidName", "name") (by decide)
    obtain ⟨so_InvalidName, nb_InvalidName⟩ : SortOk K "InvalidName" 13 ∧ NoB K "InvalidName" := sos (13, "InvalidName") (by decide)
    have ek_InvalidHeight : EK P w K mg base "InvalidHeight" "height" := eks ("InvalidHeight", "height") (by decide)
    obtain ⟨so_InvalidHeight, nb_InvalidHeight⟩ : SortOk K "InvalidHeight" 14 ∧ NoB K "InvalidHeight" := sos (14, "InvalidHeight") (by decide)
    have ek_InvalidDeed : EK P w K mg base "InvalidDeed" "index" := eks ("InvalidDeed", "index") (by decide)
    obtain ⟨so_InvalidDeed, nb_InvalidDeed⟩ : SortOk K "InvalidDeed" 15 ∧ NoB K "InvalidDeed" := sos (15, "InvalidDeed") (by decide)
    have ek_InvalidCommand : EK P w K mg base "InvalidCommand" "line" := eks ("InvalidCommand", "line") (by decide)
    obtain ⟨so_InvalidCommand, nb_InvalidCommand⟩ : SortOk K "InvalidCommand" 16 ∧ NoB K "InvalidCommand" := sos (16, "InvalidCommand") (by decide)
    refine ⟨_, 
      (pss_cons (ps_set (i := 1) sc__law_second.nd rfl (Or.inl rfl) (pe_lst (pa_cons (pe_kept (pmk_tA (K := K) rfl ek_InvalidWishes.toET hr (by omega) (by rfl) (pa_cons (pv 0) pa_nil))) (pa_cons (pe_kept (pmk_tkA (K := K) rfl ek_InvalidWishes hr (by omega) (by rfl) (pk_cons (pv 0) pk_nil))) (pa_cons (pe_kept (pmk_tA (K := K) rfl ek_InvalidRecord.toET hr (by omega) (by rfl) (pa_cons (pv 0) pa_nil))) (pa_cons (pe_kept (pmk_tkA (K := K) rfl ek_InvalidRecord hr (by omega) (by rfl) (pk_cons (pv 0) pk_nil))) pa_nil)))))) 
      (pss_cons (ps_set (i := 1) sc__law_second.nd rfl (Or.inl rfl) (pe_op op_cat (pv 1) (pe_lst (pa_cons (pe_kept (pmk_tA (K := K) rfl ek_InvalidPattern.toET hr (by omega) (by rfl) (pa_cons (pv 0) pa_nil))) (pa_cons (pe_kept (pmk_tkA (K := K) rfl ek_InvalidPattern hr (by omega) (by rfl) (pk_cons (pv 0) pk_nil))) (pa_cons (pe_kept (pmk_tA (K := K) rfl ek_InvalidShare.toET hr (by omega) (by rfl) (pa_cons (pv 0) pa_nil))) (pa_cons (pe_kept (pmk_tkA (K := K) rfl ek_InvalidShare hr (by omega) (by rfl) (pk_cons (pv 0) pk_nil))) pa_nil))))))) 
      (pss_cons (ps_set (i := 1) sc__law_second.nd rfl (Or.inl rfl) (pe_op op_cat (pv 1) (pe_lst (pa_cons (pe_kept (pmk_tA (K := K) rfl ek_InvalidPeople.toET hr (by omega) (by rfl) (pa_cons (pv 0) pa_nil))) (pa_cons (pe_kept (pmk_tkA (K := K) rfl ek_InvalidPeople hr (by omega) (by rfl) (pk_cons (pv 0) pk_nil))) (pa_cons (pe_kept (pmk_tA (K := K) rfl ek_InvalidName.toET hr (by omega) (by rfl) (pa_cons (pv 0) pa_nil))) (pa_cons (pe_kept (pmk_tkA (K := K) rfl ek_InvalidName hr (by omega) (by rfl) (pk_cons (pv 0) pk_nil))) pa_nil))))))) 
      (pss_cons (ps_set (i := 1) sc__law_second.nd rfl (Or.inl rfl) (pe_op op_cat (pv 1) (pe_lst (pa_cons (pe_kept (pmk_tA (K := K) rfl ek_InvalidHeight.toET hr (by omega) (by rfl) (pa_cons (pv 0) pa_nil))) (pa_cons (pe_kept (pmk_tkA (K := K) rfl ek_InvalidHeight hr (by omega) (by rfl) (pk_cons (pv 0) pk_nil))) (pa_cons (pe_kept (pmk_tA (K := K) rfl ek_InvalidDeed.toET hr (by omega) (by rfl) (pa_cons (pv 0) pa_nil))) (pa_cons (pe_kept (pmk_tkA (K := K) rfl ek_InvalidDeed hr (by omega) (by rfl) (pk_cons (pv 0) pk_nil))) pa_nil))))))) 
      (pss_cons (ps_set (i := 1) sc__law_second.nd rfl (Or.inl rfl) (pe_op op_cat (pv 1) (pe_lst (pa_cons (pe_kept (pmk_tA (K := K) rfl ek_InvalidCommand.toET hr (by omega) (by rfl) (pa_cons (pv 0) pa_nil))) (pa_cons (pe_kept (pmk_tkA (K := K) rfl ek_InvalidCommand hr (by omega) (by rfl) (pk_cons (pv 0) pk_nil))) pa_nil))))) 
      (pss_cons (ps_setLc (i := 2) (own := [("_law_one", 3)]) (g := gName 3) (te := (tKfA K "index" (tVar 3))) rfl sc__law_second.nd rfl rfl (sw_true rfl rfl rfl (by decide +kernel)) (pi_list (pe_op op_cat (pe_op op_cat (pe_slice sl_list (pv 1) po_none (po_some pe_int)) (pe_slice sl_list (pv 1) (po_some pe_int) (po_some pe_int))) (pe_slice sl_list (pv 1) (po_some pe_int) (po_some pe_int)))) (blkOk_by (own := [("_law_one", 3)]) (N := N__law_second) (sc := (defScope s__law_second)) (by decide +kernel)) (fun _ _ _ _ _ => (pg_name (i := 3) sc__law_second.nd rfl (Or.inl rfl))) (fun _ _ _ _ _ => pts_nil) (fun _ _ _ _ _ => (pe_kfA (pv 3)))) 
      (pss_cons (ps_set (i := 2) sc__law_second.nd rfl (Or.inl rfl) (pe_op op_cat (pv 2) (pe_lc (own := [("_law_one", 3)]) (g := gName 3) (te := (tKfA K "share" (tVar 3))) rfl sc__law_second.nd (pi_list (pe_slice sl_list (pv 1) (po_some pe_int) (po_some pe_int))) (blkOk_by (own := [("_law_one", 3)]) (N := N__law_second) (sc := (defScope s__law_second)) (by decide +kernel)) (fun _ _ _ _ _ => (pg_name (i := 3) sc__law_second.nd rfl (Or.inl rfl))) (fun _ _ _ _ _ => pts_nil) (fun _ _ _ _ _ => (pe_kfA (pv 3)))))) 
      (pss_cons (ps_set (i := 2) sc__law_second.nd rfl (Or.inl rfl) (pe_op op_cat (pe_op op_cat (pv 2) (pe_lc (own := [("_law_one", 3)]) (g := gName 3) (te := (tKfA K "name" (tVar 3))) rfl sc__law_second.nd (pi_list (pe_slice sl_list (pv 1) (po_some pe_int) (po_some pe_int))) (blkOk_by (own := [("_law_one", 3)]) (N := N__law_second) (sc := (defScope s__law_second)) (by decide +kernel)) (fun _ _ _ _ _ => (pg_name (i := 3) sc__law_second.nd rfl (Or.inl rfl))) (fun _ _ _ _ _ => pts_nil) (fun _ _ _ _ _ => (pe_kfA (pv 3))))) (pe_lc (own := [("_law_one", 3)]) (g := gName 3) (te := (tKfA K "height" (tVar 3))) rfl sc__law_second.nd (pi_list (pe_slice sl_list (pv 1) (po_some pe_int) (po_some pe_int))) (blkOk_by (own := [("_law_one", 3)]) (N := N__law_second) (sc := (defScope s__law_second)) (by decide +kernel)) (fun _ _ _ _ _ => (pg_name (i := 3) sc__law_second.nd rfl (Or.inl rfl))) (fun _ _ _ _ _ => pts_nil) (fun _ _ _ _ _ => (pe_kfA (pv 3)))))) 
      (pss_one (ps_ret (pe_lst (pa_cons (pv 1) (pa_cons (pe_op op_cat (pv 2) (pe_lc (own := [("_law_one", 3)]) (g := gName 3) (te := (tKfA K "line" (tVar 3))) rfl sc__law_second.nd (pi_list (pe_slice sl_list (pv 1) (po_some pe_int) po_none)) (blkOk_by (own := [("_law_one", 3)]) (N := N__law_second) (sc := (defScope s__law_second)) (by decide +kernel)) (fun _ _ _ _ _ => (pg_name (i := 3) sc__law_second.nd rfl (Or.inl rfl))) (fun _ _ _ _ _ => pts_nil) (fun _ _ _ _ _ => (pe_kfA (pv 3))))) pa_nil))))))))))))), ?_⟩
    have mm : Mds K v H [] := fun p hp => nomatch hp
    have sA : Same H H := Same.refl H
    refine ⟨_, rfl, v, rfl, fun d nd a1 na => ?_⟩
    have s1 := made_same (K := K) (x := "InvalidWishes") (f := "index") (v := v) nd na
    have mm := mm.add (p := (a1, 8, "index")) s1 (made_el ek_InvalidWishes so_InvalidWishes nb_InvalidWishes nd na)
    replace sA := sA.trans s1
    generalize upd (upd H d (.xd [("index", v)])) a1 (KeptO (.ref (He.ga K "InvalidWishes")) (some d) a1) = G1 at s1 mm sA ⊢
    clear s1 nd na
    refine ⟨_, rfl, v, rfl, fun d nd a2 na => ?_⟩
    have s1 := made_same (K := K) (x := "InvalidWishes") (f := "index") (v := v) nd na
    have mm := mm.add (p := (a2, 8, "index")) s1 (made_el ek_InvalidWishes so_InvalidWishes nb_InvalidWishes nd na)
    replace sA := sA.trans s1
    generalize upd (upd G1 d (.xd [("index", v)])) a2 (KeptO (.ref (He.ga K "InvalidWishes")) (some d) a2) = G2 at s1 mm sA ⊢
    clear s1 nd na
    refine ⟨_, rfl, v, rfl, fun d nd a3 na => ?_⟩
    have s1 := made_same (K := K) (x := "InvalidRecord") (f := "index") (v := v) nd na
    have mm := mm.add (p := (a3, 9, "index")) s1 (made_el ek_InvalidRecord so_InvalidRecord nb_InvalidRecord nd na)
    replace sA := sA.trans s1
    generalize upd (upd G2 d (.xd [("index", v)])) a3 (KeptO (.ref (He.ga K "InvalidRecord")) (some d) a3) = G3 at s1 mm sA ⊢
    clear s1 nd na
    refine ⟨_, rfl, v, rfl, fun d nd a4 na => ?_⟩
    have s1 := made_same (K := K) (x := "InvalidRecord") (f := "index") (v := v) nd na
    have mm := mm.add (p := (a4, 9, "index")) s1 (made_el ek_InvalidRecord so_InvalidRecord nb_InvalidRecord nd na)
    replace sA := sA.trans s1
    generalize upd (upd G3 d (.xd [("index", v)])) a4 (KeptO (.ref (He.ga K "InvalidRecord")) (some d) a4) = G4 at s1 mm sA ⊢
    clear s1 nd na
    refine ⟨(by show 4 ≤ sizeLine; decide), fun l1 n1 => ?_⟩
    have s1 := same_upd (o := .lst [.ref a1, .ref a2, .ref a3, .ref a4]) n1
    have h_l1 : upd G4 l1 (.lst [.ref a1, .ref a2, .ref a3, .ref a4]) l1 = some (.lst [.ref a1, .ref a2, .ref a3, .ref a4]) := upd_same
    replace mm := mm.same s1; replace sA := sA.trans s1
    generalize upd G4 l1 (.lst [.ref a1, .ref a2, .ref a3, .ref a4]) = K4 at s1 mm sA h_l1 ⊢
    clear s1 n1
    refine ⟨_, rfl, ?_⟩
    refine ⟨_, rfl, v, rfl, fun d nd a5 na => ?_⟩
    have s1 := made_same (K := K) (x := "InvalidPattern") (f := "index") (v := v) nd na
    have mm := mm.add (p := (a5, 10, "index")) s1 (made_el ek_InvalidPattern so_InvalidPattern nb_InvalidPattern nd na)
    replace h_l1 := s1 _ _ h_l1
    replace sA := sA.trans s1
    generalize upd (upd K4 d (.xd [("index", v)])) a5 (KeptO (.ref (He.ga K "InvalidPattern")) (some d) a5) = G5 at s1 mm sA h_l1 ⊢
    clear s1 nd na
    refine ⟨_, rfl, v, rfl, fun d nd a6 na => ?_⟩
    have s1 := made_same (K := K) (x := "InvalidPattern") (f := "index") (v := v) nd na
    have mm := mm.add (p := (a6, 10, "index")) s1 (made_el ek_InvalidPattern so_InvalidPattern nb_InvalidPattern nd na)
    replace h_l1 := s1 _ _ h_l1
    replace sA := sA.trans s1
    generalize upd (upd G5 d (.xd [("index", v)])) a6 (KeptO (.ref (He.ga K "InvalidPattern")) (some d) a6) = G6 at s1 mm sA h_l1 ⊢
    clear s1 nd na
    refine ⟨_, rfl, v, rfl, fun d nd a7 na => ?_⟩
    have s1 := made_same (K := K) (x := "InvalidShare") (f := "share") (v := v) nd na
    have mm := mm.add (p := (a7, 11, "share")) s1 (made_el ek_InvalidShare so_InvalidShare nb_InvalidShare nd na)
    replace h_l1 := s1 _ _ h_l1
    replace sA := sA.trans s1
    generalize upd (upd G6 d (.xd [("share", v)])) a7 (KeptO (.ref (He.ga K "InvalidShare")) (some d) a7) = G7 at s1 mm sA h_l1 ⊢
    clear s1 nd na
    refine ⟨_, rfl, v, rfl, fun d nd a8 na => ?_⟩
    have s1 := made_same (K := K) (x := "InvalidShare") (f := "share") (v := v) nd na
    have mm := mm.add (p := (a8, 11, "share")) s1 (made_el ek_InvalidShare so_InvalidShare nb_InvalidShare nd na)
    replace h_l1 := s1 _ _ h_l1
    replace sA := sA.trans s1
    generalize upd (upd G7 d (.xd [("share", v)])) a8 (KeptO (.ref (He.ga K "InvalidShare")) (some d) a8) = G8 at s1 mm sA h_l1 ⊢
    clear s1 nd na
    refine ⟨(by show 4 ≤ sizeLine; decide), fun l2 n1 => ?_⟩
    have s1 := same_upd (o := .lst [.ref a5, .ref a6, .ref a7, .ref a8]) n1
    refine ⟨l1, l2, _, _, rfl, rfl, s1 _ _ h_l1, upd_same, (by show 8 ≤ sizeLine; decide), fun l3 n2 => ?_⟩
    have s2 := same_upd (o := .lst ([.ref a1, .ref a2, .ref a3, .ref a4] ++ [.ref a5, .ref a6, .ref a7, .ref a8])) n2
    have h_l3 : upd (upd G8 l2 (.lst [.ref a5, .ref a6, .ref a7, .ref a8])) l3 (.lst ([.ref a1, .ref a2, .ref a3, .ref a4] ++ [.ref a5, .ref a6, .ref a7, .ref a8])) l3 = some (.lst [.ref a1, .ref a2, .ref a3, .ref a4, .ref a5, .ref a6, .ref a7, .ref a8]) := upd_same
    replace mm := mm.same (s1.trans s2); replace sA := sA.trans (s1.trans s2)
    generalize upd (upd G8 l2 (.lst [.ref a5, .ref a6, .ref a7, .ref a8])) l3 (.lst ([.ref a1, .ref a2, .ref a3, .ref a4] ++ [.ref a5, .ref a6, .ref a7, .ref a8])) = K8 at s2 mm sA h_l3 ⊢
    clear s1 s2 n1 n2 h_l1
    refine ⟨_, rfl, ?_⟩
    refine ⟨_, rfl, v, rfl, fun d nd a9 na => ?_⟩
    have s1 := made_same (K := K) (x := "InvalidPeople") (f := "index") (v := v) nd na
    have mm := mm.add (p := (a9, 12, "index")) s1 (made_el ek_InvalidPeople so_InvalidPeople nb_InvalidPeople nd na)
    replace h_l3 := s1 _ _ h_l3
    replace sA := sA.trans s1
    generalize upd (upd K8 d (.xd [("index", v)])) a9 (KeptO (.ref (He.ga K "InvalidPeople")) (some d) a9) = G9 at s1 mm sA h_l3 ⊢
    clear s1 nd na
    refine ⟨_, rfl, v, rfl, fun d nd a10 na => ?_⟩
    have s1 := made_same (K := K) (x := "InvalidPeople") (f := "index") (v := v) nd na
    have mm := mm.add (p := (a10, 12, "index")) s1 (made_el ek_InvalidPeople so_InvalidPeople nb_InvalidPeople nd na)
    replace h_l3 := s1 _ _ h_l3
    replace sA := sA.trans s1
    generalize upd (upd G9 d (.xd [("index", v)])) a10 (KeptO (.ref (He.ga K "InvalidPeople")) (some d) a10) = G10 at s1 mm sA h_l3 ⊢
    clear s1 nd na
    refine ⟨_, rfl, v, rfl, fun d nd a11 na => ?_⟩
    have s1 := made_same (K := K) (x := "InvalidName") (f := "name") (v := v) nd na
    have mm := mm.add (p := (a11, 13, "name")) s1 (made_el ek_InvalidName so_InvalidName nb_InvalidName nd na)
    replace h_l3 := s1 _ _ h_l3
    replace sA := sA.trans s1
    generalize upd (upd G10 d (.xd [("name", v)])) a11 (KeptO (.ref (He.ga K "InvalidName")) (some d) a11) = G11 at s1 mm sA h_l3 ⊢
    clear s1 nd na
    refine ⟨_, rfl, v, rfl, fun d nd a12 na => ?_⟩
    have s1 := made_same (K := K) (x := "InvalidName") (f := "name") (v := v) nd na
    have mm := mm.add (p := (a12, 13, "name")) s1 (made_el ek_InvalidName so_InvalidName nb_InvalidName nd na)
    replace h_l3 := s1 _ _ h_l3
    replace sA := sA.trans s1
    generalize upd (upd G11 d (.xd [("name", v)])) a12 (KeptO (.ref (He.ga K "InvalidName")) (some d) a12) = G12 at s1 mm sA h_l3 ⊢
    clear s1 nd na
    refine ⟨(by show 4 ≤ sizeLine; decide), fun l4 n1 => ?_⟩
    have s1 := same_upd (o := .lst [.ref a9, .ref a10, .ref a11, .ref a12]) n1
    refine ⟨l3, l4, _, _, rfl, rfl, s1 _ _ h_l3, upd_same, (by show 12 ≤ sizeLine; decide), fun l5 n2 => ?_⟩
    have s2 := same_upd (o := .lst ([.ref a1, .ref a2, .ref a3, .ref a4, .ref a5, .ref a6, .ref a7, .ref a8] ++ [.ref a9, .ref a10, .ref a11, .ref a12])) n2
    have h_l5 : upd (upd G12 l4 (.lst [.ref a9, .ref a10, .ref a11, .ref a12])) l5 (.lst ([.ref a1, .ref a2, .ref a3, .ref a4, .ref a5, .ref a6, .ref a7, .ref a8] ++ [.ref a9, .ref a10, .ref a11, .ref a12])) l5 = some (.lst [.ref a1, .ref a2, .ref a3, .ref a4, .ref a5, .ref a6, .ref a7, .ref a8, .ref a9, .ref a10, .ref a11, .ref a12]) := upd_same
    replace mm := mm.same (s1.trans s2); replace sA := sA.trans (s1.trans s2)
    generalize upd (upd G12 l4 (.lst [.ref a9, .ref a10, .ref a11, .ref a12])) l5 (.lst ([.ref a1, .ref a2, .ref a3, .ref a4, .ref a5, .ref a6, .ref a7, .ref a8] ++ [.ref a9, .ref a10, .ref a11, .ref a12])) = K12 at s2 mm sA h_l5 ⊢
    clear s1 s2 n1 n2 h_l3
    refine ⟨_, rfl, ?_⟩
    refine ⟨_, rfl, v, rfl, fun d nd a13 na => ?_⟩
    have s1 := made_same (K := K) (x := "InvalidHeight") (f := "height") (v := v) nd na
    have mm := mm.add (p := (a13, 14, "height")) s1 (made_el ek_InvalidHeight so_InvalidHeight nb_InvalidHeight nd na)
    replace h_l5 := s1 _ _ h_l5
    replace sA := sA.trans s1
    generalize upd (upd K12 d (.xd [("height", v)])) a13 (KeptO (.ref (He.ga K "InvalidHeight")) (some d) a13) = G13 at s1 mm sA h_l5 ⊢
    clear s1 nd na
    refine ⟨_, rfl, v, rfl, fun d nd a14 na => ?_⟩
    have s1 := made_same (K := K) (x := "InvalidHeight") (f := "height") (v := v) nd na
    have mm := mm.add (p := (a14, 14, "height")) s1 (made_el ek_InvalidHeight so_InvalidHeight nb_InvalidHeight nd na)
    replace h_l5 := s1 _ _ h_l5
    replace sA := sA.trans s1
    generalize upd (upd G13 d (.xd [("height", v)])) a14 (KeptO (.ref (He.ga K "InvalidHeight")) (some d) a14) = G14 at s1 mm sA h_l5 ⊢
    clear s1 nd na
    refine ⟨_, rfl, v, rfl, fun d nd a15 na => ?_⟩
    have s1 := made_same (K := K) (x := "InvalidDeed") (f := "index") (v := v) nd na
    have mm := mm.add (p := (a15, 15, "index")) s1 (made_el ek_InvalidDeed so_InvalidDeed nb_InvalidDeed nd na)
    replace h_l5 := s1 _ _ h_l5
    replace sA := sA.trans s1
    generalize upd (upd G14 d (.xd [("index", v)])) a15 (KeptO (.ref (He.ga K "InvalidDeed")) (some d) a15) = G15 at s1 mm sA h_l5 ⊢
    clear s1 nd na
    refine ⟨_, rfl, v, rfl, fun d nd a16 na => ?_⟩
    have s1 := made_same (K := K) (x := "InvalidDeed") (f := "index") (v := v) nd na
    have mm := mm.add (p := (a16, 15, "index")) s1 (made_el ek_InvalidDeed so_InvalidDeed nb_InvalidDeed nd na)
    replace h_l5 := s1 _ _ h_l5
    replace sA := sA.trans s1
    generalize upd (upd G15 d (.xd [("index", v)])) a16 (KeptO (.ref (He.ga K "InvalidDeed")) (some d) a16) = G16 at s1 mm sA h_l5 ⊢
    clear s1 nd na
    refine ⟨(by show 4 ≤ sizeLine; decide), fun l6 n1 => ?_⟩
    have s1 := same_upd (o := .lst [.ref a13, .ref a14, .ref a15, .ref a16]) n1
    refine ⟨l5, l6, _, _, rfl, rfl, s1 _ _ h_l5, upd_same, (by show 16 ≤ sizeLine; decide), fun l7 n2 => ?_⟩
    have s2 := same_upd (o := .lst ([.ref a1, .ref a2, .ref a3, .ref a4, .ref a5, .ref a6, .ref a7, .ref a8, .ref a9, .ref a10, .ref a11, .ref a12] ++ [.ref a13, .ref a14, .ref a15, .ref a16])) n2
    have h_l7 : upd (upd G16 l6 (.lst [.ref a13, .ref a14, .ref a15, .ref a16])) l7 (.lst ([.ref a1, .ref a2, .ref a3, .ref a4, .ref a5, .ref a6, .ref a7, .ref a8, .ref a9, .ref a10, .ref a11, .ref a12] ++ [.ref a13, .ref a14, .ref a15, .ref a16])) l7 = some (.lst [.ref a1, .ref a2, .ref a3, .ref a4, .ref a5, .ref a6, .ref a7, .ref a8, .ref a9, .ref a10, .ref a11, .ref a12, .ref a13, .ref a14, .ref a15, .ref a16]) := upd_same
    replace mm := mm.same (s1.trans s2); replace sA := sA.trans (s1.trans s2)
    generalize upd (upd G16 l6 (.lst [.ref a13, .ref a14, .ref a15, .ref a16])) l7 (.lst ([.ref a1, .ref a2, .ref a3, .ref a4, .ref a5, .ref a6, .ref a7, .ref a8, .ref a9, .ref a10, .ref a11, .ref a12] ++ [.ref a13, .ref a14, .ref a15, .ref a16])) = K16 at s2 mm sA h_l7 ⊢
    clear s1 s2 n1 n2 h_l5
    refine ⟨_, rfl, ?_⟩
    refine ⟨_, rfl, v, rfl, fun d nd a17 na => ?_⟩
    have s1 := made_same (K := K) (x := "InvalidCommand") (f := "line") (v := v) nd na
    have mm := mm.add (p := (a17, 16, "line")) s1 (made_el ek_InvalidCommand so_InvalidCommand nb_InvalidCommand nd na)
    replace h_l7 := s1 _ _ h_l7
    replace sA := sA.trans s1
    generalize upd (upd K16 d (.xd [("line", v)])) a17 (KeptO (.ref (He.ga K "InvalidCommand")) (some d) a17) = G17 at s1 mm sA h_l7 ⊢
    clear s1 nd na
    refine ⟨_, rfl, v, rfl, fun d nd a18 na => ?_⟩
    have s1 := made_same (K := K) (x := "InvalidCommand") (f := "line") (v := v) nd na
    have mm := mm.add (p := (a18, 16, "line")) s1 (made_el ek_InvalidCommand so_InvalidCommand nb_InvalidCommand nd na)
    replace h_l7 := s1 _ _ h_l7
    replace sA := sA.trans s1
    generalize upd (upd G17 d (.xd [("line", v)])) a18 (KeptO (.ref (He.ga K "InvalidCommand")) (some d) a18) = G18 at s1 mm sA h_l7 ⊢
    clear s1 nd na
    refine ⟨(by show 2 ≤ sizeLine; decide), fun l8 n1 => ?_⟩
    have s1 := same_upd (o := .lst [.ref a17, .ref a18]) n1
    refine ⟨l7, l8, _, _, rfl, rfl, s1 _ _ h_l7, upd_same, (by show 18 ≤ sizeLine; decide), fun l9 n2 => ?_⟩
    have s2 := same_upd (o := .lst ([.ref a1, .ref a2, .ref a3, .ref a4, .ref a5, .ref a6, .ref a7, .ref a8, .ref a9, .ref a10, .ref a11, .ref a12, .ref a13, .ref a14, .ref a15, .ref a16] ++ [.ref a17, .ref a18])) n2
    have h_l9 : upd (upd G18 l8 (.lst [.ref a17, .ref a18])) l9 (.lst ([.ref a1, .ref a2, .ref a3, .ref a4, .ref a5, .ref a6, .ref a7, .ref a8, .ref a9, .ref a10, .ref a11, .ref a12, .ref a13, .ref a14, .ref a15, .ref a16] ++ [.ref a17, .ref a18])) l9 = some (.lst [.ref a1, .ref a2, .ref a3, .ref a4, .ref a5, .ref a6, .ref a7, .ref a8, .ref a9, .ref a10, .ref a11, .ref a12, .ref a13, .ref a14, .ref a15, .ref a16, .ref a17, .ref a18]) := upd_same
    replace mm := mm.same (s1.trans s2); replace sA := sA.trans (s1.trans s2)
    generalize upd (upd G18 l8 (.lst [.ref a17, .ref a18])) l9 (.lst ([.ref a1, .ref a2, .ref a3, .ref a4, .ref a5, .ref a6, .ref a7, .ref a8, .ref a9, .ref a10, .ref a11, .ref a12, .ref a13, .ref a14, .ref a15, .ref a16] ++ [.ref a17, .ref a18])) = K18 at s2 mm sA h_l9 ⊢
    clear s1 s2 n1 n2 h_l7
    have nS : sizeLine = sizeLine := rfl
    have f_a1 := (mm (a1, 8, "index") (by simp)).1
    have f_a2 := (mm (a2, 8, "index") (by simp)).1
    have f_a3 := (mm (a3, 9, "index") (by simp)).1
    have f_a4 := (mm (a4, 9, "index") (by simp)).1
    have f_a5 := (mm (a5, 10, "index") (by simp)).1
    have f_a6 := (mm (a6, 10, "index") (by simp)).1
    have f_a7 := (mm (a7, 11, "share") (by simp)).1
    have f_a8 := (mm (a8, 11, "share") (by simp)).1
    have f_a9 := (mm (a9, 12, "index") (by simp)).1
    have f_a10 := (mm (a10, 12, "index") (by simp)).1
    have f_a11 := (mm (a11, 13, "name") (by simp)).1
    have f_a12 := (mm (a12, 13, "name") (by simp)).1
    have f_a13 := (mm (a13, 14, "height") (by simp)).1
    have f_a14 := (mm (a14, 14, "height") (by simp)).1
    have f_a15 := (mm (a15, 15, "index") (by simp)).1
    have f_a16 := (mm (a16, 15, "index") (by simp)).1
    have f_a17 := (mm (a17, 16, "line") (by simp)).1
    have f_a18 := (mm (a18, 16, "line") (by simp)).1
    have sB : Same K18 K18 := Same.refl _
    refine ⟨_, rfl, 6, rfl, l9, _, rfl, .inl (.inl h_l9), fun c10 n1 => ?_⟩
    have s1 := same_upd (o := .lst (cutV [.ref a1, .ref a2, .ref a3, .ref a4, .ref a5, .ref a6, .ref a7, .ref a8, .ref a9, .ref a10, .ref a11, .ref a12, .ref a13, .ref a14, .ref a15, .ref a16, .ref a17, .ref a18] none (some 6))) n1
    have h_c10 : upd K18 c10 (.lst (cutV [.ref a1, .ref a2, .ref a3, .ref a4, .ref a5, .ref a6, .ref a7, .ref a8, .ref a9, .ref a10, .ref a11, .ref a12, .ref a13, .ref a14, .ref a15, .ref a16, .ref a17, .ref a18] none (some 6))) c10 = some (.lst [.ref a1, .ref a2, .ref a3, .ref a4, .ref a5, .ref a6]) := upd_same
    replace h_l9 := s1 _ _ h_l9
    replace sB := sB.trans s1
    generalize upd K18 c10 (.lst (cutV [.ref a1, .ref a2, .ref a3, .ref a4, .ref a5, .ref a6, .ref a7, .ref a8, .ref a9, .ref a10, .ref a11, .ref a12, .ref a13, .ref a14, .ref a15, .ref a16, .ref a17, .ref a18] none (some 6))) = J1 at s1 sB h_l9 h_c10 ⊢
    clear s1 n1
    refine ⟨_, rfl, 8, rfl, 10, rfl, l9, _, rfl, .inl (.inl h_l9), fun c11 n1 => ?_⟩
    have s1 := same_upd (o := .lst (cutV [.ref a1, .ref a2, .ref a3, .ref a4, .ref a5, .ref a6, .ref a7, .ref a8, .ref a9, .ref a10, .ref a11, .ref a12, .ref a13, .ref a14, .ref a15, .ref a16, .ref a17, .ref a18] (some 8) (some 10))) n1
    have h_c11 : upd J1 c11 (.lst (cutV [.ref a1, .ref a2, .ref a3, .ref a4, .ref a5, .ref a6, .ref a7, .ref a8, .ref a9, .ref a10, .ref a11, .ref a12, .ref a13, .ref a14, .ref a15, .ref a16, .ref a17, .ref a18] (some 8) (some 10))) c11 = some (.lst [.ref a9, .ref a10]) := upd_same
    replace h_c10 := s1 _ _ h_c10
    replace h_l9 := s1 _ _ h_l9
    replace sB := sB.trans s1
    generalize upd J1 c11 (.lst (cutV [.ref a1, .ref a2, .ref a3, .ref a4, .ref a5, .ref a6, .ref a7, .ref a8, .ref a9, .ref a10, .ref a11, .ref a12, .ref a13, .ref a14, .ref a15, .ref a16, .ref a17, .ref a18] (some 8) (some 10))) = J2 at s1 sB h_l9 h_c11 h_c10 ⊢
    clear s1 n1
    refine ⟨c10, c11, _, _, rfl, rfl, h_c10, h_c11, (by show 8 ≤ sizeLine; decide), fun m12 n1 => ?_⟩
    have s1 := same_upd (o := .lst ([.ref a1, .ref a2, .ref a3, .ref a4, .ref a5, .ref a6] ++ [.ref a9, .ref a10])) n1
    have h_m12 : upd J2 m12 (.lst ([.ref a1, .ref a2, .ref a3, .ref a4, .ref a5, .ref a6] ++ [.ref a9, .ref a10])) m12 = some (.lst ([.ref a1, .ref a2, .ref a3, .ref a4, .ref a5, .ref a6, .ref a9, .ref a10])) := upd_same
    replace h_c10 := s1 _ _ h_c10
    replace h_c11 := s1 _ _ h_c11
    replace h_l9 := s1 _ _ h_l9
    replace sB := sB.trans s1
    generalize upd J2 m12 (.lst ([.ref a1, .ref a2, .ref a3, .ref a4, .ref a5, .ref a6] ++ [.ref a9, .ref a10])) = J3 at s1 sB h_l9 h_m12 h_c10 h_c11 ⊢
    clear s1 n1
    refine ⟨_, rfl, 14, rfl, 16, rfl, l9, _, rfl, .inl (.inl h_l9), fun c13 n1 => ?_⟩
    have s1 := same_upd (o := .lst (cutV [.ref a1, .ref a2, .ref a3, .ref a4, .ref a5, .ref a6, .ref a7, .ref a8, .ref a9, .ref a10, .ref a11, .ref a12, .ref a13, .ref a14, .ref a15, .ref a16, .ref a17, .ref a18] (some 14) (some 16))) n1
    have h_c13 : upd J3 c13 (.lst (cutV [.ref a1, .ref a2, .ref a3, .ref a4, .ref a5, .ref a6, .ref a7, .ref a8, .ref a9, .ref a10, .ref a11, .ref a12, .ref a13, .ref a14, .ref a15, .ref a16, .ref a17, .ref a18] (some 14) (some 16))) c13 = some (.lst [.ref a15, .ref a16]) := upd_same
    replace h_c10 := s1 _ _ h_c10
    replace h_c11 := s1 _ _ h_c11
    replace h_m12 := s1 _ _ h_m12
    replace h_l9 := s1 _ _ h_l9
    replace sB := sB.trans s1
    generalize upd J3 c13 (.lst (cutV [.ref a1, .ref a2, .ref a3, .ref a4, .ref a5, .ref a6, .ref a7, .ref a8, .ref a9, .ref a10, .ref a11, .ref a12, .ref a13, .ref a14, .ref a15, .ref a16, .ref a17, .ref a18] (some 14) (some 16))) = J4 at s1 sB h_l9 h_c13 h_c10 h_c11 h_m12 ⊢
    clear s1 n1
    refine ⟨m12, c13, _, _, rfl, rfl, h_m12, h_c13, (by show 10 ≤ sizeLine; decide), fun m14 n1 => ?_⟩
    have s1 := same_upd (o := .lst ([.ref a1, .ref a2, .ref a3, .ref a4, .ref a5, .ref a6, .ref a9, .ref a10] ++ [.ref a15, .ref a16])) n1
    have h_m14 : upd J4 m14 (.lst ([.ref a1, .ref a2, .ref a3, .ref a4, .ref a5, .ref a6, .ref a9, .ref a10] ++ [.ref a15, .ref a16])) m14 = some (.lst ([.ref a1, .ref a2, .ref a3, .ref a4, .ref a5, .ref a6, .ref a9, .ref a10, .ref a15, .ref a16])) := upd_same
    replace h_c10 := s1 _ _ h_c10
    replace h_c11 := s1 _ _ h_c11
    replace h_m12 := s1 _ _ h_m12
    replace h_c13 := s1 _ _ h_c13
    replace h_l9 := s1 _ _ h_l9
    replace sB := sB.trans s1
    generalize upd J4 m14 (.lst ([.ref a1, .ref a2, .ref a3, .ref a4, .ref a5, .ref a6, .ref a9, .ref a10] ++ [.ref a15, .ref a16])) = J5 at s1 sB h_l9 h_m14 h_c10 h_c11 h_m12 h_c13 ⊢
    clear s1 n1
    refine ⟨m14, rfl, ⟨_, .inl (.inl (show J5 m14 = some (.lst [.ref a1, .ref a2, .ref a3, .ref a4, .ref a5, .ref a6, .ref a9, .ref a10, .ref a15, .ref a16]) from h_m14))⟩, fun D15 nD => ?_⟩
    have fl : ∀ x ∈ ([.ref a1, .ref a2, .ref a3, .ref a4, .ref a5, .ref a6, .ref a9, .ref a10, .ref a15, .ref a16] : List V), ∃ a : Addr, x = .ref a ∧ FieldAt K v "index" J5 a := fun x hx => by
      simp only [List.mem_cons, List.not_mem_nil, or_false] at hx
      rcases hx with rfl | rfl | rfl | rfl | rfl | rfl | rfl | rfl | rfl | rfl
      · exact ⟨_, rfl, f_a1.same sB⟩
      · exact ⟨_, rfl, f_a2.same sB⟩
      · exact ⟨_, rfl, f_a3.same sB⟩
      · exact ⟨_, rfl, f_a4.same sB⟩
      · exact ⟨_, rfl, f_a5.same sB⟩
      · exact ⟨_, rfl, f_a6.same sB⟩
      · exact ⟨_, rfl, f_a9.same sB⟩
      · exact ⟨_, rfl, f_a10.same sB⟩
      · exact ⟨_, rfl, f_a15.same sB⟩
      · exact ⟨_, rfl, f_a16.same sB⟩
    refine lc_list (xs := [.ref a1, .ref a2, .ref a3, .ref a4, .ref a5, .ref a6, .ref a9, .ref a10, .ref a15, .ref a16]) (fun i G => G D15 = some (.lst (List.replicate i v)) ∧ Same J5 G) ⟨upd_same, same_upd nD⟩ (fun i G _ hI => .inl (.inl (hI.2 _ _ h_m14))) (fun i x G hx hI => ?_) (fun G hI => ?_)
    · obtain ⟨hD, sm⟩ := hI
      obtain ⟨a, rfl, C, dd, xf, noN, hk, hd⟩ := fl x (List.mem_of_getElem? hx)
      have li := (List.getElem?_eq_some_iff.mp hx).1
      refine ⟨rfl, _, rfl, C, a, dd, _, v, xf, noN, rfl, sm _ _ hk, sm _ _ hd, lookup_one, _, hD, ?_, ?_, fun b o e => ?_⟩
      · rw [List.length_replicate]; exact len_lt (Nat.le_trans (Nat.le_of_lt li) (by show 10 ≤ 100000; decide))
      · rw [upd_same, List.replicate_succ']
      · rw [upd_ne (ne_of_none e nD)]; exact sm b o e
    obtain ⟨hD0, s1⟩ := hI
    have h_D15 : G D15 = some (.lst (List.replicate 10 v)) := hD0
    replace h_c10 := s1 _ _ h_c10
    replace h_c11 := s1 _ _ h_c11
    replace h_m12 := s1 _ _ h_m12
    replace h_c13 := s1 _ _ h_c13
    replace h_m14 := s1 _ _ h_m14
    replace h_l9 := s1 _ _ h_l9
    replace sB := sB.trans s1
    clear s1 hD0 fl nD
    refine ⟨_, rfl, ?_⟩
    refine ⟨_, rfl, 6, rfl, 8, rfl, l9, _, rfl, .inl (.inl h_l9), fun c16 n1 => ?_⟩
    have s1 := same_upd (o := .lst (cutV [.ref a1, .ref a2, .ref a3, .ref a4, .ref a5, .ref a6, .ref a7, .ref a8, .ref a9, .ref a10, .ref a11, .ref a12, .ref a13, .ref a14, .ref a15, .ref a16, .ref a17, .ref a18] (some 6) (some 8))) n1
    have h_c16 : upd G c16 (.lst (cutV [.ref a1, .ref a2, .ref a3, .ref a4, .ref a5, .ref a6, .ref a7, .ref a8, .ref a9, .ref a10, .ref a11, .ref a12, .ref a13, .ref a14, .ref a15, .ref a16, .ref a17, .ref a18] (some 6) (some 8))) c16 = some (.lst [.ref a7, .ref a8]) := upd_same
    replace h_c10 := s1 _ _ h_c10
    replace h_c11 := s1 _ _ h_c11
    replace h_m12 := s1 _ _ h_m12
    replace h_c13 := s1 _ _ h_c13
    replace h_m14 := s1 _ _ h_m14
    replace h_D15 := s1 _ _ h_D15
    replace h_l9 := s1 _ _ h_l9
    replace sB := sB.trans s1
    generalize upd G c16 (.lst (cutV [.ref a1, .ref a2, .ref a3, .ref a4, .ref a5, .ref a6, .ref a7, .ref a8, .ref a9, .ref a10, .ref a11, .ref a12, .ref a13, .ref a14, .ref a15, .ref a16, .ref a17, .ref a18] (some 6) (some 8))) = J7 at s1 sB h_l9 h_c16 h_c10 h_c11 h_m12 h_c13 h_m14 h_D15 ⊢
    clear s1 n1
    refine ⟨c16, rfl, ⟨_, .inl (.inl (show J7 c16 = some (.lst [.ref a7, .ref a8]) from h_c16))⟩, fun D17 nD => ?_⟩
    have fl : ∀ x ∈ ([.ref a7, .ref a8] : List V), ∃ a : Addr, x = .ref a ∧ FieldAt K v "share" J7 a := fun x hx => by
      simp only [List.mem_cons, List.not_mem_nil, or_false] at hx
      rcases hx with rfl | rfl
      · exact ⟨_, rfl, f_a7.same sB⟩
      · exact ⟨_, rfl, f_a8.same sB⟩
    refine lc_list (xs := [.ref a7, .ref a8]) (fun i G => G D17 = some (.lst (List.replicate i v)) ∧ Same J7 G) ⟨upd_same, same_upd nD⟩ (fun i G _ hI => .inl (.inl (hI.2 _ _ h_c16))) (fun i x G hx hI => ?_) (fun G hI => ?_)
    · obtain ⟨hD, sm⟩ := hI
      obtain ⟨a, rfl, C, dd, xf, noN, hk, hd⟩ := fl x (List.mem_of_getElem? hx)
      have li := (List.getElem?_eq_some_iff.mp hx).1
      refine ⟨rfl, _, rfl, C, a, dd, _, v, xf, noN, rfl, sm _ _ hk, sm _ _ hd, lookup_one, _, hD, ?_, ?_, fun b o e => ?_⟩
      · rw [List.length_replicate]; exact len_lt (Nat.le_trans (Nat.le_of_lt li) (by show 2 ≤ 100000; decide))
      · rw [upd_same, List.replicate_succ']
      · rw [upd_ne (ne_of_none e nD)]; exact sm b o e
    obtain ⟨hD0, s1⟩ := hI
    have h_D17 : G D17 = some (.lst (List.replicate 2 v)) := hD0
    replace h_c10 := s1 _ _ h_c10
    replace h_c11 := s1 _ _ h_c11
    replace h_m12 := s1 _ _ h_m12
    replace h_c13 := s1 _ _ h_c13
    replace h_m14 := s1 _ _ h_m14
    replace h_D15 := s1 _ _ h_D15
    replace h_c16 := s1 _ _ h_c16
    replace h_l9 := s1 _ _ h_l9
    replace sB := sB.trans s1
    clear s1 hD0 fl nD
    refine ⟨D15, D17, _, _, rfl, rfl, h_D15, h_D17, (by show 12 ≤ sizeLine; decide), fun m18 n1 => ?_⟩
    have s1 := same_upd (o := .lst (List.replicate 10 v ++ List.replicate 2 v)) n1
    have h_m18 : upd G m18 (.lst (List.replicate 10 v ++ List.replicate 2 v)) m18 = some (.lst (List.replicate 12 v)) := upd_same
    replace h_c10 := s1 _ _ h_c10
    replace h_c11 := s1 _ _ h_c11
    replace h_m12 := s1 _ _ h_m12
    replace h_c13 := s1 _ _ h_c13
    replace h_m14 := s1 _ _ h_m14
    replace h_D15 := s1 _ _ h_D15
    replace h_c16 := s1 _ _ h_c16
    replace h_D17 := s1 _ _ h_D17
    replace h_l9 := s1 _ _ h_l9
    replace sB := sB.trans s1
    generalize upd G m18 (.lst (List.replicate 10 v ++ List.replicate 2 v)) = J9 at s1 sB h_l9 h_m18 h_c10 h_c11 h_m12 h_c13 h_m14 h_D15 h_c16 h_D17 ⊢
    clear s1 n1
    refine ⟨_, rfl, ?_⟩
    refine ⟨_, rfl, 10, rfl, 12, rfl, l9, _, rfl, .inl (.inl h_l9), fun c19 n1 => ?_⟩
    have s1 := same_upd (o := .lst (cutV [.ref a1, .ref a2, .ref a3, .ref a4, .ref a5, .ref a6, .ref a7, .ref a8, .ref a9, .ref a10, .ref a11, .ref a12, .ref a13, .ref a14, .ref a15, .ref a16, .ref a17, .ref a18] (some 10) (some 12))) n1
    have h_c19 : upd J9 c19 (.lst (cutV [.ref a1, .ref a2, .ref a3, .ref a4, .ref a5, .ref a6, .ref a7, .ref a8, .ref a9, .ref a10, .ref a11, .ref a12, .ref a13, .ref a14, .ref a15, .ref a16, .ref a17, .ref a18] (some 10) (some 12))) c19 = some (.lst [.ref a11, .ref a12]) := upd_same
    replace h_c10 := s1 _ _ h_c10
    replace h_c11 := s1 _ _ h_c11
    replace h_m12 := s1 _ _ h_m12
    replace h_c13 := s1 _ _ h_c13
    replace h_m14 := s1 _ _ h_m14
    replace h_D15 := s1 _ _ h_D15
    replace h_c16 := s1 _ _ h_c16
    replace h_D17 := s1 _ _ h_D17
    replace h_m18 := s1 _ _ h_m18
    replace h_l9 := s1 _ _ h_l9
    replace sB := sB.trans s1
    generalize upd J9 c19 (.lst (cutV [.ref a1, .ref a2, .ref a3, .ref a4, .ref a5, .ref a6, .ref a7, .ref a8, .ref a9, .ref a10, .ref a11, .ref a12, .ref a13, .ref a14, .ref a15, .ref a16, .ref a17, .ref a18] (some 10) (some 12))) = J10 at s1 sB h_l9 h_c19 h_c10 h_c11 h_m12 h_c13 h_m14 h_D15 h_c16 h_D17 h_m18 ⊢
    clear s1 n1
    refine ⟨c19, rfl, ⟨_, .inl (.inl (show J10 c19 = some (.lst [.ref a11, .ref a12]) from h_c19))⟩, fun D20 nD => ?_⟩
    have fl : ∀ x ∈ ([.ref a11, .ref a12] : List V), ∃ a : Addr, x = .ref a ∧ FieldAt K v "name" J10 a := fun x hx => by
      simp only [List.mem_cons, List.not_mem_nil, or_false] at hx
      rcases hx with rfl | rfl
      · exact ⟨_, rfl, f_a11.same sB⟩
      · exact ⟨_, rfl, f_a12.same sB⟩
    refine lc_list (xs := [.ref a11, .ref a12]) (fun i G => G D20 = some (.lst (List.replicate i v)) ∧ Same J10 G) ⟨upd_same, same_upd nD⟩ (fun i G _ hI => .inl (.inl (hI.2 _ _ h_c19))) (fun i x G hx hI => ?_) (fun G hI => ?_)
    · obtain ⟨hD, sm⟩ := hI
      obtain ⟨a, rfl, C, dd, xf, noN, hk, hd⟩ := fl x (List.mem_of_getElem? hx)
      have li := (List.getElem?_eq_some_iff.mp hx).1
      refine ⟨rfl, _, rfl, C, a, dd, _, v, xf, noN, rfl, sm _ _ hk, sm _ _ hd, lookup_one, _, hD, ?_, ?_, fun b o e => ?_⟩
      · rw [List.length_replicate]; exact len_lt (Nat.le_trans (Nat.le_of_lt li) (by show 2 ≤ 100000; decide))
      · rw [upd_same, List.replicate_succ']
      · rw [upd_ne (ne_of_none e nD)]; exact sm b o e
    obtain ⟨hD0, s1⟩ := hI
    have h_D20 : G D20 = some (.lst (List.replicate 2 v)) := hD0
    replace h_c10 := s1 _ _ h_c10
    replace h_c11 := s1 _ _ h_c11
    replace h_m12 := s1 _ _ h_m12
    replace h_c13 := s1 _ _ h_c13
    replace h_m14 := s1 _ _ h_m14
    replace h_D15 := s1 _ _ h_D15
    replace h_c16 := s1 _ _ h_c16
    replace h_D17 := s1 _ _ h_D17
    replace h_m18 := s1 _ _ h_m18
    replace h_c19 := s1 _ _ h_c19
    replace h_l9 := s1 _ _ h_l9
    replace sB := sB.trans s1
    clear s1 hD0 fl nD
    refine ⟨m18, D20, _, _, rfl, rfl, h_m18, h_D20, (by show 14 ≤ sizeLine; decide), fun m21 n1 => ?_⟩
    have s1 := same_upd (o := .lst (List.replicate 12 v ++ List.replicate 2 v)) n1
    have h_m21 : upd G m21 (.lst (List.replicate 12 v ++ List.replicate 2 v)) m21 = some (.lst (List.replicate 14 v)) := upd_same
    replace h_c10 := s1 _ _ h_c10
    replace h_c11 := s1 _ _ h_c11
    replace h_m12 := s1 _ _ h_m12
    replace h_c13 := s1 _ _ h_c13
    replace h_m14 := s1 _ _ h_m14
    replace h_D15 := s1 _ _ h_D15
    replace h_c16 := s1 _ _ h_c16
    replace h_D17 := s1 _ _ h_D17
    replace h_m18 := s1 _ _ h_m18
    replace h_c19 := s1 _ _ h_c19
    replace h_D20 := s1 _ _ h_D20
    replace h_l9 := s1 _ _ h_l9
    replace sB := sB.trans s1
    generalize upd G m21 (.lst (List.replicate 12 v ++ List.replicate 2 v)) = J12 at s1 sB h_l9 h_m21 h_c10 h_c11 h_m12 h_c13 h_m14 h_D15 h_c16 h_D17 h_m18 h_c19 h_D20 ⊢
    clear s1 n1
    refine ⟨_, rfl, 12, rfl, 14, rfl, l9, _, rfl, .inl (.inl h_l9), fun c22 n1 => ?_⟩
    have s1 := same_upd (o := .lst (cutV [.ref a1, .ref a2, .ref a3, .ref a4, .ref a5, .ref a6, .ref a7, .ref a8, .ref a9, .ref a10, .ref a11, .ref a12, .ref a13, .ref a14, .ref a15, .ref a16, .ref a17, .ref a18] (some 12) (some 14))) n1
    have h_c22 : upd J12 c22 (.lst (cutV [.ref a1, .ref a2, .ref a3, .ref a4, .ref a5, .ref a6, .ref a7, .ref a8, .ref a9, .ref a10, .ref a11, .ref a12, .ref a13, .ref a14, .ref a15, .ref a16, .ref a17, .ref a18] (some 12) (some 14))) c22 = some (.lst [.ref a13, .ref a14]) := upd_same
    replace h_c10 := s1 _ _ h_c10
    replace h_c11 := s1 _ _ h_c11
    replace h_m12 := s1 _ _ h_m12
    replace h_c13 := s1 _ _ h_c13
    replace h_m14 := s1 _ _ h_m14
    replace h_D15 := s1 _ _ h_D15
    replace h_c16 := s1 _ _ h_c16
    replace h_D17 := s1 _ _ h_D17
    replace h_m18 := s1 _ _ h_m18
    replace h_c19 := s1 _ _ h_c19
    replace h_D20 := s1 _ _ h_D20
    replace h_m21 := s1 _ _ h_m21
    replace h_l9 := s1 _ _ h_l9
    replace sB := sB.trans s1
    generalize upd J12 c22 (.lst (cutV [.ref a1, .ref a2, .ref a3, .ref a4, .ref a5, .ref a6, .ref a7, .ref a8, .ref a9, .ref a10, .ref a11, .ref a12, .ref a13, .ref a14, .ref a15, .ref a16, .ref a17, .ref a18] (some 12) (some 14))) = J13 at s1 sB h_l9 h_c22 h_c10 h_c11 h_m12 h_c13 h_m14 h_D15 h_c16 h_D17 h_m18 h_c19 h_D20 h_m21 ⊢
    clear s1 n1
    refine ⟨c22, rfl, ⟨_, .inl (.inl (show J13 c22 = some (.lst [.ref a13, .ref a14]) from h_c22))⟩, fun D23 nD => ?_⟩
    have fl : ∀ x ∈ ([.ref a13, .ref a14] : List V), ∃ a : Addr, x = .ref a ∧ FieldAt K v "height" J13 a := fun x hx => by
      simp only [List.mem_cons, List.not_mem_nil, or_false] at hx
      rcases hx with rfl | rfl
      · exact ⟨_, rfl, f_a13.same sB⟩
      · exact ⟨_, rfl, f_a14.same sB⟩
    refine lc_list (xs := [.ref a13, .ref a14]) (fun i G => G D23 = some (.lst (List.replicate i v)) ∧ Same J13 G) ⟨upd_same, same_upd nD⟩ (fun i G _ hI => .inl (.inl (hI.2 _ _ h_c22))) (fun i x G hx hI => ?_) (fun G hI => ?_)
    · obtain ⟨hD, sm⟩ := hI
      obtain ⟨a, rfl, C, dd, xf, noN, hk, hd⟩ := fl x (List.mem_of_getElem? hx)
      have li := (List.getElem?_eq_some_iff.mp hx).1
      refine ⟨rfl, _, rfl, C, a, dd, _, v, xf, noN, rfl, sm _ _ hk, sm _ _ hd, lookup_one, _, hD, ?_, ?_, fun b o e => ?_⟩
      · rw [List.length_replicate]; exact len_lt (Nat.le_trans (Nat.le_of_lt li) (by show 2 ≤ 100000; decide))
      · rw [upd_same, List.replicate_succ']
      · rw [upd_ne (ne_of_none e nD)]; exact sm b o e
    obtain ⟨hD0, s1⟩ := hI
    have h_D23 : G D23 = some (.lst (List.replicate 2 v)) := hD0
    replace h_c10 := s1 _ _ h_c10
    replace h_c11 := s1 _ _ h_c11
    replace h_m12 := s1 _ _ h_m12
    replace h_c13 := s1 _ _ h_c13
    replace h_m14 := s1 _ _ h_m14
    replace h_D15 := s1 _ _ h_D15
    replace h_c16 := s1 _ _ h_c16
    replace h_D17 := s1 _ _ h_D17
    replace h_m18 := s1 _ _ h_m18
    replace h_c19 := s1 _ _ h_c19
    replace h_D20 := s1 _ _ h_D20
    replace h_m21 := s1 _ _ h_m21
    replace h_c22 := s1 _ _ h_c22
    replace h_l9 := s1 _ _ h_l9
    replace sB := sB.trans s1
    clear s1 hD0 fl nD
    refine ⟨m21, D23, _, _, rfl, rfl, h_m21, h_D23, (by show 16 ≤ sizeLine; decide), fun m24 n1 => ?_⟩
    have s1 := same_upd (o := .lst (List.replicate 14 v ++ List.replicate 2 v)) n1
    have h_m24 : upd G m24 (.lst (List.replicate 14 v ++ List.replicate 2 v)) m24 = some (.lst (List.replicate 16 v)) := upd_same
    replace h_c10 := s1 _ _ h_c10
    replace h_c11 := s1 _ _ h_c11
    replace h_m12 := s1 _ _ h_m12
    replace h_c13 := s1 _ _ h_c13
    replace h_m14 := s1 _ _ h_m14
    replace h_D15 := s1 _ _ h_D15
    replace h_c16 := s1 _ _ h_c16
    replace h_D17 := s1 _ _ h_D17
    replace h_m18 := s1 _ _ h_m18
    replace h_c19 := s1 _ _ h_c19
    replace h_D20 := s1 _ _ h_D20
    replace h_m21 := s1 _ _ h_m21
    replace h_c22 := s1 _ _ h_c22
    replace h_D23 := s1 _ _ h_D23
    replace h_l9 := s1 _ _ h_l9
    replace sB := sB.trans s1
    generalize upd G m24 (.lst (List.replicate 14 v ++ List.replicate 2 v)) = J15 at s1 sB h_l9 h_m24 h_c10 h_c11 h_m12 h_c13 h_m14 h_D15 h_c16 h_D17 h_m18 h_c19 h_D20 h_m21 h_c22 h_D23 ⊢
    clear s1 n1
    refine ⟨_, rfl, ?_⟩
    refine ⟨_, rfl, ?_⟩
    refine ⟨_, rfl, 16, rfl, l9, _, rfl, .inl (.inl h_l9), fun c25 n1 => ?_⟩
    have s1 := same_upd (o := .lst (cutV [.ref a1, .ref a2, .ref a3, .ref a4, .ref a5, .ref a6, .ref a7, .ref a8, .ref a9, .ref a10, .ref a11, .ref a12, .ref a13, .ref a14, .ref a15, .ref a16, .ref a17, .ref a18] (some 16) none)) n1
    have h_c25 : upd J15 c25 (.lst (cutV [.ref a1, .ref a2, .ref a3, .ref a4, .ref a5, .ref a6, .ref a7, .ref a8, .ref a9, .ref a10, .ref a11, .ref a12, .ref a13, .ref a14, .ref a15, .ref a16, .ref a17, .ref a18] (some 16) none)) c25 = some (.lst [.ref a17, .ref a18]) := upd_same
    replace h_c10 := s1 _ _ h_c10
    replace h_c11 := s1 _ _ h_c11
    replace h_m12 := s1 _ _ h_m12
    replace h_c13 := s1 _ _ h_c13
    replace h_m14 := s1 _ _ h_m14
    replace h_D15 := s1 _ _ h_D15
    replace h_c16 := s1 _ _ h_c16
    replace h_D17 := s1 _ _ h_D17
    replace h_m18 := s1 _ _ h_m18
    replace h_c19 := s1 _ _ h_c19
    replace h_D20 := s1 _ _ h_D20
    replace h_m21 := s1 _ _ h_m21
    replace h_c22 := s1 _ _ h_c22
    replace h_D23 := s1 _ _ h_D23
    replace h_m24 := s1 _ _ h_m24
    replace h_l9 := s1 _ _ h_l9
    replace sB := sB.trans s1
    generalize upd J15 c25 (.lst (cutV [.ref a1, .ref a2, .ref a3, .ref a4, .ref a5, .ref a6, .ref a7, .ref a8, .ref a9, .ref a10, .ref a11, .ref a12, .ref a13, .ref a14, .ref a15, .ref a16, .ref a17, .ref a18] (some 16) none)) = J16 at s1 sB h_l9 h_c25 h_c10 h_c11 h_m12 h_c13 h_m14 h_D15 h_c16 h_D17 h_m18 h_c19 h_D20 h_m21 h_c22 h_D23 h_m24 ⊢
    clear s1 n1
    refine ⟨c25, rfl, ⟨_, .inl (.inl (show J16 c25 = some (.lst [.ref a17, .ref a18]) from h_c25))⟩, fun D26 nD => ?_⟩
    have fl : ∀ x ∈ ([.ref a17, .ref a18] : List V), ∃ a : Addr, x = .ref a ∧ FieldAt K v "line" J16 a := fun x hx => by
      simp only [List.mem_cons, List.not_mem_nil, or_false] at hx
      rcases hx with rfl | rfl
      · exact ⟨_, rfl, f_a17.same sB⟩
      · exact ⟨_, rfl, f_a18.same sB⟩
    refine lc_list (xs := [.ref a17, .ref a18]) (fun i G => G D26 = some (.lst (List.replicate i v)) ∧ Same J16 G) ⟨upd_same, same_upd nD⟩ (fun i G _ hI => .inl (.inl (hI.2 _ _ h_c25))) (fun i x G hx hI => ?_) (fun G hI => ?_)
    · obtain ⟨hD, sm⟩ := hI
      obtain ⟨a, rfl, C, dd, xf, noN, hk, hd⟩ := fl x (List.mem_of_getElem? hx)
      have li := (List.getElem?_eq_some_iff.mp hx).1
      refine ⟨rfl, _, rfl, C, a, dd, _, v, xf, noN, rfl, sm _ _ hk, sm _ _ hd, lookup_one, _, hD, ?_, ?_, fun b o e => ?_⟩
      · rw [List.length_replicate]; exact len_lt (Nat.le_trans (Nat.le_of_lt li) (by show 2 ≤ 100000; decide))
      · rw [upd_same, List.replicate_succ']
      · rw [upd_ne (ne_of_none e nD)]; exact sm b o e
    obtain ⟨hD0, s1⟩ := hI
    have h_D26 : G D26 = some (.lst (List.replicate 2 v)) := hD0
    replace h_c10 := s1 _ _ h_c10
    replace h_c11 := s1 _ _ h_c11
    replace h_m12 := s1 _ _ h_m12
    replace h_c13 := s1 _ _ h_c13
    replace h_m14 := s1 _ _ h_m14
    replace h_D15 := s1 _ _ h_D15
    replace h_c16 := s1 _ _ h_c16
    replace h_D17 := s1 _ _ h_D17
    replace h_m18 := s1 _ _ h_m18
    replace h_c19 := s1 _ _ h_c19
    replace h_D20 := s1 _ _ h_D20
    replace h_m21 := s1 _ _ h_m21
    replace h_c22 := s1 _ _ h_c22
    replace h_D23 := s1 _ _ h_D23
    replace h_m24 := s1 _ _ h_m24
    replace h_c25 := s1 _ _ h_c25
    replace h_l9 := s1 _ _ h_l9
    replace sB := sB.trans s1
    clear s1 hD0 fl nD
    refine ⟨m24, D26, _, _, rfl, rfl, h_m24, h_D26, (by show 18 ≤ sizeLine; decide), fun m27 n1 => ?_⟩
    have s1 := same_upd (o := .lst (List.replicate 16 v ++ List.replicate 2 v)) n1
    have h_m27 : upd G m27 (.lst (List.replicate 16 v ++ List.replicate 2 v)) m27 = some (.lst (List.replicate 18 v)) := upd_same
    replace h_c10 := s1 _ _ h_c10
    replace h_c11 := s1 _ _ h_c11
    replace h_m12 := s1 _ _ h_m12
    replace h_c13 := s1 _ _ h_c13
    replace h_m14 := s1 _ _ h_m14
    replace h_D15 := s1 _ _ h_D15
    replace h_c16 := s1 _ _ h_c16
    replace h_D17 := s1 _ _ h_D17
    replace h_m18 := s1 _ _ h_m18
    replace h_c19 := s1 _ _ h_c19
    replace h_D20 := s1 _ _ h_D20
    replace h_m21 := s1 _ _ h_m21
    replace h_c22 := s1 _ _ h_c22
    replace h_D23 := s1 _ _ h_D23
    replace h_m24 := s1 _ _ h_m24
    replace h_c25 := s1 _ _ h_c25
    replace h_D26 := s1 _ _ h_D26
    replace h_l9 := s1 _ _ h_l9
    replace sB := sB.trans s1
    generalize upd G m27 (.lst (List.replicate 16 v ++ List.replicate 2 v)) = J18 at s1 sB h_l9 h_m27 h_c10 h_c11 h_m12 h_c13 h_m14 h_D15 h_c16 h_D17 h_m18 h_c19 h_D20 h_m21 h_c22 h_D23 h_m24 h_c25 h_D26 ⊢
    clear s1 n1
    refine ⟨(by show 2 ≤ sizeLine; decide), fun r n1 => ?_⟩
    have s1 := same_upd (o := .lst [.ref l9, .ref m27]) n1
    refine q r l9 m27 [a1, a2, a3, a4, a5, a6, a7, a8, a9, a10, a11, a12, a13, a14, a15, a16, a17, a18] _ (sA.trans (sB.trans s1)) upd_same (s1 _ _ h_l9) ?_ (s1 _ _ h_m27)
    exact sorts_of (mm.same (sB.trans s1))
end
section
variable {P : Program} {w : World} {K : PySem.W.Frag} {mg : Str → Option Value} {base : Heap}
abbrev s__law_third : Stmt := top 46
abbrev N__law_third : List Str := ["_law_thing", "_law_made", "_law_shown", "_law_one"]
theorem sc__law_third : FnScope N__law_third ["_law_thing"] (defScope s__law_third) := ⟨rfl, rfl, rfl, by decide +kernel, rfl, by decide +kernel, by decide +kernel⟩
theorem ok_third (D : Df K mg "_law_third" s__law_third) (eks : EksOk P w K mg base) (sos : SosOk K) : Cl P w K mg base 3 "_law_third" s__law_third ["_law_thing"] (spMade K [17, 17, 19, 19, 20, 20, 22, 22, 23, 23, 25, 25, 26, 26, 27, 27, 28, 28]) := by
  refine D.ok sc__law_third (fun _ _ _ _ _ _ us hl => match us, hl with | [_], _ => rfl) (fun vs H Q E h => ?_) (fun f cdv A outer s H vs Q E hr h => ?_)
  · obtain ⟨v, rfl, _⟩ := h
    rfl
  · obtain ⟨v, rfl, q⟩ := h
    have ek_NotFinal : EK P w K mg base "NotFinal" "index" := eks ("NotFinal", "index") (by decide)
    obtain ⟨so_NotFinal, nb_NotFinal⟩ : SortOk K "NotFinal" 17 ∧ NoB K "NotFinal" := sos (17, "NotFinal") (by decide)
    have ek_UnknownName : EK P w K mg base "UnknownName" "name" := eks ("UnknownName", "name") (by decide)
    obtain ⟨so_UnknownName, nb_UnknownName⟩ : SortOk K "UnknownName" 19 ∧ NoB K "UnknownName" := sos (19, "UnknownName") (by decide)
    have ek_UnknownHeight : EK P w K mg base "UnknownHeight" "height" := eks ("UnknownHeight", "height") (by decide)
    obtain ⟨so_UnknownHeight, nb_UnknownHeight⟩ : SortOk K "UnknownHeight" 20 ∧ NoB K "UnknownHeight" := sos (20, "UnknownHeight") (by decide)
    have ek_NameTaken : EK P w K mg base "NameTaken" "name" := eks ("NameTaken", "name") (by decide)
    obtain ⟨so_NameTaken, nb_NameTaken⟩ : SortOk K "NameTaken" 22 ∧ NoB K "NameTaken" := sos (22, "NameTaken") (by decide)
    have ek_HeightTaken : EK P w K mg base "HeightTaken" "height" := eks ("HeightTaken", "height") (by decide)
    obtain ⟨so_HeightTaken, nb_HeightTaken⟩ : SortOk K "HeightTaken" 23 ∧ NoB K "HeightTaken" := sos (23, "HeightTaken") (by decide)
    have ek_TooManySeats : EK P w K mg base "TooManySeats" "seats" := eks ("TooManySeats", "seats") (by decide)
    obtain ⟨so_TooManySeats, nb_TooManySeats⟩ : SortOk K "TooManySeats" 25 ∧ NoB K "TooManySeats" := sos (25, "TooManySeats") (by decide)
    have ek_TooManyPeople : EK P w K mg base "TooManyPeople" "count" := eks ("TooManyPeople", "count") (by decide)
    obtain ⟨so_TooManyPeople, nb_TooManyPeople⟩ : SortOk K "TooManyPeople" 26 ∧ NoB K "TooManyPeople" := sos (26, "TooManyPeople") (by decide)
    have ek_WordTooShort : EK P w K mg base "WordTooShort" "length" := eks ("WordTooShort", "length") (by decide)
    obtain ⟨so_WordTooShort, nb_WordTooShort⟩ : SortOk K "WordTooShort" 27 ∧ NoB K "WordTooShort" := sos (27, "WordTooShort") (by decide)
    have ek_TooManyDeeds : EK P w K mg base "TooManyDeeds" "count" := eks ("TooManyDeeds", "count") (by decide)
    obtain ⟨so_TooManyDeeds, nb_TooManyDeeds⟩ : SortOk K "TooManyDeeds" 28 ∧ NoB K "TooManyDeeds" := sos (28, "TooManyDeeds") (by decide)
    refine ⟨_, 
      (pss_cons (ps_set (i := 1) sc__law_third.nd rfl (Or.inl rfl) (pe_lst (pa_cons (pe_kept (pmk_tA (K := K) rfl ek_NotFinal.toET hr (by omega) (by rfl) (pa_cons (pv 0) pa_nil))) (pa_cons (pe_kept (pmk_tkA (K := K) rfl ek_NotFinal hr (by omega) (by rfl) (pk_cons (pv 0) pk_nil))) (pa_cons (pe_kept (pmk_tA (K := K) rfl ek_UnknownName.toET hr (by omega) (by rfl) (pa_cons (pv 0) pa_nil))) (pa_cons (pe_kept (pmk_tkA (K := K) rfl ek_UnknownName hr (by omega) (by rfl) (pk_cons (pv 0) pk_nil))) pa_nil)))))) 
      (pss_cons (ps_set (i := 1) sc__law_third.nd rfl (Or.inl rfl) (pe_op op_cat (pv 1) (pe_lst (pa_cons (pe_kept (pmk_tA (K := K) rfl ek_UnknownHeight.toET hr (by omega) (by rfl) (pa_cons (pv 0) pa_nil))) (pa_cons (pe_kept (pmk_tkA (K := K) rfl ek_UnknownHeight hr (by omega) (by rfl) (pk_cons (pv 0) pk_nil))) (pa_cons (pe_kept (pmk_tA (K := K) rfl ek_NameTaken.toET hr (by omega) (by rfl) (pa_cons (pv 0) pa_nil))) (pa_cons (pe_kept (pmk_tkA (K := K) rfl ek_NameTaken hr (by omega) (by rfl) (pk_cons (pv 0) pk_nil))) pa_nil))))))) 
      (pss_cons (ps_set (i := 1) sc__law_third.nd rfl (Or.inl rfl) (pe_op op_cat (pv 1) (pe_lst (pa_cons (pe_kept (pmk_tA (K := K) rfl ek_HeightTaken.toET hr (by omega) (by rfl) (pa_cons (pv 0) pa_nil))) (pa_cons (pe_kept (pmk_tkA (K := K) rfl ek_HeightTaken hr (by omega) (by rfl) (pk_cons (pv 0) pk_nil))) (pa_cons (pe_kept (pmk_tA (K := K) rfl ek_TooManySeats.toET hr (by omega) (by rfl) (pa_cons (pv 0) pa_nil))) (pa_cons (pe_kept (pmk_tkA (K := K) rfl ek_TooManySeats hr (by omega) (by rfl) (pk_cons (pv 0) pk_nil))) pa_nil))))))) 
      (pss_cons (ps_set (i := 1) sc__law_third.nd rfl (Or.inl rfl) (pe_op op_cat (pv 1) (pe_lst (pa_cons (pe_kept (pmk_tA (K := K) rfl ek_TooManyPeople.toET hr (by omega) (by rfl) (pa_cons (pv 0) pa_nil))) (pa_cons (pe_kept (pmk_tkA (K := K) rfl ek_TooManyPeople hr (by omega) (by rfl) (pk_cons (pv 0) pk_nil))) (pa_cons (pe_kept (pmk_tA (K := K) rfl ek_WordTooShort.toET hr (by omega) (by rfl) (pa_cons (pv 0) pa_nil))) (pa_cons (pe_kept (pmk_tkA (K := K) rfl ek_WordTooShort hr (by omega) (by rfl) (pk_cons (pv 0) pk_nil))) pa_nil))))))) 
      (pss_cons (ps_set (i := 1) sc__law_third.nd rfl (Or.inl rfl) (pe_op op_cat (pv 1) (pe_lst (pa_cons (pe_kept (pmk_tA (K := K) rfl ek_TooManyDeeds.toET hr (by omega) (by rfl) (pa_cons (pv 0) pa_nil))) (pa_cons (pe_kept (pmk_tkA (K := K) rfl ek_TooManyDeeds hr (by omega) (by rfl) (pk_cons (pv 0) pk_nil))) pa_nil))))) 
      (pss_cons (ps_set (i := 2) sc__law_third.nd rfl (Or.inl rfl) (pe_op op_cat (pe_lc (own := [("_law_one", 3)]) (g := gName 3) (te := (tKfA K "index" (tVar 3))) rfl sc__law_third.nd (pi_list (pe_slice sl_list (pv 1) po_none (po_some pe_int))) (blkOk_by (own := [("_law_one", 3)]) (N := N__law_third) (sc := (defScope s__law_third)) (by decide +kernel)) (fun _ _ _ _ _ => (pg_name (i := 3) sc__law_third.nd rfl (Or.inl rfl))) (fun _ _ _ _ _ => pts_nil) (fun _ _ _ _ _ => (pe_kfA (pv 3)))) (pe_lc (own := [("_law_one", 3)]) (g := gName 3) (te := (tKfA K "name" (tVar 3))) rfl sc__law_third.nd (pi_list (pe_op op_cat (pe_slice sl_list (pv 1) (po_some pe_int) (po_some pe_int)) (pe_slice sl_list (pv 1) (po_some pe_int) (po_some pe_int)))) (blkOk_by (own := [("_law_one", 3)]) (N := N__law_third) (sc := (defScope s__law_third)) (by decide +kernel)) (fun _ _ _ _ _ => (pg_name (i := 3) sc__law_third.nd rfl (Or.inl rfl))) (fun _ _ _ _ _ => pts_nil) (fun _ _ _ _ _ => (pe_kfA (pv 3)))))) 
      (pss_cons (ps_set (i := 2) sc__law_third.nd rfl (Or.inl rfl) (pe_op op_cat (pv 2) (pe_lc (own := [("_law_one", 3)]) (g := gName 3) (te := (tKfA K "height" (tVar 3))) rfl sc__law_third.nd (pi_list (pe_op op_cat (pe_slice sl_list (pv 1) (po_some pe_int) (po_some pe_int)) (pe_slice sl_list (pv 1) (po_some pe_int) (po_some pe_int)))) (blkOk_by (own := [("_law_one", 3)]) (N := N__law_third) (sc := (defScope s__law_third)) (by decide +kernel)) (fun _ _ _ _ _ => (pg_name (i := 3) sc__law_third.nd rfl (Or.inl rfl))) (fun _ _ _ _ _ => pts_nil) (fun _ _ _ _ _ => (pe_kfA (pv 3)))))) 
      (pss_cons (ps_set (i := 2) sc__law_third.nd rfl (Or.inl rfl) (pe_op op_cat (pv 2) (pe_lc (own := [("_law_one", 3)]) (g := gName 3) (te := (tKfA K "seats" (tVar 3))) rfl sc__law_third.nd (pi_list (pe_slice sl_list (pv 1) (po_some pe_int) (po_some pe_int))) (blkOk_by (own := [("_law_one", 3)]) (N := N__law_third) (sc := (defScope s__law_third)) (by decide +kernel)) (fun _ _ _ _ _ => (pg_name (i := 3) sc__law_third.nd rfl (Or.inl rfl))) (fun _ _ _ _ _ => pts_nil) (fun _ _ _ _ _ => (pe_kfA (pv 3)))))) 
      (pss_cons (ps_set (i := 2) sc__law_third.nd rfl (Or.inl rfl) (pe_op op_cat (pv 2) (pe_lc (own := [("_law_one", 3)]) (g := gName 3) (te := (tKfA K "count" (tVar 3))) rfl sc__law_third.nd (pi_list (pe_op op_cat (pe_slice sl_list (pv 1) (po_some pe_int) (po_some pe_int)) (pe_slice sl_list (pv 1) (po_some pe_int) po_none))) (blkOk_by (own := [("_law_one", 3)]) (N := N__law_third) (sc := (defScope s__law_third)) (by decide +kernel)) (fun _ _ _ _ _ => (pg_name (i := 3) sc__law_third.nd rfl (Or.inl rfl))) (fun _ _ _ _ _ => pts_nil) (fun _ _ _ _ _ => (pe_kfA (pv 3)))))) 
      (pss_cons (ps_set (i := 2) sc__law_third.nd rfl (Or.inl rfl) (pe_op op_cat (pv 2) (pe_lc (own := [("_law_one", 3)]) (g := gName 3) (te := (tKfA K "length" (tVar 3))) rfl sc__law_third.nd (pi_list (pe_slice sl_list (pv 1) (po_some pe_int) (po_some pe_int))) (blkOk_by (own := [("_law_one", 3)]) (N := N__law_third) (sc := (defScope s__law_third)) (by decide +kernel)) (fun _ _ _ _ _ => (pg_name (i := 3) sc__law_third.nd rfl (Or.inl rfl))) (fun _ _ _ _ _ => pts_nil) (fun _ _ _ _ _ => (pe_kfA (pv 3)))))) 
      (pss_one (ps_ret (pe_lst (pa_cons (pv 1) (pa_cons (pv 2) pa_nil))))))))))))))), ?_⟩
    have mm : Mds K v H [] := fun p hp => nomatch hp
    have sA : Same H H := Same.refl H
    refine ⟨_, rfl, v, rfl, fun d nd a1 na => ?_⟩
    have s1 := made_same (K := K) (x := "NotFinal") (f := "index") (v := v) nd na
    have mm := mm.add (p := (a1, 17, "index")) s1 (made_el ek_NotFinal so_NotFinal nb_NotFinal nd na)
    replace sA := sA.trans s1
    generalize upd (upd H d (.xd [("index", v)])) a1 (KeptO (.ref (He.ga K "NotFinal")) (some d) a1) = G1 at s1 mm sA ⊢
    clear s1 nd na
    refine ⟨_, rfl, v, rfl, fun d nd a2 na => ?_⟩
    have s1 := made_same (K := K) (x := "NotFinal") (f := "index") (v := v) nd na
    have mm := mm.add (p := (a2, 17, "index")) s1 (made_el ek_NotFinal so_NotFinal nb_NotFinal nd na)
    replace sA := sA.trans s1
    generalize upd (upd G1 d (.xd [("index", v)])) a2 (KeptO (.ref (He.ga K "NotFinal")) (some d) a2) = G2 at s1 mm sA ⊢
    clear s1 nd na
    refine ⟨_, rfl, v, rfl, fun d nd a3 na => ?_⟩
    have s1 := made_same (K := K) (x := "UnknownName") (f := "name") (v := v) nd na
    have mm := mm.add (p := (a3, 19, "name")) s1 (made_el ek_UnknownName so_UnknownName nb_UnknownName nd na)
    replace sA := sA.trans s1
    generalize upd (upd G2 d (.xd [("name", v)])) a3 (KeptO (.ref (He.ga K "UnknownName")) (some d) a3) = G3 at s1 mm sA ⊢
    clear s1 nd na
    refine ⟨_, rfl, v, rfl, fun d nd a4 na => ?_⟩
    have s1 := made_same (K := K) (x := "UnknownName") (f := "name") (v := v) nd na
    have mm := mm.add (p := (a4, 19, "name")) s1 (made_el ek_UnknownName so_UnknownName nb_UnknownName nd na)
    replace sA := sA.trans s1
    generalize upd (upd G3 d (.xd [("name", v)])) a4 (KeptO (.ref (He.ga K "UnknownName")) (some d) a4) = G4 at s1 mm sA ⊢
    clear s1 nd na
    refine ⟨(by show 4 ≤ sizeLine; decide), fun l1 n1 => ?_⟩
    have s1 := same_upd (o := .lst [.ref a1, .ref a2, .ref a3, .ref a4]) n1
    have h_l1 : upd G4 l1 (.lst [.ref a1, .ref a2, .ref a3, .ref a4]) l1 = some (.lst [.ref a1, .ref a2, .ref a3, .ref a4]) := upd_same
    replace mm := mm.same s1; replace sA := sA.trans s1
    generalize upd G4 l1 (.lst [.ref a1, .ref a2, .ref a3, .ref a4]) = K4 at s1 mm sA h_l1 ⊢
    clear s1 n1
    refine ⟨_, rfl, ?_⟩
    refine ⟨_, rfl, v, rfl, fun d nd a5 na => ?_⟩
    have s1 := made_same (K := K) (x := "UnknownHeight") (f := "height") (v := v) nd na
    have mm := mm.add (p := (a5, 20, "height")) s1 (made_el ek_UnknownHeight so_UnknownHeight nb_UnknownHeight nd na)
    replace h_l1 := s1 _ _ h_l1
    replace sA := sA.trans s1
    generalize upd (upd K4 d (.xd [("height", v)])) a5 (KeptO (.ref (He.ga K "UnknownHeight")) (some d) a5) = G5 at s1 mm sA h_l1 ⊢
    clear s1 nd na
    refine ⟨_, rfl, v, rfl, fun d nd a6 na => ?_⟩
    have s1 := made_same (K := K) (x := "UnknownHeight") (f := "height") (v := v) nd na
    have mm := mm.add (p := (a6, 20, "height")) s1 (made_el ek_UnknownHeight so_UnknownHeight nb_UnknownHeight nd na)
    replace h_l1 := s1 _ _ h_l1
    replace sA := sA.trans s1
    generalize upd (upd G5 d (.xd [("height", v)])) a6 (KeptO (.ref (He.ga K "UnknownHeight")) (some d) a6) = G6 at s1 mm sA h_l1 ⊢
    clear s1 nd na
    refine ⟨_, rfl, v, rfl, fun d nd a7 na => ?_⟩
    have s1 := made_same (K := K) (x := "NameTaken") (f := "name") (v := v) nd na
    have mm := mm.add (p := (a7, 22, "name")) s1 (made_el ek_NameTaken so_NameTaken nb_NameTaken nd na)
    replace h_l1 := s1 _ _ h_l1
    replace sA := sA.trans s1
    generalize upd (upd G6 d (.xd [("name", v)])) a7 (KeptO (.ref (He.ga K "NameTaken")) (some d) a7) = G7 at s1 mm sA h_l1 ⊢
    clear s1 nd na
    refine ⟨_, rfl, v, rfl, fun d nd a8 na => ?_⟩
    have s1 := made_same (K := K) (x := "NameTaken") (f := "name") (v := v) nd na
    have mm := mm.add (p := (a8, 22, "name")) s1 (made_el ek_NameTaken so_NameTaken nb_NameTaken nd na)
    replace h_l1 := s1 _ _ h_l1
    replace sA := sA.trans s1
    generalize upd (upd G7 d (.xd [("name", v)])) a8 (KeptO (.ref (He.ga K "NameTaken")) (some d) a8) = G8 at s1 mm sA h_l1 ⊢
    clear s1 nd na
    refine ⟨(by show 4 ≤ sizeLine; decide), fun l2 n1 => ?_⟩
    have s1 := same_upd (o := .lst [.ref a5, .ref a6, .ref a7, .ref a8]) n1
    refine ⟨l1, l2, _, _, rfl, rfl, s1 _ _ h_l1, upd_same, (by show 8 ≤ sizeLine; decide), fun l3 n2 => ?_⟩
    have s2 := same_upd (o := .lst ([.ref a1, .ref a2, .ref a3, .ref a4] ++ [.ref a5, .ref a6, .ref a7, .ref a8])) n2
    have h_l3 : upd (upd G8 l2 (.lst [.ref a5, .ref a6, .ref a7, .ref a8])) l3 (.lst ([.ref a1, .ref a2, .ref a3, .ref a4] ++ [.ref a5, .ref a6, .ref a7, .ref a8])) l3 = some (.lst [.ref a1, .ref a2, .ref a3, .ref a4, .ref a5, .ref a6, .ref a7, .ref a8]) := upd_same
    replace mm := mm.same (s1.trans s2); replace sA := sA.trans (s1.trans s2)
    generalize upd (upd G8 l2 (.lst [.ref a5, .ref a6, .ref a7, .ref a8])) l3 (.lst ([.ref a1, .ref a2, .ref a3, .ref a4] ++ [.ref a5, .ref a6, .ref a7, .ref a8])) = K8 at s2 mm sA h_l3 ⊢
    clear s1 s2 n1 n2 h_l1
    refine ⟨_, rfl, ?_⟩
    refine ⟨_, rfl, v, rfl, fun d nd a9 na => ?_⟩
    have s1 := made_same (K := K) (x := "HeightTaken") (f := "height") (v := v) nd na
    have mm := mm.add (p := (a9, 23, "height")) s1 (made_el ek_HeightTaken so_HeightTaken nb_HeightTaken nd na)
    replace h_l3 := s1 _ _ h_l3
    replace sA := sA.trans s1
    generalize upd (upd K8 d (.xd [("height", v)])) a9 (KeptO (.ref (He.ga K "HeightTaken")) (some d) a9) = G9 at s1 mm sA h_l3 ⊢
    clear s1 nd na
    refine ⟨_, rfl, v, rfl, fun d nd a10 na => ?_⟩
    have s1 := made_same (K := K) (x := "HeightTaken") (f := "height") (v := v) nd na
    have mm := mm.add (p := (a10, 23, "height")) s1 (made_el ek_HeightTaken so_HeightTaken nb_HeightTaken nd na)
    replace h_l3 := s1 _ _ h_l3
    replace sA := sA.trans s1
    generalize upd (upd G9 d (.xd [("height", v)])) a10 (KeptO (.ref (He.ga K "HeightTaken")) (some d) a10) = G10 at s1 mm sA h_l3 ⊢
    clear s1 nd na
    refine ⟨_, rfl, v, rfl, fun d nd a11 na => ?_⟩
    have s1 := made_same (K := K) (x := "TooManySeats") (f := "seats") (v := v) nd na
    have mm := mm.add (p := (a11, 25, "seats")) s1 (made_el ek_TooManySeats so_TooManySeats nb_TooManySeats nd na)
    replace h_l3 := s1 _ _ h_l3
    replace sA := sA.trans s1
    generalize upd (upd G10 d (.xd [("seats", v)])) a11 (KeptO (.ref (He.ga K "TooManySeats")) (some d) a11) = G11 at s1 mm sA h_l3 ⊢
    clear s1 nd na
    refine ⟨_, rfl, v, rfl, fun d nd a12 na => ?_⟩
    have s1 := made_same (K := K) (x := "TooManySeats") (f := "seats") (v := v) nd na
    have mm := mm.add (p := (a12, 25, "seats")) s1 (made_el ek_TooManySeats so_TooManySeats nb_TooManySeats nd na)
    replace h_l3 := s1 _ _ h_l3
    replace sA := sA.trans s1
    generalize upd (upd G11 d (.xd [("seats", v)])) a12 (KeptO (.ref (He.ga K "TooManySeats")) (some d) a12) = G12 at s1 mm sA h_l3 ⊢
    clear s1 nd na
    refine ⟨(by show 4 ≤ sizeLine; decide), fun l4 n1 => ?_⟩
    have s1 := same_upd (o := .lst [.ref a9, .ref a10, .ref a11, .ref a12]) n1
    refine ⟨l3, l4, _, _, rfl, rfl, s1 _ _ h_l3, upd_same, (by show 12 ≤ sizeLine; decide), fun l5 n2 => ?_⟩
    have s2 := same_upd (o := .lst ([.ref a1, .ref a2, .ref a3, .ref a4, .ref a5, .ref a6, .ref a7, .ref a8] ++ [.ref a9, .ref a10, .ref a11, .ref a12])) n2
    have h_l5 : upd (upd G12 l4 (.lst [.ref a9, .ref a10, .ref a11, .ref a12])) l5 (.lst ([.ref a1, .ref a2, .ref a3, .ref a4, .ref a5, .ref a6, .ref a7, .ref a8] ++ [.ref a9, .ref a10, .ref a11, .ref a12])) l5 = some (.lst [.ref a1, .ref a2, .ref a3, .ref a4, .ref a5, .ref a6, .ref a7, .ref a8, .ref a9, .ref a10, .ref a11, .ref a12]) := upd_same
    replace mm := mm.same (s1.trans s2); replace sA := sA.trans (s1.trans s2)
    generalize upd (upd G12 l4 (.lst [.ref a9, .ref a10, .ref a11, .ref a12])) l5 (.lst ([.ref a1, .ref a2, .ref a3, .ref a4, .ref a5, .ref a6, .ref a7, .ref a8] ++ [.ref a9, .ref a10, .ref a11, .ref a12])) = K12 at s2 mm sA h_l5 ⊢
    clear s1 s2 n1 n2 h_l3
    refine ⟨_, rfl, ?_⟩
    refine ⟨_, rfl, v, rfl, fun d nd a13 na => ?_⟩
    have s1 := made_same (K := K) (x := "TooManyPeople") (f := "count") (v := v) nd na
    have mm := mm.add (p := (a13, 26, "count")) s1 (made_el ek_TooManyPeople so_TooManyPeople nb_TooManyPeople nd na)
    replace h_l5 := s1 _ _ h_l5
    replace sA := sA.trans s1
    generalize upd (upd K12 d (.xd [("count", v)])) a13 (KeptO (.ref (He.ga K "TooManyPeople")) (some d) a13) = G13 at s1 mm sA h_l5 ⊢
    clear s1 nd na
    refine ⟨_, rfl, v, rfl, fun d nd a14 na => ?_⟩
    have s1 := made_same (K := K) (x := "TooManyPeople") (f := "count") (v := v) nd na
    have mm := mm.add (p := (a14, 26, "count")) s1 (made_el ek_TooManyPeople so_TooManyPeople nb_TooManyPeople nd na)
    replace h_l5 := s1 _ _ h_l5
    replace sA := sA.trans s1
    generalize upd (upd G13 d (.xd [("count", v)])) a14 (KeptO (.ref (He.ga K "TooManyPeople")) (some d) a14) = G14 at s1 mm sA h_l5 ⊢
    clear s1 nd na
    refine ⟨_, rfl, v, rfl, fun d nd a15 na => ?_⟩
    have s1 := made_same (K := K) (x := "WordTooShort") (f := "length") (v := v) nd na
    have mm := mm.add (p := (a15, 27, "length")) s1 (made_el ek_WordTooShort so_WordTooShort nb_WordTooShort nd na)
    replace h_l5 := s1 _ _ h_l5
    replace sA := sA.trans s1
    generalize upd (upd G14 d (.xd [("length", v)])) a15 (KeptO (.ref (He.ga K "WordTooShort")) (some d) a15) = G15 at s1 mm sA h_l5 ⊢
    clear s1 nd na
    refine ⟨_, rfl, v, rfl, fun d nd a16 na => ?_⟩
    have s1 := made_same (K := K) (x := "WordTooShort") (f := "length") (v := v) nd na
    have mm := mm.add (p := (a16, 27, "length")) s1 (made_el ek_WordTooShort so_WordTooShort nb_WordTooShort nd na)
    replace h_l5 := s1 _ _ h_l5
    replace sA := sA.trans s1
    generalize upd (upd G15 d (.xd [("length", v)])) a16 (KeptO (.ref (He.ga K "WordTooShort")) (some d) a16) = G16 at s1 mm sA h_l5 ⊢
    clear s1 nd na
    refine ⟨(by show 4 ≤ sizeLine; decide), fun l6 n1 => ?_⟩
    have s1 := same_upd (o := .lst [.ref a13, .ref a14, .ref a15, .ref a16]) n1
    refine ⟨l5, l6, _, _, rfl, rfl, s1 _ _ h_l5, upd_same, (by show 16 ≤ sizeLine; decide), fun l7 n2 => ?_⟩
    have s2 := same_upd (o := .lst ([.ref a1, .ref a2, .ref a3, .ref a4, .ref a5, .ref a6, .ref a7, .ref a8, .ref a9, .ref a10, .ref a11, .ref a12] ++ [.ref a13, .ref a14, .ref a15, .ref a16])) n2
    have h_l7 : upd (upd G16 l6 (.lst [.ref a13, .ref a14, .ref a15, .ref a16])) l7 (.lst ([.ref a1, .ref a2, .ref a3, .ref a4, .ref a5, .ref a6, .ref a7, .ref a8, .ref a9, .ref a10, .ref a11, .ref a12] ++ [.ref a13, .ref a14, .ref a15, .ref a16])) l7 = some (.lst [.ref a1, .ref a2, .ref a3, .ref a4, .ref a5, .ref a6, .ref a7, .ref a8, .ref a9, .ref a10, .ref a11, .ref a12, .ref a13, .ref a14, .ref a15, .ref a16]) := upd_same
    replace mm := mm.same (s1.trans s2); replace sA := sA.trans (s1.trans s2)
    generalize upd (upd G16 l6 (.lst [.ref a13, .ref a14, .ref a15, .ref a16])) l7 (.lst ([.ref a1, .ref a2, .ref a3, .ref a4, .ref a5, .ref a6, .ref a7, .ref a8, .ref a9, .ref a10, .ref a11, .ref a12] ++ [.ref a13, .ref a14, .ref a15, .ref a16])) = K16 at s2 mm sA h_l7 ⊢
    clear s1 s2 n1 n2 h_l5
    refine ⟨_, rfl, ?_⟩
    refine ⟨_, rfl, v, rfl, fun d nd a17 na => ?_⟩
    have s1 := made_same (K := K) (x := "TooManyDeeds") (f := "count") (v := v) nd na
    have mm := mm.add (p := (a17, 28, "count")) s1 (made_el ek_TooManyDeeds so_TooManyDeeds nb_TooManyDeeds nd na)
    replace h_l7 := s1 _ _ h_l7
    replace sA := sA.trans s1
    generalize upd (upd K16 d (.xd [("count", v)])) a17 (KeptO (.ref (He.ga K "TooManyDeeds")) (some d) a17) = G17 at s1 mm sA h_l7 ⊢
    clear s1 nd na
    refine ⟨_, rfl, v, rfl, fun d nd a18 na => ?_⟩
    have s1 := made_same (K := K) (x := "TooManyDeeds") (f := "count") (v := v) nd na
    have mm := mm.add (p := (a18, 28, "count")) s1 (made_el ek_TooManyDeeds so_TooManyDeeds nb_TooManyDeeds nd na)
    replace h_l7 := s1 _ _ h_l7
    replace sA := sA.trans s1
    generalize upd (upd G17 d (.xd [("count", v)])) a18 (KeptO (.ref (He.ga K "TooManyDeeds")) (some d) a18) = G18 at s1 mm sA h_l7 ⊢
    clear s1 nd na
    refine ⟨(by show 2 ≤ sizeLine; decide), fun l8 n1 => ?_⟩
    have s1 := same_upd (o := .lst [.ref a17, .ref a18]) n1
    refine ⟨l7, l8, _, _, rfl, rfl, s1 _ _ h_l7, upd_same, (by show 18 ≤ sizeLine; decide), fun l9 n2 => ?_⟩
    have s2 := same_upd (o := .lst ([.ref a1, .ref a2, .ref a3, .ref a4, .ref a5, .ref a6, .ref a7, .ref a8, .ref a9, .ref a10, .ref a11, .ref a12, .ref a13, .ref a14, .ref a15, .ref a16] ++ [.ref a17, .ref a18])) n2
    have h_l9 : upd (upd G18 l8 (.lst [.ref a17, .ref a18])) l9 (.lst ([.ref a1, .ref a2, .ref a3, .ref a4, .ref a5, .ref a6, .ref a7, .ref a8, .ref a9, .ref a10, .ref a11, .ref a12, .ref a13, .ref a14, .ref a15, .ref a16] ++ [.ref a17, .ref a18])) l9 = some (.lst [.ref a1, .ref a2, .ref a3, .ref a4, .ref a5, .ref a6, .ref a7, .ref a8, .ref a9, .ref a10, .ref a11, .ref a12, .ref a13, .ref a14, .ref a15, .ref a16, .ref a17, .ref a18]) := upd_same
    replace mm := mm.same (s1.trans s2); replace sA := sA.trans (s1.trans s2)
    generalize upd (upd G18 l8 (.lst [.ref a17, .ref a18])) l9 (.lst ([.ref a1, .ref a2, .ref a3, .ref a4, .ref a5, .ref a6, .ref a7, .ref a8, .ref a9, .ref a10, .ref a11, .ref a12, .ref a13, .ref a14, .ref a15, .ref a16] ++ [.ref a17, .ref a18])) = K18 at s2 mm sA h_l9 ⊢
    clear s1 s2 n1 n2 h_l7
    have nS : sizeLine = sizeLine := rfl
    have f_a1 := (mm (a1, 17, "index") (by simp)).1
    have f_a2 := (mm (a2, 17, "index") (by simp)).1
    have f_a3 := (mm (a3, 19, "name") (by simp)).1
    have f_a4 := (mm (a4, 19, "name") (by simp)).1
    have f_a5 := (mm (a5, 20, "height") (by simp)).1
    have f_a6 := (mm (a6, 20, "height") (by simp)).1
    have f_a7 := (mm (a7, 22, "name") (by simp)).1
    have f_a8 := (mm (a8, 22, "name") (by simp)).1
    have f_a9 := (mm (a9, 23, "height") (by simp)).1
    have f_a10 := (mm (a10, 23, "height") (by simp)).1
    have f_a11 := (mm (a11, 25, "seats") (by simp)).1
    have f_a12 := (mm (a12, 25, "seats") (by simp)).1
    have f_a13 := (mm (a13, 26, "count") (by simp)).1
    have f_a14 := (mm (a14, 26, "count") (by simp)).1
    have f_a15 := (mm (a15, 27, "length") (by simp)).1
    have f_a16 := (mm (a16, 27, "length") (by simp)).1
    have f_a17 := (mm (a17, 28, "count") (by simp)).1
    have f_a18 := (mm (a18, 28, "count") (by simp)).1
    have sB : Same K18 K18 := Same.refl _
    refine ⟨_, rfl, 2, rfl, l9, _, rfl, .inl (.inl h_l9), fun c10 n1 => ?_⟩
    have s1 := same_upd (o := .lst (cutV [.ref a1, .ref a2, .ref a3, .ref a4, .ref a5, .ref a6, .ref a7, .ref a8, .ref a9, .ref a10, .ref a11, .ref a12, .ref a13, .ref a14, .ref a15, .ref a16, .ref a17, .ref a18] none (some 2))) n1
    have h_c10 : upd K18 c10 (.lst (cutV [.ref a1, .ref a2, .ref a3, .ref a4, .ref a5, .ref a6, .ref a7, .ref a8, .ref a9, .ref a10, .ref a11, .ref a12, .ref a13, .ref a14, .ref a15, .ref a16, .ref a17, .ref a18] none (some 2))) c10 = some (.lst [.ref a1, .ref a2]) := upd_same
    replace h_l9 := s1 _ _ h_l9
    replace sB := sB.trans s1
    generalize upd K18 c10 (.lst (cutV [.ref a1, .ref a2, .ref a3, .ref a4, .ref a5, .ref a6, .ref a7, .ref a8, .ref a9, .ref a10, .ref a11, .ref a12, .ref a13, .ref a14, .ref a15, .ref a16, .ref a17, .ref a18] none (some 2))) = J1 at s1 sB h_l9 h_c10 ⊢
    clear s1 n1
    refine ⟨c10, rfl, ⟨_, .inl (.inl (show J1 c10 = some (.lst [.ref a1, .ref a2]) from h_c10))⟩, fun D11 nD => ?_⟩
    have fl : ∀ x ∈ ([.ref a1, .ref a2] : List V), ∃ a : Addr, x = .ref a ∧ FieldAt K v "index" J1 a := fun x hx => by
      simp only [List.mem_cons, List.not_mem_nil, or_false] at hx
      rcases hx with rfl | rfl
      · exact ⟨_, rfl, f_a1.same sB⟩
      · exact ⟨_, rfl, f_a2.same sB⟩
    refine lc_list (xs := [.ref a1, .ref a2]) (fun i G => G D11 = some (.lst (List.replicate i v)) ∧ Same J1 G) ⟨upd_same, same_upd nD⟩ (fun i G _ hI => .inl (.inl (hI.2 _ _ h_c10))) (fun i x G hx hI => ?_) (fun G hI => ?_)
    · obtain ⟨hD, sm⟩ := hI
      obtain ⟨a, rfl, C, dd, xf, noN, hk, hd⟩ := fl x (List.mem_of_getElem? hx)
      have li := (List.getElem?_eq_some_iff.mp hx).1
      refine ⟨rfl, _, rfl, C, a, dd, _, v, xf, noN, rfl, sm _ _ hk, sm _ _ hd, lookup_one, _, hD, ?_, ?_, fun b o e => ?_⟩
      · rw [List.length_replicate]; exact len_lt (Nat.le_trans (Nat.le_of_lt li) (by show 2 ≤ 100000; decide))
      · rw [upd_same, List.replicate_succ']
      · rw [upd_ne (ne_of_none e nD)]; exact sm b o e
    obtain ⟨hD0, s1⟩ := hI
    have h_D11 : G D11 = some (.lst (List.replicate 2 v)) := hD0
    replace h_c10 := s1 _ _ h_c10
    replace h_l9 := s1 _ _ h_l9
    replace sB := sB.trans s1
    clear s1 hD0 fl nD
    refine ⟨_, rfl, 2, rfl, 4, rfl, l9, _, rfl, .inl (.inl h_l9), fun c12 n1 => ?_⟩
    have s1 := same_upd (o := .lst (cutV [.ref a1, .ref a2, .ref a3, .ref a4, .ref a5, .ref a6, .ref a7, .ref a8, .ref a9, .ref a10, .ref a11, .ref a12, .ref a13, .ref a14, .ref a15, .ref a16, .ref a17, .ref a18] (some 2) (some 4))) n1
    have h_c12 : upd G c12 (.lst (cutV [.ref a1, .ref a2, .ref a3, .ref a4, .ref a5, .ref a6, .ref a7, .ref a8, .ref a9, .ref a10, .ref a11, .ref a12, .ref a13, .ref a14, .ref a15, .ref a16, .ref a17, .ref a18] (some 2) (some 4))) c12 = some (.lst [.ref a3, .ref a4]) := upd_same
    replace h_c10 := s1 _ _ h_c10
    replace h_D11 := s1 _ _ h_D11
    replace h_l9 := s1 _ _ h_l9
    replace sB := sB.trans s1
    generalize upd G c12 (.lst (cutV [.ref a1, .ref a2, .ref a3, .ref a4, .ref a5, .ref a6, .ref a7, .ref a8, .ref a9, .ref a10, .ref a11, .ref a12, .ref a13, .ref a14, .ref a15, .ref a16, .ref a17, .ref a18] (some 2) (some 4))) = J3 at s1 sB h_l9 h_c12 h_c10 h_D11 ⊢
    clear s1 n1
    refine ⟨_, rfl, 6, rfl, 8, rfl, l9, _, rfl, .inl (.inl h_l9), fun c13 n1 => ?_⟩
    have s1 := same_upd (o := .lst (cutV [.ref a1, .ref a2, .ref a3, .ref a4, .ref a5, .ref a6, .ref a7, .ref a8, .ref a9, .ref a10, .ref a11, .ref a12, .ref a13, .ref a14, .ref a15, .ref a16, .ref a17, .ref a18] (some 6) (some 8))) n1
    have h_c13 : upd J3 c13 (.lst (cutV [.ref a1, .ref a2, .ref a3, .ref a4, .ref a5, .ref a6, .ref a7, .ref a8, .ref a9, .ref a10, .ref a11, .ref a12, .ref a13, .ref a14, .ref a15, .ref a16, .ref a17, .ref a18] (some 6) (some 8))) c13 = some (.lst [.ref a7, .ref a8]) := upd_same
    replace h_c10 := s1 _ _ h_c10
    replace h_D11 := s1 _ _ h_D11
    replace h_c12 := s1 _ _ h_c12
    replace h_l9 := s1 _ _ h_l9
    replace sB := sB.trans s1
    generalize upd J3 c13 (.lst (cutV [.ref a1, .ref a2, .ref a3, .ref a4, .ref a5, .ref a6, .ref a7, .ref a8, .ref a9, .ref a10, .ref a11, .ref a12, .ref a13, .ref a14, .ref a15, .ref a16, .ref a17, .ref a18] (some 6) (some 8))) = J4 at s1 sB h_l9 h_c13 h_c10 h_D11 h_c12 ⊢
    clear s1 n1
    refine ⟨c12, c13, _, _, rfl, rfl, h_c12, h_c13, (by show 4 ≤ sizeLine; decide), fun m14 n1 => ?_⟩
    have s1 := same_upd (o := .lst ([.ref a3, .ref a4] ++ [.ref a7, .ref a8])) n1
    have h_m14 : upd J4 m14 (.lst ([.ref a3, .ref a4] ++ [.ref a7, .ref a8])) m14 = some (.lst ([.ref a3, .ref a4, .ref a7, .ref a8])) := upd_same
    replace h_c10 := s1 _ _ h_c10
    replace h_D11 := s1 _ _ h_D11
    replace h_c12 := s1 _ _ h_c12
    replace h_c13 := s1 _ _ h_c13
    replace h_l9 := s1 _ _ h_l9
    replace sB := sB.trans s1
    generalize upd J4 m14 (.lst ([.ref a3, .ref a4] ++ [.ref a7, .ref a8])) = J5 at s1 sB h_l9 h_m14 h_c10 h_D11 h_c12 h_c13 ⊢
    clear s1 n1
    refine ⟨m14, rfl, ⟨_, .inl (.inl (show J5 m14 = some (.lst [.ref a3, .ref a4, .ref a7, .ref a8]) from h_m14))⟩, fun D15 nD => ?_⟩
    have fl : ∀ x ∈ ([.ref a3, .ref a4, .ref a7, .ref a8] : List V), ∃ a : Addr, x = .ref a ∧ FieldAt K v "name" J5 a := fun x hx => by
      simp only [List.mem_cons, List.not_mem_nil, or_false] at hx
      rcases hx with rfl | rfl | rfl | rfl
      · exact ⟨_, rfl, f_a3.same sB⟩
      · exact ⟨_, rfl, f_a4.same sB⟩
      · exact ⟨_, rfl, f_a7.same sB⟩
      · exact ⟨_, rfl, f_a8.same sB⟩
    refine lc_list (xs := [.ref a3, .ref a4, .ref a7, .ref a8]) (fun i G => G D15 = some (.lst (List.replicate i v)) ∧ Same J5 G) ⟨upd_same, same_upd nD⟩ (fun i G _ hI => .inl (.inl (hI.2 _ _ h_m14))) (fun i x G hx hI => ?_) (fun G hI => ?_)
    · obtain ⟨hD, sm⟩ := hI
      obtain ⟨a, rfl, C, dd, xf, noN, hk, hd⟩ := fl x (List.mem_of_getElem? hx)
      have li := (List.getElem?_eq_some_iff.mp hx).1
      refine ⟨rfl, _, rfl, C, a, dd, _, v, xf, noN, rfl, sm _ _ hk, sm _ _ hd, lookup_one, _, hD, ?_, ?_, fun b o e => ?_⟩
      · rw [List.length_replicate]; exact len_lt (Nat.le_trans (Nat.le_of_lt li) (by show 4 ≤ 100000; decide))
      · rw [upd_same, List.replicate_succ']
      · rw [upd_ne (ne_of_none e nD)]; exact sm b o e
    obtain ⟨hD0, s1⟩ := hI
    have h_D15 : G D15 = some (.lst (List.replicate 4 v)) := hD0
    replace h_c10 := s1 _ _ h_c10
    replace h_D11 := s1 _ _ h_D11
    replace h_c12 := s1 _ _ h_c12
    replace h_c13 := s1 _ _ h_c13
    replace h_m14 := s1 _ _ h_m14
    replace h_l9 := s1 _ _ h_l9
    replace sB := sB.trans s1
    clear s1 hD0 fl nD
    refine ⟨D11, D15, _, _, rfl, rfl, h_D11, h_D15, (by show 6 ≤ sizeLine; decide), fun m16 n1 => ?_⟩
    have s1 := same_upd (o := .lst (List.replicate 2 v ++ List.replicate 4 v)) n1
    have h_m16 : upd G m16 (.lst (List.replicate 2 v ++ List.replicate 4 v)) m16 = some (.lst (List.replicate 6 v)) := upd_same
    replace h_c10 := s1 _ _ h_c10
    replace h_D11 := s1 _ _ h_D11
    replace h_c12 := s1 _ _ h_c12
    replace h_c13 := s1 _ _ h_c13
    replace h_m14 := s1 _ _ h_m14
    replace h_D15 := s1 _ _ h_D15
    replace h_l9 := s1 _ _ h_l9
    replace sB := sB.trans s1
    generalize upd G m16 (.lst (List.replicate 2 v ++ List.replicate 4 v)) = J7 at s1 sB h_l9 h_m16 h_c10 h_D11 h_c12 h_c13 h_m14 h_D15 ⊢
    clear s1 n1
    refine ⟨_, rfl, ?_⟩
    refine ⟨_, rfl, 4, rfl, 6, rfl, l9, _, rfl, .inl (.inl h_l9), fun c17 n1 => ?_⟩
    have s1 := same_upd (o := .lst (cutV [.ref a1, .ref a2, .ref a3, .ref a4, .ref a5, .ref a6, .ref a7, .ref a8, .ref a9, .ref a10, .ref a11, .ref a12, .ref a13, .ref a14, .ref a15, .ref a16, .ref a17, .ref a18] (some 4) (some 6))) n1
    have h_c17 : upd J7 c17 (.lst (cutV [.ref a1, .ref a2, .ref a3, .ref a4, .ref a5, .ref a6, .ref a7, .ref a8, .ref a9, .ref a10, .ref a11, .ref a12, .ref a13, .ref a14, .ref a15, .ref a16, .ref a17, .ref a18] (some 4) (some 6))) c17 = some (.lst [.ref a5, .ref a6]) := upd_same
    replace h_c10 := s1 _ _ h_c10
    replace h_D11 := s1 _ _ h_D11
    replace h_c12 := s1 _ _ h_c12
    replace h_c13 := s1 _ _ h_c13
    replace h_m14 := s1 _ _ h_m14
    replace h_D15 := s1 _ _ h_D15
    replace h_m16 := s1 _ _ h_m16
    replace h_l9 := s1 _ _ h_l9
    replace sB := sB.trans s1
    generalize upd J7 c17 (.lst (cutV [.ref a1, .ref a2, .ref a3, .ref a4, .ref a5, .ref a6, .ref a7, .ref a8, .ref a9, .ref a10, .ref a11, .ref a12, .ref a13, .ref a14, .ref a15, .ref a16, .ref a17, .ref a18] (some 4) (some 6))) = J8 at s1 sB h_l9 h_c17 h_c10 h_D11 h_c12 h_c13 h_m14 h_D15 h_m16 ⊢
    clear s1 n1
    refine ⟨_, rfl, 8, rfl, 10, rfl, l9, _, rfl, .inl (.inl h_l9), fun c18 n1 => ?_⟩
    have s1 := same_upd (o := .lst (cutV [.ref a1, .ref a2, .ref a3, .ref a4, .ref a5, .ref a6, .ref a7, .ref a8, .ref a9, .ref a10, .ref a11, .ref a12, .ref a13, .ref a14, .ref a15, .ref a16, .ref a17, .ref a18] (some 8) (some 10))) n1
    have h_c18 : upd J8 c18 (.lst (cutV [.ref a1, .ref a2, .ref a3, .ref a4, .ref a5, .ref a6, .ref a7, .ref a8, .ref a9, .ref a10, .ref a11, .ref a12, .ref a13, .ref a14, .ref a15, .ref a16, .ref a17, .ref a18] (some 8) (some 10))) c18 = some (.lst [.ref a9, .ref a10]) := upd_same
    replace h_c10 := s1 _ _ h_c10
    replace h_D11 := s1 _ _ h_D11
    replace h_c12 := s1 _ _ h_c12
    replace h_c13 := s1 _ _ h_c13
    replace h_m14 := s1 _ _ h_m14
    replace h_D15 := s1 _ _ h_D15
    replace h_m16 := s1 _ _ h_m16
    replace h_c17 := s1 _ _ h_c17
    replace h_l9 := s1 _ _ h_l9
    replace sB := sB.trans s1
    generalize upd J8 c18 (.lst (cutV [.ref a1, .ref a2, .ref a3, .ref a4, .ref a5, .ref a6, .ref a7, .ref a8, .ref a9, .ref a10, .ref a11, .ref a12, .ref a13, .ref a14, .ref a15, .ref a16, .ref a17, .ref a18] (some 8) (some 10))) = J9 at s1 sB h_l9 h_c18 h_c10 h_D11 h_c12 h_c13 h_m14 h_D15 h_m16 h_c17 ⊢
    clear s1 n1
    refine ⟨c17, c18, _, _, rfl, rfl, h_c17, h_c18, (by show 4 ≤ sizeLine; decide), fun m19 n1 => ?_⟩
    have s1 := same_upd (o := .lst ([.ref a5, .ref a6] ++ [.ref a9, .ref a10])) n1
    have h_m19 : upd J9 m19 (.lst ([.ref a5, .ref a6] ++ [.ref a9, .ref a10])) m19 = some (.lst ([.ref a5, .ref a6, .ref a9, .ref a10])) := upd_same
    replace h_c10 := s1 _ _ h_c10
    replace h_D11 := s1 _ _ h_D11
    replace h_c12 := s1 _ _ h_c12
    replace h_c13 := s1 _ _ h_c13
    replace h_m14 := s1 _ _ h_m14
    replace h_D15 := s1 _ _ h_D15
    replace h_m16 := s1 _ _ h_m16
    replace h_c17 := s1 _ _ h_c17
    replace h_c18 := s1 _ _ h_c18
    replace h_l9 := s1 _ _ h_l9
    replace sB := sB.trans s1
    generalize upd J9 m19 (.lst ([.ref a5, .ref a6] ++ [.ref a9, .ref a10])) = J10 at s1 sB h_l9 h_m19 h_c10 h_D11 h_c12 h_c13 h_m14 h_D15 h_m16 h_c17 h_c18 ⊢
    clear s1 n1
    refine ⟨m19, rfl, ⟨_, .inl (.inl (show J10 m19 = some (.lst [.ref a5, .ref a6, .ref a9, .ref a10]) from h_m19))⟩, fun D20 nD => ?_⟩
    have fl : ∀ x ∈ ([.ref a5, .ref a6, .ref a9, .ref a10] : List V), ∃ a : Addr, x = .ref a ∧ FieldAt K v "height" J10 a := fun x hx => by
      simp only [List.mem_cons, List.not_mem_nil, or_false] at hx
      rcases hx with rfl | rfl | rfl | rfl
      · exact ⟨_, rfl, f_a5.same sB⟩
      · exact ⟨_, rfl, f_a6.same sB⟩
      · exact ⟨_, rfl, f_a9.same sB⟩
      · exact ⟨_, rfl, f_a10.same sB⟩
    refine lc_list (xs := [.ref a5, .ref a6, .ref a9, .ref a10]) (fun i G => G D20 = some (.lst (List.replicate i v)) ∧ Same J10 G) ⟨upd_same, same_upd nD⟩ (fun i G _ hI => .inl (.inl (hI.2 _ _ h_m19))) (fun i x G hx hI => ?_) (fun G hI => ?_)
    · obtain ⟨hD, sm⟩ := hI
      obtain ⟨a, rfl, C, dd, xf, noN, hk, hd⟩ := fl x (List.mem_of_getElem? hx)
      have li := (List.getElem?_eq_some_iff.mp hx).1
      refine ⟨rfl, _, rfl, C, a, dd, _, v, xf, noN, rfl, sm _ _ hk, sm _ _ hd, lookup_one, _, hD, ?_, ?_, fun b o e => ?_⟩
      · rw [List.length_replicate]; exact len_lt (Nat.le_trans (Nat.le_of_lt li) (by show 4 ≤ 100000; decide))
      · rw [upd_same, List.replicate_succ']
      · rw [upd_ne (ne_of_none e nD)]; exact sm b o e
    obtain ⟨hD0, s1⟩ := hI
    have h_D20 : G D20 = some (.lst (List.replicate 4 v)) := hD0
    replace h_c10 := s1 _ _ h_c10
    replace h_D11 := s1 _ _ h_D11
    replace h_c12 := s1 _ _ h_c12
    replace h_c13 := s1 _ _ h_c13
    replace h_m14 := s1 _ _ h_m14
    replace h_D15 := s1 _ _ h_D15
    replace h_m16 := s1 _ _ h_m16
    replace h_c17 := s1 _ _ h_c17
    replace h_c18 := s1 _ _ h_c18
    replace h_m19 := s1 _ _ h_m19
    replace h_l9 := s1 _ _ h_l9
    replace sB := sB.trans s1
    clear s1 hD0 fl nD
    refine ⟨m16, D20, _, _, rfl, rfl, h_m16, h_D20, (by show 10 ≤ sizeLine; decide), fun m21 n1 => ?_⟩
    have s1 := same_upd (o := .lst (List.replicate 6 v ++ List.replicate 4 v)) n1
    have h_m21 : upd G m21 (.lst (List.replicate 6 v ++ List.replicate 4 v)) m21 = some (.lst (List.replicate 10 v)) := upd_same
    replace h_c10 := s1 _ _ h_c10
    replace h_D11 := s1 _ _ h_D11
    replace h_c12 := s1 _ _ h_c12
    replace h_c13 := s1 _ _ h_c13
    replace h_m14 := s1 _ _ h_m14
    replace h_D15 := s1 _ _ h_D15
    replace h_m16 := s1 _ _ h_m16
    replace h_c17 := s1 _ _ h_c17
    replace h_c18 := s1 _ _ h_c18
    replace h_m19 := s1 _ _ h_m19
    replace h_D20 := s1 _ _ h_D20
    replace h_l9 := s1 _ _ h_l9
    replace sB := sB.trans s1
    generalize upd G m21 (.lst (List.replicate 6 v ++ List.replicate 4 v)) = J12 at s1 sB h_l9 h_m21 h_c10 h_D11 h_c12 h_c13 h_m14 h_D15 h_m16 h_c17 h_c18 h_m19 h_D20 ⊢
    clear s1 n1
    refine ⟨_, rfl, ?_⟩
    refine ⟨_, rfl, 10, rfl, 12, rfl, l9, _, rfl, .inl (.inl h_l9), fun c22 n1 => ?_⟩
    have s1 := same_upd (o := .lst (cutV [.ref a1, .ref a2, .ref a3, .ref a4, .ref a5, .ref a6, .ref a7, .ref a8, .ref a9, .ref a10, .ref a11, .ref a12, .ref a13, .ref a14, .ref a15, .ref a16, .ref a17, .ref a18] (some 10) (some 12))) n1
    have h_c22 : upd J12 c22 (.lst (cutV [.ref a1, .ref a2, .ref a3, .ref a4, .ref a5, .ref a6, .ref a7, .ref a8, .ref a9, .ref a10, .ref a11, .ref a12, .ref a13, .ref a14, .ref a15, .ref a16, .ref a17, .ref a18] (some 10) (some 12))) c22 = some (.lst [.ref a11, .ref a12]) := upd_same
    replace h_c10 := s1 _ _ h_c10
    replace h_D11 := s1 _ _ h_D11
    replace h_c12 := s1 _ _ h_c12
    replace h_c13 := s1 _ _ h_c13
    replace h_m14 := s1 _ _ h_m14
    replace h_D15 := s1 _ _ h_D15
    replace h_m16 := s1 _ _ h_m16
    replace h_c17 := s1 _ _ h_c17
    replace h_c18 := s1 _ _ h_c18
    replace h_m19 := s1 _ _ h_m19
    replace h_D20 := s1 _ _ h_D20
    replace h_m21 := s1 _ _ h_m21
    replace h_l9 := s1 _ _ h_l9
    replace sB := sB.trans s1
    generalize upd J12 c22 (.lst (cutV [.ref a1, .ref a2, .ref a3, .ref a4, .ref a5, .ref a6, .ref a7, .ref a8, .ref a9, .ref a10, .ref a11, .ref a12, .ref a13, .ref a14, .ref a15, .ref a16, .ref a17, .ref a18] (some 10) (some 12))) = J13 at s1 sB h_l9 h_c22 h_c10 h_D11 h_c12 h_c13 h_m14 h_D15 h_m16 h_c17 h_c18 h_m19 h_D20 h_m21 ⊢
    clear s1 n1
    refine ⟨c22, rfl, ⟨_, .inl (.inl (show J13 c22 = some (.lst [.ref a11, .ref a12]) from h_c22))⟩, fun D23 nD => ?_⟩
    have fl : ∀ x ∈ ([.ref a11, .ref a12] : List V), ∃ a : Addr, x = .ref a ∧ FieldAt K v "seats" J13 a := fun x hx => by
      simp only [List.mem_cons, List.not_mem_nil, or_false] at hx
      rcases hx with rfl | rfl
      · exact ⟨_, rfl, f_a11.same sB⟩
      · exact ⟨_, rfl, f_a12.same sB⟩
    refine lc_list (xs := [.ref a11, .ref a12]) (fun i G => G D23 = some (.lst (List.replicate i v)) ∧ Same J13 G) ⟨upd_same, same_upd nD⟩ (fun i G _ hI => .inl (.inl (hI.2 _ _ h_c22))) (fun i x G hx hI => ?_) (fun G hI => ?_)
    · obtain ⟨hD, sm⟩ := hI
      obtain ⟨a, rfl, C, dd, xf, noN, hk, hd⟩ := fl x (List.mem_of_getElem? hx)
      have li := (List.getElem?_eq_some_iff.mp hx).1
      refine ⟨rfl, _, rfl, C, a, dd, _, v, xf, noN, rfl, sm _ _ hk, sm _ _ hd, lookup_one, _, hD, ?_, ?_, fun b o e => ?_⟩
      · rw [List.length_replicate]; exact len_lt (Nat.le_trans (Nat.le_of_lt li) (by show 2 ≤ 100000; decide))
      · rw [upd_same, List.replicate_succ']
      · rw [upd_ne (ne_of_none e nD)]; exact sm b o e
    obtain ⟨hD0, s1⟩ := hI
    have h_D23 : G D23 = some (.lst (List.replicate 2 v)) := hD0
    replace h_c10 := s1 _ _ h_c10
    replace h_D11 := s1 _ _ h_D11
    replace h_c12 := s1 _ _ h_c12
    replace h_c13 := s1 _ _ h_c13
    replace h_m14 := s1 _ _ h_m14
    replace h_D15 := s1 _ _ h_D15
    replace h_m16 := s1 _ _ h_m16
    replace h_c17 := s1 _ _ h_c17
    replace h_c18 := s1 _ _ h_c18
    replace h_m19 := s1 _ _ h_m19
    replace h_D20 := s1 _ _ h_D20
    replace h_m21 := s1 _ _ h_m21
    replace h_c22 := s1 _ _ h_c22
    replace h_l9 := s1 _ _ h_l9
    replace sB := sB.trans s1
    clear s1 hD0 fl nD
    refine ⟨m21, D23, _, _, rfl, rfl, h_m21, h_D23, (by show 12 ≤ sizeLine; decide), fun m24 n1 => ?_⟩
    have s1 := same_upd (o := .lst (List.replicate 10 v ++ List.replicate 2 v)) n1
    have h_m24 : upd G m24 (.lst (List.replicate 10 v ++ List.replicate 2 v)) m24 = some (.lst (List.replicate 12 v)) := upd_same
    replace h_c10 := s1 _ _ h_c10
    replace h_D11 := s1 _ _ h_D11
    replace h_c12 := s1 _ _ h_c12
    replace h_c13 := s1 _ _ h_c13
    replace h_m14 := s1 _ _ h_m14
    replace h_D15 := s1 _ _ h_D15
    replace h_m16 := s1 _ _ h_m16
    replace h_c17 := s1 _ _ h_c17
    replace h_c18 := s1 _ _ h_c18
    replace h_m19 := s1 _ _ h_m19
    replace h_D20 := s1 _ _ h_D20
    replace h_m21 := s1 _ _ h_m21
    replace h_c22 := s1 _ _ h_c22
    replace h_D23 := s1 _ _ h_D23
    replace h_l9 := s1 _ _ h_l9
    replace sB := sB.trans s1
    generalize upd G m24 (.lst (List.replicate 10 v ++ List.replicate 2 v)) = J15 at s1 sB h_l9 h_m24 h_c10 h_D11 h_c12 h_c13 h_m14 h_D15 h_m16 h_c17 h_c18 h_m19 h_D20 h_m21 h_c22 h_D23 ⊢
    clear s1 n1
    refine ⟨_, rfl, ?_⟩
    refine ⟨_, rfl, 12, rfl, 14, rfl, l9, _, rfl, .inl (.inl h_l9), fun c25 n1 => ?_⟩
    have s1 := same_upd (o := .lst (cutV [.ref a1, .ref a2, .ref a3, .ref a4, .ref a5, .ref a6, .ref a7, .ref a8, .ref a9, .ref a10, .ref a11, .ref a12, .ref a13, .ref a14, .ref a15, .ref a16, .ref a17, .ref a18] (some 12) (some 14))) n1
    have h_c25 : upd J15 c25 (.lst (cutV [.ref a1, .ref a2, .ref a3, .ref a4, .ref a5, .ref a6, .ref a7, .ref a8, .ref a9, .ref a10, .ref a11, .ref a12, .ref a13, .ref a14, .ref a15, .ref a16, .ref a17, .ref a18] (some 12) (some 14))) c25 = some (.lst [.ref a13, .ref a14]) := upd_same
    replace h_c10 := s1 _ _ h_c10
    replace h_D11 := s1 _ _ h_D11
    replace h_c12 := s1 _ _ h_c12
    replace h_c13 := s1 _ _ h_c13
    replace h_m14 := s1 _ _ h_m14
    replace h_D15 := s1 _ _ h_D15
    replace h_m16 := s1 _ _ h_m16
    replace h_c17 := s1 _ _ h_c17
    replace h_c18 := s1 _ _ h_c18
    replace h_m19 := s1 _ _ h_m19
    replace h_D20 := s1 _ _ h_D20
    replace h_m21 := s1 _ _ h_m21
    replace h_c22 := s1 _ _ h_c22
    replace h_D23 := s1 _ _ h_D23
    replace h_m24 := s1 _ _ h_m24
    replace h_l9 := s1 _ _ h_l9
    replace sB := sB.trans s1
    generalize upd J15 c25 (.lst (cutV [.ref a1, .ref a2, .ref a3, .ref a4, .ref a5, .ref a6, .ref a7, .ref a8, .ref a9, .ref a10, .ref a11, .ref a12, .ref a13, .ref a14, .ref a15, .ref a16, .ref a17, .ref a18] (some 12) (some 14))) = J16 at s1 sB h_l9 h_c25 h_c10 h_D11 h_c12 h_c13 h_m14 h_D15 h_m16 h_c17 h_c18 h_m19 h_D20 h_m21 h_c22 h_D23 h_m24 ⊢
    clear s1 n1
    refine ⟨_, rfl, 16, rfl, l9, _, rfl, .inl (.inl h_l9), fun c26 n1 => ?_⟩
    have s1 := same_upd (o := .lst (cutV [.ref a1, .ref a2, .ref a3, .ref a4, .ref a5, .ref a6, .ref a7, .ref a8, .ref a9, .ref a10, .ref a11, .ref a12, .ref a13, .ref a14, .ref a15, .ref a16, .ref a17, .ref a18] (some 16) none)) n1
    have h_c26 : upd J16 c26 (.lst (cutV [.ref a1, .ref a2, .ref a3, .ref a4, .ref a5, .ref a6, .ref a7, .ref a8, .ref a9, .ref a10, .ref a11, .ref a12, .ref a13, .ref a14, .ref a15, .ref a16, .ref a17, .ref a18] (some 16) none)) c26 = some (.lst [.ref a17, .ref a18]) := upd_same
    replace h_c10 := s1 _ _ h_c10
    replace h_D11 := s1 _ _ h_D11
    replace h_c12 := s1 _ _ h_c12
    replace h_c13 := s1 _ _ h_c13
    replace h_m14 := s1 _ _ h_m14
    replace h_D15 := s1 _ _ h_D15
    replace h_m16 := s1 _ _ h_m16
    replace h_c17 := s1 _ _ h_c17
    replace h_c18 := s1 _ _ h_c18
    replace h_m19 := s1 _ _ h_m19
    replace h_D20 := s1 _ _ h_D20
    replace h_m21 := s1 _ _ h_m21
    replace h_c22 := s1 _ _ h_c22
    replace h_D23 := s1 _ _ h_D23
    replace h_m24 := s1 _ _ h_m24
    replace h_c25 := s1 _ _ h_c25
    replace h_l9 := s1 _ _ h_l9
    replace sB := sB.trans s1
    generalize upd J16 c26 (.lst (cutV [.ref a1, .ref a2, .ref a3, .ref a4, .ref a5, .ref a6, .ref a7, .ref a8, .ref a9, .ref a10, .ref a11, .ref a12, .ref a13, .ref a14, .ref a15, .ref a16, .ref a17, .ref a18] (some 16) none)) = J17 at s1 sB h_l9 h_c26 h_c10 h_D11 h_c12 h_c13 h_m14 h_D15 h_m16 h_c17 h_c18 h_m19 h_D20 h_m21 h_c22 h_D23 h_m24 h_c25 ⊢
    clear s1 n1
    refine ⟨c25, c26, _, _, rfl, rfl, h_c25, h_c26, (by show 4 ≤ sizeLine; decide), fun m27 n1 => ?_⟩
    have s1 := same_upd (o := .lst ([.ref a13, .ref a14] ++ [.ref a17, .ref a18])) n1
    have h_m27 : upd J17 m27 (.lst ([.ref a13, .ref a14] ++ [.ref a17, .ref a18])) m27 = some (.lst ([.ref a13, .ref a14, .ref a17, .ref a18])) := upd_same
    replace h_c10 := s1 _ _ h_c10
    replace h_D11 := s1 _ _ h_D11
    replace h_c12 := s1 _ _ h_c12
    replace h_c13 := s1 _ _ h_c13
    replace h_m14 := s1 _ _ h_m14
    replace h_D15 := s1 _ _ h_D15
    replace h_m16 := s1 _ _ h_m16
    replace h_c17 := s1 _ _ h_c17
    replace h_c18 := s1 _ _ h_c18
    replace h_m19 := s1 _ _ h_m19
    replace h_D20 := s1 _ _ h_D20
    replace h_m21 := s1 _ _ h_m21
    replace h_c22 := s1 _ _ h_c22
    replace h_D23 := s1 _ _ h_D23
    replace h_m24 := s1 _ _ h_m24
    replace h_c25 := s1 _ _ h_c25
    replace h_c26 := s1 _ _ h_c26
    replace h_l9 := s1 _ _ h_l9
    replace sB := sB.trans s1
    generalize upd J17 m27 (.lst ([.ref a13, .ref a14] ++ [.ref a17, .ref a18])) = J18 at s1 sB h_l9 h_m27 h_c10 h_D11 h_c12 h_c13 h_m14 h_D15 h_m16 h_c17 h_c18 h_m19 h_D20 h_m21 h_c22 h_D23 h_m24 h_c25 h_c26 ⊢
    clear s1 n1
    refine ⟨m27, rfl, ⟨_, .inl (.inl (show J18 m27 = some (.lst [.ref a13, .ref a14, .ref a17, .ref a18]) from h_m27))⟩, fun D28 nD => ?_⟩
    have fl : ∀ x ∈ ([.ref a13, .ref a14, .ref a17, .ref a18] : List V), ∃ a : Addr, x = .ref a ∧ FieldAt K v "count" J18 a := fun x hx => by
      simp only [List.mem_cons, List.not_mem_nil, or_false] at hx
      rcases hx with rfl | rfl | rfl | rfl
      · exact ⟨_, rfl, f_a13.same sB⟩
      · exact ⟨_, rfl, f_a14.same sB⟩
      · exact ⟨_, rfl, f_a17.same sB⟩
      · exact ⟨_, rfl, f_a18.same sB⟩
    refine lc_list (xs := [.ref a13, .ref a14, .ref a17, .ref a18]) (fun i G => G D28 = some (.lst (List.replicate i v)) ∧ Same J18 G) ⟨upd_same, same_upd nD⟩ (fun i G _ hI => .inl (.inl (hI.2 _ _ h_m27))) (fun i x G hx hI => ?_) (fun G hI => ?_)
    · obtain ⟨hD, sm⟩ := hI
      obtain ⟨a, rfl, C, dd, xf, noN, hk, hd⟩ := fl x (List.mem_of_getElem? hx)
      have li := (List.getElem?_eq_some_iff.mp hx).1
      refine ⟨rfl, _, rfl, C, a, dd, _, v, xf, noN, rfl, sm _ _ hk, sm _ _ hd, lookup_one, _, hD, ?_, ?_, fun b o e => ?_⟩
      · rw [List.length_replicate]; exact len_lt (Nat.le_trans (Nat.le_of_lt li) (by show 4 ≤ 100000; decide))
      · rw [upd_same, List.replicate_succ']
      · rw [upd_ne (ne_of_none e nD)]; exact sm b o e
    obtain ⟨hD0, s1⟩ := hI
    have h_D28 : G D28 = some (.lst (List.replicate 4 v)) := hD0
    replace h_c10 := s1 _ _ h_c10
    replace h_D11 := s1 _ _ h_D11
    replace h_c12 := s1 _ _ h_c12
    replace h_c13 := s1 _ _ h_c13
    replace h_m14 := s1 _ _ h_m14
    replace h_D15 := s1 _ _ h_D15
    replace h_m16 := s1 _ _ h_m16
    replace h_c17 := s1 _ _ h_c17
    replace h_c18 := s1 _ _ h_c18
    replace h_m19 := s1 _ _ h_m19
    replace h_D20 := s1 _ _ h_D20
    replace h_m21 := s1 _ _ h_m21
    replace h_c22 := s1 _ _ h_c22
    replace h_D23 := s1 _ _ h_D23
    replace h_m24 := s1 _ _ h_m24
    replace h_c25 := s1 _ _ h_c25
    replace h_c26 := s1 _ _ h_c26
    replace h_m27 := s1 _ _ h_m27
    replace h_l9 := s1 _ _ h_l9
    replace sB := sB.trans s1
    clear s1 hD0 fl nD
    refine ⟨m24, D28, _, _, rfl, rfl, h_m24, h_D28, (by show 16 ≤ sizeLine; decide), fun m29 n1 => ?_⟩
    have s1 := same_upd (o := .lst (List.replicate 12 v ++ List.replicate 4 v)) n1
    have h_m29 : upd G m29 (.lst (List.replicate 12 v ++ List.replicate 4 v)) m29 = some (.lst (List.replicate 16 v)) := upd_same
    replace h_c10 := s1 _ _ h_c10
    replace h_D11 := s1 _ _ h_D11
    replace h_c12 := s1 _ _ h_c12
    replace h_c13 := s1 _ _ h_c13
    replace h_m14 := s1 _ _ h_m14
    replace h_D15 := s1 _ _ h_D15
    replace h_m16 := s1 _ _ h_m16
    replace h_c17 := s1 _ _ h_c17
    replace h_c18 := s1 _ _ h_c18
    replace h_m19 := s1 _ _ h_m19
    replace h_D20 := s1 _ _ h_D20
    replace h_m21 := s1 _ _ h_m21
    replace h_c22 := s1 _ _ h_c22
    replace h_D23 := s1 _ _ h_D23
    replace h_m24 := s1 _ _ h_m24
    replace h_c25 := s1 _ _ h_c25
    replace h_c26 := s1 _ _ h_c26
    replace h_m27 := s1 _ _ h_m27
    replace h_D28 := s1 _ _ h_D28
    replace h_l9 := s1 _ _ h_l9
    replace sB := sB.trans s1
    generalize upd G m29 (.lst (List.replicate 12 v ++ List.replicate 4 v)) = J20 at s1 sB h_l9 h_m29 h_c10 h_D11 h_c12 h_c13 h_m14 h_D15 h_m16 h_c17 h_c18 h_m19 h_D20 h_m21 h_c22 h_D23 h_m24 h_c25 h_c26 h_m27 h_D28 ⊢
    clear s1 n1
    refine ⟨_, rfl, ?_⟩
    refine ⟨_, rfl, 14, rfl, 16, rfl, l9, _, rfl, .inl (.inl h_l9), fun c30 n1 => ?_⟩
    have s1 := same_upd (o := .lst (cutV [.ref a1, .ref a2, .ref a3, .ref a4, .ref a5, .ref a6, .ref a7, .ref a8, .ref a9, .ref a10, .ref a11, .ref a12, .ref a13, .ref a14, .ref a15, .ref a16, .ref a17, .ref a18] (some 14) (some 16))) n1
    have h_c30 : upd J20 c30 (.lst (cutV [.ref a1, .ref a2, .ref a3, .ref a4, .ref a5, .ref a6, .ref a7, .ref a8, .ref a9, .ref a10, .ref a11, .ref a12, .ref a13, .ref a14, .ref a15, .ref a16, .ref a17, .ref a18] (some 14) (some 16))) c30 = some (.lst [.ref a15, .ref a16]) := upd_same
    replace h_c10 := s1 _ _ h_c10
    replace h_D11 := s1 _ _ h_D11
    replace h_c12 := s1 _ _ h_c12
    replace h_c13 := s1 _ _ h_c13
    replace h_m14 := s1 _ _ h_m14
    replace h_D15 := s1 _ _ h_D15
    replace h_m16 := s1 _ _ h_m16
    replace h_c17 := s1 _ _ h_c17
    replace h_c18 := s1 _ _ h_c18
    replace h_m19 := s1 _ _ h_m19
    replace h_D20 := s1 _ _ h_D20
    replace h_m21 := s1 _ _ h_m21
    replace h_c22 := s1 _ _ h_c22
    replace h_D23 := s1 _ _ h_D23
    replace h_m24 := s1 _ _ h_m24
    replace h_c25 := s1 _ _ h_c25
    replace h_c26 := s1 _ _ h_c26
    replace h_m27 := s1 _ _ h_m27
    replace h_D28 := s1 _ _ h_D28
    replace h_m29 := s1 _ _ h_m29
    replace h_l9 := s1 _ _ h_l9
    replace sB := sB.trans s1
    generalize upd J20 c30 (.lst (cutV [.ref a1, .ref a2, .ref a3, .ref a4, .ref a5, .ref a6, .ref a7, .ref a8, .ref a9, .ref a10, .ref a11, .ref a12, .ref a13, .ref a14, .ref a15, .ref a16, .ref a17, .ref a18] (some 14) (some 16))) = J21 at s1 sB h_l9 h_c30 h_c10 h_D11 h_c12 h_c13 h_m14 h_D15 h_m16 h_c17 h_c18 h_m19 h_D20 h_m21 h_c22 h_D23 h_m24 h_c25 h_c26 h_m27 h_D28 h_m29 ⊢
    clear s1 n1
    refine ⟨c30, rfl, ⟨_, .inl (.inl (show J21 c30 = some (.lst [.ref a15, .ref a16]) from h_c30))⟩, fun D31 nD => ?_⟩
    have fl : ∀ x ∈ ([.ref a15, .ref a16] : List V), ∃ a : Addr, x = .ref a ∧ FieldAt K v "length" J21 a := fun x hx => by
      simp only [List.mem_cons, List.not_mem_nil, or_false] at hx
      rcases hx with rfl | rfl
      · exact ⟨_, rfl, f_a15.same sB⟩
      · exact ⟨_, rfl, f_a16.same sB⟩
    refine lc_list (xs := [.ref a15, .ref a16]) (fun i G => G D31 = some (.lst (List.replicate i v)) ∧ Same J21 G) ⟨upd_same, same_upd nD⟩ (fun i G _ hI => .inl (.inl (hI.2 _ _ h_c30))) (fun i x G hx hI => ?_) (fun G hI => ?_)
    · obtain ⟨hD, sm⟩ := hI
      obtain ⟨a, rfl, C, dd, xf, noN, hk, hd⟩ := fl x (List.mem_of_getElem? hx)
      have li := (List.getElem?_eq_some_iff.mp hx).1
      refine ⟨rfl, _, rfl, C, a, dd, _, v, xf, noN, rfl, sm _ _ hk, sm _ _ hd, lookup_one, _, hD, ?_, ?_, fun b o e => ?_⟩
      · rw [List.length_replicate]; exact len_lt (Nat.le_trans (Nat.le_of_lt li) (by show 2 ≤ 100000; decide))
      · rw [upd_same, List.replicate_succ']
      · rw [upd_ne (ne_of_none e nD)]; exact sm b o e
    obtain ⟨hD0, s1⟩ := hI
    have h_D31 : G D31 = some (.lst (List.replicate 2 v)) := hD0
    replace h_c10 := s1 _ _ h_c10
    replace h_D11 := s1 _ _ h_D11
    replace h_c12 := s1 _ _ h_c12
    replace h_c13 := s1 _ _ h_c13
    replace h_m14 := s1 _ _ h_m14
    replace h_D15 := s1 _ _ h_D15
    replace h_m16 := s1 _ _ h_m16
    replace h_c17 := s1 _ _ h_c17
    replace h_c18 := s1 _ _ h_c18
    replace h_m19 := s1 _ _ h_m19
    replace h_D20 := s1 _ _ h_D20
    replace h_m21 := s1 _ _ h_m21
    replace h_c22 := s1 _ _ h_c22
    replace h_D23 := s1 _ _ h_D23
    replace h_m24 := s1 _ _ h_m24
    replace h_c25 := s1 _ _ h_c25
    replace h_c26 := s1 _ _ h_c26
    replace h_m27 := s1 _ _ h_m27
    replace h_D28 := s1 _ _ h_D28
    replace h_m29 := s1 _ _ h_m29
    replace h_c30 := s1 _ _ h_c30
    replace h_l9 := s1 _ _ h_l9
    replace sB := sB.trans s1
    clear s1 hD0 fl nD
    refine ⟨m29, D31, _, _, rfl, rfl, h_m29, h_D31, (by show 18 ≤ sizeLine; decide), fun m32 n1 => ?_⟩
    have s1 := same_upd (o := .lst (List.replicate 16 v ++ List.replicate 2 v)) n1
    have h_m32 : upd G m32 (.lst (List.replicate 16 v ++ List.replicate 2 v)) m32 = some (.lst (List.replicate 18 v)) := upd_same
    replace h_c10 := s1 _ _ h_c10
    replace h_D11 := s1 _ _ h_D11
    replace h_c12 := s1 _ _ h_c12
    replace h_c13 := s1 _ _ h_c13
    replace h_m14 := s1 _ _ h_m14
    replace h_D15 := s1 _ _ h_D15
    replace h_m16 := s1 _ _ h_m16
    replace h_c17 := s1 _ _ h_c17
    replace h_c18 := s1 _ _ h_c18
    replace h_m19 := s1 _ _ h_m19
    replace h_D20 := s1 _ _ h_D20
    replace h_m21 := s1 _ _ h_m21
    replace h_c22 := s1 _ _ h_c22
    replace h_D23 := s1 _ _ h_D23
    replace h_m24 := s1 _ _ h_m24
    replace h_c25 := s1 _ _ h_c25
    replace h_c26 := s1 _ _ h_c26
    replace h_m27 := s1 _ _ h_m27
    replace h_D28 := s1 _ _ h_D28
    replace h_m29 := s1 _ _ h_m29
    replace h_c30 := s1 _ _ h_c30
    replace h_D31 := s1 _ _ h_D31
    replace h_l9 := s1 _ _ h_l9
    replace sB := sB.trans s1
    generalize upd G m32 (.lst (List.replicate 16 v ++ List.replicate 2 v)) = J23 at s1 sB h_l9 h_m32 h_c10 h_D11 h_c12 h_c13 h_m14 h_D15 h_m16 h_c17 h_c18 h_m19 h_D20 h_m21 h_c22 h_D23 h_m24 h_c25 h_c26 h_m27 h_D28 h_m29 h_c30 h_D31 ⊢
    clear s1 n1
    refine ⟨_, rfl, ?_⟩
    refine ⟨_, rfl, ?_⟩
    refine ⟨(by show 2 ≤ sizeLine; decide), fun r n1 => ?_⟩
    have s1 := same_upd (o := .lst [.ref l9, .ref m32]) n1
    refine q r l9 m32 [a1, a2, a3, a4, a5, a6, a7, a8, a9, a10, a11, a12, a13, a14, a15, a16, a17, a18] _ (sA.trans (sB.trans s1)) upd_same (s1 _ _ h_l9) ?_ (s1 _ _ h_m32)
    exact sorts_of (mm.same (sB.trans s1))
end
section
variable {P : Program} {w : World} {K : PySem.W.Frag} {mg : Str → Option Value} {base : Heap}
/-! ### the law's errors are right -/
theorem SortsAt.same {H G : Hp} : ∀ {as : List Addr} {is : List Nat}, SortsAt K H as is → Same H G → SortsAt K G as is
  | [], [], _, _ => trivial
  | _ :: _, _ :: _, h, s => ⟨h.1.same s, SortsAt.same h.2 s⟩
  | [], _ :: _, h, _ => h.elim
  | _ :: _, [], h, _ => h.elim
theorem SortsAt.len {H : Hp} : ∀ {as : List Addr} {is : List Nat}, SortsAt K H as is → as.length = is.length
  | [], [], _ => rfl
  | _ :: as, _ :: is, h => congrArg (· + 1) (SortsAt.len h.2)
  | [], _ :: _, h => h.elim
  | _ :: _, [], h => h.elim
theorem SortsAt.app {H : Hp} : ∀ {as bs : List Addr} {is js : List Nat}, SortsAt K H as is → SortsAt K H bs js → SortsAt K H (as ++ bs) (is ++ js)
  | [], _, [], _, _, h => h
  | _ :: _, _, _ :: _, _, h, k => ⟨h.1, SortsAt.app h.2 k⟩
  | [], _, _ :: _, _, h, _ => h.elim
  | _ :: _, _, [], _, h, _ => h.elim
theorem SortsAt.at_ {H : Hp} : ∀ {as : List Addr} {is : List Nat}, SortsAt K H as is → ∀ (i : Nat) (a : Addr), as[i]? = some a → ∃ n, is[i]? = some n ∧ SortAt K H a n
  | [], [], _, _, _, e => nomatch e
  | _ :: as, n :: is, h, 0, a, e => by
    cases e
    exact ⟨n, rfl, h.1⟩
  | _ :: as, _ :: is, h, i + 1, a, e => SortsAt.at_ h.2 i a e
  | [], _ :: _, h, _, _, _ => h.elim
  | _ :: _, [], h, _, _, _ => h.elim
theorem any_false (n : Nat) : (List.replicate n false).any id = false := by
  induction n with
  | zero => rfl
  | succ n ih =>
    rw [List.replicate_succ, List.any_cons, ih]
    rfl
theorem rp_data {H : Hp} {v : V} {d : PyData} (h : Dp K H v d) (l : d.canLay0 = true) (e : d.depth ≤ 60) (s : d.showable = true) (n : d.shown.length ≤ 100) : RpE K H v d.shown := .inl ⟨d, h, l, e, s, Nat.le_trans n (by decide), rfl⟩
theorem e0_el {x : Str} {i : Nat} {H : Hp} {a : Addr} (n : SortOk K x i ∧ NoB K x) : SortAt K (upd H a (KeptO (.ref (He.ga K x)) none a)) a i := ⟨x, none, [], upd_same, trivial, n⟩
abbrev thL (q1 q2 q3 q4 : Addr) : List V := [.non, .int 0, .bl true, .str "index", .ref q1, .ref q2, .ref q3, .int (10 ^ (30 : Int).toNat), .int (0 - 5), .ref q4]
abbrev firstN : List Nat := [0, 0, 1, 1, 2, 2, 3, 3, 4, 4, 5, 5, 6, 6, 7, 7]
abbrev secondN : List Nat := [8, 8, 9, 9, 10, 10, 11, 11, 12, 12, 13, 13, 14, 14, 15, 15, 16, 16]
abbrev thirdN : List Nat := [17, 17, 19, 19, 20, 20, 22, 22, 23, 23, 25, 25, 26, 26, 27, 27, 28, 28]
abbrev dueN : List Int := [0, 1, 2, 3, 4, 5, 6, 7, 8, 9, 10, 11, 12, 13, 14, 15, 16, 17, 19, 20, 22, 23, 25, 26, 27, 28]
abbrev isI : List Int := [0, 0, 1, 1, 2, 2, 3, 3, 4, 4, 5, 5, 6, 6, 7, 7, 8, 8, 9, 9, 10, 10, 11, 11, 12, 12, 13, 13, 14, 14, 15, 15, 16, 16, 17, 17, 19, 19, 20, 20, 22, 22, 23, 23, 25, 25, 26, 26, 27, 27, 28, 28, 18, 21, 24, 29]
theorem isI_eq : isI = (((firstN ++ secondN) ++ thirdN) ++ [18, 21, 24, 29]).map fun n : Nat => (n : Int) := by decide
abbrev s__law_right : Stmt := top 47
abbrev N__law_right : List Str := ["_law_pool_here", "_law_things", "_law_thing", "_law_first_here", "_law_second_here", "_law_third_here", "_law_made", "_law_shown", "_law_whole", "_law_found", "_law_due", "_law_at", "_law_one"]
theorem sc__law_right : FnScope N__law_right ["_law_pool_here"] (defScope s__law_right) := ⟨rfl, rfl, rfl, by decide +kernel, rfl, by decide +kernel, by decide +kernel⟩
def spRight : Sp := fun vs H Q _ => ∃ a : Addr, vs = [.ref a] ∧ Pool H a ∧ ∀ H', Kp a H H' → Q (.bl true) H'
theorem ok_right (D : Df K mg "_law_right" s__law_right) (c__law_draw : Cl P w K mg base 1 "_law_draw" s__law_draw ["_law_pool_here", "_law_many"] spDraw) (c__law_first : Cl P w K mg base 3 "_law_first" s__law_first ["_law_thing"] (spMade K firstN)) (c__law_second : Cl P w K mg base 3 "_law_second" s__law_second ["_law_thing"] (spMade K secondN)) (c__law_third : Cl P w K mg base 3 "_law_third" s__law_third ["_law_thing"] (spMade K thirdN))
    (c__law_sort : Cl P w K mg base 1 "_law_sort" s__law_sort ["_law_e"] (spSortK K)) (sos : SosOk K) (e0_OtherPersons : E0C K mg "OtherPersons") (e0_NoOrder : E0C K mg "NoOrder") (e0_NothingToUndo : E0C K mg "NothingToUndo") (e0_LastPerson : E0C K mg "LastPerson")
    (m_list : mg "list" = none) (m_range : mg "range" = none) (m_any : mg "any" = none) (m_all : mg "all" = none) (m_isinstance : mg "isinstance" = none) (m_repr : mg "repr" = none) (m_len : mg "len" = none) (m_KeyError : mg "KeyError" = none) (m_IndexError : mg "IndexError" = none) (m_OverflowError : mg "OverflowError" = none) (m_ZeroDivisionError : mg "ZeroDivisionError" = none) :
    ClG P w K mg base 4 "_law_right" s__law_right ["_law_pool_here"] spRight := by
  refine D.okG sc__law_right (fun _ _ _ _ _ _ us hl => match us, hl with | [_], _ => rfl) (fun vs H Q E h => ?_) (fun f cdv A outer s H vs Q E hr hgd h => ?_)
  · obtain ⟨a, rfl, _⟩ := h
    rfl
  · obtain ⟨a, rfl, hp, q⟩ := h
    refine ⟨_, 
      (pss_cons (ps_set (i := 1) sc__law_right.nd rfl (Or.inl rfl) (pe_lst (pa_cons pe_non (pa_cons pe_int (pa_cons pe_bl (pa_cons pe_str (pa_cons (pe_tup (pa_cons pe_int (pa_cons pe_int pa_nil))) (pa_cons (pe_lst (pa_cons pe_int pa_nil)) (pa_cons pe_dnewK (pa_cons (pe_op op_pow pe_int pe_int) (pa_cons (pe_op op_sub pe_int pe_int) (pa_cons (pe_tup (pa_cons pe_str pa_nil)) pa_nil)))))))))))) 
      (pss_cons (ps_set (i := 2) sc__law_right.nd rfl (Or.inr rfl) (pe_ix ix_list (pv 1) (pe_u c__law_draw hr (by omega) (by rfl) (pa_cons (pv 0) (pa_cons pe_int pa_nil))) (fun _ _ => rfl))) 
      (pss_cons (ps_par (i := 3) (j := 4) (by rfl) sc__law_right.nd rfl rfl (by decide) rfl rfl (pa_cons (pe_u c__law_first hr (by omega) (by rfl) (pa_cons (pv 2) pa_nil)) (pa_cons (pe_u c__law_second hr (by omega) (by rfl) (pa_cons (pv 2) pa_nil)) pa_nil)) (by rfl)) 
      (pss_cons (ps_set (i := 5) sc__law_right.nd rfl (Or.inl rfl) (pe_u c__law_third hr (by omega) (by rfl) (pa_cons (pv 2) pa_nil))) 
      (pss_cons (ps_for PassesOwn.never rfl (pi_list (pe_lst (pa_cons (pv 3) (pa_cons (pv 4) (pa_cons (pv 5) pa_nil))))) (pg_lst (by rfl) (pgs_cons (pg_name (i := 6) sc__law_right.nd rfl (Or.inl rfl)) (pgs_cons (pg_name (i := 7) sc__law_right.nd rfl (Or.inl rfl)) pgs_nil))) (pss_cons (ps_if (pt_cmpR op_ne (pe_callB call_lenS (by rfl) m_len (by decide +kernel) (pa_cons (pv 6) pa_nil)) (pe_callB call_lenS (by rfl) m_len (by decide +kernel) (pa_cons (pv 7) pa_nil)) (nomark _)) (pss_one (ps_ret pe_bl)) pss_nil) (pss_one (ps_if (pt_not (pt_val (pe_callB (cr_all rfl) (by rfl) m_all (by decide +kernel) (pa_cons (pe_lc (own := [("_law_one", 12)]) (g := gName 12) (te := (tOp rEq (tCB (rReprE K) (tCons (tVar 12) tNil)) (tCB (rReprE K) (tCons (tVar 2) tNil)))) rfl sc__law_right.nd (pi_list (pv 7)) (blkOk_by (own := [("_law_one", 12)]) (N := N__law_right) (sc := (defScope s__law_right)) (by decide +kernel)) (fun _ _ _ _ _ => (pg_name (i := 12) sc__law_right.nd rfl (Or.inl rfl))) (fun _ _ _ _ _ => pts_nil) (fun _ _ _ _ _ => (pe_cmpR op_eq (pe_callB (call_reprE (L2H.roomH_of hr) hgd) (by rfl) m_repr (by decide +kernel) (pa_cons (pv 12) pa_nil)) (pe_callB (call_reprE (L2H.roomH_of hr) hgd) (by rfl) m_repr (by decide +kernel) (pa_cons (pv 2) pa_nil)) (nomark _)))) pa_nil)))) (pss_one (ps_ret pe_bl)) pss_nil)))) 
      (pss_cons (ps_set (i := 8) sc__law_right.nd rfl (Or.inl rfl) (pe_op op_cat (pe_op op_cat (pe_op op_cat (pe_ix ix_list (pv 3) pe_int (fun _ _ => rfl)) (pe_ix ix_list (pv 4) pe_int (fun _ _ => rfl))) (pe_ix ix_list (pv 5) pe_int (fun _ _ => rfl))) (pe_lst (pa_cons (pe_kept (pmk_0A (K := K) rfl e0_OtherPersons (by rfl))) (pa_cons (pe_kept (pmk_0A (K := K) rfl e0_NoOrder (by rfl))) (pa_cons (pe_kept (pmk_0A (K := K) rfl e0_NothingToUndo (by rfl))) (pa_cons (pe_kept (pmk_0A (K := K) rfl e0_LastPerson (by rfl))) pa_nil))))))) 
      (pss_cons (ps_if (pt_val (pe_callB (cr_any rfl) (by rfl) m_any (by decide +kernel) (pa_cons (pe_lc (own := [("_law_one", 12)]) (g := gName 12) (te := (tOrV (tCB (rIsKA K) (tCons (tVar 12) (tCons (tC (.ty "KeyError")) tNil))) (tCB (rIsKA K) (tCons (tVar 12) (tCons (tC (.ty "IndexError")) tNil))))) rfl sc__law_right.nd (pi_list (pv 8)) (blkOk_by (own := [("_law_one", 12)]) (N := N__law_right) (sc := (defScope s__law_right)) (by decide +kernel)) (fun _ _ _ _ _ => (pg_name (i := 12) sc__law_right.nd rfl (Or.inl rfl))) (fun _ _ _ _ _ => pts_nil) (fun _ _ _ _ _ => (pe_or (pe_callB call_isKA (by rfl) m_isinstance (by decide +kernel) (pa_cons (pv 12) (pa_cons (pe_bltn (v := .ty "KeyError") (by rfl) m_KeyError (by decide +kernel) rfl) pa_nil))) (pe_one (pe_callB call_isKA (by rfl) m_isinstance (by decide +kernel) (pa_cons (pv 12) (pa_cons (pe_bltn (v := .ty "IndexError") (by rfl) m_IndexError (by decide +kernel) rfl) pa_nil))))))) pa_nil))) (pss_one (ps_ret pe_bl)) pss_nil) 
      (pss_cons (ps_if (pt_val (pe_callB (cr_any rfl) (by rfl) m_any (by decide +kernel) (pa_cons (pe_lc (own := [("_law_one", 12)]) (g := gName 12) (te := (tOrV (tCB (rIsKA K) (tCons (tVar 12) (tCons (tC (.ty "OverflowError")) tNil))) (tCB (rIsKA K) (tCons (tVar 12) (tCons (tC (.ty "ZeroDivisionError")) tNil))))) rfl sc__law_right.nd (pi_list (pv 8)) (blkOk_by (own := [("_law_one", 12)]) (N := N__law_right) (sc := (defScope s__law_right)) (by decide +kernel)) (fun _ _ _ _ _ => (pg_name (i := 12) sc__law_right.nd rfl (Or.inl rfl))) (fun _ _ _ _ _ => pts_nil) (fun _ _ _ _ _ => (pe_or (pe_callB call_isKA (by rfl) m_isinstance (by decide +kernel) (pa_cons (pv 12) (pa_cons (pe_bltn (v := .ty "OverflowError") (by rfl) m_OverflowError (by decide +kernel) rfl) pa_nil))) (pe_one (pe_callB call_isKA (by rfl) m_isinstance (by decide +kernel) (pa_cons (pv 12) (pa_cons (pe_bltn (v := .ty "ZeroDivisionError") (by rfl) m_ZeroDivisionError (by decide +kernel) rfl) pa_nil))))))) pa_nil))) (pss_one (ps_ret pe_bl)) pss_nil) 
      (pss_cons (ps_setLc (i := 9) (own := [("_law_one", 12)]) (g := gName 12) (te := (tCall (spSortK K) [] E0 (tCons (tVar 12) tNil))) rfl sc__law_right.nd rfl rfl (sw_true rfl rfl rfl (by decide +kernel)) (pi_list (pv 8)) (blkOk_by (own := [("_law_one", 12)]) (N := N__law_right) (sc := (defScope s__law_right)) (by decide +kernel)) (fun _ _ _ _ _ => (pg_name (i := 12) sc__law_right.nd rfl (Or.inl rfl))) (fun _ _ _ _ _ => pts_nil) (fun _ _ _ _ _ => (pe_u c__law_sort hr (by omega) (by rfl) (pa_cons (pv 12) pa_nil)))) 
      (pss_cons (ps_set (i := 10) sc__law_right.nd rfl (Or.inl rfl) (pe_lst pa_nil)) 
      (pss_cons (ps_for PassesOwn.never rfl (pi_list (pe_op op_cat (pe_listRg rfl (by rfl) m_list (prg_1 (by rfl) m_range pe_int)) (pe_lst (pa_cons pe_int (pa_cons pe_int (pa_cons pe_int (pa_cons pe_int (pa_cons pe_int (pa_cons pe_int (pa_cons pe_int (pa_cons pe_int pa_nil))))))))))) (pg_name (i := 11) sc__law_right.nd rfl (Or.inl rfl)) (pss_one (ps_set (i := 10) sc__law_right.nd rfl (Or.inl rfl) (pe_op op_cat (pv 10) (pe_lst (pa_cons (pv 11) (pa_cons (pv 11) pa_nil))))))) 
      (pss_one (ps_ret (pe_cmpR (op_eqD hr.units) (pv 9) (pe_op op_cat (pv 10) (pe_lst (pa_cons pe_int (pa_cons pe_int (pa_cons pe_int (pa_cons pe_int pa_nil)))))) (nomark _))))))))))))))), ?_⟩
    have two : ∀ x y : V, ([x, y] : List V).length ≤ sizeLine := fun _ _ => by show 2 ≤ sizeLine; decide
    have one : ∀ x : V, ([x] : List V).length ≤ sizeLine := fun _ => by show 1 ≤ sizeLine; decide
    refine ⟨two _ _, fun q1 n1 => ⟨one _, fun q2 n2 => fun q3 n3 => ⟨_, _, rfl, rfl, ⟨by decide, by decide, by decide⟩, _, _, rfl, rfl, one _, fun q4 n4 => ⟨(by show 10 ≤ sizeLine; decide), fun L nL => ?_⟩⟩⟩⟩
    have s1 := same_upd (o := .tup [.int 1, .int 2]) n1
    have s2 := same_upd (o := .lst [.int 3]) n2
    have s3 := same_upd (o := .dK []) n3
    have s4 := same_upd (o := .tup [.str "S"]) n4
    have pl : ∀ {G : Hp}, Same H G → Pool G a := fun s => hp.of fun u e => s a u e
    have a1 := hp.ne n1
    have a2 := (pl s1).ne n2
    have a3 := (pl (s1.trans s2)).ne n3
    have a4 := (pl ((s1.trans s2).trans s3)).ne n4
    have aL := (pl (((s1.trans s2).trans s3).trans s4)).ne nL
    have h4 := upd_same (H := upd (upd (upd H q1 (.tup [.int 1, .int 2])) q2 (.lst [.int 3])) q3 (.dK [])) (a := q4) (o := .tup [.str "S"])
    have h3 := s4 _ _ (upd_same (H := upd (upd H q1 (.tup [.int 1, .int 2])) q2 (.lst [.int 3])) (a := q3) (o := .dK []))
    have h2 := s4 _ _ (s3 _ _ (upd_same (H := upd H q1 (.tup [.int 1, .int 2])) (a := q2) (o := .lst [.int 3])))
    have h1 := s4 _ _ (s3 _ _ (s2 _ _ (upd_same (H := H) (a := q1) (o := .tup [.int 1, .int 2]))))
    have s14 := ((s1.trans s2).trans s3).trans s4
    generalize upd (upd (upd (upd H q1 (.tup [.int 1, .int 2])) q2 (.lst [.int 3])) q3 (.dK [])) q4 (.tup [.str "S"]) = F6 at nL aL h4 h3 h2 h1 s14 ⊢
    have od : ∀ v ∈ thL q1 q2 q3 q4, ∃ z, ∀ G, Kp a F6 G → RpE K G v z := fun v hv => by
      simp only [List.mem_cons, List.not_mem_nil, or_false] at hv
      rcases hv with rfl | rfl | rfl | rfl | rfl | rfl | rfl | rfl | rfl | rfl
      · exact ⟨_, fun G e => RpE.non⟩
      · exact ⟨_, fun G e => RpE.int (by decide)⟩
      · exact ⟨_, fun G e => RpE.bl true⟩
      · exact ⟨_, fun G e => RpE.str _ (by decide +kernel) (Nat.le_trans (show _ ≤ 100 by decide +kernel) (by decide))⟩
      · exact ⟨(PyData.tuple [.int 1, .int 2]).shown, fun G e => rp_data (.tup (.inl (.inl (e _ _ h1 a1))) (.cons (.int _) (.cons (.int _) .nil))) (by decide +kernel) (by decide +kernel) (by decide +kernel) (by decide +kernel)⟩
      · exact ⟨(PyData.list [.int 3]).shown, fun G e => rp_data (.lst (.inl (.inl (e _ _ h2 a2))) (.cons (.int _) .nil)) (by decide +kernel) (by decide +kernel) (by decide +kernel) (by decide +kernel)⟩
      · exact ⟨_, fun G e => RpE.dict (e _ _ h3 a3)⟩
      · exact ⟨_, fun G e => RpE.int (by decide +kernel)⟩
      · exact ⟨_, fun G e => RpE.int (by decide +kernel)⟩
      · exact ⟨(PyData.tuple [.str "S"]).shown, fun G e => rp_data (.tup (.inl (.inl (e _ _ h4 a4))) (.cons (.str _) .nil)) (by decide +kernel) (by decide +kernel) (by decide +kernel) (by decide +kernel)⟩
    have sL := same_upd (o := .lst (thL q1 q2 q3 q4)) nL
    have hL := upd_same (H := F6) (a := L) (o := .lst (thL q1 q2 q3 q4))
    refine ⟨_, rfl, _, rfl, a, 10, rfl, by decide, by decide, pl (s14.trans sL), fun d F7 d0 d1 k7 p7 => ?_⟩
    obtain ⟨v, hv, hm⟩ := pick (xs := thL q1 q2 q3 q4) (n := 10) d0 d1 rfl
    obtain ⟨z, rp⟩ := od v hm
    replace rp : ∀ G, Same F7 G → RpE K G v z := fun G e => rp G (((Kp.of_same sL).trans k7).trans (.of_same e))
    refine ⟨L, _, d, v, rfl, rfl, .inl (.inl (k7 _ _ hL aL)), hv, ?_⟩
    have k0 : Kp a H F7 := (Kp.of_same (s14.trans sL)).trans k7
    clear hL sL k7 od hm hv d0 d1 s1 s2 s3 s4 h1 h2 h3 h4 a1 a2 a3 a4 aL nL n1 n2 n3 n4 s14 pl hp p7
    refine ⟨_, rfl, v, rfl, fun l1 m1 e1 as1 H1 sm1 hl1 hm1 so1 hs1 => ⟨_, rfl, v, rfl, fun l2 m2 e2 as2 H2 sm2 hl2 hm2 so2 hs2 => ?_⟩⟩
    refine ⟨_, _, rfl, _, rfl, v, rfl, fun l3 m3 e3 as3 H3 sm3 hl3 hm3 so3 hs3 => ?_⟩
    have s13 := sm2.trans sm3
    replace hl1 := s13 _ _ hl1; replace hm1 := s13 _ _ hm1; replace so1 := so1.same s13; replace hs1 := s13 _ _ hs1
    replace hl2 := sm3 _ _ hl2; replace hm2 := sm3 _ _ hm2; replace so2 := so2.same sm3; replace hs2 := sm3 _ _ hs2
    have sA := (sm1.trans sm2).trans sm3
    clear sm1 sm2 sm3 s13
    have n1 := so1.len
    have n2 := so2.len
    have n3 := so3.len
    refine ⟨_, rfl, _, rfl, _, rfl, (by show 3 ≤ sizeLine; decide), fun LL nLL => ?_⟩
    have sLL := same_upd (o := .lst [.ref l1, .ref l2, .ref l3]) nLL
    have hLL := upd_same (H := H3) (a := LL) (o := .lst [.ref l1, .ref l2, .ref l3])
    replace hl1 := sLL _ _ hl1; replace hm1 := sLL _ _ hm1; replace so1 := so1.same sLL; replace hs1 := sLL _ _ hs1
    replace hl2 := sLL _ _ hl2; replace hm2 := sLL _ _ hm2; replace so2 := so2.same sLL; replace hs2 := sLL _ _ hs2
    replace hl3 := sLL _ _ hl3; replace hm3 := sLL _ _ hm3; replace so3 := so3.same sLL; replace hs3 := sLL _ _ hs3
    replace sA := sA.trans sLL
    generalize upd H3 LL (.lst [.ref l1, .ref l2, .ref l3]) = F at sLL hLL hl1 hm1 so1 hs1 hl2 hm2 so2 hs2 hl3 hm3 so3 hs3 sA ⊢
    clear sLL nLL
    have tri : ∀ x ∈ ([.ref l1, .ref l2, .ref l3] : List V), ∃ (l m s : Addr) (as : List Addr) (n : Nat), x = .ref l ∧ F l = some (.lst [.ref m, .ref s]) ∧ F m = some (.lst (as.map V.ref)) ∧ as.length = n ∧ F s = some (.lst (List.replicate n v)) ∧ n ≤ 18 := fun x hx => by
      simp only [List.mem_cons, List.not_mem_nil, or_false] at hx
      rcases hx with rfl | rfl | rfl
      · exact ⟨l1, m1, e1, as1, _, rfl, hl1, hm1, n1, hs1, by decide⟩
      · exact ⟨l2, m2, e2, as2, _, rfl, hl2, hm2, n2, hs2, by decide⟩
      · exact ⟨l3, m3, e3, as3, _, rfl, hl3, hm3, n3, hs3, by decide⟩
    refine ⟨LL, rfl, ⟨_, .inl (.inl hLL)⟩, ?_⟩
    refine for_list (xs := [.ref l1, .ref l2, .ref l3]) (fun j σ G => ∃ y6 y7 y12 : Option V, σ = [some (.ref a), some (.ref L), some v, some (.ref l1), some (.ref l2), some (.ref l3), y6, y7, none, none, none, none, y12] ∧ Same F G) ⟨none, none, none, rfl, Same.refl F⟩ (fun j σ G _ hJ => ?_) (fun j x σ G hx hJ => ?_) (fun σ G hJ => ?_)
    · obtain ⟨_, _, _, _, sm⟩ := hJ
      exact .inl (.inl (sm _ _ hLL))
    · obtain ⟨y6, y7, y12, rfl, sm⟩ := hJ
      obtain ⟨l, m, s0, as, n, rfl, hl, hm, hn, hs, n18⟩ := tri x (List.mem_of_getElem? hx)
      replace hl := sm _ _ hl
      replace hm := sm _ _ hm
      replace hs := sm _ _ hs
      refine ⟨l, _, rfl, .inl (.inl hl), rfl, _, _, rfl, _, _, rfl, rfl, ?_⟩
      refine ⟨_, rfl, m, _, rfl, .inl (.inl (.inl hm)), _, rfl, s0, _, rfl, .inl (.inl (.inl hs)), rfl, _, rfl, ?_⟩
      rw [List.length_map, List.length_replicate, hn, show (!decide (V.int ((n : Nat) : Int) = V.int ((n : Nat) : Int))) = false by rw [decide_eq_true rfl]; rfl]
      refine iteF ⟨_, rfl, ?_⟩
      refine ⟨s0, rfl, ⟨_, .inl (.inl hs)⟩, fun D nD => ?_⟩
      refine lc_list (xs := List.replicate n v) (fun i G2 => G2 D = some (.lst ((List.replicate i true).map V.bl)) ∧ Same G G2) ⟨upd_same, same_upd nD⟩ (fun i G2 _ hI => .inl (.inl (hI.2 _ _ hs))) (fun i x G2 hx hI => ?_) (fun G2 hI => ?_)
      · obtain ⟨hD, s2⟩ := hI
        obtain ⟨_, rfl⟩ := List.mem_replicate.mp (List.mem_of_getElem? hx)
        have li := (List.getElem?_eq_some_iff.mp hx).1
        rw [List.length_replicate] at li
        have r := rp G2 ((sA.trans sm).trans s2)
        refine ⟨rfl, _, rfl, x, z, rfl, r, _, rfl, x, z, rfl, r, rfl, _, hD, ?_, ?_, fun b o e => ?_⟩
        · rw [List.length_map, List.length_replicate]
          exact len_lt (by omega)
        · rw [upd_same, decide_eq_true rfl, List.replicate_succ', List.map_append]
          rfl
        · rw [upd_ne (ne_of_none e nD)]
          exact s2 b o e
      · obtain ⟨hD, s2⟩ := hI
        rw [List.length_replicate] at hD
        refine ⟨D, List.replicate n true, rfl, .inl (.inl hD), ?_⟩
        rw [all_true]
        exact ⟨_, rfl, iteF ⟨_, _, _, rfl, sm.trans s2⟩⟩
    · obtain ⟨y6, y7, y12, rfl, sm⟩ := hJ
      replace hl1 := sm _ _ hl1; replace hm1 := sm _ _ hm1; replace so1 := so1.same sm
      replace hl2 := sm _ _ hl2; replace hm2 := sm _ _ hm2; replace so2 := so2.same sm
      replace hl3 := sm _ _ hl3; replace hm3 := sm _ _ hm3; replace so3 := so3.same sm
      replace sA := sA.trans sm
      clear tri hs1 hs2 hs3 hLL sm rp
      have z0 : ∀ {x y : V}, atI [x, y] 0 = some x := atI_nat (j := 0) rfl
      refine ⟨_, rfl, l1, _, 0, _, rfl, rfl, .inl (.inl hl1), z0, _, rfl, l2, _, 0, _, rfl, rfl, .inl (.inl hl2), z0, m1, m2, _, _, rfl, rfl, hm1, hm2, (by rw [List.length_map, List.length_map, n1, n2]; show 34 ≤ sizeLine; decide), fun w1 x1 => ?_⟩
      have s1 := same_upd (o := .lst (as1.map V.ref ++ as2.map V.ref)) x1
      have hw1 : upd G w1 (.lst (as1.map V.ref ++ as2.map V.ref)) w1 = some (.lst ((as1 ++ as2).map V.ref)) := by rw [upd_same, List.map_append]
      replace hl3 := s1 _ _ hl3; replace hm3 := s1 _ _ hm3
      have so12 := (so1.same s1).app (so2.same s1)
      replace so3 := so3.same s1
      replace sA := sA.trans s1
      generalize upd G w1 (.lst (as1.map V.ref ++ as2.map V.ref)) = G1 at hw1 hl3 hm3 so12 so3 sA ⊢
      clear s1 x1 so1 so2 hl1 hl2 hm1 hm2
      refine ⟨_, rfl, l3, _, 0, _, rfl, rfl, .inl (.inl hl3), z0, w1, m3, _, _, rfl, rfl, hw1, hm3, (by rw [List.length_map, List.length_map, n3, List.length_append, n1, n2]; show 52 ≤ sizeLine; decide), fun w2 x2 => ?_⟩
      have s1 := same_upd (o := .lst ((as1 ++ as2).map V.ref ++ as3.map V.ref)) x2
      have hw2 : upd G1 w2 (.lst ((as1 ++ as2).map V.ref ++ as3.map V.ref)) w2 = some (.lst (((as1 ++ as2) ++ as3).map V.ref)) := by rw [upd_same, ← List.map_append]
      have so123 := (so12.same s1).app (so3.same s1)
      replace sA := sA.trans s1
      generalize upd G1 w2 (.lst ((as1 ++ as2).map V.ref ++ as3.map V.ref)) = G2 at hw2 so123 sA ⊢
      clear s1 x2 so12 so3 hl3 hm3 hw1
      have lenA : ((as1 ++ as2) ++ as3).length = 52 := by
        rw [so123.len]
        rfl
      generalize (as1 ++ as2) ++ as3 = asA at hw2 so123 lenA ⊢
      refine fun o1 x1 o2 x2 o3 x3 o4 x4 => ⟨(by show 4 ≤ sizeLine; decide), fun l4 x5 => ?_⟩
      have c1 := same_upd (o := KeptO (.ref (He.ga K "OtherPersons")) none o1) x1
      have c2 := same_upd (o := KeptO (.ref (He.ga K "NoOrder")) none o2) x2
      have c3 := same_upd (o := KeptO (.ref (He.ga K "NothingToUndo")) none o3) x3
      have c4 := same_upd (o := KeptO (.ref (He.ga K "LastPerson")) none o4) x4
      have c5 := same_upd (o := .lst [.ref o1, .ref o2, .ref o3, .ref o4]) x5
      have so4 : SortsAt K _ [o1, o2, o3, o4] [18, 21, 24, 29] := ⟨(e0_el (sos (18, "OtherPersons") (by decide))).same (((c2.trans c3).trans c4).trans c5), (e0_el (sos (21, "NoOrder") (by decide))).same ((c3.trans c4).trans c5), (e0_el (sos (24, "NothingToUndo") (by decide))).same (c4.trans c5), (e0_el (sos (29, "LastPerson") (by decide))).same c5, trivial⟩
      have c15 := (((c1.trans c2).trans c3).trans c4).trans c5
      have hl4 := upd_same (H := upd (upd (upd (upd G2 o1 (KeptO (.ref (He.ga K "OtherPersons")) none o1)) o2 (KeptO (.ref (He.ga K "NoOrder")) none o2)) o3 (KeptO (.ref (He.ga K "NothingToUndo")) none o3)) o4 (KeptO (.ref (He.ga K "LastPerson")) none o4)) (a := l4) (o := .lst [.ref o1, .ref o2, .ref o3, .ref o4])
      generalize upd (upd (upd (upd (upd G2 o1 (KeptO (.ref (He.ga K "OtherPersons")) none o1)) o2 (KeptO (.ref (He.ga K "NoOrder")) none o2)) o3 (KeptO (.ref (He.ga K "NothingToUndo")) none o3)) o4 (KeptO (.ref (He.ga K "LastPerson")) none o4)) l4 (.lst [.ref o1, .ref o2, .ref o3, .ref o4]) = G3 at so4 c15 hl4 ⊢
      clear c1 c2 c3 c4 c5 x1 x2 x3 x4 x5
      refine ⟨w2, l4, _, _, rfl, rfl, c15 _ _ hw2, hl4, (by rw [List.length_map, lenA]; show 56 ≤ sizeLine; decide), fun w3 x6 => ?_⟩
      have s1 := same_upd (o := .lst (asA.map V.ref ++ [.ref o1, .ref o2, .ref o3, .ref o4])) x6
      have hw3 : upd G3 w3 (.lst (asA.map V.ref ++ [.ref o1, .ref o2, .ref o3, .ref o4])) w3 = some (.lst ((asA ++ [o1, o2, o3, o4]).map V.ref)) := by
        rw [upd_same, List.map_append]
        rfl
      have soW := ((so123.same c15).app so4).same s1
      replace sA := (sA.trans c15).trans s1
      generalize upd G3 w3 (.lst (asA.map V.ref ++ [.ref o1, .ref o2, .ref o3, .ref o4])) = G4 at hw3 soW sA ⊢
      clear s1 x6 so123 so4 c15 hl4 hw2 lenA
      have lenW := soW.len
      generalize asA ++ [o1, o2, o3, o4] = asW at hw3 soW lenW ⊢
      have lenW : asW.length = 56 := by
        rw [lenW]
        rfl
      have noB : ∀ (i : Nat) (x : V) (G : Hp), (asW.map V.ref)[i]? = some x → Same G4 G → ∃ (D a : Addr) (d : Option Addr) (fs : List (Str × V)), ExcC K D ∧ x = .ref a ∧ G a = some (KeptO (.ref D) d a) ∧ DicO d G fs ∧ ∀ y ∈ (["KeyError", "IndexError", "OverflowError", "ZeroDivisionError"] : List String), PySem.W.kitOne K (.ref D) (.type y) = some false := fun i x G hx sm => by
        rw [List.getElem?_map, Option.map_eq_some_iff] at hx
        obtain ⟨a, ha, rfl⟩ := hx
        obtain ⟨n, _, y, d, fs, hk, hd, so, nb⟩ := soW.at_ i a ha
        exact ⟨_, a, d, fs, so.ec, rfl, sm _ _ hk, hd.same sm, nb.no⟩
      refine ⟨_, rfl, w3, rfl, ⟨_, .inl (.inl hw3)⟩, fun D nD => ?_⟩
      refine lc_list (xs := asW.map V.ref) (fun i G => G D = some (.lst ((List.replicate i false).map V.bl)) ∧ Same G4 G) ⟨upd_same, same_upd nD⟩ (fun i G _ hI => .inl (.inl (hI.2 _ _ hw3))) (fun i x G hx hI => ?_) (fun G hI => ?_)
      · obtain ⟨hD, s2⟩ := hI
        have li := (List.getElem?_eq_some_iff.mp hx).1
        rw [List.length_map, lenW] at li
        obtain ⟨C, a2, d, fs, ec, rfl, hk, hd, no⟩ := noB i x G hx s2
        refine ⟨rfl, _, rfl, C, a2, d, _, _, _, fs, ec, rfl, hk, (fun _ r => r), no "KeyError" (by decide), hd, _, rfl, iteF ⟨_, rfl, C, a2, d, _, _, _, fs, ec, rfl, hk, (fun _ r => r), no "IndexError" (by decide), hd, _, hD, ?_, ?_, fun b o e => ?_⟩⟩
        · rw [List.length_map, List.length_replicate]
          exact len_lt (by omega)
        · rw [upd_same, List.replicate_succ', List.map_append]
          rfl
        · rw [upd_ne (ne_of_none e nD)]
          exact s2 b o e
      obtain ⟨hD, s2⟩ := hI
      rw [List.length_map, lenW] at hD
      refine ⟨D, List.replicate 56 false, rfl, .inl (.inl hD), ?_⟩
      rw [any_false]
      refine ⟨_, rfl, iteF ?_⟩
      replace hw3 := s2 _ _ hw3
      replace soW := soW.same s2
      replace sA := sA.trans s2
      replace noB : ∀ (i : Nat) (x : V) (F : Hp), (asW.map V.ref)[i]? = some x → Same G F → ∃ (D a : Addr) (d : Option Addr) (fs : List (Str × V)), ExcC K D ∧ x = .ref a ∧ F a = some (KeptO (.ref D) d a) ∧ DicO d F fs ∧ ∀ y ∈ (["KeyError", "IndexError", "OverflowError", "ZeroDivisionError"] : List String), PySem.W.kitOne K (.ref D) (.type y) = some false := fun i x F hx s => noB i x F hx (s2.trans s)
      clear hD nD
      clear s2
      refine ⟨_, rfl, w3, rfl, ⟨_, .inl (.inl hw3)⟩, fun D nD => ?_⟩
      refine lc_list (xs := asW.map V.ref) (fun i E => E D = some (.lst ((List.replicate i false).map V.bl)) ∧ Same G E) ⟨upd_same, same_upd nD⟩ (fun i E _ hI => .inl (.inl (hI.2 _ _ hw3))) (fun i x E hx hI => ?_) (fun E hI => ?_)
      · obtain ⟨hD, s2⟩ := hI
        have li := (List.getElem?_eq_some_iff.mp hx).1
        rw [List.length_map, lenW] at li
        obtain ⟨C, a2, d, fs, ec, rfl, hk, hd, no⟩ := noB i x E hx s2
        refine ⟨rfl, _, rfl, C, a2, d, _, _, _, fs, ec, rfl, hk, (fun _ r => r), no "OverflowError" (by decide), hd, _, rfl, iteF ⟨_, rfl, C, a2, d, _, _, _, fs, ec, rfl, hk, (fun _ r => r), no "ZeroDivisionError" (by decide), hd, _, hD, ?_, ?_, fun b o e => ?_⟩⟩
        · rw [List.length_map, List.length_replicate]
          exact len_lt (by omega)
        · rw [upd_same, List.replicate_succ', List.map_append]
          rfl
        · rw [upd_ne (ne_of_none e nD)]
          exact s2 b o e
      obtain ⟨hD, s2⟩ := hI
      rw [List.length_map, lenW] at hD
      refine ⟨D, List.replicate 56 false, rfl, .inl (.inl hD), ?_⟩
      rw [any_false]
      refine ⟨_, rfl, iteF ?_⟩
      replace hw3 := s2 _ _ hw3
      replace soW := soW.same s2
      replace sA := sA.trans s2
      replace noB : ∀ (i : Nat) (x : V) (F : Hp), (asW.map V.ref)[i]? = some x → Same E F → ∃ (D a : Addr) (d : Option Addr) (fs : List (Str × V)), ExcC K D ∧ x = .ref a ∧ F a = some (KeptO (.ref D) d a) ∧ DicO d F fs ∧ ∀ y ∈ (["KeyError", "IndexError", "OverflowError", "ZeroDivisionError"] : List String), PySem.W.kitOne K (.ref D) (.type y) = some false := fun i x F hx s => noB i x F hx (s2.trans s)
      clear hD nD
      clear s2
      -- which class each is of
      refine ⟨_, rfl, w3, rfl, ⟨_, .inl (.inl hw3)⟩, fun D nD => ?_⟩
      refine lc_list (xs := asW.map V.ref) (fun i G => G D = some (.lst ((isI.take i).map V.int)) ∧ Same E G) ⟨upd_same, same_upd nD⟩ (fun i G _ hI => .inl (.inl (hI.2 _ _ hw3))) (fun i x G hx hI => ?_) (fun G hI => ?_)
      · obtain ⟨hD, s2⟩ := hI
        have li := (List.getElem?_eq_some_iff.mp hx).1
        rw [List.length_map, lenW] at li
        rw [List.getElem?_map, Option.map_eq_some_iff] at hx
        obtain ⟨a2, ha, rfl⟩ := hx
        obtain ⟨n, hn, y, d, fs, hk, hd, so, _⟩ := soW.at_ i a2 ha
        have hi : isI[i]? = some ((n : Nat) : Int) := by
          rw [isI_eq, List.getElem?_map, hn]
          rfl
        refine ⟨rfl, _, rfl, y, a2, d, fs, n, rfl, s2 _ _ hk, hd.same s2, so, fun E2 s3 => ⟨_, s3 _ _ hD, ?_, ?_, fun b o e => ?_⟩⟩
        · rw [List.length_map, List.length_take]
          exact len_lt (by omega)
        · rw [upd_same, List.take_succ, hi, List.map_append]
          rfl
        · rw [upd_ne (ne_of_none e nD)]
          exact s3 _ _ (s2 b o e)
      obtain ⟨hD, s2⟩ := hI
      rw [List.length_map, lenW, show isI.take 56 = isI from rfl] at hD
      replace sA := sA.trans s2
      clear s2 soW noB hw3 nD
      -- what is due
      refine ⟨Nat.zero_le _, fun dl nd => ?_⟩
      have sD := same_upd (o := .lst []) nd
      have hdl := upd_same (H := G) (a := dl) (o := .lst [])
      replace hD := sD _ _ hD
      replace sA := sA.trans sD
      generalize upd G dl (.lst []) = G6 at hD hdl sA ⊢
      clear sD nd
      refine ⟨18, rfl, .of_le (by decide) (by decide) (by decide) (by decide), fun lr nr => ⟨(by show 8 ≤ sizeLine; decide), fun l8 n8 => ?_⟩⟩
      have s1 := same_upd (o := .lst (rgV 0 18)) nr
      have s2 := same_upd (o := .lst [.int 19, .int 20, .int 22, .int 23, .int 25, .int 26, .int 27, .int 28]) n8
      refine ⟨lr, l8, _, _, rfl, rfl, s2 _ _ upd_same, upd_same, (by rw [rgV_length]; decide), fun lm nm => ?_⟩
      have s3 := same_upd (o := .lst (rgV 0 18 ++ [.int 19, .int 20, .int 22, .int 23, .int 25, .int 26, .int 27, .int 28])) nm
      have hlm := upd_same (H := upd (upd G6 lr (.lst (rgV 0 18))) l8 (.lst [.int 19, .int 20, .int 22, .int 23, .int 25, .int 26, .int 27, .int 28])) (a := lm) (o := .lst (rgV 0 18 ++ [.int 19, .int 20, .int 22, .int 23, .int 25, .int 26, .int 27, .int 28]))
      have s13 := (s1.trans s2).trans s3
      generalize upd (upd (upd G6 lr (.lst (rgV 0 18))) l8 (.lst [.int 19, .int 20, .int 22, .int 23, .int 25, .int 26, .int 27, .int 28])) lm (.lst (rgV 0 18 ++ [.int 19, .int 20, .int 22, .int 23, .int 25, .int 26, .int 27, .int 28])) = G7 at hlm s13 ⊢
      rw [show rgV 0 18 ++ [V.int 19, .int 20, .int 22, .int 23, .int 25, .int 26, .int 27, .int 28] = dueN.map V.int by rw [rgV_rg]; rfl] at hlm
      replace hD := s13 _ _ hD
      replace hdl := s13 _ _ hdl
      replace sA := sA.trans s13
      clear s1 s2 s3 s13 nr n8 nm
      refine ⟨lm, rfl, ⟨_, .inl (.inl hlm)⟩, ?_⟩
      refine for_list (xs := dueN.map V.int) (fun j σ E => ∃ (d2 : Addr) (y11 : Option V), σ = [some (.ref a), some (.ref L), some v, some (.ref l1), some (.ref l2), some (.ref l3), y6, y7, some (.ref w3), some (.ref D), some (.ref d2), y11, y12] ∧ Same G7 E ∧ E d2 = some (.lst (((dueN.take j).flatMap fun n => [n, n]).map V.int))) ⟨dl, none, rfl, Same.refl G7, hdl⟩ (fun j σ E _ hJ => ?_) (fun j x σ E hx hJ => ?_) (fun σ E hJ => ?_)
      · obtain ⟨_, _, _, sm, _⟩ := hJ
        exact .inl (.inl (sm _ _ hlm))
      · obtain ⟨d2, y11, rfl, sm, hd2⟩ := hJ
        have lj : j < dueN.length := by
          have := (List.getElem?_eq_some_iff.mp hx).1
          rw [List.length_map] at this
          exact this
        obtain rfl : x = .int dueN[j] := by
          rw [List.getElem?_map, List.getElem?_eq_getElem lj] at hx
          exact (Option.some.inj hx).symm
        refine ⟨_, rfl, _, rfl, _, rfl, two _ _, fun p np => ?_⟩
        have s1 := same_upd (o := .lst [.int dueN[j], .int dueN[j]]) np
        refine ⟨d2, p, _, _, rfl, rfl, s1 _ _ hd2, upd_same, ?_, fun d3 nd3 => ?_⟩
        · have z : ∀ l : List Int, (l.flatMap fun n => [n, n]).length = 2 * l.length := fun l => by
            induction l with
            | nil => rfl
            | cons n l ih =>
              rw [List.flatMap_cons, List.length_append, ih, List.length_cons]
              show 2 + 2 * l.length = 2 * (l.length + 1)
              omega
          rw [List.length_map, z, List.length_take]
          exact Nat.le_trans (show _ ≤ 100 by have : dueN.length = 26 := rfl; have : ([V.int dueN[j], V.int dueN[j]] : List V).length = 2 := rfl; omega) (by decide)
        · refine ⟨d3, _, rfl, (sm.trans s1).trans (same_upd nd3), ?_⟩
          rw [upd_same, List.take_succ, List.getElem?_eq_getElem lj, List.flatMap_append, List.map_append]
          rfl
      · obtain ⟨d2, y11, rfl, sm, hd2⟩ := hJ
        rw [List.length_map, show dueN.take dueN.length = dueN from rfl] at hd2
        replace hD := sm _ _ hD
        refine ⟨_, rfl, _, rfl, (by show 4 ≤ sizeLine; decide), fun l n => ?_⟩
        have s1 := same_upd (o := .lst [.int 18, .int 21, .int 24, .int 29]) n
        refine ⟨d2, l, _, _, rfl, rfl, s1 _ _ hd2, upd_same, (by show 56 ≤ sizeLine; decide), fun l2 n2 => ?_⟩
        have s2 := same_upd (o := .lst (((dueN.flatMap fun n => [n, n]).map V.int) ++ [.int 18, .int 21, .int 24, .int 29])) n2
        have e : upd (upd E l (.lst [.int 18, .int 21, .int 24, .int 29])) l2 (.lst (((dueN.flatMap fun n => [n, n]).map V.int) ++ [.int 18, .int 21, .int 24, .int 29])) l2 = some (.lst (isI.map V.int)) := upd_same
        refine ⟨.list (isI.map PyData.int), .list (isI.map PyData.int), .lst (.inl (.inl ((s1.trans s2) _ _ hD))) (Dp_ints isI), .lst (.inl (.inl e)) (Dp_ints isI), by decide +kernel, by decide +kernel, ?_⟩
        rw [show PyData.eqv (.list (isI.map PyData.int)) (.list (isI.map PyData.int)) = true by decide +kernel]
        exact q _ (k0.trans (.of_same (sA.trans (sm.trans (s1.trans s2)))))
end
section
variable {P : Program} {w : World} {K : PySem.W.Frag} {mg : Str → Option Value} {base : Heap}
/-! ### the law -/
abbrev s_law : Stmt := top 48
abbrev N_law : List Str := ["_law_script", "_law_k"]
theorem sc_law : FnScope N_law ["_law_script"] (defScope s_law) := ⟨rfl, rfl, rfl, by decide +kernel, rfl, by decide +kernel, by decide +kernel⟩
def spLaw (K : PySem.W.Frag) : Sp := fun vs H Q _ => ∃ (a : Addr) (ns : List Int), vs = [.ref a] ∧ SqL K H a (ns.map V.int) ∧ ns.length ≤ 63 ∧ ∀ H', Q (.bl true) H'
theorem dp_ints {H : Hp} {l : Addr} {ns : List Int} (h : H l = some (.lst (ns.map V.int))) : Dp K H (.ref l) (.list (ns.map PyData.int)) := .lst (.inl (.inl h)) (Dp_ints ns)
theorem ok_law (D : Df K mg "law" s_law) (c__law_right : ClG P w K mg base 4 "_law_right" s__law_right ["_law_pool_here"] spRight) (c__law_pool : Cl P w K mg base 1 "_law_pool" s__law_pool ["_law_figure"] spPool)
    (c__law_cell : Cl P w K mg base 1 "_law_cell" s__law_cell ["_law_script", "_law_k"] (spCell K)) {t1 t2 t3 t4 t5 : Tok} (g_MOST_PEOPLE : mg "MOST_PEOPLE" = some (.int 12 t1)) (g_SMALL : mg "SMALL" = some (.int 8 t2)) (g_MOST_LETTERS : mg "MOST_LETTERS" = some (.int 400 t3)) (g_MOST_TIMES : mg "MOST_TIMES" = some (.int 1000000000000000000000000000000 t4)) (g_MOST_DEEDS : mg "MOST_DEEDS" = some (.int 2000 t5))
    (m_len : mg "len" = none) (m_all : mg "all" = none) (m_range : mg "range" = none) (m_max : mg "max" = none) (m_min : mg "min" = none) :
    ClG P w K mg base 5 "law" s_law ["_law_script"] (spLaw K) := by
  refine D.okG sc_law (fun _ _ _ _ _ _ us hl => match us, hl with | [_], _ => rfl) (fun vs H Q E h => ?_) (fun f cdv A outer s H vs Q E hr hgd h => ?_)
  · obtain ⟨a, ns, rfl, _⟩ := h
    rfl
  · obtain ⟨a, ns, rfl, hS0, hlen, q⟩ := h
    refine ⟨_, 
      (pss_cons (ps_if (pt_cmpR (op_neD hr.units) (pe_lst (pa_cons (pe_glob (v := .int 12) (by rfl) g_MOST_PEOPLE ⟨_, rfl⟩) (pa_cons (pe_glob (v := .int 8) (by rfl) g_SMALL ⟨_, rfl⟩) (pa_cons (pe_glob (v := .int 400) (by rfl) g_MOST_LETTERS ⟨_, rfl⟩) pa_nil)))) (pe_lst (pa_cons pe_int (pa_cons pe_int (pa_cons pe_int pa_nil)))) (nomark _)) (pss_one (ps_ret pe_bl)) pss_nil) 
      (pss_cons (ps_if (pt_cmpR (op_neD hr.units) (pe_lst (pa_cons (pe_glob (v := .int (1000000000000000000000000000000)) (by rfl) g_MOST_TIMES ⟨_, rfl⟩) (pa_cons (pe_glob (v := .int 2000) (by rfl) g_MOST_DEEDS ⟨_, rfl⟩) pa_nil))) (pe_lst (pa_cons (pe_op op_pow pe_int pe_int) (pa_cons pe_int pa_nil))) (nomark _)) (pss_one (ps_ret pe_bl)) pss_nil) 
      (pss_one (ps_ret (pe_callB (cr_all rfl) (by rfl) m_all (by decide +kernel) (pa_cons (pe_lc (own := [("_law_k", 1)]) (g := gName 1) (te := (tCall spRight [] E0 (tCons (tCall spPool [] E0 (tCons (tCall (spCell K) [] E0 (tCons (tVar 0) (tCons (tVar 1) tNil))) tNil)) tNil))) rfl sc_law.nd (pi_range1 (by rfl) m_range (pa_cons (pe_callB (call_max2 rfl) (by rfl) m_max (by decide +kernel) (pa_cons pe_int (pa_cons (pe_callB (call_min2 rfl) (by rfl) m_min (by decide +kernel) (pa_cons (pe_callB call_lenS (by rfl) m_len (by decide +kernel) (pa_cons (pv 0) pa_nil)) (pa_cons pe_int pa_nil))) pa_nil))) pa_nil)) (blkOk_by (own := [("_law_k", 1)]) (N := N_law) (sc := (defScope s_law)) (by decide +kernel)) (fun _ _ _ _ _ => (pg_name (i := 1) sc_law.nd rfl (Or.inl rfl))) (fun _ _ _ _ _ => pts_nil) (fun _ _ _ _ _ => (pe_ug c__law_right hr hgd (by omega) (by rfl) (pa_cons (pe_u c__law_pool hr (by omega) (by rfl) (pa_cons (pe_u c__law_cell hr (by omega) (by rfl) (pa_cons (pv 0) (pa_cons (pv 1) pa_nil))) pa_nil)) pa_nil)))) pa_nil)))))), ?_⟩
    refine ⟨(by show 3 ≤ sizeLine; decide), fun p1 n1 => ⟨(by show 3 ≤ sizeLine; decide), fun p2 n2 => ?_⟩⟩
    have s1 := same_upd (o := .lst [.int 12, .int 8, .int 400]) n1
    have s2 := same_upd (o := .lst [.int 12, .int 8, .int 400]) n2
    refine ⟨_, _, dp_ints (ns := [12, 8, 400]) (s2 _ _ upd_same), dp_ints (ns := [12, 8, 400]) upd_same, by decide +kernel, by decide +kernel, _, rfl, ?_⟩
    rw [show (!PyData.eqv (.list (([12, 8, 400] : List Int).map PyData.int)) (.list (([12, 8, 400] : List Int).map PyData.int))) = false by decide +kernel]
    have s12 := s1.trans s2
    generalize upd (upd H p1 (.lst [.int 12, .int 8, .int 400])) p2 (.lst [.int 12, .int 8, .int 400]) = H1 at s12 ⊢
    clear s1 s2 n1 n2
    refine iteF ⟨(by show 2 ≤ sizeLine; decide), fun p1 n1 => ⟨_, _, rfl, rfl, ⟨by decide, by decide, by decide⟩, (by show 2 ≤ sizeLine; decide), fun p2 n2 => ?_⟩⟩
    have s1 := same_upd (o := .lst [.int 1000000000000000000000000000000, .int 2000]) n1
    have s2 := same_upd (o := .lst [.int (10 ^ (30 : Int).toNat), .int 2000]) n2
    refine ⟨_, _, dp_ints (ns := [1000000000000000000000000000000, 2000]) (s2 _ _ upd_same), dp_ints (ns := [10 ^ (30 : Int).toNat, 2000]) upd_same, by decide +kernel, by decide +kernel, _, rfl, ?_⟩
    rw [show (!PyData.eqv (.list (([1000000000000000000000000000000, 2000] : List Int).map PyData.int)) (.list (([10 ^ (30 : Int).toNat, 2000] : List Int).map PyData.int))) = false by decide +kernel]
    have s13 := (s12.trans s1).trans s2
    generalize upd (upd H1 p1 (.lst [.int 1000000000000000000000000000000, .int 2000])) p2 (.lst [.int (10 ^ (30 : Int).toNat), .int 2000]) = F at s13 ⊢
    have hS : SqL K F a (ns.map V.int) := s13.seq hS0
    clear s1 s2 n1 n2 s12 s13 hS0
    refine iteF ⟨_, rfl, a, _, rfl, .inl hS, _, _, rfl, _, _, rfl, _, rfl, ?_, ?_, fun D nD => ?_⟩
    · rw [List.length_map]
      split <;> split <;> omega
    · rw [List.length_map]
      split <;> split <;> omega
    · generalize hn : (if (if (4 : Int) < (((ns.map V.int).length : Nat) : Int) then (4 : Int) else (((ns.map V.int).length : Nat) : Int)) > 2 then (if (4 : Int) < (((ns.map V.int).length : Nat) : Int) then (4 : Int) else (((ns.map V.int).length : Nat) : Int)) else 2) = n
      have n1 : n ≤ 100 := by
        rw [← hn, List.length_map]
        split <;> split <;> omega
      refine lc_range (lo := 0) (n := n.toNat) (fun i H2 => H2 D = some (.lst ((List.replicate i true).map V.bl)) ∧ Same F H2) ⟨upd_same, same_upd nD⟩ (fun i H2 hi hI => ?_) (fun H2 hI => ?_)
      · obtain ⟨hD, sm⟩ := hI
        refine ⟨rfl, _, rfl, _, rfl, a, ns, i, ?_, sm.seq hS, by omega, fun c H3 s3 => ?_⟩
        · exact congrArg (fun t : Int => [V.ref a, V.int t]) (Int.zero_add _)
        refine ⟨c, rfl, fun p H4 s4 np hp => ⟨p, rfl, hp, fun H5 k5 => ?_⟩⟩
        have hD4 := s4 D _ (s3 D _ hD)
        have pD : p ≠ D := fun z => by
          subst z
          rw [s3 p _ hD] at np
          cases np
        have hD5 := k5 D _ hD4 pD.symm
        refine ⟨_, hD5, ?_, ?_, fun b o e => ?_⟩
        · rw [List.length_map, List.length_replicate]
          exact len_lt (by omega)
        · rw [upd_same, List.replicate_succ', List.map_append]
          rfl
        · have bD : b ≠ D := ne_of_none e nD
          rw [upd_ne bD]
          have eb := s3 b _ (sm b o e)
          exact k5 b o (s4 b o eb) (ne_of_none eb np)
      · obtain ⟨hD, sm⟩ := hI
        refine ⟨D, List.replicate n.toNat true, rfl, .inl (.inl hD), ?_⟩
        rw [all_true]
        exact q _
end
section
variable {P : Program} {w : World} {K : PySem.W.Frag} {mg : Str → Option Value} {base : Heap}
/-! ### the errors' own makers -/
abbrev s_InvalidRow : Stmt := top 2
theorem hb_InvalidRow (X : Cx) (hN : X.N = (["self", "index"] : List Str)) (hs : X.env.scope = defScope (initOf s_InvalidRow)) (_ : X.fn "self" = true) : PSs X (defBody (initOf s_InvalidRow)) (tSeq (tOne X.K "index" (tVar 0) (tVar 1)) tNext) :=
  pss_cons (ps_one (pe_var (by rw [hN]; rfl) (by rw [hs]; exact Or.inl rfl)) (pe_var (by rw [hN]; rfl) (by rw [hs]; exact Or.inl rfl))) pss_nil
theorem si_InvalidRow : FnScope (["self", "index"] : List Str) (["self", "index"] : List Str) (defScope (initOf s_InvalidRow)) := ⟨rfl, rfl, rfl, by decide +kernel, rfl, by decide +kernel, by decide +kernel⟩
abbrev s_InvalidNumber : Stmt := top 3
theorem hb_InvalidNumber (X : Cx) (hN : X.N = (["self", "number"] : List Str)) (hs : X.env.scope = defScope (initOf s_InvalidNumber)) (_ : X.fn "self" = true) : PSs X (defBody (initOf s_InvalidNumber)) (tSeq (tOne X.K "number" (tVar 0) (tVar 1)) tNext) :=
  pss_cons (ps_one (pe_var (by rw [hN]; rfl) (by rw [hs]; exact Or.inl rfl)) (pe_var (by rw [hN]; rfl) (by rw [hs]; exact Or.inl rfl))) pss_nil
theorem si_InvalidNumber : FnScope (["self", "number"] : List Str) (["self", "number"] : List Str) (defScope (initOf s_InvalidNumber)) := ⟨rfl, rfl, rfl, by decide +kernel, rfl, by decide +kernel, by decide +kernel⟩
abbrev s_InvalidKind : Stmt := top 4
theorem hb_InvalidKind (X : Cx) (hN : X.N = (["self", "kind"] : List Str)) (hs : X.env.scope = defScope (initOf s_InvalidKind)) (_ : X.fn "self" = true) : PSs X (defBody (initOf s_InvalidKind)) (tSeq (tOne X.K "kind" (tVar 0) (tVar 1)) tNext) :=
  pss_cons (ps_one (pe_var (by rw [hN]; rfl) (by rw [hs]; exact Or.inl rfl)) (pe_var (by rw [hN]; rfl) (by rw [hs]; exact Or.inl rfl))) pss_nil
theorem si_InvalidKind : FnScope (["self", "kind"] : List Str) (["self", "kind"] : List Str) (defScope (initOf s_InvalidKind)) := ⟨rfl, rfl, rfl, by decide +kernel, rfl, by decide +kernel, by decide +kernel⟩
abbrev s_InvalidWord : Stmt := top 5
theorem hb_InvalidWord (X : Cx) (hN : X.N = (["self", "index"] : List Str)) (hs : X.env.scope = defScope (initOf s_InvalidWord)) (_ : X.fn "self" = true) : PSs X (defBody (initOf s_InvalidWord)) (tSeq (tOne X.K "index" (tVar 0) (tVar 1)) tNext) :=
  pss_cons (ps_one (pe_var (by rw [hN]; rfl) (by rw [hs]; exact Or.inl rfl)) (pe_var (by rw [hN]; rfl) (by rw [hs]; exact Or.inl rfl))) pss_nil
theorem si_InvalidWord : FnScope (["self", "index"] : List Str) (["self", "index"] : List Str) (defScope (initOf s_InvalidWord)) := ⟨rfl, rfl, rfl, by decide +kernel, rfl, by decide +kernel, by decide +kernel⟩
abbrev s_InvalidSize : Stmt := top 6
theorem hb_InvalidSize (X : Cx) (hN : X.N = (["self", "size"] : List Str)) (hs : X.env.scope = defScope (initOf s_InvalidSize)) (_ : X.fn "self" = true) : PSs X (defBody (initOf s_InvalidSize)) (tSeq (tOne X.K "size" (tVar 0) (tVar 1)) tNext) :=
  pss_cons (ps_one (pe_var (by rw [hN]; rfl) (by rw [hs]; exact Or.inl rfl)) (pe_var (by rw [hN]; rfl) (by rw [hs]; exact Or.inl rfl))) pss_nil
theorem si_InvalidSize : FnScope (["self", "size"] : List Str) (["self", "size"] : List Str) (defScope (initOf s_InvalidSize)) := ⟨rfl, rfl, rfl, by decide +kernel, rfl, by decide +kernel, by decide +kernel⟩
abbrev s_InvalidProgram : Stmt := top 7
theorem hb_InvalidProgram (X : Cx) (hN : X.N = (["self", "index"] : List Str)) (hs : X.env.scope = defScope (initOf s_InvalidProgram)) (_ : X.fn "self" = true) : PSs X (defBody (initOf s_InvalidProgram)) (tSeq (tOne X.K "index" (tVar 0) (tVar 1)) tNext) :=
  pss_cons (ps_one (pe_var (by rw [hN]; rfl) (by rw [hs]; exact Or.inl rfl)) (pe_var (by rw [hN]; rfl) (by rw [hs]; exact Or.inl rfl))) pss_nil
theorem si_InvalidProgram : FnScope (["self", "index"] : List Str) (["self", "index"] : List Str) (defScope (initOf s_InvalidProgram)) := ⟨rfl, rfl, rfl, by decide +kernel, rfl, by decide +kernel, by decide +kernel⟩
abbrev s_InvalidText : Stmt := top 8
theorem hb_InvalidText (X : Cx) (hN : X.N = (["self", "text"] : List Str)) (hs : X.env.scope = defScope (initOf s_InvalidText)) (_ : X.fn "self" = true) : PSs X (defBody (initOf s_InvalidText)) (tSeq (tOne X.K "text" (tVar 0) (tVar 1)) tNext) :=
  pss_cons (ps_one (pe_var (by rw [hN]; rfl) (by rw [hs]; exact Or.inl rfl)) (pe_var (by rw [hN]; rfl) (by rw [hs]; exact Or.inl rfl))) pss_nil
theorem si_InvalidText : FnScope (["self", "text"] : List Str) (["self", "text"] : List Str) (defScope (initOf s_InvalidText)) := ⟨rfl, rfl, rfl, by decide +kernel, rfl, by decide +kernel, by decide +kernel⟩
abbrev s_InvalidHeights : Stmt := top 9
theorem hb_InvalidHeights (X : Cx) (hN : X.N = (["self", "index"] : List Str)) (hs : X.env.scope = defScope (initOf s_InvalidHeights)) (_ : X.fn "self" = true) : PSs X (defBody (initOf s_InvalidHeights)) (tSeq (tOne X.K "index" (tVar 0) (tVar 1)) tNext) :=
  pss_cons (ps_one (pe_var (by rw [hN]; rfl) (by rw [hs]; exact Or.inl rfl)) (pe_var (by rw [hN]; rfl) (by rw [hs]; exact Or.inl rfl))) pss_nil
theorem si_InvalidHeights : FnScope (["self", "index"] : List Str) (["self", "index"] : List Str) (defScope (initOf s_InvalidHeights)) := ⟨rfl, rfl, rfl, by decide +kernel, rfl, by decide +kernel, by decide +kernel⟩
abbrev s_InvalidWishes : Stmt := top 10
theorem hb_InvalidWishes (X : Cx) (hN : X.N = (["self", "index"] : List Str)) (hs : X.env.scope = defScope (initOf s_InvalidWishes)) (_ : X.fn "self" = true) : PSs X (defBody (initOf s_InvalidWishes)) (tSeq (tOne X.K "index" (tVar 0) (tVar 1)) tNext) :=
  pss_cons (ps_one (pe_var (by rw [hN]; rfl) (by rw [hs]; exact Or.inl rfl)) (pe_var (by rw [hN]; rfl) (by rw [hs]; exact Or.inl rfl))) pss_nil
theorem si_InvalidWishes : FnScope (["self", "index"] : List Str) (["self", "index"] : List Str) (defScope (initOf s_InvalidWishes)) := ⟨rfl, rfl, rfl, by decide +kernel, rfl, by decide +kernel, by decide +kernel⟩
abbrev s_InvalidRecord : Stmt := top 11
theorem hb_InvalidRecord (X : Cx) (hN : X.N = (["self", "index"] : List Str)) (hs : X.env.scope = defScope (initOf s_InvalidRecord)) (_ : X.fn "self" = true) : PSs X (defBody (initOf s_InvalidRecord)) (tSeq (tOne X.K "index" (tVar 0) (tVar 1)) tNext) :=
  pss_cons (ps_one (pe_var (by rw [hN]; rfl) (by rw [hs]; exact Or.inl rfl)) (pe_var (by rw [hN]; rfl) (by rw [hs]; exact Or.inl rfl))) pss_nil
theorem si_InvalidRecord : FnScope (["self", "index"] : List Str) (["self", "index"] : List Str) (defScope (initOf s_InvalidRecord)) := ⟨rfl, rfl, rfl, by decide +kernel, rfl, by decide +kernel, by decide +kernel⟩
abbrev s_InvalidPattern : Stmt := top 12
theorem hb_InvalidPattern (X : Cx) (hN : X.N = (["self", "index"] : List Str)) (hs : X.env.scope = defScope (initOf s_InvalidPattern)) (_ : X.fn "self" = true) : PSs X (defBody (initOf s_InvalidPattern)) (tSeq (tOne X.K "index" (tVar 0) (tVar 1)) tNext) :=
  pss_cons (ps_one (pe_var (by rw [hN]; rfl) (by rw [hs]; exact Or.inl rfl)) (pe_var (by rw [hN]; rfl) (by rw [hs]; exact Or.inl rfl))) pss_nil
theorem si_InvalidPattern : FnScope (["self", "index"] : List Str) (["self", "index"] : List Str) (defScope (initOf s_InvalidPattern)) := ⟨rfl, rfl, rfl, by decide +kernel, rfl, by decide +kernel, by decide +kernel⟩
abbrev s_InvalidShare : Stmt := top 13
theorem hb_InvalidShare (X : Cx) (hN : X.N = (["self", "share"] : List Str)) (hs : X.env.scope = defScope (initOf s_InvalidShare)) (_ : X.fn "self" = true) : PSs X (defBody (initOf s_InvalidShare)) (tSeq (tOne X.K "share" (tVar 0) (tVar 1)) tNext) :=
  pss_cons (ps_one (pe_var (by rw [hN]; rfl) (by rw [hs]; exact Or.inl rfl)) (pe_var (by rw [hN]; rfl) (by rw [hs]; exact Or.inl rfl))) pss_nil
theorem si_InvalidShare : FnScope (["self", "share"] : List Str) (["self", "share"] : List Str) (defScope (initOf s_InvalidShare)) := ⟨rfl, rfl, rfl, by decide +kernel, rfl, by decide +kernel, by decide +kernel⟩
abbrev s_InvalidPeople : Stmt := top 14
theorem hb_InvalidPeople (X : Cx) (hN : X.N = (["self", "index"] : List Str)) (hs : X.env.scope = defScope (initOf s_InvalidPeople)) (_ : X.fn "self" = true) : PSs X (defBody (initOf s_InvalidPeople)) (tSeq (tOne X.K "index" (tVar 0) (tVar 1)) tNext) :=
  pss_cons (ps_one (pe_var (by rw [hN]; rfl) (by rw [hs]; exact Or.inl rfl)) (pe_var (by rw [hN]; rfl) (by rw [hs]; exact Or.inl rfl))) pss_nil
theorem si_InvalidPeople : FnScope (["self", "index"] : List Str) (["self", "index"] : List Str) (defScope (initOf s_InvalidPeople)) := ⟨rfl, rfl, rfl, by decide +kernel, rfl, by decide +kernel, by decide +kernel⟩
abbrev s_InvalidName : Stmt := top 15
theorem hb_InvalidName (X : Cx) (hN : X.N = (["self", "name"] : List Str)) (hs : X.env.scope = defScope (initOf s_InvalidName)) (_ : X.fn "self" = true) : PSs X (defBody (initOf s_InvalidName)) (tSeq (tOne X.K "name" (tVar 0) (tVar 1)) tNext) :=
  pss_cons (ps_one (pe_var (by rw [hN]; rfl) (by rw [hs]; exact Or.inl rfl)) (pe_var (by rw [hN]; rfl) (by rw [hs]; exact Or.inl rfl))) pss_nil
theorem si_InvalidName : FnScope (["self", "name"] : List Str) (["self", "name"] : List Str) (defScope (initOf s_InvalidName)) := ⟨rfl, rfl, rfl, by decide +kernel, rfl, by decide +kernel, by decide +kernel⟩
abbrev s_InvalidHeight : Stmt := top 16
theorem hb_InvalidHeight (X : Cx) (hN : X.N = (["self", "height"] : List Str)) (hs : X.env.scope = defScope (initOf s_InvalidHeight)) (_ : X.fn "self" = true) : PSs X (defBody (initOf s_InvalidHeight)) (tSeq (tOne X.K "height" (tVar 0) (tVar 1)) tNext) :=
  pss_cons (ps_one (pe_var (by rw [hN]; rfl) (by rw [hs]; exact Or.inl rfl)) (pe_var (by rw [hN]; rfl) (by rw [hs]; exact Or.inl rfl))) pss_nil
theorem si_InvalidHeight : FnScope (["self", "height"] : List Str) (["self", "height"] : List Str) (defScope (initOf s_InvalidHeight)) := ⟨rfl, rfl, rfl, by decide +kernel, rfl, by decide +kernel, by decide +kernel⟩
abbrev s_InvalidDeed : Stmt := top 17
theorem hb_InvalidDeed (X : Cx) (hN : X.N = (["self", "index"] : List Str)) (hs : X.env.scope = defScope (initOf s_InvalidDeed)) (_ : X.fn "self" = true) : PSs X (defBody (initOf s_InvalidDeed)) (tSeq (tOne X.K "index" (tVar 0) (tVar 1)) tNext) :=
  pss_cons (ps_one (pe_var (by rw [hN]; rfl) (by rw [hs]; exact Or.inl rfl)) (pe_var (by rw [hN]; rfl) (by rw [hs]; exact Or.inl rfl))) pss_nil
theorem si_InvalidDeed : FnScope (["self", "index"] : List Str) (["self", "index"] : List Str) (defScope (initOf s_InvalidDeed)) := ⟨rfl, rfl, rfl, by decide +kernel, rfl, by decide +kernel, by decide +kernel⟩
abbrev s_InvalidCommand : Stmt := top 18
theorem hb_InvalidCommand (X : Cx) (hN : X.N = (["self", "line"] : List Str)) (hs : X.env.scope = defScope (initOf s_InvalidCommand)) (_ : X.fn "self" = true) : PSs X (defBody (initOf s_InvalidCommand)) (tSeq (tOne X.K "line" (tVar 0) (tVar 1)) tNext) :=
  pss_cons (ps_one (pe_var (by rw [hN]; rfl) (by rw [hs]; exact Or.inl rfl)) (pe_var (by rw [hN]; rfl) (by rw [hs]; exact Or.inl rfl))) pss_nil
theorem si_InvalidCommand : FnScope (["self", "line"] : List Str) (["self", "line"] : List Str) (defScope (initOf s_InvalidCommand)) := ⟨rfl, rfl, rfl, by decide +kernel, rfl, by decide +kernel, by decide +kernel⟩
abbrev s_NotFinal : Stmt := top 20
theorem hb_NotFinal (X : Cx) (hN : X.N = (["self", "index"] : List Str)) (hs : X.env.scope = defScope (initOf s_NotFinal)) (_ : X.fn "self" = true) : PSs X (defBody (initOf s_NotFinal)) (tSeq (tOne X.K "index" (tVar 0) (tVar 1)) tNext) :=
  pss_cons (ps_one (pe_var (by rw [hN]; rfl) (by rw [hs]; exact Or.inl rfl)) (pe_var (by rw [hN]; rfl) (by rw [hs]; exact Or.inl rfl))) pss_nil
theorem si_NotFinal : FnScope (["self", "index"] : List Str) (["self", "index"] : List Str) (defScope (initOf s_NotFinal)) := ⟨rfl, rfl, rfl, by decide +kernel, rfl, by decide +kernel, by decide +kernel⟩
abbrev s_UnknownName : Stmt := top 22
theorem hb_UnknownName (X : Cx) (hN : X.N = (["self", "name"] : List Str)) (hs : X.env.scope = defScope (initOf s_UnknownName)) (_ : X.fn "self" = true) : PSs X (defBody (initOf s_UnknownName)) (tSeq (tOne X.K "name" (tVar 0) (tVar 1)) tNext) :=
  pss_cons (ps_one (pe_var (by rw [hN]; rfl) (by rw [hs]; exact Or.inl rfl)) (pe_var (by rw [hN]; rfl) (by rw [hs]; exact Or.inl rfl))) pss_nil
theorem si_UnknownName : FnScope (["self", "name"] : List Str) (["self", "name"] : List Str) (defScope (initOf s_UnknownName)) := ⟨rfl, rfl, rfl, by decide +kernel, rfl, by decide +kernel, by decide +kernel⟩
abbrev s_UnknownHeight : Stmt := top 23
theorem hb_UnknownHeight (X : Cx) (hN : X.N = (["self", "height"] : List Str)) (hs : X.env.scope = defScope (initOf s_UnknownHeight)) (_ : X.fn "self" = true) : PSs X (defBody (initOf s_UnknownHeight)) (tSeq (tOne X.K "height" (tVar 0) (tVar 1)) tNext) :=
  pss_cons (ps_one (pe_var (by rw [hN]; rfl) (by rw [hs]; exact Or.inl rfl)) (pe_var (by rw [hN]; rfl) (by rw [hs]; exact Or.inl rfl))) pss_nil
theorem si_UnknownHeight : FnScope (["self", "height"] : List Str) (["self", "height"] : List Str) (defScope (initOf s_UnknownHeight)) := ⟨rfl, rfl, rfl, by decide +kernel, rfl, by decide +kernel, by decide +kernel⟩
abbrev s_NameTaken : Stmt := top 25
theorem hb_NameTaken (X : Cx) (hN : X.N = (["self", "name"] : List Str)) (hs : X.env.scope = defScope (initOf s_NameTaken)) (_ : X.fn "self" = true) : PSs X (defBody (initOf s_NameTaken)) (tSeq (tOne X.K "name" (tVar 0) (tVar 1)) tNext) :=
  pss_cons (ps_one (pe_var (by rw [hN]; rfl) (by rw [hs]; exact Or.inl rfl)) (pe_var (by rw [hN]; rfl) (by rw [hs]; exact Or.inl rfl))) pss_nil
theorem si_NameTaken : FnScope (["self", "name"] : List Str) (["self", "name"] : List Str) (defScope (initOf s_NameTaken)) := ⟨rfl, rfl, rfl, by decide +kernel, rfl, by decide +kernel, by decide +kernel⟩
abbrev s_HeightTaken : Stmt := top 26
theorem hb_HeightTaken (X : Cx) (hN : X.N = (["self", "height"] : List Str)) (hs : X.env.scope = defScope (initOf s_HeightTaken)) (_ : X.fn "self" = true) : PSs X (defBody (initOf s_HeightTaken)) (tSeq (tOne X.K "height" (tVar 0) (tVar 1)) tNext) :=
  pss_cons (ps_one (pe_var (by rw [hN]; rfl) (by rw [hs]; exact Or.inl rfl)) (pe_var (by rw [hN]; rfl) (by rw [hs]; exact Or.inl rfl))) pss_nil
theorem si_HeightTaken : FnScope (["self", "height"] : List Str) (["self", "height"] : List Str) (defScope (initOf s_HeightTaken)) := ⟨rfl, rfl, rfl, by decide +kernel, rfl, by decide +kernel, by decide +kernel⟩
abbrev s_TooManySeats : Stmt := top 29
theorem hb_TooManySeats (X : Cx) (hN : X.N = (["self", "seats"] : List Str)) (hs : X.env.scope = defScope (initOf s_TooManySeats)) (_ : X.fn "self" = true) : PSs X (defBody (initOf s_TooManySeats)) (tSeq (tOne X.K "seats" (tVar 0) (tVar 1)) tNext) :=
  pss_cons (ps_one (pe_var (by rw [hN]; rfl) (by rw [hs]; exact Or.inl rfl)) (pe_var (by rw [hN]; rfl) (by rw [hs]; exact Or.inl rfl))) pss_nil
theorem si_TooManySeats : FnScope (["self", "seats"] : List Str) (["self", "seats"] : List Str) (defScope (initOf s_TooManySeats)) := ⟨rfl, rfl, rfl, by decide +kernel, rfl, by decide +kernel, by decide +kernel⟩
abbrev s_TooManyPeople : Stmt := top 30
theorem hb_TooManyPeople (X : Cx) (hN : X.N = (["self", "count"] : List Str)) (hs : X.env.scope = defScope (initOf s_TooManyPeople)) (_ : X.fn "self" = true) : PSs X (defBody (initOf s_TooManyPeople)) (tSeq (tOne X.K "count" (tVar 0) (tVar 1)) tNext) :=
  pss_cons (ps_one (pe_var (by rw [hN]; rfl) (by rw [hs]; exact Or.inl rfl)) (pe_var (by rw [hN]; rfl) (by rw [hs]; exact Or.inl rfl))) pss_nil
theorem si_TooManyPeople : FnScope (["self", "count"] : List Str) (["self", "count"] : List Str) (defScope (initOf s_TooManyPeople)) := ⟨rfl, rfl, rfl, by decide +kernel, rfl, by decide +kernel, by decide +kernel⟩
abbrev s_WordTooShort : Stmt := top 31
theorem hb_WordTooShort (X : Cx) (hN : X.N = (["self", "length"] : List Str)) (hs : X.env.scope = defScope (initOf s_WordTooShort)) (_ : X.fn "self" = true) : PSs X (defBody (initOf s_WordTooShort)) (tSeq (tOne X.K "length" (tVar 0) (tVar 1)) tNext) :=
  pss_cons (ps_one (pe_var (by rw [hN]; rfl) (by rw [hs]; exact Or.inl rfl)) (pe_var (by rw [hN]; rfl) (by rw [hs]; exact Or.inl rfl))) pss_nil
theorem si_WordTooShort : FnScope (["self", "length"] : List Str) (["self", "length"] : List Str) (defScope (initOf s_WordTooShort)) := ⟨rfl, rfl, rfl, by decide +kernel, rfl, by decide +kernel, by decide +kernel⟩
abbrev s_TooManyDeeds : Stmt := top 32
theorem hb_TooManyDeeds (X : Cx) (hN : X.N = (["self", "count"] : List Str)) (hs : X.env.scope = defScope (initOf s_TooManyDeeds)) (_ : X.fn "self" = true) : PSs X (defBody (initOf s_TooManyDeeds)) (tSeq (tOne X.K "count" (tVar 0) (tVar 1)) tNext) :=
  pss_cons (ps_one (pe_var (by rw [hN]; rfl) (by rw [hs]; exact Or.inl rfl)) (pe_var (by rw [hN]; rfl) (by rw [hs]; exact Or.inl rfl))) pss_nil
theorem si_TooManyDeeds : FnScope (["self", "count"] : List Str) (["self", "count"] : List Str) (defScope (initOf s_TooManyDeeds)) := ⟨rfl, rfl, rfl, by decide +kernel, rfl, by decide +kernel, by decide +kernel⟩
theorem fact_in {fa : List He.Fa} {fn : List He.DefD} (c : He.SaysD fa fn K) {y : He.Fa} (h : y ∈ fa) : y.ok K = true := by
  obtain ⟨i, e⟩ := List.getElem?_of_mem h
  exact c.fact i e
theorem ek_of {h : Heap} {x f q : Str} {up maker ini : String} {rows : List Value} {fa : List He.Fa} {fn : List He.DefD} {st : Stmt} (SF : StoreFacts up rows "object.__setattr__" "object") (FB : ExcBaseFacts up maker ini rows) (X : K.In h) (G : h.Ns mainGlobals mg) (c : He.SaysD fa fn K) (i : Nat) (hi : fn[i]? = some (mkI x q st)) (hg : mg x = some (.ref (He.ga K x))) (e : etB K x f rows maker = true)
    (S : FnScope (["self", f] : List Str) (["self", f] : List Str) (defScope (initOf st)))
    (bd : ∀ (kV doc pm : Value) (an : Option Addr) (cdv ct : Value) (us : List Value), us.length = 2 → bindArgs (PySem.W.fnOf "__init__" q (defArgs (initOf st)) (defBody (initOf st)) (defScope (initOf st)) .none kV doc pm an cdv ct) ⟨us, []⟩ = pure ((["self", f] : List Str).zip us))
    (bdk : ∀ (kV doc pm : Value) (an : Option Addr) (cdv ct : Value) (us ws : List Value), us.length = 1 → ws.length = 1 → bindArgs (PySem.W.fnOf "__init__" q (defArgs (initOf st)) (defBody (initOf st)) (defScope (initOf st)) .none kV doc pm an cdv ct) ⟨us, ([f] : List Str).zip ws⟩ = pure ((["self", f] : List Str).zip (us ++ ws)))
    (hb : ∀ X : Cx, X.N = (["self", f] : List Str) → X.env.scope = defScope (initOf st) → X.fn "self" = true → PSs X (defBody (initOf st)) (tSeq (tOne X.K f (tVar 0) (tVar 1)) tNext)) : EK P w K mg base x f := by
  obtain ⟨fd, F⟩ := c.def_ i hi
  exact EK.of SF FB hg e F S bd bdk hb
theorem noB_ok {x : Str} (h : noB K x = true) : NoB K x := ⟨fun y hy => of_decide_eq_true (List.all_eq_true.mp h y hy)⟩
theorem clW_ok {x f : Str} {i : Nat} {rows : List Value} {maker : String} (h : clW K x f i rows maker = true) : etB K x f rows maker = true ∧ SortOk K x i ∧ NoB K x := by
  obtain ⟨h1, h⟩ := Bool.and_eq_true_iff.mp h
  obtain ⟨h2, h3⟩ := Bool.and_eq_true_iff.mp h
  exact ⟨h1, sortB_ok h2, noB_ok h3⟩
theorem clU_ok {x : Str} {i : Nat} {rows : List Value} {maker : String} (h : clU K x i rows maker = true) : enB K x rows maker = true ∧ SortOk K x i ∧ NoB K x := by
  obtain ⟨h1, h⟩ := Bool.and_eq_true_iff.mp h
  obtain ⟨h2, h3⟩ := Bool.and_eq_true_iff.mp h
  exact ⟨h1, sortB_ok h2, noB_ok h3⟩
end
def lawLevel : Nat := 5
theorem law_facts {P : Program} {w : World} {K : PySem.W.Frag} {h : Heap} {mg : Str → Option Value} {f : Addr} (X : K.In h) (G : h.Ns mainGlobals mg) (hfa : mg ("law" : Str) = some (.ref f)) (c : He.SaysD faL fnL K) (ex : exL K = true) (tk : TabsK K h tsL) :
    ∃ fd : FuncData, (∀ (s : Shared) (v : Value), BindsTo s fd ⟨[v], []⟩ [("_law_script", v)]) ∧ ∀ base : Heap, TabsB K mg base tsL → FnG P w K mg base lawLevel f fd ["_law_script"] (spLaw K) := by
  obtain ⟨en_LastPerson, so_LastPerson, nb_LastPerson⟩ := clU_ok (show clU K "LastPerson" 29 rowsA "ArithmeticError.__new__" = true from (Bool.and_eq_true_iff.mp ex).2)
  replace ex := (Bool.and_eq_true_iff.mp ex).1
  obtain ⟨en_NothingToUndo, so_NothingToUndo, nb_NothingToUndo⟩ := clU_ok (show clU K "NothingToUndo" 24 rowsL "LookupError.__new__" = true from (Bool.and_eq_true_iff.mp ex).2)
  replace ex := (Bool.and_eq_true_iff.mp ex).1
  obtain ⟨en_NoOrder, so_NoOrder, nb_NoOrder⟩ := clU_ok (show clU K "NoOrder" 21 rowsL "LookupError.__new__" = true from (Bool.and_eq_true_iff.mp ex).2)
  replace ex := (Bool.and_eq_true_iff.mp ex).1
  obtain ⟨en_OtherPersons, so_OtherPersons, nb_OtherPersons⟩ := clU_ok (show clU K "OtherPersons" 18 rowsL "LookupError.__new__" = true from (Bool.and_eq_true_iff.mp ex).2)
  replace ex := (Bool.and_eq_true_iff.mp ex).1
  obtain ⟨eb_TooManyDeeds, so_TooManyDeeds, nb_TooManyDeeds⟩ := clW_ok (show clW K "TooManyDeeds" "count" 28 rowsA "ArithmeticError.__new__" = true from (Bool.and_eq_true_iff.mp ex).2)
  replace ex := (Bool.and_eq_true_iff.mp ex).1
  obtain ⟨eb_WordTooShort, so_WordTooShort, nb_WordTooShort⟩ := clW_ok (show clW K "WordTooShort" "length" 27 rowsA "ArithmeticError.__new__" = true from (Bool.and_eq_true_iff.mp ex).2)
  replace ex := (Bool.and_eq_true_iff.mp ex).1
  obtain ⟨eb_TooManyPeople, so_TooManyPeople, nb_TooManyPeople⟩ := clW_ok (show clW K "TooManyPeople" "count" 26 rowsA "ArithmeticError.__new__" = true from (Bool.and_eq_true_iff.mp ex).2)
  replace ex := (Bool.and_eq_true_iff.mp ex).1
  obtain ⟨eb_TooManySeats, so_TooManySeats, nb_TooManySeats⟩ := clW_ok (show clW K "TooManySeats" "seats" 25 rowsA "ArithmeticError.__new__" = true from (Bool.and_eq_true_iff.mp ex).2)
  replace ex := (Bool.and_eq_true_iff.mp ex).1
  obtain ⟨eb_HeightTaken, so_HeightTaken, nb_HeightTaken⟩ := clW_ok (show clW K "HeightTaken" "height" 23 rowsL "LookupError.__new__" = true from (Bool.and_eq_true_iff.mp ex).2)
  replace ex := (Bool.and_eq_true_iff.mp ex).1
  obtain ⟨eb_NameTaken, so_NameTaken, nb_NameTaken⟩ := clW_ok (show clW K "NameTaken" "name" 22 rowsL "LookupError.__new__" = true from (Bool.and_eq_true_iff.mp ex).2)
  replace ex := (Bool.and_eq_true_iff.mp ex).1
  obtain ⟨eb_UnknownHeight, so_UnknownHeight, nb_UnknownHeight⟩ := clW_ok (show clW K "UnknownHeight" "height" 20 rowsL "LookupError.__new__" = true from (Bool.and_eq_true_iff.mp ex).2)
  replace ex := (Bool.and_eq_true_iff.mp ex).1
  obtain ⟨eb_UnknownName, so_UnknownName, nb_UnknownName⟩ := clW_ok (show clW K "UnknownName" "name" 19 rowsL "LookupError.__new__" = true from (Bool.and_eq_true_iff.mp ex).2)
  replace ex := (Bool.and_eq_true_iff.mp ex).1
  obtain ⟨eb_NotFinal, so_NotFinal, nb_NotFinal⟩ := clW_ok (show clW K "NotFinal" "index" 17 rowsL "LookupError.__new__" = true from (Bool.and_eq_true_iff.mp ex).2)
  replace ex := (Bool.and_eq_true_iff.mp ex).1
  obtain ⟨eb_InvalidCommand, so_InvalidCommand, nb_InvalidCommand⟩ := clW_ok (show clW K "InvalidCommand" "line" 16 rowsV "ValueError.__new__" = true from (Bool.and_eq_true_iff.mp ex).2)
  replace ex := (Bool.and_eq_true_iff.mp ex).1
  obtain ⟨eb_InvalidDeed, so_InvalidDeed, nb_InvalidDeed⟩ := clW_ok (show clW K "InvalidDeed" "index" 15 rowsV "ValueError.__new__" = true from (Bool.and_eq_true_iff.mp ex).2)
  replace ex := (Bool.and_eq_true_iff.mp ex).1
  obtain ⟨eb_InvalidHeight, so_InvalidHeight, nb_InvalidHeight⟩ := clW_ok (show clW K "InvalidHeight" "height" 14 rowsV "ValueError.__new__" = true from (Bool.and_eq_true_iff.mp ex).2)
  replace ex := (Bool.and_eq_true_iff.mp ex).1
  obtain ⟨eb_InvalidName, so_InvalidName, nb_InvalidName⟩ := clW_ok (show clW K "InvalidName" "name" 13 rowsV "ValueError.__new__" = true from (Bool.and_eq_true_iff.mp ex).2)
  replace ex := (Bool.and_eq_true_iff.mp ex).1
  obtain ⟨eb_InvalidPeople, so_InvalidPeople, nb_InvalidPeople⟩ := clW_ok (show clW K "InvalidPeople" "index" 12 rowsV "ValueError.__new__" = true from (Bool.and_eq_true_iff.mp ex).2)
  replace ex := (Bool.and_eq_true_iff.mp ex).1
  obtain ⟨eb_InvalidShare, so_InvalidShare, nb_InvalidShare⟩ := clW_ok (show clW K "InvalidShare" "share" 11 rowsV "ValueError.__new__" = true from (Bool.and_eq_true_iff.mp ex).2)
  replace ex := (Bool.and_eq_true_iff.mp ex).1
  obtain ⟨eb_InvalidPattern, so_InvalidPattern, nb_InvalidPattern⟩ := clW_ok (show clW K "InvalidPattern" "index" 10 rowsV "ValueError.__new__" = true from (Bool.and_eq_true_iff.mp ex).2)
  replace ex := (Bool.and_eq_true_iff.mp ex).1
  obtain ⟨eb_InvalidRecord, so_InvalidRecord, nb_InvalidRecord⟩ := clW_ok (show clW K "InvalidRecord" "index" 9 rowsV "ValueError.__new__" = true from (Bool.and_eq_true_iff.mp ex).2)
  replace ex := (Bool.and_eq_true_iff.mp ex).1
  obtain ⟨eb_InvalidWishes, so_InvalidWishes, nb_InvalidWishes⟩ := clW_ok (show clW K "InvalidWishes" "index" 8 rowsV "ValueError.__new__" = true from (Bool.and_eq_true_iff.mp ex).2)
  replace ex := (Bool.and_eq_true_iff.mp ex).1
  obtain ⟨eb_InvalidHeights, so_InvalidHeights, nb_InvalidHeights⟩ := clW_ok (show clW K "InvalidHeights" "index" 7 rowsV "ValueError.__new__" = true from (Bool.and_eq_true_iff.mp ex).2)
  replace ex := (Bool.and_eq_true_iff.mp ex).1
  obtain ⟨eb_InvalidText, so_InvalidText, nb_InvalidText⟩ := clW_ok (show clW K "InvalidText" "text" 6 rowsV "ValueError.__new__" = true from (Bool.and_eq_true_iff.mp ex).2)
  replace ex := (Bool.and_eq_true_iff.mp ex).1
  obtain ⟨eb_InvalidProgram, so_InvalidProgram, nb_InvalidProgram⟩ := clW_ok (show clW K "InvalidProgram" "index" 5 rowsV "ValueError.__new__" = true from (Bool.and_eq_true_iff.mp ex).2)
  replace ex := (Bool.and_eq_true_iff.mp ex).1
  obtain ⟨eb_InvalidSize, so_InvalidSize, nb_InvalidSize⟩ := clW_ok (show clW K "InvalidSize" "size" 4 rowsV "ValueError.__new__" = true from (Bool.and_eq_true_iff.mp ex).2)
  replace ex := (Bool.and_eq_true_iff.mp ex).1
  obtain ⟨eb_InvalidWord, so_InvalidWord, nb_InvalidWord⟩ := clW_ok (show clW K "InvalidWord" "index" 3 rowsV "ValueError.__new__" = true from (Bool.and_eq_true_iff.mp ex).2)
  replace ex := (Bool.and_eq_true_iff.mp ex).1
  obtain ⟨eb_InvalidKind, so_InvalidKind, nb_InvalidKind⟩ := clW_ok (show clW K "InvalidKind" "kind" 2 rowsV "ValueError.__new__" = true from (Bool.and_eq_true_iff.mp ex).2)
  replace ex := (Bool.and_eq_true_iff.mp ex).1
  obtain ⟨eb_InvalidNumber, so_InvalidNumber, nb_InvalidNumber⟩ := clW_ok (show clW K "InvalidNumber" "number" 1 rowsV "ValueError.__new__" = true from (Bool.and_eq_true_iff.mp ex).2)
  replace ex := (Bool.and_eq_true_iff.mp ex).1
  obtain ⟨eb_InvalidRow, so_InvalidRow, nb_InvalidRow⟩ := clW_ok (show clW K "InvalidRow" "index" 0 rowsV "ValueError.__new__" = true from (Bool.and_eq_true_iff.mp ex).2)
  replace ex := (Bool.and_eq_true_iff.mp ex).1
  have D__law_cell : Df K mg "_law_cell" s__law_cell := Df.of X G c 0 rfl rfl
  have D__law_pool : Df K mg "_law_pool" s__law_pool := Df.of X G c 1 rfl rfl
  have D__law_draw : Df K mg "_law_draw" s__law_draw := Df.of X G c 2 rfl rfl
  have D__law_sort : Df K mg "_law_sort" s__law_sort := Df.of X G c 3 rfl rfl
  have D__law_first : Df K mg "_law_first" s__law_first := Df.of X G c 4 rfl rfl
  have D__law_second : Df K mg "_law_second" s__law_second := Df.of X G c 5 rfl rfl
  have D__law_third : Df K mg "_law_third" s__law_third := Df.of X G c 6 rfl rfl
  have D__law_right : Df K mg "_law_right" s__law_right := Df.of X G c 7 rfl rfl
  have D_law : Df K mg "law" s_law := Df.of X G c 8 rfl rfl
  have m_len : mg "len" = none := He.free_ok X G (c.fact 9 (f := .free "len") rfl)
  have m_abs : mg "abs" = none := He.free_ok X G (c.fact 10 (f := .free "abs") rfl)
  have m_divmod : mg "divmod" = none := He.free_ok X G (c.fact 11 (f := .free "divmod") rfl)
  have m_isinstance : mg "isinstance" = none := He.free_ok X G (c.fact 12 (f := .free "isinstance") rfl)
  have m_ValueError : mg "ValueError" = none := He.free_ok X G (c.fact 13 (f := .free "ValueError") rfl)
  have m_LookupError : mg "LookupError" = none := He.free_ok X G (c.fact 14 (f := .free "LookupError") rfl)
  have m_ArithmeticError : mg "ArithmeticError" = none := He.free_ok X G (c.fact 15 (f := .free "ArithmeticError") rfl)
  have m_all : mg "all" = none := He.free_ok X G (c.fact 16 (f := .free "all") rfl)
  have m_any : mg "any" = none := He.free_ok X G (c.fact 17 (f := .free "any") rfl)
  have m_list : mg "list" = none := He.free_ok X G (c.fact 18 (f := .free "list") rfl)
  have m_range : mg "range" = none := He.free_ok X G (c.fact 19 (f := .free "range") rfl)
  have m_max : mg "max" = none := He.free_ok X G (c.fact 20 (f := .free "max") rfl)
  have m_min : mg "min" = none := He.free_ok X G (c.fact 21 (f := .free "min") rfl)
  have m_KeyError : mg "KeyError" = none := He.free_ok X G (c.fact 22 (f := .free "KeyError") rfl)
  have m_IndexError : mg "IndexError" = none := He.free_ok X G (c.fact 23 (f := .free "IndexError") rfl)
  have m_OverflowError : mg "OverflowError" = none := He.free_ok X G (c.fact 24 (f := .free "OverflowError") rfl)
  have m_ZeroDivisionError : mg "ZeroDivisionError" = none := He.free_ok X G (c.fact 25 (f := .free "ZeroDivisionError") rfl)
  have m_repr : mg "repr" = none := He.free_ok X G (c.fact 26 (f := .free "repr") rfl)
  obtain ⟨t_MOST_PEOPLE, g_MOST_PEOPLE⟩ := He.int_ok X G (c.fact 27 (f := .int "MOST_PEOPLE" 12) rfl)
  obtain ⟨t_SMALL, g_SMALL⟩ := He.int_ok X G (c.fact 28 (f := .int "SMALL" 8) rfl)
  obtain ⟨t_MOST_LETTERS, g_MOST_LETTERS⟩ := He.int_ok X G (c.fact 29 (f := .int "MOST_LETTERS" 400) rfl)
  obtain ⟨t_MOST_TIMES, g_MOST_TIMES⟩ := He.int_ok X G (c.fact 30 (f := .int "MOST_TIMES" 1000000000000000000000000000000) rfl)
  obtain ⟨t_MOST_DEEDS, g_MOST_DEEDS⟩ := He.int_ok X G (c.fact 31 (f := .int "MOST_DEEDS" 2000) rfl)
  have g_err : ErrG K mg := ⟨fun y hy => He.glo_ok X G (fact_in c (List.mem_append_right _ (List.mem_map_of_mem hy)))⟩
  have g_PassError := g_err.at_ "PassError" (by decide +kernel)
  have g_FindError := g_err.at_ "FindError" (by decide +kernel)
  have g_LimitError := g_err.at_ "LimitError" (by decide +kernel)
  have e0_OtherPersons := E0C.of PySem.F.excBase_LookupError (g_err.at_ "OtherPersons" (by decide +kernel)) en_OtherPersons
  have e0_NoOrder := E0C.of PySem.F.excBase_LookupError (g_err.at_ "NoOrder" (by decide +kernel)) en_NoOrder
  have e0_NothingToUndo := E0C.of PySem.F.excBase_LookupError (g_err.at_ "NothingToUndo" (by decide +kernel)) en_NothingToUndo
  have e0_LastPerson := E0C.of PySem.F.excBase_ArithmeticError (g_err.at_ "LastPerson" (by decide +kernel)) en_LastPerson
  obtain ⟨fd, F, hF⟩ := ClG.lastT (P := P) (w := w) (k := 5) (ps := ["_law_script"]) (sp := spLaw K) (Ok := fun base => TabsB K mg base tsL) D_law hfa fun base _ => by
    have ek_InvalidRow := ek_of (P := P) (w := w) (base := base) (st := s_InvalidRow) PySem.F.store_ValueError PySem.F.excBase_ValueError X G c 9 rfl (g_err.at_ "InvalidRow" (by decide +kernel)) eb_InvalidRow si_InvalidRow (fun _ _ _ _ _ _ us hl => match us, hl with | [_, _], _ => rfl) (fun _ _ _ _ _ _ us ws h1 h2 => match us, ws, h1, h2 with | [_], [_], _, _ => rfl) hb_InvalidRow
    have ek_InvalidNumber := ek_of (P := P) (w := w) (base := base) (st := s_InvalidNumber) PySem.F.store_ValueError PySem.F.excBase_ValueError X G c 10 rfl (g_err.at_ "InvalidNumber" (by decide +kernel)) eb_InvalidNumber si_InvalidNumber (fun _ _ _ _ _ _ us hl => match us, hl with | [_, _], _ => rfl) (fun _ _ _ _ _ _ us ws h1 h2 => match us, ws, h1, h2 with | [_], [_], _, _ => rfl) hb_InvalidNumber
    have ek_InvalidKind := ek_of (P := P) (w := w) (base := base) (st := s_InvalidKind) PySem.F.store_ValueError PySem.F.excBase_ValueError X G c 11 rfl (g_err.at_ "InvalidKind" (by decide +kernel)) eb_InvalidKind si_InvalidKind (fun _ _ _ _ _ _ us hl => match us, hl with | [_, _], _ => rfl) (fun _ _ _ _ _ _ us ws h1 h2 => match us, ws, h1, h2 with | [_], [_], _, _ => rfl) hb_InvalidKind
    have ek_InvalidWord := ek_of (P := P) (w := w) (base := base) (st := s_InvalidWord) PySem.F.store_ValueError PySem.F.excBase_ValueError X G c 12 rfl (g_err.at_ "InvalidWord" (by decide +kernel)) eb_InvalidWord si_InvalidWord (fun _ _ _ _ _ _ us hl => match us, hl with | [_, _], _ => rfl) (fun _ _ _ _ _ _ us ws h1 h2 => match us, ws, h1, h2 with | [_], [_], _, _ => rfl) hb_InvalidWord
    have ek_InvalidSize := ek_of (P := P) (w := w) (base := base) (st := s_InvalidSize) PySem.F.store_ValueError PySem.F.excBase_ValueError X G c 13 rfl (g_err.at_ "InvalidSize" (by decide +kernel)) eb_InvalidSize si_InvalidSize (fun _ _ _ _ _ _ us hl => match us, hl with | [_, _], _ => rfl) (fun _ _ _ _ _ _ us ws h1 h2 => match us, ws, h1, h2 with | [_], [_], _, _ => rfl) hb_InvalidSize
    have ek_InvalidProgram := ek_of (P := P) (w := w) (base := base) (st := s_InvalidProgram) PySem.F.store_ValueError PySem.F.excBase_ValueError X G c 14 rfl (g_err.at_ "InvalidProgram" (by decide +kernel)) eb_InvalidProgram si_InvalidProgram (fun _ _ _ _ _ _ us hl => match us, hl with | [_, _], _ => rfl) (fun _ _ _ _ _ _ us ws h1 h2 => match us, ws, h1, h2 with | [_], [_], _, _ => rfl) hb_InvalidProgram
    have ek_InvalidText := ek_of (P := P) (w := w) (base := base) (st := s_InvalidText) PySem.F.store_ValueError PySem.F.excBase_ValueError X G c 15 rfl (g_err.at_ "InvalidText" (by decide +kernel)) eb_InvalidText si_InvalidText (fun _ _ _ _ _ _ us hl => match us, hl with | [_, _], _ => rfl) (fun _ _ _ _ _ _ us ws h1 h2 => match us, ws, h1, h2 with | [_], [_], _, _ => rfl) hb_InvalidText
    have ek_InvalidHeights := ek_of (P := P) (w := w) (base := base) (st := s_InvalidHeights) PySem.F.store_ValueError PySem.F.excBase_ValueError X G c 16 rfl (g_err.at_ "InvalidHeights" (by decide +kernel)) eb_InvalidHeights si_InvalidHeights (fun _ _ _ _ _ _ us hl => match us, hl with | [_, _], _ => rfl) (fun _ _ _ _ _ _ us ws h1 h2 => match us, ws, h1, h2 with | [_], [_], _, _ => rfl) hb_InvalidHeights
    have ek_InvalidWishes := ek_of (P := P) (w := w) (base := base) (st := s_InvalidWishes) PySem.F.store_ValueError PySem.F.excBase_ValueError X G c 17 rfl (g_err.at_ "InvalidWishes" (by decide +kernel)) eb_InvalidWishes si_InvalidWishes (fun _ _ _ _ _ _ us hl => match us, hl with | [_, _], _ => rfl) (fun _ _ _ _ _ _ us ws h1 h2 => match us, ws, h1, h2 with | [_], [_], _, _ => rfl) hb_InvalidWishes
    have ek_InvalidRecord := ek_of (P := P) (w := w) (base := base) (st := s_InvalidRecord) PySem.F.store_ValueError PySem.F.excBase_ValueError X G c 18 rfl (g_err.at_ "InvalidRecord" (by decide +kernel)) eb_InvalidRecord si_InvalidRecord (fun _ _ _ _ _ _ us hl => match us, hl with | [_, _], _ => rfl) (fun _ _ _ _ _ _ us ws h1 h2 => match us, ws, h1, h2 with | [_], [_], _, _ => rfl) hb_InvalidRecord
    have ek_InvalidPattern := ek_of (P := P) (w := w) (base := base) (st := s_InvalidPattern) PySem.F.store_ValueError PySem.F.excBase_ValueError X G c 19 rfl (g_err.at_ "InvalidPattern" (by decide +kernel)) eb_InvalidPattern si_InvalidPattern (fun _ _ _ _ _ _ us hl => match us, hl with | [_, _], _ => rfl) (fun _ _ _ _ _ _ us ws h1 h2 => match us, ws, h1, h2 with | [_], [_], _, _ => rfl) hb_InvalidPattern
    have ek_InvalidShare := ek_of (P := P) (w := w) (base := base) (st := s_InvalidShare) PySem.F.store_ValueError PySem.F.excBase_ValueError X G c 20 rfl (g_err.at_ "InvalidShare" (by decide +kernel)) eb_InvalidShare si_InvalidShare (fun _ _ _ _ _ _ us hl => match us, hl with | [_, _], _ => rfl) (fun _ _ _ _ _ _ us ws h1 h2 => match us, ws, h1, h2 with | [_], [_], _, _ => rfl) hb_InvalidShare
    have ek_InvalidPeople := ek_of (P := P) (w := w) (base := base) (st := s_InvalidPeople) PySem.F.store_ValueError PySem.F.excBase_ValueError X G c 21 rfl (g_err.at_ "InvalidPeople" (by decide +kernel)) eb_InvalidPeople si_InvalidPeople (fun _ _ _ _ _ _ us hl => match us, hl with | [_, _], _ => rfl) (fun _ _ _ _ _ _ us ws h1 h2 => match us, ws, h1, h2 with | [_], [_], _, _ => rfl) hb_InvalidPeople
    have ek_InvalidName := ek_of (P := P) (w := w) (base := base) (st := s_InvalidName) PySem.F.store_ValueError PySem.F.excBase_ValueError X G c 22 rfl (g_err.at_ "InvalidName" (by decide +kernel)) eb_InvalidName si_InvalidName (fun _ _ _ _ _ _ us hl => match us, hl with | [_, _], _ => rfl) (fun _ _ _ _ _ _ us ws h1 h2 => match us, ws, h1, h2 with | [_], [_], _, _ => rfl) hb_InvalidName
    have ek_InvalidHeight := ek_of (P := P) (w := w) (base := base) (st := s_InvalidHeight) PySem.F.store_ValueError PySem.F.excBase_ValueError X G c 23 rfl (g_err.at_ "InvalidHeight" (by decide +kernel)) eb_InvalidHeight si_InvalidHeight (fun _ _ _ _ _ _ us hl => match us, hl with | [_, _], _ => rfl) (fun _ _ _ _ _ _ us ws h1 h2 => match us, ws, h1, h2 with | [_], [_], _, _ => rfl) hb_InvalidHeight
    have ek_InvalidDeed := ek_of (P := P) (w := w) (base := base) (st := s_InvalidDeed) PySem.F.store_ValueError PySem.F.excBase_ValueError X G c 24 rfl (g_err.at_ "InvalidDeed" (by decide +kernel)) eb_InvalidDeed si_InvalidDeed (fun _ _ _ _ _ _ us hl => match us, hl with | [_, _], _ => rfl) (fun _ _ _ _ _ _ us ws h1 h2 => match us, ws, h1, h2 with | [_], [_], _, _ => rfl) hb_InvalidDeed
    have ek_InvalidCommand := ek_of (P := P) (w := w) (base := base) (st := s_InvalidCommand) PySem.F.store_ValueError PySem.F.excBase_ValueError X G c 25 rfl (g_err.at_ "InvalidCommand" (by decide +kernel)) eb_InvalidCommand si_InvalidCommand (fun _ _ _ _ _ _ us hl => match us, hl with | [_, _], _ => rfl) (fun _ _ _ _ _ _ us ws h1 h2 => match us, ws, h1, h2 with | [_], [_], _, _ => rfl) hb_InvalidCommand
    have ek_NotFinal := ek_of (P := P) (w := w) (base := base) (st := s_NotFinal) PySem.F.store_LookupError PySem.F.excBase_LookupError X G c 26 rfl (g_err.at_ "NotFinal" (by decide +kernel)) eb_NotFinal si_NotFinal (fun _ _ _ _ _ _ us hl => match us, hl with | [_, _], _ => rfl) (fun _ _ _ _ _ _ us ws h1 h2 => match us, ws, h1, h2 with | [_], [_], _, _ => rfl) hb_NotFinal
    have ek_UnknownName := ek_of (P := P) (w := w) (base := base) (st := s_UnknownName) PySem.F.store_LookupError PySem.F.excBase_LookupError X G c 27 rfl (g_err.at_ "UnknownName" (by decide +kernel)) eb_UnknownName si_UnknownName (fun _ _ _ _ _ _ us hl => match us, hl with | [_, _], _ => rfl) (fun _ _ _ _ _ _ us ws h1 h2 => match us, ws, h1, h2 with | [_], [_], _, _ => rfl) hb_UnknownName
    have ek_UnknownHeight := ek_of (P := P) (w := w) (base := base) (st := s_UnknownHeight) PySem.F.store_LookupError PySem.F.excBase_LookupError X G c 28 rfl (g_err.at_ "UnknownHeight" (by decide +kernel)) eb_UnknownHeight si_UnknownHeight (fun _ _ _ _ _ _ us hl => match us, hl with | [_, _], _ => rfl) (fun _ _ _ _ _ _ us ws h1 h2 => match us, ws, h1, h2 with | [_], [_], _, _ => rfl) hb_UnknownHeight
    have ek_NameTaken := ek_of (P := P) (w := w) (base := base) (st := s_NameTaken) PySem.F.store_LookupError PySem.F.excBase_LookupError X G c 29 rfl (g_err.at_ "NameTaken" (by decide +kernel)) eb_NameTaken si_NameTaken (fun _ _ _ _ _ _ us hl => match us, hl with | [_, _], _ => rfl) (fun _ _ _ _ _ _ us ws h1 h2 => match us, ws, h1, h2 with | [_], [_], _, _ => rfl) hb_NameTaken
    have ek_HeightTaken := ek_of (P := P) (w := w) (base := base) (st := s_HeightTaken) PySem.F.store_LookupError PySem.F.excBase_LookupError X G c 30 rfl (g_err.at_ "HeightTaken" (by decide +kernel)) eb_HeightTaken si_HeightTaken (fun _ _ _ _ _ _ us hl => match us, hl with | [_, _], _ => rfl) (fun _ _ _ _ _ _ us ws h1 h2 => match us, ws, h1, h2 with | [_], [_], _, _ => rfl) hb_HeightTaken
    have ek_TooManySeats := ek_of (P := P) (w := w) (base := base) (st := s_TooManySeats) PySem.F.store_ArithmeticError PySem.F.excBase_ArithmeticError X G c 31 rfl (g_err.at_ "TooManySeats" (by decide +kernel)) eb_TooManySeats si_TooManySeats (fun _ _ _ _ _ _ us hl => match us, hl with | [_, _], _ => rfl) (fun _ _ _ _ _ _ us ws h1 h2 => match us, ws, h1, h2 with | [_], [_], _, _ => rfl) hb_TooManySeats
    have ek_TooManyPeople := ek_of (P := P) (w := w) (base := base) (st := s_TooManyPeople) PySem.F.store_ArithmeticError PySem.F.excBase_ArithmeticError X G c 32 rfl (g_err.at_ "TooManyPeople" (by decide +kernel)) eb_TooManyPeople si_TooManyPeople (fun _ _ _ _ _ _ us hl => match us, hl with | [_, _], _ => rfl) (fun _ _ _ _ _ _ us ws h1 h2 => match us, ws, h1, h2 with | [_], [_], _, _ => rfl) hb_TooManyPeople
    have ek_WordTooShort := ek_of (P := P) (w := w) (base := base) (st := s_WordTooShort) PySem.F.store_ArithmeticError PySem.F.excBase_ArithmeticError X G c 33 rfl (g_err.at_ "WordTooShort" (by decide +kernel)) eb_WordTooShort si_WordTooShort (fun _ _ _ _ _ _ us hl => match us, hl with | [_, _], _ => rfl) (fun _ _ _ _ _ _ us ws h1 h2 => match us, ws, h1, h2 with | [_], [_], _, _ => rfl) hb_WordTooShort
    have ek_TooManyDeeds := ek_of (P := P) (w := w) (base := base) (st := s_TooManyDeeds) PySem.F.store_ArithmeticError PySem.F.excBase_ArithmeticError X G c 34 rfl (g_err.at_ "TooManyDeeds" (by decide +kernel)) eb_TooManyDeeds si_TooManyDeeds (fun _ _ _ _ _ _ us hl => match us, hl with | [_, _], _ => rfl) (fun _ _ _ _ _ _ us ws h1 h2 => match us, ws, h1, h2 with | [_], [_], _, _ => rfl) hb_TooManyDeeds
    have eks : EksOk P w K mg base := fun p hp => by
      simp only [List.mem_cons, List.not_mem_nil, or_false] at hp
      rcases hp with rfl | rfl | rfl | rfl | rfl | rfl | rfl | rfl | rfl | rfl | rfl | rfl | rfl | rfl | rfl | rfl | rfl | rfl | rfl | rfl | rfl | rfl | rfl | rfl | rfl | rfl
      · exact ek_InvalidRow
      · exact ek_InvalidNumber
      · exact ek_InvalidKind
      · exact ek_InvalidWord
      · exact ek_InvalidSize
      · exact ek_InvalidProgram
      · exact ek_InvalidText
      · exact ek_InvalidHeights
      · exact ek_InvalidWishes
      · exact ek_InvalidRecord
      · exact ek_InvalidPattern
      · exact ek_InvalidShare
      · exact ek_InvalidPeople
      · exact ek_InvalidName
      · exact ek_InvalidHeight
      · exact ek_InvalidDeed
      · exact ek_InvalidCommand
      · exact ek_NotFinal
      · exact ek_UnknownName
      · exact ek_UnknownHeight
      · exact ek_NameTaken
      · exact ek_HeightTaken
      · exact ek_TooManySeats
      · exact ek_TooManyPeople
      · exact ek_WordTooShort
      · exact ek_TooManyDeeds
    have sos : SosOk K := fun p hp => by
      simp only [List.mem_cons, List.not_mem_nil, or_false] at hp
      rcases hp with rfl | rfl | rfl | rfl | rfl | rfl | rfl | rfl | rfl | rfl | rfl | rfl | rfl | rfl | rfl | rfl | rfl | rfl | rfl | rfl | rfl | rfl | rfl | rfl | rfl | rfl | rfl | rfl | rfl | rfl
      · exact ⟨so_InvalidRow, nb_InvalidRow⟩
      · exact ⟨so_InvalidNumber, nb_InvalidNumber⟩
      · exact ⟨so_InvalidKind, nb_InvalidKind⟩
      · exact ⟨so_InvalidWord, nb_InvalidWord⟩
      · exact ⟨so_InvalidSize, nb_InvalidSize⟩
      · exact ⟨so_InvalidProgram, nb_InvalidProgram⟩
      · exact ⟨so_InvalidText, nb_InvalidText⟩
      · exact ⟨so_InvalidHeights, nb_InvalidHeights⟩
      · exact ⟨so_InvalidWishes, nb_InvalidWishes⟩
      · exact ⟨so_InvalidRecord, nb_InvalidRecord⟩
      · exact ⟨so_InvalidPattern, nb_InvalidPattern⟩
      · exact ⟨so_InvalidShare, nb_InvalidShare⟩
      · exact ⟨so_InvalidPeople, nb_InvalidPeople⟩
      · exact ⟨so_InvalidName, nb_InvalidName⟩
      · exact ⟨so_InvalidHeight, nb_InvalidHeight⟩
      · exact ⟨so_InvalidDeed, nb_InvalidDeed⟩
      · exact ⟨so_InvalidCommand, nb_InvalidCommand⟩
      · exact ⟨so_NotFinal, nb_NotFinal⟩
      · exact ⟨so_OtherPersons, nb_OtherPersons⟩
      · exact ⟨so_UnknownName, nb_UnknownName⟩
      · exact ⟨so_UnknownHeight, nb_UnknownHeight⟩
      · exact ⟨so_NoOrder, nb_NoOrder⟩
      · exact ⟨so_NameTaken, nb_NameTaken⟩
      · exact ⟨so_HeightTaken, nb_HeightTaken⟩
      · exact ⟨so_NothingToUndo, nb_NothingToUndo⟩
      · exact ⟨so_TooManySeats, nb_TooManySeats⟩
      · exact ⟨so_TooManyPeople, nb_TooManyPeople⟩
      · exact ⟨so_WordTooShort, nb_WordTooShort⟩
      · exact ⟨so_TooManyDeeds, nb_TooManyDeeds⟩
      · exact ⟨so_LastPerson, nb_LastPerson⟩
    have c_draw := ok_draw (P := P) (w := w) (base := base) D__law_draw m_divmod
    have c_sort := ok_sortk (P := P) (w := w) (base := base) D__law_sort g_err m_isinstance m_ValueError m_LookupError m_ArithmeticError
    have c_right := ok_right D__law_right c_draw (ok_first D__law_first eks sos) (ok_second D__law_second eks sos) (ok_third D__law_third eks sos) c_sort sos e0_OtherPersons e0_NoOrder e0_NothingToUndo e0_LastPerson m_list m_range m_any m_all m_isinstance m_repr m_len m_KeyError m_IndexError m_OverflowError m_ZeroDivisionError
    exact ok_law D_law c_right (ok_pool D__law_pool m_abs) (ok_cell D__law_cell m_len) g_MOST_PEOPLE g_SMALL g_MOST_LETTERS g_MOST_TIMES g_MOST_DEEDS m_len m_all m_range m_max m_min
  exact ⟨fd, fun s v => FunD.bindsA (ps := ["_law_script"]) F (fun _ _ _ _ _ _ us hl => match us, hl with | [_], _ => rfl) s [v] rfl, hF⟩
end Lp
open PySem PySem.W PySem.Calls PyProof.Rows
theorem PySem.Challenge.cw_lastpasses_k92_limits_and_errors_holds : PySem.Challenge.rw_lastpasses_k92_limits_and_errors.Holds := by
  w_on; o_law
  refine HandSHeadRun.head_any (r := OpenLaw.row PySem.Challenge.rw_lastpasses_k92_limits_and_errors) (q := view (OpenLaw.row PySem.Challenge.rw_lastpasses_k92_limits_and_errors).prog [48]) (H := Lp.hk) (ob := Lp.ob) (M := 20000) (loose := Lp.loose) (d := HandSHeadRun.topDef (OpenLaw.row PySem.Challenge.rw_lastpasses_k92_limits_and_errors).prog 48) (kwd := []) Lp.ob_eq
    (by kernel_rfl) (fun s => by kernel_rfl) Lp.run (by kernel_rfl) (by kernel_rfl) (by kernel_rfl) (by rfl) (by first | assumption | decide +kernel) (by decide +kernel) ⟨rfl, rfl, rfl, rfl, rfl, by decide +kernel⟩ ?hw ?hc
  case hw => w_witness2
  case hc =>
    refine Lp.walkT (ts := Lp.tsL) (l := PySem.Challenge.rw_lastpasses_k92_limits_and_errors) (n := 63) (k := Lp.lawLevel) (x := "_law_script") rfl (by decide) (by kernel_rfl) ⟨rfl, by decide, by decide⟩ ?F
    intro w mg fa h Y G hmg0
    obtain ⟨K, KX, c, ex, tk⟩ := Y
    have hmg : mg ("law" : PySem.Str) = some (.ref fa) := by
      have e : (HandSHeadRun.topDef (OpenLaw.row PySem.Challenge.rw_lastpasses_k92_limits_and_errors).prog 48).name = ("law" : PySem.Str) := by kernel_rfl
      rw [← e]
      exact hmg0
    obtain ⟨fd, hb, hF⟩ := Lp.law_facts (P := (PySem.Challenge.rw_lastpasses_k92_limits_and_errors).prog) (w := w) KX G hmg c ex tk
    exact ⟨K, fd, Lp.spLaw K, KX, tk, hb, fun H a ns hl hT hS => ⟨a, ns, rfl, hS, hl, fun _ => rfl⟩, hF⟩
