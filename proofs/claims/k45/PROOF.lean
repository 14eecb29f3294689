import PyProof.Rows.All
import Wide.All
import OpenK.AllK
import Wide.FinOn
import KE.GoesEnum
import HandS.ForMost
import HandS.Conv
import HandS.Defaults
import HandS.Walk
import HandS.WideBits
import HandS.IsInst
import HandS.TupAny
import HandS.Style
import HandS.TupLe
import HandS.Head0
import HandS.Head1
import HandS.Head2
import HandS.HeadEnd
import HandS.HeadHook1
import HandS.HeadHook2
import HandS.Exc
import HandS.ExcInit
import HandS.ExcOwn
import HandS.ExcIs
import HandS.ExcField
import KE.KTryMore
import KE.KExcInit
import HandS.FStrTup
import HandS.Codes
import HandS.TupMul
import HandS.ReplaceLit
import HandS.ReplaceList
import HandS.Strs
import KE.KRevSl
import HandS.Rev
import KE.DataMinMax
import HandS.Wide
import HandS.SetFor
import HandS.TupLen
import HandS.RevTup
import PyProof.JoinWalk
import KE.BitLaws
import PyProof.Rows.TupDisplay
import HandS.TupSets
import HandS.Deep
import HandS.MakeKwOnly
import HandS.SortKw
import KE.DatumOrd
import HandS.HotCalls
import KE.KExcIs
import PySem.Challenge.RW_lastpasses_k45_wishes_refused
set_option Elab.async false
set_option linter.all false
set_option maxRecDepth 100000
set_option maxHeartbeats 4000000
namespace Lp
open PySem PySem.Spec PyProof.Rows L2
/-! ### enumerate of a tuple -/
theorem meetsEnum1 {v : Value} {o : Obj} {C : Heap → Prop} (B : Begins v o C) :
    Meets (Builtin.«enumerate.__new__» ⟨[.type "enumerate", v], []⟩) (fun _ R s => C s.heap ∧
      R (.ok (.ret (.ref (s.heap.push o).objs.size)))
        { s with heap := (s.heap.push o).push { cls := .type "enumerate", data := .fields #[.none, .bool false, .ref s.heap.objs.size, rawInt 0, .none, .none] } }) :=
  .of_wp fun prog w A R s hc => by
    obtain ⟨hp, gn, dn, tk, os⟩ := s
    obtain ⟨c1, hc⟩ := hc
    have hsub := sub_enumerate
    have qi : ∀ {A2 : Around} {E2 : Value → Shared → Prop} {Q2 : Value → Shared → Prop}, Q2 (.ref hp.objs.size) ⟨hp.push o, gn, dn, tk, os⟩ → wpAny (model prog w) A2 (pyIter v) Q2 E2 ⟨hp, gn, dn, tk, os⟩ :=
      fun q => B.iter prog w _ _ ⟨hp, gn, dn, tk, os⟩ _ c1 q
    wp_walk using qi
    refine wpAny_stack_any fun stk => wpAny_pure ?_
    split
    · rename_i cc _ _ _ _ _
      cases (cc == Value.type "enumerate")
      · wp_walk using qi
        exact ⟨_, rfl, hc⟩
      · wp_walk using qi
        exact ⟨_, rfl, hc⟩
    · wp_walk using qi
      exact ⟨_, rfl, hc⟩
section
variable {prog : Program} {w : World} {A : Around} {E : Value → Shared → Prop} {s : Shared}
theorem callEnum1 {v : Value} {o : Obj} {C : Heap → Prop} {Q : Value → Shared → Prop} (B : Begins v o C) (c1 : C s.heap)
    (hq : ∀ h2, IsEnum h2 (s.heap.objs.size + 1) s.heap.objs.size 0 .none → h2.get? s.heap.objs.size = some o → h2.objs.size = s.heap.objs.size + 2 →
      (∀ b u, s.heap.get? b = some u → h2.get? b = some u) → Q (.ref (s.heap.objs.size + 1)) { s with heap := h2 }) :
    wpAny (model prog w) A (call (.type "enumerate") [v]) Q E s := by
  refine callType_new F.called_enumerate (by decide) (F.typeCall_enumerate_1 _) (F.newCall_enumerate_1 _) (fun ob => F.args_object_init_2 ob _) F.entry_enumerate_new (meetsEnum1 B) ⟨c1, ?_⟩
  have sz : (s.heap.push o).objs.size = s.heap.objs.size + 1 := Heap.size_push ..
  show _ ∧ _
  rw [sz]
  have en : IsEnum ((s.heap.push o).push { cls := .type "enumerate", data := .fields #[.none, .bool false, .ref s.heap.objs.size, rawInt 0, .none, .none] }) (s.heap.objs.size + 1) s.heap.objs.size 0 .none := by
    have z := Heap.get?_push_size (s.heap.push o) (o := { cls := .type "enumerate", data := .fields #[.none, .bool false, .ref s.heap.objs.size, rawInt 0, .none, .none] }) rfl
    rw [sz] at z
    exact z
  refine ⟨⟨_, en, rfl⟩, hq _ en (Heap.get?_push_of_some _ (Heap.get?_push_size _ B.free)) (by rw [Heap.size_push, sz]) fun b u x => Heap.get?_push_of_some _ (Heap.get?_push_of_some _ x)⟩
end
/-- what is fed at each place, each in a new pair with its number -/
def ItE (go stop : Nat → Hp → Prop) (is : Nat → Hp → V → Prop) : It where
  go := go
  stop := stop
  yld := fun i H v H' => ∃ T x, v = .ref T ∧ H T = none ∧ is i H x ∧ H' = upd H T (.tup [.int (i : Nat), x])
/-- the iterator at `it` (its state at place i: st i) feeds the enumerate at e -/
structure Feed (P : Program) (w : World) (K : PySem.W.Frag) (e it : Addr) (st : Nat → Heap → Prop) (go stop : Nat → Hp → Prop) (is : Nat → Hp → V → Prop) : Prop where
  apart : e ≠ it
  lives : ∀ i h, st i h → ∃ o, h.get? it = some o ∧ ∀ v, o.data ≠ .cell v
  stays : ∀ i h g, st i h → (∀ o, h.get? it = some o → g.get? it = some o) → st i g
  more : ∀ X : Cx, X.prog = P → X.w = w → X.K = K → X.calm = true → ∀ i pins s σ H, Inv X pins σ H s → st i s.heap → go i H →
    ∃ n fp Y S, Draws P w X.A.in1 it fp n Y S ∧ i < n ∧ S i s.heap ∧ e ∉ fp ∧ (∀ h, S (i + 1) h → st (i + 1) h) ∧ ∀ v, Y i v → ∃ x, RelV x v ∧ is i H x
  ends : ∀ X : Cx, X.prog = P → X.w = w → X.K = K → X.calm = true → ∀ i pins s σ H, Inv X pins σ H s → st i s.heap → stop i H →
    ∃ fp Y S, Draws P w X.A.in1 it fp i Y S ∧ S i s.heap
theorem turnE {P : Program} {w : World} {K : PySem.W.Frag} {e it : Addr} {st : Nat → Heap → Prop} {go stop : Nat → Hp → Prop} {is : Nat → Hp → V → Prop} (F : Feed P w K e it st go stop is) {l : List Expr} {c : Nat} {q : Pos} :
    Turn P w K (.Tuple l c q) (ItE go stop is) [e, it] e (fun i h => (∃ last, IsEnum h e it ((i : Nat) : Int) last) ∧ st i h) where
  mem := by simp
  obj := by
    rintro i h ⟨⟨last, en⟩, b⟩ x hx
    have two : x = e ∨ x = it := by simpa using hx
    rcases two with rfl | rfl
    · exact ⟨_, en, fun _ z => nomatch z⟩
    · exact F.lives i h b
  keep := by
    rintro i h g ⟨⟨last, en⟩, b⟩ k
    exact ⟨⟨last, k e (by simp) _ en⟩, F.stays i h g b (k it (by simp))⟩
  item := by
    rintro X rfl rfl rfl calm i pins s σ H _ I fr ⟨⟨last, en⟩, b⟩ g
    obtain ⟨n, fp, Y, S, D, lt, at_, out, nxt, val⟩ := F.more X rfl rfl rfl calm i pins s σ H I b g
    refine wpAny_pyNext_enum_itemD D en at_ lt F.apart out fun u h1 tk hu eo at1 pair size old => ⟨_, rfl, ?_⟩
    obtain ⟨x, rx, ix⟩ := val u hu
    have inOld : ∀ {b : Addr} {o : Obj}, s.heap.get? b = some o → b ≠ s.heap.objs.size := fun q z => Nat.lt_irrefl _ (z ▸ Heap.lt_size q)
    have eOld := inOld en
    obtain ⟨oi, hi, _⟩ := F.lives i s.heap b
    have iOld := inOld hi
    refine wpAny_letOwnedTupleGo_enum (s := { s with heap := h1, toks := tk + 1 }) eo fun h2 en2 same => ?_
    have pair2 : h2.get? s.heap.objs.size = some { cls := .type "tuple", data := .seq #[.int i tk, u] } := (same.2 _ eOld.symm).trans pair
    have rest : ∀ b o, b ∉ [e, it] → s.heap.get? b = some o → h2.get? b = some o := fun b o nb q => by
      have hb : b ≠ e ∧ b ≠ it := by simpa using nb
      rw [same.2 b hb.1]
      exact old b o hb.1 hb.2 q
    have J := I.turnedNew (t' := tk + 1) (h' := h2) (ob := .tup [.int (i : Nat), x]) rest fr (Nat.le_refl s.heap.objs.size) ⟨(by decide : 2 ≤ sizeLine), [.int i tk, u], .cons ⟨tk, rfl⟩ (.cons rx .nil), _, pair2, rfl, _, rfl⟩
    refine ⟨.ref s.heap.objs.size, _, J, rfl, ⟨_, x, rfl, I.hok.fresh (Nat.le_refl _), ix, rfl⟩, ⟨⟨u, by push_cast; exact en2⟩, F.stays _ h1 h2 (nxt h1 at1) fun o q => (same.2 it F.apart.symm).trans q⟩, fun y hy => ?_⟩
    have two : y = e ∨ y = it := by simpa using hy
    have yo : y ≠ s.heap.objs.size := by rcases two with rfl | rfl <;> assumption
    rw [upd_ne yo]
    exact (fr y hy).1
  done := by
    rintro X rfl rfl rfl calm i pins s σ H _ I fr ⟨⟨last, en⟩, b⟩ g
    obtain ⟨fp, Y, S, D, at_⟩ := F.ends X rfl rfl rfl calm i pins s σ H I b g
    obtain ⟨u0, u1, _, u3, u4, u5⟩ := fr it (by simp)
    exact wpAny_pyNext_enum_endD D en at_ fun h1 same => ⟨rfl, I.turned (t' := s.toks) (fun b o nb q => same b o nb q) u0 u1 u3 u4 u5⟩
  self := fun _ _ _ _ _ z q => let ⟨⟨_, en⟩, _⟩ := z; wpAny_pyIter_enum en q
/-- for i, x in enumerate(..): n things are fed, Pv holds between the turns -/
theorem walkE {go stop : Nat → Hp → Prop} {is : Nat → Hp → V → Prop} {g : TG} {tb : TS} {D : Ends} {σ : L2.St} {H : Hp} (n : Nat) (Pv : Nat → L2.St → Hp → Prop) (first : Pv 0 σ H) (on : ∀ i σ H, i < n → Pv i σ H → go i H) (off : ∀ σ H, Pv n σ H → stop n H)
    (turn : ∀ i x T σ H, i < n → is i H x → Pv i σ H → H T = none → g (.ref T) σ (upd H T (.tup [.int (i : Nat), x])) fun σ2 H2 => tb { D with nx := Pv (i + 1), ct := Pv (i + 1), bk := D.nx } σ2 H2) (last : ∀ σ H, Pv n σ H → D.nx σ H) :
    tFor (fun _ H R => R (ItE go stop is) H) g tb D σ H := by
  refine ⟨fun i m σ H => i + m = n ∧ Pv i σ H, ⟨n, Nat.zero_add n, first⟩, fun i m σ H z => ?_⟩
  obtain ⟨e, p⟩ := z
  cases m with
  | zero =>
    have : i = n := e
    subst this
    exact .inl ⟨off σ H p, last σ H p⟩
  | succ m =>
    have lt : i < n := by omega
    refine .inr ⟨on i σ H lt p, Pv (i + 1), fun _ _ p2 => ⟨m, Nat.lt_succ_self m, by omega, p2⟩, fun v H2 y => ?_⟩
    obtain ⟨T, x, rfl, new, ix, rfl⟩ := y
    exact turn i x T σ H lt ix p new
/-! #### .. of a tuple -/
def goT (K : PySem.W.Frag) (a : Addr) : Nat → Hp → Prop := fun i H => ∃ (xs : List V) (x : V), SqT K H a xs ∧ xs[i]? = some x
def stopT (K : PySem.W.Frag) (a : Addr) : Nat → Hp → Prop := fun i H => ∃ xs : List V, SqT K H a xs ∧ xs.length ≤ i
def isT (K : PySem.W.Frag) (a : Addr) : Nat → Hp → V → Prop := fun i H x => ∀ xs, SqT K H a xs → xs[i]? = some x
theorem feedT {P : Program} {w : World} {K : PySem.W.Frag} {a e it : Addr} (n1 : e ≠ it) (n2 : a ≠ it) (n3 : a ≠ e) : Feed P w K e it (fun i h => h.IsTupleIter it a i) (goT K a) (stopT K a) (isT K a) where
  apart := n1
  lives := fun i h z => let ⟨o, ho, _, hd⟩ := z; ⟨o, ho, fun v q => by rw [hd] at q; cases q⟩
  stays := fun i h g z k => z.at k
  more := by
    rintro X rfl rfl rfl calm i pins s σ H I at_ ⟨xs, x, hq, hx⟩
    obtain ⟨us, rs, tup, _⟩ := I.tuple hq
    obtain ⟨u, hu, ru⟩ := rs.get hx
    have hu2 : us.toArray[i]? = some u := by simpa using hu
    refine ⟨_, _, _, _, Draws.tuple (A := X.A.in1) (I.ok.hd calm) it a n2 us.toArray, (Array.getElem?_eq_some_iff.mp hu2).1, ⟨at_, tup⟩, by simp [n1, n3.symm], fun h z => z.1, fun v hv => ⟨x, ?_, fun ys hy => ?_⟩⟩
    · rw [Option.some.inj (hv.symm.trans hu2)]
      exact ru
    · rw [I.tuple_inj hy hq]
      exact hx
  ends := by
    rintro X rfl rfl rfl calm i pins s σ H I at_ ⟨xs, hq, hx⟩
    obtain ⟨us, rs, tup, _⟩ := I.tuple hq
    have none_ : us.toArray[i]? = none := by
      rw [Array.getElem?_eq_none_iff, List.size_toArray, ← rs.length]
      exact hx
    exact ⟨[it, a], fun _ _ => False, fun j h => j = i ∧ h.IsTupleIter it a i ∧ h.IsTuple a us.toArray,
      { live := fun _ _ z => let ⟨o, ho, _⟩ := z.2.1; ⟨o, ho⟩
        frame := fun _ _ _ z k => ⟨z.1, z.2.1.at (k it (by simp)), z.2.2.at (k a (by simp))⟩
        item := fun j _ _ _ lt z _ => absurd z.1 (Nat.ne_of_lt lt)
        done := fun _ _ _ z q => wpAny_nextOf_tuple_end (A := X.A.in1) (I.ok.hd calm) z.2.1 z.2.2 none_ q }, rfl, at_, tup⟩
def iEnumT (K : PySem.W.Frag) (ta : TA) : TI := fun σ H R => ta σ H fun vs H1 => ∃ a xs, vs = [.ref a] ∧ SqT K H1 a xs ∧ R (ItE (goT K a) (stopT K a) (isT K a)) H1
theorem pi_enumT {X : Cx} {x : Expr} {ta : TA} {p pos q : Pos} {l : List Expr} {c : Nat} (hg : Gl X "enumerate") (hm : X.mg "enumerate" = none) (ha : PA X [x] ta)
    (hs : starEach [x] X.env = [(false, eval x X.env)] := by rfl) : PI X (.Tuple l c q) (.Call (.Name "enumerate" p) [x] [] pos) (iEnumT X.K ta) := ⟨fun pins s σ H R I h => by
  refine Call_ (ld_blt I hg hm boot_enumerate (PyProof.Rows.callWith_type1 (wpAny_mono (ha.run pos pins s σ H _ I h) (fun us s1 z => ?_) fun _ _ z => z) hs rfl))
  obtain ⟨vs, H1, I1, rs, a, xs, rfl, hq, r⟩ := z
  rw [Vals.ref1 rs]
  obtain ⟨us', _, tup, _⟩ := I1.tuple hq
  have al := tup.lt
  refine callEnum1 (begins_tuple a us'.toArray) tup fun h2 en fed size old => wpAny_pyIter_enum en ?_
  have new : ∀ b ∈ [s1.heap.objs.size + 1, s1.heap.objs.size], s1.heap.objs.size ≤ b := fun b hb => by
    have two : b = s1.heap.objs.size + 1 ∨ b = s1.heap.objs.size := by simpa using hb
    omega
  exact ⟨_, _, _, _, H1, rfl, I1.kept (h' := h2) (t' := s1.toks) old, turnE (feedT (a := a) (e := s1.heap.objs.size + 1) (it := s1.heap.objs.size) (Nat.succ_ne_self _) (Nat.ne_of_lt al) (Nat.ne_of_lt (Nat.lt_succ_of_lt al))), ⟨⟨.none, en⟩, ⟨_, fed, rfl, rfl⟩⟩, fun b hb => I1.fpOk (new b hb) (I1.hok.fresh (new b hb)), r⟩⟩
theorem walk_enumT {K : PySem.W.Frag} {a : Addr} {xs : List V} {g : TG} {tb : TS} {D : Ends} {σ : L2.St} {H : Hp} (Pv : Nat → L2.St → Hp → Prop) (h0 : Pv 0 σ H) (hq : ∀ i σ H, i ≤ xs.length → Pv i σ H → SqT K H a xs)
    (hs : ∀ i x T σ H, xs[i]? = some x → Pv i σ H → H T = none → g (.ref T) σ (upd H T (.tup [.int (i : Nat), x])) fun σ2 H2 => tb { D with nx := Pv (i + 1), ct := Pv (i + 1), bk := D.nx } σ2 H2) (hd : ∀ σ H, Pv xs.length σ H → D.nx σ H) :
    tFor (fun _ H R => R (ItE (goT K a) (stopT K a) (isT K a)) H) g tb D σ H :=
  walkE xs.length Pv h0 (fun i σ H lt p => ⟨xs, xs[i], hq i σ H (Nat.le_of_lt lt) p, List.getElem?_eq_getElem lt⟩) (fun σ H p => ⟨xs, hq _ σ H (Nat.le_refl _) p, Nat.le_refl _⟩)
    (fun i x T σ H lt ix p n => hs i x T σ H (ix xs (hq i σ H (Nat.le_of_lt lt) p)) p n) hd
/-! ### defs by their names -/
abbrev FnP (K : PySem.W.Frag) (x : Str) (st : Stmt) (f : Addr) (fd : FuncData) : Prop := FunD K x x (defArgs st) (defBody st) (defScope st) [] [] f fd
/-- the def st stands under its name x -/
structure Df (K : PySem.W.Frag) (mg : Str → Option Value) (x : Str) (st : Stmt) : Prop where
  ex : ∃ f fd, FnP K x st f fd ∧ mg x = some (.ref f)
/-- what is called by the name x keeps sp -/
structure Cl (P : Program) (w : World) (K : PySem.W.Frag) (mg : Str → Option Value) (base : Heap) (k : Nat) (x : Str) (st : Stmt) (ps : List Str) (sp : Sp) : Prop where
  ex : ∃ f fd, FnP K x st f fd ∧ FnOk P w K mg base CX0 k f fd ps sp ∧ mg x = some (.ref f) ∧ Binds K fd ps []
section
variable {P : Program} {w : World} {K : PySem.W.Frag} {mg : Str → Option Value} {base : Heap} {x : Str} {st : Stmt} {N ps ks : List Str} {k : Nat} {sp : Sp}
theorem Df.ok (D : Df K mg x st) (S : FnScope N ps (defScope st))
    (bd : ∀ (kV doc pm : Value) (an : Option Addr) (cdv ct : Value) (us : List Value), us.length = ps.length → bindArgs (PySem.W.fnOf x x (defArgs st) (defBody st) (defScope st) .none kV doc pm an cdv ct) ⟨us, []⟩ = pure (ps.zip us))
    (len : ∀ vs H Q E, sp vs H Q E → vs.length = ps.length)
    (body : ∀ (f : Addr) (cdv : Value) (A : Around) (outer : List Env) (s : Shared) (H : Hp) (vs : List V) (Q : VK) (E : XK), Room k (A.deeper (envOfC x (defScope st) s.heap.objs.size f cdv)) → sp vs H Q E →
      ∃ t, PSs (cxOf CX0 P w K mg base N x (defScope st) f cdv A outer s H E).nox (defBody st) t ∧ t { nx := fun _ H' => Q .non H', rt := Q } (start N vs) H) : Cl P w K mg base (k + 1) x st ps sp := by
  obtain ⟨f, fd, F, hm⟩ := D.ex
  refine ⟨f, fd, F, F.ok S len fun cdv A outer s H vs Q E hr h => ?_, hm, F.bindsN bd⟩
  obtain ⟨t, h1, h2⟩ := body f cdv A outer s H vs Q E hr h
  exact ⟨t, h1.nox, h2⟩
theorem Cl.imp {sp' : Sp} (c : Cl P w K mg base k x st ps sp) (h : ∀ vs H Q E, sp' vs H Q E → sp vs H Q E) : Cl P w K mg base k x st ps sp' := by
  obtain ⟨f, fd, F, G, hm, b⟩ := c.ex
  exact ⟨f, fd, F, G.imp h, hm, b⟩
end
section
variable {X : Cx} {x : Str} {st : Stmt} {ps ks : List Str} {j k : Nat} {sp : Sp} {e : Expr} {es : List Expr} {kws : List Keyword} {t tk : TA} {p pos : Pos}
/-- f(e, ..) -/
theorem pe_u (c : Cl X.prog X.w X.K X.mg X.base k x st ps sp) (hr : Room j X.A) (hk : k ≤ j) (hg : Gl X x) (ha : PA X (e :: es) t)
    (hdb : (x == ("__debug__" : Str)) = false := by decide) (he : starEach (e :: es) X.env = (false, eval e X.env) :: starEach es X.env := by rfl) (hpl : (backTo pos (starEach es X.env)).any (·.1) = false := by rfl) :
    PE X (.Call (.Name x p) (e :: es) [] pos) (tCall sp [] E0 t) := by
  obtain ⟨f, fd, F, G, hm, b⟩ := c.ex
  exact pe_call G (hr.mono hk) hg hm F.kp b .nil pass0 ha hdb he hpl
def tKw (n : Nat) (sp : Sp) (g : List V → List V) (tk : TA) : TE := fun σ H Q => tk σ H fun zs H2 => zs.length = n ∧ sp (g zs) H2 Q E0
/-- f(k = e, ..) -/
theorem pe_uk (g : {α : Type} → List α → List α) (c : Cl X.prog X.w X.K X.mg X.base k x st ps sp) (hr : Room j X.A) (hk : k ≤ j) (hg : Gl X x)
    (bd : ∀ (kV doc pm : Value) (an : Option Addr) (cdv ct : Value) (ws : List Value), ws.length = ks.length → bindArgs (PySem.W.fnOf x x (defArgs st) (defBody st) (defScope st) .none kV doc pm an cdv ct) ⟨[], ks.zip ws⟩ = pure (ps.zip (g ws)))
    (rel : ∀ {zs : List V} {ws : List Value}, Vals zs ws → Vals (g zs) (g ws)) (hkw : PK X kws tk)
    (hall : (backToKw pos (keywordEach kws X.env)).all (·.1.isSome) = true := by rfl) (hks : (backToKw pos (keywordEach kws X.env)).filterMap (·.1) = ks := by rfl)
    (hdb : (x == ("__debug__" : Str)) = false := by decide) (hpl : ((backTo pos (starEach [] X.env)).any (·.1) || (backToKw pos (keywordEach kws X.env)).any (·.1.isNone)) = false := by rfl) :
    PE X (.Call (.Name x p) [] kws pos) (tKw ks.length sp g tk) := by
  obtain ⟨f, fd, F, G, hm, b⟩ := c.ex
  have kb : KBn X.K fd ps 0 ks (fun _ ws => g ws) (fun _ zs => g zs) := by
    obtain ⟨oc, od, dV, kV, doc, pm, an, cdv, ct, osl, rfl, lk, hcd, hD, hK⟩ := F.ex
    rcases hD with ⟨_, rfl⟩ | ⟨z, _⟩
    · refine ⟨fun s us ws X1 l1 l2 => ?_, fun _ r => rel r⟩
      have e0 : us = [] := List.length_eq_zero_iff.mp l1
      subst e0
      exact .of_eq (bd kV doc pm an cdv ct ws l2)
    · exact absurd rfl z
  refine ⟨fun pins s σ H Q I h => ?_⟩
  refine wpAny_Call_Name_kw (ld_glob I hg hm ?_ hdb)
  refine PySem.W.callWith_KW0 (h₀ := X.base) I.ok.mod.kin F.kp hall (thn (hkw.run pos pins s σ H _ I h) fun ws s2 ⟨zs, H2, I2, rz, l2, q2⟩ => ⟨I2.kIn, ?_⟩) hpl
  rw [hks]
  exact run_fnN G (hr.mono hk) kb pass0 I2 .nil rz rfl l2 q2
end
def swap2 {α : Type} : List α → List α
  | [a, b] => [b, a]
  | l => l
theorem rel_swap2 {zs : List V} {ws : List Value} (r : Vals zs ws) : Vals (swap2 zs) (swap2 ws) := by
  cases r with
  | nil => exact .nil
  | cons a r =>
    cases r with
    | nil => exact .cons a .nil
    | cons b r =>
      cases r with
      | nil => exact .cons b (.cons a .nil)
      | cons c r => exact .cons a (.cons b (.cons c r))
/-! ### rules whose readings name K alone (for the elements of comprehensions) -/
abbrev rLenS (K : PySem.W.Frag) : List V → Hp → VK → Prop := fun xs H Q => ∃ p ys, xs = [.ref p] ∧ (SqL K H p ys ∨ SqT K H p ys) ∧ Q (.int ys.length) H
theorem call_lenS {X : Cx} : CallR X (.builtin "len") (rLenS X.K) := call_len_seq
/-! ### a text times a number -/
theorem op_mul_str {X : Cx} : OpR X (binaryOp .Mult) (fun x y H Q => ∃ (z : Str) (n : Int), x = .str z ∧ y = .int n ∧ 1 ≤ n ∧ n ≤ 1000 ∧ z.length ≤ 1000 ∧ Q (.str (Txt.mul z n)) H) := by
  intro pins s σ H x y v u Q I rx ry h
  obtain ⟨z, n, rfl, rfl, h1, h2, h3, q⟩ := h
  obtain ⟨t, rfl⟩ := rx
  obtain ⟨t', rfl⟩ := ry
  refine SB.mul ⟨?_, fun _ _ => ?_, fun _ _ => ?_⟩ fun t2 k2 => ⟨.str (Txt.mul z n), H, I.tok k2, ⟨t2, rfl⟩, q⟩
  · rw [Bool.or_eq_false_iff]
    exact ⟨decide_eq_false (by omega), decide_eq_false (by omega)⟩
  · have e : (1000 : Int) ≤ (2 ^ 63 - 1) / n := Int.le_ediv_of_mul_le (by omega) (by omega)
    omega
  · unfold PySem.Builtin.Str.tooLong
    have e : z.length * n.toNat ≤ 1000 * 1000 := Nat.mul_le_mul h3 (by omega)
    exact decide_eq_false (by rw [Nat.not_lt]; exact Nat.le_trans e (by decide))
/-! ### heaps, pools, rows -/
theorem same_upd {H : Hp} {p : Addr} {o : HO} (h : H p = none) : Same H (upd H p o) := fun b x e => by
  rw [upd_ne (ne_of_none e h)]
  exact e
/-- all but a is as it was -/
def Kp (a : Addr) (H H' : Hp) : Prop := ∀ b o, H b = some o → b ≠ a → H' b = some o
theorem Kp.refl (a : Addr) (H : Hp) : Kp a H H := fun _ _ e _ => e
theorem Kp.trans {a : Addr} {H H1 H2 : Hp} (x : Kp a H H1) (y : Kp a H1 H2) : Kp a H H2 := fun b o e ne => y b o (x b o e ne) ne
theorem Kp.of_same {a : Addr} {H H1 : Hp} (x : Same H H1) : Kp a H H1 := fun b o e _ => x b o e
theorem Kp.upd {a p : Addr} {H H1 : Hp} {o : HO} (x : Kp a H H1) (h : H p = none) : Kp a H (L2.upd H1 p o) := fun b u e ne => by
  rw [upd_ne (ne_of_none e h)]
  exact x b u e ne
theorem Kp.free {a p : Addr} {H H1 : Hp} (x : Kp a H H1) (h : H1 p = none) (ne : p ≠ a) : H p = none := by
  cases e : H p with
  | none => rfl
  | some o =>
    rw [x p o e ne] at h
    cases h
/-- the pool at a -/
def Pool (H : Hp) (a : Addr) : Prop := ∃ s d n : Int, H a = some (.lst [.int s, .int d, .int n]) ∧ 0 ≤ s ∧ s < 2147483399 ∧ 0 ≤ d
theorem Pool.of {H H' : Hp} {a : Addr} (p : Pool H a) (e : ∀ o, H a = some o → H' a = some o) : Pool H' a := by
  obtain ⟨s, d, n, h, r⟩ := p
  exact ⟨s, d, n, e _ h, r⟩
theorem Pool.ne {H : Hp} {a p : Addr} (x : Pool H a) (h : H p = none) : p ≠ a := fun e => by
  obtain ⟨s, d, n, g, _⟩ := x
  subst e
  rw [h] at g
  cases g
theorem Pool.upd {H : Hp} {a p : Addr} {o : HO} (x : Pool H a) (ne : a ≠ p) : Pool (L2.upd H p o) a := x.of fun u e => by
  rw [upd_ne ne]
  exact e
/-- a row of people -/
structure Row (ns : List Int) : Prop where
  pos : 1 ≤ ns.length
  most : ns.length ≤ 12
  nd : ns.Nodup
  rng : ∀ x ∈ ns, 1 ≤ x ∧ x ≤ 999
theorem small_div {i j : Int} (h1 : 0 < j) (h2 : j ≤ 1000000) : Builtin.divisionGoesByPylong i j = false := by
  have hj : j.natAbs.log2 ≤ 20 := by
    have : j.natAbs < 2 ^ 21 := by omega
    have h3 := (Nat.log2_lt (by omega)).mpr this
    omega
  have h0 : ¬ (j == 0) = true := by simpa using (show j ≠ 0 by omega)
  show (decide ((if j == 0 then 0 else j.natAbs.log2 / 30 + 1) > 300) && _) = false
  rw [if_neg h0]
  have h4 : ¬ (j.natAbs.log2 / 30 + 1 > 300) := by omega
  rw [decide_eq_false h4]
  rfl
/-! ### ranges as lists of ints -/
def rg (a b : Int) : List Int := (List.range (b - a).toNat).map fun i => a + (i : Nat)
theorem rgV_rg (a b : Int) : rgV a b = (rg a b).map V.int := by
  unfold rgV rg
  rw [List.map_map]
  rfl
theorem rg_len (a b : Int) : (rg a b).length = (b - a).toNat := by
  unfold rg
  rw [List.length_map, List.length_range]
theorem rg_mem {a b x : Int} (h : x ∈ rg a b) : a ≤ x ∧ x < b := by
  unfold rg at h
  obtain ⟨i, hi, rfl⟩ := List.mem_map.mp h
  have := List.mem_range.mp hi
  omega
theorem nodup_map_inj {α β : Type} {f : α → β} (hf : ∀ x y, f x = f y → x = y) : ∀ {l : List α}, l.Nodup → (l.map f).Nodup
  | [], _ => List.nodup_nil
  | a :: l, h => by
    rw [List.map_cons, List.nodup_cons]
    rw [List.nodup_cons] at h
    refine ⟨fun hm => ?_, nodup_map_inj hf h.2⟩
    obtain ⟨y, hy, e⟩ := List.mem_map.mp hm
    rw [hf y a e] at hy
    exact h.1 hy
theorem rg_nodup (a b : Int) : (rg a b).Nodup := nodup_map_inj (fun x y e => by omega) List.nodup_range
theorem erase_perm : ∀ (l : List Int) (k : Nat) (h : k < l.length), (l[k] :: l.eraseIdx k).Perm l
  | a :: l, 0, _ => .refl _
  | a :: l, k + 1, h => by
    show (l[k]'(Nat.lt_of_succ_lt_succ h) :: a :: l.eraseIdx k).Perm (a :: l)
    exact (List.Perm.swap ..).trans (.cons a (erase_perm l k (Nat.lt_of_succ_lt_succ h)))
theorem eraseI : ∀ {l : List Int} {k : Nat}, (l.map V.int).eraseIdx k = (l.eraseIdx k).map V.int
  | [], _ => rfl
  | _ :: _, 0 => rfl
  | a :: l, k + 1 => by
    show V.int a :: (l.map V.int).eraseIdx k = V.int a :: (l.eraseIdx k).map V.int
    rw [eraseI]
/-- one is taken out of the left ones -/
theorem take_perm {taken left : List Int} {k : Nat} (h : k < left.length) : ((taken ++ [left[k]]) ++ left.eraseIdx k).Perm (taken ++ left) := by
  rw [List.append_assoc]
  exact (erase_perm left k h).append_left taken
theorem getI {l : List Int} {k : Nat} (h : k < l.length) : (l.map V.int)[k]? = some (.int l[k]) := by
  rw [List.getElem?_map, List.getElem?_eq_getElem h]
  rfl
theorem len_lt {n : Nat} (h : n ≤ 100000) : n < sizeLine := Nat.lt_of_le_of_lt h (by decide)
theorem seqIx {i : Int} {n : Nat} (h0 : 0 ≤ i) (h1 : i < n) : seqIndex? i n = some i.toNat := PySem.seqIndex_of h0 h1
/-! ### enumerate of a text -/
def goS (z : Str) : Nat → Hp → Prop := fun i _ => i < z.cps.size
def stopS (z : Str) : Nat → Hp → Prop := fun i _ => z.cps.size ≤ i
def isS (z : Str) : Nat → Hp → V → Prop := fun i _ x => ∃ c, z.cps[i]? = some c ∧ x = .str ⟨#[c]⟩
theorem feedS {P : Program} {w : World} {K : PySem.W.Frag} {z : Str} {t : Tok} {e it : Addr} (ne : e ≠ it) : Feed P w K e it (fun i h => h.IsStrIter it (strIterType z) z t i) (goS z) (stopS z) (isS z) where
  apart := ne
  lives := fun i h y => let ⟨o, ho, _, hd⟩ := y; ⟨o, ho, fun v q => by rw [hd] at q; cases q⟩
  stays := fun i h g y k => let ⟨o, ho, r⟩ := y; ⟨o, k o ho, r⟩
  more := by
    rintro X rfl rfl rfl calm i pins s σ H I at_ lt
    exact ⟨_, _, _, _, Draws.text (A := X.A.in1) (I.ok.hd calm) it z t, lt, at_, by simp [ne], fun h y => y, fun v ⟨c, u, hc, ev⟩ => ⟨.str ⟨#[c]⟩, ⟨u, ev⟩, c, hc, rfl⟩⟩
  ends := by
    rintro X rfl rfl rfl calm i pins s σ H I at_ le
    have none_ : z.cps[i]? = none := Array.getElem?_eq_none_iff.mpr le
    exact ⟨[it], fun _ _ => False, fun j h => j = i ∧ h.IsStrIter it (strIterType z) z t i,
      { live := fun _ _ y => let ⟨o, ho, _⟩ := y.2; ⟨o, ho⟩
        frame := fun _ _ _ y k => ⟨y.1, let ⟨o, ho, r⟩ := y.2; ⟨o, k it (by simp) o ho, r⟩⟩
        item := fun j _ _ _ lt y _ => absurd y.1 (Nat.ne_of_lt lt)
        done := fun _ _ _ y q => by
          have it2 := y.2
          unfold strIterType at it2
          split at it2
          · exact wpAny_nextOf_ascii_end (A := X.A.in1) (I.ok.hd calm) it2 none_ q
          · exact wpAny_nextOf_wide_end (A := X.A.in1) (I.ok.hd calm) it2 none_ q }, rfl, at_⟩
def iEnumS (ta : TA) : TI := fun σ H R => ta σ H fun vs H1 => ∃ z, vs = [.str z] ∧ R (ItE (goS z) (stopS z) (isS z)) H1
theorem pi_enumS {X : Cx} {x : Expr} {ta : TA} {p pos q : Pos} {l : List Expr} {c : Nat} (hg : Gl X "enumerate") (hm : X.mg "enumerate" = none) (ha : PA X [x] ta)
    (hs : starEach [x] X.env = [(false, eval x X.env)] := by rfl) : PI X (.Tuple l c q) (.Call (.Name "enumerate" p) [x] [] pos) (iEnumS ta) := ⟨fun pins s σ H R I h => by
  refine Call_ (ld_blt I hg hm boot_enumerate (PyProof.Rows.callWith_type1 (wpAny_mono (ha.run pos pins s σ H _ I h) (fun us s1 y => ?_) fun _ _ y => y) hs rfl))
  obtain ⟨vs, H1, I1, rs, z, rfl, r⟩ := y
  obtain ⟨t, rfl⟩ : ∃ t, us = [.str z t] := by
    match us, rs with
    | [_], .cons ⟨t, rfl⟩ .nil => exact ⟨t, rfl⟩
  refine callEnum1 (begins_text z t) trivial fun h2 en fed size old => wpAny_pyIter_enum en ?_
  have new : ∀ b ∈ [s1.heap.objs.size + 1, s1.heap.objs.size], s1.heap.objs.size ≤ b := fun b hb => by
    have two : b = s1.heap.objs.size + 1 ∨ b = s1.heap.objs.size := by simpa using hb
    omega
  exact ⟨_, _, _, _, H1, rfl, I1.kept (h' := h2) (t' := s1.toks) old, turnE (feedS (z := z) (t := t) (e := s1.heap.objs.size + 1) (it := s1.heap.objs.size) (Nat.succ_ne_self _)), ⟨⟨.none, en⟩, ⟨_, fed, rfl, rfl⟩⟩, fun b hb => I1.fpOk (new b hb) (I1.hok.fresh (new b hb)), r⟩⟩
theorem walk_enumS {z : Str} {g : TG} {tb : TS} {D : Ends} {σ : L2.St} {H : Hp} (Pv : Nat → L2.St → Hp → Prop) (h0 : Pv 0 σ H)
    (hs : ∀ i c T σ H, z.cps[i]? = some c → Pv i σ H → H T = none → g (.ref T) σ (upd H T (.tup [.int (i : Nat), .str ⟨#[c]⟩])) fun σ2 H2 => tb { D with nx := Pv (i + 1), ct := Pv (i + 1), bk := D.nx } σ2 H2) (hd : ∀ σ H, Pv z.cps.size σ H → D.nx σ H) :
    tFor (fun _ H R => R (ItE (goS z) (stopS z) (isS z)) H) g tb D σ H :=
  walkE z.cps.size Pv h0 (fun i σ H lt _ => lt) (fun σ H _ => Nat.le_refl _) (fun i x T σ H _ ix p n => by
    obtain ⟨c, hc, rfl⟩ := ix
    exact hs i c T σ H hc p n) hd
/-! ### kinds of values -/
def Tys : List String := ["NoneType", "int", "bool", "str", "list", "tuple", "dict"]
/-- v is of the built-in type T -/
structure Tv (K : PySem.W.Frag) (H : Hp) (v : V) (T : String) : Prop where
  ty : TyX K H v (.type T)
  mem : T ∈ Tys
theorem Tv.same {K : PySem.W.Frag} {H H' : Hp} {v : V} {T : String} (t : Tv K H v T) (e : Same H H') : Tv K H' v T := by
  refine ⟨?_, t.mem⟩
  cases t.ty with
  | base b =>
    cases b with
    | non => exact .base .non
    | bl x => exact .base (.bl x)
    | int i => exact .base (.int i)
    | str x => exact .base (.str x)
    | flt x => exact .base (.flt x)
    | lst h => exact .base (.lst (e _ _ h))
    | frz h => exact .base (.frz (e _ _ h))
    | tup h => exact .base (.tup (e _ _ h))
    | dK h => exact .base (.dK (e _ _ h))
    | dT h => exact .base (.dT (e _ _ h))
  | byt b => exact .byt b
  | set h => exact .set (e _ _ h)
  | kList h c => exact .kList h c
  | kTuple h c => exact .kTuple h c
  | kDict h c => exact .kDict h c
  | fTuple h => exact .fTuple (e _ _ h)
  | fDict h => exact .fDict (e _ _ h)
theorem Tv.int {K : PySem.W.Frag} {H : Hp} (i : Int) : Tv K H (.int i) "int" := ⟨.base (.int i), by decide⟩
theorem Tv.int_of {K : PySem.W.Frag} {H : Hp} {v : V} (t : Tv K H v "int") : ∃ i, v = .int i := by
  generalize hT : Value.type "int" = u at *
  have ty := t.ty
  rw [hT] at ty
  cases ty with
  | base b =>
    cases b with
    | int i => exact ⟨i, rfl⟩
    | _ => first | exact absurd (Value.type.inj hT) (by decide) | exact nomatch hT
  | _ => exact absurd (Value.type.inj hT) (by decide)
theorem Tv.of_int {K : PySem.W.Frag} {H : Hp} {i : Int} {T : String} (t : Tv K H (.int i) T) : T = "int" := by
  cases t.ty with
  | base b =>
    cases b with
    | int i => rfl
theorem SqT.same {K : PySem.W.Frag} {H H' : Hp} {a : Addr} {xs : List V} (e : Same H H') (h : SqT K H a xs) : SqT K H' a xs := by
  rcases h with (h | ⟨o, h⟩) | h
  · exact .inl (.inl (e _ _ h))
  · exact .inl (.inr ⟨o, e _ _ h⟩)
  · exact .inr h
theorem Tv.tup {K : PySem.W.Frag} {H : Hp} {a : Addr} {xs : List V} (h : SqT K H a xs) : Tv K H (.ref a) "tuple" := by
  refine ⟨?_, by decide⟩
  rcases h with (h | ⟨o, h⟩) | ⟨o, its, n, h, c, _⟩
  · exact .base (.tup h)
  · exact .fTuple h
  · exact .kTuple h c
theorem kit_int {K : PySem.W.Frag} {T : String} (h : T ∈ Tys) : PySem.W.kitOne K (.type T) (.type "int") = some (decide (T = "int") || decide (T = "bool")) := by
  have hs : ∀ S ∈ Tys, kitB S "int" = some (decide (S = "int") || decide (S = "bool")) := by decide +kernel
  exact kit_ty (hs T h)
theorem kit_bool {K : PySem.W.Frag} {T : String} (h : T ∈ Tys) : PySem.W.kitOne K (.type T) (.type "bool") = some (decide (T = "bool")) := by
  have hs : ∀ S ∈ Tys, kitB S "bool" = some (decide (S = "bool")) := by decide +kernel
  exact kit_ty (hs T h)
theorem kit_tuple {K : PySem.W.Frag} {T : String} (h : T ∈ Tys) : PySem.W.kitOne K (.type T) (.type "tuple") = some (decide (T = "tuple")) := by
  have hs : ∀ S ∈ Tys, kitB S "tuple" = some (decide (S = "tuple")) := by decide +kernel
  exact kit_ty (hs T h)
theorem kit_str {K : PySem.W.Frag} {T : String} (h : T ∈ Tys) : PySem.W.kitOne K (.type T) (.type "str") = some (decide (T = "str")) := by
  have hs : ∀ S ∈ Tys, kitB S "str" = some (decide (S = "str")) := by decide +kernel
  exact kit_ty (hs T h)
def heightB : V → Bool
  | .int i => decide (1 ≤ i) && decide (i ≤ 999)
  | _ => false
/-- the i-th is a height that stands not earlier -/
def okAt (xs : List V) (i : Nat) : Bool := match xs[i]? with
  | some x => heightB x && !inV x (xs.take i)
  | none => true
theorem heightB_int {x : V} (h : heightB x = true) : ∃ i, x = .int i ∧ 1 ≤ i ∧ i ≤ 999 := by
  cases x with
  | int i =>
    have h2 : (decide (1 ≤ i) && decide (i ≤ 999)) = true := h
    rw [Bool.and_eq_true] at h2
    exact ⟨i, rfl, of_decide_eq_true h2.1, of_decide_eq_true h2.2⟩
  | _ => cases h
theorem flat_of_ok {xs : List V} {i : Nat} (hi : i ≤ xs.length) (h : ∀ j < i, okAt xs j = true) : (xs.take i).all flatV = true := by
  rw [List.all_eq_true]
  intro x hx
  obtain ⟨j, hj, e⟩ := List.mem_take_iff_getElem.mp hx
  have hj2 : j < i := by omega
  have o := h j hj2
  unfold okAt at o
  rw [List.getElem?_eq_getElem (by omega)] at o
  have o2 := (Bool.and_eq_true_iff.mp o).1
  rw [e] at o2
  obtain ⟨n, rfl, _⟩ := heightB_int o2
  rfl
theorem inV_ints {n : Int} {ms : List Int} : inV (.int n) (ms.map V.int) = decide (n ∈ ms) := by
  unfold inV
  rw [List.any_map]
  by_cases h : n ∈ ms
  · rw [decide_eq_true h, List.any_eq_true]
    exact ⟨n, h, by show (n == n) = true; exact beq_self_eq_true n⟩
  · rw [decide_eq_false h, List.any_eq_false]
    intro x hx e
    have e2 : (x == n) = true := e
    rw [eq_of_beq e2] at hx
    exact h hx
theorem Row.ok {ns : List Int} (r : Row ns) (i : Nat) : okAt (ns.map V.int) i = true := by
  unfold okAt
  by_cases h : i < ns.length
  · rw [getI h]
    show (heightB (.int ns[i]) && !inV (.int ns[i]) ((ns.map V.int).take i)) = true
    have g := r.rng ns[i] (List.getElem_mem h)
    have e1 : heightB (.int ns[i]) = true := by
      show (decide (1 ≤ ns[i]) && decide (ns[i] ≤ 999)) = true
      rw [decide_eq_true g.1, decide_eq_true g.2]
      rfl
    rw [e1, ← List.map_take, inV_ints]
    have hn : ns[i] ∉ ns.take i := fun hm => by
      obtain ⟨j, hj, e⟩ := List.mem_take_iff_getElem.mp hm
      have := (List.getElem_inj r.nd).mp e
      omega
    rw [decide_eq_false hn]
    rfl
  · rw [List.getElem?_eq_none_iff.mpr (by rw [List.length_map]; omega)]
end Lp
namespace Lp
open PySem PySem.Spec PyProof.Rows L2
/-! ### the mathematics of passes -/
def code : Bool → Nat
  | true => 84
  | false => 83
/-- the text of a word -/
def wd (bs : List Bool) : Str := ⟨(bs.map code).toArray⟩
abbrev ltr (b : Bool) : Str := ⟨#[code b]⟩
theorem ltrT : Str.ofString "T" = ltr true := by decide +kernel
theorem ltrS : Str.ofString "S" = ltr false := by decide +kernel
theorem ltr_inj {a b : Bool} (h : ltr a = ltr b) : a = b := by
  cases a <;> cases b <;> first | rfl | exact absurd h (by decide +kernel)
theorem wd_len (bs : List Bool) : (wd bs).length = bs.length := by
  show (bs.map code).toArray.size = _
  rw [List.size_toArray, List.length_map]
theorem wd_get {bs : List Bool} {i c : Nat} (h : (wd bs).cps[i]? = some c) : ∃ b, bs[i]? = some b ∧ c = code b := by
  have h2 : (bs.map code)[i]? = some c := by
    rw [← List.getElem?_toArray]
    exact h
  rw [List.getElem?_map] at h2
  obtain ⟨b, e1, e2⟩ := Option.map_eq_some_iff.mp h2
  exact ⟨b, e1, e2.symm⟩
theorem wd_app (a b : List Bool) : wd a ++ wd b = wd (a ++ b) := by
  show (⟨(a.map code).toArray ++ (b.map code).toArray⟩ : Str) = ⟨((a ++ b).map code).toArray⟩
  rw [List.map_append, List.append_toArray]
def takes (b : Bool) (p s : Int) : Bool := if b then decide (s < p) else decide (p < s)
def stepW (b : Bool) (st : List Int × List Int × Int) (p : Int) : List Int × List Int × Int :=
  if takes b p st.2.2 = true then (st.1 ++ [st.2.2], st.2.1 ++ [st.2.2], p) else (st.1 ++ [p], st.2.1, st.2.2)
def runW (b : Bool) (x : Int) (xs : List Int) : List Int × List Int × Int := xs.foldl (stepW b) ([], [], x)
def passL (b : Bool) : List Int → List Int
  | [] => []
  | x :: xs => (runW b x xs).1 ++ [(runW b x xs).2.2]
def seatL (b : Bool) : List Int → List Int
  | [] => []
  | x :: xs => (runW b x xs).2.1 ++ [(runW b x xs).2.2]
def afterL (bs : List Bool) (ns : List Int) : List Int := bs.foldl (fun acc b => passL b acc) ns
theorem runW_perm (b : Bool) : ∀ (xs l s : List Int) (x : Int), ((xs.foldl (stepW b) (l, s, x)).1 ++ [(xs.foldl (stepW b) (l, s, x)).2.2]).Perm (l ++ x :: xs)
  | [], l, s, x => .refl _
  | p :: xs, l, s, x => by
    rw [List.foldl_cons, show stepW b (l, s, x) p = (if takes b p x = true then (l ++ [x], s ++ [x], p) else (l ++ [p], s, x)) from rfl]
    split
    · refine (runW_perm b xs _ _ _).trans ?_
      rw [List.append_assoc]
      exact .refl _
    · refine (runW_perm b xs _ _ _).trans ?_
      rw [List.append_assoc]
      exact (List.Perm.swap x p xs).append_left l
theorem passL_perm (b : Bool) : ∀ ns : List Int, (passL b ns).Perm ns
  | [] => .refl _
  | x :: xs => runW_perm b xs [] [] x
theorem Row.perm {ns ms : List Int} (r : Row ns) (h : ms.Perm ns) : Row ms :=
  ⟨by rw [h.length_eq]; exact r.pos, by rw [h.length_eq]; exact r.most, h.nodup_iff.mpr r.nd, fun x hx => r.rng x (h.mem_iff.mp hx)⟩
theorem Row.pass {ns : List Int} (r : Row ns) (b : Bool) : Row (passL b ns) := r.perm (passL_perm b ns)
theorem afterL_perm : ∀ (bs : List Bool) (ns : List Int), (afterL bs ns).Perm ns
  | [], ns => .refl _
  | b :: bs, ns => (afterL_perm bs (passL b ns)).trans (passL_perm b ns)
theorem Row.after {ns : List Int} (r : Row ns) (bs : List Bool) : Row (afterL bs ns) := r.perm (afterL_perm bs ns)
theorem afterL_app (a b : List Bool) (ns : List Int) : afterL (a ++ b) ns = afterL b (afterL a ns) := List.foldl_append ..
theorem afterL_take {bs : List Bool} {i : Nat} {b : Bool} (h : bs[i]? = some b) (ns : List Int) : afterL (bs.take (i + 1)) ns = passL b (afterL (bs.take i) ns) := by
  rw [List.take_add_one, h, afterL_app]
  rfl
theorem seatL_ne {b : Bool} {ns : List Int} (h : ns ≠ []) : seatL b ns ≠ [] := by
  cases ns with
  | nil => exact absurd rfl h
  | cons x xs =>
    unfold seatL
    simp
theorem runW_len (b : Bool) : ∀ (xs l s : List Int) (x : Int), (xs.foldl (stepW b) (l, s, x)).1.length = l.length + xs.length ∧ (xs.foldl (stepW b) (l, s, x)).2.1.length ≤ s.length + xs.length
  | [], l, s, x => ⟨rfl, Nat.le_refl _⟩
  | p :: xs, l, s, x => by
    rw [List.foldl_cons, show stepW b (l, s, x) p = (if takes b p x = true then (l ++ [x], s ++ [x], p) else (l ++ [p], s, x)) from rfl]
    split
    · have := runW_len b xs (l ++ [x]) (s ++ [x]) p
      simp only [List.length_append, List.length_cons, List.length_nil] at this ⊢
      omega
    · have := runW_len b xs (l ++ [p]) s x
      simp only [List.length_append, List.length_cons, List.length_nil] at this ⊢
      omega
theorem fold_take {α β : Type} {f : α → β → α} {xs : List β} {i : Nat} {x : β} {z : α} (h : xs[i]? = some x) : (xs.take (i + 1)).foldl f z = f ((xs.take i).foldl f z) x := by
  rw [List.take_add_one, h, List.foldl_append]
  rfl
theorem cut1 {x : V} {xs : List V} : cutV (x :: xs) (some 1) none = xs := by
  unfold cutV
  rw [show HT.sIx (x :: xs).length 0 (some 1) = min 1 (x :: xs).length from HT.sIx_nat (x :: xs).length 0 1, HT.sIx_none, List.length_cons, Nat.min_eq_left (by omega)]
  show (xs.take (xs.length + 1 - 1)) = xs
  rw [Nat.add_sub_cancel]
  exact List.take_length
def kindB (z : Str) : Bool := decide (z = ltr false) || decide (z = ltr true)
theorem kindB_ltr (b : Bool) : kindB (ltr b) = true := by cases b <;> decide +kernel
theorem inV_kinds (z : Str) : inV (.str z) [.str (ltr false), .str (ltr true)] = kindB z := by
  show ((ltr false == z) || ((ltr true == z) || false)) = kindB z
  unfold kindB
  rw [Bool.or_false]
  have h : ∀ a : Str, (a == z) = decide (z = a) := fun a => by
    by_cases e : z = a
    · subst e
      rw [decide_eq_true rfl, beq_self_eq_true]
    · rw [decide_eq_false e]
      exact beq_eq_false_iff_ne.mpr (Ne.symm e)
  rw [h, h]
theorem nw1 {n : Nat} (h : 1 ≤ n) : HT.sIx n 0 (some 1) ≠ 0 := by
  rw [show HT.sIx n 0 (some 1) = min 1 n from HT.sIx_nat n 0 1]
  omega
theorem cutS_take (bs : List Bool) (k : Nat) : cutS (wd bs) none (some (k : Nat)) = wd (bs.take k) := by
  unfold cutS
  rw [HT.sIx_none, HT.sIx_nat, wd_len]
  show (⟨((bs.map code).take (min k bs.length - 0)).toArray⟩ : Str) = ⟨((bs.take k).map code).toArray⟩
  rw [Nat.sub_zero, List.map_take]
  congr 2
  by_cases h : k ≤ bs.length
  · rw [Nat.min_eq_left h]
  · rw [Nat.min_eq_right (by omega), List.take_of_length_le (by rw [List.length_map]; omega), List.take_of_length_le (by rw [List.length_map]; omega)]
theorem foldl_single (c : Nat) : ∀ (n : Nat) (acc : Array Nat), (List.replicate n #[c]).foldl (· ++ ·) acc = acc ++ (List.replicate n c).toArray
  | 0, acc => by simp
  | n + 1, acc => by
    rw [List.replicate_succ, List.foldl_cons, foldl_single c n, List.replicate_succ]
    apply Array.ext'
    simp
theorem mul_ltr (b : Bool) (n : Nat) : Txt.mul (ltr b) ((n + 1 : Nat) : Int) = wd (List.replicate (n + 1) b) := by
  unfold Txt.mul
  rw [if_neg (by omega)]
  have e2 : wd (List.replicate (n + 1) b) = ⟨(List.replicate (n + 1) (code b)).toArray⟩ := by
    unfold wd
    rw [List.map_replicate]
  rw [e2]
  split
  · rename_i h
    rcases Bool.or_eq_true_iff.mp h with z | z
    · have := eq_of_beq z
      have hn : n = 0 := by omega
      subst hn
      rfl
    · have : (1 == 0) = true := z
      cases this
  · rw [Int.toNat_natCast]
    congr 1
    rw [foldl_single]
    simp
theorem Dp_ints {K : PySem.W.Frag} {H : Hp} : ∀ ns : List Int, DpAll K H (ns.map V.int) (ns.map PyData.int)
  | [] => .nil
  | n :: ns => .cons (.int n) (Dp_ints ns)
theorem Dp_row {K : PySem.W.Frag} {H : Hp} {a : Addr} {ns : List Int} (h : SqT K H a (ns.map V.int)) : Dp K H (.ref a) (.tuple (ns.map PyData.int)) := .tup h (Dp_ints ns)
theorem Dp_list {K : PySem.W.Frag} {H : Hp} {a : Addr} {ns : List Int} (h : SqL K H a (ns.map V.int)) : Dp K H (.ref a) (.list (ns.map PyData.int)) := .lst h (Dp_ints ns)
theorem lay_ints : ∀ ns : List Int, PyData.canLayAll0 (ns.map PyData.int) = true
  | [] => by simp only [List.map_nil, PyData.canLayAll0]
  | n :: ns => by simp only [List.map_cons, PyData.canLayAll0, PyData.canLay0, Bool.true_and, lay_ints ns]
theorem depth_ints : ∀ ns : List Int, PyData.depthAll (ns.map PyData.int) = 0
  | [] => by simp only [List.map_nil, PyData.depthAll]
  | n :: ns => by simp only [List.map_cons, PyData.depthAll, PyData.depth, depth_ints ns, Nat.max_self]
theorem lay_row (ns : List Int) : (PyData.tuple (ns.map PyData.int)).canLay0 = true := by simp only [PyData.canLay0, lay_ints]
theorem shaped_row (ns : List Int) : SeqAt.shaped (.tuple (ns.map PyData.int)) = true := by
  unfold SeqAt.shaped
  simp only [PyData.canLay0, PyData.depth, lay_ints, depth_ints]
  decide
theorem lay_list (ns : List Int) : (PyData.list (ns.map PyData.int)).canLay0 = true := by simp only [PyData.canLay0, lay_ints]
theorem shaped_list (ns : List Int) : SeqAt.shaped (.list (ns.map PyData.int)) = true := by
  unfold SeqAt.shaped
  simp only [PyData.canLay0, PyData.depth, lay_ints, depth_ints]
  decide
theorem eqv_row (ns : List Int) : PyData.eqv (.tuple (ns.map PyData.int)) (.tuple (ns.map PyData.int)) = true := SeqAt.eqv_refl _ (lay_row ns)
theorem eqv_list (ns : List Int) : PyData.eqv (.list (ns.map PyData.int)) (.list (ns.map PyData.int)) = true := SeqAt.eqv_refl _ (lay_list ns)
theorem all_true (n : Nat) : (List.replicate n true).all id = true := by
  rw [List.all_eq_true]
  intro x hx
  rw [(List.mem_replicate.mp hx).2]
  rfl
end Lp
namespace Lp
open PySem PySem.Spec PyProof.Rows L2
/-! ### the head's facts -/
def mkD (x : Str) (st : Stmt) : He.DefD := ⟨(x, none), x, x, defArgs st, defBody st, defScope st, [], []⟩
def obL (n : Nat) (fa : List He.Fa) (fn : List He.DefD) (ex : PySem.W.Frag → Bool) (g : Addr → Option Obj) : He.AlD × Bool := (He.obsDG n fa fn g, ex (He.frG g (He.asD g n)))
def hookL (n : Nat) (fa : List He.Fa) (fn : List He.DefD) (ex : PySem.W.Frag → Bool) : PySem.W.Hook where
  α := He.AlD × Bool
  obs := fun s => obL n fa fn ex s.heap.get?
  val := fun _ => (He.valD fn, true)
  says := fun _ h => ∃ K : PySem.W.Frag, K.In h ∧ He.SaysD fa fn K ∧ ex K = true
  of := fun _ s e => ⟨He.frG s.heap.get? (He.asD s.heap.get? n), He.frG_in, congrArg (fun z : He.AlD × Bool => z.1) e, congrArg (fun z : He.AlD × Bool => z.2) e⟩
  keeps := fun _ _ _ ⟨K, hK, c, x⟩ k => ⟨K, PySem.W.Frag.In.keeps hK k, c, x⟩
theorem obL_eq {n : Nat} {fa : List He.Fa} {fn : List He.DefD} {ex : PySem.W.Frag → Bool} {g : Addr → Option Obj} {s : Shared} (h : ∀ a, g a = s.heap.get? a) : obL n fa fn ex g = (hookL n fa fn ex).obs s := by
  have e : g = s.heap.get? := funext h
  rw [e]
  rfl
section
variable {P : Program} {w : World} {K : PySem.W.Frag} {mg : Str → Option Value} {h : Heap} {fa : List He.Fa} {fn : List He.DefD} {x : Str} {st : Stmt} {ps : List Str} {sp : Sp} {k : Nat} {f : Addr}
theorem Df.of (X : K.In h) (G : h.Ns mainGlobals mg) (c : He.SaysD fa fn K) (i : Nat) (hi : fn[i]? = some (mkD x st)) (hj : fa[i]? = some (.glo x)) : Df K mg x st := by
  obtain ⟨fd, F⟩ := c.def_ i hi
  exact ⟨_, fd, F, He.glo_ok X G (c.fact i hj)⟩
theorem Cl.last (D : Df K mg x st) (hf : mg x = some (.ref f)) (c : ∀ base, Cl P w K mg base k x st ps sp) : ∃ fd, FnP K x st f fd ∧ ∀ base, FnOk P w K mg base CX0 k f fd ps sp := by
  obtain ⟨f0, fd0, F0, m0⟩ := D.ex
  have e0 : f0 = f := Value.ref.inj (Option.some.inj (m0.symm.trans hf))
  subst e0
  refine ⟨fd0, F0, fun base => ?_⟩
  obtain ⟨f1, fd1, F1, G1, m1, _⟩ := (c base).ex
  have e1 : f1 = f0 := Value.ref.inj (Option.some.inj (m1.symm.trans hf))
  subst e1
  obtain ⟨_, _, _, _, _, _, _, _, _, _, _, l0, _⟩ := F0.ex
  obtain ⟨_, _, _, _, _, _, _, _, _, _, _, l1, _⟩ := F1.ex
  have e2 := l0.symm.trans l1
  simp only [Option.some.injEq, Obj.mk.injEq, Data.func.injEq] at e2
  rw [e2.2.2.1]
  exact G1
end
/-- a written tuple whose object has no dict -/
def tupN (K : PySem.W.Frag) (x : Str) : Bool := match K.lookup (He.ga K x) with
  | some o => decide (o.cls = .type "tuple") && o.dict.isNone
  | none => false
theorem tupN_ok {K : PySem.W.Frag} {x : Str} (h : tupN K x = true) : ∃ o, K.lookup (He.ga K x) = some o ∧ o.cls = .type "tuple" ∧ o.dict = none := by
  unfold tupN at h
  cases e : K.lookup (He.ga K x) with
  | none => rw [e] at h; cases h
  | some o =>
    rw [e] at h
    have h2 : (decide (o.cls = .type "tuple") && o.dict.isNone) = true := h
    rw [Bool.and_eq_true] at h2
    exact ⟨o, rfl, of_decide_eq_true h2.1, Option.isNone_iff_eq_none.mp h2.2⟩
end Lp
namespace Lp
open PySem PySem.Spec PyProof.Rows L2
/-! ### what the head has left of the error classes: what is asked of them -/
/-- the __init__ of a class -/
def initOf (s : Stmt) : Stmt := match s with
  | .ClassDef _ _ _ (.FunctionDef n a b dl r tp sc ts bi po :: _) _ _ _ _ _ _ _ => .FunctionDef n a b dl r tp sc ts bi po
  | _ => .Pass ⟨0, 0, 0, 0⟩
def mkI (x : Str) (q : Str) (st : Stmt) : He.DefD := ⟨(x, some "__init__"), "__init__", q, defArgs (initOf st), defBody (initOf st), defScope (initOf st), [], []⟩
/-- what a class over ValueError is made of: its row of bases begins with itself, its slots end with ValueError's maker and one more -/
def vErrC (C : Addr) (c : ClassData) : Bool := c.hasDict && (!c.hasDel && (match c.mro with
  | top :: up => decide (top = .ref C) && PySem.HandSPX.refsVE up
  | [] => false))
def vErrS (sl : Array (Option Value)) : Bool := match sl.toList with
  | [_, _, _, _, y, _] => decide (y = some (.builtin "ValueError.__new__"))
  | _ => false
def vErrO (C : Addr) (o : Obj) : Bool := decide (o.cls = .type "type") && (vErrS o.slots && (match o.data with
  | .cls c => vErrC C c
  | _ => false))
def oexB (K : PySem.W.Frag) (C : Addr) : Bool := (match K.lookup C with
  | some o => vErrO C o
  | none => false) && (decide (PySem.W.findIn K (.ref C) "__setattr__" = some (some (.builtin "object.__setattr__"))) && (decide (PySem.W.subIn K (.ref C) (.type "BaseException") = some true) && (decide (PySem.W.typeIn K (.ref C) = some (.type "type")) && PySem.W.keepIn K (.ref C))))
def ecB (K : PySem.W.Frag) (x f : Str) : Bool := oexB K (He.ga K x) && (xfB K (He.ga K x) && (decide (PySem.W.findIn K (.ref (He.ga K x)) f = some none) && (decide (PySem.W.findIn K (.ref (He.ga K x)) "__init__" = some (some (.ref (He.ma K (He.ga K x) "__init__")))) && decide (PySem.W.typeIn K (.ref (He.ma K (He.ga K x) "__init__")) = some (.type "function")))))
def errL : List Str := ["InvalidRow", "InvalidNumber", "InvalidKind", "InvalidWord", "InvalidSize", "InvalidProgram", "InvalidText", "InvalidHeights", "InvalidWishes", "InvalidRecord", "InvalidPattern", "InvalidShare", "InvalidPeople", "InvalidName", "InvalidHeight", "InvalidDeed", "InvalidCommand", "NotFinal", "OtherPersons", "UnknownName", "UnknownHeight", "NoOrder", "NameTaken", "HeightTaken", "NothingToUndo", "TooManySeats", "TooManyPeople", "WordTooShort", "TooManyDeeds", "LastPerson"]
def excCB (K : PySem.W.Frag) (D : Addr) : Bool := decide (PySem.W.findIn K (.ref D) "__getattribute__" = some (some (.builtin "BaseException.__getattribute__"))) && (decide (PySem.W.findIn K (.ref D) "__getattr__" = some none) && (decide (PySem.W.subIn K (.ref D) (.type "BaseException") = some true) && (PySem.W.hasDictIn K D && (decide (PySem.W.findIn K (.ref D) "__class__" = some (some (.builtin "object.__class__"))) && (decide (PySem.W.specialIn K (.builtin "object.__class__") "__get__" = some (some (.builtin "getset_descriptor.__get__"))) && (decide (PySem.W.takesIn K (.builtin "object.__class__") = some true) && decide (PySem.W.mroIn K D (.type "object") = some true)))))))
def sortB (K : PySem.W.Frag) (x : Str) (i : Nat) : Bool := excCB K (He.ga K x) && (decide (i < 30) && (((List.range 30).all fun j => decide (PySem.W.kitOne K (.ref (He.ga K x)) (.ref (He.ga K (errL.getD j x))) = some (decide (i = j)))) &&
  (decide (PySem.W.kitOne K (.ref (He.ga K x)) (.ref (He.ga K "PassError")) = some (decide (i < 17))) && (decide (PySem.W.kitOne K (.ref (He.ga K x)) (.ref (He.ga K "FindError")) = some (decide (16 < i) && decide (i < 25))) && (decide (PySem.W.kitOne K (.ref (He.ga K x)) (.ref (He.ga K "LimitError")) = some (decide (24 < i))) &&
  (decide (PySem.W.kitOne K (.ref (He.ga K x)) (.type "ValueError") = some (decide (i < 17))) && (decide (PySem.W.kitOne K (.ref (He.ga K x)) (.type "LookupError") = some (decide (16 < i) && decide (i < 25))) && decide (PySem.W.kitOne K (.ref (He.ga K x)) (.type "ArithmeticError") = some (decide (24 < i))))))))))
/-- the classes' part of what the top has left -/
def clB (K : PySem.W.Frag) (x f : Str) (i : Nat) : Bool := ecB K x f && (sortB K x i && decide (PySem.W.exmAny K (.ref (He.ga K x)) [.ref (He.ga K "PassError"), .ref (He.ga K "FindError"), .ref (He.ga K "LimitError")] = some true))
end Lp
namespace Lp
open PySem PySem.Spec PyProof.Rows L2
/-! ### what the head has left of error classes over other bases -/
/-- what is asked of such a class, as a test -/
def etB (K : PySem.W.Frag) (x f : Str) (rows : List Value) (maker : String) : Bool := PySem.W.excInitIn K (He.ga K x) rows maker && (PySem.W.excOver K (He.ga K x) rows && (PySem.W.hasDictIn K (He.ga K x) && (decide (PySem.W.findIn K (.ref (He.ga K x)) "__setattr__" = some (some (.builtin "object.__setattr__"))) && (decide (PySem.W.subIn K (.ref (He.ga K x)) (.type "BaseException") = some true) && (decide (PySem.W.typeIn K (.ref (He.ga K x)) = some (.type "type")) && (PySem.W.keepIn K (.ref (He.ga K x)) &&
  (xfB K (He.ga K x) && (decide (PySem.W.findIn K (.ref (He.ga K x)) f = some none) && (decide (PySem.W.findIn K (.ref (He.ga K x)) "__init__" = some (some (.ref (He.ma K (He.ga K x) "__init__")))) && decide (PySem.W.typeIn K (.ref (He.ma K (He.ga K x) "__init__")) = some (.type "function")))))))))))
abbrev rowsA : List Value := [.type "ArithmeticError", .type "Exception", .type "BaseException", .type "object"]
abbrev rowsL : List Value := [.type "LookupError", .type "Exception", .type "BaseException", .type "object"]
/-- the classes' part of what the top has left -/
def clT (K : PySem.W.Frag) (x f : Str) (i : Nat) (rows : List Value) (maker : String) : Bool := etB K x f rows maker && (sortB K x i && decide (PySem.W.exmAny K (.ref (He.ga K x)) [.ref (He.ga K "PassError"), .ref (He.ga K "FindError"), .ref (He.ga K "LimitError")] = some true))
end Lp
namespace Lp
open PySem PySem.Spec PyProof.Rows L2
def top (i : Nat) : Stmt := PySem.Challenge.pw_lastpasses_k45_wishes_refused.main.body.getD i (.Pass ⟨0, 0, 0, 0⟩)
/-! ### what the top has left; the head -/
def fnL : List He.DefD := [mkD "is_whole" (top 37), mkD "is_whole_from" (top 38), mkD "is_height" (top 39), mkD "may_be_row" (top 40), mkD "wrong_height" (top 41), mkD "check_heights" (top 42), mkD "is_wish" (top 43), mkD "wrong_wish" (top 44), mkD "may_stand" (top 45), mkD "next_steps" (top 46), mkD "check_wishes" (top 48), mkD "count_words" (top 49), mkD "first_word" (top 50), mkD "_law_cell" (top 52), mkD "_law_pool" (top 53), mkD "_law_draw" (top 54), mkD "_law_persons" (top 55), mkD "_law_shuffled" (top 56), mkD "_law_letters" (top 57), mkD "_law_placed" (top 58), mkD "_law_a_wish" (top 59), mkD "_law_whole" (top 60), mkD "_law_sort" (top 61), mkD "_law_odd_persons" (top 62), mkD "_law_odd_asked" (top 63), mkD "_law_wrong_persons" (top 64), mkD "_law_wrong_asked" (top 65), mkD "_law_caught" (top 66), mkD "_law_due" (top 67), mkD "_law_call_right" (top 68), mkD "law" (top 69), mkI "InvalidHeights" "InvalidHeights.__init__" (top 9), mkI "InvalidWishes" "InvalidWishes.__init__" (top 10)]
def faL : List He.Fa := [.glo "is_whole", .glo "is_whole_from", .glo "is_height", .glo "may_be_row", .glo "wrong_height", .glo "check_heights", .glo "is_wish", .glo "wrong_wish", .glo "may_stand", .glo "next_steps", .glo "check_wishes", .glo "count_words", .glo "first_word", .glo "_law_cell", .glo "_law_pool", .glo "_law_draw", .glo "_law_persons", .glo "_law_shuffled", .glo "_law_letters", .glo "_law_placed", .glo "_law_a_wish", .glo "_law_whole", .glo "_law_sort", .glo "_law_odd_persons", .glo "_law_odd_asked", .glo "_law_wrong_persons", .glo "_law_wrong_asked", .glo "_law_caught", .glo "_law_due", .glo "_law_call_right", .glo "law", .free "isinstance", .free "int", .free "bool", .free "tuple", .free "len", .free "enumerate", .free "all", .free "range", .free "sum", .free "min", .free "abs", .free "divmod", .free "list", .free "sorted", .free "ValueError", .free "LookupError", .free "ArithmeticError", .free "repr", .free "max", .int "GREATEST_HEIGHT" 999, .int "MOST_PEOPLE" 12] ++ (errL ++ (["PassError", "FindError", "LimitError"] : List Str)).map He.Fa.glo
def exL : PySem.W.Frag → Bool := fun K => true && clB K "InvalidHeights" "index" 7 && clB K "InvalidWishes" "index" 8
def loose0 : List PySem.Str := ["PassError", "InvalidRow", "InvalidNumber", "InvalidKind", "InvalidWord", "InvalidSize", "InvalidProgram", "InvalidText", "InvalidHeights", "InvalidWishes", "InvalidRecord", "InvalidPattern", "InvalidShare", "InvalidPeople", "InvalidName", "InvalidHeight", "InvalidDeed", "InvalidCommand", "FindError", "NotFinal"]
def loose1 : List PySem.Str := ["OtherPersons", "UnknownName", "UnknownHeight", "NoOrder", "NameTaken", "HeightTaken", "NothingToUndo", "LimitError", "TooManySeats", "TooManyPeople", "WordTooShort", "TooManyDeeds", "LastPerson", "MOST_PEOPLE", "GREATEST_HEIGHT", "is_whole", "is_whole_from", "is_height", "may_be_row", "wrong_height"]
def loose2 : List PySem.Str := ["check_heights", "is_wish", "wrong_wish", "may_stand", "next_steps", "check_wishes", "count_words", "first_word", "_law_cell", "_law_pool", "_law_draw", "_law_persons", "_law_shuffled", "_law_letters", "_law_placed", "_law_a_wish", "_law_whole", "_law_sort", "_law_odd_persons", "_law_odd_asked"]
def loose3 : List PySem.Str := ["_law_wrong_persons", "_law_wrong_asked", "_law_caught", "_law_due", "_law_call_right"]
def loose : List PySem.Str := loose0 ++ loose1 ++ loose2 ++ loose3

abbrev R : PySem.W.OpenRow := PySem.W.OpenLaw.row PySem.Challenge.rw_lastpasses_k45_wishes_refused
abbrev hk : PySem.W.Hook := hookL 4 faL fnL exL
def ob (s : PySem.W.SharedT) : He.AlD × Bool := obL 4 faL fnL exL (HandSHeadRun.getT s)
theorem ob_eq (s : PySem.W.SharedT) : ob s = hk.obs s.abs := obL_eq (HandSHeadRun.getT_eq s)
theorem run (w : World) : HandSHeadRun.RunEq R (PySem.W.view R.prog [69]) hk ob 20000 loose w := by
  intro os
  kernel_rfl
end Lp
/-! ### sorted of a tuple of ints -/
namespace Lp
open PySem PySem.Spec PyProof.Rows L2
section
variable {prog : Program} {w : World} {A : Around} {E : Value → Shared → Prop} {s : Shared}
/-- sorted(t): the items are gathered (the heap grows to some g), laid into a new list, and that list is put in order -/
theorem sortedT {t : Addr} {us : List Value} {ns : List Int} {Q : Value → Shared → Prop} (tup : s.heap.IsTuple t us.toArray) (nums : IntsAre us ns) (few : us.length < 64)
    (q : ∀ (g : Heap) (out : Array Value) (ms : List Int), (∀ b o, s.heap.get? b = some o → g.get? b = some o) → IntsAre out.toList ms → ms.Perm ns → ms.Pairwise (· ≤ ·) →
      Q (.ref g.objs.size) { s with heap := sortedHeap (g.push (seqObj "list" us.toArray 0)) g.objs.size us out }) :
    wpAny (model prog w) A (call (.builtin "sorted") [.ref t]) Q E s := by
  obtain ⟨o, ho, cls, m, dat⟩ := tup
  have small : us.toArray.size ≤ sizeLine := by
    rw [List.size_toArray]
    exact Nat.le_of_lt (len_lt (Nat.le_trans (Nat.le_of_lt few) (by decide)))
  refine Calls.call_function_entry kind_sorted plain_sorted entry_sorted (args_sorted1 (.ref t)) ?_
  unfold Builtin.«sorted»
  refine wpAny_bind (m := checkCount "sorted" 1 1 1) (wpAny_pure (wpAny_bind (wpAny_collect_seq t (.inr rfl) ho cls dat (fun g old => ?_) small)))
  refine wpAny_bind (wpAny_newList ?_ (by rw [← List.size_toArray]; exact small))
  have new : (g.push (seqObj "list" us.toArray 0)).get? g.objs.size = some (seqObj "list" us.toArray 0) := Heap.get?_push_size g rfl
  exact wpAny_bind (wpAny_holding (wpAny_call_entry slot_list_sort ⟨_, new, rfl⟩ entry_list_sort (list_sort_tree new nums few fun out ms i1 i2 i3 => ⟨_, rfl, wpAny_pure ⟨_, rfl, q g out ms old i1 i2 i3⟩⟩) (args_list_sort (.ref g.objs.size))))
end
def rSortedTp (K : PySem.W.Frag) : List V → Hp → VK → Prop := fun vs H Q => ∃ (a : Addr) (ns : List Int), vs = [V.ref a] ∧ SqT K H a (ns.map V.int) ∧ ns.length < 64 ∧
  ∀ (ms : List Int) (p : Addr), ms.Perm ns → ms.Pairwise (· ≤ ·) → H p = none → Q (.ref p) (upd H p (.lst (ms.map V.int)))
theorem cr_sortedTp {X : Cx} : CallR X (.builtin "sorted") (rSortedTp X.K) := fun pins s σ H vs us Q I r h => by
  obtain ⟨a, ns, rfl, sq, few, q⟩ := h
  obtain ⟨its, rv, tup, _⟩ := I.tuple sq
  rw [Vals.ref1 r]
  have nums := rv.ints
  refine sortedT tup nums (nums.length ▸ few) fun g out ms old i1 i2 i3 => ?_
  have I1 : Inv X pins σ H { s with heap := g } := I.kept (t' := s.toks) old
  have size : (ms.map V.int).length ≤ sizeLine := by
    rw [List.length_map, i2.length_eq]
    exact Nat.le_of_lt (len_lt (by omega))
  obtain ⟨ep, there⟩ := PyProof.Rows.sortedHeap_at (vs := its) (out := out) (Heap.get?_push_size g rfl : (g.push (seqObj "list" its.toArray 0)).get? g.objs.size = some (seqObj "list" its.toArray 0))
  have J := I1.laid (t' := s.toks) (a := g.objs.size) (o := .lst (ms.map V.int)) (h' := sortedHeap (g.push (seqObj "list" its.toArray 0)) g.objs.size its out) (fun b u z => by
    have lt := Heap.lt_size z
    rw [PyProof.Rows.sortedHeap_old (Nat.ne_of_lt lt) (by rw [size_push']; exact Nat.lt_succ_of_lt lt)]
    exact Heap.get?_push_of_some _ z) (Nat.le_refl _) ⟨size, out.toList, ep, vals_of_ints i1, there⟩
  exact ⟨.ref g.objs.size, _, J, rfl, q ms _ i2 i3 (I1.hok.fresh (Nat.le_refl _))⟩
end Lp
/-! ### promises of defs that are called where no repr is under way -/
namespace Lp
open PySem PySem.Spec PyProof.Rows L2
structure FnG (P : Program) (w : World) (K : PySem.W.Frag) (mg : Str → Option Value) (base : Heap) (k : Nat) (f : Addr) (fd : FuncData) (ps : List Str) (sp : Sp) : Prop where
  len : ∀ vs H Q E, sp vs H Q E → vs.length = ps.length
  run : ∀ (A : Around) (outer : List Env) (s : Shared) (H : Hp) (args : Args) (us : List Value) (vs : List V) (Q : VK) (E : XK), Room k A → A.guards = some [] → Env0 P w K mg base A outer s H →
    BindsTo s fd args (ps.zip us) → Vals vs us → sp vs H Q E → codeAny (model P w) A (.call (.ref f) args) (CR CX0 outer P w H s Q E) s
structure ClG (P : Program) (w : World) (K : PySem.W.Frag) (mg : Str → Option Value) (base : Heap) (k : Nat) (x : Str) (st : Stmt) (ps : List Str) (sp : Sp) : Prop where
  ex : ∃ f fd, FnP K x st f fd ∧ FnG P w K mg base k f fd ps sp ∧ mg x = some (.ref f) ∧ Binds K fd ps []
section
variable {P : Program} {w : World} {K : PySem.W.Frag} {mg : Str → Option Value} {base : Heap} {x : Str} {st : Stmt} {N ps : List Str} {k : Nat} {sp : Sp} {f : Addr}
theorem Df.okG (D : Df K mg x st) (S : FnScope N ps (defScope st))
    (bd : ∀ (kV doc pm : Value) (an : Option Addr) (cdv ct : Value) (us : List Value), us.length = ps.length → bindArgs (PySem.W.fnOf x x (defArgs st) (defBody st) (defScope st) .none kV doc pm an cdv ct) ⟨us, []⟩ = pure (ps.zip us))
    (len : ∀ vs H Q E, sp vs H Q E → vs.length = ps.length)
    (body : ∀ (f : Addr) (cdv : Value) (A : Around) (outer : List Env) (s : Shared) (H : Hp) (vs : List V) (Q : VK) (E : XK), Room k (A.deeper (envOfC x (defScope st) s.heap.objs.size f cdv)) → A.guards = some [] → sp vs H Q E →
      ∃ t, PSs (cxOf CX0 P w K mg base N x (defScope st) f cdv A outer s H E).nox (defBody st) t ∧ t { nx := fun _ H' => Q .non H', rt := Q } (start N vs) H) : ClG P w K mg base (k + 1) x st ps sp := by
  obtain ⟨f, fd, F, hm⟩ := D.ex
  refine ⟨f, fd, F, ?_, hm, F.bindsN bd⟩
  obtain ⟨oc, od, dV, kV, doc, pm, an, cdv, ct, osl, rfl, lk, hcd, _, _⟩ := F.ex
  refine ⟨len, fun A outer s H args us vs Q E hr hgd e0 hb rel hsp => ?_⟩
  have ln := len _ _ _ _ hsp
  have kx : K.In s.heap := e0.mod.kin.keeps fun b o e => (e0.bs b o e).1
  have nl : s.heap.NoLimit := e0.mod.nolimit.keeps fun b o e => (e0.bs b o e).1
  have kinds : ∀ y ∈ ps.zip us, (defScope st).names.lookup y.1 = some .local ∨ ((defScope st).names.lookup y.1 = some .cell ∧ ((cellsFrom (s.heap.objs.size + 1) (defScope st).names []).lookup y.1).isSome = true) := fun y hy => by
    obtain ⟨nm, vl⟩ := y
    rcases S.par nm (List.of_mem_zip hy).1 with z | z
    · exact Or.inl z
    · exact Or.inr ⟨z, PySem.W.cellsFrom_some _ _ _ (Or.inl z)⟩
  refine codeAny_call_function hr.depth (kx _ _ lk) rfl S.co S.gen rfl (PySem.W.codeRec_of kx hcd) (hb _ _ _ _ ?_)
  refine wpAny_newFunctionEnv_cells S.kind kinds fun env henv s1 xc => ?_
  subst henv
  refine ⟨nl.keeps xc.toInCall.keep, codeAny_func ?_⟩
  obtain ⟨t, ht, hq⟩ := body f cdv A outer s H vs Q E (hr.deeper _) hgd hsp
  have ini : L2.Inv (cxOf CX0 P w K mg base N x (defScope st) f cdv A outer s H E) [] (start N vs) H s1 := inv_start S hr.hd e0 ln rel xc
  refine wpAny_mono (ht.nox.run [] s1 (start N vs) H _ ini hq) (fun fl s2 hs => ?_) fun e s2 hs => hs
  have back : ∀ {σ2 : L2.St} {H2 : Hp} {v : V} {u : Value}, L2.Inv (cxOf CX0 P w K mg base N x (defScope st) f cdv A outer s H E) [] σ2 H2 s2 → RelV v u → Q v H2 → CE outer P w H s Q u s2 :=
    fun {σ2 H2 v u} J rv q => ⟨v, H2, J.os, J.bare, J.base, J.hok, rv, q⟩
  cases fl with
  | ret u =>
    obtain ⟨v, σ2, H2, J, rv, q⟩ := hs
    exact back J rv q
  | next =>
    obtain ⟨σ2, H2, J, q⟩ := hs
    exact back (v := V.non) (u := Value.none) J rfl q
  | brk =>
    obtain ⟨_, _, _, q⟩ := hs
    exact q.elim
  | cont =>
    obtain ⟨_, _, _, q⟩ := hs
    exact q.elim
theorem ClG.last (D : Df K mg x st) (hf : mg x = some (.ref f)) (c : ∀ base, ClG P w K mg base k x st ps sp) : ∃ fd, FnP K x st f fd ∧ ∀ base, FnG P w K mg base k f fd ps sp := by
  obtain ⟨f0, fd0, F0, m0⟩ := D.ex
  have e0 : f0 = f := Value.ref.inj (Option.some.inj (m0.symm.trans hf))
  subst e0
  refine ⟨fd0, F0, fun base => ?_⟩
  obtain ⟨f1, fd1, F1, G1, m1, _⟩ := (c base).ex
  have e1 : f1 = f0 := Value.ref.inj (Option.some.inj (m1.symm.trans hf))
  subst e1
  obtain ⟨_, _, _, _, _, _, _, _, _, _, _, l0, _⟩ := F0.ex
  obtain ⟨_, _, _, _, _, _, _, _, _, _, _, l1, _⟩ := F1.ex
  have e2 := l0.symm.trans l1
  simp only [Option.some.injEq, Obj.mk.injEq, Data.func.injEq] at e2
  rw [e2.2.2.1]
  exact G1
end
section
variable {X : Cx} {x : Str} {st : Stmt} {ps ks : List Str} {j k : Nat} {sp : Sp} {e : Expr} {es : List Expr} {t : TA} {p pos : Pos}
theorem pe_ug (c : ClG X.prog X.w X.K X.mg X.base k x st ps sp) (hr : Room j X.A) (hgd : X.A.guards = some []) (hk : k ≤ j) (hg : Gl X x) (ha : PA X (e :: es) t)
    (hdb : (x == ("__debug__" : Str)) = false := by decide) (he : starEach (e :: es) X.env = (false, eval e X.env) :: starEach es X.env := by rfl) (hpl : (backTo pos (starEach es X.env)).any (·.1) = false := by rfl) :
    PE X (.Call (.Name x p) (e :: es) [] pos) (tCall sp [] E0 t) := by
  obtain ⟨f, fd, F, G, hm, b⟩ := c.ex
  refine ⟨fun pins s σ H Q I h => wpAny_Call_Name_kw (ld_glob I hg hm ?_ hdb)⟩
  refine PySem.W.callWith_K (h₀ := X.base) I.ok.mod.kin F.kp (thn (ha.run pos pins s σ H _ I h) fun us s1 ⟨vs, H1, I1, rel, q⟩ => ⟨I1.kIn, ?_⟩) he hpl
  have q1 : sp vs H1 Q E0 := by
    have z : sp (vs ++ []) H1 Q E0 := q
    rw [List.append_nil] at z
    exact z
  have ln : (us ++ []).length = ps.length := by
    rw [List.append_nil, ← rel.length]
    exact G.len _ _ _ _ q1
  have bd := b s1 us I1.kIn ln
  rw [List.append_nil] at bd
  refine wpAny_call (codeAny_mono (G.run X.A X.stack s1 H1 ⟨us, []⟩ us vs Q E0 (hr.mono hk) hgd I1.env0 bd rel q1) fun res s2 hq => ?_)
  cases res with
  | error er => exact hq.elim
  | ok fl =>
    cases fl with
    | ret u => exact I1.after hq
    | next => exact hq.elim
    | brk => exact hq.elim
    | cont => exact hq.elim
end
/-- the law's own call, no repr under way -/
theorem lawCallG {P : Program} {w : World} {K : PySem.W.Frag} {mg mb : Str → Option Value} {k : Nat} {fa a : Addr} {fd : FuncData} {x : Str} {sp : Sp} {s1 : Shared} {vs : List Value} {ns : List Int}
    (kx : K.In s1.heap) (gns : s1.heap.Ns mainGlobals mg) (bns : s1.heap.Ns builtinsNs mb) (bbt : ∀ x : Str, x ≠ "__name__" → mb x = bootBuiltins x) (nlim : s1.heap.NoLimit) (gen0 : s1.gens = #[])
    (hob : s1.heap.get? a = some { cls := .type "list", data := .seq vs.toArray }) (hint : IntsAre vs ns) (hlen : ns.length ≤ sizeLine) (hr : Room k callerA)
    (F : ∀ base : Heap, FnG P w K mg base k fa fd [x] sp) (hbind : ∀ (s : Shared) (u : Value), BindsTo s fd ⟨[u], []⟩ [(x, u)])
    (hsp : ∀ H : Hp, SqL K H a (ns.map V.int) → sp [.ref a] H (fun v _ => v = .bl true) fun _ _ _ => False) :
    codeAny (model P w) callerA (.call (.ref fa) ⟨[.ref a], []⟩) (fun r s' => r = .ok (.ret (.bool true)) ∧ OldK s1.heap s'.heap ∧ s'.os = s1.os ∧ AllBare s'.gens) s1 := by
  have rel := vals_ints hint
  have lv := hint.length
  have main : ∀ H : Hp, SqL K H a (ns.map V.int) → HOk P w H s1.heap → (∀ b u, H b = some u → b = a ∧ K.lookup a = none ∧ ∃ xs, u = .frz { cls := .type "list", data := .seq vs.toArray } (.lst xs)) →
      codeAny (model P w) callerA (.call (.ref fa) ⟨[.ref a], []⟩) (fun r s' => r = .ok (.ret (.bool true)) ∧ OldK s1.heap s'.heap ∧ s'.os = s1.os ∧ AllBare s'.gens) s1 := by
    intro H hS hok only
    have free : ∀ {b : Addr} {o : Obj}, s1.heap.get? b = some o → o ≠ { cls := .type "list", data := .seq vs.toArray } → H b = none := fun {b o} e ne => by
      cases hb : H b with
      | none => rfl
      | some u =>
        obtain ⟨rfl, _, _⟩ := only b u hb
        rw [hob] at e
        exact absurd (Option.some.inj e).symm ne
    have nsk : ∀ {b : Addr} {m : Str → Option Value}, s1.heap.Ns b m → (hidT s1.heap H).Ns b m := fun {b m} z => by
      obtain ⟨o, es, ep, e, d, r⟩ := z
      exact ⟨o, es, ep, hidT_get e (free e fun q => by rw [q] at d; cases d), d, r⟩
    have kb : K.In (hidT s1.heap H) := fun b o e => hidT_get (kx b o e) (by
      cases hb : H b with
      | none => rfl
      | some u =>
        obtain ⟨rfl, z, _⟩ := only b u hb
        rw [z] at e
        cases e)
    obtain ⟨mc, c1, c2⟩ := nlim
    have md : Mod K mg (hidT s1.heap H) := ⟨kb, nsk gns, ⟨mb, nsk bns, bbt⟩, ⟨mc, nsk c1, c2⟩⟩
    have en : Env0 P w K mg (hidT s1.heap H) callerA [] s1 H := ⟨rfl, md, fun b o e => of_hidT e, Nat.le_of_eq (hidT_size _ _), trivial, fun b hb => absurd (show b ∈ ([] : List Addr) from hb) List.not_mem_nil, hok, .of_eq gen0⟩
    refine codeAny_mono ((F _).run callerA [] s1 H ⟨[.ref a], []⟩ [.ref a] [.ref a] _ _ hr rfl en (hbind s1 (.ref a)) (.cons rfl .nil) (hsp H hS)) fun r s2 h => ?_
    cases r with
    | error e => exact h.elim
    | ok fl =>
      cases fl with
      | next => exact h.elim
      | brk => exact h.elim
      | cont => exact h.elim
      | ret u =>
        obtain ⟨v, H2, os, bare, un, hok2, rv, q⟩ := h
        have q2 : v = .bl true := q
        subst q2
        obtain rfl : u = Value.bool true := rv
        refine ⟨rfl, OldK.of_keep fun b o e => ?_, os, bare⟩
        cases hb : H b with
        | none => exact un.keep b o e hb (fun z => absurd (show b ∈ ([] : List Addr) from z) List.not_mem_nil) List.not_mem_nil
        | some u =>
          obtain ⟨_, _, xs, rfl⟩ := only b u hb
          obtain ⟨z1, _⟩ := hok b _ hb
          obtain ⟨z2, _⟩ := hok2 b _ (un.frzs b _ _ hb)
          rw [z1] at e
          cases e
          exact z2
  cases hk : K.lookup a with
  | some o =>
    have e := kx a o hk
    rw [hob] at e
    cases e
    refine main (fun _ => none) (.inr ⟨_, vs.toArray, _, hk, rfl, rfl, rfl, by rw [List.size_toArray, lv]; exact hlen, by simpa using rel⟩) (fun b u z => nomatch z) fun b u z => nomatch z
  | none =>
    refine main (fun b => if b = a then some (.frz { cls := .type "list", data := .seq vs.toArray } (.lst (ns.map V.int))) else none) (.inl (.inr ⟨_, if_pos rfl⟩)) (fun b u z => ?_) fun b u z => ?_
    · by_cases hb : b = a
      · have z2 := (if_pos hb).symm.trans z
        cases z2
        subst hb
        exact ⟨hob, by rw [List.length_map]; exact hlen, vs, _, rel, hob⟩
      · have z2 := (if_neg hb).symm.trans z
        cases z2
    · by_cases hb : b = a
      · have z2 := (if_pos hb).symm.trans z
        cases z2
        exact ⟨hb, hk, _, rfl⟩
      · have z2 := (if_neg hb).symm.trans z
        cases z2
theorem walkG {l : PySem.W.OpenLaw} {n k : Nat} {q : Program} {loose : List Str} {XP : (Str → Option Value) → Heap → Prop} {YP : World → Heap → Prop} {d : DefRec} {x : Str}
    (hn : l.most = some n) (hn2 : n ≤ sizeLine) (hdf : d.params.defaults = []) (hr : Room k callerA)
    (F : ∀ (w : World) (mg : Str → Option Value) (fa : Addr) (h : Heap), YP w h → h.Ns mainGlobals mg → mg d.name = some (.ref fa) →
      ∃ (K : PySem.W.Frag) (fd : FuncData) (sp : Sp), K.In h ∧ (∀ (s : Shared) (u : Value), BindsTo s fd ⟨[u], []⟩ [(x, u)]) ∧
        (∀ (H : Hp) (a : Addr) (ns : List Int), ns.length ≤ n → SqL K H a (ns.map V.int) → sp [.ref a] H (fun v _ => v = .bl true) fun _ _ _ => False) ∧ ∀ base : Heap, FnG l.prog w K mg base k fa fd [x] sp) :
    PySem.W.WalkO q loose XP YP l.row.toRowW d [] (fun f vs => PySem.call f vs) := by
  refine Att.attach_call hn hdf fun w s0 s1 mg mb fa o pm cd doc a vs ns G Y ho hd hcd hmg hobj hints hlen hg => ?_
  obtain ⟨K, fd, sp, kx, hb, hsp, hF⟩ := F w mg fa _ Y G.T.g hmg
  exact lawCallG kx G.T.g G.T.b G.T.builtins G.T.nolimit hg hobj hints (Nat.le_trans hlen hn2) hr hF hb fun H hS => hsp H a ns hlen hS
/-! ### repr of data -/
def rReprD (K : PySem.W.Frag) : List V → Hp → VK → Prop := fun xs H Q => ∃ (v : V) (d : PyData), xs = [v] ∧ Dp K H v d ∧ d.canLay0 = true ∧ d.depth ≤ 60 ∧ d.showable = true ∧ d.shown.length ≤ sizeLine ∧ Q (.str d.shown) H
theorem call_reprD {X : Cx} {k : Nat} (hr : Room k X.A) (hgd : X.A.guards = some []) : CallR X (.builtin "repr") (rReprD X.K) := by
  intro pins s σ H xs us Q I r h
  obtain ⟨v, d, rfl, hd, hl, hdp, hs, hz, q⟩ := h
  obtain ⟨u, rfl, rv⟩ := vals1 r
  have fin : ∀ (h' : Heap) (t : Tok) (tk : Tok), (∀ b o, s.heap.get? b = some o → h'.get? b = some o) → EP X pins σ Q (.str d.shown t) { s with heap := h', toks := tk } := fun h' t tk hk =>
    ⟨.str d.shown, H, I.kept (t' := tk) hk, ⟨t, rfl⟩, q⟩
  have fin0 : ∀ (t tk : Tok), EP X pins σ Q (.str d.shown t) { s with toks := tk } := fun t tk => fin s.heap t tk fun _ _ e => e
  have hu := hr.un
  obtain ⟨as, rd⟩ := Dp.reads I d v u hd rv
  cases hd with
  | non =>
    cases rv
    exact PySem.P.repr_of_none (fin0 _ _)
  | bl b =>
    cases rv
    have z := fin0 s.toks (s.toks + 1)
    cases b <;> exact PySem.P.repr_of_bool z
  | int i =>
    obtain ⟨t, rfl⟩ := rv
    have hs2 : i.natAbs.log2 < 1920 := of_decide_eq_true hs
    exact PySem.P.repr_of_int hs2 (fin0 _ _)
  | str x =>
    obtain ⟨t, rfl⟩ := rv
    exact PySem.P.repr_of_str (fin0 _ _) hz
  | lst _ _ =>
    cases rv
    exact repr_of_reads' rd hs (PyData.noDict_hsm (PyData.hasDict_of_canLay _ hl)) hgd (by omega) (fun _ _ e => e) (fun h' t tk hk => fin h' t tk hk) hz
  | tup _ _ =>
    cases rv
    exact repr_of_reads' rd hs (PyData.noDict_hsm (PyData.hasDict_of_canLay _ hl)) hgd (by omega) (fun _ _ e => e) (fun h' t tk hk => fin h' t tk hk) hz
end Lp
namespace Lp
open PySem PySem.Spec PyProof.Rows L2
/-! ### parts of a text -/
def lcScope : Expr → Scope
  | .ListComp _ _ sc _ => sc
  | _ => { kind := .function, names := [], isGenerator := false, isCoroutine := false }
def asgVal : Stmt → Expr
  | .Assign _ v _ => v
  | _ => .Constant .none 0 ⟨0, 0, 0, 0⟩
/-! ### ranks and signs -/
def rk (ns : List Int) (x : Int) : Int := 1 + ((ns.filter fun y => decide (y < x)).length : Nat)
def ranksL (ns : List Int) : List Int := ns.map (rk ns)
theorem filter_lt_none : ∀ {l : List Int} {x : Int}, (∀ y ∈ l, x ≤ y) → (l.filter fun y => decide (y < x)) = []
  | [], _, _ => rfl
  | a :: l, x, h => by
    rw [List.filter_cons, decide_eq_false (by have := h a (List.mem_cons_self ..); omega)]
    exact filter_lt_none fun y hy => h y (List.mem_cons_of_mem _ hy)
theorem filter_sorted : ∀ {l : List Int} {j : Nat} (h : j < l.length), l.Pairwise (· ≤ ·) → l.Nodup → (l.filter fun y => decide (y < l[j])).length = j
  | a :: l, 0, _, hp, _ => by
    rw [List.pairwise_cons] at hp
    show ((a :: l).filter fun y => decide (y < a)).length = 0
    rw [filter_lt_none fun y hy => ?_]
    · rfl
    · rcases List.mem_cons.mp hy with z | z
      · omega
      · exact hp.1 y z
  | a :: l, j + 1, h, hp, hn => by
    rw [List.pairwise_cons] at hp
    rw [List.nodup_cons] at hn
    have h2 : j < l.length := Nat.lt_of_succ_lt_succ h
    show ((a :: l).filter fun y => decide (y < l[j])).length = j + 1
    have hm : l[j] ∈ l := List.getElem_mem h2
    have lt : a < l[j] := by
      have := hp.1 _ hm
      rcases Int.lt_or_eq_of_le this with z | z
      · exact z
      · rw [z] at hn
        exact absurd hm hn.1
    rw [List.filter_cons, decide_eq_true lt]
    show ((l.filter fun y => decide (y < l[j])).length) + 1 = j + 1
    rw [filter_sorted h2 hp.2 hn.2]
theorem rk_sorted {ns ms : List Int} (hp : ms.Perm ns) (hs : ms.Pairwise (· ≤ ·)) (hn : ms.Nodup) {j : Nat} (h : j < ms.length) : rk ns ms[j] = 1 + (j : Nat) := by
  unfold rk
  rw [← (hp.filter fun y => decide (y < ms[j])).length_eq, filter_sorted h hs hn]
def sg (b : Bool) : Str := if b then Str.ofString "1" else Str.ofString "0"
def sgL (ns : List Int) (h : Int) : List Str := ns.map fun x => sg (decide (h ≤ x))
def signS (ns : List Int) (h : Int) : Str := Txt.join (Str.ofString "") (sgL ns h)
theorem sgL_len (ns : List Int) (h : Int) : ((sgL ns h).map (·.length)).sum + (sgL ns h).length * (Str.ofString "").length ≤ ns.length := by
  have e0 : (Str.ofString "").length = 0 := by decide +kernel
  rw [e0, Nat.mul_zero, Nat.add_zero]
  unfold sgL
  induction ns with
  | nil => exact Nat.le_refl _
  | cons a l ih =>
    rw [List.map_cons, List.map_cons, List.sum_cons, List.length_cons]
    have e1 : (sg (decide (h ≤ a))).length = 1 := by
      unfold sg
      split <;> decide +kernel
    rw [e1]
    omega
theorem take_succ_map {α β : Type} {f : α → β} {l : List α} {i : Nat} (h : i < l.length) : ((l.take (i + 1)).map f) = (l.take i).map f ++ [f l[i]] := by
  rw [List.take_add_one, List.getElem?_eq_getElem h, List.map_append]
  rfl
theorem take_succ_filter {p : Int → Bool} {l : List Int} {i : Nat} (h : i < l.length) : ((l.take (i + 1)).filter p) = if p l[i] = true then (l.take i).filter p ++ [l[i]] else (l.take i).filter p := by
  rw [List.take_add_one, List.getElem?_eq_getElem h, List.filter_append]
  show _ ++ ([l[i]].filter p) = _
  cases hp : p l[i] with
  | true => rw [if_pos rfl]; simp [hp]
  | false => rw [if_neg (by decide)]; simp [hp]
end Lp
namespace Lp
open PySem PySem.Spec PyProof.Rows L2
/-! ### repr of rows -/
abbrev rowS (ns : List Int) : Str := (PyData.tuple (ns.map PyData.int)).shown
theorem small_log {x : Int} (h : 1 ≤ x ∧ x ≤ 999) : x.natAbs.log2 < 1920 := by
  have h1 : x.natAbs < 2 ^ 10 := by omega
  have h2 := (Nat.log2_lt (by omega)).mpr h1
  omega
theorem showable_ints : ∀ {ns : List Int}, (∀ x ∈ ns, x.natAbs.log2 < 1920) → PyData.showableAll (ns.map PyData.int) = true
  | [], _ => by simp only [List.map_nil, PyData.showableAll]
  | n :: ns, h => by
    simp only [List.map_cons, PyData.showableAll, PyData.showable, Bool.and_eq_true]
    exact ⟨decide_eq_true (h n (List.mem_cons_self ..)), showable_ints fun x hx => h x (List.mem_cons_of_mem _ hx)⟩
theorem piled_ints : ∀ {ns : List Int}, (∀ x ∈ ns, x.natAbs.log2 < 1920) → piled (PyData.shownAll (ns.map PyData.int)) ≤ 1923 * ns.length
  | [], _ => by simp only [List.map_nil, PyData.shownAll, piled_nil, List.length_nil]; omega
  | n :: ns, h => by
    simp only [List.map_cons, PyData.shownAll, PyData.shown, piled_cons, List.length_cons]
    have h1 := int_text_len_1921 (h n (List.mem_cons_self ..))
    have h2 := piled_ints fun x hx => h x (List.mem_cons_of_mem _ hx)
    have h3 : (toString n : Str).length ≤ 1921 := h1
    omega
theorem row_dep (ns : List Int) : (PyData.tuple (ns.map PyData.int)).depth ≤ 60 := by
  simp only [PyData.depth, depth_ints]
  decide
theorem row_showI {ns : List Int} (hx : ∀ x ∈ ns, x.natAbs.log2 < 1920) : (PyData.tuple (ns.map PyData.int)).showable = true := by
  simp only [PyData.showable]
  exact showable_ints hx
theorem row_lenI {ns : List Int} (hl : ns.length ≤ 1000) (hx : ∀ x ∈ ns, x.natAbs.log2 < 1920) : (PyData.tuple (ns.map PyData.int)).shown.length ≤ sizeLine := by
  simp only [PyData.shown]
  have h1 := fmt_text (PyData.shownAll (ns.map PyData.int))
  have h2 := piled_ints hx
  rw [sizeLine_eq]
  omega
theorem row_show {ns : List Int} (r : Row ns) : (PyData.tuple (ns.map PyData.int)).showable = true := row_showI fun x hx => small_log (r.rng x hx)
theorem row_len {ns : List Int} (r : Row ns) : (PyData.tuple (ns.map PyData.int)).shown.length ≤ sizeLine := row_lenI (Nat.le_trans r.most (by decide)) fun x hx => small_log (r.rng x hx)
theorem run_mem (b : Bool) : ∀ (xs l s : List Int) (x : Int), (xs.foldl (stepW b) (l, s, x)).2.2 ∈ x :: xs
  | [], l, s, x => List.mem_cons_self ..
  | p :: xs, l, s, x => by
    rw [List.foldl_cons, show stepW b (l, s, x) p = (if takes b p x = true then (l ++ [x], s ++ [x], p) else (l ++ [p], s, x)) from rfl]
    split
    · exact List.mem_cons_of_mem _ (run_mem b xs _ _ p)
    · rcases List.mem_cons.mp (run_mem b xs (l ++ [p]) s x) with z | z
      · rw [z]
        exact List.mem_cons_self ..
      · exact List.mem_cons_of_mem _ (List.mem_cons_of_mem _ z)
theorem takes_eq {b : Bool} {p s : Int} (h : p ≠ s) : takes b p s = (decide (s < p) == b) := by
  unfold takes
  cases b with
  | true =>
    rw [if_pos rfl]
    cases decide (s < p) <;> rfl
  | false =>
    rw [if_neg (by decide)]
    by_cases z : s < p
    · rw [decide_eq_true z, decide_eq_false (by omega)]
      rfl
    · rw [decide_eq_false z, decide_eq_true (by omega)]
      rfl
theorem kindT (b : Bool) : decide (V.str (ltr b) = V.str (Str.ofString "T")) = b := by
  rw [ltrT]
  cases b with
  | true => exact decide_eq_true rfl
  | false => exact decide_eq_false fun z => absurd (ltr_inj (V.str.inj z)) (by decide)
theorem bl_eq (x y : Bool) : decide (V.bl x = V.bl y) = (x == y) := by
  cases x <;> cases y <;> rfl
end Lp
namespace Lp
open PySem PySem.Spec PyProof.Rows L2
/-! ### who sits down -/
def recB (b : Bool) (E : List Int) (p : Int) : Bool := E.all fun o => decide (o < p) == b
def dueUp (b : Bool) (ns : List Int) : Nat → List Int
  | 0 => []
  | i + 1 => if recB b (ns.take i) (ns.getD i 0) = true then dueUp b ns i ++ [ns.getD i 0] else dueUp b ns i
/-- s is the greatest (the least) so far -/
def Ext (b : Bool) (s : Int) (E : List Int) : Prop := s ∈ E ∧ ∀ o ∈ E, if b then o ≤ s else s ≤ o
theorem recB_takes {b : Bool} {s p : Int} {E : List Int} (h : Ext b s E) (hp : p ∉ E) : recB b E p = takes b p s := by
  obtain ⟨hs, he⟩ := h
  unfold recB takes
  cases b with
  | true =>
    rw [if_pos rfl]
    by_cases z : s < p
    · rw [decide_eq_true z, List.all_eq_true]
      intro o ho
      have h1 : o ≤ s := he o ho
      rw [decide_eq_true (by omega)]
      rfl
    · rw [decide_eq_false z, List.all_eq_false]
      refine ⟨s, hs, ?_⟩
      rw [decide_eq_false z]
      decide
  | false =>
    rw [if_neg (by decide)]
    have ne : p ≠ s := fun e => hp (e ▸ hs)
    by_cases z : p < s
    · rw [decide_eq_true z, List.all_eq_true]
      intro o ho
      have h1 : s ≤ o := he o ho
      rw [decide_eq_false (by omega)]
      rfl
    · rw [decide_eq_false z, List.all_eq_false]
      refine ⟨s, hs, ?_⟩
      rw [decide_eq_true (by omega)]
      decide
theorem run_ext (b : Bool) (x : Int) (xs : List Int) : ∀ i, i ≤ xs.length → Ext b ((xs.take i).foldl (stepW b) ([], [], x)).2.2 (x :: xs.take i)
  | 0, _ => ⟨List.mem_cons_self .., fun o ho => by
      rw [List.take_zero] at ho
      rw [List.mem_singleton.mp ho]
      show if b then x ≤ x else x ≤ x
      split <;> exact Int.le_refl _⟩
  | i + 1, h => by
    have lt : i < xs.length := h
    obtain ⟨hs, he⟩ := run_ext b x xs i (Nat.le_of_lt lt)
    rw [fold_take (List.getElem?_eq_getElem lt)]
    have tk : x :: xs.take (i + 1) = (x :: xs.take i) ++ [xs[i]] := by
      rw [List.take_add_one, List.getElem?_eq_getElem lt]
      rfl
    rw [tk]
    generalize (xs.take i).foldl (stepW b) ([], [], x) = r at hs he
    rw [show stepW b r xs[i] = (if takes b xs[i] r.2.2 = true then (r.1 ++ [r.2.2], r.2.1 ++ [r.2.2], xs[i]) else (r.1 ++ [xs[i]], r.2.1, r.2.2)) from rfl]
    by_cases ht : takes b xs[i] r.2.2 = true
    · rw [if_pos ht]
      refine ⟨List.mem_append_right _ (List.mem_singleton_self _), fun o ho => ?_⟩
      show if b then o ≤ xs[i] else xs[i] ≤ o
      unfold takes at ht
      cases b with
      | true =>
        rw [if_pos rfl] at ht ⊢
        have h1 := of_decide_eq_true ht
        rcases List.mem_append.mp ho with z | z
        · have h2 : o ≤ r.2.2 := he o z
          omega
        · rw [List.mem_singleton.mp z]
          omega
      | false =>
        rw [if_neg (by decide)] at ht ⊢
        have h1 := of_decide_eq_true ht
        rcases List.mem_append.mp ho with z | z
        · have h2 : r.2.2 ≤ o := he o z
          omega
        · rw [List.mem_singleton.mp z]
          omega
    · rw [if_neg ht]
      refine ⟨List.mem_append_left _ hs, fun o ho => ?_⟩
      show if b then o ≤ r.2.2 else r.2.2 ≤ o
      unfold takes at ht
      cases b with
      | true =>
        rw [if_pos rfl] at ht ⊢
        have h1 : ¬ r.2.2 < xs[i] := fun z => ht (decide_eq_true z)
        rcases List.mem_append.mp ho with z | z
        · exact he o z
        · rw [List.mem_singleton.mp z]
          omega
      | false =>
        rw [if_neg (by decide)] at ht ⊢
        have h1 : ¬ xs[i] < r.2.2 := fun z => ht (decide_eq_true z)
        rcases List.mem_append.mp ho with z | z
        · exact he o z
        · rw [List.mem_singleton.mp z]
          omega
theorem dueUp_run (b : Bool) {x : Int} {xs : List Int} (nd : (x :: xs).Nodup) : ∀ i, i ≤ xs.length → dueUp b (x :: xs) (i + 1) = ((xs.take i).foldl (stepW b) ([], [], x)).2.1 ++ [((xs.take i).foldl (stepW b) ([], [], x)).2.2]
  | 0, _ => rfl
  | i + 1, h => by
    have lt : i < xs.length := h
    have ih := dueUp_run b nd i (Nat.le_of_lt lt)
    have ex := run_ext b x xs i (Nat.le_of_lt lt)
    have gd : (x :: xs).getD (i + 1) 0 = xs[i] := by
      rw [List.getD_cons_succ, List.getD_eq_getElem?_getD, List.getElem?_eq_getElem lt]
      rfl
    have hp : xs[i] ∉ x :: xs.take i := fun hm => by
      rw [List.nodup_cons] at nd
      rcases List.mem_cons.mp hm with z | z
      · rw [← z] at nd
        exact nd.1 (List.getElem_mem lt)
      · obtain ⟨j, hj, e⟩ := List.mem_take_iff_getElem.mp z
        have := (List.getElem_inj nd.2).mp e
        omega
    show (if recB b ((x :: xs).take (i + 1)) ((x :: xs).getD (i + 1) 0) = true then dueUp b (x :: xs) (i + 1) ++ [(x :: xs).getD (i + 1) 0] else dueUp b (x :: xs) (i + 1)) = _
    rw [gd, show (x :: xs).take (i + 1) = x :: xs.take i from rfl, recB_takes ex hp, ih, fold_take (List.getElem?_eq_getElem lt)]
    generalize (xs.take i).foldl (stepW b) ([], [], x) = r
    rw [show stepW b r xs[i] = (if takes b xs[i] r.2.2 = true then (r.1 ++ [r.2.2], r.2.1 ++ [r.2.2], xs[i]) else (r.1 ++ [xs[i]], r.2.1, r.2.2)) from rfl]
    split <;> rfl
theorem dueUp_seat (b : Bool) {ns : List Int} (r : Row ns) : dueUp b ns ns.length = seatL b ns := by
  cases ns with
  | nil => exact absurd r.pos (by decide)
  | cons x xs =>
    have z := dueUp_run b r.nd xs.length (Nat.le_refl _)
    rw [List.take_length] at z
    exact z
theorem dueUp_len (b : Bool) (ns : List Int) : ∀ i, (dueUp b ns i).length ≤ i
  | 0 => Nat.le_refl _
  | i + 1 => by
    have := dueUp_len b ns i
    unfold dueUp
    split
    · rw [List.length_append]
      show _ + 1 ≤ _
      omega
    · omega
theorem dueUp_succ (b : Bool) {ns : List Int} {i : Nat} (h : i < ns.length) : dueUp b ns (i + 1) = if recB b (ns.take i) ns[i] = true then dueUp b ns i ++ [ns[i]] else dueUp b ns i := by
  have gd : ns.getD i 0 = ns[i] := by
    rw [List.getD_eq_getElem?_getD, List.getElem?_eq_getElem h]
    rfl
  show (if recB b (ns.take i) (ns.getD i 0) = true then dueUp b ns i ++ [ns.getD i 0] else dueUp b ns i) = _
  rw [gd]
/-- the last of the row behind a pass is the last who sat -/
theorem lasts (b : Bool) {ns : List Int} (h : 1 ≤ ns.length) : ∃ (z : Int) (ps ss : List Int), passL b ns = ps ++ [z] ∧ seatL b ns = ss ++ [z] := by
  cases ns with
  | nil => exact absurd h (by decide)
  | cons x xs => exact ⟨_, _, _, rfl, rfl⟩
theorem seat_mem (b : Bool) {ns : List Int} (r : Row ns) : ∀ x ∈ seatL b ns, x ∈ ns := by
  rw [← dueUp_seat b r]
  have go : ∀ i, i ≤ ns.length → ∀ x ∈ dueUp b ns i, x ∈ ns := by
    intro i
    induction i with
    | zero => intro _ x hx; cases hx
    | succ i ih =>
      intro h x hx
      rw [dueUp_succ b h] at hx
      split at hx
      · rcases List.mem_append.mp hx with z | z
        · exact ih (Nat.le_of_succ_le h) x z
        · rw [List.mem_singleton.mp z]
          exact List.getElem_mem _
      · exact ih (Nat.le_of_succ_le h) x hx
  exact go _ (Nat.le_refl _)
theorem seat_log (b : Bool) {ns : List Int} (r : Row ns) : ∀ x ∈ seatL b ns, x.natAbs.log2 < 1920 := fun x hx => small_log (r.rng x (seat_mem b r x hx))
theorem seat_le (b : Bool) {ns : List Int} (r : Row ns) : (seatL b ns).length ≤ 1000 := by
  rw [← dueUp_seat b r]
  have h1 := dueUp_len b ns ns.length
  have h2 := r.most
  omega
theorem all_recB (b : Bool) (E : List Int) (p : Int) : (E.map fun o => decide (o < p) == b).all id = recB b E p := by
  rw [List.all_map]
  rfl
end Lp
namespace Lp
open PySem PySem.Spec PyProof.Rows L2
/-! ### texts of words -/
theorem fold_ltr : ∀ (bs : List Bool) (acc : Array Nat), (bs.map ltr).foldl (fun acc p => acc ++ (Str.ofString "").cps ++ p.cps) acc = acc ++ (bs.map code).toArray
  | [], acc => by simp
  | b :: bs, acc => by
    rw [List.map_cons, List.foldl_cons, fold_ltr bs]
    have e0 : (Str.ofString "").cps = #[] := by decide +kernel
    rw [e0]
    apply Array.ext'
    simp
theorem join_wd : ∀ bs : List Bool, Txt.join (Str.ofString "") (bs.map ltr) = wd bs
  | [] => by decide +kernel
  | b :: bs => by
    show (⟨(bs.map ltr).foldl (fun acc p => acc ++ (Str.ofString "").cps ++ p.cps) (ltr b).cps⟩ : Str) = wd (b :: bs)
    rw [fold_ltr]
    show (⟨#[code b] ++ (bs.map code).toArray⟩ : Str) = ⟨((b :: bs).map code).toArray⟩
    congr 1
    apply Array.ext'
    simp
theorem fold_wd (bs : List Bool) : ∀ (n : Nat) (acc : Array Nat), (List.replicate n (wd bs).cps).foldl (· ++ ·) acc = acc ++ ((List.replicate n bs).flatten.map code).toArray
  | 0, acc => by simp
  | n + 1, acc => by
    rw [List.replicate_succ, List.foldl_cons, fold_wd bs n, List.replicate_succ]
    apply Array.ext'
    simp [wd]
theorem mul_wd {bs : List Bool} {n : Nat} (hn : 2 ≤ n) (hb : bs ≠ []) : Txt.mul (wd bs) ((n : Nat) : Int) = wd (List.replicate n bs).flatten := by
  unfold Txt.mul
  rw [if_neg (by omega)]
  have e1 : ((((n : Nat) : Int) == 1) || ((wd bs).length == 0)) = false := by
    rw [Bool.or_eq_false_iff]
    refine ⟨beq_eq_false_iff_ne.mpr (by omega), beq_eq_false_iff_ne.mpr ?_⟩
    rw [wd_len]
    intro z
    exact hb (List.length_eq_zero_iff.mp z)
  rw [if_neg (by rw [e1]; decide), Int.toNat_natCast, fold_wd]
  unfold wd
  congr 1
  simp
theorem sumlen_ltr (bs : List Bool) : ((bs.map ltr).map (·.length)).sum + (bs.map ltr).length * (Str.ofString "").length = bs.length := by
  have e0 : (Str.ofString "").length = 0 := by decide +kernel
  rw [e0, Nat.mul_zero, Nat.add_zero]
  induction bs with
  | nil => rfl
  | cons b bs ih =>
    rw [List.map_cons, List.map_cons, List.sum_cons, ih, List.length_cons]
    show 1 + bs.length = bs.length + 1
    omega
theorem flat_len (n : Nat) (bs : List Bool) : (List.replicate n bs).flatten.length = n * bs.length := by
  induction n with
  | zero => simp
  | succ n ih =>
    rw [List.replicate_succ, List.flatten_cons, List.length_append, ih, Nat.succ_mul]
    omega
theorem wdTTSTS : Str.ofString "TTSTS" = wd [true, true, false, true, false] := by decide +kernel
theorem wdS : Str.ofString "S" = wd [false] := by decide +kernel
theorem wdNil : Str.ofString "" = wd [] := by decide +kernel
theorem ltr_wd (b : Bool) : ltr b = wd [b] := rfl
end Lp
namespace Lp
open PySem PySem.Spec PyProof.Rows L2
/-! ### rows told -/
def rowB (xs : List V) : Bool := decide (1 ≤ xs.length) && (decide (xs.length ≤ 12) && (List.range xs.length).all (okAt xs))
theorem rowB_true {xs : List V} (h1 : 1 ≤ xs.length) (h2 : xs.length ≤ 12) (h : ∀ i, i < xs.length → okAt xs i = true) : rowB xs = true := by
  unfold rowB
  rw [decide_eq_true h1, decide_eq_true h2, Bool.true_and, Bool.true_and, List.all_eq_true]
  exact fun i hi => h i (List.mem_range.mp hi)
theorem rowB_bad {xs : List V} {i : Nat} (hi : i < xs.length) (h : okAt xs i = false) : rowB xs = false := by
  unfold rowB
  have e : (List.range xs.length).all (okAt xs) = false := by
    rw [List.all_eq_false]
    exact ⟨i, List.mem_range.mpr hi, by rw [h]; decide⟩
  rw [e, Bool.and_false, Bool.and_false]
theorem rowB_len {xs : List V} (h : ¬ (1 ≤ xs.length ∧ xs.length ≤ 12)) : rowB xs = false := by
  unfold rowB
  by_cases h1 : 1 ≤ xs.length
  · rw [decide_eq_false (fun z => h ⟨h1, z⟩), Bool.false_and, Bool.and_false]
  · rw [decide_eq_false h1, Bool.false_and]
theorem Row.rowB {ns : List Int} (r : Row ns) : rowB (ns.map V.int) = true :=
  rowB_true (by rw [List.length_map]; exact r.pos) (by rw [List.length_map]; exact r.most) fun i _ => r.ok i
/-! ### odd values -/
theorem Tv.kp {K : PySem.W.Frag} {a : Addr} {H H' : Hp} {v : V} {T : String} (t : Tv K H v T) (ne : v ≠ .ref a) (e : Kp a H H') : Tv K H' v T := by
  refine ⟨?_, t.mem⟩
  have go : ∀ {b : Addr} {o : HO}, v = .ref b → H b = some o → H' b = some o := fun {b o} ev h => e b o h fun z => ne (by rw [ev, z])
  cases t.ty with
  | base b =>
    cases b with
    | non => exact .base .non
    | bl x => exact .base (.bl x)
    | int i => exact .base (.int i)
    | str x => exact .base (.str x)
    | flt x => exact .base (.flt x)
    | lst h => exact .base (.lst (go rfl h))
    | frz h => exact .base (.frz (go rfl h))
    | tup h => exact .base (.tup (go rfl h))
    | dK h => exact .base (.dK (go rfl h))
    | dT h => exact .base (.dT (go rfl h))
  | byt b => exact .byt b
  | set h => exact .set (go rfl h)
  | kList h c => exact .kList h c
  | kTuple h c => exact .kTuple h c
  | kDict h c => exact .kDict h c
  | fTuple h => exact .fTuple (go rfl h)
  | fDict h => exact .fDict (go rfl h)
/-- typed, and not the pool itself -/
structure Od (K : PySem.W.Frag) (a : Addr) (H : Hp) (v : V) : Prop where
  ty : ∃ T, Tv K H v T
  ne : v ≠ .ref a
theorem Od.kp {K : PySem.W.Frag} {a : Addr} {H H' : Hp} {v : V} (o : Od K a H v) (e : Kp a H H') : Od K a H' v := by
  obtain ⟨⟨T, t⟩, ne⟩ := o
  exact ⟨⟨T, t.kp ne e⟩, ne⟩
theorem Od.int {K : PySem.W.Frag} {a : Addr} {H : Hp} (i : Int) : Od K a H (.int i) := ⟨⟨_, Tv.int i⟩, fun z => nomatch z⟩
theorem Od.bl {K : PySem.W.Frag} {a : Addr} {H : Hp} (b : Bool) : Od K a H (.bl b) := ⟨⟨"bool", .base (.bl b), by decide⟩, fun z => nomatch z⟩
theorem Od.non {K : PySem.W.Frag} {a : Addr} {H : Hp} : Od K a H .non := ⟨⟨"NoneType", .base .non, by decide⟩, fun z => nomatch z⟩
theorem Od.str {K : PySem.W.Frag} {a : Addr} {H : Hp} (x : Str) : Od K a H (.str x) := ⟨⟨"str", .base (.str x), by decide⟩, fun z => nomatch z⟩
theorem Od.ref {K : PySem.W.Frag} {a b : Addr} {H : Hp} {T : String} (t : Tv K H (.ref b) T) (ne : b ≠ a) : Od K a H (.ref b) := ⟨⟨T, t⟩, fun z => ne (V.ref.inj z)⟩
theorem Tv.lst {K : PySem.W.Frag} {b : Addr} {H : Hp} {xs : List V} (h : H b = some (.lst xs)) : Tv K H (.ref b) "list" := ⟨.base (.lst h), by decide⟩
theorem Tv.dct {K : PySem.W.Frag} {b : Addr} {H : Hp} {kvs : List (Key × V)} (h : H b = some (.dK kvs)) : Tv K H (.ref b) "dict" := ⟨.base (.dK h), by decide⟩
/-- what may be asked: no tuple, or a tuple of such -/
def Askd (K : PySem.W.Frag) (a : Addr) (H : Hp) (v : V) : Prop := (∃ T, Tv K H v T ∧ T ≠ "tuple" ∧ v ≠ .ref a) ∨ ∃ (b : Addr) (xs : List V), v = .ref b ∧ b ≠ a ∧ SqT K H b xs ∧ xs.length ≤ 1000 ∧ ∀ x ∈ xs, Od K a H x
theorem Askd.tup {K : PySem.W.Frag} {a b : Addr} {H : Hp} {xs : List V} (h : H b = some (.tup xs)) (ne : b ≠ a) (hl : xs.length ≤ 1000) (hx : ∀ x ∈ xs, Od K a H x) : Askd K a H (.ref b) := .inr ⟨b, xs, rfl, ne, .inl (.inl h), hl, hx⟩
theorem od_upd {K : PySem.W.Frag} {a p : Addr} {H : Hp} {o : HO} {v : V} (h : Od K a H v) (np : H p = none) : Od K a (upd H p o) v := h.kp (.of_same (same_upd np))
theorem od_ints {K : PySem.W.Frag} {a : Addr} {H : Hp} {ns : List Int} : ∀ x ∈ ns.map V.int, Od K a H x := fun x hx => by
  obtain ⟨n, _, rfl⟩ := List.mem_map.mp hx
  exact Od.int n
/-- a draw's place in a list -/
theorem pick {xs : List V} {d : Int} {n : Nat} (h0 : 0 ≤ d) (h1 : d < n) (hn : xs.length = n) : ∃ v, atI xs d = some v ∧ v ∈ xs := by
  have lt : d.toNat < xs.length := by omega
  obtain ⟨k, rfl⟩ : ∃ k : Nat, d = (k : Nat) := ⟨d.toNat, by omega⟩
  have lk : k < xs.length := by omega
  exact ⟨xs[k], atI_nat (List.getElem?_eq_getElem lk), List.getElem_mem lk⟩
theorem cut_mem {xs : List V} {lo hi : Option Int} {x : V} (h : x ∈ cutV xs lo hi) : x ∈ xs := List.mem_of_mem_drop (List.mem_of_mem_take h)
theorem cut_len (xs : List V) (lo hi : Option Int) : (cutV xs lo hi).length ≤ xs.length := by
  unfold cutV
  rw [List.length_take, List.length_drop]
  omega
theorem notwhole_hi {n k : Nat} (h : k < n) (lo : Option Int) : ¬ (HT.sIx n 0 lo = 0 ∧ HT.sIx n n (some (k : Nat)) = n) := fun z => by
  have e := z.2
  rw [HT.sIx_nat] at e
  omega
theorem SqT.kp {K : PySem.W.Frag} {a b : Addr} {H H' : Hp} {xs : List V} (e : Kp a H H') (ne : b ≠ a) (h : SqT K H b xs) : SqT K H' b xs := by
  rcases h with (h | ⟨o, h⟩) | h
  · exact .inl (.inl (e _ _ h ne))
  · exact .inl (.inr ⟨o, e _ _ h ne⟩)
  · exact .inr h
theorem Askd.kp {K : PySem.W.Frag} {a : Addr} {H H' : Hp} {v : V} (h : Askd K a H v) (e : Kp a H H') : Askd K a H' v := by
  rcases h with ⟨T, t, nt, ne⟩ | ⟨b, xs, rfl, ne, hS, hl, hx⟩
  · exact .inl ⟨T, t.kp ne e, nt, ne⟩
  · exact .inr ⟨b, xs, rfl, ne, SqT.kp e ne hS, hl, fun x hm => (hx x hm).kp e⟩
section
variable {X : Cx}
def rCatB (K : PySem.W.Frag) : R2 := fun x y H Q => ∃ a b xs ys, x = .ref a ∧ y = .ref b ∧ SqT K H a xs ∧ SqT K H b ys ∧ xs.length + ys.length ≤ sizeLine ∧
  ∀ (p : Addr) (G : Hp), Same H G → SqT K G p (xs ++ ys) → (p = a ∨ p = b ∨ H p = none) → Q (.ref p) G
theorem op_catB : OpR X (binaryOp .Add) (rCatB X.K) := by
  intro pins s σ H x y v u Q I rx ry h
  obtain ⟨a, b, xs, ys, rfl, rfl, ha, hb, hz, q⟩ := h
  refine op_catA pins s σ H _ _ v u Q I rx ry ⟨a, b, xs, ys, rfl, rfl, ha, hb, hz, fun e => ?_, fun _ e => ?_, fun _ _ p np => ?_⟩
  · subst e
    exact q b H (Same.refl H) hb (.inr (.inl rfl))
  · subst e
    refine q a H (Same.refl H) ?_ (.inl rfl)
    rw [List.append_nil]
    exact ha
  · exact q p _ (same_upd np) (.inl (.inl upd_same)) (.inr (.inr np))
def rSlB' (K : PySem.W.Frag) : V → Option Int → Option Int → Hp → VK → Prop := fun x lo hi H Q => ∃ a xs, x = .ref a ∧ SqT K H a xs ∧
  ∀ (p : Addr) (G : Hp), Same H G → SqT K G p (cutV xs lo hi) → (p = a ∨ H p = none) → Q (.ref p) G
theorem cut_whole {xs : List V} {lo hi : Option Int} (h : HT.sIx xs.length 0 lo = 0 ∧ HT.sIx xs.length xs.length hi = xs.length) : cutV xs lo hi = xs := by
  unfold cutV
  rw [h.1, h.2, Nat.sub_zero]
  show xs.take xs.length = xs
  exact List.take_length
theorem sl_tupB : SlR X (rSlB' X.K) := by
  intro pins s σ H x v vl vu lo hi sl Q I rx hs pl pu h
  obtain ⟨a, xs, rfl, ha, q⟩ := h
  refine sl_tupA pins s σ H _ v vl vu lo hi sl Q I rx hs pl pu ⟨a, xs, rfl, ha, fun z => ?_, fun _ p np => ?_⟩
  · refine q a H (Same.refl H) ?_ (.inl rfl)
    rw [cut_whole z]
    exact ha
  · exact q p _ (same_upd np) (.inl (.inl upd_same)) (.inr np)
end
end Lp
namespace Lp
open PySem PySem.Spec PyProof.Rows L2
/-! ### behind a written number a token is out
PR, PRs, PRS: as the library's readings of an expression, of arguments, of a statement, and the end says besides that some token is out. -/
section
variable {X : Cx} {e o i : Expr} {es : List Expr} {te ti : TE} {ta : TA} {pos p : Pos}
abbrev out1 (s : Shared) : Prop := 1 ≤ s.toks
def PR (X : Cx) (e : Expr) (t : TE) : Prop :=
  ∀ pins s σ H (Q : VK), Inv X pins σ H s → t σ H Q → wpAny (model X.prog X.w) X.A (eval e X.env) (fun u s' => out1 s' ∧ EP X pins σ Q u s') X.xe s
def PRs (X : Cx) (es : List Expr) (t : TA) : Prop :=
  ∀ at_ pins s σ H (Q : List V → Hp → Prop), Inv X pins σ H s → t σ H Q → wpAny (model X.prog X.w) X.A (spliced (backTo at_ (starEach es X.env))) (fun us s' => out1 s' ∧ AP X pins σ Q us s') X.xe s
def PRS (X : Cx) (st : Stmt) (t : TS) : Prop :=
  ∀ pins s σ H (D : Ends), Inv X pins σ H s → t D σ H → wpAny (model X.prog X.w) X.A (exec st X.env) (fun f s' => out1 s' ∧ SP X pins D f s') X.xe s
/-- once out, a token stays out -/
theorem stays {α : Type} {t : Sem α} {Q : α → Shared → Prop} {E : Value → Shared → Prop} {s : Shared} (k : out1 s) (h : wpAny (model X.prog X.w) X.A t Q E s) : wpAny (model X.prog X.w) X.A t (fun a s' => out1 s' ∧ Q a s') E s :=
  wpAny_mono (PySem.wpAny_toks_of k h) (fun _ _ z => z) fun _ _ z => z.2
theorem pr_int {n : Int} {j : Nat} : PR X (.Constant (.int n) j pos) (tC (.int n)) := fun _ s _ H _ I q => wpAny_Constant_int ⟨(Nat.succ_le_succ (Nat.zero_le s.toks) : 1 ≤ s.toks + 1), .int n, H, I.tok _, ⟨_, rfl⟩, q⟩
theorem prs_here (a : PR X e te) (r : PA X es ta) (hs : starEach (e :: es) X.env = (false, eval e X.env) :: starEach es X.env := by rfl) : PRs X (e :: es) (tCons te ta) := fun at_ pins s σ H Q I h => by
  rw [hs]
  refine Calls.spliced_cons (wpAny_mono (a pins s σ H _ I h) (fun u s1 z => ?_) fun _ _ z => z)
  obtain ⟨k, x, H1, I1, rx, q⟩ := z
  refine wpAny_mono (stays k (r.run at_ pins s1 σ H1 _ I1 q)) (fun us s2 z2 => ?_) fun _ _ z2 => z2
  exact ⟨z2.1, let ⟨xs, H2, I2, rs, q2⟩ := z2.2; ⟨x :: xs, H2, I2, .cons rx rs, q2⟩⟩
theorem prs_later (a : PE X e te) (r : PRs X es ta) (hs : starEach (e :: es) X.env = (false, eval e X.env) :: starEach es X.env := by rfl) : PRs X (e :: es) (tCons te ta) := fun at_ pins s σ H Q I h => by
  rw [hs]
  refine Calls.spliced_cons (wpAny_mono (a.run pins s σ H _ I h) (fun u s1 z => ?_) fun _ _ z => z)
  obtain ⟨x, H1, I1, rx, q⟩ := z
  refine wpAny_mono (r at_ pins s1 σ H1 _ I1 q) (fun us s2 z2 => ?_) fun _ _ z2 => z2
  exact ⟨z2.1, let ⟨xs, H2, I2, rs, q2⟩ := z2.2; ⟨x :: xs, H2, I2, .cons rx rs, q2⟩⟩
/-- f(..), one of its arguments with a written number -/
theorem pr_call {k j : Nat} {x : Str} {st : Stmt} {ps : List Str} {sp : Sp} (c : Cl X.prog X.w X.K X.mg X.base k x st ps sp) (hr : Room j X.A) (hk : k ≤ j) (hg : Gl X x) (a : PRs X (e :: es) ta)
    (hdb : (x == ("__debug__" : Str)) = false := by decide) (h1 : starEach (e :: es) X.env = (false, eval e X.env) :: starEach es X.env := by rfl) (h2 : (backTo pos (starEach es X.env)).any (·.1) = false := by rfl) :
    PR X (.Call (.Name x p) (e :: es) [] pos) (tCall sp [] E0 ta) := fun pins s σ H Q I h => by
  obtain ⟨f, fd, F, G, hm, b⟩ := c.ex
  have args := wpAny_mono (a pos pins s σ H _ I h) (E' := X.xe) (Q' := fun us s1 => X.K.In s1.heap ∧ wpAny (model X.prog X.w) X.A (call (.ref f) us) (fun u s' => out1 s' ∧ EP X pins σ Q u s') X.xe s1) (fun us s1 z => by
    obtain ⟨k1, vs, H1, I1, rs, q⟩ := z
    exact ⟨I1.kIn, stays k1 (run_fn G (hr.mono hk) b .nil pass0 I1 rs q)⟩) fun _ _ z => z
  exact wpAny_Call_Name_kw (ld_glob I hg hm (PySem.W.callWith_K (h₀ := X.base) I.ok.mod.kin F.kp args h1 h2) hdb)
/-- x = e -/
theorem pr_set {n : Nat} {x : Str} {pos' : Pos} (hN : X.N.Nodup) (hi : X.N[n]? = some x) (hx : Loc X.env.scope x) (a : PR X e te) (hs : swapsWith e (some (.Name x pos')) pos.line X.env = pure false := by rfl)
    (hf : X.fn x = true ∨ X.env.scope.names.lookup x = some .local := by first | exact .inl rfl | exact .inr rfl) : PRS X (.Assign [.Name x pos'] e pos) (tAsg te (gName n)) := fun pins s σ H D I h =>
  wpAny_Assign_Name (wpAny_mono (a pins s σ H _ I h) (fun u s1 z => by
    obtain ⟨k, y, H1, I1, ry, q⟩ := z
    exact stays k (store_ok I1 hN hi hx ry (fun s2 I2 => ⟨_, H1, I2, q⟩) hf)) fun _ _ z => z) hs
theorem pss_out {st : Stmt} {rest : List Stmt} {t u : TS} (a : PRS X st t) (r : PSsT X rest u) : PSs X (st :: rest) (tSeq t u) := ⟨fun pins s σ H D I h => by
  refine wpAny_execs_cons (wpAny_mono (a pins s σ H { D with nx := u D } I h) (fun f s1 z => ?_) fun _ _ z => z)
  obtain ⟨k, z⟩ := z
  cases f
  case next =>
    obtain ⟨σ1, H1, I1, q⟩ := z
    exact r pins s1 σ1 H1 D k I1 q
  all_goals exact z⟩
/-- o[i], o with a written number -/
theorem pr_ix {r : V → V → Hp → VK → Prop} (hr : IxR X r) (a : PR X o te) (b : PE X i ti) (hs : PlainIx i) : PR X (.Subscript o i pos) (tOp r te ti) := fun pins s σ H Q I h =>
  Subscript_ (wpAny_mono (a pins s σ H _ I h) (fun v s1 z => by
    obtain ⟨k, x, H1, I1, rx, q⟩ := z
    refine wpAny_mono (stays k (b.run pins s1 σ H1 _ I1 q)) (fun u s2 z2 => ?_) fun _ _ z2 => z2
    obtain ⟨k2, y, H2, I2, ry, q2⟩ := z2
    exact stays k2 (hr o i pins s2 σ H2 x y v u Q I2 rx ry q2 (hs _ _))) fun _ _ z => z)
/-- [e, ..] -/
theorem pr_lst (a : PRs X es ta) : PR X (.List es pos) (tLst ta) := fun pins s σ H Q I h =>
  wpAny_List_spliced (wpAny_mono (a pos pins s σ H _ I h) (fun us s1 z => by
    obtain ⟨k, vs, H1, I1, rs, small, q⟩ := z
    have len : us.length ≤ sizeLine := rs.length ▸ small
    have new := I1.hok.fresh (Nat.le_refl s1.heap.objs.size)
    have J := I1.laid (t' := s1.toks) (o := .lst vs) (h' := s1.heap.push { cls := .type "list", data := .seq us.toArray 0 }) (fun _ _ z => Heap.get?_push_of_some _ z) (Nat.le_refl _) ⟨small, us, 0, rs, Heap.get?_push_size _ rfl⟩
    exact ⟨len, k, .ref s1.heap.objs.size, upd H1 s1.heap.objs.size (.lst vs), J, rfl, q _ new⟩) fun _ _ z => z)
end
/-! ### a, b = x, y, one token out -/
theorem two_of {v w : V} {us : List Value} (r : Vals [v, w] us) : ∃ u1 u2, us = [u1, u2] ∧ RelV v u1 ∧ RelV w u2 := by
  match us, r with
  | [u1, u2], .cons p (.cons q .nil) => exact ⟨u1, u2, rfl, p, q⟩
theorem pst_par {X : Cx} {n m : Nat} {x y : Str} {e1 e2 : Expr} {ta : TA} {p1 p2 p3 p4 pos : Pos} {c1 c2} (calm : X.calm = true) (nd : X.N.Nodup) (hn : X.N[n]? = some x) (hm : X.N[m]? = some y) (ne : n ≠ m)
    (lx : X.env.scope.names.lookup x = some .local) (ly : X.env.scope.names.lookup y = some .local) (a : PAT X [e1, e2] ta)
    (sw : swappedStores [.Tuple [.Name x p1, .Name y p2] c1 p3] (.Tuple [e1, e2] c2 p4) X.env = pure (some [x, y])) (so : swapsWithSole [.Tuple [.Name x p1, .Name y p2] c1 p3] (.Tuple [e1, e2] c2 p4) pos.line X.env = pure false := by rfl) :
    PST X (.Assign [.Tuple [.Name x p1, .Name y p2] c1 p3] (.Tuple [e1, e2] c2 p4) pos) (tPar n m ta) := fun pins s σ H D k I h => by
  -- what is stored, once both values stand
  have stores : ∀ (u1 u2 : Value) (s1 : Shared) (v w : V) (H1 : Hp), Inv X pins σ H1 s1 → RelV v u1 → RelV w u2 → D.nx ((σ.set n (some v)).set m (some w)) H1 →
      wpAny (model X.prog X.w) X.A (assignInOrder [fun z => bindName X.env y z, fun z => bindName X.env x z] [u2, u1] >>= fun _ => pure Flow.next) (SP X pins D) X.xe s1 := fun u1 u2 s1 v w H1 I1 r1 r2 q =>
    wpAny_bind (assignInOrder_cons (wpAny_bindName (store_ok I1 nd hm (.inl ly) r2 (fun s2 I2 => assignInOrder_cons (wpAny_bindName (store_ok I2 nd hn (.inl lx) r1 (fun s3 I3 => assignInOrder_nil (wpAny_pure
      ⟨_, H1, by rw [List.set_comm _ _ ne]; exact I3, q⟩)) (.inr lx)))) (.inr ly))))
  -- the pair is made and taken apart
  have made : ∀ (u1 u2 : Value) (s1 : Shared) (v w : V) (H1 : Hp), Inv X pins σ H1 s1 → RelV v u1 → RelV w u2 → D.nx ((σ.set n (some v)).set m (some w)) H1 →
      wpAny (model X.prog X.w) X.A (do rule "assign.swapped-stores"; let its ← unpackItems (.ref s1.heap.objs.size) 2 none; assignInOrder [fun z => bindName X.env y z, fun z => bindName X.env x z] its.reverse; pure Flow.next) (SP X pins D) X.xe
        { s1 with heap := s1.heap.push { cls := .type "tuple", data := .seq [u1, u2].toArray } } := fun u1 u2 s1 v w H1 I1 r1 r2 q => by
    have I2 := I1.kept (h' := s1.heap.push { cls := .type "tuple", data := .seq [u1, u2].toArray }) (t' := s1.toks) fun _ _ z => Heap.get?_push_of_some _ z
    refine wpAny_bind (wpAny_rule (wpAny_bind (unpackItems_tuple (items := #[u1, u2]) (I1.ok.hd calm) (IsTup.new s1.heap _) fun h2 same => ?_)))
    exact stores u1 u2 _ v w H1 (I2.kept (h' := h2) (t' := s1.toks) fun b o z => same b o (Nat.ne_of_lt (Heap.lt_size z)) z) r1 r2 q
  rw [exec_Assign_arm]
  refine wpAny_bind (wpAny_standAt ?_)
  rw [so]
  refine wpAny_bind (wpAny_pure ?_)
  simp only [Bool.false_eq_true, if_false]
  refine wpAny_bind (Tuple_ (wpAny_mono (a _ pins s σ H _ k I h) (fun us s1 z => ?_) fun _ _ z => z))
  obtain ⟨vs, H1, I1, rs, v, w, ev, q⟩ := z
  subst ev
  obtain ⟨u1, u2, eu, r1, r2⟩ := two_of rs
  subst eu
  refine wpAny_newObj_type ?_ (show [u1, u2].length ≤ sizeLine by show 2 ≤ sizeLine; decide)
  rw [sw]
  exact wpAny_bind (wpAny_pure (made u1 u2 s1 v w H1 I1 r1 r2 q))
theorem uni {k : Nat} {A : Around} (hr : Room k A) : A.units + 1 < cLine := by have := hr.un; omega
/-! ### texts of signs -/
def sgc : Bool → Nat
  | true => 49
  | false => 48
def sw (bs : List Bool) : Str := ⟨(bs.map sgc).toArray⟩
abbrev sl (b : Bool) : Str := ⟨#[sgc b]⟩
theorem sl1 : Str.ofString "1" = sl true := by decide +kernel
theorem sl0 : Str.ofString "0" = sl false := by decide +kernel
theorem sl_inj {a b : Bool} (h : sl a = sl b) : a = b := by
  cases a <;> cases b <;> first | rfl | exact absurd h (by decide +kernel)
theorem sw_len (bs : List Bool) : (sw bs).length = bs.length := by
  show (bs.map sgc).toArray.size = _
  rw [List.size_toArray, List.length_map]
theorem sw_get {bs : List Bool} {i c : Nat} (h : (sw bs).cps[i]? = some c) : ∃ b, bs[i]? = some b ∧ c = sgc b := by
  have h2 : (bs.map sgc)[i]? = some c := by
    rw [← List.getElem?_toArray]
    exact h
  rw [List.getElem?_map] at h2
  obtain ⟨b, e1, e2⟩ := Option.map_eq_some_iff.mp h2
  exact ⟨b, e1, e2.symm⟩
theorem sw_app (a b : List Bool) : sw a ++ sw b = sw (a ++ b) := by
  show (⟨(a.map sgc).toArray ++ (b.map sgc).toArray⟩ : Str) = ⟨((a ++ b).map sgc).toArray⟩
  rw [List.map_append, List.append_toArray]
theorem sw_nil : Str.ofString "" = sw [] := by decide +kernel
theorem sw_one (b : Bool) : sl b = sw [b] := by cases b <;> rfl
/-- the text behind replace of S, then of T -/
theorem repl1 (c d : Nat) : ∀ l : List Nat, StrLaws.replL [c] [d] l = l.map fun x => if x = c then d else x
  | [] => StrLaws.replL_nil
  | x :: l => by
    by_cases e : x = c
    · subst e
      rw [StrLaws.replL_hit (by simp) (by rfl), List.map_cons, if_pos rfl]
      exact congrArg (d :: ·) (repl1 x d l)
    · rw [StrLaws.replL_miss (y := [c]) (fun h => e (by have h2 : [x] = [c] := h; exact List.head_eq_of_cons_eq h2)), List.map_cons, if_neg e, repl1 c d l]
theorem repl_bits (bs : List Bool) : Txt.replace (Txt.replace (wd bs) (Str.ofString "S") (Str.ofString "0")) (Str.ofString "T") (Str.ofString "1") = sw bs := by
  have eS : Str.ofString "S" = ⟨#[83]⟩ := by decide +kernel
  have eT : Str.ofString "T" = ⟨#[84]⟩ := by decide +kernel
  have e0 : Str.ofString "0" = ⟨#[48]⟩ := by decide +kernel
  have e1 : Str.ofString "1" = ⟨#[49]⟩ := by decide +kernel
  have ext : ∀ {a b : Str}, a.cps.toList = b.cps.toList → a = b := fun {a b} h => by
    cases a; cases b
    exact congrArg Str.mk (Array.ext' h)
  apply ext
  rw [eS, eT, e0, e1, StrLaws.replace_list (by show 1 ≤ 1; decide), StrLaws.replace_list (by show 1 ≤ 1; decide)]
  show StrLaws.replL [84] [49] (StrLaws.replL [83] [48] (bs.map code).toArray.toList) = (bs.map sgc).toArray.toList
  rw [repl1, repl1, List.map_map, List.toList_toArray, List.toList_toArray, List.map_map]
  apply List.map_congr_left
  intro b _
  cases b <;> rfl
theorem repl_len (bs : List Bool) : (Txt.replace (wd bs) (Str.ofString "S") (Str.ofString "0")).length = bs.length := by
  have eS : Str.ofString "S" = ⟨#[83]⟩ := by decide +kernel
  have e0 : Str.ofString "0" = ⟨#[48]⟩ := by decide +kernel
  rw [eS, e0]
  show (Txt.replace (wd bs) ⟨#[83]⟩ ⟨#[48]⟩).cps.size = _
  rw [← Array.length_toList, StrLaws.replace_list (by show 1 ≤ 1; decide)]
  show (StrLaws.replL [83] [48] (bs.map code).toArray.toList).length = _
  rw [repl1, List.length_map, List.toList_toArray, List.length_map]
theorem count_sw (bs : List Bool) (b : Bool) : Txt.count (sw bs) (sl b) = (bs.count b : Nat) := by
  rw [show (sl b) = ⟨#[sgc b]⟩ from rfl, PyProof.Rows.count_cnt]
  show PyProof.Rows.cnt (sgc b) (bs.map sgc).toArray.toList = _
  rw [List.toList_toArray]
  induction bs with
  | nil => rfl
  | cons a l ih =>
    rw [List.map_cons, PyProof.Rows.cnt_cons, ih, List.count_cons]
    cases a <;> cases b <;> simp [sgc] <;> omega
/-! ### the signs of a row -/
def sgn (h : Int) (ns : List Int) : List Bool := ns.map fun x => decide (h ≤ x)
theorem fold_sl : ∀ (l : List Bool) (acc : Array Nat), (l.map sl).foldl (fun acc p => acc ++ (Str.ofString "").cps ++ p.cps) acc = acc ++ (l.map sgc).toArray
  | [], acc => by simp
  | b :: l, acc => by
    rw [List.map_cons, List.foldl_cons, fold_sl l, show (Str.ofString "").cps = #[] by decide +kernel]
    apply Array.ext'
    simp
theorem join_sl : ∀ l : List Bool, Txt.join (Str.ofString "") (l.map sl) = sw l
  | [] => by decide +kernel
  | b :: l => by
    show (⟨(l.map sl).foldl (fun acc p => acc ++ (Str.ofString "").cps ++ p.cps) (sl b).cps⟩ : Str) = sw (b :: l)
    rw [fold_sl]
    show (⟨#[sgc b] ++ (l.map sgc).toArray⟩ : Str) = ⟨((b :: l).map sgc).toArray⟩
    congr 1
    apply Array.ext'
    simp
theorem signS_sw (ns : List Int) (h : Int) : signS ns h = sw (sgn h ns) := by
  unfold signS sgL sgn
  rw [← join_sl, List.map_map]
  congr 1
  apply List.map_congr_left
  intro x _
  show sg (decide (h ≤ x)) = sl (decide (h ≤ x))
  cases decide (h ≤ x) <;> decide +kernel
theorem seat_sgn (b : Bool) (h : Int) : ∀ (xs l s : List Int) (x : Int), sgn h ((xs.foldl (stepW b) (l, s, x)).1 ++ [(xs.foldl (stepW b) (l, s, x)).2.2]) = sgn h l ++ (sgn h (x :: xs) ++ [b]).erase b
  | [], l, s, x => by
    show sgn h (l ++ [x]) = sgn h l ++ (decide (h ≤ x) :: [b]).erase b
    unfold sgn
    rw [List.map_append]
    congr 1
    by_cases hx : h ≤ x <;> cases b <;> simp [hx]
  | p :: xs, l, s, x => by
    rw [List.foldl_cons, show stepW b (l, s, x) p = (if takes b p x = true then (l ++ [x], s ++ [x], p) else (l ++ [p], s, x)) from rfl]
    have key : ∀ (a c : Int), sgn h (l ++ [a]) ++ (sgn h (c :: xs) ++ [b]).erase b = sgn h l ++ (decide (h ≤ a) :: (decide (h ≤ c) :: (sgn h xs ++ [b])).erase b) := fun a c => by
      unfold sgn
      rw [List.map_append, List.append_assoc]
      rfl
    split
    · rename_i ht
      rw [seat_sgn b h xs, key]
      congr 1
      show _ = (decide (h ≤ x) :: decide (h ≤ p) :: (sgn h xs ++ [b])).erase b
      generalize sgn h xs ++ [b] = R
      unfold takes at ht
      cases b
      · have : p < x := by simpa using ht
        by_cases h1 : h ≤ x <;> by_cases h2 : h ≤ p <;> simp [h1, h2] <;> omega
      · have : x < p := by simpa using ht
        by_cases h1 : h ≤ x <;> by_cases h2 : h ≤ p <;> simp [h1, h2] <;> omega
    · rename_i ht
      rw [seat_sgn b h xs, key]
      congr 1
      show _ = (decide (h ≤ x) :: decide (h ≤ p) :: (sgn h xs ++ [b])).erase b
      generalize sgn h xs ++ [b] = R
      unfold takes at ht
      cases b
      · have : x ≤ p := by simpa using ht
        by_cases h1 : h ≤ x <;> by_cases h2 : h ≤ p <;> simp [h1, h2] <;> omega
      · have : p ≤ x := by simpa using ht
        by_cases h1 : h ≤ x <;> by_cases h2 : h ≤ p <;> simp [h1, h2] <;> omega
theorem pass_sgn (b : Bool) (h : Int) {ns : List Int} (hn : ns ≠ []) : sgn h (passL b ns) = (sgn h ns ++ [b]).erase b := by
  cases ns with
  | nil => exact absurd rfl hn
  | cons x xs => exact (seat_sgn b h xs [] [] x).trans (List.nil_append _)
/-- the first z zeros and the first o ones left out -/
def dropN : Nat → Nat → List Bool → List Bool
  | _, _, [] => []
  | 0, o, false :: r => false :: dropN 0 o r
  | z + 1, o, false :: r => dropN z o r
  | z, 0, true :: r => true :: dropN z 0 r
  | z, o + 1, true :: r => dropN z o r
theorem dropN_f : ∀ (z o : Nat) (l : List Bool), dropN (z + 1) o l = dropN z o (l.erase false)
  | z, o, [] => by simp [dropN]
  | z, o, false :: r => by simp [dropN]
  | z, 0, true :: r => by
    rw [show (true :: r).erase false = true :: r.erase false by simp]
    rw [dropN, dropN, dropN_f z 0 r]
  | z, o + 1, true :: r => by
    rw [show (true :: r).erase false = true :: r.erase false by simp]
    rw [dropN, dropN, dropN_f z o r]
theorem dropN_t : ∀ (z o : Nat) (l : List Bool), dropN z (o + 1) l = dropN z o (l.erase true)
  | z, o, [] => by simp [dropN]
  | z, o, true :: r => by
    rw [show (true :: r).erase true = r by simp, dropN]
  | 0, o, false :: r => by
    rw [show (false :: r).erase true = false :: r.erase true by simp]
    rw [dropN, dropN, dropN_t 0 o r]
  | z + 1, o, false :: r => by
    rw [show (false :: r).erase true = false :: r.erase true by simp]
    rw [dropN, dropN, dropN_t z o r]
theorem dropN_0 : ∀ l : List Bool, dropN 0 0 l = l
  | [] => rfl
  | false :: r => by rw [dropN, dropN_0 r]
  | true :: r => by rw [dropN, dropN_0 r]
theorem after_sgn (h : Int) : ∀ (bs : List Bool) (ns : List Int), ns ≠ [] → sgn h (afterL bs ns) = dropN (bs.count false) (bs.count true) (sgn h ns ++ bs)
  | [], ns, _ => by
    rw [List.append_nil]
    exact (dropN_0 _).symm
  | b :: bs, ns, hn => by
    have hn2 : passL b ns ≠ [] := fun z => hn (by
      have := (passL_perm b ns).length_eq
      rw [z] at this
      exact List.length_eq_zero_iff.mp this.symm)
    rw [show afterL (b :: bs) ns = afterL bs (passL b ns) from rfl, after_sgn h bs _ hn2, pass_sgn b h hn]
    have ea : (sgn h ns ++ [b]).erase b ++ bs = (sgn h ns ++ b :: bs).erase b := by
      rw [← List.erase_append_left _ (by simp), List.append_assoc]
      rfl
    rw [ea]
    cases b
    · rw [← dropN_f]
      congr 1 <;> simp
    · rw [← dropN_t]
      congr 1 <;> simp
/-- the loop's state after i signs: how many of each are still to be left out, and what was kept -/
def stepN (st : Nat × Nat × List Bool) : Bool → Nat × Nat × List Bool
  | false => if 0 < st.1 then (st.1 - 1, st.2.1, st.2.2) else (st.1, st.2.1, st.2.2 ++ [false])
  | true => if 0 < st.2.1 then (st.1, st.2.1 - 1, st.2.2) else (st.1, st.2.1, st.2.2 ++ [true])
theorem fold_dropN : ∀ (l : List Bool) (z o : Nat) (acc : List Bool), (l.foldl stepN (z, o, acc)).2.2 = acc ++ dropN z o l
  | [], z, o, acc => (List.append_nil _).symm
  | false :: r, 0, o, acc => by
    rw [List.foldl_cons, show stepN (0, o, acc) false = (0, o, acc ++ [false]) from rfl, fold_dropN r, dropN, List.append_assoc]
    rfl
  | false :: r, z + 1, o, acc => by
    rw [List.foldl_cons, show stepN (z + 1, o, acc) false = (z, o, acc) from rfl, fold_dropN r, dropN]
  | true :: r, z, 0, acc => by
    rw [List.foldl_cons, show stepN (z, 0, acc) true = (z, 0, acc ++ [true]) from rfl, fold_dropN r, dropN, List.append_assoc]
    rfl
  | true :: r, z, o + 1, acc => by
    rw [List.foldl_cons, show stepN (z, o + 1, acc) true = (z, o, acc) from rfl, fold_dropN r, dropN]
theorem fold_len : ∀ (l : List Bool) (st : Nat × Nat × List Bool), (l.foldl stepN st).2.2.length ≤ st.2.2.length + l.length
  | [], _ => Nat.le_refl _
  | b :: r, st => by
    rw [List.foldl_cons]
    have := fold_len r (stepN st b)
    have h1 : (stepN st b).2.2.length ≤ st.2.2.length + 1 := by
      cases b
      · show (if 0 < st.1 then (st.1 - 1, st.2.1, st.2.2) else (st.1, st.2.1, st.2.2 ++ [false])).2.2.length ≤ _
        split <;> simp
      · show (if 0 < st.2.1 then (st.1, st.2.1 - 1, st.2.2) else (st.1, st.2.1, st.2.2 ++ [true])).2.2.length ≤ _
        split <;> simp
    rw [List.length_cons]
    omega
/-- the table of two counts -/
def dk (z o : Int) : List (Key × V) := [(.inr (sl false), .int z), (.inr (sl true), .int o)]
theorem mk2 (z o : Int) : mergeK [] [(.inr (Str.ofString "0"), .int z), (.inr (Str.ofString "1"), .int o)] = dk z o := by
  rw [sl0, sl1]
  rfl
theorem dk_get (z o : Int) (b : Bool) : valV (dk z o) (.inr (sl b)) = some (.int (if b then o else z)) := by
  cases b <;> rfl
theorem dk_put0 (z o v : Int) : putK (dk z o) (.inr (sl false)) (.int v) = dk v o := rfl
theorem dk_put1 (z o v : Int) : putK (dk z o) (.inr (sl true)) (.int v) = dk z v := rfl
theorem one0 : (Str.ofString "0").length = 1 := by decide +kernel
theorem one1 : (Str.ofString "1").length = 1 := by decide +kernel
end Lp
/-! ### the mathematics of words: the row is forgotten, the last letters tell (no program is spoken of) -/
namespace Lp
open PySem PySem.Spec PyProof.Rows L2
theorem dropN_app : ∀ (l m : List Bool) (a b : Nat), dropN a b (l ++ m) = dropN a b l ++ dropN (a - l.count false) (b - l.count true) m
  | [], m, a, b => by simp [dropN]
  | false :: l, m, 0, b => by
    rw [List.cons_append, dropN, dropN, dropN_app l m 0 b]
    simp
  | false :: l, m, a + 1, b => by
    rw [List.cons_append, dropN, dropN, dropN_app l m a b]
    simp
  | true :: l, m, a, 0 => by
    rw [List.cons_append, dropN, dropN, dropN_app l m a 0]
    simp
  | true :: l, m, a, b + 1 => by
    rw [List.cons_append, dropN, dropN, dropN_app l m a b]
    simp
theorem dropN_zeros : ∀ (l : List Bool) (a b : Nat), l.count false ≤ a → dropN a b l = List.replicate (l.count true - b) true
  | [], a, b, _ => by simp [dropN]
  | false :: l, 0, b, h => by simp at h
  | false :: l, a + 1, b, h => by
    rw [dropN, dropN_zeros l a b (by simpa using h)]
    simp
  | true :: l, a, 0, h => by
    rw [dropN, dropN_zeros l a 0 (by simpa using h)]
    simp [List.replicate_succ]
  | true :: l, a, b + 1, h => by
    rw [dropN, dropN_zeros l a b (by simpa using h)]
    simp
theorem dropN_ones : ∀ (l : List Bool) (a b : Nat), l.count true ≤ b → dropN a b l = List.replicate (l.count false - a) false
  | [], a, b, _ => by simp [dropN]
  | true :: l, a, 0, h => by simp at h
  | true :: l, a, b + 1, h => by
    rw [dropN, dropN_ones l a b (by simpa using h)]
    simp
  | false :: l, 0, b, h => by
    rw [dropN, dropN_ones l 0 b (by simpa using h)]
    simp [List.replicate_succ]
  | false :: l, a + 1, b, h => by
    rw [dropN, dropN_ones l a b (by simpa using h)]
    simp
/-- as many letters as people less one: the signs ahead of them are forgotten -/
theorem forget {l m : List Bool} {a b : Nat} (e0 : l.count false = m.count false) (e1 : l.count true = m.count true) (h : l.count false + l.count true ≤ a + b + 1) : dropN a b l = dropN a b m := by
  by_cases h0 : l.count false ≤ a
  · rw [dropN_zeros l a b h0, dropN_zeros m a b (by omega), e1]
  · have h1 : l.count true ≤ b := by omega
    rw [dropN_ones l a b h1, dropN_ones m a b (by omega), e0]
theorem count_two (l : List Bool) : l.count false + l.count true = l.length := by
  induction l with
  | nil => rfl
  | cons b l ih => cases b <;> simp <;> omega
theorem sgn_len (h : Int) (ns : List Int) : (sgn h ns).length = ns.length := List.length_map ..
theorem sgn_perm {h : Int} {ms ns : List Int} (p : ms.Perm ns) : (sgn h ms).Perm (sgn h ns) := p.map _
theorem sgn_inj : ∀ {xs ys : List Int}, xs.length = ys.length → (∀ h, sgn h xs = sgn h ys) → xs = ys
  | [], [], _, _ => rfl
  | x :: xs, y :: ys, hl, hs => by
    have hd : ∀ h, decide (h ≤ x) = decide (h ≤ y) ∧ sgn h xs = sgn h ys := fun h => by
      have := hs h
      simp only [sgn, List.map_cons, List.cons.injEq] at this
      exact this
    have e1 := (hd x).1
    have e2 := (hd y).1
    have hxy : x = y := by
      simp at e1 e2
      omega
    rw [hxy, sgn_inj (Nat.succ.inj hl) fun h => (hd h).2]
theorem afterL_len (bs : List Bool) (ns : List Int) : (afterL bs ns).length = ns.length := (afterL_perm bs ns).length_eq
theorem afterL_nil : ∀ bs : List Bool, afterL bs [] = []
  | [] => rfl
  | b :: bs => afterL_nil bs
/-- behind n - 1 passes the order ahead of them is forgotten -/
theorem after_forget {bs : List Bool} {ms ns : List Int} (p : ms.Perm ns) (h : ns.length ≤ bs.length + 1) : afterL bs ms = afterL bs ns := by
  by_cases hn : ns = []
  · subst hn
    rw [List.perm_nil.mp p]
  have hm : ms ≠ [] := fun z => hn (List.perm_nil.mp (z ▸ p.symm))
  refine sgn_inj (by rw [afterL_len, afterL_len, p.length_eq]) fun t => ?_
  rw [after_sgn t bs ms hm, after_sgn t bs ns hn, dropN_app, dropN_app]
  have c0 : (sgn t ms).count false = (sgn t ns).count false := (sgn_perm p).count_eq false
  have c1 : (sgn t ms).count true = (sgn t ns).count true := (sgn_perm p).count_eq true
  rw [c0, c1]
  congr 1
  refine forget c0 c1 ?_
  have l1 := count_two (sgn t ms)
  rw [sgn_len, p.length_eq] at l1
  have l2 := count_two bs
  omega
/-- the last n - 1 letters tell -/
theorem after_last {a b : List Bool} {ns : List Int} (h : ns.length ≤ b.length + 1) : afterL (a ++ b) ns = afterL b ns := by
  rw [afterL_app]
  exact after_forget (afterL_perm a ns) h
theorem after_drop {bs : List Bool} {ns : List Int} : afterL (bs.drop (bs.length + 1 - ns.length)) ns = afterL bs ns := by
  by_cases h : bs.length + 1 ≤ ns.length
  · rw [show bs.length + 1 - ns.length = 0 by omega, List.drop_zero]
  · by_cases hn : ns = []
    · subst hn
      rw [afterL_nil, afterL_nil]
    · have n1 : 0 < ns.length := List.length_pos_iff.mpr hn
      conv => rhs; rw [← List.take_append_drop (bs.length + 1 - ns.length) bs]
      rw [after_last]
      rw [List.length_drop]
      omega
theorem dropN_0x (o : Nat) : ∀ z c0 c1 : Nat, dropN c0 c1 (List.replicate z false ++ List.replicate o true) = List.replicate (z - c0) false ++ List.replicate (o - c1) true := fun z c0 c1 => by
  rw [dropN_app]
  have k0 : (List.replicate z false).count true = 0 := by simp [List.count_replicate]
  have k1 : (List.replicate o true).count false = 0 := by simp [List.count_replicate]
  rw [dropN_ones _ c0 c1 (by omega), dropN_zeros _ _ _ (by omega)]
  simp [List.count_replicate]
theorem dropN_1x (o : Nat) : ∀ z c0 c1 : Nat, dropN c0 c1 (List.replicate o true ++ List.replicate z false) = List.replicate (o - c1) true ++ List.replicate (z - c0) false := fun z c0 c1 => by
  rw [dropN_app]
  have k0 : (List.replicate o true).count false = 0 := by simp [List.count_replicate]
  have k1 : (List.replicate z false).count true = 0 := by simp [List.count_replicate]
  rw [dropN_zeros _ c0 c1 (by omega), dropN_ones _ _ _ (by omega)]
  simp [List.count_replicate]
theorem sgn_all {t : Int} : ∀ {l : List Int} (b : Bool), (∀ x ∈ l, decide (t ≤ x) = b) → sgn t l = List.replicate l.length b
  | [], b, _ => rfl
  | x :: l, b, h => by
    show decide (t ≤ x) :: sgn t l = _
    rw [h x (List.mem_cons_self ..), sgn_all b fun y hy => h y (List.mem_cons_of_mem _ hy)]
    rfl
/-- fewer letters: the ascending row and the descending one stay apart -/
theorem after_apart {bs : List Bool} {ns : List Int} (hs : ns.Pairwise (· < ·)) (h : bs.length + 2 ≤ ns.length) : afterL bs ns ≠ afterL bs ns.reverse := by
  intro e
  have cb := count_two bs
  have hz : bs.count false + 1 < ns.length := by omega
  generalize hzz : bs.count false + 1 = z at hz
  have hn : ns ≠ [] := fun q => by
    rw [q] at hz
    exact absurd hz (Nat.not_lt_zero _)
  have hr : ns.reverse ≠ [] := fun q => hn (List.reverse_eq_nil_iff.mp q)
  have e2 := congrArg (sgn ns[z]) e
  rw [after_sgn _ bs ns hn, after_sgn _ bs ns.reverse hr] at e2
  have s1 : sgn ns[z] ns = List.replicate z false ++ List.replicate (ns.length - z) true := by
    have hsp : ns = ns.take z ++ ns.drop z := (List.take_append_drop z ns).symm
    have g := List.pairwise_iff_getElem.mp hs
    have f1 : sgn ns[z] (ns.take z) = List.replicate z false := by
      have := sgn_all (t := ns[z]) (l := ns.take z) false fun x hx => by
        obtain ⟨i, hi, ex⟩ := List.mem_iff_getElem.mp hx
        rw [List.length_take] at hi
        rw [← ex, List.getElem_take]
        have := g i z (by omega) hz (by omega)
        exact decide_eq_false (by omega)
      rw [this, List.length_take, Nat.min_eq_left (by omega)]
    have f2 : sgn ns[z] (ns.drop z) = List.replicate (ns.length - z) true := by
      have := sgn_all (t := ns[z]) (l := ns.drop z) true fun x hx => by
        obtain ⟨i, hi, ex⟩ := List.mem_iff_getElem.mp hx
        rw [List.length_drop] at hi
        rw [← ex, List.getElem_drop]
        by_cases h0 : i = 0
        · subst h0
          simp
        · have := g z (z + i) hz (by omega) (by omega)
          exact decide_eq_true (by omega)
      rw [this, List.length_drop]
    have f3 : sgn ns[z] (ns.take z ++ ns.drop z) = sgn ns[z] (ns.take z) ++ sgn ns[z] (ns.drop z) := List.map_append ..
    rw [List.take_append_drop] at f3
    rw [f3, f1, f2]
  have s2 : sgn ns[z] ns.reverse = List.replicate (ns.length - z) true ++ List.replicate z false := by
    have : sgn ns[z] ns.reverse = (sgn ns[z] ns).reverse := List.map_reverse ..
    rw [this, s1, List.reverse_append, List.reverse_replicate, List.reverse_replicate]
  rw [dropN_app, dropN_app, s1, s2, dropN_0x, dropN_1x] at e2
  have z1 : z - bs.count false = 1 := by omega
  obtain ⟨k, hk⟩ : ∃ k, ns.length - z - bs.count true = k + 1 := ⟨ns.length - z - bs.count true - 1, by omega⟩
  rw [z1, hk, List.replicate_succ] at e2
  simp [List.replicate_succ] at e2
/-! ### the last pass, read backwards -/
theorem ends_max {w : List Bool} {ns : List Int} {M : Int} (hM : M ∈ ns) (top : ∀ x ∈ ns, x ≤ M) (h : ns.length ≤ w.length + 2) : afterL (w ++ [true]) ns = afterL w (ns.erase M) ++ [M] := by
  have hn : ns ≠ [] := List.ne_nil_of_mem hM
  have pe : (M :: ns.erase M).Perm ns := (List.perm_cons_erase hM).symm
  have le := pe.length_eq
  rw [List.length_cons] at le
  refine sgn_inj (by rw [afterL_len, List.length_append, afterL_len, ← le]; rfl) fun t => ?_
  rw [after_sgn t _ ns hn]
  have app : sgn t (afterL w (ns.erase M) ++ [M]) = sgn t (afterL w (ns.erase M)) ++ [decide (t ≤ M)] := List.map_append ..
  have rest : sgn t (afterL w (ns.erase M)) = dropN (w.count false) (w.count true) (sgn t (ns.erase M) ++ w) := by
    by_cases hr : ns.erase M = []
    · rw [hr, afterL_nil]
      have : dropN (w.count false) (w.count true) w = [] := by rw [dropN_zeros _ _ _ (Nat.le_refl _), Nat.sub_self]; rfl
      exact this.symm
    · exact after_sgn t w _ hr
  rw [app, rest]
  have k0 : (w ++ [true]).count false = w.count false := by simp
  have k1 : (w ++ [true]).count true = w.count true + 1 := by simp
  rw [k0, k1]
  have c0 : (sgn t ns).count false = ((decide (t ≤ M)) :: sgn t (ns.erase M)).count false := ((sgn_perm pe).count_eq false).symm
  have c1 : (sgn t ns).count true = ((decide (t ≤ M)) :: sgn t (ns.erase M)).count true := ((sgn_perm pe).count_eq true).symm
  have cl := count_two (sgn t (ns.erase M))
  rw [sgn_len] at cl
  have cw := count_two w
  by_cases hd : t ≤ M
  · rw [decide_eq_true hd] at c0 c1 ⊢
    have d0 : (sgn t ns).count false = (sgn t (ns.erase M)).count false := by rw [c0]; simp
    have d1 : (sgn t ns).count true = (sgn t (ns.erase M)).count true + 1 := by rw [c1]; simp
    have mem : true ∈ sgn t ns := List.count_pos_iff.mp (by omega)
    rw [dropN_t, List.erase_append_left _ mem, dropN_app, dropN_app (sgn t (ns.erase M)) w]
    have f0 : ((sgn t ns).erase true).count false = (sgn t (ns.erase M)).count false := by rw [List.count_erase_of_ne (by decide), d0]
    have f1 : ((sgn t ns).erase true).count true = (sgn t (ns.erase M)).count true := by rw [List.count_erase_self, d1]; omega
    rw [f0, f1, forget f0 f1 (by omega), dropN_app w [true]]
    have z0 : w.count false - (sgn t (ns.erase M)).count false - w.count false = 0 := by omega
    have z1 : w.count true - (sgn t (ns.erase M)).count true - w.count true = 0 := by omega
    rw [z0, z1, ← List.append_assoc]
    rfl
  · rw [decide_eq_false hd] at c0 c1 ⊢
    have d0 : (sgn t ns).count false = (sgn t (ns.erase M)).count false + 1 := by rw [c0]; simp
    have d1 : (sgn t ns).count true = 0 := by
      rw [List.count_eq_zero]
      intro z
      obtain ⟨x, hx, ex⟩ := List.mem_map.mp z
      have := top x hx
      have : t ≤ x := of_decide_eq_true ex
      omega
    have d2 : (sgn t (ns.erase M)).count true = 0 := by
      have : (sgn t ns).count true = (sgn t (ns.erase M)).count true := by rw [c1]; simp
      omega
    rw [dropN_ones _ _ _ (by simp [d1]), dropN_ones _ _ _ (by simp [d2])]
    have e1 : (sgn t ns ++ (w ++ [true])).count false - w.count false = (sgn t (ns.erase M)).count false + 1 := by simp [d0]
    have e2 : (sgn t (ns.erase M) ++ w).count false - w.count false = (sgn t (ns.erase M)).count false := by simp
    rw [e1, e2, List.replicate_succ']
theorem ends_min {w : List Bool} {ns : List Int} {m : Int} (hm : m ∈ ns) (low : ∀ x ∈ ns, m ≤ x) (h : ns.length ≤ w.length + 2) : afterL (w ++ [false]) ns = afterL w (ns.erase m) ++ [m] := by
  have hn : ns ≠ [] := List.ne_nil_of_mem hm
  have pe : (m :: ns.erase m).Perm ns := (List.perm_cons_erase hm).symm
  have le := pe.length_eq
  rw [List.length_cons] at le
  refine sgn_inj (by rw [afterL_len, List.length_append, afterL_len, ← le]; rfl) fun t => ?_
  rw [after_sgn t _ ns hn]
  have app : sgn t (afterL w (ns.erase m) ++ [m]) = sgn t (afterL w (ns.erase m)) ++ [decide (t ≤ m)] := List.map_append ..
  have rest : sgn t (afterL w (ns.erase m)) = dropN (w.count false) (w.count true) (sgn t (ns.erase m) ++ w) := by
    by_cases hr : ns.erase m = []
    · rw [hr, afterL_nil]
      have : dropN (w.count false) (w.count true) w = [] := by rw [dropN_zeros _ _ _ (Nat.le_refl _), Nat.sub_self]; rfl
      exact this.symm
    · exact after_sgn t w _ hr
  rw [app, rest]
  have k0 : (w ++ [false]).count false = w.count false + 1 := by simp
  have k1 : (w ++ [false]).count true = w.count true := by simp
  rw [k0, k1]
  have c0 : (sgn t ns).count false = ((decide (t ≤ m)) :: sgn t (ns.erase m)).count false := ((sgn_perm pe).count_eq false).symm
  have c1 : (sgn t ns).count true = ((decide (t ≤ m)) :: sgn t (ns.erase m)).count true := ((sgn_perm pe).count_eq true).symm
  have cl := count_two (sgn t (ns.erase m))
  rw [sgn_len] at cl
  have cw := count_two w
  by_cases hd : t ≤ m
  · rw [decide_eq_true hd] at c0 c1 ⊢
    have d0 : (sgn t ns).count false = 0 := by
      rw [List.count_eq_zero]
      intro z
      obtain ⟨x, hx, ex⟩ := List.mem_map.mp z
      have := low x hx
      have : ¬ t ≤ x := of_decide_eq_false ex
      omega
    have d1 : (sgn t ns).count true = (sgn t (ns.erase m)).count true + 1 := by rw [c1]; simp
    have d2 : (sgn t (ns.erase m)).count false = 0 := by
      have : (sgn t ns).count false = (sgn t (ns.erase m)).count false := by rw [c0]; simp
      omega
    rw [dropN_zeros _ _ _ (by simp [d0]), dropN_zeros _ _ _ (by simp [d2])]
    have e1 : (sgn t ns ++ (w ++ [false])).count true - w.count true = (sgn t (ns.erase m)).count true + 1 := by simp [d1]
    have e2 : (sgn t (ns.erase m) ++ w).count true - w.count true = (sgn t (ns.erase m)).count true := by simp
    rw [e1, e2, List.replicate_succ']
  · rw [decide_eq_false hd] at c0 c1 ⊢
    have d0 : (sgn t ns).count false = (sgn t (ns.erase m)).count false + 1 := by rw [c0]; simp
    have d1 : (sgn t ns).count true = (sgn t (ns.erase m)).count true := by rw [c1]; simp
    have mem : false ∈ sgn t ns := List.count_pos_iff.mp (by omega)
    rw [dropN_f, List.erase_append_left _ mem, dropN_app, dropN_app (sgn t (ns.erase m)) w]
    have f0 : ((sgn t ns).erase false).count false = (sgn t (ns.erase m)).count false := by rw [List.count_erase_self, d0]; omega
    have f1 : ((sgn t ns).erase false).count true = (sgn t (ns.erase m)).count true := by rw [List.count_erase_of_ne (by decide), d1]
    rw [f0, f1, forget f0 f1 (by omega), dropN_app w [false]]
    have z0 : w.count false - (sgn t (ns.erase m)).count false - w.count false = 0 := by omega
    have z1 : w.count true - (sgn t (ns.erase m)).count true - w.count true = 0 := by omega
    rw [z0, z1, ← List.append_assoc]
    rfl
/-! ### how many of each kind, not their order, tells who stays in front -/
theorem dropN_len : ∀ (l : List Bool) (a b : Nat), (dropN a b l).length = (l.count false - a) + (l.count true - b)
  | [], a, b => by simp [dropN]
  | false :: l, 0, b => by rw [dropN, List.length_cons, dropN_len l 0 b]; simp; omega
  | false :: l, a + 1, b => by rw [dropN, dropN_len l a b]; simp
  | true :: l, a, 0 => by rw [dropN, List.length_cons, dropN_len l a 0]; simp; omega
  | true :: l, a, b + 1 => by rw [dropN, dropN_len l a b]; simp
theorem kept_any {v w : List Bool} {ns : List Int} (e0 : v.count false = w.count false) (e1 : v.count true = w.count true) : (afterL v ns).take (ns.length - v.length) = (afterL w ns).take (ns.length - v.length) := by
  by_cases hn : ns = []
  · subst hn
    rw [afterL_nil, afterL_nil]
  refine sgn_inj (by rw [List.length_take, List.length_take, afterL_len, afterL_len]) fun t => ?_
  have tk : ∀ (k : Nat) (l : List Int), sgn t (l.take k) = (sgn t l).take k := fun k l => List.map_take ..
  rw [tk, tk, after_sgn t v ns hn, after_sgn t w ns hn, dropN_app, dropN_app, e0, e1]
  have ln := dropN_len (sgn t ns) (w.count false) (w.count true)
  have c1 := count_two (sgn t ns)
  have c2 := count_two v
  rw [sgn_len] at c1
  have le : ns.length - v.length ≤ (dropN (w.count false) (w.count true) (sgn t ns)).length := by omega
  rw [List.take_append_of_le_length le, List.take_append_of_le_length le]
/-! ### final rows, read from the last letter on -/
/-- the word backwards, the heights ascending -/
def finR : List Bool → List Int → List Int
  | _, [] => []
  | _, [x] => [x]
  | [], hs => hs
  | true :: r, x :: y :: l => finR r ((x :: y :: l).dropLast) ++ [(x :: y :: l).getLast (by simp)]
  | false :: r, x :: y :: l => finR r (y :: l) ++ [x]
theorem after_one (w : List Bool) (x : Int) : afterL w [x] = [x] := List.perm_singleton.mp (afterL_perm w [x])
theorem after_fin : ∀ (r : List Bool) (hs ns : List Int), hs.Pairwise (· < ·) → ns.Perm hs → hs.length ≤ r.length + 1 → afterL r.reverse ns = finR r hs
  | r, [], ns, _, p, _ => by
    rw [List.perm_nil.mp p, afterL_nil]
    cases r with
    | nil => rfl
    | cons b r => cases b <;> rfl
  | r, [x], ns, _, p, _ => by
    rw [List.perm_singleton.mp p, after_one]
    cases r with
    | nil => rfl
    | cons b r => cases b <;> rfl
  | [], x :: y :: l, ns, _, _, h => by simp at h
  | true :: r, x :: y :: l, ns, hs, p, h => by
    rw [List.reverse_cons]
    have ne : x :: y :: l ≠ [] := by simp
    generalize hM : (x :: y :: l).getLast ne = M
    have sp : (x :: y :: l).dropLast ++ [M] = x :: y :: l := by rw [← hM]; exact List.dropLast_concat_getLast ne
    have pw : ((x :: y :: l).dropLast ++ [M]).Pairwise (· < ·) := by rw [sp]; exact hs
    rw [List.pairwise_append] at pw
    have memM : M ∈ ns := p.mem_iff.mpr (by rw [← sp]; simp)
    have top : ∀ z ∈ ns, z ≤ M := fun z hz => by
      have := p.mem_iff.mp hz
      rw [← sp] at this
      rcases List.mem_append.mp this with q | q
      · exact Int.le_of_lt (pw.2.2 z q M (by simp))
      · rw [List.mem_singleton.mp q]
        exact Int.le_refl _
    have hl : ns.length ≤ r.reverse.length + 2 := by rw [p.length_eq, List.length_reverse]; simpa using h
    have pe : (ns.erase M).Perm (x :: y :: l).dropLast := by
      have := p.erase M
      rw [← sp] at this
      refine this.trans ?_
      have nm : M ∉ (x :: y :: l).dropLast := fun z => by
        have := pw.2.2 M z M (by simp)
        omega
      rw [List.erase_append_right _ nm]
      simp
    rw [ends_max memM top hl]
    show _ = finR r ((x :: y :: l).dropLast) ++ [(x :: y :: l).getLast ne]
    rw [hM, after_fin r _ _ pw.1 pe (by simp at h ⊢; omega)]
  | false :: r, x :: y :: l, ns, hs, p, h => by
    rw [List.reverse_cons]
    have pw := hs
    rw [List.pairwise_cons] at pw
    have memx : x ∈ ns := p.mem_iff.mpr (by simp)
    have low : ∀ z ∈ ns, x ≤ z := fun z hz => by
      rcases List.mem_cons.mp (p.mem_iff.mp hz) with q | q
      · omega
      · exact Int.le_of_lt (pw.1 z q)
    have hl : ns.length ≤ r.reverse.length + 2 := by rw [p.length_eq, List.length_reverse]; simpa using h
    have pe : (ns.erase x).Perm (y :: l) := by
      have := p.erase x
      simpa using this
    rw [ends_min memx low hl, after_fin r _ _ pw.2 pe (by simp at h ⊢; omega)]
    rfl
/-! ### desks -/
theorem sgn_sorted {t : Int} : ∀ {l : List Int}, l.Pairwise (· ≤ ·) → sgn t l = List.replicate ((sgn t l).count false) false ++ List.replicate ((sgn t l).count true) true
  | [], _ => rfl
  | x :: l, h => by
    rw [List.pairwise_cons] at h
    have ih := sgn_sorted (t := t) h.2
    by_cases hx : t ≤ x
    · have al : sgn t (x :: l) = List.replicate (x :: l).length true := sgn_all true fun y hy => by
        rcases List.mem_cons.mp hy with q | q
        · rw [q]; exact decide_eq_true hx
        · have := h.1 y q
          exact decide_eq_true (by omega)
      rw [al]
      simp [List.count_replicate]
    · have e : sgn t (x :: l) = false :: sgn t l := by
        show decide (t ≤ x) :: sgn t l = _
        rw [decide_eq_false hx]
      rw [e]
      have c0 : (false :: sgn t l).count false = (sgn t l).count false + 1 := by simp
      have c1 : (false :: sgn t l).count true = (sgn t l).count true := by simp
      rw [c0, c1, List.replicate_succ, List.cons_append, ← ih]
/-- signs of people who come to a desk with s short seats and t tall ones, a zeros and b ones there -/
def deskB (s t : Nat) : Nat → Nat → List Bool → List Bool
  | a, b, [] => List.replicate (min (s - a) b) true ++ List.replicate (min a s) false ++ (List.replicate (a - s) false ++ List.replicate (b - (s - a)) true)
  | a, b, false :: r => if s + t < a + 1 + b then (if s < a + 1 then false :: deskB s t a b r else true :: deskB s t (a + 1) (b - 1) r) else deskB s t (a + 1) b r
  | a, b, true :: r => if s + t < a + (b + 1) then (if s < a then false :: deskB s t (a - 1) (b + 1) r else true :: deskB s t a b r) else deskB s t a (b + 1) r
def deskG (s t a b : Nat) (l : List Bool) : List Bool :=
  List.replicate (a - s) false ++ (List.replicate (b - t) true ++ (dropN (s - a) (t - b) l ++ (List.replicate (min s (a + l.count false)) false ++ List.replicate (min t (b + l.count true)) true)))
theorem rep_glue {α : Type} (x : α) (m n : Nat) (l : List α) : List.replicate m x ++ (List.replicate n x ++ l) = List.replicate (m + n) x ++ l := by
  rw [← List.append_assoc, List.replicate_append_replicate]
theorem deskB_eq (s t : Nat) : ∀ (l : List Bool) (a b : Nat), a + b ≤ s + t → s + t ≤ a + b + l.length → deskB s t a b l = deskG s t a b l
  | [], a, b, h1, h2 => by
    have e : a + b = s + t := by simp at h2; omega
    unfold deskB deskG
    rw [dropN, List.nil_append]
    by_cases ha : a ≤ s
    · rw [show min (s - a) b = s - a by omega, show min a s = a by omega, show a - s = 0 by omega, show b - (s - a) = t by omega, show b - t = s - a by omega]
      simp [List.append_assoc, show min s a = a by omega, show min t b = t by omega]
    · rw [show s - a = 0 by omega, show min a s = s by omega, show b - t = 0 by omega]
      simp only [Nat.zero_min, List.replicate_zero, List.nil_append, Nat.sub_zero, List.count_nil, Nat.add_zero]
      rw [show min s a = s by omega, show min t b = b by omega, rep_glue, rep_glue, Nat.add_comm]
  | false :: r, a, b, h1, h2 => by
    rw [List.length_cons] at h2
    unfold deskB
    by_cases hf : s + t < a + 1 + b
    · rw [if_pos hf]
      by_cases ha : s < a + 1
      · rw [if_pos ha, deskB_eq s t r a b h1 (by omega)]
        unfold deskG
        have m0 : min s (a + (false :: r).count false) = min s (a + r.count false) := by simp; omega
        have m1 : (false :: r).count true = r.count true := by simp
        rw [m0, m1, show s - a = 0 by omega, show b - t = 0 by omega, dropN]
        simp only [List.replicate_zero, List.nil_append, List.cons_append]
        rw [← List.cons_append, ← List.replicate_succ, List.replicate_succ', List.append_assoc]
        rfl
      · rw [if_neg ha, deskB_eq s t r (a + 1) (b - 1) (by omega) (by omega)]
        unfold deskG
        have m0 : a + (false :: r).count false = a + 1 + r.count false := by simp; omega
        have m1 : (false :: r).count true = r.count true := by simp
        obtain ⟨k, hk⟩ : ∃ k, s - a = k + 1 := ⟨s - a - 1, by omega⟩
        rw [m0, m1, hk, dropN, show a + 1 - s = 0 by omega, show a - s = 0 by omega, show t - (b - 1) = 0 by omega, show t - b = 0 by omega, show s - (a + 1) = k by omega, show b - t = (b - 1 - t) + 1 by omega, List.replicate_succ,
          show min t (b - 1 + r.count true) = min t (b + r.count true) by omega]
        rfl
    · rw [if_neg hf, deskB_eq s t r (a + 1) b (by omega) (by omega)]
      unfold deskG
      have m0 : a + (false :: r).count false = a + 1 + r.count false := by simp; omega
      have m1 : (false :: r).count true = r.count true := by simp
      rw [m0, m1]
      by_cases ha : a < s
      · obtain ⟨k, hk⟩ : ∃ k, s - a = k + 1 := ⟨s - a - 1, by omega⟩
        rw [hk, dropN, show a + 1 - s = 0 by omega, show a - s = 0 by omega, show s - (a + 1) = k by omega]
      · rw [show s - a = 0 by omega, show s - (a + 1) = 0 by omega, dropN, show b - t = 0 by omega, show a + 1 - s = (a - s) + 1 by omega, List.replicate_succ', List.append_assoc]
        rfl
  | true :: r, a, b, h1, h2 => by
    rw [List.length_cons] at h2
    unfold deskB
    have m0 : (true :: r).count false = r.count false := by simp
    by_cases hf : s + t < a + (b + 1)
    · rw [if_pos hf]
      by_cases ha : s < a
      · rw [if_pos ha, deskB_eq s t r (a - 1) (b + 1) (by omega) (by omega)]
        unfold deskG
        have m1 : b + (true :: r).count true = b + 1 + r.count true := by simp; omega
        obtain ⟨k, hk⟩ : ∃ k, t - b = k + 1 := ⟨t - b - 1, by omega⟩
        rw [m0, m1, hk, dropN, show s - a = 0 by omega, show s - (a - 1) = 0 by omega, show b + 1 - t = 0 by omega, show b - t = 0 by omega, show t - (b + 1) = k by omega, show a - s = (a - 1 - s) + 1 by omega, List.replicate_succ,
          show min s (a - 1 + r.count false) = min s (a + r.count false) by omega]
        rfl
      · rw [if_neg ha, deskB_eq s t r a b h1 (by omega)]
        unfold deskG
        have m1 : min t (b + (true :: r).count true) = min t (b + r.count true) := by simp; omega
        rw [m0, m1, show a - s = 0 by omega, show t - b = 0 by omega, dropN]
        simp only [List.replicate_zero, List.nil_append, List.cons_append]
        rw [← List.cons_append, ← List.replicate_succ, List.replicate_succ', List.append_assoc]
        rfl
    · rw [if_neg hf, deskB_eq s t r a (b + 1) (by omega) (by omega)]
      unfold deskG
      have m1 : b + (true :: r).count true = b + 1 + r.count true := by simp; omega
      rw [m0, m1]
      by_cases hb : b < t
      · obtain ⟨k, hk⟩ : ∃ k, t - b = k + 1 := ⟨t - b - 1, by omega⟩
        rw [hk, dropN, show b + 1 - t = 0 by omega, show b - t = 0 by omega, show t - (b + 1) = k by omega]
      · rw [show t - b = 0 by omega, show t - (b + 1) = 0 by omega, dropN, show a - s = 0 by omega, show b + 1 - t = (b - t) + 1 by omega, List.replicate_succ', List.append_assoc]
        rfl
/-- who leaves when one too many is there: exactly s are shorter -/
def leaver (s : Nat) (l : List Int) : Int := (l.find? fun x => decide ((l.filter fun y => decide (y < x)).length = s)).getD 0
/-- d are at the desk, the others come -/
def deskGo (s t : Nat) : List Int → List Int → List Int
  | d, [] => ((d.mergeSort fun x y => decide (x ≤ y)).take s).reverse ++ (d.mergeSort fun x y => decide (x ≤ y)).drop s
  | d, p :: r => if s + t < d.length + 1 then leaver s (d ++ [p]) :: deskGo s t ((d ++ [p]).erase (leaver s (d ++ [p]))) r else deskGo s t (d ++ [p]) r
theorem sort_ok (l : List Int) : (l.mergeSort fun x y => decide (x ≤ y)).Perm l ∧ (l.mergeSort fun x y => decide (x ≤ y)).Pairwise (· ≤ ·) := by
  refine ⟨List.mergeSort_perm .., ?_⟩
  have := List.pairwise_mergeSort (le := fun x y : Int => decide (x ≤ y)) (fun a b c h1 h2 => by simp at h1 h2 ⊢; omega) (fun a b => by simp; omega) l
  exact this.imp fun h => by simpa using h
theorem leaver_ok {s : Nat} {l : List Int} (nd : l.Nodup) (h : s < l.length) : leaver s l ∈ l ∧ (l.filter fun y => decide (y < leaver s l)).length = s := by
  obtain ⟨p, so⟩ := sort_ok l
  generalize l.mergeSort (fun x y => decide (x ≤ y)) = m at p so
  have hm : s < m.length := by rw [p.length_eq]; exact h
  have fx := filter_sorted hm so (p.nodup_iff.mpr nd)
  rw [(p.filter _).length_eq] at fx
  unfold leaver
  cases e : l.find? fun x => decide ((l.filter fun y => decide (y < x)).length = s) with
  | none =>
    have := List.find?_eq_none.mp e m[s] (p.mem_iff.mp (List.getElem_mem hm))
    exact absurd (decide_eq_true fx) this
  | some z =>
    have q := List.find?_some (p := fun x => decide ((l.filter fun y => decide (y < x)).length = s)) e
    exact ⟨List.mem_of_find?_eq_some e, of_decide_eq_true q⟩
theorem zeros_count (h : Int) (l : List Int) : (sgn h l).count false = (l.filter fun y => decide (y < h)).length := by
  induction l with
  | nil => rfl
  | cons x l ih =>
    show (decide (h ≤ x) :: sgn h l).count false = _
    by_cases hx : h ≤ x
    · rw [List.filter_cons, decide_eq_true hx, decide_eq_false (by omega : ¬ x < h)]
      simpa using ih
    · rw [List.filter_cons, decide_eq_false hx, decide_eq_true (by omega : x < h)]
      simp [ih]
theorem below_or_at (x : Int) : ∀ l : List Int, (l.filter fun y => decide (y < x + 1)).length = (l.filter fun y => decide (y < x)).length + l.count x
  | [] => rfl
  | y :: l => by
    have ih := below_or_at x l
    rw [List.filter_cons, List.filter_cons, List.count_cons]
    by_cases h1 : y < x
    · rw [decide_eq_true h1, decide_eq_true (by omega : y < x + 1)]
      have : (y == x) = false := beq_eq_false_iff_ne.mpr (by omega)
      simp [this, ih]
      omega
    · by_cases h2 : y = x
      · subst h2
        rw [decide_eq_false h1, decide_eq_true (by omega : y < y + 1)]
        simp [ih]
        omega
      · rw [decide_eq_false h1, decide_eq_false (by omega : ¬ y < x + 1)]
        have : (y == x) = false := beq_eq_false_iff_ne.mpr h2
        simp [this, ih]
theorem below_mono {a b : Int} (h : a ≤ b) (l : List Int) : (l.filter fun y => decide (y < a)).length ≤ (l.filter fun y => decide (y < b)).length := by
  rw [← List.countP_eq_length_filter, ← List.countP_eq_length_filter]
  exact List.countP_mono_left fun x _ hx => by simp at hx ⊢; omega
theorem leaver_sgn {s : Nat} {l : List Int} (nd : l.Nodup) (h : s < l.length) (t : Int) : decide (t ≤ leaver s l) = decide ((sgn t l).count false ≤ s) := by
  obtain ⟨mem, cnt⟩ := leaver_ok nd h
  rw [zeros_count]
  by_cases ht : t ≤ leaver s l
  · rw [decide_eq_true ht]
    have := below_mono ht l
    exact (decide_eq_true (by omega)).symm
  · rw [decide_eq_false ht]
    have h1 := below_or_at (leaver s l) l
    have h2 : 1 ≤ l.count (leaver s l) := List.count_pos_iff.mpr mem
    have h3 := below_mono (by omega : leaver s l + 1 ≤ t) l
    exact (decide_eq_false (by omega)).symm
theorem sgn_erase {l : List Int} {x : Int} (h : x ∈ l) (t : Int) (b : Bool) : (sgn t l).count b = (sgn t (l.erase x)).count b + (if decide (t ≤ x) = b then 1 else 0) := by
  have p := sgn_perm (h := t) (List.perm_cons_erase h)
  rw [p.count_eq b]
  show (decide (t ≤ x) :: sgn t (l.erase x)).count b = _
  rw [List.count_cons]
  congr 1
  cases decide (t ≤ x) <;> cases b <;> rfl
theorem desk_sgn (s t : Nat) (u : Int) : ∀ (r d : List Int), (d ++ r).Nodup → d.length ≤ s + t → s + t ≤ d.length + r.length → sgn u (deskGo s t d r) = deskB s t ((sgn u d).count false) ((sgn u d).count true) (sgn u r)
  | [], d, _, h1, h2 => by
    obtain ⟨p, so⟩ := sort_ok d
    unfold deskGo
    generalize d.mergeSort (fun x y => decide (x ≤ y)) = m at p so
    have pc := sgn_perm (h := u) p
    have ss := sgn_sorted (t := u) so
    rw [pc.count_eq false, pc.count_eq true] at ss
    have e : sgn u ((m.take s).reverse ++ m.drop s) = ((sgn u m).take s).reverse ++ (sgn u m).drop s := by
      unfold sgn
      rw [List.map_append, List.map_reverse, List.map_take, List.map_drop]
    rw [e, ss]
    show _ = deskB s t _ _ []
    unfold deskB
    generalize (sgn u d).count false = a
    generalize (sgn u d).count true = b
    rw [List.take_append, List.drop_append, List.take_replicate, List.take_replicate, List.drop_replicate, List.drop_replicate, List.length_replicate, List.reverse_append, List.reverse_replicate, List.reverse_replicate, Nat.min_comm s a]
  | p :: r, d, nd, h1, h2 => by
    rw [List.length_cons] at h2
    have nd2 : ((d ++ [p]) ++ r).Nodup := by simpa using nd
    have nd3 : (d ++ [p]).Nodup := (List.nodup_append.mp nd2).1
    have cc := count_two (sgn u d)
    rw [sgn_len] at cc
    have sap : sgn u (d ++ [p]) = sgn u d ++ [decide (u ≤ p)] := List.map_append ..
    have a0 : (sgn u (d ++ [p])).count false = (sgn u d).count false + (if decide (u ≤ p) = false then 1 else 0) := by
      rw [sap, List.count_append]
      cases decide (u ≤ p) <;> rfl
    have a1 : (sgn u (d ++ [p])).count true = (sgn u d).count true + (if decide (u ≤ p) = true then 1 else 0) := by
      rw [sap, List.count_append]
      cases decide (u ≤ p) <;> rfl
    have hr : sgn u (p :: r) = decide (u ≤ p) :: sgn u r := rfl
    have len : (d ++ [p]).length = d.length + 1 := by simp
    rw [hr]
    unfold deskGo
    by_cases hf : s + t < d.length + 1
    · rw [if_pos hf]
      have lt : s < (d ++ [p]).length := by omega
      obtain ⟨mem, _⟩ := leaver_ok nd3 lt
      have ls := leaver_sgn nd3 lt u
      have er0 := sgn_erase mem u false
      have er1 := sgn_erase mem u true
      generalize hx : leaver s (d ++ [p]) = x at *
      have sub : ((d ++ [p]).erase x ++ r).Sublist (d ++ [p] ++ r) := List.Sublist.append (List.erase_sublist ..) (List.Sublist.refl _)
      have el : ((d ++ [p]).erase x).length = d.length := by rw [List.length_erase_of_mem mem, len]; rfl
      have ih := desk_sgn s t u r ((d ++ [p]).erase x) (sub.nodup nd2) (by omega) (by omega)
      show decide (u ≤ x) :: sgn u (deskGo s t ((d ++ [p]).erase x) r) = _
      rw [ih]
      generalize sgn u r = R
      generalize (sgn u d).count false = a at *
      generalize (sgn u d).count true = b at *
      cases hp : decide (u ≤ p)
      · rw [hp] at a0 a1
        simp only [if_true, Bool.false_eq_true, if_false, Nat.add_zero] at a0 a1
        rw [a0] at ls er0
        rw [a1] at er1
        show _ = deskB s t a b (false :: R)
        conv => rhs; unfold deskB
        rw [if_pos (by omega)]
        by_cases hs : s < a + 1
        · rw [decide_eq_false (by omega : ¬ a + 1 ≤ s)] at ls
          rw [ls] at er0 er1 ⊢
          simp at er0 er1
          rw [if_pos hs, ← er0, ← er1]
        · rw [decide_eq_true (by omega : a + 1 ≤ s)] at ls
          rw [ls] at er0 er1 ⊢
          simp at er0 er1
          rw [if_neg hs, ← er0, show b - 1 = (sgn u ((d ++ [p]).erase x)).count true by omega]
      · rw [hp] at a0 a1
        simp only [if_true, Bool.true_eq_false, if_false, Nat.add_zero] at a0 a1
        rw [a0] at ls er0
        rw [a1] at er1
        show _ = deskB s t a b (true :: R)
        conv => rhs; unfold deskB
        rw [if_pos (by omega)]
        by_cases hs : s < a
        · rw [decide_eq_false (by omega : ¬ a ≤ s)] at ls
          rw [ls] at er0 er1 ⊢
          simp at er0 er1
          rw [if_pos hs, ← er1, show a - 1 = (sgn u ((d ++ [p]).erase x)).count false by omega]
        · rw [decide_eq_true (by omega : a ≤ s)] at ls
          rw [ls] at er0 er1 ⊢
          simp at er0 er1
          rw [if_neg hs, ← er0, ← er1]
    · rw [if_neg hf, desk_sgn s t u r (d ++ [p]) nd2 (by omega) (by omega), a0, a1]
      cases hp : decide (u ≤ p)
      · show deskB s t ((sgn u d).count false + 1) ((sgn u d).count true) (sgn u r) = deskB s t _ _ (false :: sgn u r)
        conv => rhs; unfold deskB
        rw [if_neg (by omega)]
      · show deskB s t ((sgn u d).count false) ((sgn u d).count true + 1) (sgn u r) = deskB s t _ _ (true :: sgn u r)
        conv => rhs; unfold deskB
        rw [if_neg (by omega)]
/-- a desk is its passes -/
theorem desk_passes {s t : Nat} {ns : List Int} (nd : ns.Nodup) (h : s + t ≤ ns.length) : deskGo s t [] ns = afterL (List.replicate s false ++ List.replicate t true) ns := by
  by_cases hn : ns = []
  · subst hn
    rw [afterL_nil]
    have hs : s = 0 := by simp at h; omega
    subst hs
    unfold deskGo
    simp [List.mergeSort]
  have key : ∀ u, sgn u (deskGo s t [] ns) = sgn u (afterL (List.replicate s false ++ List.replicate t true) ns) := fun u => by
    rw [desk_sgn s t u ns [] (by simpa using nd) (Nat.zero_le _) (by simpa using h), after_sgn u _ ns hn]
    show deskB s t 0 0 (sgn u ns) = _
    rw [deskB_eq s t _ 0 0 (Nat.zero_le _) (by rw [sgn_len]; simpa using h)]
    have c0 : (List.replicate s false ++ List.replicate t true).count false = s := by simp [List.count_replicate]
    have c1 : (List.replicate s false ++ List.replicate t true).count true = t := by simp [List.count_replicate]
    rw [c0, c1, dropN_app, dropN_0x]
    unfold deskG
    simp only [Nat.zero_sub, List.replicate_zero, List.nil_append, Nat.sub_zero, Nat.zero_add]
    rw [show s - (s - (sgn u ns).count false) = min s ((sgn u ns).count false) by omega, show t - (t - (sgn u ns).count true) = min t ((sgn u ns).count true) by omega]
  refine sgn_inj ?_ key
  have := congrArg List.length (key 0)
  rwa [sgn_len, sgn_len] at this
end Lp
namespace Lp
open PySem PySem.Spec PyProof.Rows L2
/-! ### desks with the numbers of arrivals -/
theorem below_inj {l : List Int} {x y : Int} (hx : x ∈ l) (hy : y ∈ l) (h : (l.filter fun z => decide (z < x)).length = (l.filter fun z => decide (z < y)).length) : x = y := by
  have h1 := below_or_at x l
  have h2 := below_or_at y l
  have c1 : 1 ≤ l.count x := List.count_pos_iff.mpr hx
  have c2 : 1 ≤ l.count y := List.count_pos_iff.mpr hy
  rcases Int.lt_trichotomy x y with z | z | z
  · have := below_mono (by omega : x + 1 ≤ y) l
    omega
  · exact z
  · have := below_mono (by omega : y + 1 ≤ x) l
    omega
theorem leaver_at {s : Nat} {d ds : List Int} (p : ds.Perm d) (so : ds.Pairwise (· ≤ ·)) (nd : d.Nodup) (h : s < ds.length) : ds[s] = leaver s d := by
  have hd : s < d.length := by rw [← p.length_eq]; exact h
  obtain ⟨mem, cnt⟩ := leaver_ok nd hd
  refine below_inj (p.mem_iff.mp (List.getElem_mem h)) mem ?_
  rw [cnt, ← (p.filter _).length_eq]
  exact filter_sorted h so (p.nodup_iff.mpr nd)
theorem erase_at : ∀ {l : List Int} {k : Nat} (h : k < l.length), l.Nodup → l.eraseIdx k = l.erase l[k]
  | a :: l, 0, _, _ => by simp
  | a :: l, k + 1, h, nd => by
    rw [List.nodup_cons] at nd
    have hk : k < l.length := Nat.lt_of_succ_lt_succ h
    have ne : (a == (a :: l)[k + 1]) = false := by
      show (a == l[k]) = false
      exact beq_eq_false_iff_ne.mpr fun e => nd.1 (e ▸ List.getElem_mem hk)
    rw [List.erase_cons, ne]
    show a :: l.eraseIdx k = a :: l.erase l[k]
    rw [erase_at hk nd.2]
theorem sorted_uniq {a b : List Int} (p : a.Perm b) (ha : a.Pairwise (· ≤ ·)) (hb : b.Pairwise (· ≤ ·)) : a = b :=
  p.eq_of_pairwise (fun x y _ _ h1 h2 => by omega) ha hb
/-- the people of an ascending list as they leave at last -/
def lastGo (s : Nat) (ds : List Int) : List Int := (ds.take s).reverse ++ ds.drop s
def stepD (s t : Nat) (st : List (Int × Int) × List Int × Nat) (p : Int) : List (Int × Int) × List Int × Nat :=
  if s + t < st.2.1.length + 1 then (st.1 ++ [(((st.2.2 + 1 : Nat) : Int), leaver s (st.2.1 ++ [p]))], (st.2.1 ++ [p]).erase (leaver s (st.2.1 ++ [p])), st.2.2 + 1)
  else (st.1, st.2.1 ++ [p], st.2.2 + 1)
def runD (s t : Nat) (ns : List Int) : List (Int × Int) × List Int × Nat := ns.foldl (stepD s t) ([], [], 0)
def sortL (l : List Int) : List Int := l.mergeSort fun x y => decide (x ≤ y)
def depL (s t : Nat) (ns : List Int) : List (Int × Int) := (runD s t ns).1 ++ (lastGo s (sortL (runD s t ns).2.1)).map fun p => ((ns.length : Int), p)
theorem depGo (s t : Nat) : ∀ (r d : List Int) (l : List (Int × Int)) (k : Nat), ((r.foldl (stepD s t) (l, d, k)).1.map (·.2)) ++ lastGo s (sortL (r.foldl (stepD s t) (l, d, k)).2.1) = l.map (·.2) ++ deskGo s t d r
  | [], d, l, k => rfl
  | p :: r, d, l, k => by
    rw [List.foldl_cons, show stepD s t (l, d, k) p = (if s + t < d.length + 1 then (l ++ [(((k + 1 : Nat) : Int), leaver s (d ++ [p]))], (d ++ [p]).erase (leaver s (d ++ [p])), k + 1) else (l, d ++ [p], k + 1)) from rfl, deskGo]
    split
    · rw [depGo s t r, List.map_append, List.append_assoc]
      rfl
    · rw [depGo s t r]
theorem depL_desk (s t : Nat) (ns : List Int) : (depL s t ns).map (·.2) = deskGo s t [] ns := by
  have := depGo s t ns [] [] 0
  unfold depL runD
  rw [List.map_append, List.map_map, show ((fun x : Int × Int => x.2) ∘ fun p => ((ns.length : Int), p)) = id from rfl, List.map_id]
  exact this
theorem runD_take {s t : Nat} {ns : List Int} {i : Nat} (h : i < ns.length) : runD s t (ns.take (i + 1)) = stepD s t (runD s t (ns.take i)) ns[i] := fold_take (List.getElem?_eq_getElem h)
/-- who is at the desk, of those who came -/
theorem runD_desk (s t : Nat) : ∀ (r d : List Int) (l : List (Int × Int)) (k : Nat), (d ++ r).Nodup → d.length ≤ s + t → (r.foldl (stepD s t) (l, d, k)).2.1.Nodup ∧ (∀ x ∈ (r.foldl (stepD s t) (l, d, k)).2.1, x ∈ d ++ r) ∧ (r.foldl (stepD s t) (l, d, k)).2.1.length ≤ s + t ∧ (r.foldl (stepD s t) (l, d, k)).2.2 = k + r.length
  | [], d, l, k, nd, hd => by
    rw [List.append_nil] at nd ⊢
    exact ⟨nd, fun x hx => hx, hd, rfl⟩
  | p :: r, d, l, k, nd, hd => by
    have nd2 : ((d ++ [p]) ++ r).Nodup := by rw [List.append_assoc]; exact nd
    have ndp : (d ++ [p]).Nodup := (List.nodup_append.mp nd2).1
    rw [List.foldl_cons, show stepD s t (l, d, k) p = (if s + t < d.length + 1 then (l ++ [(((k + 1 : Nat) : Int), leaver s (d ++ [p]))], (d ++ [p]).erase (leaver s (d ++ [p])), k + 1) else (l, d ++ [p], k + 1)) from rfl]
    split
    · rename_i hlt
      have hs : s < (d ++ [p]).length := by
        rw [List.length_append]
        show s < d.length + 1
        omega
      obtain ⟨mem, _⟩ := leaver_ok ndp hs
      have sub : ((d ++ [p]).erase (leaver s (d ++ [p])) ++ r).Sublist ((d ++ [p]) ++ r) := (List.erase_sublist ..).append_right r
      obtain ⟨h1, h2, h3, h4⟩ := runD_desk s t r ((d ++ [p]).erase (leaver s (d ++ [p]))) (l ++ [(((k + 1 : Nat) : Int), leaver s (d ++ [p]))]) (k + 1) (nd2.sublist sub) (by
        rw [List.length_erase_of_mem mem, List.length_append]
        show d.length + 1 - 1 ≤ s + t
        omega)
      refine ⟨h1, fun x hx => ?_, h3, by rw [h4, List.length_cons]; omega⟩
      have := sub.mem (h2 x hx)
      rw [List.append_assoc] at this
      exact this
    · rename_i hlt
      obtain ⟨h1, h2, h3, h4⟩ := runD_desk s t r (d ++ [p]) l (k + 1) nd2 (by
        rw [List.length_append]
        show d.length + 1 ≤ s + t
        omega)
      refine ⟨h1, fun x hx => ?_, h3, by rw [h4, List.length_cons]; omega⟩
      have := h2 x hx
      rw [List.append_assoc] at this
      exact this
theorem runD_ok {s t : Nat} {ns : List Int} (nd : ns.Nodup) (i : Nat) : (runD s t (ns.take i)).2.1.Nodup ∧ (∀ x ∈ (runD s t (ns.take i)).2.1, x ∈ ns.take i) ∧ (runD s t (ns.take i)).2.1.length ≤ s + t ∧ (runD s t (ns.take i)).2.2 = (ns.take i).length := by
  obtain ⟨h1, h2, h3, h4⟩ := runD_desk s t (ns.take i) [] [] 0 (by rw [List.nil_append]; exact nd.sublist (List.take_sublist ..)) (Nat.zero_le _)
  exact ⟨h1, fun x hx => by simpa using h2 x hx, h3, by unfold runD; rw [h4]; omega⟩
/-- pairs of numbers in the heap -/
def PairsAt (H : Hp) : List Addr → List (Int × Int) → Prop
  | [], [] => True
  | r :: rs, p :: ps => H r = some (.tup [.int p.1, .int p.2]) ∧ PairsAt H rs ps
  | [], _ :: _ => False
  | _ :: _, [] => False
theorem PairsAt.keep {H H' : Hp} : ∀ {rs : List Addr} {ps : List (Int × Int)}, PairsAt H rs ps → (∀ r ∈ rs, ∀ o, H r = some o → H' r = some o) → PairsAt H' rs ps
  | [], [], _, _ => trivial
  | r :: rs, p :: ps, h, e => ⟨e r (List.mem_cons_self ..) _ h.1, PairsAt.keep h.2 fun x hx => e x (List.mem_cons_of_mem _ hx)⟩
theorem PairsAt.same {H H' : Hp} {rs : List Addr} {ps : List (Int × Int)} (h : PairsAt H rs ps) (e : Same H H') : PairsAt H' rs ps := h.keep fun _ _ o z => e _ o z
theorem PairsAt.snoc {H : Hp} {r : Addr} {p : Int × Int} : ∀ {rs : List Addr} {ps : List (Int × Int)}, PairsAt H rs ps → H r = some (.tup [.int p.1, .int p.2]) → PairsAt H (rs ++ [r]) (ps ++ [p])
  | [], [], _, e => ⟨e, trivial⟩
  | _ :: _, _ :: _, h, e => ⟨h.1, PairsAt.snoc h.2 e⟩
theorem PairsAt.len {H : Hp} : ∀ {rs : List Addr} {ps : List (Int × Int)}, PairsAt H rs ps → rs.length = ps.length
  | [], [], _ => rfl
  | _ :: _, _ :: _, h => by rw [List.length_cons, List.length_cons, PairsAt.len h.2]
theorem PairsAt.get {H : Hp} : ∀ {rs : List Addr} {ps : List (Int × Int)} {i : Nat} {r : Addr}, PairsAt H rs ps → rs[i]? = some r → ∃ p, ps[i]? = some p ∧ H r = some (.tup [.int p.1, .int p.2])
  | r :: rs, p :: ps, 0, r', h, e => ⟨p, rfl, by rw [← Option.some.inj e]; exact h.1⟩
  | r :: rs, p :: ps, i + 1, r', h, e => PairsAt.get (i := i) h.2 e
theorem PairsAt.app {H : Hp} : ∀ {rs qs : List Addr} {ps os : List (Int × Int)}, PairsAt H rs ps → PairsAt H qs os → PairsAt H (rs ++ qs) (ps ++ os)
  | [], _, [], _, _, h => h
  | _ :: _, _, _ :: _, _, h, g => ⟨h.1, PairsAt.app h.2 g⟩
theorem cutT (ns : List Int) (k : Nat) : cutV (ns.map V.int) none (some (k : Nat)) = (ns.take k).map V.int := by
  unfold cutV
  rw [HT.sIx_none, HT.sIx_nat, List.length_map]
  show ((ns.map V.int).take (min k ns.length - 0)) = _
  rw [Nat.sub_zero, List.map_take]
  by_cases h : k ≤ ns.length
  · rw [Nat.min_eq_left h]
  · rw [Nat.min_eq_right (by omega), List.take_of_length_le (by rw [List.length_map]; omega), List.take_of_length_le (by rw [List.length_map]; omega)]
theorem cutD (ns : List Int) (k : Nat) : cutV (ns.map V.int) (some (k : Nat)) none = (ns.drop k).map V.int := by
  unfold cutV
  rw [HT.sIx_none, HT.sIx_nat, List.length_map]
  show (((ns.map V.int).drop (min k ns.length)).take (ns.length - min k ns.length)) = _
  rw [List.map_drop]
  by_cases h : k ≤ ns.length
  · rw [Nat.min_eq_left h, List.take_of_length_le (by rw [List.length_drop, List.length_map]; omega)]
  · rw [Nat.min_eq_right (by omega), List.drop_of_length_le (by rw [List.length_map]; omega), List.drop_of_length_le (by rw [List.length_map]; omega)]
    exact List.take_nil
end Lp
namespace Lp
open PySem PySem.Spec PyProof.Rows L2
/-! ### lists of texts as data -/
theorem strOk_wd (bs : List Bool) : PyData.strOk (wd bs) = true := by
  show ((bs.map code).toArray.all (· < 0x110000)) = true
  rw [List.all_toArray, List.all_eq_true]
  intro c hc
  obtain ⟨b, _, rfl⟩ := List.mem_map.mp hc
  cases b <;> decide
abbrev vW (bs : List Bool) : V := .str (wd bs)
abbrev dW (bs : List Bool) : PyData := .str (wd bs)
theorem Dp_wds {K : PySem.W.Frag} {H : Hp} : ∀ zs : List (List Bool), DpAll K H (zs.map vW) (zs.map dW)
  | [] => .nil
  | z :: zs => .cons (.str (wd z)) (Dp_wds zs)
theorem lay_wds : ∀ zs : List (List Bool), PyData.canLayAll0 (zs.map dW) = true
  | [] => by simp only [List.map_nil, PyData.canLayAll0]
  | n :: ns => by simp only [List.map_cons, PyData.canLayAll0, PyData.canLay0, strOk_wd, Bool.true_and, lay_wds ns]
theorem depth_wds : ∀ zs : List (List Bool), PyData.depthAll (zs.map dW) = 0
  | [] => by simp only [List.map_nil, PyData.depthAll]
  | n :: ns => by simp only [List.map_cons, PyData.depthAll, PyData.depth, depth_wds ns, Nat.max_self]
theorem shaped_wds (zs : List (List Bool)) : SeqAt.shaped (.list (zs.map dW)) = true := by
  unfold SeqAt.shaped
  simp only [PyData.canLay0, PyData.depth, lay_wds, depth_wds]
  decide
theorem eqv_wds (zs : List (List Bool)) : PyData.eqv (.list (zs.map dW)) (.list (zs.map dW)) = true := SeqAt.eqv_refl _ (by simp only [PyData.canLay0, lay_wds])
theorem Dp_texts {K : PySem.W.Frag} {H : Hp} {a : Addr} {zs : List (List Bool)} (h : SqL K H a (zs.map vW)) : Dp K H (.ref a) (.list (zs.map dW)) := .lst h (Dp_wds zs)
theorem neV (v : V) : (!decide (v = v)) = false := by rw [decide_eq_true rfl]; rfl
theorem Pool.row {H : Hp} {a p : Addr} {xs : List V} (x : Pool H a) (h : H p = some (.tup xs)) : p ≠ a := fun e => by
  obtain ⟨s, d, n, g, _⟩ := x
  subst e
  rw [h] at g
  cases g
theorem SqL.kp {K : PySem.W.Frag} {a b : Addr} {H H' : Hp} {xs : List V} (e : Kp a H H') (ne : b ≠ a) (h : SqL K H b xs) : SqL K H' b xs := by
  rcases h with (h | ⟨o, h⟩) | h
  · exact .inl (.inl (e _ _ h ne))
  · exact .inl (.inr ⟨o, e _ _ h ne⟩)
  · exact .inr h
theorem SqT.pool {K : PySem.W.Frag} {a b : Addr} {H H' : Hp} {xs : List V} (h : SqT K H b xs) (x : Pool H a) (e : Kp a H H') : SqT K H' b xs := by
  obtain ⟨_, _, _, g, _⟩ := x
  rcases h with (h | ⟨o, h⟩) | h
  · exact .inl (.inl (e _ _ h fun z => by subst z; rw [h] at g; cases g))
  · exact .inl (.inr ⟨o, e _ _ h fun z => by subst z; rw [h] at g; cases g⟩)
  · exact .inr h
theorem SqL.fresh {K : PySem.W.Frag} {a b : Addr} {H H' G : Hp} {xs : List V} (h : SqL K H a xs) (nb : H b = none) (s : Same H H') (k : Kp b H' G) : SqL K G a xs := by
  rcases h with (h | ⟨o, h⟩) | h
  · exact .inl (.inl (k _ _ (s _ _ h) (ne_of_none h nb)))
  · exact .inl (.inr ⟨o, k _ _ (s _ _ h) (ne_of_none h nb)⟩)
  · exact .inr h
theorem getN {M : List Nat} {i : Nat} (h : i < M.length) : (M.map fun m => V.int (m : Nat))[i]? = some (.int (M[i] : Nat)) := by
  rw [List.getElem?_map, List.getElem?_eq_getElem h]
  rfl
theorem atST (d : Int) (h0 : 0 ≤ d) (h1 : d < 2) : atI (Str.ofString "ST").cps.toList d = some (code (decide (d = 1))) := by
  have h : d = 0 ∨ d = 1 := by omega
  rcases h with rfl | rfl <;> decide +kernel
theorem cutS_drop (bs : List Bool) (k : Nat) : cutS (wd bs) (some (k : Nat)) none = wd (bs.drop k) := by
  unfold cutS
  rw [HT.sIx_none, HT.sIx_nat, wd_len]
  show (⟨(((bs.map code).drop (min k bs.length)).take (bs.length - min k bs.length)).toArray⟩ : Str) = ⟨((bs.drop k).map code).toArray⟩
  rw [List.map_drop]
  congr 2
  by_cases h : k ≤ bs.length
  · rw [Nat.min_eq_left h, List.take_of_length_le (by rw [List.length_drop, List.length_map]; omega)]
  · rw [Nat.min_eq_right (by omega), List.drop_of_length_le (by rw [List.length_map]; omega), List.drop_of_length_le (by rw [List.length_map]; omega)]
    exact List.take_nil
theorem cutS_mid (bs : List Bool) (i j : Nat) : cutS (wd bs) (some (i : Nat)) (some (j : Nat)) = wd ((bs.drop (min i bs.length)).take (min j bs.length - min i bs.length)) := by
  unfold cutS
  rw [HT.sIx_nat, HT.sIx_nat, wd_len]
  show (⟨(((bs.map code).drop (min i bs.length)).take (min j bs.length - min i bs.length)).toArray⟩ : Str) = ⟨(((bs.drop (min i bs.length)).take (min j bs.length - min i bs.length)).map code).toArray⟩
  rw [List.map_take, List.map_drop]
/-- the last m - 1 letters -/
def lastN (m : Nat) (bs : List Bool) : List Bool := bs.drop (bs.length + 1 - m)
theorem lastN_len (m : Nat) (bs : List Bool) : (lastN m bs).length = min bs.length (m - 1) := by
  unfold lastN
  rw [List.length_drop]
  omega
theorem lastN_lastN {m : Nat} (hm : 1 ≤ m) (bs : List Bool) : lastN m (lastN m bs) = lastN m bs := by
  have h : (lastN m bs).length + 1 - m = 0 := by
    rw [lastN_len]
    omega
  show (lastN m bs).drop ((lastN m bs).length + 1 - m) = _
  rw [h]
  rfl
theorem after_lastN {ns : List Int} {m : Nat} (h : ns.length = m) (bs : List Bool) : afterL (lastN m bs) ns = afterL bs ns := by
  rw [← h]
  exact after_drop
theorem wd_inj {a b : List Bool} (h : wd a = wd b) : a = b := by
  have h1 : (a.map code).toArray = (b.map code).toArray := congrArg Str.cps h
  have h2 : a.map code = b.map code := by simpa using congrArg Array.toList h1
  refine List.map_inj_right (fun x y e => ?_) |>.mp h2
  cases x <;> cases y <;> first | rfl | exact absurd e (by decide)
/-! ### list of a text -/
theorem letters_rel {bs : List Bool} {acc : Array Value} (items : ItemsOf (SignAt (wd bs)) acc (wd bs).cps.size) : Vals (bs.map fun b => V.str (ltr b)) acc.toList := by
  have sz : acc.toList.length = (bs.map fun b => V.str (ltr b)).length := by
    rw [List.length_map, Array.length_toList, items.1]
    exact wd_len bs
  refine vals_of_at sz.symm fun j x u hx hu => ?_
  obtain ⟨c, tk, hc, rfl⟩ := items.2 j u (by simpa using hu)
  obtain ⟨b, hb, rfl⟩ := wd_get hc
  rw [List.getElem?_map, hb] at hx
  rw [← Option.some.inj hx]
  exact ⟨tk, rfl⟩
def rListW : List V → Hp → VK → Prop := fun xs H Q => ∃ bs : List Bool, xs = [.str (wd bs)] ∧ bs.length ≤ 1000 ∧ ∀ l, H l = none → Q (.ref l) (upd H l (.lst (bs.map fun b => V.str (ltr b))))
theorem cr_listW {X : Cx} (calm : X.calm = true) : CallR X (.type "list") rListW := fun pins s σ H xs us Q I r h => by
  obtain ⟨bs, rfl, hl, q⟩ := h
  obtain ⟨u, rfl, tk0, rfl⟩ := vals1 r
  have fits : (wd bs).cps.size ≤ sizeLine := Nat.le_trans (Nat.le_of_eq (wd_len bs)) (Nat.le_of_lt (len_lt (by omega)))
  refine call_list_str (hn := fits) (I.ok.hd calm) (wd bs) tk0 fun h2 tk acc c keep at_ items => ?_
  have new : ObjOk X.prog X.w (upd H s.heap.objs.size (.lst (bs.map fun b => V.str (ltr b)))) h2 s.heap.objs.size (.lst (bs.map fun b => V.str (ltr b))) :=
    ⟨by rw [List.length_map]; exact Nat.le_of_lt (len_lt (by omega)), acc.toList, c, letters_rel items, by simpa using at_⟩
  exact ⟨.ref s.heap.objs.size, _, I.laid (t' := tk) keep (Nat.le_refl _) new, rfl, q _ (I.hok.fresh (Nat.le_refl _))⟩
/-! ### a letter times a number -/
theorem mul_ltr0 (b : Bool) (n : Nat) : Txt.mul (ltr b) ((n : Nat) : Int) = wd (List.replicate n b) := by
  cases n with
  | zero => rfl
  | succ n => exact mul_ltr b n
theorem op_mulL {X : Cx} : OpR X (binaryOp .Mult) (fun x y H Q => ∃ (b : Bool) (n : Nat), x = .str (ltr b) ∧ y = .int (n : Nat) ∧ n ≤ 1000 ∧ Q (.str (wd (List.replicate n b))) H) := by
  intro pins s σ H x y v u Q I rx ry h
  obtain ⟨b, n, rfl, rfl, h2, q⟩ := h
  obtain ⟨t, rfl⟩ := rx
  obtain ⟨t', rfl⟩ := ry
  rw [← mul_ltr0] at q
  refine SB.mul ⟨?_, fun h1 _ => ?_, fun h1 _ => ?_⟩ fun t2 k2 => ⟨.str _, H, I.tok k2, ⟨t2, rfl⟩, q⟩
  · rw [Bool.or_eq_false_iff]
    exact ⟨decide_eq_false (by omega), decide_eq_false (by omega)⟩
  · have e : (1000 : Int) ≤ (2 ^ 63 - 1) / (n : Nat) := Int.le_ediv_of_mul_le (by omega) (by omega)
    have e1 : (ltr b).length = 1 := rfl
    rw [e1]
    omega
  · have e1 : (ltr b).length = 1 := rfl
    rw [e1]
    unfold PySem.Builtin.Str.tooLong
    exact decide_eq_false (by rw [Nat.not_lt, Nat.one_mul]; exact Nat.le_trans (by omega : _ ≤ 1000) (by decide))
/-! ### three names in another order -/
def rev3 {α : Type} : List α → List α
  | [a, b, c] => [c, b, a]
  | l => l
def rotL3 {α : Type} : List α → List α
  | [a, b, c] => [b, c, a]
  | l => l
def rotR3 {α : Type} : List α → List α
  | [a, b, c] => [c, a, b]
  | l => l
theorem three_of {zs : List V} {ws : List Value} (r : Vals zs ws) : (∃ a b c x y z, zs = [a, b, c] ∧ ws = [x, y, z] ∧ RelV a x ∧ RelV b y ∧ RelV c z) ∨ (zs.length ≠ 3 ∧ ws.length ≠ 3) := by
  have l := r.length
  by_cases h : zs.length = 3
  · match zs, ws, r, h with
    | [a, b, c], [x, y, z], .cons p (.cons q (.cons s .nil)), _ => exact .inl ⟨a, b, c, x, y, z, rfl, rfl, p, q, s⟩
  · exact .inr ⟨h, by omega⟩
theorem rev3_id {α : Type} {l : List α} (h : l.length ≠ 3) : rev3 l = l := by
  match l, h with
  | [], _ | [_], _ | [_, _], _ => rfl
  | [_, _, _], h => exact absurd rfl h
  | _ :: _ :: _ :: _ :: _, _ => rfl
theorem rotL3_id {α : Type} {l : List α} (h : l.length ≠ 3) : rotL3 l = l := by
  match l, h with
  | [], _ | [_], _ | [_, _], _ => rfl
  | [_, _, _], h => exact absurd rfl h
  | _ :: _ :: _ :: _ :: _, _ => rfl
theorem rotR3_id {α : Type} {l : List α} (h : l.length ≠ 3) : rotR3 l = l := by
  match l, h with
  | [], _ | [_], _ | [_, _], _ => rfl
  | [_, _, _], h => exact absurd rfl h
  | _ :: _ :: _ :: _ :: _, _ => rfl
theorem rel_rev3 {zs : List V} {ws : List Value} (r : Vals zs ws) : Vals (rev3 zs) (rev3 ws) := by
  rcases three_of r with ⟨a, b, c, x, y, z, rfl, rfl, p, q, s⟩ | ⟨h1, h2⟩
  · exact .cons s (.cons q (.cons p .nil))
  · rw [rev3_id h1, rev3_id h2]
    exact r
theorem rel_rotL3 {zs : List V} {ws : List Value} (r : Vals zs ws) : Vals (rotL3 zs) (rotL3 ws) := by
  rcases three_of r with ⟨a, b, c, x, y, z, rfl, rfl, p, q, s⟩ | ⟨h1, h2⟩
  · exact .cons q (.cons s (.cons p .nil))
  · rw [rotL3_id h1, rotL3_id h2]
    exact r
theorem rel_rotR3 {zs : List V} {ws : List Value} (r : Vals zs ws) : Vals (rotR3 zs) (rotR3 ws) := by
  rcases three_of r with ⟨a, b, c, x, y, z, rfl, rfl, p, q, s⟩ | ⟨h1, h2⟩
  · exact .cons s (.cons p (.cons q .nil))
  · rw [rotR3_id h1, rotR3_id h2]
    exact r
/-! ### each of a list of places holds its own -/
def Each {β : Type} (R : Addr → β → Prop) : List Addr → List β → Prop
  | [], [] => True
  | r :: rs, p :: ps => R r p ∧ Each R rs ps
  | [], _ :: _ => False
  | _ :: _, [] => False
theorem Each.get {β : Type} {R : Addr → β → Prop} : ∀ {rs : List Addr} {ps : List β} {i : Nat} {r : Addr}, Each R rs ps → rs[i]? = some r → ∃ p, ps[i]? = some p ∧ R r p
  | r :: rs, p :: ps, 0, r', h, e => ⟨p, rfl, by rw [← Option.some.inj e]; exact h.1⟩
  | r :: rs, p :: ps, i + 1, r', h, e => Each.get (i := i) h.2 e
theorem Each.imp {β : Type} {R S : Addr → β → Prop} : ∀ {rs : List Addr} {ps : List β}, Each R rs ps → (∀ r ∈ rs, ∀ p, R r p → S r p) → Each S rs ps
  | [], [], _, _ => trivial
  | r :: rs, p :: ps, h, e => ⟨e r (List.mem_cons_self ..) _ h.1, Each.imp h.2 fun x hx => e x (List.mem_cons_of_mem _ hx)⟩
theorem Each.snoc {β : Type} {R : Addr → β → Prop} {r : Addr} {p : β} : ∀ {rs : List Addr} {ps : List β}, Each R rs ps → R r p → Each R (rs ++ [r]) (ps ++ [p])
  | [], [], _, e => ⟨e, trivial⟩
  | _ :: _, _ :: _, h, e => ⟨h.1, Each.snoc h.2 e⟩
theorem Each.len {β : Type} {R : Addr → β → Prop} : ∀ {rs : List Addr} {ps : List β}, Each R rs ps → rs.length = ps.length
  | [], [], _ => rfl
  | _ :: _, _ :: _, h => by rw [List.length_cons, List.length_cons, Each.len h.2]
theorem Each.app {β : Type} {R : Addr → β → Prop} : ∀ {rs qs : List Addr} {ps os : List β}, Each R rs ps → Each R qs os → Each R (rs ++ qs) (ps ++ os)
  | [], _, [], _, _, h => h
  | _ :: _, _, _ :: _, _, h, g => ⟨h.1, Each.app h.2 g⟩
theorem getR {rs : List Addr} {k : Nat} (h : k < rs.length) : (rs.map V.ref)[k]? = some (.ref rs[k]) := by
  rw [List.getElem?_map, List.getElem?_eq_getElem h]
  rfl
theorem lt_of_get {α β : Type} {f : α → β} {xs : List α} {i : Nat} {x : β} (h : (xs.map f)[i]? = some x) : i < xs.length := by
  have := (List.getElem?_eq_some_iff.mp h).1
  rw [List.length_map] at this
  exact this
theorem getB {l : List Bool} {k : Nat} (h : k < l.length) : (l.map fun b => V.str (ltr b))[k]? = some (.str (ltr l[k])) := by
  rw [List.getElem?_map, List.getElem?_eq_getElem h]
  rfl
end Lp
namespace Lp
open PySem PySem.Spec PyProof.Rows L2
/-! ### tuples of pairs as data -/
abbrev dP (p : Int × Int) : PyData := .tuple [.int p.1, .int p.2]
def Small (p : Int × Int) : Prop := (0 ≤ p.1 ∧ p.1 ≤ 999) ∧ 0 ≤ p.2 ∧ p.2 ≤ 999
theorem small_log0 {x : Int} (h : 0 ≤ x ∧ x ≤ 999) : x.natAbs.log2 < 1920 := by
  by_cases h0 : x = 0
  · subst h0
    decide
  · exact small_log ⟨by omega, h.2⟩
theorem Dp_pairs {K : PySem.W.Frag} {H : Hp} : ∀ {rs : List Addr} {ps : List (Int × Int)}, PairsAt H rs ps → DpAll K H (rs.map V.ref) (ps.map dP)
  | [], [], _ => .nil
  | _ :: _, p :: _, h => .cons (.tup (.inl (.inl h.1)) (Dp_ints [p.1, p.2])) (Dp_pairs h.2)
theorem lay_pairs : ∀ ps : List (Int × Int), PyData.canLayAll0 (ps.map dP) = true
  | [] => by simp only [List.map_nil, PyData.canLayAll0]
  | n :: ns => by simp only [List.map_cons, PyData.canLayAll0, PyData.canLay0, Bool.true_and, lay_pairs ns]
theorem depth_pairs : ∀ ps : List (Int × Int), PyData.depthAll (ps.map dP) ≤ 1
  | [] => by simp only [List.map_nil, PyData.depthAll]; decide
  | n :: ns => by
    have := depth_pairs ns
    simp only [List.map_cons, PyData.depthAll, PyData.depth]
    omega
theorem show_pairs : ∀ {ps : List (Int × Int)}, (∀ p ∈ ps, Small p) → PyData.showableAll (ps.map dP) = true
  | [], _ => by simp only [List.map_nil, PyData.showableAll]
  | n :: ns, h => by
    have hn := h n (List.mem_cons_self ..)
    have e1 := small_log0 hn.1
    have e2 := small_log0 hn.2
    simp only [List.map_cons, PyData.showableAll, PyData.showable, Bool.and_eq_true, Bool.and_true]
    exact ⟨⟨decide_eq_true e1, decide_eq_true e2⟩, show_pairs fun x hx => h x (List.mem_cons_of_mem _ hx)⟩
theorem pair_len {p : Int × Int} (h : Small p) : (dP p).shown.length ≤ 10000 := by
  have h1 := fmt_text (PyData.shownAll ([p.1, p.2].map PyData.int))
  have h2 := piled_ints (ns := [p.1, p.2]) fun x hx => by
    rcases List.mem_cons.mp hx with rfl | hx
    · exact small_log0 h.1
    · rw [List.mem_singleton.mp hx]
      exact small_log0 h.2
  have e : (dP p).shown = (PyData.tuple ([p.1, p.2].map PyData.int)).shown := rfl
  rw [e]
  simp only [PyData.shown]
  have l2 : [p.1, p.2].length = 2 := rfl
  rw [l2] at h2
  omega
theorem piled_pairs : ∀ {ps : List (Int × Int)}, (∀ p ∈ ps, Small p) → piled (PyData.shownAll (ps.map dP)) ≤ 10002 * ps.length
  | [], _ => by simp only [List.map_nil, PyData.shownAll, piled_nil, List.length_nil]; omega
  | n :: ns, h => by
    have h1 := pair_len (h n (List.mem_cons_self ..))
    have h2 := piled_pairs fun x hx => h x (List.mem_cons_of_mem _ hx)
    rw [List.map_cons, PyData.shownAll, piled_cons, List.length_cons]
    omega
abbrev pairS (ps : List (Int × Int)) : Str := (PyData.tuple (ps.map dP)).shown
theorem pairs_dep (ps : List (Int × Int)) : (PyData.tuple (ps.map dP)).depth ≤ 60 := by
  have := depth_pairs ps
  simp only [PyData.depth]
  omega
theorem pairs_lay (ps : List (Int × Int)) : (PyData.tuple (ps.map dP)).canLay0 = true := by simp only [PyData.canLay0, lay_pairs]
theorem pairs_show {ps : List (Int × Int)} (h : ∀ p ∈ ps, Small p) : (PyData.tuple (ps.map dP)).showable = true := by
  simp only [PyData.showable]
  exact show_pairs h
theorem pairs_len {ps : List (Int × Int)} (hl : ps.length ≤ 1000) (h : ∀ p ∈ ps, Small p) : (PyData.tuple (ps.map dP)).shown.length ≤ sizeLine := by
  simp only [PyData.shown]
  have h1 := fmt_text (PyData.shownAll (ps.map dP))
  have h2 := piled_pairs h
  rw [sizeLine_eq]
  omega
theorem pairs_shaped (ps : List (Int × Int)) : SeqAt.shaped (.tuple (ps.map dP)) = true := by
  have := depth_pairs ps
  unfold SeqAt.shaped
  simp only [PyData.canLay0, PyData.depth, lay_pairs]
  simp
  omega
theorem pairs_eqv (ps : List (Int × Int)) : PyData.eqv (.tuple (ps.map dP)) (.tuple (ps.map dP)) = true := SeqAt.eqv_refl _ (pairs_lay ps)
theorem Dp_prs {K : PySem.W.Frag} {H : Hp} {a : Addr} {rs : List Addr} {ps : List (Int × Int)} (h : SqT K H a (rs.map V.ref)) (e : PairsAt H rs ps) : Dp K H (.ref a) (.tuple (ps.map dP)) := .tup h (Dp_pairs e)
/-- what stands in the departures -/
theorem runD_fst (s t : Nat) : ∀ (r d : List Int) (l : List (Int × Int)) (k : Nat), (d ++ r).Nodup → d.length ≤ s + t → (∀ p ∈ l, 0 ≤ p.1 ∧ p.1 ≤ ((k + r.length : Nat) : Int)) → ∀ p ∈ (r.foldl (stepD s t) (l, d, k)).1, 0 ≤ p.1 ∧ p.1 ≤ ((k + r.length : Nat) : Int)
  | [], d, l, k, nd, hd, h => h
  | p :: r, d, l, k, nd, hd, h => by
    rw [List.foldl_cons, show stepD s t (l, d, k) p = (if s + t < d.length + 1 then (l ++ [(((k + 1 : Nat) : Int), leaver s (d ++ [p]))], (d ++ [p]).erase (leaver s (d ++ [p])), k + 1) else (l, d ++ [p], k + 1)) from rfl]
    have nd2 : ((d ++ [p]) ++ r).Nodup := by rw [List.append_assoc]; exact nd
    have ndp : (d ++ [p]).Nodup := (List.nodup_append.mp nd2).1
    have e : k + (p :: r).length = k + 1 + r.length := by rw [List.length_cons]; omega
    rw [e] at h ⊢
    split
    · rename_i hlt
      have hs : s < (d ++ [p]).length := by
        rw [List.length_append]
        show s < d.length + 1
        omega
      obtain ⟨mem, _⟩ := leaver_ok ndp hs
      refine runD_fst s t r _ _ (k + 1) (nd2.sublist ((List.erase_sublist ..).append_right r)) (by
        rw [List.length_erase_of_mem mem, List.length_append]
        show d.length + 1 - 1 ≤ s + t
        omega) fun x hx => ?_
      rcases List.mem_append.mp hx with z | z
      · exact h x z
      · rw [List.mem_singleton.mp z]
        show 0 ≤ ((k + 1 : Nat) : Int) ∧ ((k + 1 : Nat) : Int) ≤ ((k + 1 + r.length : Nat) : Int)
        omega
    · rename_i hlt
      exact runD_fst s t r _ _ (k + 1) nd2 (by
        rw [List.length_append]
        show d.length + 1 ≤ s + t
        omega) h
theorem depL_small {s t : Nat} {ns : List Int} (r : Row ns) (h : s + t ≤ ns.length) : (∀ p ∈ depL s t ns, Small p) ∧ (depL s t ns).length = ns.length := by
  have e := depL_desk s t ns
  rw [desk_passes r.nd h] at e
  have hl : (depL s t ns).length = ns.length := by
    rw [← List.length_map (f := (·.2)), e, afterL_len]
  have most := r.most
  refine ⟨fun p hp => ⟨?_, ?_⟩, hl⟩
  · unfold depL at hp
    rcases List.mem_append.mp hp with z | z
    · have := runD_fst s t ns [] [] 0 (by rw [List.nil_append]; exact r.nd) (Nat.zero_le _) (fun p hp => nomatch hp) p z
      omega
    · obtain ⟨x, _, rfl⟩ := List.mem_map.mp z
      show 0 ≤ ((ns.length : Nat) : Int) ∧ ((ns.length : Nat) : Int) ≤ 999
      omega
  · have m : p.2 ∈ (depL s t ns).map (·.2) := List.mem_map_of_mem hp
    rw [e] at m
    have := r.rng _ ((afterL_perm _ ns).mem_iff.mp m)
    omega
end Lp
namespace Lp
open PySem PySem.Spec PyProof.Rows L2
/-! ### only ranks matter -/
def Mono (f : Int → Int) (l : List Int) : Prop := ∀ u ∈ l, ∀ v ∈ l, (u < v ↔ f u < f v)
theorem takes_map {f : Int → Int} {b : Bool} {p x : Int} (h1 : p < x ↔ f p < f x) (h2 : x < p ↔ f x < f p) : takes b (f p) (f x) = takes b p x := by
  unfold takes
  cases b with
  | true => exact decide_eq_decide.mpr h2.symm
  | false => exact decide_eq_decide.mpr h1.symm
theorem run_map {f : Int → Int} (b : Bool) : ∀ (xs l s : List Int) (x : Int), Mono f (x :: xs) → (xs.map f).foldl (stepW b) (l.map f, s.map f, f x) = ((xs.foldl (stepW b) (l, s, x)).1.map f, (xs.foldl (stepW b) (l, s, x)).2.1.map f, f (xs.foldl (stepW b) (l, s, x)).2.2)
  | [], l, s, x, _ => rfl
  | p :: xs, l, s, x, m => by
    have mp : p ∈ x :: p :: xs := List.mem_cons_of_mem _ (List.mem_cons_self ..)
    have mx : x ∈ x :: p :: xs := List.mem_cons_self ..
    have e := takes_map (b := b) (m p mp x mx) (m x mx p mp)
    rw [List.map_cons, List.foldl_cons, List.foldl_cons]
    have s1 : stepW b (l.map f, s.map f, f x) (f p) = (if takes b (f p) (f x) = true then (l.map f ++ [f x], s.map f ++ [f x], f p) else (l.map f ++ [f p], s.map f, f x)) := rfl
    have s2 : stepW b (l, s, x) p = (if takes b p x = true then (l ++ [x], s ++ [x], p) else (l ++ [p], s, x)) := rfl
    rw [s1, s2, e]
    by_cases ht : takes b p x = true
    · rw [if_pos ht, if_pos ht]
      have ih := run_map b xs (l ++ [x]) (s ++ [x]) p fun u hu v hv => m u (List.mem_cons_of_mem _ hu) v (List.mem_cons_of_mem _ hv)
      rw [List.map_append, List.map_append] at ih
      exact ih
    · rw [if_neg ht, if_neg ht]
      have sub : ∀ u ∈ x :: xs, u ∈ x :: p :: xs := fun u hu => by
        rcases List.mem_cons.mp hu with rfl | hu
        · exact List.mem_cons_self ..
        · exact List.mem_cons_of_mem _ (List.mem_cons_of_mem _ hu)
      have ih := run_map b xs (l ++ [p]) s x fun u hu v hv => m u (sub u hu) v (sub v hv)
      rw [List.map_append] at ih
      exact ih
theorem pass_map {f : Int → Int} (b : Bool) : ∀ {ns : List Int}, Mono f ns → passL b (ns.map f) = (passL b ns).map f
  | [], _ => rfl
  | x :: xs, m => by
    have e := run_map b xs [] [] x m
    show (runW b (f x) (xs.map f)).1 ++ [(runW b (f x) (xs.map f)).2.2] = ((runW b x xs).1 ++ [(runW b x xs).2.2]).map f
    have e2 : runW b (f x) (xs.map f) = ((runW b x xs).1.map f, (runW b x xs).2.1.map f, f (runW b x xs).2.2) := e
    rw [e2, List.map_append]
    rfl
theorem after_map {f : Int → Int} : ∀ (bs : List Bool) {ns : List Int}, Mono f ns → afterL bs (ns.map f) = (afterL bs ns).map f
  | [], ns, _ => rfl
  | b :: bs, ns, m => by
    show afterL bs (passL b (ns.map f)) = (afterL bs (passL b ns)).map f
    rw [pass_map b m]
    exact after_map bs fun u hu v hv => m u ((passL_perm b ns).mem_iff.mp hu) v ((passL_perm b ns).mem_iff.mp hv)
theorem rk_lt {ns : List Int} {u v : Int} (hu : u ∈ ns) (h : u < v) : rk ns u < rk ns v := by
  have h1 := below_or_at u ns
  have h2 : 1 ≤ ns.count u := List.count_pos_iff.mpr hu
  have h3 := below_mono (by omega : u + 1 ≤ v) ns
  unfold rk
  omega
theorem rk_mono (ns : List Int) : Mono (rk ns) ns := fun u hu v hv => by
  refine ⟨rk_lt hu, fun h => ?_⟩
  rcases Int.lt_trichotomy u v with z | z | z
  · exact z
  · rw [z] at h
    omega
  · have := rk_lt (ns := ns) hv z
    omega
theorem rk_perm {ms ns : List Int} (p : ms.Perm ns) (x : Int) : rk ms x = rk ns x := by
  unfold rk
  rw [(p.filter _).length_eq]
theorem ranks_after (bs : List Bool) (ns : List Int) : afterL bs (ranksL ns) = (afterL bs ns).map (rk ns) := after_map bs (rk_mono ns)
theorem ranks_of_after (bs : List Bool) (ns : List Int) : ranksL (afterL bs ns) = (afterL bs ns).map (rk ns) := by
  unfold ranksL
  exact List.map_congr_left fun x _ => rk_perm (afterL_perm bs ns) x
theorem Row.ranks {ns : List Int} (r : Row ns) : Row (ranksL ns) := by
  have ln : (ranksL ns).length = ns.length := List.length_map ..
  refine ⟨by rw [ln]; exact r.pos, by rw [ln]; exact r.most, ?_, fun x hx => ?_⟩
  · unfold ranksL
    refine List.pairwise_map.mpr (List.Pairwise.imp_of_mem (R := (· ≠ ·)) (fun {a b} ha hb hne e => ?_) r.nd)
    rcases Int.lt_trichotomy a b with z | z | z
    · have := rk_lt ha z
      omega
    · exact hne z
    · have := rk_lt hb z
      omega
  · obtain ⟨y, _, rfl⟩ := List.mem_map.mp hx
    have h1 := List.length_filter_le (fun z => decide (z < y)) ns
    have h2 := r.most
    unfold rk
    omega
end Lp
namespace Lp
open PySem PySem.Spec PyProof.Rows L2
/-! ### the place of a number in a tuple -/
def rIndexT (K : PySem.W.Frag) : V → List V → Hp → VK → Prop := fun x xs H Q => ∃ (p : Addr) (ns : List Int) (j : Nat) (h : j < ns.length), x = .ref p ∧ xs = [.int ns[j]] ∧ SqT K H p (ns.map V.int) ∧ ns.Nodup ∧ Q (.int (j : Nat)) H
theorem mt_tupN {X : Cx} : MtR X "tuple.index" (rIndexT X.K) := fun pins s σ H x xs v us Q I rx rs h => by
  obtain ⟨p, ns, j, lt, rfl, rfl, hq, nd, good⟩ := h
  cases rx
  obtain ⟨u, rfl, tk, rfl⟩ := vals1 rs
  obtain ⟨its, r, pl, _⟩ := I.tuple hq
  obtain ⟨⟨cl, dd, dt, sl⟩, at_, c1, n, d1⟩ := pl
  simp only at c1 d1
  subst c1 d1
  have size : its.toArray.size = ns.length := by
    rw [List.size_toArray, ← r.length]
    exact List.length_map ..
  have item : ∀ (m : Nat) (hm : m < its.toArray.size), ∃ t2, its.toArray[m] = Value.int (ns[m]'(by rw [← size]; exact hm)) t2 := fun m hm => by
    have hm2 : m < ns.length := by rw [← size]; exact hm
    obtain ⟨w, hw, t2, e⟩ := r.get (i := m) (x := .int ns[m]) (getI hm2)
    have e2 := (List.getElem?_eq_some_iff.mp hw).2
    exact ⟨t2, by rw [← e, ← e2]; simp⟩
  have flat : (ns.map V.int).all flatV = true := by
    rw [List.all_map, List.all_eq_true]
    exact fun _ _ => rfl
  have lt2 : j < its.toArray.size := by rw [size]; exact lt
  have hit : eqU (.int ns[j]) its.toArray[j] = true := by
    obtain ⟨t2, e⟩ := item j lt2
    rw [e]
    show (ns[j] == ns[j]) = true
    exact beq_self_eq_true _
  have miss : ∀ m (hm : m < its.toArray.size), m < j → eqU (.int ns[j]) its.toArray[m] = false := fun m hm mj => by
    obtain ⟨t2, e⟩ := item m hm
    rw [e]
    show (_ == ns[j]) = false
    exact beq_eq_false_iff_ne.mpr fun z => by
      have := (List.getElem_inj nd).mp z
      omega
  refine call_meets PySem.F.slot_tuple_index ⟨_, at_, rfl⟩ PySem.F.entry_tuple_index (PySem.F.args_tuple_index_2 _ _) (TI.tuple_indexAt p its.toArray n dd sl (.int ns[j] tk) (eqU (.int ns[j])) j lt2 hit miss) ?_
  exact ⟨at_, fun w hw => mem_eqAt (x := .int ns[j]) ⟨tk, rfl⟩ rfl r flat w (by simpa using hw), ⟨.int (j : Nat), H, I.tok _, ⟨_, rfl⟩, good⟩⟩
/-! ### what is kept of what is kept -/
theorem dropN_dropN : ∀ (l : List Bool) (a b c d : Nat), dropN c d (dropN a b l) = dropN (a + c) (b + d) l
  | [], a, b, c, d => by
    have e : ∀ x y, dropN x y [] = [] := fun x y => by cases x <;> cases y <;> rfl
    rw [e, e, e]
  | false :: l, 0, b, 0, d => by
    show false :: dropN 0 d (dropN 0 b l) = false :: dropN 0 (b + d) l
    rw [dropN_dropN l 0 b 0 d]
  | false :: l, 0, b, c + 1, d => by
    rw [show 0 + (c + 1) = (0 + c) + 1 by omega]
    show dropN c d (dropN 0 b l) = dropN (0 + c) (b + d) l
    exact dropN_dropN l 0 b c d
  | false :: l, a + 1, b, c, d => by
    rw [show a + 1 + c = (a + c) + 1 by omega]
    show dropN c d (dropN a b l) = dropN (a + c) (b + d) l
    exact dropN_dropN l a b c d
  | true :: l, a, 0, c, 0 => by
    have e1 : dropN a 0 (true :: l) = true :: dropN a 0 l := by cases a <;> rfl
    have e2 : ∀ m, dropN c 0 (true :: m) = true :: dropN c 0 m := fun m => by cases c <;> rfl
    have e3 : dropN (a + c) (0 + 0) (true :: l) = true :: dropN (a + c) (0 + 0) l := by cases (a + c) <;> rfl
    rw [e1, e2, e3, dropN_dropN l a 0 c 0]
  | true :: l, a, 0, c, d + 1 => by
    have e1 : dropN a 0 (true :: l) = true :: dropN a 0 l := by cases a <;> rfl
    have e2 : ∀ m, dropN c (d + 1) (true :: m) = dropN c d m := fun m => by cases c <;> rfl
    have e3 : dropN (a + c) (0 + (d + 1)) (true :: l) = dropN (a + c) (0 + d) l := by
      rw [show 0 + (d + 1) = (0 + d) + 1 by omega]
      cases (a + c) <;> rfl
    rw [e1, e2, e3, dropN_dropN l a 0 c d]
  | true :: l, a, b + 1, c, d => by
    have e1 : dropN a (b + 1) (true :: l) = dropN a b l := by cases a <;> rfl
    have e3 : dropN (a + c) (b + 1 + d) (true :: l) = dropN (a + c) (b + d) l := by
      rw [show b + 1 + d = (b + d) + 1 by omega]
      cases (a + c) <;> rfl
    rw [e1, e3, dropN_dropN l a b c d]
theorem dropN_take {k m a b : Nat} {l : List Bool} (h : k + a + b ≤ m) (hm : m ≤ l.length) : (dropN a b (l.take m)).take k = (dropN a b l).take k := by
  have e : dropN a b l = dropN a b (l.take m) ++ dropN (a - (l.take m).count false) (b - (l.take m).count true) (l.drop m) := by
    rw [← dropN_app, List.take_append_drop]
  have le := dropN_len (l.take m) a b
  have two := count_two (l.take m)
  rw [List.length_take] at two
  rw [e, List.take_append_of_le_length (by omega)]
def keptL (s t : Nat) (ns : List Int) : List Int := (deskGo s t [] ns).take (ns.length - s - t)
theorem keptL_sgn {s t : Nat} {ns : List Int} (hrow : Row ns) (hst : s + t ≤ ns.length) (h : Int) : sgn h (keptL s t ns) = (dropN s t (sgn h ns)).take (ns.length - s - t) := by
  have ne : ns ≠ [] := fun z => by
    have := hrow.pos
    rw [z] at this
    cases this
  unfold keptL
  rw [desk_passes hrow.nd hst]
  show ((afterL _ ns).take _).map _ = _
  rw [List.map_take]
  show (sgn h (afterL _ ns)).take _ = _
  rw [after_sgn h _ ns ne]
  have c0 : (List.replicate s false ++ List.replicate t true).count false = s := by simp [List.count_append, List.count_replicate]
  have c1 : (List.replicate s false ++ List.replicate t true).count true = t := by simp [List.count_append, List.count_replicate]
  rw [c0, c1, dropN_app]
  have le := dropN_len (sgn h ns) s t
  have two := count_two (sgn h ns)
  rw [sgn_len] at two
  rw [List.take_append_of_le_length (by omega)]
theorem keptL_len {s t : Nat} {ns : List Int} (hrow : Row ns) (hst : s + t ≤ ns.length) : (keptL s t ns).length = ns.length - s - t := by
  unfold keptL
  rw [desk_passes hrow.nd hst, List.length_take, afterL_len]
  omega
theorem keptL_sub {s t : Nat} {ns : List Int} (hrow : Row ns) (hst : s + t ≤ ns.length) : ∃ m : List Int, keptL s t ns = m.take (ns.length - s - t) ∧ m.Perm ns := by
  unfold keptL
  rw [desk_passes hrow.nd hst]
  exact ⟨_, rfl, afterL_perm _ ns⟩
theorem keptL_row {s t : Nat} {ns : List Int} (hrow : Row ns) (hst : s + t < ns.length) : Row (keptL s t ns) := by
  have ln := keptL_len hrow (Nat.le_of_lt hst)
  obtain ⟨m, e, p⟩ := keptL_sub hrow (Nat.le_of_lt hst)
  have most := hrow.most
  refine ⟨by omega, by omega, ?_, fun x hx => ?_⟩
  · rw [e]
    exact (p.nodup_iff.mpr hrow.nd).sublist (List.take_sublist ..)
  · rw [e] at hx
    exact hrow.rng x (p.mem_iff.mp (List.mem_of_mem_take hx))
theorem keptL_keptL {s t a b : Nat} {ns : List Int} (hrow : Row ns) (hst : s + t < ns.length) (hab : a + b ≤ ns.length - s - t) : keptL a b (keptL s t ns) = keptL (s + a) (t + b) ns := by
  have r1 := keptL_row hrow hst
  have l1 := keptL_len hrow (Nat.le_of_lt hst)
  have l2 := keptL_len r1 (s := a) (t := b) (by omega)
  have l3 := keptL_len hrow (s := s + a) (t := t + b) (by omega)
  refine sgn_inj (by omega) fun h => ?_
  have le := dropN_len (sgn h ns) s t
  have two := count_two (sgn h ns)
  rw [sgn_len] at two
  rw [keptL_sgn r1 (by omega), keptL_sgn hrow (Nat.le_of_lt hst), keptL_sgn hrow (by omega), l1, dropN_take (by omega) (by omega), dropN_dropN, show ns.length - s - t - a - b = ns.length - (s + a) - (t + b) by omega]
/-- who is kept, in order -/
theorem below_sgn (h : Int) (l : List Int) : (l.filter fun y => decide (y < h)).length = (sgn h l).count false := (zeros_count h l).symm
theorem kept_below {s t : Nat} {ns : List Int} (hrow : Row ns) (hst : s + t ≤ ns.length) (h : Int) : (sgn h (keptL s t ns)).count false = min ((sgn h ns).count false - s) (ns.length - s - t) := by
  rw [keptL_sgn hrow hst]
  have two := count_two (sgn h ns)
  rw [sgn_len] at two
  by_cases h0 : (sgn h ns).count false ≤ s
  · rw [dropN_zeros _ _ _ h0, List.take_replicate, List.count_replicate]
    simp
    omega
  · by_cases h1 : (sgn h ns).count true ≤ t
    · rw [dropN_ones _ _ _ h1, List.take_replicate, List.count_replicate]
      simp
      omega
    · have le := dropN_len (sgn h ns) s t
      rw [List.take_of_length_le (by omega)]
      have c : ∀ (l : List Bool) (a b : Nat), (dropN a b l).count false = l.count false - a := fun l => by
        induction l with
        | nil =>
          intro a b
          have e : dropN a b [] = [] := by cases a <;> cases b <;> rfl
          rw [e]
          simp
        | cons x l ih =>
          intro a b
          cases x with
          | false =>
            cases a with
            | zero =>
              show (false :: dropN 0 b l).count false = _
              rw [List.count_cons_self, List.count_cons_self, ih]
              omega
            | succ a =>
              show (dropN a b l).count false = _
              rw [List.count_cons_self, ih]
              omega
          | true =>
            cases b with
            | zero =>
              have e : dropN a 0 (true :: l) = true :: dropN a 0 l := by cases a <;> rfl
              rw [e, List.count_cons_of_ne (by decide), List.count_cons_of_ne (by decide), ih]
            | succ b =>
              have e : dropN a (b + 1) (true :: l) = dropN a b l := by cases a <;> rfl
              rw [e, List.count_cons_of_ne (by decide), ih]
      rw [c]
      omega
theorem slice_below {es : List Int} (so : es.Pairwise (· ≤ ·)) (s k : Nat) (hk : s + k ≤ es.length) (h : Int) : (sgn h ((es.drop s).take k)).count false = min ((sgn h es).count false - s) k := by
  have two := count_two (sgn h es)
  rw [sgn_len] at two
  have e : sgn h ((es.drop s).take k) = ((sgn h es).drop s).take k := by
    show ((es.drop s).take k).map _ = ((es.map _).drop s).take k
    rw [List.map_take, List.map_drop]
  have ss := sgn_sorted (t := h) so
  generalize (sgn h es).count false = cf at ss two ⊢
  generalize (sgn h es).count true = ct at ss two
  rw [e, ss, List.drop_append, List.length_replicate, List.drop_replicate, List.drop_replicate, List.take_append, List.length_replicate, List.take_replicate, List.take_replicate, List.count_append, List.count_replicate, List.count_replicate]
  simp
  omega
theorem kept_slice {s t : Nat} {ns es : List Int} (hrow : Row ns) (hst : s + t ≤ ns.length) (p : es.Perm ns) (so : es.Pairwise (· ≤ ·)) : (keptL s t ns).Perm ((es.drop s).take (ns.length - s - t)) := by
  have el := p.length_eq
  have same : ∀ h, (sgn h (keptL s t ns)).count false = (sgn h ((es.drop s).take (ns.length - s - t))).count false := fun h => by
    rw [kept_below hrow hst, slice_below so s _ (by omega), (sgn_perm p).count_eq]
  refine List.perm_iff_count.mpr fun x => ?_
  have a1 := below_or_at x (keptL s t ns)
  have a2 := below_or_at x ((es.drop s).take (ns.length - s - t))
  have b1 := same x
  have b2 := same (x + 1)
  rw [zeros_count, zeros_count] at b1 b2
  omega
theorem kept_rank {s t : Nat} {ns : List Int} (hrow : Row ns) (hst : s + t ≤ ns.length) {x : Int} (hx : x ∈ keptL s t ns) : rk (keptL s t ns) x = rk ns x - s := by
  obtain ⟨p, so⟩ := sort_ok ns
  generalize ns.mergeSort (fun x y => decide (x ≤ y)) = es at p so
  have pk := kept_slice hrow hst p so
  obtain ⟨j, hj, ej⟩ := List.mem_iff_getElem.mp (pk.mem_iff.mp hx)
  have el := p.length_eq
  have hj2 : j < ns.length - s - t := by
    rw [List.length_take] at hj
    omega
  have hsj : s + j < es.length := by omega
  have ex : es[s + j] = x := by
    rw [← ej, List.getElem_take, List.getElem_drop]
  have nd : es.Nodup := p.nodup_iff.mpr hrow.nd
  have bx : (es.filter fun y => decide (y < x)).length = s + j := by
    rw [← ex]
    exact filter_sorted hsj so nd
  rw [(p.filter _).length_eq] at bx
  have kb := kept_below hrow hst x
  rw [zeros_count, zeros_count, bx] at kb
  unfold rk
  rw [kb, bx]
  omega
end Lp
namespace Lp
open PySem PySem.Spec PyProof.Rows L2
/-! ### a text backwards: z[::-1] -/
theorem back_places (n : Nat) : Builtin.Str.strSliceIndices none none (-1) n = (List.range n).reverse := by
  show sliceRange ((n : Int) - 1) (-1) (-1) = _
  rw [PySem.W.krv_sliceRange]
  exact PySem.W.krv_range n
theorem back_text (bs : List Bool) : (⟨((Builtin.Str.strSliceIndices none none (-1) (wd bs).length).filterMap ((wd bs).cps[·]?)).toArray⟩ : Str) = wd bs.reverse := by
  rw [back_places, List.filterMap_reverse]
  have all : (List.range (wd bs).length).filterMap ((wd bs).cps[·]?) = bs.map code := (PySem.W.krv_all (wd bs).cps).trans rfl
  rw [all, ← List.map_reverse]
  rfl
/-- e[::-1] of a word -/
def tBack (te : TE) : TE := fun σ H Q => te σ H fun x G => ∃ bs : List Bool, x = .str (wd bs) ∧ bs.length ≤ 1000 ∧ Q (.str (wd bs.reverse)) G
theorem minus_one {X : Cx} {j : Nat} {q1 q2 : Pos} : PO X (some (.UnaryOp .USub (.Constant (.int 1) j q1) q2)) (tPart (tUn (rU fun i => .int (-i)) (tC (.int 1)))) := po_some (pe_un un_neg pe_int)
theorem pe_back {X : Cx} {e : Expr} {te : TE} {j : Nat} {q1 q2 q3 q : Pos} (a : PE X e te) : PE X (.Subscript e (.Slice none none (some (.UnaryOp .USub (.Constant (.int 1) j q1) q2)) q3) q) (tBack te) := by
  constructor
  intro pins s σ H Q I h
  refine Subscript_ (thn (a.run pins s σ H _ I h) fun v s1 z => ?_)
  obtain ⟨x, H1, I1, r1, bs, rfl, hb, good⟩ := z
  obtain ⟨tk, rfl⟩ := r1
  refine wpAny_Slice (thn (po_none.run pins s1 σ H1 (fun o G => o = none ∧ G = H1) I1 ⟨rfl, rfl⟩) fun vl s2 z => ?_)
  obtain ⟨_, G2, I2, pl, rfl, rfl⟩ := z
  refine thn (po_none.run pins s2 σ _ (fun o G => o = none ∧ G = G2) I2 ⟨rfl, rfl⟩) fun vu s3 z => ?_
  obtain ⟨_, G3, I3, pu, rfl, rfl⟩ := z
  refine thn (minus_one.run pins s3 σ _ (fun o G => o = some (-1) ∧ G = G3) I3 ⟨1, rfl, -1, rfl, rfl, rfl⟩) fun vs s4 z => ?_
  obtain ⟨_, _, I4, ps, rfl, rfl⟩ := z
  have J := I4.kept (t' := s4.toks) (h' := s4.heap.push { cls := .type "slice", data := .fields #[vl, vu, vs] }) fun b ob w => Heap.get?_push_of_some _ w
  refine tail_any (ops := [.ref s4.heap.objs.size]) (typeIs_str _ _ _) F.slot_str_getitem.lookup ?_ (by with_unfolding_all rfl)
  obtain ⟨l, rfl, hl⟩ := IsPart.raw pl
  obtain ⟨u, rfl, hu⟩ := IsPart.raw pu
  obtain ⟨st, rfl, hst⟩ := IsPart.raw ps
  have l0 : l = none := by cases l <;> first | rfl | cases hl
  have u0 : u = none := by cases u <;> first | rfl | cases hu
  subst l0
  subst u0
  refine wpAny_getItem_str_slice (l := none) (u := none) (st := st) ⟨_, Heap.get?_push_size _ rfl, rfl, rfl⟩ (by rw [hst]; rfl) ?_
  have made : sliceMade (wd bs) tk none none st = .str (wd bs.reverse) := by
    unfold sliceMade slicePicked
    rw [hst]
    have := back_text bs
    have f : ((some (-1 : Int)).getD 1 == 1) = false := by decide
    rw [f, Bool.false_and, if_neg Bool.false_ne_true]
    exact congrArg Made.str this
  rw [made]
  exact ⟨by rw [wd_len, List.length_reverse]; exact Nat.le_of_lt (len_lt (by omega)), .str _, _, J.tok _, ⟨_, rfl⟩, good⟩
/-! ### reversed(z) of a word -/
theorem str_norev : typeLookup (.type "str") "__reversed__" = pure none := by
  rw [typeLookup_type]
  rw [builtinLookup_eq_fast]
  kernel_rfl
theorem str_get : typeLookup (.type "str") "__getitem__" = pure (some (.builtin "str.__getitem__")) := F.slot_str_getitem.lookup
/-- reversed(z) stands at a, the place j comes next -/
def Bw (h : Heap) (a : Addr) (z : Str) (tk : Tok) (j : Int) : Prop := ∃ ob, h.get? a = some ob ∧ ob.cls = .type "reversed" ∧ ob.data = .fields #[.str z tk, rawInt j]
theorem Bw.keep {h g : Heap} {a : Addr} {z : Str} {tk : Tok} {j : Int} (b : Bw h a z tk j) (e : ∀ ob, h.get? a = some ob → g.get? a = some ob) : Bw g a z tk j := by
  obtain ⟨ob, at_, r⟩ := b
  exact ⟨ob, e ob at_, r⟩
section
variable {prog : Program} {w : World} {A : Around} {E : Value → Shared → Prop} {s : Shared} {z : Str} {tk : Tok}
theorem Bw.ty {a : Addr} {j : Int} (b : Bw s.heap a z tk j) : s.TypeIs (.ref a) "reversed" := by
  obtain ⟨ob, at_, c, _⟩ := b
  exact ⟨ob, at_, c⟩
def bwObj (z : Str) (tk : Tok) (j : Int) : Obj := { cls := .type "reversed", data := .fields #[.str z tk, rawInt j] }
theorem bw_code {R : Value → Shared → Prop} (fit : ¬ (z.length : Int) ≥ 2 ^ 63) (good : R (.ref s.heap.objs.size) { s with heap := s.heap.push (bwObj z tk ((z.length : Int) - 1)), toks := s.toks + 1 + 1 }) :
    codeAny (model prog w) A (.call (.builtin "reversed.__new__") ⟨[.type "reversed", .str z tk], []⟩) (wants R E) s := by
  have ty := typeIs_str s z tk
  apply codeAny_of_tree
  show wpAny _ A.in1 (checkBuiltinCall "reversed.__new__" ⟨[.type "reversed", .str z tk], []⟩ >>= fun _ => again (.builtin "reversed.__new__" ⟨[.type "reversed", .str z tk], []⟩)) _ _ s
  apply wpAny_bind
  apply wpAny_of_eq (F.newCall_reversed_1 _)
  refine wpAny_pure ⟨plainId_quiet F.plain_reversed_new _, codeAny_builtin F.entry_reversed_new (?body)⟩
  case body =>
  rw [Around.under_plainId F.plain_reversed_new]
  unfold Builtin.«reversed.__new__»; apply wpAny_bind
  refine wpAny_of_eq (newClass_reversed (.str z tk)) (?_ : wpAny _ _ _ _ _ s)
  apply wpAny_bind
  apply wpAny_of_eq (a := ()) (by kernel_rfl)
  apply wpAny_bind
  apply wpAny_of_eq (a := ()) (by kernel_rfl)
  apply wpAny_bind
  apply wpAny_specialOf ty str_norev
  apply wpAny_bind
  wp_delta
  apply wpAny_bind
  refine wpAny_isInstance (T := "str") (U := "dict") (b := false) ty F.sub_str_dict (?_ : wpAny _ _ _ _ _ s)
  rw [if_neg Bool.false_ne_true]; apply wpAny_bind
  refine wpAny_specialOf ty str_get (?_ : wpAny _ _ _ _ _ s)
  dsimp only
  rw [if_pos (show (["tuple.__getitem__", "str.__getitem__", "bytes.__getitem__", "bytearray.__getitem__", "memoryview.__getitem__", "numpy.ndarray.__getitem__", "sqlite3.Row.__getitem__"].contains "str.__getitem__") = true by decide +kernel)]
  apply wpAny_pure
  rw [if_neg (show ¬ (!true) = true by decide)]
  apply wpAny_bind
  refine PySem.P.len_str fit (?_ : wpAny _ _ _ _ _ _)
  apply wpAny_bind
  refine wpAny_of_eq (a := some (z.length : Int)) rfl (?_ : wpAny _ _ _ _ _ _)
  apply wpAny_bind
  show wpAny _ _ (newObj (.type "reversed") (.fields #[.str z tk, rawInt ((z.length : Int) - 1)])) _ _ _
  exact wpAny_newObj_type (wpAny_pure good)
theorem bw_call {R : Value → Shared → Prop} (fit : ¬ (z.length : Int) ≥ 2 ^ 63) (good : R (.ref s.heap.objs.size) { s with heap := s.heap.push (bwObj z tk ((z.length : Int) - 1)), toks := s.toks + 1 + 1 }) :
    wpAny (model prog w) A (call (.type "reversed") [.str z tk]) R E s := by
  have made := bw_code (prog := prog) (w := w) (A := A.in1) (E := E) (s := s) (tk := tk) (R := fun v g => g.TypeIs v "reversed" ∧ R v g) fit ⟨⟨_, Heap.get?_push_size _ rfl, rfl⟩, good⟩
  refine callType_codes RT.called_rt (F.typeCall_reversed_1 _) F.entry_object_init made fun v g h => ?_
  exact ⟨h.1, F.args_object_init_2 v _, object_init_meets RT.called_rt.init.lookup RT.called_rt.made (by decide) prog w A.in1 _ g ⟨h.1, rfl, h.2⟩⟩
theorem bw_iter {a : Addr} {j : Int} {R : Value → Shared → Prop} (b : Bw s.heap a z tk j) (good : R (.ref a) s) : wpAny (model prog w) A (pyIter (.ref a)) R E s := by
  refine wpAny_pyIter_slot b.ty RT.slot_rt_iter (wpAny_call_entry RT.slot_rt_iter b.ty RT.entry_rt_iter (?_ : wpAny _ _ (ret (.ref a)) _ _ s) (RT.args_rt_iter _))
  exact wpAny_pure ⟨_, rfl, "reversed", _, b.ty, RT.slot_rt_next.lookup, good⟩
theorem bw_more {a : Addr} {j c : Nat} {R : Option Value → Shared → Prop} (b : Bw s.heap a z tk (j : Nat)) (hc : z.cps[j]? = some c) (few : z.length ≤ sizeLine)
    (good : ∀ h u, Bw h a z tk ((j : Int) - 1) → Heap.SameBut a s.heap h → R (some (.str ⟨#[c]⟩ u)) { s with heap := h, toks := u + 1 }) : wpAny (model prog w) A (pyNext (.ref a)) R E s := by
  obtain ⟨ob, at_, cl, dt⟩ := id b
  have lt : j < z.length := (Array.getElem?_eq_some_iff.mp hc).1
  have big := sizeLine_eq
  unfold pyNext
  apply wpAny_bind
  apply wpAny_attempt
  refine wpAny_callSpecial?_slot (name := Str.ofString "__next__") b.ty RT.slot_rt_next (wpAny_call_entry RT.slot_rt_next b.ty RT.entry_rt_next (?_ : wpAny _ _ _ _ _ s) (RT.args_rt_next _))
  unfold Builtin.«reversed.__next__»; apply wpAny_bind
  apply wpAny_of_eq (a := (Value.ref a, [])) rfl
  apply wpAny_bind
  refine wpAny_field at_ dt (x := .str z tk) rfl (?_ : wpAny _ _ _ _ _ s)
  apply wpAny_bind
  refine wpAny_field at_ dt (x := rawInt (j : Int)) rfl (?_ : wpAny _ _ (if (j : Int) < 0 then _ else _) _ _ s)
  rw [if_neg (show ¬ (j : Int) < 0 by omega)]
  apply wpAny_bind
  refine wpAny_specialOf (typeIs_str s z tk) str_get (?_ : wpAny _ _ _ _ _ s)
  rw [if_neg (show ¬ ((some (Value.builtin "str.__getitem__")).isNone = true) by decide)]
  apply wpAny_bind
  refine wpAny_mkInt (?_ : wpAny _ _ _ _ _ { s with toks := s.toks + 1 })
  apply wpAny_bind
  apply wpAny_attempt
  have ix : (seqIndex? (j : Int) z.length).bind (z.cps[·]?) = some c := by
    rw [seqIx (by omega) (by omega), Int.toNat_natCast]
    exact hc
  refine PySem.P.getItem_str (s := { s with toks := s.toks + 1 }) ?_ ix (?_ : wpAny _ _ _ _ _ { s with toks := s.toks + 1 + 1 })
  · rw [Bool.or_eq_false_iff]
    exact ⟨decide_eq_false (by omega), decide_eq_false (by omega)⟩
  apply wpAny_bind
  refine wpAny_field (s := { s with toks := s.toks + 1 + 1 }) at_ dt (x := rawInt (j : Int)) rfl (?_ : wpAny _ _ _ _ _ _)
  apply wpAny_bind
  refine wpAny_setField (s := { s with toks := s.toks + 1 + 1 }) at_ dt (by simp) (?_ : wpAny _ _ _ _ _ _)
  have bw2 : Bw (s.heap.update a (Obj.mapFields (·.setIfInBounds 1 (rawInt ((j : Int) - 1))))) a z tk ((j : Int) - 1) :=
    ⟨_, Heap.get?_update_self _ at_ (Obj.isFreed_of_fields (Obj.data_mapFields dt _)), (Obj.cls_mapFields ..).trans cl, by rw [Obj.data_mapFields dt]; simp⟩
  exact wpAny_pure ⟨_, rfl, wpAny_pure (good _ (s.toks + 1) bw2 (Heap.SameBut.update ..))⟩
theorem bw_end {a : Addr} {R : Option Value → Shared → Prop} (calm : A.handled = none) (b : Bw s.heap a z tk (-1)) (good : ∀ h, Heap.ExtBut a s.heap h → R none { s with heap := h }) : wpAny (model prog w) A (pyNext (.ref a)) R E s := by
  obtain ⟨ob, at_, cl, dt⟩ := id b
  unfold pyNext
  apply wpAny_bind
  apply wpAny_attempt
  refine wpAny_callSpecial?_slot (name := Str.ofString "__next__") b.ty RT.slot_rt_next (wpAny_call_entry RT.slot_rt_next b.ty RT.entry_rt_next (?_ : wpAny _ _ _ _ _ s) (RT.args_rt_next _))
  unfold Builtin.«reversed.__next__»; apply wpAny_bind
  apply wpAny_of_eq (a := (Value.ref a, [])) rfl
  apply wpAny_bind
  refine wpAny_field at_ dt (x := .str z tk) rfl (?_ : wpAny _ _ _ _ _ s)
  apply wpAny_bind
  refine wpAny_field at_ dt (x := rawInt (-1)) rfl (?_ : wpAny _ _ (if (-1 : Int) < 0 then _ else _) _ _ s)
  rw [if_pos (show (-1 : Int) < 0 by decide)]
  apply wpAny_bind
  apply wpAny_rule
  apply wpAny_bind
  wp_delta
  apply wpAny_bind
  refine wpAny_setField at_ dt (by simp) (?_ : wpAny _ _ _ _ _ _)
  have at2 := Heap.get?_update_self (Obj.mapFields (·.setIfInBounds 1 (rawInt (-1)))) at_ (Obj.isFreed_of_fields (Obj.data_mapFields dt _))
  refine wpAny_setField (s := { s with heap := s.heap.update a (Obj.mapFields (·.setIfInBounds 1 (rawInt (-1)))) }) at2 (Obj.data_mapFields dt _) (by simp) (?_ : wpAny _ _ _ _ _ _)
  apply wpAny_bind
  show wpAny _ _ (newExc (.type "StopIteration") [] >>= raiseNew) _ _ _
  apply wpAny_bind
  simp only [newExc, newTuple, raiseNew]
  apply wpAny_bind
  apply wpAny_newObj_type (h := ?_) (by size_fits)
  apply wpAny_bind (m := firstArgMember _ _)
  apply wpAny_of_eq (a := Value.none) (by simp only [firstArgMember]; rfl)
  apply wpAny_newObj_type (h := ?_) (by size_fits)
  apply wpAny_bind
  apply wpAny_handled
  rw [show A.in1.handled = none from calm]
  refine wpAny_bind (wpAny_pure (wpAny_throw (?_ : wpAny _ _ _ _ _ _)))
  apply wpAny_bind
  refine wpAny_isInstance (T := "StopIteration") (b := true) ⟨_, Heap.get?_push_size _ rfl, rfl⟩ isSubtype_stop (?_ : wpAny _ _ _ _ _ _)
  have ext : Heap.ExtBut a s.heap ((s.heap.update a (Obj.mapFields fun x => x.setIfInBounds 1 (rawInt (-1)))).update a (Obj.mapFields fun x => x.setIfInBounds 0 Value.none)) :=
    fun b ob hb e => (Heap.get?_update_other _ _ (Ne.symm hb)).trans ((Heap.get?_update_other _ _ (Ne.symm hb)).trans e)
  exact wpAny_pure (good _ ((ext.push _).push _))
end
/-- the letters of a word, the last one first -/
def ItB (bs : List Bool) : It where
  go := fun i _ => i < bs.length
  stop := fun i _ => bs.length ≤ i
  yld := fun i H v H' => H' = H ∧ ∃ b, bs.reverse[i]? = some b ∧ v = .str (ltr b)
theorem turnB {P : Program} {w : World} {K : PySem.W.Frag} {tg : Expr} {bs : List Bool} {tk : Tok} (few : bs.length ≤ 1000) (it : Addr) : Turn P w K tg (ItB bs) [it] it (fun i h => i ≤ bs.length ∧ Bw h it (wd bs) tk ((bs.length : Int) - 1 - (i : Nat))) where
  mem := by simp
  obj := by
    rintro i h ⟨_, ob, at_, c, d⟩ b hb
    rw [List.mem_singleton] at hb
    subst hb
    exact ⟨ob, at_, fun v e => by rw [d] at e; cases e⟩
  keep := fun i h g st k => ⟨st.1, st.2.keep fun ob e => k it (by simp) ob e⟩
  item := by
    rintro X rfl rfl rfl calm i pins s σ H E I fr ⟨le, b⟩ lt
    have lt2 : i < bs.length := lt
    obtain ⟨u0, u1, _, u3, u4, u5⟩ := fr it (by simp)
    have ej : (bs.length : Int) - 1 - ((i : Nat) : Int) = ((bs.length - 1 - i : Nat) : Int) := by omega
    rw [ej] at b
    have at_ : bs.length - 1 - i < bs.length := by omega
    have hc : (wd bs).cps[bs.length - 1 - i]? = some (code bs[bs.length - 1 - i]) := by
      show (bs.map code).toArray[bs.length - 1 - i]? = _
      rw [List.getElem?_toArray, List.getElem?_map, List.getElem?_eq_getElem at_]
      rfl
    refine bw_more b hc (by rw [wd_len]; exact Nat.le_of_lt (len_lt (by omega))) fun h u b2 same => ?_
    have eb : bs.reverse[i]? = some bs[bs.length - 1 - i] := by
      rw [List.getElem?_reverse lt2, List.getElem?_eq_getElem at_]
    have e2 : ((bs.length - 1 - i : Nat) : Int) - 1 = (bs.length : Int) - 1 - ((i + 1 : Nat) : Int) := by omega
    rw [e2] at b2
    have J : Inv X pins σ H { s with heap := h, toks := u + 1 } := I.turned (t' := u + 1) (fun c o nc q => (same.2 c nc).trans q) u0 u1 u3 u4 u5
    obtain ⟨o2, a2, c2, d2⟩ := id b2
    exact ⟨_, rfl, go_of (s := { s with heap := h, toks := u + 1 }) a2 c2 d2 (by decide) ⟨.str (ltr bs[bs.length - 1 - i]), H, J, ⟨u, rfl⟩, ⟨rfl, _, eb, rfl⟩, ⟨lt2, b2⟩, fun c hc => (fr c hc).1⟩⟩
  done := by
    rintro X rfl rfl rfl calm i pins s σ H E I fr ⟨le, b⟩ ge
    have ge2 : bs.length ≤ i := ge
    obtain ⟨u0, u1, _, u3, u4, u5⟩ := fr it (by simp)
    have ej : (bs.length : Int) - 1 - ((i : Nat) : Int) = -1 := by omega
    rw [ej] at b
    exact bw_end (I.ok.hd calm) b fun h ext => ⟨rfl, I.turned (t' := s.toks) (fun c o nc q => ext c o nc q) u0 u1 u3 u4 u5⟩
  self := fun _ _ _ _ _ st q => bw_iter st.2 q
def iBack (te : TE) : TI := fun σ H R => te σ H fun x G => ∃ bs : List Bool, x = .str (wd bs) ∧ bs.length ≤ 1000 ∧ R (ItB bs) G
theorem pi_back {X : Cx} {tg e : Expr} {te : TE} {p q : Pos} (hg : Gl X "reversed") (hm : X.mg "reversed" = none) (a : PE X e te) (one : starEach [e] X.env = (false, eval e X.env) :: starEach [] X.env := by rfl) :
    PI X tg (.Call (.Name "reversed" p) [e] [] q) (iBack te) := by
  constructor
  intro pins s σ H R I h
  refine Call_ (ld_blt I hg hm PyProof.Rows.boot_reversed (PyProof.Rows.callWith_type1 (args_cons (thn (a.run pins s σ H _ I h) fun u s1 z => args_nil ?_) one) one rfl))
  obtain ⟨x, G, J, r, bs, rfl, few, good⟩ := z
  obtain ⟨tk, rfl⟩ := r
  have fit : ¬ (((wd bs).length : Nat) : Int) ≥ 2 ^ 63 := by
    rw [wd_len]
    omega
  have e0 : (((wd bs).length : Nat) : Int) - 1 = (bs.length : Int) - 1 - ((0 : Nat) : Int) := by
    rw [wd_len]
    omega
  have here : Bw (s1.heap.push (bwObj (wd bs) tk (((wd bs).length : Int) - 1))) s1.heap.objs.size (wd bs) tk (((wd bs).length : Int) - 1) := ⟨_, Heap.get?_push_size _ rfl, rfl, rfl⟩
  refine bw_call fit (bw_iter (s := { s1 with heap := s1.heap.push (bwObj (wd bs) tk (((wd bs).length : Int) - 1)), toks := s1.toks + 1 + 1 }) here ?_)
  refine pi_one (tk := s1.toks + 1 + 1) J _ (turnB (tk := tk) few s1.heap.objs.size) ⟨Nat.zero_le _, ?_⟩ good
  rw [← e0]
  exact here
/-- for .. in reversed(word) -/
theorem walk_back {bs : List Bool} : Walk (ItB bs) bs.length (fun _ => True) (fun i H x H' => H' = H ∧ ∃ b, bs.reverse[i]? = some b ∧ x = .str (ltr b)) := ⟨fun _ _ lt _ => lt, fun _ _ => Nat.le_refl _, fun _ _ _ _ _ _ y => y⟩
end Lp
namespace Lp
open PySem PySem.Spec PyProof.Rows L2
/-! ### the greatest and the least of a tuple of numbers -/
theorem ints_read {h : Heap} : ∀ {us : List Value} {ns : List Int}, Vals (ns.map V.int) us → ReadsAll h us (ns.map PyData.int) []
  | [], [], _ => .nil
  | _ :: _, n :: ns, .cons ⟨t, e⟩ r => by
    subst e
    exact .cons (as := []) (.int n t) (ints_read r)
theorem ints_alike (ns : List Int) : PySem.W.AlikeAll (ns.map PyData.int) := by
  refine ⟨fun x hx y hy => ?_, fun x hx => ?_⟩
  · obtain ⟨a, _, rfl⟩ := List.mem_map.mp hx
    obtain ⟨b, _, rfl⟩ := List.mem_map.mp hy
    rfl
  · obtain ⟨a, _, rfl⟩ := List.mem_map.mp hx
    exact fun z => nomatch z
theorem fold_max : ∀ (ns : List Int) (n : Int), ns.foldl max n ∈ n :: ns ∧ ∀ y ∈ n :: ns, y ≤ ns.foldl max n
  | [], n => ⟨List.mem_cons_self .., fun y hy => by rw [List.mem_singleton.mp hy]; exact Int.le_refl _⟩
  | k :: ns, n => by
    obtain ⟨m, b⟩ := fold_max ns (max n k)
    rw [List.foldl_cons]
    refine ⟨?_, fun y hy => ?_⟩
    · rcases List.mem_cons.mp m with z | z
      · rw [z]
        rcases Int.le_total n k with w | w
        · rw [Int.max_eq_right w]
          exact List.mem_cons_of_mem _ (List.mem_cons_self ..)
        · rw [Int.max_eq_left w]
          exact List.mem_cons_self ..
      · exact List.mem_cons_of_mem _ (List.mem_cons_of_mem _ z)
    · have top := b (max n k) (List.mem_cons_self ..)
      rcases List.mem_cons.mp hy with rfl | hy
      · omega
      · rcases List.mem_cons.mp hy with rfl | hy
        · omega
        · exact b y (List.mem_cons_of_mem _ hy)
theorem fold_min : ∀ (ns : List Int) (n : Int), ns.foldl min n ∈ n :: ns ∧ ∀ y ∈ n :: ns, ns.foldl min n ≤ y
  | [], n => ⟨List.mem_cons_self .., fun y hy => by rw [List.mem_singleton.mp hy]; exact Int.le_refl _⟩
  | k :: ns, n => by
    obtain ⟨m, b⟩ := fold_min ns (min n k)
    rw [List.foldl_cons]
    refine ⟨?_, fun y hy => ?_⟩
    · rcases List.mem_cons.mp m with z | z
      · rw [z]
        rcases Int.le_total n k with w | w
        · rw [Int.min_eq_left w]
          exact List.mem_cons_self ..
        · rw [Int.min_eq_right w]
          exact List.mem_cons_of_mem _ (List.mem_cons_self ..)
      · exact List.mem_cons_of_mem _ (List.mem_cons_of_mem _ z)
    · have top := b (min n k) (List.mem_cons_self ..)
      rcases List.mem_cons.mp hy with rfl | hy
      · omega
      · rcases List.mem_cons.mp hy with rfl | hy
        · omega
        · exact b y (List.mem_cons_of_mem _ hy)
def rMaxT (K : PySem.W.Frag) : List V → Hp → VK → Prop := fun vs H Q => ∃ (a : Addr) (ns : List Int), vs = [V.ref a] ∧ SqT K H a (ns.map V.int) ∧ ns ≠ [] ∧ ∀ m, m ∈ ns → (∀ y ∈ ns, y ≤ m) → Q (.int m) H
def rMinT (K : PySem.W.Frag) : List V → Hp → VK → Prop := fun vs H Q => ∃ (a : Addr) (ns : List Int), vs = [V.ref a] ∧ SqT K H a (ns.map V.int) ∧ ns ≠ [] ∧ ∀ m, m ∈ ns → (∀ y ∈ ns, m ≤ y) → Q (.int m) H
theorem cr_maxT {X : Cx} (calm : X.calm = true) (room : X.A.units + 1 < cLine) : CallR X (.builtin "max") (rMaxT X.K) := fun pins s σ H vs us Q I r h => by
  obtain ⟨a, ns, rfl, hq, ne, good⟩ := h
  obtain ⟨its, rel, tup, _⟩ := I.tuple hq
  rw [Vals.ref1 r]
  cases ns with
  | nil => exact absurd rfl ne
  | cons n ns =>
    have reads : ReadsAll s.heap its.toArray.toList (.int n :: ns.map PyData.int) [] := ints_read (ns := n :: ns) (by simpa using rel)
    have dep : X.A.units + 1 + PyData.depthAll (.int n :: ns.map PyData.int) < cLine := by
      have := depth_ints (n :: ns)
      rw [List.map_cons] at this
      rw [this]
      exact room
    refine PySem.W.max_tuple_data (I.ok.hd calm) tup reads (ints_alike (n :: ns)) dep fun i v h2 tk bs _ rd keep => ?_
    rw [PySem.W.maxD_ints] at rd
    cases rd with
    | int _ t => exact ⟨.int _, H, I.kept keep, ⟨t, rfl⟩, good _ (fold_max ns n).1 (fold_max ns n).2⟩
theorem cr_minT {X : Cx} (calm : X.calm = true) (room : X.A.units + 1 < cLine) : CallR X (.builtin "min") (rMinT X.K) := fun pins s σ H vs us Q I r h => by
  obtain ⟨a, ns, rfl, hq, ne, good⟩ := h
  obtain ⟨its, rel, tup, _⟩ := I.tuple hq
  rw [Vals.ref1 r]
  cases ns with
  | nil => exact absurd rfl ne
  | cons n ns =>
    have reads : ReadsAll s.heap its.toArray.toList (.int n :: ns.map PyData.int) [] := ints_read (ns := n :: ns) (by simpa using rel)
    have dep : X.A.units + 1 + PyData.depthAll (.int n :: ns.map PyData.int) < cLine := by
      have := depth_ints (n :: ns)
      rw [List.map_cons] at this
      rw [this]
      exact room
    refine PySem.W.min_tuple_data (I.ok.hd calm) tup reads (ints_alike (n :: ns)) dep fun i v h2 tk bs _ rd keep => ?_
    rw [PySem.W.minD_ints] at rd
    cases rd with
    | int _ t => exact ⟨.int _, H, I.kept keep, ⟨t, rfl⟩, good _ (fold_min ns n).1 (fold_min ns n).2⟩
end Lp
namespace Lp
open PySem PySem.Spec PyProof.Rows L2
/-! ### the kinds of the people behind the front -/
def lk (l : List Int) (z : Int) : Option Bool := if (l.all fun y => decide (y ≤ z)) = true then some true else if (l.all fun y => decide (z ≤ y)) = true then some false else none
def kinds (ns : List Int) : List (Option Bool) := (List.range (ns.length - 1)).map fun i => lk (ns.take (i + 1)) (ns.getD (i + 1) 0)
def kV : Option Bool → V
  | some b => .str (ltr b)
  | none => .non
theorem kinds_len (ns : List Int) : (kinds ns).length = ns.length - 1 := by
  unfold kinds
  rw [List.length_map, List.length_range]
theorem kinds_get {ns : List Int} {i : Nat} (h : i + 1 < ns.length) : (kinds ns)[i]? = some (lk (ns.take (i + 1)) ns[i + 1]) := by
  unfold kinds
  rw [List.getElem?_map, List.getElem?_range (by omega)]
  show some (lk (ns.take (i + 1)) (ns.getD (i + 1) 0)) = _
  rw [List.getD_eq_getElem?_getD, List.getElem?_eq_getElem h]
  rfl
theorem kinds_snoc {l : List Int} (z : Int) (h : 1 ≤ l.length) : kinds (l ++ [z]) = kinds l ++ [lk l z] := by
  have e : (l ++ [z]).length - 1 = (l.length - 1) + 1 := by
    rw [List.length_append]
    show l.length + 1 - 1 = _
    omega
  unfold kinds
  rw [e, List.range_succ, List.map_append]
  congr 1
  · refine List.map_congr_left fun i hi => ?_
    have hi2 := List.mem_range.mp hi
    rw [List.take_append_of_le_length (by omega), List.getD_eq_getElem?_getD, List.getD_eq_getElem?_getD, List.getElem?_append_left (by omega)]
  · show [lk ((l ++ [z]).take (l.length - 1 + 1)) ((l ++ [z]).getD (l.length - 1 + 1) 0)] = _
    rw [show l.length - 1 + 1 = l.length by omega, List.take_append_of_le_length (Nat.le_refl _), List.take_length, List.getD_eq_getElem?_getD, List.getElem?_append_right (Nat.le_refl _), Nat.sub_self]
    rfl
theorem lk_max {l : List Int} {z : Int} (h : ∀ y ∈ l, y ≤ z) : lk l z = some true := by
  unfold lk
  rw [if_pos (List.all_eq_true.mpr fun y hy => decide_eq_true (h y hy))]
theorem lk_min {l : List Int} {z : Int} (h1 : l ≠ []) (h : ∀ y ∈ l, z < y) : lk l z = some false := by
  unfold lk
  rw [if_neg, if_pos (List.all_eq_true.mpr fun y hy => decide_eq_true (Int.le_of_lt (h y hy)))]
  intro w
  obtain ⟨y, hy⟩ := List.exists_mem_of_ne_nil l h1
  have a := of_decide_eq_true (List.all_eq_true.mp w y hy)
  have b := h y hy
  omega
theorem lk_inv {l : List Int} {z : Int} {b : Bool} (h : lk l z = some b) : if b then ∀ y ∈ l, y ≤ z else ∀ y ∈ l, z ≤ y := by
  unfold lk at h
  split at h
  · rename_i w
    have e := Option.some.inj h
    subst e
    exact fun y hy => of_decide_eq_true (List.all_eq_true.mp w y hy)
  · split at h
    · rename_i w
      have e := Option.some.inj h
      subst e
      exact fun y hy => of_decide_eq_true (List.all_eq_true.mp w y hy)
    · cases h
/-- a row of kinds is what its word leaves -/
theorem kinds_back : ∀ (n : Nat) (ns ms : List Int) (bs : List Bool), ns.length = n + 1 → ns.Nodup → ms.Perm ns → kinds ns = bs.map some → afterL bs ms = ns
  | 0, ns, ms, bs, hn, nd, pm, hk => by
    obtain ⟨x, rfl⟩ : ∃ x, ns = [x] := List.length_eq_one_iff.mp hn
    have e := List.perm_singleton.mp pm
    subst e
    exact after_one bs x
  | n + 1, ns, ms, bs, hn, nd, pm, hk => by
    have ne : ns ≠ [] := by
      intro z
      rw [z] at hn
      cases hn
    obtain ⟨l, z, rfl⟩ : ∃ l z, ns = l ++ [z] := ⟨ns.dropLast, ns.getLast ne, (List.dropLast_concat_getLast ne).symm⟩
    have ll : l.length = n + 1 := by
      rw [List.length_append] at hn
      have : l.length + 1 = n + 1 + 1 := hn
      omega
    rw [kinds_snoc z (by omega)] at hk
    have bl : bs.length = n + 1 := by
      have := congrArg List.length hk
      rw [List.length_append, kinds_len, List.length_map] at this
      have : l.length - 1 + 1 = bs.length := this
      omega
    have bne : bs ≠ [] := by
      intro w
      rw [w] at bl
      cases bl
    obtain ⟨w, b, rfl⟩ : ∃ w b, bs = w ++ [b] := ⟨bs.dropLast, bs.getLast bne, (List.dropLast_concat_getLast bne).symm⟩
    rw [List.map_append] at hk
    obtain ⟨h1, h2⟩ := List.append_inj' hk rfl
    have h2' : lk l z = some b := by
      have := List.cons.inj h2
      exact this.1
    have wl : w.length = n := by
      rw [List.length_append] at bl
      have : w.length + 1 = n + 1 := bl
      omega
    have mz : z ∈ ms := pm.mem_iff.mpr (List.mem_append_right _ (List.mem_singleton_self z))
    have nz : z ∉ l := fun hz => (List.nodup_append.mp nd).2.2 z hz z (List.mem_singleton_self z) rfl
    have pe : (ms.erase z).Perm l := by
      have := pm.erase z
      rw [List.erase_append_right _ nz] at this
      simpa using this
    have ih := kinds_back n l (ms.erase z) w ll (List.nodup_append.mp nd).1 pe h1
    have ml : ms.length ≤ w.length + 2 := by
      rw [pm.length_eq, hn, wl]
      exact Nat.le_refl _
    have inv := lk_inv h2'
    have mem : ∀ x ∈ ms, x ∈ l ∨ x = z := fun x hx => by
      rcases List.mem_append.mp (pm.mem_iff.mp hx) with q | q
      · exact .inl q
      · exact .inr (List.mem_singleton.mp q)
    cases b with
    | true =>
      rw [ends_max mz (fun x hx => by rcases mem x hx with q | q; exact inv x q; omega) ml, ih]
    | false =>
      rw [ends_min mz (fun x hx => by rcases mem x hx with q | q; exact inv x q; omega) ml, ih]
/-- the word of a final row -/
theorem kinds_fin : ∀ (r : List Bool) (hs : List Int), hs.Pairwise (· < ·) → 1 ≤ hs.length → hs.length ≤ r.length + 1 → kinds (finR r hs) = (r.take (hs.length - 1)).reverse.map some ∧ (finR r hs).Perm hs
  | r, [], _, h, _ => absurd h (by decide)
  | r, [x], _, _, _ => by
    have e : finR r [x] = [x] := by cases r <;> rfl
    rw [e]
    exact ⟨by rfl, .refl _⟩
  | [], x :: y :: l, _, _, h => absurd h (by simp)
  | true :: r, x :: y :: l, up, _, h => by
    have len : (x :: y :: l).dropLast.length = l.length + 1 := by rw [List.length_dropLast]; rfl
    have h' : (x :: y :: l).length ≤ (true :: r).length + 1 := h
    rw [List.length_cons, List.length_cons, List.length_cons] at h'
    have sub := List.dropLast_sublist (x :: y :: l)
    obtain ⟨i1, i2⟩ := kinds_fin r ((x :: y :: l).dropLast) (up.sublist sub) (by omega) (by omega)
    have dl := List.dropLast_concat_getLast (l := x :: y :: l) (by simp)
    have top : ∀ z ∈ finR r ((x :: y :: l).dropLast), z ≤ (x :: y :: l).getLast (by simp) := fun z hz => by
      have hz2 := i2.mem_iff.mp hz
      rw [← dl] at up
      exact Int.le_of_lt ((List.pairwise_append.mp up).2.2 z hz2 _ (List.mem_singleton_self _))
    have fl : 1 ≤ (finR r ((x :: y :: l).dropLast)).length := by rw [i2.length_eq, len]; omega
    refine ⟨?_, ?_⟩
    · rw [finR, kinds_snoc _ fl, i1, lk_max top, len]
      show _ = ((true :: r).take (l.length + 1 + 1 - 1)).reverse.map some
      rw [show l.length + 1 + 1 - 1 = (l.length + 1 - 1) + 1 by omega, List.take_succ_cons, List.reverse_cons, List.map_append]
      rfl
    · rw [finR]
      refine (i2.append_right _).trans ?_
      rw [dl]
  | false :: r, x :: y :: l, up, _, h => by
    have h' : (x :: y :: l).length ≤ (false :: r).length + 1 := h
    rw [List.length_cons, List.length_cons, List.length_cons] at h'
    rw [List.pairwise_cons] at up
    obtain ⟨i1, i2⟩ := kinds_fin r (y :: l) up.2 (by simp) (by rw [List.length_cons]; omega)
    have low : ∀ z ∈ finR r (y :: l), x < z := fun z hz => up.1 z (i2.mem_iff.mp hz)
    have fl : 1 ≤ (finR r (y :: l)).length := by rw [i2.length_eq]; simp
    have fne : finR r (y :: l) ≠ [] := fun z => by rw [z] at fl; cases fl
    refine ⟨?_, ?_⟩
    · rw [finR, kinds_snoc _ fl, i1, lk_min fne low]
      show _ = ((false :: r).take (l.length + 1 + 1 - 1)).reverse.map some
      rw [show l.length + 1 + 1 - 1 = ((y :: l).length - 1) + 1 by rw [List.length_cons]; omega, List.take_succ_cons, List.reverse_cons, List.map_append]
      rfl
    · rw [finR]
      refine (i2.append_right _).trans ?_
      exact List.perm_append_singleton x (y :: l)
end Lp
namespace Lp
open PySem PySem.Spec PyProof.Rows L2
/-! ### a tuple backwards: t[::-1] -/
theorem back_size (n : Nat) : Builtin.Slice.slicePlaces ((n : Int) - 1) (-1) (-1) = n := by
  unfold Builtin.Slice.slicePlaces; rw [if_neg (show ¬ (-1 : Int) > 0 by decide)]
  split
  · have e : ((n : Int) - 1 - -1 - 1) / (- -1) = (n : Int) - 1 := by
      rw [show (- -1 : Int) = 1 from rfl, Int.ediv_one]
      omega
    rw [e]
    omega
  · omega
theorem fm_congr {α β : Type} {f g : α → Option β} : ∀ {l : List α}, (∀ x ∈ l, f x = g x) → l.filterMap f = l.filterMap g
  | [], _ => rfl
  | x :: l, h => by
    rw [List.filterMap_cons, List.filterMap_cons, h x (List.mem_cons_self ..), fm_congr fun y hy => h y (List.mem_cons_of_mem _ hy)]
theorem back_items (xs : Array Value) : ((List.range xs.size).filterMap fun (k : Nat) => xs[((xs.size : Int) - 1 + (k : Int) * -1).toNat]?).toArray = xs.toList.reverse.toArray := by
  congr 1
  have e : (List.range xs.size).filterMap (fun (k : Nat) => xs[((xs.size : Int) - 1 + (k : Int) * -1).toNat]?) = ((List.range xs.size).map fun k => xs.size - 1 - k).filterMap (xs[·]?) := by
    rw [List.filterMap_map]
    refine fm_congr fun k hk => ?_
    have := List.mem_range.mp hk
    have z : ((xs.size : Int) - 1 + (k : Int) * -1).toNat = xs.size - 1 - k := by omega
    show xs[((xs.size : Int) - 1 + (k : Int) * -1).toNat]? = xs[xs.size - 1 - k]?
    rw [z]
  rw [e, PySem.W.krv_range, List.filterMap_reverse, PySem.W.krv_all]
section
variable {prog : Program} {w : World} {A : Around} {E : Value → Shared → Prop} {s : Shared}
theorem back_parts {sl : Addr} {n : Nat} {tk : Tok} {R : Int × Int × Nat → Shared → Prop} (h : s.heap.IsSliceOf sl .none .none (.int (-1) tk)) (good : R ((n : Int) - 1, -1, n) s) : wpAny (model prog w) A (Builtin.Slice.sliceApplied (.ref sl) (pure (n : Int))) R E s := by
  obtain ⟨ob, at_, cl, dt⟩ := id h
  unfold Builtin.Slice.sliceApplied Builtin.Slice.sliceFields; apply wpAny_bind
  refine wpAny_bind (wpAny_field at_ dt (x := .none) rfl (?_ : wpAny _ _ _ _ _ s))
  refine wpAny_bind (wpAny_field at_ dt (x := .none) rfl (?_ : wpAny _ _ _ _ _ s))
  refine wpAny_bind (wpAny_field at_ dt (x := .int (-1) tk) rfl (wpAny_pure (?_ : wpAny _ _ _ _ _ s)))
  refine wpAny_bind (HT.slicePart_ (.int (-1) tk) (?_ : wpAny _ _ (if ((-1 : Int) == 0) = true then _ else _) _ _ s))
  rw [if_neg (show ¬ ((-1 : Int) == 0) = true by decide)]
  refine wpAny_bind (HT.slicePart_ .none (wpAny_bind (HT.slicePart_ .none (wpAny_bind (wpAny_pure (?_ : wpAny _ _ _ _ _ s))))))
  show wpAny _ _ (pure ((n : Int) - 1, (-1 : Int), Builtin.Slice.slicePlaces ((n : Int) - 1) (-1) (-1))) _ _ s
  rw [back_size]
  exact wpAny_pure good
theorem back_item {t sl : Addr} {items : Array Value} {tk : Tok} {R : Value → Shared → Prop} (ht : IsTup s.heap t items) (hs : s.heap.IsSliceOf sl .none .none (.int (-1) tk)) (few : items.size ≤ sizeLine)
    (good : R (.ref s.heap.objs.size) { s with heap := s.heap.push { cls := .type "tuple", data := .seq items.toList.reverse.toArray } }) : wpAny (model prog w) A (getItem (.ref t) (.ref sl)) R E s := by
  obtain ⟨ob, at_, cl, dt⟩ := id hs
  have ty : s.TypeIs (.ref sl) "slice" := ⟨ob, at_, cl⟩
  have fit : sizeOk (.seq items.toList.reverse.toArray) := by
    show items.toList.reverse.toArray.size ≤ sizeLine
    rw [List.size_toArray, List.length_reverse, Array.length_toList]
    exact few
  unfold getItem
  refine wpAny_holding (?_ : wpAny _ _ _ _ _ s)
  refine wpAny_bind (wpAny_sequenceKey ht.typeIs (by decide) (?_ : wpAny _ _ _ _ _ s))
  refine wpAny_bind (wpAny_callSpecial?_slot (name := Str.ofString "__getitem__") ht.typeIs PyProof.Rows.slot_tuple_getitem (wpAny_call_entry PyProof.Rows.slot_tuple_getitem ht.typeIs PyProof.Rows.entry_tuple_getitem (?_ : wpAny _ _ (Builtin.Tuple.tupleItemsOf (.ref t) >>= _) _ _ s) (PyProof.Rows.args_tuple_getitem _ _)))
  refine wpAny_bind (PyProof.Rows.tupleItemsOf_ ht (?_ : wpAny _ _ _ _ _ s))
  refine wpAny_bind (wpAny_typeOf ty (?_ : wpAny _ _ _ _ _ s))
  rw [if_pos (show (Value.type "slice" == Value.type "slice") = true by decide)]
  refine wpAny_bind (back_parts hs (?_ : wpAny _ _ _ _ _ s))
  have off : ¬ ((((items.size : Int) - 1 == 0) && ((-1 : Int) == 1) && (items.size == items.size)) = true) := by
    rw [show ((-1 : Int) == 1) = false by decide, Bool.and_false, Bool.false_and]
    exact Bool.false_ne_true
  show wpAny _ _ (if (((items.size : Int) - 1 == 0) && ((-1 : Int) == 1) && (items.size == items.size)) = true then _ else _) _ _ s
  rw [if_neg off, back_items]
  exact wpAny_bind (m := Builtin.Tuple.tupleExact _) (wpAny_newObj_type (wpAny_pure ⟨_, rfl, wpAny_pure good⟩) fit)
end
def tBackT (K : PySem.W.Frag) (te : TE) : TE := fun σ H Q => te σ H fun x G => ∃ a xs, x = .ref a ∧ SqT K G a xs ∧ ∀ p, G p = none → Q (.ref p) (upd G p (.tup xs.reverse))
theorem pe_backT {X : Cx} {e : Expr} {te : TE} {j : Nat} {q1 q2 q3 q : Pos} (a : PE X e te) : PE X (.Subscript e (.Slice none none (some (.UnaryOp .USub (.Constant (.int 1) j q1) q2)) q3) q) (tBackT X.K te) := by
  constructor
  intro pins s σ H Q I h
  refine Subscript_ (thn (a.run pins s σ H _ I h) fun v s1 z => ?_)
  obtain ⟨x, H1, I1, r1, b, xs, rfl, hx, good⟩ := z
  cases r1
  refine wpAny_Slice (thn (po_none.run pins s1 σ H1 (fun o G => o = none ∧ G = H1) I1 ⟨rfl, rfl⟩) fun vl s2 z => ?_)
  obtain ⟨_, G2, I2, pl, rfl, rfl⟩ := z
  refine thn (po_none.run pins s2 σ _ (fun o G => o = none ∧ G = G2) I2 ⟨rfl, rfl⟩) fun vu s3 z => ?_
  obtain ⟨_, G3, I3, pu, rfl, rfl⟩ := z
  refine thn (minus_one.run pins s3 σ _ (fun o G => o = some (-1) ∧ G = G3) I3 ⟨1, rfl, -1, rfl, rfl, rfl⟩) fun vs s4 z => ?_
  obtain ⟨_, G4, I4, ps, rfl, rfl⟩ := z
  cases pl
  cases pu
  cases ps with
  | int _ tk =>
    have J := I4.kept (t' := s4.toks) (h' := s4.heap.push { cls := .type "slice", data := .fields #[.none, .none, .int (-1) tk] }) fun b ob w => Heap.get?_push_of_some _ w
    obtain ⟨its, r, ht, few⟩ := J.tuple hx
    have size : its.toArray.size ≤ sizeLine := by
      rw [List.size_toArray, ← r.length]
      exact few
    refine tail_any (ops := [.ref b, .ref s4.heap.objs.size]) ht.typeIs PyProof.Rows.slot_tuple_getitem.lookup ?_ (by with_unfolding_all rfl)
    refine back_item ht (Heap.IsSliceOf.new _ .none .none (.int (-1) tk)) size ?_
    have same : its.toArray.toList.reverse.toArray = its.reverse.toArray := by simp
    have new := J.laid (t' := s4.toks) (o := .tup xs.reverse) (h' := (s4.heap.push { cls := .type "slice", data := .fields #[.none, .none, .int (-1) tk] }).push { cls := .type "tuple", data := .seq its.toArray.toList.reverse.toArray }) (fun b ob w => Heap.get?_push_of_some _ w) (Nat.le_refl _) ⟨by rw [List.length_reverse]; exact few, its.reverse, r.reverse, by rw [← same]; exact IsTup.new _ _⟩
    exact ⟨.ref _, _, new, rfl, good _ (J.hok.fresh (Nat.le_refl _))⟩
/-! ### rows told apart -/
theorem eqv_all : ∀ a b : List Int, PyData.eqvAll (a.map PyData.int) (b.map PyData.int) = decide (a = b)
  | [], [] => by simp [PyData.eqvAll]
  | [], y :: b => by simp [PyData.eqvAll]
  | x :: a, [] => by simp [PyData.eqvAll]
  | x :: a, y :: b => by
    rw [List.map_cons, List.map_cons, PyData.eqvAll, eqv_all a b, PyData.eqv]
    by_cases h : x = y
    · by_cases h2 : a = b
      · simp [h, h2]
      · simp [h, h2]
    · simp [h]
theorem eqv_rows (a b : List Int) : PyData.eqv (.tuple (a.map PyData.int)) (.tuple (b.map PyData.int)) = decide (a = b) := by
  rw [PyData.eqv, eqv_all]
end Lp
namespace Lp
open PySem PySem.Spec PyProof.Rows L2
/-! ### tuples whose object is known: they have methods -/
structure TupO (o : Obj) : Prop where
  cls : o.cls = .type "tuple"
  nod : o.dict = none
def TupAt (H : Hp) (p : Addr) (xs : List V) : Prop := ∃ o, TupO o ∧ H p = some (.frz o (.tup xs))
theorem TupAt.sq {K : PySem.W.Frag} {H : Hp} {p : Addr} {xs : List V} (h : TupAt H p xs) : SqT K H p xs := by
  obtain ⟨o, _, e⟩ := h
  exact .inl (.inr ⟨o, e⟩)
theorem TupAt.same {H H' : Hp} {p : Addr} {xs : List V} (h : TupAt H p xs) (s : Same H H') : TupAt H' p xs := by
  obtain ⟨o, t, e⟩ := h
  exact ⟨o, t, s _ _ e⟩
theorem TupAt.kp {H H' : Hp} {p a : Addr} {xs : List V} (h : TupAt H p xs) (s : Kp a H H') (ne : p ≠ a) : TupAt H' p xs := by
  obtain ⟨o, t, e⟩ := h
  exact ⟨o, t, s _ _ e ne⟩
theorem TupAt.some_ {H : Hp} {p : Addr} {xs : List V} (h : TupAt H p xs) : H p ≠ none := by
  obtain ⟨o, _, e⟩ := h
  rw [e]
  exact fun z => nomatch z
/-- tuple(xs), xs a list: the new object is known -/
def rTupF (K : PySem.W.Frag) : List V → Hp → VK → Prop := fun xs H Q => ∃ p ys, xs = [.ref p] ∧ SqL K H p ys ∧ ∀ l o, TupO o → H l = none → Q (.ref l) (upd H l (.frz o (.tup ys)))
theorem call_tupF {X : Cx} : CallR X (.type "tuple") (rTupF X.K) := by
  intro pins s σ H xs us Q I r h
  obtain ⟨p, ys, rfl, hq, q⟩ := h
  obtain ⟨u, rfl, rx⟩ := vals1 r
  cases rx
  obtain ⟨its, r2, pl, hz⟩ := I.list hq
  have hlen := r2.length
  refine call_tuple_list pl.isList (fun h2 kp => ?_) (by have := line63; simp only [List.size_toArray]; omega)
  have J1 : Inv X pins σ H { s with heap := h2 } := I.kept (t' := s.toks) kp
  have at_ := Heap.get?_push_size h2 (o := { cls := .type "tuple", data := .seq its.toArray }) rfl
  have J2 : Inv X pins σ (upd H h2.objs.size (.frz { cls := .type "tuple", data := .seq its.toArray } (.tup ys))) { s with heap := h2.push { cls := .type "tuple", data := .seq its.toArray } } :=
    J1.laid (t' := s.toks) (fun b o e => Heap.get?_push_of_some _ e) (Nat.le_refl _) (show ObjOk X.prog X.w _ _ _ (.frz _ (.tup ys)) from ⟨at_, hz, its, r2, IsTup.new _ _⟩)
  exact ⟨.ref h2.objs.size, _, J2, rfl, q _ _ ⟨rfl, rfl⟩ (J1.hok.fresh (Nat.le_refl _))⟩
/-- o.index(e), o such a tuple -/
def tTix (r : V → List V → Hp → VK → Prop) (to : TE) (t : TA) : TE := fun σ H Q => to σ H fun x H1 => (∃ p xs, x = .ref p ∧ TupAt H1 p xs) ∧ t σ H1 fun vs H2 => r x vs H2 Q
section
variable {X : Cx} {o e : Expr} {es : List Expr} {to : TE} {t : TA} {apos cpos : Pos} {r : V → List V → Hp → VK → Prop}
theorem pe_tix (hm : MtR X "tuple.index" r) (ho : PE X o to) (ha : PA X (e :: es) t)
    (hbase : attributeBase o "index" X.env (eval o X.env) = eval o X.env := by rfl)
    (few : ((backTo cpos (starEach (e :: es) X.env)).all (fun x => !x.1) && (backToKw cpos (keywordEach [] X.env)).all (fun x => x.1.isSome) && decide ((e :: es).length + ([] : List Keyword).length + (if ([] : List Keyword).isEmpty then 0 else 1) < 30)) = true := by rfl)
    (line : (apos.endLine == cpos.line) = true := by rfl) (st : starEach (e :: es) X.env = (false, eval e X.env) :: starEach es X.env := by rfl) (plain : (backTo cpos (starEach es X.env)).any (·.1) = false := by rfl) :
    PE X (.Call (.Attribute o "index" apos) (e :: es) [] cpos) (tTix r to t) := ⟨fun pins s σ H Q I h => by
  refine wpAny_Call_method_late hbase few line rfl (thn (ho.run pins s σ H _ I h) fun v s1 y => ?_)
  obtain ⟨x, H1, J1, rx, ⟨p, xs, rfl, ob, tb, hp⟩, q1⟩ := y
  cases rx
  have at_ : s1.heap.get? p = some ob := (J1.hok p _ hp).1
  refine ⟨"tuple", "tuple.index", F.plainAttrs_tuple, F.slot_tuple_index, F.type_tuple_index, ⟨ob, at_, tb.cls⟩, fun a ea => ?_, ?_⟩
  · cases ea
    exact ⟨ob, at_, tb.nod⟩
  · have run := ha.run cpos pins s1 σ H1 _ J1 q1
    rw [st] at run ⊢
    refine Calls.callWith_builtin (by show (false || (backTo cpos (starEach es X.env)).any (·.1)) = false; rw [plain]; rfl) (Calls.evalArgs_plain ?_)
    exact thn run fun us s2 y2 => by
      obtain ⟨vs, H2, J2, rs, q2⟩ := y2
      exact hm pins s2 σ H2 (.ref p) vs (.ref p) us Q J2 rfl rs q2⟩
end
end Lp
namespace Lp
open PySem PySem.Spec PyProof.Rows L2
/-! ### the last people: each the tallest or the shortest up to there (bs: from the back) -/
def EndsR : List Bool → List Int → Prop
  | [], _ => True
  | b :: bs, r => ∃ l z, r = l ++ [z] ∧ (∀ y ∈ l, if b then y ≤ z else z ≤ y) ∧ EndsR bs l
def EndsB : List Bool → List Bool → Prop
  | [], _ => True
  | b :: bs, r => ∃ l c, r = l ++ [c] ∧ (c = !b → ∀ y ∈ l, y = !b) ∧ EndsB bs l
theorem snoc_of {α : Type} {l : List α} (h : 1 ≤ l.length) : ∃ m z, l = m ++ [z] := by
  have ne : l ≠ [] := fun e => by
    rw [e] at h
    exact absurd h (Nat.not_succ_le_zero 0)
  exact ⟨l.dropLast, l.getLast ne, (List.dropLast_concat_getLast ne).symm⟩
theorem endsB_const : ∀ (bs l : List Bool) (e : Bool), bs.length ≤ l.length → (∀ y ∈ l, y = e) → EndsB bs l
  | [], _, _, _, _ => trivial
  | b :: bs, l, e, hl, h => by
    rw [List.length_cons] at hl
    obtain ⟨m, z, rfl⟩ := snoc_of (show 1 ≤ l.length by omega)
    rw [List.length_append, List.length_singleton] at hl
    have hz : z = e := h z (by simp)
    refine ⟨m, z, rfl, fun ez y hy => ?_, endsB_const bs m e (by omega) fun y hy => h y (by simp [hy])⟩
    rw [← ez, hz]
    exact h y (by simp [hy])
theorem endsB_erase : ∀ (bs l : List Bool) (b : Bool), bs.length + 1 ≤ l.length → b ∈ l → EndsB bs l → EndsB bs (l.erase b)
  | [], _, _, _, _, _ => trivial
  | d :: bs, l, b, hl, hb, h => by
    rw [List.length_cons] at hl
    obtain ⟨m, c, rfl, h1, h2⟩ := h
    rw [List.length_append, List.length_singleton] at hl
    by_cases hm : b ∈ m
    · rw [List.erase_append_left _ hm]
      exact ⟨m.erase b, c, rfl, fun ec y hy => h1 ec y (List.mem_of_mem_erase hy), endsB_erase bs m b (by omega) hm h2⟩
    · have ec : c = b := by
        rcases List.mem_append.mp hb with z | z
        · exact absurd z hm
        · exact (List.mem_singleton.mp z).symm
      rw [List.erase_append_right _ hm, ec, List.erase_cons_head, List.append_nil]
      refine endsB_const (d :: bs) m (!b) (by rw [List.length_cons]; omega) fun y hy => ?_
      cases y <;> cases b <;> first | rfl | exact absurd hy hm
theorem endsB_pass {bs l : List Bool} {b : Bool} (hl : bs.length + 1 ≤ l.length) (h : EndsB bs l) : EndsB (b :: bs) ((l ++ [b]).erase b) := by
  by_cases hb : b ∈ l
  · rw [List.erase_append_left _ hb]
    exact ⟨l.erase b, b, rfl, (fun e => absurd e (by cases b <;> decide)), endsB_erase bs l b hl hb h⟩
  · rw [List.erase_append_right _ hb, List.erase_cons_head, List.append_nil]
    refine endsB_const (b :: bs) l (!b) (by rw [List.length_cons]; omega) fun y hy => ?_
    cases y <;> cases b <;> first | rfl | exact absurd hy hb
theorem endsB_after (h : Int) {ns : List Int} (ne : ns ≠ []) : ∀ r : List Bool, r.length ≤ ns.length → EndsB r (sgn h (afterL r.reverse ns))
  | [], _ => trivial
  | b :: r, hl => by
    rw [List.length_cons] at hl
    have ih := endsB_after h ne r (by omega)
    rw [List.reverse_cons, afterL_app]
    show EndsB (b :: r) (sgn h (passL b (afterL r.reverse ns)))
    have ln : (afterL r.reverse ns).length = ns.length := afterL_len ..
    have ne2 : afterL r.reverse ns ≠ [] := fun e => by
      rw [e] at ln
      exact ne (List.length_eq_zero_iff.mp ln.symm)
    rw [pass_sgn b h ne2]
    refine endsB_pass ?_ ih
    rw [sgn_len, ln]
    exact hl
theorem endsR_of : ∀ (bs : List Bool) (r : List Int), (∀ h, EndsB bs (sgn h r)) → EndsR bs r
  | [], _, _ => trivial
  | b :: bs, r, hB => by
    have pos : 1 ≤ r.length := by
      obtain ⟨l, c, e, _⟩ := hB 0
      have := congrArg List.length e
      rw [sgn_len, List.length_append, List.length_singleton] at this
      omega
    obtain ⟨m, z, rfl⟩ := snoc_of pos
    have split_ : ∀ h, (decide (h ≤ z) = !b → ∀ y ∈ sgn h m, y = !b) ∧ EndsB bs (sgn h m) := fun h => by
      obtain ⟨l, c, e, h1, h2⟩ := hB h
      have e2 : sgn h (m ++ [z]) = sgn h m ++ [decide (h ≤ z)] := List.map_append ..
      rw [e2] at e
      obtain ⟨e3, e4⟩ := List.append_inj' e rfl
      rw [e3]
      refine ⟨fun q => h1 ?_, h2⟩
      rw [← q]
      exact (List.cons.inj e4).1.symm
    refine ⟨m, z, rfl, fun y hy => ?_, endsR_of bs m fun h => (split_ h).2⟩
    cases b with
    | true =>
      show y ≤ z
      by_cases hlt : y ≤ z
      · exact hlt
      · have := (split_ y).1 (decide_eq_false hlt) (decide (y ≤ y)) (List.mem_map.mpr ⟨y, hy, rfl⟩)
        rw [decide_eq_true (Int.le_refl y)] at this
        cases this
    | false =>
      show z ≤ y
      have := (split_ z).1 (decide_eq_true (Int.le_refl z)) (decide (z ≤ y)) (List.mem_map.mpr ⟨y, hy, rfl⟩)
      exact of_decide_eq_true this
theorem endsR_after {ns : List Int} (ne : ns ≠ []) {r : List Bool} (hl : r.length ≤ ns.length) : EndsR r (afterL r.reverse ns) := endsR_of _ _ fun h => endsB_after h ne r hl
theorem endsR_uniq : ∀ (bs : List Bool) (r g : List Int), EndsR bs r → EndsR bs g → r.Perm g → r.take (r.length - bs.length) = g.take (r.length - bs.length) → r = g
  | [], r, g, _, _, p, e => by
    rw [List.length_nil, Nat.sub_zero, List.take_length, List.take_of_length_le (Nat.le_of_eq p.length_eq.symm)] at e
    exact e
  | b :: bs, r, g, hr, hg, p, e => by
    obtain ⟨l, z, rfl, h1, h2⟩ := hr
    obtain ⟨m, y, rfl, g1, g2⟩ := hg
    have ez : z = y := by
      have a1 : z ∈ m ++ [y] := p.mem_iff.mp (by simp)
      have a2 : y ∈ l ++ [z] := p.mem_iff.mpr (by simp)
      rcases List.mem_append.mp a1 with w1 | w1
      · rcases List.mem_append.mp a2 with w2 | w2
        · have q1 := g1 z w1
          have q2 := h1 y w2
          cases b <;> simp at q1 q2 <;> omega
        · exact (List.mem_singleton.mp w2).symm
      · exact List.mem_singleton.mp w1
    subst ez
    have pl : l.Perm m := (List.perm_append_right_iff [z]).mp p
    have ll := pl.length_eq
    rw [List.length_append, List.length_singleton, List.length_cons, show l.length + 1 - (bs.length + 1) = l.length - bs.length by omega, List.take_append_of_le_length (by omega), List.take_append_of_le_length (by omega)] at e
    rw [endsR_uniq bs l m h2 g2 pl e]
/-! ### the words that may have placed the last people -/
def endsW : List (Option Bool) → List Bool → List (List Bool)
  | some b :: ks, w => w :: endsW ks (b :: w)
  | _, w => [w]
def endsOf (gs : List Int) : List (List Bool) := endsW (kinds gs).reverse []
theorem endsW_nil (w : List Bool) : endsW [] w = [w] := rfl
theorem endsW_none (ks : List (Option Bool)) (w : List Bool) : endsW (none :: ks) w = [w] := rfl
theorem endsW_some (b : Bool) (ks : List (Option Bool)) (w : List Bool) : endsW (some b :: ks) w = w :: endsW ks (b :: w) := rfl
theorem endsW_get : ∀ (ks : List (Option Bool)) (v : List Bool) (j : Nat) (w : List Bool), (endsW ks v)[j]? = some w → j ≤ ks.length ∧ ∃ u : List Bool, u.length = j ∧ w = u.reverse ++ v ∧ ks.take j = u.map some
  | [], v, j, w, h => by
    rw [endsW_nil] at h
    cases j with
    | zero => exact ⟨Nat.le_refl _, [], rfl, (Option.some.inj h).symm, rfl⟩
    | succ j => cases h
  | none :: ks, v, j, w, h => by
    rw [endsW_none] at h
    cases j with
    | zero => exact ⟨Nat.zero_le _, [], rfl, (Option.some.inj h).symm, rfl⟩
    | succ j => cases h
  | some b :: ks, v, j, w, h => by
    rw [endsW_some] at h
    cases j with
    | zero => exact ⟨Nat.zero_le _, [], rfl, (Option.some.inj h).symm, rfl⟩
    | succ j =>
      rw [List.getElem?_cons_succ] at h
      obtain ⟨h1, u, h2, h3, h4⟩ := endsW_get ks (b :: v) j w h
      refine ⟨by rw [List.length_cons]; omega, b :: u, by rw [List.length_cons, h2], ?_, ?_⟩
      · rw [h3, List.reverse_cons, List.append_assoc]
        rfl
      · rw [List.take_succ_cons, h4]
        rfl
theorem kinds_ends : ∀ (u : List Bool) (gs : List Int), (kinds gs).reverse.take u.length = u.map some → u.length ≤ gs.length - 1 → EndsR u gs
  | [], _, _, _ => trivial
  | b :: u, gs, h, hl => by
    rw [List.length_cons] at hl
    obtain ⟨m, z, rfl⟩ := snoc_of (show 1 ≤ gs.length by omega)
    rw [List.length_append, List.length_singleton] at hl
    rw [kinds_snoc z (by omega), List.reverse_append, List.length_cons] at h
    have h2 : lk m z :: (kinds m).reverse.take u.length = some b :: u.map some := h
    obtain ⟨e1, e2⟩ := List.cons.inj h2
    have inv := lk_inv e1
    refine ⟨m, z, rfl, fun y hy => ?_, kinds_ends u m e2 (by omega)⟩
    cases b with
    | true => exact inv y hy
    | false => exact inv y hy
theorem ends_get {gs : List Int} {j : Nat} {w : List Bool} (h : (endsOf gs)[j]? = some w) : w.length = j ∧ j ≤ gs.length - 1 ∧ EndsR w.reverse gs := by
  obtain ⟨h1, u, h2, h3, h4⟩ := endsW_get _ _ _ _ h
  rw [List.length_reverse, kinds_len] at h1
  rw [List.append_nil] at h3
  subst h3
  rw [List.length_reverse, List.reverse_reverse]
  subst h2
  exact ⟨rfl, h1, kinds_ends u gs h4 h1⟩
theorem keptL_after {w : List Bool} {ns : List Int} (hrow : Row ns) (h : w.length ≤ ns.length) : keptL (w.count false) (w.count true) ns = (afterL w ns).take (ns.length - w.length) := by
  have two := count_two w
  unfold keptL
  rw [desk_passes hrow.nd (by omega), show ns.length - w.count false - w.count true = ns.length - w.length by omega]
  have c0 : (List.replicate (w.count false) false ++ List.replicate (w.count true) true).count false = w.count false := by simp [List.count_append, List.count_replicate]
  have c1 : (List.replicate (w.count false) false ++ List.replicate (w.count true) true).count true = w.count true := by simp [List.count_append, List.count_replicate]
  have ka := kept_any (ns := ns) c0 c1
  rw [List.length_append, List.length_replicate, List.length_replicate, two] at ka
  exact ka
/-- a possible end leads there just where the people kept are the first ones -/
theorem ends_lead {ns gs : List Int} {w : List Bool} (hrow : Row ns) (p : gs.Perm ns) (h : w ∈ endsOf gs) : afterL w ns = gs ↔ keptL (w.count false) (w.count true) ns = gs.take (ns.length - w.length) := by
  obtain ⟨j, hj⟩ := List.mem_iff_getElem?.mp h
  obtain ⟨h1, h2, h3⟩ := ends_get hj
  have lp := p.length_eq
  have pos := hrow.pos
  have ne : ns ≠ [] := fun e => by
    rw [e] at pos
    exact absurd pos (by decide)
  rw [keptL_after hrow (by omega)]
  constructor
  · intro e
    rw [e]
  · intro e
    have er := endsR_after ne (r := w.reverse) (by rw [List.length_reverse]; omega)
    rw [List.reverse_reverse] at er
    refine endsR_uniq w.reverse _ _ er h3 ((afterL_perm w ns).trans p.symm) ?_
    rw [afterL_len, List.length_reverse]
    exact e
/-! ### the first index at which two differ -/
def fmI : List Int → List Int → Option Nat
  | x :: xs, y :: ys => if x = y then (fmI xs ys).map (· + 1) else some 0
  | _, _ => none
theorem fmI_none : ∀ (xs ys : List Int), xs.length ≤ ys.length → (fmI xs ys = none ↔ xs = ys.take xs.length)
  | [], ys, _ => by cases ys <;> exact ⟨fun _ => rfl, fun _ => rfl⟩
  | x :: xs, [], h => absurd h (by simp)
  | x :: xs, y :: ys, h => by
    have ih := fmI_none xs ys (by simpa using h)
    rw [List.length_cons, List.take_succ_cons]
    show (if x = y then (fmI xs ys).map (· + 1) else some 0) = none ↔ _
    by_cases e : x = y
    · rw [if_pos e, Option.map_eq_none_iff, ih, e, List.cons.injEq]
      exact ⟨fun z => ⟨rfl, z⟩, fun z => z.2⟩
    · rw [if_neg e, List.cons.injEq]
      refine ⟨fun z => absurd z (by simp), fun z => absurd z.1 e⟩
/-- the search along xs -/
theorem fmI_at {xs ys : List Int} (h : xs.length ≤ ys.length) : ∀ i : Nat, (∀ j (hj : j < i) (hx : j < xs.length), xs[j] = ys[j]'(by omega)) → ∀ (hi : i < xs.length), xs[i] ≠ ys[i]'(by omega) → fmI xs ys = some i := by
  intro i
  induction i generalizing xs ys with
  | zero =>
    intro _ hi ne
    match xs, ys, h, hi, ne with
    | x :: xs, y :: ys, _, _, ne =>
      show (if x = y then _ else some 0) = some 0
      rw [if_neg (show ¬ x = y from ne)]
  | succ i ih =>
    intro before hi ne
    match xs, ys, h, hi, ne, before with
    | x :: xs, y :: ys, h, hi, ne, before =>
      have e : x = y := before 0 (by omega) (by simp)
      show (if x = y then (fmI xs ys).map (· + 1) else some 0) = some (i + 1)
      rw [if_pos e, ih (xs := xs) (ys := ys) (by simpa using h) (fun j hj hx => before (j + 1) (by omega) (by simpa using hx)) (by simpa using hi) ne]
      rfl
theorem fmI_all {xs ys : List Int} (h : xs.length ≤ ys.length) (all_ : ∀ j (hx : j < xs.length), xs[j] = ys[j]'(by omega)) : fmI xs ys = none := by
  refine (fmI_none xs ys h).mpr (List.ext_getElem (by rw [List.length_take]; omega) fun j h1 h2 => ?_)
  rw [List.getElem_take]
  exact all_ j h1
end Lp
namespace Lp
open PySem PySem.Spec PyProof.Rows L2
/-! ### all rows of some people -/
def insAt (x : Int) (l : List Int) (k : Nat) : List Int := l.take k ++ [x] ++ l.drop k
def insAll (x : Int) (l : List Int) : List (List Int) := (List.range (l.length + 1)).map (insAt x l)
def allL (ns : List Int) : List (List Int) := ns.foldl (fun found x => found.flatMap (insAll x)) [[]]
theorem insAt_perm (x : Int) (l : List Int) (k : Nat) : (insAt x l k).Perm (l ++ [x]) := by
  unfold insAt
  have e : l ++ [x] = l.take k ++ (l.drop k ++ [x]) := by rw [← List.append_assoc, List.take_append_drop]
  rw [e, List.append_assoc]
  exact (List.perm_append_comm).append_left _
theorem allL_take {ns : List Int} {i : Nat} (h : i < ns.length) : allL (ns.take (i + 1)) = (allL (ns.take i)).flatMap (insAll ns[i]) := fold_take (List.getElem?_eq_getElem h)
theorem fold_perm : ∀ (ns pre : List Int) (F : List (List Int)), (∀ l, l ∈ F ↔ l.Perm pre) → ∀ l, l ∈ ns.foldl (fun found x => found.flatMap (insAll x)) F ↔ l.Perm (pre ++ ns)
  | [], pre, F, h, l => by
    rw [List.append_nil]
    exact h l
  | x :: ns, pre, F, h, l => by
    rw [List.foldl_cons]
    have step : ∀ l, l ∈ F.flatMap (insAll x) ↔ l.Perm (pre ++ [x]) := fun l => by
      refine ⟨fun hl => ?_, fun hl => ?_⟩
      · obtain ⟨m, hm, hl⟩ := List.mem_flatMap.mp hl
        obtain ⟨k, _, rfl⟩ := List.mem_map.mp hl
        exact (insAt_perm x m k).trans (((h m).mp hm).append_right [x])
      · have hx : x ∈ l := hl.mem_iff.mpr (List.mem_append_right _ (List.mem_singleton_self x))
        obtain ⟨a, b, rfl⟩ := List.append_of_mem hx
        refine List.mem_flatMap.mpr ⟨a ++ b, (h _).mpr ?_, List.mem_map.mpr ⟨a.length, List.mem_range.mpr (by rw [List.length_append]; omega), ?_⟩⟩
        · have p1 : (x :: (a ++ b)).Perm (x :: pre) := (List.perm_middle.symm.trans hl).trans (List.perm_append_singleton x pre)
          exact p1.cons_inv
        · unfold insAt
          rw [List.take_left, List.drop_left, List.append_assoc]
          rfl
    have := fold_perm ns (pre ++ [x]) (F.flatMap (insAll x)) step l
    rw [List.append_assoc] at this
    exact this
theorem allL_mem {ns l : List Int} : l ∈ allL ns ↔ l.Perm ns := by
  have := fold_perm ns [] [[]] (fun l => by rw [List.mem_singleton]; exact ⟨fun z => by rw [z], fun z => List.perm_nil.mp z⟩) l
  rw [List.nil_append] at this
  exact this
theorem flat_len_le {F : List (List Int)} {x : Int} {c : Nat} (h : ∀ l ∈ F, l.length + 1 ≤ c) : (F.flatMap (insAll x)).length ≤ F.length * c := by
  induction F with
  | nil => simp
  | cons l F ih =>
    rw [List.flatMap_cons, List.length_append, List.length_cons]
    have h1 : (insAll x l).length ≤ c := by
      unfold insAll
      rw [List.length_map, List.length_range]
      exact h l (List.mem_cons_self ..)
    have h2 := ih fun m hm => h m (List.mem_cons_of_mem _ hm)
    have e : (F.length + 1) * c = F.length * c + c := Nat.succ_mul ..
    omega
theorem allL_few {ns : List Int} (hn : ns.length ≤ 5) : ∀ i, i ≤ ns.length → (allL (ns.take i)).length ≤ 6 ^ i
  | 0, _ => by simp [allL]
  | i + 1, h => by
    rw [allL_take (by omega)]
    have ih := allL_few hn i (by omega)
    have b := flat_len_le (F := allL (ns.take i)) (x := ns[i]) (c := 6) fun l hl => by
      have := (allL_mem.mp hl).length_eq
      rw [List.length_take] at this
      omega
    have e : 6 ^ (i + 1) = 6 ^ i * 6 := Nat.pow_succ ..
    have : (allL (ns.take i)).length * 6 ≤ 6 ^ i * 6 := Nat.mul_le_mul_right 6 ih
    omega
theorem allL_bound {ns : List Int} (hn : ns.length ≤ 5) (i : Nat) (h : i ≤ ns.length) : (allL (ns.take i)).length ≤ 7776 := by
  have h1 := allL_few hn i h
  have h2 : 6 ^ i ≤ 6 ^ 5 := Nat.pow_le_pow_right (by decide) (by omega)
  exact Nat.le_trans h1 (Nat.le_trans h2 (by decide))
theorem flat_take {F : List (List Int)} {x : Int} {j : Nat} (h : j < F.length) : (F.take (j + 1)).flatMap (insAll x) = (F.take j).flatMap (insAll x) ++ insAll x F[j] := by
  rw [List.take_add_one, List.getElem?_eq_getElem h, List.flatMap_append]
  simp
end Lp
namespace Lp
open PySem PySem.Spec PyProof.Rows L2
/-! ### names in any order -/
def pickL {α : Type} (is : List Nat) (l : List α) : List α := is.filterMap fun i => l[i]?
theorem rel_pick (is : List Nat) {zs : List V} {ws : List Value} (r : Vals zs ws) : Vals (pickL is zs) (pickL is ws) := by
  induction is with
  | nil => exact .nil
  | cons i is ih =>
    unfold pickL at ih ⊢
    rw [List.filterMap_cons, List.filterMap_cons]
    cases hz : zs[i]? with
    | none =>
      have hw : ws[i]? = none := by
        rw [List.getElem?_eq_none_iff] at hz ⊢
        rw [← r.length]
        exact hz
      rw [hw]
      exact ih
    | some x =>
      obtain ⟨u, hu, ru⟩ := r.get hz
      rw [hu]
      exact .cons ru ih
/-! ### a < b < c <= d -/
def tChain3 (r r' r'' : R2) (ta tb tc td : TE) : TE := fun σ H Q => ta σ H fun x H1 => tb σ H1 fun y H2 => r x y H2 fun z H3 => ∃ k, z = .bl k ∧
  (if k = true then tc σ H3 fun y' H4 => r' y y' H4 fun z' H5 => ∃ k', z' = .bl k' ∧ (if k' = true then td σ H5 fun y'' H6 => r'' y' y'' H6 Q else Q (.bl false) H5) else Q (.bl false) H3)
theorem pe_chain3 {X : Cx} {a b c d : Expr} {ta tb tc td : TE} {pos : Pos} {o1 o2 o3 : CmpOp} {r r' r'' : R2} (h1 : OpR X (compareOp o1) r) (h2 : OpR X (compareOp o2) r') (h3 : OpR X (compareOp o3) r'') (pa : PE X a ta) (pb : PE X b tb) (pc : PE X c tc) (pd : PE X d td)
    (hm : lastMarks [o1, o2, o3] [b, c, d] = false := by with_unfolding_all rfl) : PE X (.Compare a [o1, o2, o3] [b, c, d] pos) (tChain3 r r' r'' ta tb tc td) := ⟨fun pins s σ H Q I h => by
  refine Compare_chain (thn (pa.run pins s σ H _ I h) fun v s1 w1 => ?_) hm
  obtain ⟨x, H1, I1, r1, q1⟩ := w1
  refine chain_link (thn (pb.run pins s1 σ H1 _ I1 q1) fun u s2 w2 => ?_)
  obtain ⟨y, H2, I2, r2, q2⟩ := w2
  refine thn (h1 pins s2 σ H2 x y v u _ I2 r1 r2 q2) fun e s3 w3 => ?_
  obtain ⟨z, H3, I3, r3, k, ek, q3⟩ := w3
  subst ek
  cases r3
  refine wpAny_truthy_bool ?_
  cases k with
  | false => exact ite_ff ⟨.bl false, H3, I3, rfl, q3⟩
  | true =>
    refine ite_tt (chain_link (thn (pc.run pins s3 σ H3 _ I3 q3) fun u2 s4 w4 => ?_))
    obtain ⟨y2, H4, I4, r4, q4⟩ := w4
    refine thn (h2 pins s4 σ H4 y y2 u u2 _ I4 r2 r4 q4) fun e2 s5 w5 => ?_
    obtain ⟨z2, H5, I5, r5, k2, ek2, q5⟩ := w5
    subst ek2
    cases r5
    refine wpAny_truthy_bool ?_
    cases k2 with
    | false => exact ite_ff ⟨.bl false, H5, I5, rfl, q5⟩
    | true =>
      refine ite_tt (chain_last (thn (pd.run pins s5 σ H5 _ I5 q5) fun u3 s6 w6 => ?_))
      obtain ⟨y3, H6, I6, r6, q6⟩ := w6
      exact h3 pins s6 σ H6 y2 y3 u2 u3 Q I6 r4 r6 q6⟩
/-! ### powers and lowest terms -/
theorem pow_lt {x k m : Nat} (hx : x < 1024) (hk : k ≤ m) : x ^ k < 2 ^ (10 * m + 1) := by
  have h1 : x ^ k ≤ 1024 ^ k := Nat.pow_le_pow_left (by omega) k
  have h2 : (1024 : Nat) ^ k ≤ 1024 ^ m := Nat.pow_le_pow_right (by decide) hk
  have h3 : (1024 : Nat) ^ m = 2 ^ (10 * m) := by
    rw [show (1024 : Nat) = 2 ^ 10 by decide, ← Nat.pow_mul]
  have h4 : (2 : Nat) ^ (10 * m) < 2 ^ (10 * m + 1) := Nat.pow_lt_pow_right (by decide) (by omega)
  omega
theorem log_lt {n m : Nat} (h : n < 2 ^ m) (hm : 0 < m) : n.log2 < m := by
  by_cases h0 : n = 0
  · subst h0
    exact Nat.lt_of_le_of_lt (by decide) hm
  · exact (Nat.log2_lt h0).mpr h
theorem lowest {t w : Nat} (h : Nat.gcd t w = 1) (lt : t < w) (a b n : Nat) : Nat.gcd (t ^ a * (w - t) ^ b) (w ^ n) = 1 := by
  have c1 : Nat.Coprime t w := h
  have c2 : Nat.Coprime (w - t) w := by
    have d1 := Nat.gcd_dvd_left (w - t) w
    have d2 := Nat.gcd_dvd_right (w - t) w
    have d3 : Nat.gcd (w - t) w ∣ t := by
      have := Nat.dvd_sub d2 d1
      rw [show w - (w - t) = t by omega] at this
      exact this
    have d4 := Nat.dvd_gcd d3 d2
    rw [h] at d4
    exact Nat.eq_one_of_dvd_one d4
  exact (Nat.Coprime.pow a n c1).mul_left (Nat.Coprime.pow b n c2)
/-! ### tuples that stand in the heap: parts and sums stand there too -/
def rCatC : R2 := fun x y H Q => ∃ a b xs ys, x = .ref a ∧ y = .ref b ∧ H a = some (.tup xs) ∧ H b = some (.tup ys) ∧ xs.length + ys.length ≤ sizeLine ∧
  ∀ (p : Addr) (G : Hp), Same H G → G p = some (.tup (xs ++ ys)) → Q (.ref p) G
theorem op_catC {X : Cx} : OpR X (binaryOp .Add) rCatC := by
  intro pins s σ H x y v u Q I rx ry h
  obtain ⟨a, b, xs, ys, rfl, rfl, ha, hb, hz, q⟩ := h
  refine op_catA pins s σ H _ _ v u Q I rx ry ⟨a, b, xs, ys, rfl, rfl, .inl (.inl ha), .inl (.inl hb), hz, fun e => ?_, fun _ e => ?_, fun _ _ p np => ?_⟩
  · subst e
    exact q b H (Same.refl H) hb
  · subst e
    refine q a H (Same.refl H) ?_
    rw [List.append_nil]
    exact ha
  · exact q p _ (same_upd np) upd_same
def rSlC : V → Option Int → Option Int → Hp → VK → Prop := fun x lo hi H Q => ∃ a xs, x = .ref a ∧ H a = some (.tup xs) ∧ ∀ (p : Addr) (G : Hp), Same H G → G p = some (.tup (cutV xs lo hi)) → Q (.ref p) G
theorem sl_tupC {X : Cx} : SlR X rSlC := by
  intro pins s σ H x v vl vu lo hi sl Q I rx hs pl pu h
  obtain ⟨a, xs, rfl, ha, q⟩ := h
  refine sl_tupA pins s σ H _ v vl vu lo hi sl Q I rx hs pl pu ⟨a, xs, rfl, .inl (.inl ha), fun z => ?_, fun _ p np => ?_⟩
  · refine q a H (Same.refl H) ?_
    rw [cut_whole z]
    exact ha
  · exact q p _ (same_upd np) upd_same
end Lp
namespace Lp
open PySem PySem.Spec PyProof.Rows L2
open Builtin Builtin.Str Builtin.Int in
/-- sep.join of an iterator that goes backwards over a list of texts -/
theorem joinBack {prog : Program} {w : World} {A : Around} {E : Value → Shared → Prop} {s : Shared} {sep : Str} {t : Tok} {Q : Value → Shared → Prop} {it l : Addr} {vs : Array Value} (calm : A.handled = none)
    (h1 : s.heap.IsRevIter it l ((vs.size : Int) - 1)) (h2 : s.heap.IsList l vs) (ne : l ≠ it) (fits : vs.size ≤ sizeLine) (texts : ∀ v ∈ vs, ∃ y u, v = Value.str y u)
    (post : ∀ (g : Heap) (k : Nat) (ts : List (Str × Tok)), (∀ b o, b ≠ it → s.heap.get? b = some o → g.get? b = some o) → strValues ts = vs.toList.reverse →
      JoinOk sep (ts.map (·.1)) = true ∧ ∀ t2 k2, Q (.str (Txt.join sep (ts.map (·.1))) t2) { s with heap := g, toks := k2 }) :
    wpAny (model prog w) A (call (.builtin "str.join") [.str sep t, .ref it]) Q E s := by
  apply wpAny_call
  apply codeAny_call_builtin F.slot_str_join.plain F.entry_str_join
  apply F.slot_str_join.check _ _ _ _ _ _ _ _ (typeIs_str _ _ _) (F.args_str_join_2 _ _)
  rw [join_tree_other sep t it]
  apply wpAny_bind
  apply wpAny_typeOf h1.typeIs
  show wpAny _ A.in1 ((pyIter (.ref it)).tryCatch _ >>= fun z => collect z >>= fun us => joinTail sep us) _ _ s
  apply wpAny_bind
  apply wpAny_tryCatch
  apply wpAny_pyIter_revIter h1
  apply wpAny_bind
  apply RT.collect_rev (A := A.in1) calm h1 h2 ne fits
  intro g k acc keep got
  have back : acc.toList = vs.toList.reverse := by
    apply List.ext_getElem?
    intro j
    by_cases hj : j < vs.size
    · have ja : j < acc.size := by rw [got.1]; exact hj
      have e1 : acc[j]? = some acc[j] := Array.getElem?_eq_getElem ja
      have e2 := got.2 j _ e1
      rw [Array.getElem?_toList, e1, List.getElem?_reverse (by rw [Array.length_toList]; exact hj), Array.length_toList, Array.getElem?_toList, e2]
    · rw [List.getElem?_eq_none (by rw [Array.length_toList, got.1]; omega), List.getElem?_eq_none (by rw [List.length_reverse, Array.length_toList]; omega)]
  obtain ⟨ts, hts⟩ := exists_strValues acc.toList fun v hv => by
    rw [back] at hv
    exact texts v (by simpa using hv)
  rw [← hts]
  obtain ⟨ok, fin⟩ := post g k ts keep (hts.trans back)
  have ok2 := ok
  unfold JoinOk at ok2
  rw [Bool.not_eq_true'] at ok2
  have gv2 : Gives (joinTail sep (strValues ts)) (joinMade sep ts) := by
    clear fin ok post hts
    have gv := gives_joinTail sep ts ok2
    cases ts with
    | nil => exact gv
    | cons p r =>
      cases r with
      | nil => exact gv
      | cons p2 r2 => exact gv
  exact gv2 prog w A (wants Q E) { s with heap := g, toks := k } (post_join ts ⟨joinFit_length ok2, fin⟩)
/-- sep.join(reversed(xs)), xs a list of texts -/
def tJoinBack (K : PySem.W.Frag) (to te : TE) : TE := fun σ H Q => to σ H fun v H1 => ∃ sep : Str, v = .str sep ∧ te σ H1 fun u H2 => ∃ (a : Addr) (ws : List Str), u = .ref a ∧ SqL K H2 a (ws.map V.str) ∧ JoinOk sep ws.reverse = true ∧ Q (.str (Txt.join sep ws.reverse)) H2
section
variable {X : Cx} {o e : Expr} {to te : TE} {p pos apos cpos : Pos}
theorem pe_joinBack (calm : X.calm = true) (hg : Gl X "reversed") (hm : X.mg "reversed" = none) (ho : PE X o to) (he : PE X e te)
    (hbase : attributeBase o "join" X.env (eval o X.env) = eval o X.env := by rfl)
    (few : ((backTo cpos (starEach [.Call (.Name "reversed" p) [e] [] pos] X.env)).all (fun x => !x.1) && (backToKw cpos (keywordEach [] X.env)).all (fun x => x.1.isSome) && decide (([.Call (.Name "reversed" p) [e] [] pos] : List Expr).length + ([] : List Keyword).length + (if ([] : List Keyword).isEmpty then 0 else 1) < 30)) = true := by rfl)
    (line : (apos.endLine == cpos.line) = true := by rfl) (s1 : starEach [e] X.env = (false, eval e X.env) :: starEach [] X.env := by rfl)
    (s2 : starEach [.Call (.Name "reversed" p) [e] [] pos] X.env = (false, eval (.Call (.Name "reversed" p) [e] [] pos) X.env) :: starEach [] X.env := by rfl)
    (plain : (backTo cpos (starEach [] X.env)).any (·.1) = false := by rfl) :
    PE X (.Call (.Attribute o "join" apos) [.Call (.Name "reversed" p) [e] [] pos] [] cpos) (tJoinBack X.K to te) := ⟨fun pins s σ H Q I h => by
  refine wpAny_Call_method_late hbase few line rfl (thn (ho.run pins s σ H _ I h) fun v s1' y => ?_)
  obtain ⟨x, H1, J1, rx, sep, rfl, q1⟩ := y
  obtain ⟨tk, rfl⟩ : ∃ t, v = Value.str sep t := rx
  refine ⟨"str", _, PySem.F.plainAttrs_str, PySem.F.slot_str_join, PySem.F.type_str_join, typeIs_str _ _ _, fun _ z => (nomatch z), ?_⟩
  rw [s2]
  refine Calls.callWith_builtin (by show (false || (backTo cpos (starEach [] X.env)).any (·.1)) = false; rw [plain]; rfl) (Calls.evalArgs_plain ?_)
  show wpAny _ _ (spliced ((false, eval (.Call (.Name "reversed" p) [e] [] pos) X.env) :: backTo cpos (starEach [] X.env))) _ _ s1'
  refine Calls.spliced_cons (Call_ (ld_blt J1 hg hm PyProof.Rows.boot_reversed (PyProof.Rows.callWith_type1 (args_cons (thn (he.run pins s1' σ H1 _ J1 q1) fun u s2' y2 => args_nil ?_) s1) s1 rfl)))
  obtain ⟨z, H2, J2, rz, a, ws, rfl, hq, jok, fin⟩ := y2
  obtain rfl : u = Value.ref a := rz
  obtain ⟨its, rv, pl, hz⟩ := J2.list hq
  refine call_reversed_list pl.isList ?_
  have keep0 : ∀ b o2, s2'.heap.get? b = some o2 → (s2'.heap.push (revObj a ((its.toArray.size : Int) - 1))).get? b = some o2 := fun b o2 z => Heap.get?_push_of_some _ z
  have J3 : Inv X pins σ H2 { s2' with heap := s2'.heap.push (revObj a ((its.toArray.size : Int) - 1)) } := J2.kept (t' := s2'.toks) keep0
  obtain ⟨f0, f1, f2, f3, f4, f5⟩ := J2.fpOk (H' := H2) (b := s2'.heap.objs.size) (Nat.le_refl _) (J2.hok.fresh (Nat.le_refl _))
  have hl := pl.isList
  obtain ⟨ol, hol, _⟩ := id hl
  have ne : a ≠ s2'.heap.objs.size := Nat.ne_of_lt (Heap.lt_size hol)
  have fits : its.toArray.size ≤ sizeLine := by rw [List.size_toArray, ← rv.length]; exact hz
  have il := rv.length
  rw [List.length_map] at il
  refine Calls.spliced_nil (joinBack (s := { s2' with heap := s2'.heap.push (revObj a ((its.toArray.size : Int) - 1)) }) (J2.ok.hd calm) ⟨_, Heap.get?_push_size _ rfl, rfl, rfl⟩ (hl.push _) ne fits (fun v hv => ?_) fun g k ts keep hts => ?_)
  · obtain ⟨i, hi, rfl⟩ := Array.mem_iff_getElem.mp hv
    have hi2 : i < ws.length := by
      rw [List.size_toArray] at hi
      omega
    obtain ⟨w, hw, t2, ew⟩ := rv.get (i := i) (x := .str ws[i]) (by rw [List.getElem?_map, List.getElem?_eq_getElem hi2]; rfl)
    refine ⟨ws[i], t2, ?_⟩
    rw [← ew]
    have := (List.getElem?_eq_some_iff.mp hw).2
    rw [← this]
    simp
  · have et : ts.map (·.1) = ws.reverse := by
      have e1 : ts.length = ws.length := by
        have := congrArg List.length hts
        unfold strValues at this
        rw [List.length_map, List.length_reverse] at this
        rw [this, il]
      refine List.ext_getElem? fun j => ?_
      by_cases hj : j < ws.length
      · have hj2 : j < ts.length := by omega
        have hr : ws.length - 1 - j < ws.length := by omega
        rw [List.getElem?_map, List.getElem?_eq_getElem hj2, List.getElem?_reverse hj, List.getElem?_eq_getElem hr]
        have h4 : (strValues ts)[j]? = its.reverse[j]? := by rw [hts]
        unfold strValues at h4
        rw [List.getElem?_map, List.getElem?_eq_getElem hj2, List.getElem?_reverse (by omega), ← il] at h4
        obtain ⟨w, hw, t2, ew⟩ := rv.get (i := ws.length - 1 - j) (x := .str ws[ws.length - 1 - j]) (by rw [List.getElem?_map, List.getElem?_eq_getElem hr]; rfl)
        rw [hw, ew] at h4
        have h5 := Option.some.inj h4
        have h6 : ts[j].1 = ws[ws.length - 1 - j] := (Value.str.inj h5).1
        show some ts[j].1 = some _
        rw [h6]
      · rw [List.getElem?_eq_none (by rw [List.length_map]; omega), List.getElem?_eq_none (by rw [List.length_reverse]; omega)]
    rw [et]
    refine ⟨jok, fun t2 k2 => ?_⟩
    have J4 : Inv X pins σ H2 { s2' with heap := g, toks := k2 } := J3.turned (t' := k2) (fun b o2 hb z => keep b o2 hb z) f0 f1 f3 f4 f5
    exact ⟨.str _, H2, J4, ⟨_, rfl⟩, fin⟩⟩
end
end Lp
namespace Lp
open PySem PySem.Spec PyProof.Rows L2
/-! ### defs with parameters behind a star that have defaults -/
abbrev FnK (K : PySem.W.Frag) (x : Str) (st : Stmt) (kws : List (Str × V)) (f : Addr) (fd : FuncData) : Prop := FunD K x x (defArgs st) (defBody st) (defScope st) [] kws f fd
structure DfK (K : PySem.W.Frag) (mg : Str → Option Value) (x : Str) (st : Stmt) (kws : List (Str × V)) : Prop where
  ex : ∃ f fd, FnK K x st kws f fd ∧ mg x = some (.ref f)
structure ClK (P : Program) (w : World) (K : PySem.W.Frag) (mg : Str → Option Value) (base : Heap) (k : Nat) (x : Str) (st : Stmt) (ps : List Str) (kws : List (Str × V)) (sp : Sp) : Prop where
  ex : ∃ f fd, FnK K x st kws f fd ∧ FnOk P w K mg base CX0 k f fd ps sp ∧ mg x = some (.ref f) ∧ ∃ ds, Vals (kws.map (·.2)) ds ∧ Binds K fd ps ds
section
variable {P : Program} {w : World} {K : PySem.W.Frag} {mg : Str → Option Value} {base : Heap} {x : Str} {st : Stmt} {N ps : List Str} {k : Nat} {sp : Sp} {kws : List (Str × V)}
theorem DfK.ok (D : DfK K mg x st kws) (S : FnScope N ps (defScope st)) (n : Nat) (hk : kws ≠ []) (hn : n + kws.length = ps.length)
    (bd : ∀ (D : Addr) (doc pm : Value) (an : Option Addr) (cdv ct : Value) (us ks : List Value), us.length = n → ks.length = kws.length →
      KwChain D ((kws.map (·.1)).zip ks) (bindArgs (PySem.W.fnOf x x (defArgs st) (defBody st) (defScope st) .none (.ref D) doc pm an cdv ct) ⟨us, []⟩) (ps.zip (us ++ ks)))
    (len : ∀ vs H Q E, sp vs H Q E → vs.length = ps.length)
    (body : ∀ (f : Addr) (cdv : Value) (A : Around) (outer : List Env) (s : Shared) (H : Hp) (vs : List V) (Q : VK) (E : XK), Room k (A.deeper (envOfC x (defScope st) s.heap.objs.size f cdv)) → sp vs H Q E →
      ∃ t, PSs (cxOf CX0 P w K mg base N x (defScope st) f cdv A outer s H E).nox (defBody st) t ∧ t { nx := fun _ H' => Q .non H', rt := Q } (start N vs) H) : ClK P w K mg base (k + 1) x st ps kws sp := by
  obtain ⟨f, fd, F, hm⟩ := D.ex
  refine ⟨f, fd, F, F.ok S len fun cdv A outer s H vs Q E hr h => ?_, hm, F.binds0 n hk hn bd⟩
  obtain ⟨t, ht, hg⟩ := body f cdv A outer s H vs Q E hr h
  exact ⟨t, ht.nox, hg⟩
end
section
variable {X : Cx} {x : Str} {st : Stmt} {ps : List Str} {j k : Nat} {sp : Sp} {e : Expr} {es : List Expr} {t : TA} {p pos : Pos} {kws : List (Str × V)}
/-- f(e, ..), the others by their defaults -/
theorem pe_ud (c : ClK X.prog X.w X.K X.mg X.base k x st ps kws sp) (hr : Room j X.A) (hk : k ≤ j) (hg : Gl X x) (ha : PA X (e :: es) t)
    (hdb : (x == ("__debug__" : Str)) = false := by decide) (he : starEach (e :: es) X.env = (false, eval e X.env) :: starEach es X.env := by rfl) (hpl : (backTo pos (starEach es X.env)).any (·.1) = false := by rfl) :
    PE X (.Call (.Name x p) (e :: es) [] pos) (tCall sp (kws.map (·.2)) E0 t) := by
  obtain ⟨f, fd, F, G, hm, ds, rv, b⟩ := c.ex
  exact pe_call G (hr.mono hk) hg hm F.kp b rv pass0 ha hdb he hpl
end
/-! ### {key: value} with a tuple as its key -/
def tDisp1 (tk tv : TE) : TE := fun σ H Q => ∀ p, H p = none → tk σ (upd H p (.dT [])) fun kx H1 => tv σ H1 fun vx H2 => H2 p = some (.dT []) ∧ ∃ (b : Addr) (key : List L2.Key), kx = .ref b ∧ H2 b = some (.tup (key.map L2.kV)) ∧ Q (.ref p) (upd H2 p (.dT [(key, vx)]))
theorem pe_disp1 {X : Cx} {k v : Expr} {pos : Pos} {tk tv : TE} (hu : X.A.units + 1 < cLine) (hk : PE X k tk) (hv : PE X v tv) : PE X (.Dict [some k] [v] pos) (tDisp1 tk tv) := ⟨fun pins s σ H Q I q => by
  have new := I.hok.fresh (Nat.le_refl s.heap.objs.size)
  have J := I.laid (a := s.heap.objs.size) (o := .dT []) (h' := s.heap.push { cls := .type "dict", data := .dict #[] }) (t' := s.toks) (fun _ _ z => Heap.get?_push_of_some _ z) (Nat.le_refl _) (dt_empty s.heap I.big)
  refine wpAny_Dict_any rfl rfl (by simp) (show 1 ≤ 15 by decide) (pairTrees_cons_walk (thn (hk.run pins _ σ _ _ J (q _ new)) fun kv s1 y1 => ?_))
  obtain ⟨kx, H1, J1, rk, q1⟩ := y1
  refine thn (hv.run pins s1 σ H1 _ J1 q1) fun vv s2 y2 => ?_
  obtain ⟨vx, H2, J2, rv, e, b, key, rfl, hb, fin⟩ := y2
  obtain rfl : kv = Value.ref b := rk
  refine pairTrees_nil_walk ?_
  obtain ⟨z, hd, xs, rel, dd⟩ := dt_of J2.hok e
  have hx : xs = [] := List.length_eq_zero_iff.mp (by rw [← Paired.length rel]; rfl)
  subst hx
  unfold storeAll
  simp only [List.forIn_cons, List.forIn_nil]
  refine wpAny_bind (wpAny_bind (wpAny_dictSet_heap (hsz := by simp) (show X.A.units < cLine by omega) (key_of J2.hok hb) dd fun h' dd' hs => wpAny_pure (wpAny_pure ?_)))
  obtain ⟨q', es, ep, hq, h2, h3, h4, _, h5⟩ := dd'
  refine ⟨.ref s.heap.objs.size, upd H2 s.heap.objs.size (.dT [(key, vx)]), d_write J2 (by rw [e]; exact True.intro) hs ⟨q', hq⟩ ⟨show 1 ≤ sizeLine by decide, hd, _, (rel.put key hb rv).keeps fun c ys ec => ?_, q', es, ep, hq, h2, h3, h4, h5⟩, rfl, fin⟩
  rw [upd_ne (ne_of ec e (fun z => nomatch z))]
  exact ec⟩
end Lp
namespace Lp
open PySem PySem.Spec PyProof.Rows L2
/-! ### the rows that can be reached: mathematics -/
structure ReachI (ns : List Int) (i : Nat) (ls ms : List (List Int)) : Prop where
  sub : ∀ l ∈ ls, l ∈ ms
  frm : ∀ m ∈ ms, ∃ w : List Bool, w.length ≤ i ∧ afterL w ns = m
  all : ∀ w : List Bool, w.length ≤ i → afterL w ns ∈ ms
  cl : ∀ m ∈ ms, m ∈ ls ∨ ∀ b, passL b m ∈ ms
  nl : ls.length ≤ 2 ^ i
  nm : ms.length + 1 ≤ 2 ^ (i + 1)
structure ReachJ (ls ms fs : List (List Int)) (k : Nat) : Prop where
  src : ∀ f ∈ fs, ∃ l ∈ ls, ∃ b, f = passL b l
  done : ∀ (x : Nat) (b : Bool), 2 * x + b.toNat < k → ∀ l, ls[x]? = some l → passL b l ∈ ms ++ fs
  cnt : fs.length ≤ k
theorem after_snoc (w : List Bool) (b : Bool) (ns : List Int) : afterL (w ++ [b]) ns = passL b (afterL w ns) := by
  rw [afterL_app]
  rfl
theorem reachI_zero {ns : List Int} : ReachI ns 0 [ns] [ns] where
  sub := fun l h => h
  frm := fun m h => ⟨[], Nat.le_refl _, (List.mem_singleton.mp h).symm⟩
  all := fun w h => by
    rw [List.length_eq_zero_iff.mp (Nat.le_zero.mp h)]
    exact List.mem_singleton.mpr rfl
  cl := fun m h => .inl h
  nl := Nat.le_refl 1
  nm := Nat.le_refl 2
theorem reachJ_zero {ls ms : List (List Int)} : ReachJ ls ms [] 0 where
  src := fun f h => nomatch h
  done := fun x b h => absurd h (Nat.not_lt_zero _)
  cnt := Nat.le_refl _
theorem two_split {x j : Nat} {a b : Bool} (h : 2 * x + a.toNat < 2 * j + b.toNat + 1) : 2 * x + a.toNat < 2 * j + b.toNat ∨ (x = j ∧ a = b) := by
  cases a <;> cases b <;> simp at h ⊢ <;> omega
theorem ReachJ.old {ls ms fs : List (List Int)} {j : Nat} {b : Bool} (r : ReachJ ls ms fs (2 * j + b.toNat)) {l : List Int} (hl : ls[j]? = some l) (h : passL b l ∈ ms ++ fs) : ReachJ ls ms fs (2 * j + b.toNat + 1) where
  src := r.src
  done := fun x a hx l2 h2 => by
    rcases two_split hx with z | ⟨rfl, rfl⟩
    · exact r.done x a z l2 h2
    · rw [hl] at h2
      cases h2
      exact h
  cnt := Nat.le_succ_of_le r.cnt
theorem ReachJ.new {ls ms fs : List (List Int)} {j : Nat} {b : Bool} (r : ReachJ ls ms fs (2 * j + b.toNat)) {l : List Int} (hl : ls[j]? = some l) : ReachJ ls ms (fs ++ [passL b l]) (2 * j + b.toNat + 1) where
  src := fun f hf => by
    rcases List.mem_append.mp hf with z | z
    · exact r.src f z
    · rw [List.mem_singleton.mp z]
      exact ⟨l, List.mem_of_getElem? hl, b, rfl⟩
  done := fun x a hx l2 h2 => by
    rw [← List.append_assoc]
    rcases two_split hx with z | ⟨rfl, rfl⟩
    · exact List.mem_append_left _ (r.done x a z l2 h2)
    · rw [hl] at h2
      cases h2
      exact List.mem_append_right _ (List.mem_singleton.mpr rfl)
  cnt := by
    rw [List.length_append, List.length_singleton]
    exact Nat.succ_le_succ r.cnt
theorem ReachI.next {ns : List Int} {i : Nat} {ls ms fs : List (List Int)} (r : ReachI ns i ls ms) (t : ReachJ ls ms fs (2 * ls.length)) : ReachI ns (i + 1) fs (ms ++ fs) where
  sub := fun l h => List.mem_append_right _ h
  frm := fun m h => by
    rcases List.mem_append.mp h with z | z
    · obtain ⟨w, hw, e⟩ := r.frm m z
      exact ⟨w, by omega, e⟩
    · obtain ⟨l, hl, b, rfl⟩ := t.src m z
      obtain ⟨w, hw, e⟩ := r.frm l (r.sub l hl)
      exact ⟨w ++ [b], by rw [List.length_append, List.length_singleton]; omega, by rw [after_snoc, e]⟩
  all := fun w hw => by
    by_cases h : w.length ≤ i
    · exact List.mem_append_left _ (r.all w h)
    · obtain ⟨u, b, rfl⟩ := snoc_of (show 1 ≤ w.length by omega)
      rw [List.length_append, List.length_singleton] at hw
      rw [after_snoc]
      rcases r.cl _ (r.all u (by omega)) with z | z
      · obtain ⟨x, hx⟩ := List.mem_iff_getElem?.mp z
        have lt := (List.getElem?_eq_some_iff.mp hx).1
        exact t.done x b (by have := Bool.toNat_lt b; omega) _ hx
      · exact List.mem_append_left _ (z b)
  cl := fun m h => by
    rcases List.mem_append.mp h with z | z
    · rcases r.cl m z with y | y
      · obtain ⟨x, hx⟩ := List.mem_iff_getElem?.mp y
        have lt := (List.getElem?_eq_some_iff.mp hx).1
        exact .inr fun b => t.done x b (by have := Bool.toNat_lt b; omega) _ hx
      · exact .inr fun b => List.mem_append_left _ (y b)
    · exact .inl z
  nl := by
    have := t.cnt
    have := r.nl
    rw [Nat.pow_succ]
    omega
  nm := by
    have := t.cnt
    have := r.nl
    have := r.nm
    rw [List.length_append, Nat.pow_succ, Nat.pow_succ] at *
    omega
/-! ### its dict -/
abbrev kyI (l : List Int) : List L2.Key := l.map Sum.inl
theorem kyI_V (l : List Int) : (kyI l).map L2.kV = l.map V.int := by
  rw [List.map_map]
  rfl
theorem kyI_inj {a b : List Int} (h : kyI a = kyI b) : a = b := (List.map_inj_right fun x y z => Sum.inl.inj z).mp h
abbrev kvI (ms : List (List Int)) : List (List L2.Key × V) := ms.map fun m => (kyI m, V.bl true)
theorem kvI_has (ms : List (List Int)) (m : List Int) : (valV (kvI ms) (kyI m)).isSome = decide (m ∈ ms) := by
  rw [← valV_any, Bool.eq_iff_iff, List.any_eq_true, decide_eq_true_iff]
  constructor
  · rintro ⟨p, hp, e⟩
    obtain ⟨x, hx, rfl⟩ := List.mem_map.mp hp
    rw [← kyI_inj (of_decide_eq_true e)]
    exact hx
  · intro h
    exact ⟨(kyI m, V.bl true), List.mem_map.mpr ⟨m, h, rfl⟩, decide_eq_true rfl⟩
theorem kvI_keys {H : Hp} : ∀ {ms : List (List Int)} {bs : List Addr}, IsKeys H (kvI ms) bs → Each (fun b m => H b = some (.tup (m.map V.int))) bs ms
  | [], _, .nil => trivial
  | _ :: _, _, .cons h t => ⟨h.trans (by show some (HO.tup ((kyI _).map L2.kV)) = _; rw [kyI_V]), kvI_keys t⟩
theorem perm_map_of {α β : Type} {f : α → β} {ys zs : List β} (p : ys.Perm zs) : ∀ l : List α, zs = l.map f → ∃ us : List α, ys = us.map f ∧ us.Perm l := by
  induction p with
  | nil =>
    intro l e
    exact ⟨[], rfl, by rw [List.map_eq_nil_iff.mp e.symm]⟩
  | cons x _ ih =>
    intro l e
    match l, e with
    | a :: l, e =>
      obtain ⟨e1, e2⟩ := List.cons.inj e
      obtain ⟨us, h1, h2⟩ := ih l e2
      exact ⟨a :: us, by rw [List.map_cons, h1, e1], .cons a h2⟩
  | swap x y l0 =>
    intro l e
    match l, e with
    | a :: b :: l, e =>
      obtain ⟨e1, e2⟩ := List.cons.inj e
      obtain ⟨e3, e4⟩ := List.cons.inj e2
      exact ⟨b :: a :: l, by rw [List.map_cons, List.map_cons, e1, e3, e4], .swap ..⟩
  | trans _ _ ih1 ih2 =>
    intro l e
    obtain ⟨vs, h1, h2⟩ := ih2 l e
    obtain ⟨us, h3, h4⟩ := ih1 vs h1
    exact ⟨us, h3, h4.trans h2⟩
theorem each_perm {β : Type} {R : Addr → β → Prop} {rs bs : List Addr} (p : rs.Perm bs) : ∀ ms : List β, Each R bs ms → ∃ ks : List β, ks.Perm ms ∧ Each R rs ks := by
  induction p with
  | nil => exact fun ms h => ⟨ms, .refl _, h⟩
  | cons x _ ih =>
    intro ms h
    match ms, h with
    | m :: ms, ⟨h1, h2⟩ =>
      obtain ⟨ks, k1, k2⟩ := ih ms h2
      exact ⟨m :: ks, .cons m k1, h1, k2⟩
  | swap x y l =>
    intro ms h
    match ms, h with
    | m :: n :: ms, ⟨h1, h2, h3⟩ => exact ⟨n :: m :: ms, .swap .., h2, h1, h3⟩
  | trans _ _ ih1 ih2 =>
    intro ms h
    obtain ⟨ks, k1, k2⟩ := ih2 ms h
    obtain ⟨js, j1, j2⟩ := ih1 ks k2
    exact ⟨js, j1.trans k1, j2⟩
theorem each_mem {β : Type} {R : Addr → β → Prop} : ∀ {rs : List Addr} {ms : List β} {r : Addr}, Each R rs ms → r ∈ rs → ∃ m ∈ ms, R r m
  | _ :: _, _ :: _, _, ⟨h1, h2⟩, h => by
    rcases List.mem_cons.mp h with rfl | z
    · exact ⟨_, List.mem_cons_self .., h1⟩
    · obtain ⟨m, a, b⟩ := each_mem h2 z
      exact ⟨m, List.mem_cons_of_mem _ a, b⟩
end Lp
namespace Lp
open PySem PySem.Spec PyProof.Rows L2
/-! ### x in t, t a tuple of rows -/
section
variable {X : Cx}
abbrev dRow (m : List Int) : PyData := .tuple (m.map PyData.int)
def rInRows (K : PySem.W.Frag) : R2 := fun x y H Q => ∃ (m : List Int) (ms : List (List Int)), Dp K H x (dRow m) ∧ Dp K H y (.tuple (ms.map dRow)) ∧ Q (.bl (decide (m ∈ ms))) H
theorem rows_lay : ∀ ms : List (List Int), PyData.canLayAll0 (ms.map dRow) = true
  | [] => by simp only [List.map_nil, PyData.canLayAll0]
  | m :: ms => by simp only [List.map_cons, PyData.canLayAll0, PyData.canLay0, lay_ints, rows_lay ms, Bool.and_self]
theorem rows_any (m : List Int) (ms : List (List Int)) : ((ms.map dRow).any fun z => PyData.eqv z (dRow m)) = decide (m ∈ ms) := by
  rw [List.any_map, Bool.eq_iff_iff, List.any_eq_true, decide_eq_true_iff]
  constructor
  · rintro ⟨k, hk, e⟩
    have e2 : decide (k = m) = true := by rw [← eqv_rows]; exact e
    exact of_decide_eq_true e2 ▸ hk
  · intro h
    exact ⟨m, h, (eqv_rows m m).trans (decide_eq_true rfl)⟩
theorem op_inRows (hu : X.A.units + 65 < cLine) : OpR X (compareOp .In) (rInRows X.K) := fun pins s σ H x y v u Q I rx ry h => by
  obtain ⟨m, ms, dx, dy, fin⟩ := h
  have sm := shaped_row m
  obtain ⟨one, here⟩ := Dp.reads I _ x v dx rx
  obtain ⟨all, there⟩ := Dp.reads I _ y u dy ry
  refine SeqAt.in_tuple_reads there here (by simp only [PyData.canLay0, rows_lay]) (SeqAt.canLay_of_shaped sm) (room_in_shaped sm hu) ⟨.bl _, H, I, rfl, ?_⟩
  rw [rows_any]
  exact fin
end
theorem Dp_rowsAt {K : PySem.W.Frag} {H : Hp} : ∀ {rs : List Addr} {ms : List (List Int)}, Each (fun r m => H r = some (.tup (m.map V.int))) rs ms → DpAll K H (rs.map V.ref) (ms.map dRow)
  | [], [], _ => .nil
  | _ :: _, _ :: _, h => .cons (Dp_row (.inl (.inl h.1))) (Dp_rowsAt h.2)
theorem Dp_table {K : PySem.W.Frag} {H : Hp} {p : Addr} {rs : List Addr} {ms : List (List Int)} (h : H p = some (.tup (rs.map V.ref))) (e : Each (fun r m => H r = some (.tup (m.map V.int))) rs ms) : Dp K H (.ref p) (.tuple (ms.map dRow)) := .tup (.inl (.inl h)) (Dp_rowsAt e)
/-! ### a text ends with a text -/
theorem ends_wd (v u : List Bool) : Txt.endswith (wd (v ++ u)) (wd u) = true := by
  have e : (wd (v ++ u)).cps = (wd v).cps ++ (wd u).cps := by rw [← wd_app]; rfl
  have l1 : (wd (v ++ u)).length = (wd v).cps.size + (wd u).cps.size := by
    show (wd (v ++ u)).cps.size = _
    rw [e, Array.size_append]
  have l2 : (wd u).length = (wd u).cps.size := rfl
  unfold Txt.endswith Builtin.Str.subAt
  rw [l1, l2, e, Bool.and_eq_true, Nat.add_sub_cancel]
  refine ⟨decide_eq_true (by omega), ?_⟩
  simp [Array.extract_append]
/-! ### the head's fact of a def with defaults behind a star -/
def mkDK (x : Str) (st : Stmt) (kd : List (Str × He.Dv)) : He.DefD := ⟨(x, none), x, x, defArgs st, defBody st, defScope st, [], kd⟩
theorem DfK.of {K : PySem.W.Frag} {mg : Str → Option Value} {h : Heap} {fa : List He.Fa} {fn : List He.DefD} {x : Str} {st : Stmt} {kd : List (Str × He.Dv)} (X : K.In h) (G : h.Ns mainGlobals mg) (c : He.SaysD fa fn K) (i : Nat) (hi : fn[i]? = some (mkDK x st kd)) (hj : fa[i]? = some (.glo x)) : DfK K mg x st (kd.map fun p => (p.1, He.Dv.v K p.2)) := by
  obtain ⟨fd, F⟩ := c.def_ i hi
  exact ⟨_, fd, F, He.glo_ok X G (c.fact i hj)⟩
end Lp
namespace Lp
open PySem PySem.Spec PyProof.Rows L2
/-! ### f(e, .., k = v, ..): all parameters behind the star are given -/
section
variable {X : Cx} {x : Str} {st : Stmt} {ps ks : List Str} {j k n : Nat} {sp : Sp} {e : Expr} {es : List Expr} {t tk : TA} {p pos : Pos} {kws : List (Str × V)} {ky : List Keyword}
theorem pe_udk (n : Nat) (ks : List Str) (c : ClK X.prog X.w X.K X.mg X.base k x st ps kws sp) (hr : Room j X.A) (hk : k ≤ j) (hg : Gl X x) (h0 : kws ≠ [])
    (bd : ∀ (D : Addr) (doc pm : Value) (an : Option Addr) (cdv ct : Value) (us ws : List Value), us.length = n → ws.length = ks.length → bindArgs (PySem.W.fnOf x x (defArgs st) (defBody st) (defScope st) .none (.ref D) doc pm an cdv ct) ⟨us, ks.zip ws⟩ = pure (ps.zip (us ++ ws)))
    (ha : PA X (e :: es) t) (hkw : PK X ky tk)
    (hall : (backToKw pos (keywordEach ky X.env)).all (·.1.isSome) = true := by rfl) (hks : (backToKw pos (keywordEach ky X.env)).filterMap (·.1) = ks := by rfl) (hdb : (x == ("__debug__" : Str)) = false := by decide) (he : starEach (e :: es) X.env = (false, eval e X.env) :: starEach es X.env := by rfl)
    (hpl : ((backTo pos (starEach (e :: es) X.env)).any (·.1) || (backToKw pos (keywordEach ky X.env)).any (·.1.isNone)) = false := by rfl) : PE X (.Call (.Name x p) (e :: es) ky pos) (tCallN n ks.length sp (fun vs zs => vs ++ zs) E0 t tk) := by
  obtain ⟨f, fd, F, G, hm, _⟩ := c.ex
  obtain ⟨mv, kb⟩ := F.kbinds0 (ps := ps) n ks [] (fun us _ ws => us ++ ws) h0 (fun q z => nomatch z) (fun a _ b => Vals.append a b) (fun D doc pm an cdv ct us mv ws l1 l2 l3 => by
    have e0 : mv = [] := List.length_eq_zero_iff.mp l2
    subst e0
    exact bd D doc pm an cdv ct us ws l1 l3)
  exact pe_callN G (hr.mono hk) hg hm F.kp kb pass0 ha hkw hall hks hdb he hpl
end
theorem each_pairwise {β : Type} {R : Addr → β → Prop} {S : β → β → Prop} {T : V → V → Prop} (h : ∀ r s m n, R r m → R s n → T (.ref r) (.ref s) → S m n) : ∀ {us : List Addr} {ks : List β}, Each R us ks → (us.map V.ref).Pairwise T → ks.Pairwise S
  | [], [], _, _ => .nil
  | r :: us, m :: ks, ⟨h1, h2⟩, p => by
    rw [List.map_cons, List.pairwise_cons] at p
    refine .cons (fun n hn => ?_) (each_pairwise h h2 p.2)
    obtain ⟨i, hi⟩ := List.mem_iff_getElem?.mp hn
    have lt : i < us.length := by
      rw [h2.len]
      exact (List.getElem?_eq_some_iff.mp hi).1
    obtain ⟨n2, hn2, hr⟩ := h2.get (List.getElem?_eq_getElem lt)
    have e : n2 = n := Option.some.inj (hn2.symm.trans hi)
    subst e
    exact h _ _ _ _ h1 hr (p.1 _ (List.mem_map.mpr ⟨_, List.getElem_mem lt, rfl⟩))
theorem PE.by {X : Cx} {e : Expr} {t t' : TE} (h : PE X e t) (i : ∀ σ H Q, t' σ H Q → t σ H Q) : PE X e t' := ⟨fun pins s σ H Q I q => h.run pins s σ H Q I (i σ H Q q)⟩
/-! ### how many passes may be made -/
def pV : Option Nat → V
  | none => .non
  | some p => .int (p : Nat)
def mostP (n : Nat) : Option Nat → Nat
  | none => n - 1
  | some p => min p (n - 1)
theorem mostP_le (n : Nat) (o : Option Nat) : mostP n o ≤ n - 1 := by
  cases o with
  | none => exact Nat.le_refl _
  | some p => exact Nat.min_le_right ..
end Lp
namespace Lp
open PySem PySem.Spec PyProof.Rows L2
/-! ### the less of two texts, the least of some -/
theorem cmp_strs {prog : Program} {w : World} {A : Around} {F : Nat → Value → Prop} (val : Nat → Str) (hv : ∀ i v, F i v → ∃ t, v = .str (val i) t) : CmpOf prog w A .Lt F (fun i j => decide ((val i).cps.toList < (val j).cps.toList)) := by
  intro i j vi vj s Q E hi hj h
  obtain ⟨t, rfl⟩ := hv i vi hi
  obtain ⟨u, rfl⟩ := hv j vj hj
  exact lt_str h
section
variable {prog : Program} {w : World} {A : Around} {E : Value → Shared → Prop} {s : Shared}
theorem min_strs {a b : Str} {t u : Tok} {Q : Value → Shared → Prop} (hh : A.handled = none)
    (h : ∀ h' tk, (∀ c o, s.heap.get? c = some o → h'.get? c = some o) → Q (if b.cps.toList < a.cps.toList then .str b u else .str a t) { s with heap := h', toks := tk }) :
    wpAny (model prog w) A (call (.builtin "min") [.str a t, .str b u]) Q E s := by
  let its : Array Value := #[.str a t, .str b u]
  let val : Nat → Str := fun i => if i = 0 then a else b
  have at_ : ∀ i v, its[i]? = some v → ∃ t, v = Value.str (val i) t := fun i v e => by
    match i with
    | 0 => exact ⟨t, (Option.some.inj e).symm⟩
    | 1 => exact ⟨u, (Option.some.inj e).symm⟩
    | i + 2 => cases e
  have tup : (s.heap.push { cls := .type "tuple", data := .seq its }).IsTuple s.heap.objs.size its := ⟨_, Heap.get?_push_size _ rfl, rfl, 0, rfl⟩
  have sz : (s.heap.push { cls := .type "tuple", data := .seq its }).objs.size = s.heap.objs.size + 1 := Heap.size_push ..
  have ne : s.heap.objs.size ≠ (s.heap.push { cls := .type "tuple", data := .seq its }).objs.size := by rw [sz]; omega
  refine call_min_two (wpAny_pyIter_tuple tup ⟨_, _, _, _, _, _, _, rfl, Walks.tuple (A := A.in1) hh _ s.heap.objs.size ne its, ⟨⟨_, Heap.get?_push_size _ rfl, rfl, rfl⟩, tup.push _⟩, fun c hc => ?_, Nat.zero_lt_succ _, cmp_strs val at_, fun v h' tk hP hk => ?_⟩)
  · show c < ((s.heap.push _).push _).objs.size
    rw [Heap.size_push, sz]
    have two : c = (s.heap.push { cls := .type "tuple", data := .seq its }).objs.size ∨ c = s.heap.objs.size := by
      rcases List.mem_cons.mp hc with z | z
      · exact .inl z
      · exact .inr (List.mem_singleton.mp z)
    rw [sz] at two
    rcases two with z | z
    · rw [z]
      exact Nat.lt_succ_self _
    · rw [z]
      exact Nat.lt_succ_of_lt (Nat.lt_succ_self _)
  · have old : ∀ c o, s.heap.get? c = some o → h'.get? c = some o := fun c o e => by
      refine hk c o (fun hm => ?_) (Heap.get?_push_of_some _ (Heap.get?_push_of_some _ e))
      have lt := Heap.lt_size e
      have one : c = (s.heap.push { cls := .type "tuple", data := .seq its }).objs.size := List.mem_singleton.mp hm
      rw [sz] at one
      rw [one] at lt
      exact Nat.lt_irrefl _ (Nat.lt_of_succ_lt lt)
    have z := h h' tk old
    have hP2 : its[argBest (fun i j => decide ((val i).cps.toList < (val j).cps.toList)) 1]? = some v := hP
    by_cases e : b.cps.toList < a.cps.toList
    · have e1 : argBest (fun i j => decide ((val i).cps.toList < (val j).cps.toList)) 1 = 1 := by
        simp only [argBest]
        exact if_pos (decide_eq_true e)
      rw [e1] at hP2
      rw [if_pos e] at z
      rw [← Option.some.inj hP2]
      exact z
    · have e1 : argBest (fun i j => decide ((val i).cps.toList < (val j).cps.toList)) 1 = 0 := by
        simp only [argBest]
        exact if_neg (fun q => e (of_decide_eq_true q))
      rw [e1] at hP2
      rw [if_neg e] at z
      rw [← Option.some.inj hP2]
      exact z
end
section
variable {X : Cx}
def rMin2S : List V → Hp → VK → Prop := fun xs H Q => ∃ a b : Str, xs = [.str a, .str b] ∧ Q (.str (if b.cps.toList < a.cps.toList then b else a)) H
theorem call_min2S (hc : X.calm = true) : CallR X (.builtin "min") rMin2S := by
  intro pins s σ H xs us Q I r h
  obtain ⟨a, b, rfl, q⟩ := h
  obtain ⟨u, w', rfl, ⟨t, rfl⟩, ⟨t', rfl⟩⟩ := vals2 r
  refine min_strs (I.ok.hd hc) fun h' tk k => ⟨_, H, I.kept k, ?_, q⟩
  split
  · exact ⟨_, rfl⟩
  · exact ⟨_, rfl⟩
theorem hold_strs {h : Heap} : ∀ {ts : List Str} {us : List Value}, Vals (ts.map V.str) us → PySem.W.HoldAll h us ts
  | [], _, .nil => .nil
  | t :: ts, _, .cons r rs => by
    obtain ⟨tk, rfl⟩ := r
    exact .cons ⟨_, .str _ _⟩ (hold_strs rs)
theorem hold_str {h : Heap} {v : Value} {y : Str} (hv : PySem.W.Holds h v y) : RelV (.str y) v := by
  obtain ⟨as, r⟩ := hv
  cases r
  exact ⟨_, rfl⟩
def rMinD (K : PySem.W.Frag) : List V → List V → Hp → VK → Prop := fun vs zs H Q => ∃ (a : Addr) (ws : List Str), vs = [.ref a] ∧ zs = [.non] ∧ SqL K H a (ws.map V.str) ∧ (ws = [] → Q .non H) ∧ ∀ y ys, ws = y :: ys → Q (.str (PySem.W.minOf y ys)) H
theorem call_minD (hc : X.calm = true) (hu : X.A.units + 1 < cLine) : CallRK X (.builtin "min") ["default"] (rMinD X.K) := by
  intro pins s σ H xs zs us ws Q I r1 r2 h
  obtain ⟨a, ts, rfl, rfl, hs, q0, q1⟩ := h
  obtain ⟨u, rfl, rx⟩ := vals1 r1
  obtain ⟨u2, rfl, ry⟩ := vals1 r2
  obtain ⟨its, rv, hl, _⟩ := I.list hs
  have hold : PySem.W.HoldAll s.heap its.toArray.toList ts := hold_strs rv
  cases rx
  refine PySem.W.min_list_datum_default (α := Str) (I.ok.hd hc) hl.isList hold hu (fun e h' tk k => ?_) fun y ys i v h' tk e hi hv k => ?_
  · exact ⟨_, H, I.kept k, ry, q0 e⟩
  · refine ⟨_, H, I.kept k, ?_, q1 y ys e⟩
    exact hold_str hv
end
/-! ### the sum of a tuple -/
theorem preSum_get : ∀ (ns : List Int) (k : Nat), k ≤ ns.length → preSum (fun i => ns.getD i 0) k = (ns.take k).sum
  | ns, 0, _ => rfl
  | ns, k + 1, h => by
    show preSum (fun i => ns.getD i 0) k + ns.getD k 0 = _
    rw [preSum_get ns k (by omega), List.take_add_one, List.getElem?_eq_getElem (by omega), List.sum_append, List.getD_eq_getElem?_getD, List.getElem?_eq_getElem (by omega)]
    simp
def rSumT (K : PySem.W.Frag) : List V → Hp → VK → Prop := fun vs H Q => ∃ (a : Addr) (ns : List Int), vs = [V.ref a] ∧ SqT K H a (ns.map V.int) ∧ Q (.int ns.sum) H
theorem vals_int_at {ns : List Int} {us : List Value} (r : Vals (ns.map V.int) us) {i : Nat} {v : Value} (h : us[i]? = some v) : ∃ t, v = Value.int (ns.getD i 0) t := by
  induction ns generalizing us i with
  | nil =>
    cases r
    cases h
  | cons n ns ih =>
    cases r with
    | cons a r =>
      cases i with
      | zero =>
        obtain ⟨t, rfl⟩ := a
        exact ⟨t, (Option.some.inj h).symm⟩
      | succ i => exact ih r h
theorem cr_sumT {X : Cx} (hc : X.calm = true) : CallR X (.builtin "sum") (rSumT X.K) := by
  intro pins s σ H vs us Q I r h
  obtain ⟨a, ns, rfl, hs, q⟩ := h
  obtain ⟨its, rv, ht, _⟩ := I.tuple hs
  rw [Vals.ref1 r]
  have il : its.length = ns.length := by
    have := rv.length
    rw [List.length_map] at this
    exact this.symm
  refine call_sum_walkAnyS (PySem.W.iter_tupleW (A := X.A.in1) (I.ok.hd hc) ht fun s2 e W st hfp hw hk => ⟨_, _, _, _, _, _, _, fun i => ns.getD i 0, rfl, W, st, hfp, fun i v hv => vals_int_at rv (by simpa using hv), fun s' t' mv => ?_⟩)
  obtain ⟨h', tk, e2, old⟩ := PySem.W.moved_old e rfl mv
  subst e2
  have es : preSum (fun i => ns.getD i 0) its.toArray.size = ns.sum := by
    rw [List.size_toArray, il, preSum_get ns _ (Nat.le_refl _), List.take_length]
  rw [es]
  exact ⟨.int _, H, I.kept old, ⟨_, rfl⟩, q⟩
end Lp
namespace Lp
open PySem PySem.Spec PyProof.Rows L2
/-! ### defs that may raise -/
structure ClX (P : Program) (w : World) (K : PySem.W.Frag) (mg : Str → Option Value) (base : Heap) (k : Nat) (x : Str) (st : Stmt) (ps : List Str) (sp : Sp) : Prop where
  ex : ∃ f fd, FnP K x st f fd ∧ FnOk P w K mg base (L2.CX P w) k f fd ps sp ∧ mg x = some (.ref f) ∧ Binds K fd ps []
section
variable {P : Program} {w : World} {K : PySem.W.Frag} {mg : Str → Option Value} {base : Heap} {x : Str} {st : Stmt} {N ps ks : List Str} {k : Nat} {sp : Sp}
theorem Df.okX (D : Df K mg x st) (S : FnScope N ps (defScope st))
    (bd : ∀ (kV doc pm : Value) (an : Option Addr) (cdv ct : Value) (us : List Value), us.length = ps.length → bindArgs (PySem.W.fnOf x x (defArgs st) (defBody st) (defScope st) .none kV doc pm an cdv ct) ⟨us, []⟩ = pure (ps.zip us))
    (len : ∀ vs H Q E, sp vs H Q E → vs.length = ps.length)
    (body : ∀ (f : Addr) (cdv : Value) (A : Around) (outer : List Env) (s : Shared) (H : Hp) (vs : List V) (Q : VK) (E : XK), Room k (A.deeper (envOfC x (defScope st) s.heap.objs.size f cdv)) → sp vs H Q E →
      ∃ t, PSs (cxOf (L2.CX P w) P w K mg base N x (defScope st) f cdv A outer s H E) (defBody st) t ∧ t { nx := fun _ H' => Q .non H', rt := Q } (start N vs) H) : ClX P w K mg base (k + 1) x st ps sp := by
  obtain ⟨f, fd, F, hm⟩ := D.ex
  exact ⟨f, fd, F, F.ok S len fun cdv A outer s H vs Q E hr h => body f cdv A outer s H vs Q E hr h, hm, F.bindsN bd⟩
theorem ClX.imp {sp' : Sp} (c : ClX P w K mg base k x st ps sp) (h : ∀ vs H Q E, sp' vs H Q E → sp vs H Q E) : ClX P w K mg base k x st ps sp' := by
  obtain ⟨f, fd, F, G, hm, b⟩ := c.ex
  exact ⟨f, fd, F, G.imp h, hm, b⟩
end
/-- a def's own wish: what leaves it -/
abbrev WD (E : XK) : WX := fun cls d _ H => E cls d H
theorem takesD {P : Program} {w : World} {K : PySem.W.Frag} {mg : Str → Option Value} {base : Heap} {N : List Str} {qual : Str} {scope : Scope} {f : Addr} {cd : Value} {A : Around} {outer : List Env} {s : Shared} {H : Hp} {E : XK} :
    Takes (cxOf (L2.CX P w) P w K mg base N qual scope f cd A outer s H E) (WD E) := takes_of rfl rfl rfl rfl
section
variable {X : Cx} {x : Str} {st : Stmt} {ps ks : List Str} {j k : Nat} {sp : Sp} {e : Expr} {es : List Expr} {kws : List Keyword} {t tk : TA} {p pos : Pos} {W : WX} {E : XK}
/-- f(e, ..), f may raise -/
theorem pe_x (c : ClX X.prog X.w X.K X.mg X.base k x st ps sp) (hw : Takes X W) (hr : Room j X.A) (hk : k ≤ j) (hg : Gl X x) (ha : PA X (e :: es) t)
    (hdb : (x == ("__debug__" : Str)) = false := by decide) (he : starEach (e :: es) X.env = (false, eval e X.env) :: starEach es X.env := by rfl) (hpl : (backTo pos (starEach es X.env)).any (·.1) = false := by rfl) :
    PE X (.Call (.Name x p) (e :: es) [] pos) (tCallS sp (WE W) t) := by
  obtain ⟨f, fd, F, G, hm, b⟩ := c.ex
  exact pe_callS G (hr.mono hk) hg hm F.kp b (fun σ => passAt hw σ) ha hdb he hpl
/-- f(k = e, ..), f may raise -/
def tKwX (n : Nat) (sp : Sp) (g : List V → List V) (E : XK) (tk : TA) : TE := fun σ H Q => tk σ H fun zs H2 => zs.length = n ∧ sp (g zs) H2 Q E
theorem pe_xk (g : {α : Type} → List α → List α) (c : ClX X.prog X.w X.K X.mg X.base k x st ps sp) (hw : Takes X (WD E)) (hr : Room j X.A) (hk : k ≤ j) (hg : Gl X x)
    (bd : ∀ (kV doc pm : Value) (an : Option Addr) (cdv ct : Value) (ws : List Value), ws.length = ks.length → bindArgs (PySem.W.fnOf x x (defArgs st) (defBody st) (defScope st) .none kV doc pm an cdv ct) ⟨[], ks.zip ws⟩ = pure (ps.zip (g ws)))
    (rel : ∀ {zs : List V} {ws : List Value}, Vals zs ws → Vals (g zs) (g ws)) (hkw : PK X kws tk)
    (hall : (backToKw pos (keywordEach kws X.env)).all (·.1.isSome) = true := by rfl) (hks : (backToKw pos (keywordEach kws X.env)).filterMap (·.1) = ks := by rfl)
    (hdb : (x == ("__debug__" : Str)) = false := by decide) (hpl : ((backTo pos (starEach [] X.env)).any (·.1) || (backToKw pos (keywordEach kws X.env)).any (·.1.isNone)) = false := by rfl) :
    PE X (.Call (.Name x p) [] kws pos) (tKwX ks.length sp g E tk) := by
  obtain ⟨f, fd, F, G, hm, b⟩ := c.ex
  have kb : KBn X.K fd ps 0 ks (fun _ ws => g ws) (fun _ zs => g zs) := by
    obtain ⟨oc, od, dV, kV, doc, pm, an, cdv, ct, osl, rfl, lk, hcd, hD, hK⟩ := F.ex
    rcases hD with ⟨_, rfl⟩ | ⟨z, _⟩
    · refine ⟨fun s us ws X1 l1 l2 => ?_, fun _ r => rel r⟩
      have e0 : us = [] := List.length_eq_zero_iff.mp l1
      subst e0
      exact .of_eq (bd kV doc pm an cdv ct ws l2)
    · exact absurd rfl z
  refine ⟨fun pins s σ H Q I h => ?_⟩
  refine wpAny_Call_Name_kw (ld_glob I hg hm ?_ hdb)
  refine PySem.W.callWith_KW0 (h₀ := X.base) I.ok.mod.kin F.kp hall (thn (hkw.run pos pins s σ H _ I h) fun ws s2 ⟨zs, H2, I2, rz, l2, q2⟩ => ⟨I2.kIn, ?_⟩) hpl
  rw [hks]
  exact run_fnN G (hr.mono hk) kb (passes_call hw fun _ _ _ _ z => z) I2 .nil rz rfl l2 q2
end
/-! ### own exception classes over ValueError, one field -/
theorem vErrS_ok {sl : Array (Option Value)} (h : vErrS sl = true) : ∃ y0 y1 y2 y3 y5, sl = #[y0, y1, y2, y3, some (.builtin "ValueError.__new__"), y5] := by
  cases sl with
  | mk l =>
    match l, h with
    | [y0, y1, y2, y3, y, y5], h =>
      have e : y = some (.builtin "ValueError.__new__") := of_decide_eq_true h
      exact ⟨y0, y1, y2, y3, y5, by rw [e]⟩
theorem vErrC_ok {C : Addr} {c : ClassData} (h : vErrC C c = true) : c.hasDict = true ∧ c.hasDel = false ∧ ∃ up, c.mro = .ref C :: up ∧ PySem.HandSPX.refsVE up = true := by
  unfold vErrC at h
  rw [Bool.and_eq_true, Bool.and_eq_true] at h
  refine ⟨h.1, by simpa using h.2.1, ?_⟩
  have h3 := h.2.2
  cases e : c.mro with
  | nil =>
    rw [e] at h3
    cases h3
  | cons top up =>
    rw [e] at h3
    have h4 := Bool.and_eq_true_iff.mp h3
    exact ⟨up, by rw [of_decide_eq_true h4.1], h4.2⟩
theorem oexB_ok {K : PySem.W.Frag} {C : Addr} (h : oexB K C = true) : OexC K C := by
  unfold oexB at h
  simp only [Bool.and_eq_true, decide_eq_true_eq] at h
  refine ⟨?_, h.2.1, h.2.2.1, h.2.2.2.1, h.2.2.2.2⟩
  have g := h.1
  cases look : K.lookup C with
  | none =>
    rw [look] at g
    cases g
  | some o =>
    rw [look] at g
    have g1 := Bool.and_eq_true_iff.mp g
    have g2 := Bool.and_eq_true_iff.mp g1.2
    have ec : o.cls = .type "type" := of_decide_eq_true g1.1
    obtain ⟨y0, y1, y2, y3, y5, es⟩ := vErrS_ok g2.1
    have g3 := g2.2
    cases o with
    | mk cl dct dat sl =>
      cases dat with
      | cls c =>
        obtain ⟨e1, e2, up, e3, hup⟩ := vErrC_ok g3
        cases c
        cases ec
        cases es
        cases e1
        cases e2
        cases e3
        exact ⟨_, _, _, _, up, _, _, _, _, _, y0, y1, y2, y3, y5, rfl, hup⟩
      | _ => cases g3
/-- the class x has an __init__ that keeps its one argument in the field f -/
structure EC (P : Program) (w : World) (K : PySem.W.Frag) (mg : Str → Option Value) (base : Heap) (x f : Str) : Prop where
  gC : mg x = some (.ref (He.ga K x))
  ox : OexC K (He.ga K x)
  xf : XfC K (He.ga K x)
  noN : PySem.W.findIn K (.ref (He.ga K x)) f = some none
  iC : PySem.W.findIn K (.ref (He.ga K x)) "__init__" = some (some (.ref (He.ma K (He.ga K x) "__init__")))
  tC : PySem.W.typeIn K (.ref (He.ma K (He.ga K x) "__init__")) = some (.type "function")
  fn : ∃ fd, FnOk P w K mg base CX0 1 (He.ma K (He.ga K x) "__init__") fd (["self", f] : List Str) (fun vs H Q _ => ∃ (a : Addr) (v : V), vs = [.ref a, v] ∧ H a = some (exo a (He.ga K x) none) ∧ ∀ dx, H dx = none → dx ≠ a → Q .non (upd (upd H dx (exd dx [(f, v)])) a (exo a (He.ga K x) (some dx)))) ∧ Binds K fd (["self", f] : List Str) []
section
variable {P : Program} {w : World} {K : PySem.W.Frag} {mg : Str → Option Value} {base : Heap} {h : Heap} {x f q : Str} {st : Stmt}
theorem EC.of {fd : FuncData} (gC : mg x = some (.ref (He.ga K x))) (e : ecB K x f = true) (F : FunD K "__init__" q (defArgs (initOf st)) (defBody (initOf st)) (defScope (initOf st)) [] [] (He.ma K (He.ga K x) "__init__") fd)
    (S : FnScope (["self", f] : List Str) (["self", f] : List Str) (defScope (initOf st)))
    (bd : ∀ (kV doc pm : Value) (an : Option Addr) (cdv ct : Value) (us : List Value), us.length = 2 → bindArgs (PySem.W.fnOf "__init__" q (defArgs (initOf st)) (defBody (initOf st)) (defScope (initOf st)) .none kV doc pm an cdv ct) ⟨us, []⟩ = pure ((["self", f] : List Str).zip us))
    (hb : ∀ X : Cx, X.N = (["self", f] : List Str) → X.env.scope = defScope (initOf st) → X.fn "self" = true → PSs X (defBody (initOf st)) (tSeq (tOst X.K f (tVar 0) (tVar 1)) tNext)) : EC P w K mg base x f := by
  obtain ⟨h1, e⟩ := Bool.and_eq_true_iff.mp e
  obtain ⟨h2, e⟩ := Bool.and_eq_true_iff.mp e
  obtain ⟨h3, e⟩ := Bool.and_eq_true_iff.mp e
  obtain ⟨h4, h5⟩ := Bool.and_eq_true_iff.mp e
  have ox := oexB_ok h1
  have noN := of_decide_eq_true h3
  refine ⟨gC, ox, xfB_ok h2, noN, of_decide_eq_true h4, of_decide_eq_true h5, fd, F.ok S (fun vs H Q E z => ?_) fun cdv A outer s H vs Q E hr z => ?_, F.bindsN bd⟩
  · obtain ⟨a, v, rfl, _⟩ := z
    rfl
  · obtain ⟨a, v, rfl, ha, q⟩ := z
    refine ⟨_, hb _ rfl rfl rfl, ?_⟩
    exact ⟨_, rfl, _, rfl, a, _, rfl, ox, noN, .inl ⟨ha, fun dx n ne => q dx n ne⟩⟩
end
/-- a reading that may be weakened -/
def tMono (ta : TA) : TA := fun σ H R => ∃ R0, ta σ H R0 ∧ ∀ vs H1, R0 vs H1 → R vs H1
theorem paMono {X : Cx} {es : List Expr} {ta : TA} (ha : PA X es ta) : PA X es (tMono ta) := ⟨fun pos pins s σ H R I h => by
  obtain ⟨R0, h0, im⟩ := h
  exact wpAny_mono (ha.run pos pins s σ H R0 I h0) (fun us s1 ⟨vs, H1, I1, r, q⟩ => ⟨vs, H1, I1, r, im _ _ q⟩) fun _ _ z => z⟩
/-- C(e) -/
def tMkE (C : Addr) (f : Str) (ta : TA) : L2.St → Hp → XK → Prop := fun σ H Q => ta σ H fun vs H1 => ∃ v, vs = [v] ∧ ∀ d, H1 d = none → Q (.ref C) (some d) (upd H1 d (.xd [(f, v)]))
theorem pmk_e {X : Cx} {x f : Str} {e : Expr} {ta : TA} {j : Nat} {p pos : Pos} (T : EC X.prog X.w X.K X.mg X.base x f) (hr : Room j X.A) (hj : 2 ≤ j) (hg : Gl X x) (ha : PA X [e] ta)
    (hdb : (x == ("__debug__" : Str)) = false := by decide) (he : starEach [e] X.env = (false, eval e X.env) :: starEach [] X.env := by rfl) (hpl : (backTo pos (starEach [] X.env)).any (·.1) = false := by rfl) :
    PMk X (.Call (.Name x p) [e] [] pos) (tMkE (He.ga X.K x) f ta) := by
  obtain ⟨fd, F1, hb⟩ := T.fn
  have M := pmk_oex (p := p) (pos := pos) T.ox T.iC T.tC F1 (hr.mono hj) hb (dvs := []) .nil pass0 hg T.gC (paMono ha) hdb he hpl
  intro pins s σ H Q I h
  refine M pins s σ H Q I ⟨_, h, fun vs H1 z => ?_⟩
  obtain ⟨v, rfl, q⟩ := z
  refine ⟨by show 1 ≤ 1000; decide, fun a na => ⟨a, v, rfl, upd_same, fun dx ndx ne => ⟨rfl, dx, _, upd_same, (upd_ne ne).trans upd_same, ?_, ?_⟩⟩⟩
  · rw [upd_ne ne] at ndx
    exact ndx
  · rw [upd_ne ne] at ndx
    have e1 : upd (del (upd (upd (upd H1 a (exo a (He.ga X.K x) none)) dx (exd dx [(f, v)])) a (exo a (He.ga X.K x) (some dx))) a) dx (.xd [(f, v)]) = upd H1 dx (.xd [(f, v)]) := by
      funext b
      by_cases hb : b = dx
      · rw [hb, upd_same, upd_same]
      · rw [upd_ne hb, upd_ne hb]
        by_cases ha : b = a
        · rw [ha, del_same, na]
        · rw [del_ne ha, upd_ne ha, upd_ne hb, upd_ne ha]
    rw [e1]
    exact q dx ndx
end Lp
namespace Lp
open PySem PySem.Spec PyProof.Rows L2
/-! ### a try whose clause names three classes -/
/-- more objects stand beside an exception in flight -/
theorem flyK {B h h' : Heap} {l : List Env} {a : Addr} {Z : Obj → Prop} (fl : HandSPX.FlyingZ B l a Z h) (k : ∀ b o, h.get? b = some o → h'.get? b = some o) : HandSPX.FlyingZ B l a Z h' := by
  obtain ⟨c1, c2, c3, oe, vs, T, oT, ts, d1, d2, d3, d4, d5, d6, d7, d8, d9⟩ := fl
  exact ⟨fun b o z => k b o (c1 b o z), c2, c3.of_keeps fun b o z _ => ⟨o, k b o z, rfl⟩, oe, vs, T, oT, ts, k _ _ d1, d2, d3, d4, d5, d6, k _ _ d7, d8, d9⟩
/-- the clause's test of an exception of the class cls: it is one of these -/
structure TstOk (X : Cx) (t : Expr) (mt : Value → Option Bool) : Prop where
  run : ∀ (a : Addr) (pn : List (Addr × Obj)) (pins : List (Addr × Obj)) (σ : L2.St) (H : Hp) (s : Shared) (cls : Value) (Q : Bool → Shared → Prop) (E : Value → Shared → Prop), mt cls = some true → Inv (X.suite a pn) pins σ H s →
    PySem.W.Looks (model X.prog X.w) s.heap (typeOf (.ref a)) cls → (∀ h', (∀ b o, s.heap.get? b = some o → h'.get? b = some o) → Q true { s with heap := h' }) →
    wpAny (model X.prog X.w) (X.A.mark (some (.ref a))) (eval t X.env) (fun c s1 => wpAny (model X.prog X.w) (X.A.mark (some (.ref a))) (excMatches (.ref a) c) Q E s1) E s
theorem tst3 {X : Cx} {x1 x2 x3 : Str} {c1 c2 c3 : Value} {q1 q2 q3 q : Pos} {n : Nat} (g1 : Gl X x1) (g2 : Gl X x2) (g3 : Gl X x3) (m1 : X.mg x1 = some c1) (m2 : X.mg x2 = some c2) (m3 : X.mg x3 = some c3)
    (u1 : (x1 == ("__debug__" : Str)) = false := by decide) (u2 : (x2 == ("__debug__" : Str)) = false := by decide) (u3 : (x3 == ("__debug__" : Str)) = false := by decide) :
    TstOk X (.Tuple [.Name x1 q1, .Name x2 q2, .Name x3 q3] n q) (fun cls => PySem.W.exmAny X.K cls [c1, c2, c3]) := ⟨fun a pn pins σ H s cls Q E hm I lt fin => by
  refine wpAny_Tuple (wpAny_items_cons (ld_glob (X := X.suite a pn) I g1 m1 ?_ u1))
  refine wpAny_items_cons (ld_glob (X := X.suite a pn) I g2 m2 (wpAny_items_cons (ld_glob (X := X.suite a pn) I g3 m3 ?_ u3)) u2)
  refine wpAny_items_nil ⟨(by show 3 ≤ sizeLine; decide), ?_⟩
  have more : ∀ b o, s.heap.get? b = some o → (s.heap.push { cls := .type "tuple", data := .seq [c1, c2, c3].toArray }).get? b = some o := fun _ _ z => Heap.get?_push_of_some _ z
  exact (PySem.W.exm_tup3 (I.kIn.keeps more) (lt.keeps more) (Heap.get?_push_size s.heap rfl) hm).here (fin _ more)⟩
/-- what such a clause wishes of an exception of the body; its name stands in slot i -/
def wTs (mt : Value → Option Bool) (i : Nat) (ts : Addr → Value → Option Addr → TS) (D : Ends) : WX := fun cls d σ H =>
  mt cls = some true ∧ ∀ a, H a = none → ts a cls d { nx := fun σ2 H2 => D.nx (σ2.set i none) H2, rt := D.rt, bk := fun σ2 H2 => D.bk (σ2.set i none) H2, ct := fun σ2 H2 => D.ct (σ2.set i none) H2 } (σ.set i (some (.ref a))) H
theorem ps_tryT {X : Cx} {n : Str} {t : Expr} {mt : Value → Option Bool} {i : Nat} {body suite : List Stmt} {b0 : Stmt} {pos pos2 : Pos} {tb : WX → TS} {ts : Addr → Value → Option Addr → TS} (hs : X.stack = X.env :: X.outer) (hf : X.env.frame = some X.env.locals) (hN : X.N.Nodup) (hi : X.N[i]? = some n)
    (hln : X.env.kindOf n = some .local) (ht : TstOk X t mt) (hb : ∀ (W : WX) (pn : List (Addr × Obj)) (xe : Value → Shared → Prop), Takes (X.tr pn xe) W → PassesOwn (model X.prog X.w) X.A X.env xe → PSs (X.tr pn xe) body (tb W))
    (hsu : ∀ (a : Addr) (oe : Obj) (cls : Value) (d : Option Addr) (pn : List (Addr × Obj)), Zc cls d oe → (∃ vs, oe.data = .fields vs) → PSs (X.suite a ((a, oe) :: pn)) (b0 :: suite) (ts a cls d)) :
    PS X (.Try body [.ExceptHandler (some t) (some n) (b0 :: suite) pos2] [] [] pos) (fun D σ H => tb (wTs mt i ts D) D σ H) := ⟨fun pins s σ H D I h => by
  have gone : ∀ {a : Addr} {oe : Obj} {s6 : Shared} {σ6 : L2.St} {H6 : Hp} {Q : Shared → Prop}, Inv (X.suite a ((a, oe) :: (X.pn ++ pins))) [] σ6 H6 s6 → (∀ s7, Inv X pins (σ6.set i none) H6 s7 → Q s7) →
      wpAny (model X.prog X.w) X.A (do bindName X.env n .none; unbindBehindTheSuite X.env n pos2) (fun _ s7 => Q s7) X.xe s6 := fun J go => gone_ok (J.unsuite I.ok) hN hi hln go
  -- an exception of the body
  have meet : ∀ u s1, XE (X.tr (X.pn ++ pins) fun e s₁ => wpAny (model X.prog X.w) X.A (noteFrame e X.env) (fun _ s₂ => wpAny (model X.prog X.w) X.A (setFlight e none) (fun _ s₃ => wpAny (model X.prog X.w) X.A (handleBy e X.env [.ExceptHandler (some t) (some n) (b0 :: suite) pos2]) (SP X pins D) X.xe s₃) X.xe s₂) X.xe s₁) (wTs mt i ts D) u s1 →
      wpAny (model X.prog X.w) X.A (noteFrame u X.env) (fun _ s₂ => wpAny (model X.prog X.w) X.A (setFlight u none) (fun _ s₃ => wpAny (model X.prog X.w) X.A (handleBy u X.env [.ExceptHandler (some t) (some n) (b0 :: suite) pos2]) (SP X pins D) X.xe s₃) X.xe s₂) X.xe s1 := fun u s1 xx => by
    obtain ⟨a, B, sI, pins2, σ2, H2, cls, d, eu, J0, ground, up, sky, na, os, bare, hmt, yes⟩ := xx
    subst eu
    have J : Inv X pins σ2 H2 sI := J0.ofTry I.ok
    have frames : X.A.frames = some (X.env :: X.outer) := by rw [I.ok.frames, hs]
    have sky2 : Sky B (X.env :: X.outer) a (Zc cls d) X.env.locals s1.heap := hs ▸ sky
    refine Sky.land Zc.steady frames hf sky2 fun h3 f3 up3 => ?_
    obtain ⟨o3, v3, e3, z3, d3⟩ := f3.there
    have away : a ∉ frs (X.env :: X.outer) := fun hm => by
      obtain ⟨_, o4, e4, no⟩ := f3.2.2.1.mem hm
      rw [e3] at e4
      cases e4
      exact no _ d3
    have n1 : a ≠ X.env.locals := fun z => away (List.mem_filterMap.mpr ⟨X.env, List.mem_cons_self, by rw [hf, z]⟩)
    have n2 : a ∉ X.fs := fun hm => by
      obtain ⟨e, he, z⟩ := List.mem_filterMap.mp hm
      exact away (List.mem_filterMap.mpr ⟨e, List.mem_cons_of_mem _ he, z⟩)
    have land : ∀ {g : Heap}, HandSPX.FlyingZ B (X.env :: X.outer) a (Zc cls d) g → sI.heap.UpToSlots g → Inv X pins σ2 H2 { s1 with heap := g } := fun fg ug => J.landed ground fg.1 ug os bare
    have S3 := (land f3 (up.trans up3)).suite e3 d3 na n1 n2
    have isa : PySem.W.Looks (model X.prog X.w) h3 (typeOf (.ref a)) cls := fun A Q E s k q => wpAny_typeOf_ref (k _ _ e3) (by rw [z3.1]; exact q)
    refine wpAny_handleBy_cons (codeAny_handlers_test (ht.run a _ _ _ _ _ cls _ _ hmt S3 isa fun h4 k4 => ?_)) (by intro z; cases z)
    refine codeAny_handlers_suite_as (HandSPX.lands_againZ (flyK f3 k4) fun h5 f5 up5 => ?_)
    have up4 : sI.heap.UpToSlots h4 := (up.trans up3).trans (Heap.UpToSlots.of_keeps k4)
    obtain ⟨o5, v5, e5, z5, d5⟩ := f5.there
    have S5 := (land f5 (up4.trans up5)).suite e5 d5 na n1 n2
    refine store_ok (X := X.suite a ((a, o5) :: (X.pn ++ pins))) (v := .ref a) S5 hN hi (.inl hln) rfl (fun s6 S6 => ?_) (.inr hln)
    refine wpAny_mono ((hsu a o5 cls d (X.pn ++ pins) z5 ⟨_, d5⟩).run [] s6 _ H2 _ S6 (yes a na)) (fun f s7 e7 => ?_) fun _ _ z => z.elim
    cases f with
    | ret v =>
      obtain ⟨y, σ7, H7, S7, r7, q7⟩ := e7
      exact gone S7 fun s8 J8 => ⟨_, _, _, J8, r7, q7⟩
    | next =>
      obtain ⟨σ7, H7, S7, q7⟩ := e7
      exact gone S7 fun s8 J8 => ⟨_, _, J8, q7⟩
    | cont =>
      obtain ⟨σ7, H7, S7, q7⟩ := e7
      exact gone S7 fun s8 J8 => ⟨_, _, J8, q7⟩
    | brk =>
      obtain ⟨σ7, H7, S7, q7⟩ := e7
      exact gone S7 fun s8 J8 => ⟨_, _, J8, q7⟩
  refine wpAny_Try_except (wpAny_mono ((hb (wTs mt i ts D) (X.pn ++ pins) _ meet PassesOwn.looking).run [] s σ H D (I.toTry _) h) (fun f s1 e1 => ?_) fun _ _ z => z)
  cases f with
  | ret v =>
    obtain ⟨y, σ2, H2, J, r2, q2⟩ := e1
    exact ⟨y, σ2, H2, J.ofTry I.ok, r2, q2⟩
  | next =>
    obtain ⟨σ2, H2, J, q2⟩ := e1
    exact wpAny_execs_nil ⟨σ2, H2, J.ofTry I.ok, q2⟩
  | cont =>
    obtain ⟨σ2, H2, J, q2⟩ := e1
    exact ⟨σ2, H2, J.ofTry I.ok, q2⟩
  | brk =>
    obtain ⟨σ2, H2, J, q2⟩ := e1
    exact ⟨σ2, H2, J.ofTry I.ok, q2⟩⟩
end Lp
namespace Lp
open PySem PySem.Spec PyProof.Rows L2
/-! ### list.count of flat things -/
def rCntF (K : PySem.W.Frag) : V → List V → Hp → VK → Prop := fun x xs H Q => ∃ (a : Addr) (ys : List V) (y : V), x = .ref a ∧ xs = [y] ∧ SqL K H a ys ∧ flatV y = true ∧ ys.all flatV = true ∧ Q (.int ((ys.countP fun z => eqV z y : Nat) : Int)) H
theorem countU {ys : List V} {y : V} {uy : Value} : ∀ {its : List Value}, Vals ys its → ys.all flatV = true → its.countP (eqU y) = ys.countP fun z => eqV z y := by
  intro its r
  induction r with
  | nil => intro _; rfl
  | cons rv _ ih =>
    intro f
    obtain ⟨f1, f2⟩ := Bool.and_eq_true_iff.mp f
    rw [List.countP_cons, List.countP_cons, ih f2, eqU_of rv f1]
theorem mt_fcount {X : Cx} : MtR X "list.count" (rCntF X.K) := by
  intro pins s σ H x xs v us Q I rx rs h
  obtain ⟨a, ys, y, rfl, rfl, hs, fy, fys, q⟩ := h
  cases rx
  obtain ⟨uy, rfl, ry⟩ := rs.one
  obtain ⟨its, rv, ⟨⟨c1, c2, c3, c4⟩, n, ho, e1, e2, e3⟩, _⟩ := I.list hs
  simp only at e1 e3
  subst e1 e3
  refine call_meets PySem.F.slot_list_count ⟨_, ho, rfl⟩ PySem.F.entry_list_count (PySem.F.args_list_count_2 _ _) (SeqAt.list_countAt a its.toArray n c2 c4 uy (eqU y)) ⟨ho, fun z hz => mem_eqAt ry fy rv fys z (by simpa using hz), ?_⟩
  have ec : its.toArray.toList.countP (eqU y) = ys.countP fun z => eqV z y := countU (uy := uy) rv fys
  rw [ec]
  exact ⟨.int ((ys.countP fun z => eqV z y : Nat) : Int), H, I.tok _, ⟨s.toks, rfl⟩, q⟩
/-! ### defs that are called with the exception in hand -/
abbrev SpZ := Addr × Obj → Sp
structure FnZ (P : Program) (w : World) (K : PySem.W.Frag) (mg : Str → Option Value) (base : Heap) (k : Nat) (f : Addr) (fd : FuncData) (ps : List Str) (sp : SpZ) : Prop where
  len : ∀ p vs H Q E, sp p vs H Q E → vs.length = ps.length
  run : ∀ (A : Around) (outer : List Env) (s : Shared) (H : Hp) (args : Args) (us : List Value) (vs : List V) (Q : VK) (E : XK) (p : Addr × Obj), L2H.RoomH k A → L2H.PinOk outer H s p → Env0 P w K mg base A outer s H → BindsTo s fd args (ps.zip us) → Vals vs us → sp p vs H Q E →
    codeAny (model P w) A (.call (.ref f) args) (CR CX0 outer P w H s Q E) s
structure ClZ (P : Program) (w : World) (K : PySem.W.Frag) (mg : Str → Option Value) (base : Heap) (k : Nat) (x : Str) (st : Stmt) (ps : List Str) (sp : SpZ) : Prop where
  ex : ∃ f fd, FnP K x st f fd ∧ FnZ P w K mg base k f fd ps sp ∧ mg x = some (.ref f) ∧ Binds K fd ps []
section
variable {P : Program} {w : World} {K : PySem.W.Frag} {mg : Str → Option Value} {base : Heap} {x : Str} {st : Stmt} {N ps : List Str} {k : Nat} {sp : SpZ}
theorem Df.okZ (D : Df K mg x st) (S : FnScope N ps (defScope st))
    (bd : ∀ (kV doc pm : Value) (an : Option Addr) (cdv ct : Value) (us : List Value), us.length = ps.length → bindArgs (PySem.W.fnOf x x (defArgs st) (defBody st) (defScope st) .none kV doc pm an cdv ct) ⟨us, []⟩ = pure (ps.zip us))
    (len : ∀ p vs H Q E, sp p vs H Q E → vs.length = ps.length)
    (body : ∀ (f : Addr) (cdv : Value) (A : Around) (outer : List Env) (s : Shared) (H : Hp) (vs : List V) (Q : VK) (E : XK) (p : Addr × Obj), L2H.RoomH k (A.deeper (envOfC x (defScope st) s.heap.objs.size f cdv)) → sp p vs H Q E →
      ∃ t, PSs (L2H.cxH CX0 P w K mg base N x (defScope st) f cdv A outer s H E p).nox (defBody st) t ∧ t { nx := fun _ H' => Q .non H', rt := Q } (start N vs) H) : ClZ P w K mg base (k + 1) x st ps sp := by
  obtain ⟨f, fd, F, hm⟩ := D.ex
  refine ⟨f, fd, F, ?_, hm, F.bindsN bd⟩
  obtain ⟨oc, od, dV, kV, doc, pm, an, cdv, ct, osl, rfl, lk, hcd, _, _⟩ := F.ex
  refine ⟨len, fun A outer s H args us vs Q E p hr pin e0 hb rel hsp => ?_⟩
  have ln := len _ _ _ _ _ hsp
  have kx : K.In s.heap := e0.mod.kin.keeps fun b o e => (e0.bs b o e).1
  have nl : s.heap.NoLimit := e0.mod.nolimit.keeps fun b o e => (e0.bs b o e).1
  have kinds : ∀ y ∈ ps.zip us, (defScope st).names.lookup y.1 = some .local ∨ ((defScope st).names.lookup y.1 = some .cell ∧ ((cellsFrom (s.heap.objs.size + 1) (defScope st).names []).lookup y.1).isSome = true) := fun y hy => by
    obtain ⟨nm, vl⟩ := y
    rcases S.par nm (List.of_mem_zip hy).1 with z | z
    · exact Or.inl z
    · exact Or.inr ⟨z, PySem.W.cellsFrom_some _ _ _ (Or.inl z)⟩
  refine codeAny_call_function hr.depth (kx _ _ lk) rfl S.co S.gen rfl (PySem.W.codeRec_of kx hcd) (hb _ _ _ _ ?_)
  refine wpAny_newFunctionEnv_cells S.kind kinds fun env henv s1 xc => ?_
  subst henv
  refine ⟨nl.keeps xc.toInCall.keep, codeAny_func ?_⟩
  obtain ⟨t, ht, hq⟩ := body f cdv A outer s H vs Q E p (hr.deeper _) hsp
  have ini : L2.Inv (L2H.cxH CX0 P w K mg base N x (defScope st) f cdv A outer s H E p) [] (start N vs) H s1 := L2H.inv_startH S pin e0 ln rel xc
  refine wpAny_mono (ht.nox.run [] s1 (start N vs) H _ ini hq) (fun fl s2 hs => ?_) fun e s2 hs => hs
  have back : ∀ {σ2 : L2.St} {H2 : Hp} {v : V} {u : Value}, L2.Inv (L2H.cxH CX0 P w K mg base N x (defScope st) f cdv A outer s H E p) [] σ2 H2 s2 → RelV v u → Q v H2 → CE outer P w H s Q u s2 :=
    fun {σ2 H2 v u} J rv q => ⟨v, H2, J.os, J.bare, J.base, J.hok, rv, q⟩
  cases fl with
  | ret u =>
    obtain ⟨v, σ2, H2, J, rv, q⟩ := hs
    exact back J rv q
  | next =>
    obtain ⟨σ2, H2, J, q⟩ := hs
    exact back (v := V.non) (u := Value.none) J rfl q
  | brk =>
    obtain ⟨_, _, _, q⟩ := hs
    exact q.elim
  | cont =>
    obtain ⟨_, _, _, q⟩ := hs
    exact q.elim
end
section
variable {X : Cx} {x : Str} {st : Stmt} {ps : List Str} {j k : Nat} {sp : SpZ} {e : Expr} {es : List Expr} {t : TA} {q pos : Pos} {p : Addr × Obj}
/-- f(e, ..) in a suite: p is the exception that is handled -/
theorem pe_z (c : ClZ X.prog X.w X.K X.mg X.base k x st ps sp) (hr : L2H.RoomH j X.A) (hk : k ≤ j) (hp : p ∈ X.pn) (hg : Gl X x) (ha : PA X (e :: es) t)
    (hdb : (x == ("__debug__" : Str)) = false := by decide) (he : starEach (e :: es) X.env = (false, eval e X.env) :: starEach es X.env := by rfl) (hpl : (backTo pos (starEach es X.env)).any (·.1) = false := by rfl) :
    PE X (.Call (.Name x q) (e :: es) [] pos) (tCall (sp p) [] E0 t) := by
  obtain ⟨f, fd, F, G, hm, b⟩ := c.ex
  refine ⟨fun pins s σ H Q I h => wpAny_Call_Name_kw (ld_glob I hg hm ?_ hdb)⟩
  refine PySem.W.callWith_K (h₀ := X.base) I.ok.mod.kin F.kp (thn (ha.run pos pins s σ H _ I h) fun us s1 ⟨vs, H1, I1, rel, z0⟩ => ⟨I1.kIn, ?_⟩) he hpl
  have q1 : sp p vs H1 Q E0 := by
    have z : sp p (vs ++ []) H1 Q E0 := z0
    rw [List.append_nil] at z
    exact z
  have ln : (us ++ []).length = ps.length := by
    rw [List.append_nil, ← rel.length]
    exact G.len _ _ _ _ _ q1
  have bd := b s1 us I1.kIn ln
  rw [List.append_nil] at bd
  have P1 := I1.pin p (List.mem_append_left _ hp)
  have pin : L2H.PinOk X.stack H1 s1 p := ⟨P1.1, P1.2.1, fun hm => (List.mem_cons.mp (I1.stkSub p.1 hm)).elim P1.2.2.1 P1.2.2.2.1, P1.2.2.2.2⟩
  refine wpAny_call (codeAny_mono (G.run X.A X.stack s1 H1 ⟨us, []⟩ us vs Q E0 p (hr.mono hk) pin I1.env0 bd rel q1) fun res s2 hq => ?_)
  cases res with
  | error er => exact hq.elim
  | ok fl =>
    cases fl with
    | ret u => exact I1.after hq
    | next => exact hq.elim
    | brk => exact hq.elim
    | cont => exact hq.elim
end
/-! ### isinstance of the exception in hand; its field -/
/-- an instance of the class D, with its dict -/
structure ExZ (p : Addr × Obj) (D dd : Addr) : Prop where
  z : Zc (.ref D) (some dd) p.2
  f : ∃ vs, p.2.data = .fields vs
def rIsZ (K : PySem.W.Frag) (p : Addr × Obj) (D dd : Addr) : List V → Hp → VK → Prop := fun xs H Q => ∃ (c : V) (cv : Value) (b : Bool) (fs : List (Str × V)), xs = [.ref p.1, c] ∧ (∀ u, RelV c u → u = cv) ∧ PySem.W.kitOne K (.ref D) cv = some b ∧ H dd = some (.xd fs) ∧ Q (.bl b) H
theorem call_isZ {X : Cx} {p : Addr × Obj} {D dd : Addr} (C : ExcC X.K D) (hp : p ∈ X.pn) (hz : ExZ p D dd) : CallR X (.builtin "isinstance") (rIsZ X.K p D dd) := by
  intro pins s σ H xs us Q I r h
  obtain ⟨c, cv, b, fs, rfl, hcv, e, hd, q⟩ := h
  cases r with
  | cons rx rr =>
    cases rr with
    | cons rt rr =>
      cases rr
      cases rx
      cases hcv _ rt
      have get := (I.pin p (List.mem_append_left _ hp)).1
      obtain ⟨mA, hns, _⟩ : ∃ mA, s.heap.Ns1 dd mA ∧ ∀ f, RelO (fs.lookup f) (mA f) := I.hok dd _ hd
      obtain ⟨od, ho, _⟩ := lookIn_ns hns
      obtain ⟨vs, hv⟩ := hz.f
      have J : PySem.W.InstAt s.heap p.1 p.2 D (some od) := ⟨get, hz.z.1, by unfold PySem.W.notCls; rw [hv] <;> rfl, by rw [hz.z.2]; exact ho⟩
      obtain ⟨cd, hc, _⟩ := PySem.W.any_some C.hd
      exact PySem.W.kia_one (PySem.W.kitx_exc (by rw [hc]; rfl) C.hg C.hk C.hs C.ha C.hn C.ht C.hm) I.kIn J e (fun z => nomatch z) fun tk => ⟨.bl b, H, I.kept (t' := tk) fun _ _ z => z, rfl, q⟩
end Lp
namespace Lp
open PySem PySem.Spec PyProof.Rows L2
/-! ### repr of data, of an empty dict too; also where an exception is in hand -/
def RpE (K : PySem.W.Frag) (H : Hp) (v : V) (z : Str) : Prop := (∃ d, Dp K H v d ∧ d.canLay0 = true ∧ d.depth ≤ 60 ∧ d.showable = true ∧ d.shown.length ≤ sizeLine ∧ z = d.shown) ∨ ∃ a, v = .ref a ∧ H a = some (.dK []) ∧ z = (PyData.dict []).shown
mutual
theorem dp_same {K : PySem.W.Frag} {H H' : Hp} (s : Same H H') : ∀ (d : PyData) (v : V), Dp K H v d → Dp K H' v d
  | .none, _, h => by cases h; exact .non
  | .bool b, _, h => by cases h; exact .bl b
  | .int i, _, h => by cases h; exact .int i
  | .str x, _, h => by cases h; exact .str x
  | .list ds, _, h => by
    cases h with
    | lst hs ha => exact .lst (s.seq hs) (dpAll_same s ds _ ha)
  | .tuple ds, _, h => by
    cases h with
    | tup hs ha => exact .tup (SqT.same s hs) (dpAll_same s ds _ ha)
  | .dict _, _, h => by cases h
theorem dpAll_same {K : PySem.W.Frag} {H H' : Hp} (s : Same H H') : ∀ (ds : List PyData) (vs : List V), DpAll K H vs ds → DpAll K H' vs ds
  | [], _, h => by cases h; exact .nil
  | d :: ds, _, h => by
    cases h with
    | cons h1 h2 => exact .cons (dp_same s d _ h1) (dpAll_same s ds _ h2)
end
theorem RpE.same {K : PySem.W.Frag} {H H' : Hp} {v : V} {z : Str} (h : RpE K H v z) (s : Same H H') : RpE K H' v z := by
  rcases h with ⟨d, h1, h2⟩ | ⟨a, h1, h2, h3⟩
  · exact .inl ⟨d, dp_same s d v h1, h2⟩
  · exact .inr ⟨a, h1, s _ _ h2, h3⟩
theorem RpE.non {K : PySem.W.Frag} {H : Hp} : RpE K H .non PyData.none.shown := .inl ⟨_, .non, rfl, by decide, rfl, by decide +kernel, rfl⟩
theorem RpE.bl {K : PySem.W.Frag} {H : Hp} (b : Bool) : RpE K H (.bl b) (PyData.bool b).shown := .inl ⟨_, .bl b, rfl, by cases b <;> decide, by cases b <;> rfl, by cases b <;> decide +kernel, rfl⟩
theorem RpE.int {K : PySem.W.Frag} {H : Hp} {i : Int} (h : i.natAbs.log2 < 1920) : RpE K H (.int i) (PyData.int i).shown := by
  refine .inl ⟨_, .int i, ?_, ?_, ?_, ?_, rfl⟩
  · simp only [PyData.canLay0]
  · simp only [PyData.depth]
    decide
  · simp only [PyData.showable]
    exact decide_eq_true h
  · simp only [PyData.shown]
    have h1 := int_text_len_1921 h
    have h3 : (toString i : Str).length ≤ 1921 := h1
    rw [sizeLine_eq]
    omega
theorem RpE.str {K : PySem.W.Frag} {H : Hp} (x : Str) (ho : PyData.strOk x = true) (h : (PyData.str x).shown.length ≤ sizeLine) : RpE K H (.str x) (PyData.str x).shown := by
  refine .inl ⟨_, .str x, ?_, ?_, ?_, h, rfl⟩
  · simp only [PyData.canLay0]
    exact ho
  · simp only [PyData.depth]
    decide
  · simp only [PyData.showable]
theorem RpE.dict {K : PySem.W.Frag} {H : Hp} {a : Addr} (h : H a = some (.dK [])) : RpE K H (.ref a) (PyData.dict []).shown := .inr ⟨a, rfl, h, rfl⟩
def rReprE (K : PySem.W.Frag) : List V → Hp → VK → Prop := fun xs H Q => ∃ (v : V) (z : Str), xs = [v] ∧ RpE K H v z ∧ Q (.str z) H
theorem call_reprE {X : Cx} {k : Nat} (hr : L2H.RoomH k X.A) (hgd : X.A.guards = some []) : CallR X (.builtin "repr") (rReprE X.K) := by
  intro pins s σ H xs us Q I r h
  obtain ⟨v, z, rfl, hz, q⟩ := h
  obtain ⟨u, rfl, rv⟩ := vals1 r
  have hu := hr.un
  rcases hz with ⟨d, hd, hl, hdp, hs, hz, rfl⟩ | ⟨a, rfl, ha, rfl⟩
  · have fin : ∀ (h' : Heap) (t : Tok) (tk : Tok), (∀ b o, s.heap.get? b = some o → h'.get? b = some o) → EP X pins σ Q (.str d.shown t) { s with heap := h', toks := tk } := fun h' t tk hk =>
      ⟨.str d.shown, H, I.kept (t' := tk) hk, ⟨t, rfl⟩, q⟩
    have fin0 : ∀ (t tk : Tok), EP X pins σ Q (.str d.shown t) { s with toks := tk } := fun t tk => fin s.heap t tk fun _ _ e => e
    obtain ⟨as, rd⟩ := Dp.reads I d v u hd rv
    cases hd with
    | non =>
      cases rv
      exact PySem.P.repr_of_none (fin0 _ _)
    | bl b =>
      cases rv
      have z := fin0 s.toks (s.toks + 1)
      cases b <;> exact PySem.P.repr_of_bool z
    | int i =>
      obtain ⟨t, rfl⟩ := rv
      have hs2 : i.natAbs.log2 < 1920 := of_decide_eq_true hs
      exact PySem.P.repr_of_int hs2 (fin0 _ _)
    | str x =>
      obtain ⟨t, rfl⟩ := rv
      exact PySem.P.repr_of_str (fin0 _ _) hz
    | lst _ _ =>
      cases rv
      exact repr_of_reads' rd hs (PyData.noDict_hsm (PyData.hasDict_of_canLay _ hl)) hgd (by omega) (fun _ _ e => e) (fun h' t tk hk => fin h' t tk hk) hz
    | tup _ _ =>
      cases rv
      exact repr_of_reads' rd hs (PyData.noDict_hsm (PyData.hasDict_of_canLay _ hl)) hgd (by omega) (fun _ _ e => e) (fun h' t tk hk => fin h' t tk hk) hz
  · obtain ⟨_, nsm, vs, kv, o, es, ep, g1, g2, g3, g4, g5, _⟩ := dk_of I.hok ha
    cases rv
    have e0 : vs = [] := by cases kv; rfl
    subst e0
    have e1 : es.toList = [] := List.length_eq_zero_iff.mp g5.length
    have rd : Reads s.heap (.ref a) (.dict []) [a] := by
      have r0 := Reads.dict (kvs := []) (as := []) (bs := []) g1 g2.1 g3 (by rw [e1]; exact .nil) (by rw [e1]; exact .nil)
      exact r0
    refine repr_of_reads' rd rfl (fun _ hm => ?_) hgd (by show X.A.units + (_ + 1) < cLine; have : (PyData.dict []).depth ≤ 60 := by decide
                                                          omega) (fun _ _ e => e) (fun h' t tk hk => ⟨.str _, H, I.kept (t' := tk) hk, ⟨t, rfl⟩, q⟩) (by decide +kernel)
    rw [List.mem_singleton.mp hm] at nsm
    rw [beq_self_eq_true] at nsm
    cases nsm
end Lp
namespace Lp
open PySem PySem.Spec PyProof.Rows L2
theorem call_reprK {X : Cx} {K : PySem.W.Frag} {k : Nat} (e : X.K = K) (hr : L2H.RoomH k X.A) (hgd : X.A.guards = some []) : CallR X (.builtin "repr") (rReprE K) := e ▸ call_reprE hr hgd
theorem rm_mark {k : Nat} {A : Around} (r : Room k A) (h : Option Value) : L2H.RoomH k (A.mark h) := ⟨r.dp, r.un⟩
/-- a try whose suite may be read for every object that the exception may be -/
abbrev wTo (mt : Value → Option Bool) (i : Nat) (ts : Addr → Obj → Value → Option Addr → TS) (D : Ends) : WX := wTs mt i (fun a cls d D σ H => ∀ oe, Zc cls d oe → (∃ vs, oe.data = .fields vs) → ts a oe cls d D σ H) D
theorem ps_tryO {X : Cx} {n : Str} {t : Expr} {mt : Value → Option Bool} {i : Nat} {body suite : List Stmt} {b0 : Stmt} {pos pos2 : Pos} {tb : WX → TS} {ts : Addr → Obj → Value → Option Addr → TS} (hs : X.stack = X.env :: X.outer) (hf : X.env.frame = some X.env.locals) (hN : X.N.Nodup) (hi : X.N[i]? = some n)
    (hln : X.env.kindOf n = some .local) (ht : TstOk X t mt) (hb : ∀ (W : WX) (pn : List (Addr × Obj)) (xe : Value → Shared → Prop), Takes (X.tr pn xe) W → PassesOwn (model X.prog X.w) X.A X.env xe → PSs (X.tr pn xe) body (tb W))
    (hsu : ∀ (a : Addr) (oe : Obj) (cls : Value) (d : Option Addr) (pn : List (Addr × Obj)), Zc cls d oe → (∃ vs, oe.data = .fields vs) → PSs (X.suite a ((a, oe) :: pn)) (b0 :: suite) (ts a oe cls d)) :
    PS X (.Try body [.ExceptHandler (some t) (some n) (b0 :: suite) pos2] [] [] pos) (fun D σ H => tb (wTo mt i ts D) D σ H) :=
  ps_tryT (mt := mt) (tb := tb) (ts := fun a cls d D σ H => ∀ oe, Zc cls d oe → (∃ vs, oe.data = .fields vs) → ts a oe cls d D σ H) hs hf hN hi hln ht hb fun a oe cls d pn hz hv => ⟨fun pins s σ H D I h => (hsu a oe cls d pn hz hv).run pins s σ H D I (h oe hz hv)⟩
end Lp
namespace Lp
open PySem PySem.Spec PyProof.Rows L2
/-! ### a def out of a list, called by position; it may raise -/
def IsX (P : Program) (w : World) (K : PySem.W.Frag) (mg : Str → Option Value) (base : Heap) (k : Nat) (f : Addr) (sp : Sp) : Prop := ∃ (fd : FuncData) (ps : List Str), FnOk P w K mg base (L2.CX P w) k f fd ps sp ∧ PySem.W.keepIn K (.ref f) = true ∧ Binds K fd ps []
theorem ClX.isX {P : Program} {w : World} {K : PySem.W.Frag} {mg : Str → Option Value} {base : Heap} {k : Nat} {x : Str} {st : Stmt} {ps : List Str} {sp : Sp} {a : Addr} (c : ClX P w K mg base k x st ps sp) (hm : mg x = some (.ref a)) : IsX P w K mg base k a sp := by
  obtain ⟨f, fd, F, G, m, b⟩ := c.ex
  cases m.symm.trans hm
  exact ⟨fd, ps, G, F.kp, b⟩
theorem IsX.mono {P : Program} {w : World} {K : PySem.W.Frag} {mg : Str → Option Value} {base : Heap} {j k : Nat} {f : Addr} {sp : Sp} {X : Cx} (c : IsX P w K mg base k f sp) (hr : Room j X.A) (hk : k ≤ j) : Room k X.A := hr.mono hk
def tCallE (P : Program) (w : World) (K : PySem.W.Frag) (mg : Str → Option Value) (base : Heap) (j : Nat) (W : WX) (te : TE) (t : TA) : TE := fun σ H Q => te σ H fun x H1 => ∃ (k : Nat) (f : Addr) (sp : Sp), k ≤ j ∧ x = .ref f ∧ IsX P w K mg base k f sp ∧ t σ H1 fun vs H2 => sp vs H2 Q (WE W σ)
theorem pe_xe {X : Cx} {v i e : Expr} {es : List Expr} {te : TE} {t : TA} {W : WX} {j : Nat} {p pos : Pos} (hw : Takes X W) (hr : Room j X.A) (hf : PE X (.Subscript v i p) te) (ha : PA X (e :: es) t)
    (he : starEach (e :: es) X.env = (false, eval e X.env) :: starEach es X.env := by rfl) (hpl : (backTo pos (starEach es X.env)).any (·.1) = false := by rfl) :
    PE X (.Call (.Subscript v i p) (e :: es) [] pos) (tCallE X.prog X.w X.K X.mg X.base j W te t) := by
  refine ⟨fun pins s σ H Q I h => ?_⟩
  show wpAny (model X.prog X.w) X.A (do callWith pos (← eval (.Subscript v i p) X.env) [] (backTo pos (starEach (e :: es) X.env)) (backToKw pos (keywordEach [] X.env))) _ _ _
  refine wpAny_bind (thn (hf.run pins s σ H _ I h) fun u s1 hh => ?_)
  obtain ⟨x, H1, I1, rx, k, f, sp, hk, ex, ⟨fd, ps, G, kp, b⟩, q⟩ := hh
  subst ex
  cases rx
  refine PySem.W.callWith_K (h₀ := X.base) I1.ok.mod.kin kp (thn (ha.run pos pins s1 σ H1 _ I1 q) fun us s2 hh => ?_) he hpl
  obtain ⟨vs, H2, I2, r, q2⟩ := hh
  exact ⟨I2.kIn, run_fnS G (hr.mono hk) b (passAt hw σ) I2 r q2⟩
/-- a def keeps two promises at once -/
theorem Cl.orX {P : Program} {w : World} {K : PySem.W.Frag} {mg : Str → Option Value} {base : Heap} {j i : Nat} {x : Str} {st : Stmt} {ps : List Str} {sp1 sp2 : Sp} (k : Nat) (c1 : Cl P w K mg base i x st ps sp1) (c2 : ClX P w K mg base j x st ps sp2) (h1 : i ≤ k := by omega) (h2 : j ≤ k := by omega) :
    ClX P w K mg base k x st ps (fun vs H Q E => sp1 vs H Q E ∨ sp2 vs H Q E) := by
  obtain ⟨f, fd, F, G, m, b⟩ := c1.ex
  obtain ⟨f', fd', F', G', m', _⟩ := c2.ex
  cases m.symm.trans m'
  have same : fd' = fd := by
    obtain ⟨_, _, _, _, _, _, _, _, _, _, _, l1, _⟩ := F.ex
    obtain ⟨_, _, _, _, _, _, _, _, _, _, _, l2, _⟩ := F'.ex
    have e := l1.symm.trans l2
    simp only [Option.some.injEq, Obj.mk.injEq, Data.func.injEq] at e
    exact e.2.2.1.symm
  subst same
  refine ⟨f, fd', F, ⟨fun vs H Q E z => z.elim (G.len vs H Q E) (G'.len vs H Q E), fun A outer s H args us vs Q E hr e0 hb rel z => ?_⟩, m, b⟩
  rcases z with z | z
  · refine codeAny_mono (G.run A outer s H args us vs Q E (hr.mono h1) e0 hb rel z) fun r s' q => ?_
    cases r with
    | ok fl => cases fl <;> exact q
    | error e => exact False.elim q
  · exact G'.run A outer s H args us vs Q E (hr.mono h2) e0 hb rel z
end Lp
namespace Lp
open PySem PySem.Spec PyProof.Rows L2
/-! ### own exception classes over any built-in base, with one field -/
/-- what is asked of such a class: its bases end with the rows of the base -/
structure OexT (K : PySem.W.Frag) (C : Addr) (rows : List Value) (maker : String) : Prop where
  made : PySem.W.excInitIn K C rows maker = true
  over : PySem.W.excOver K C rows = true
  dict : PySem.W.hasDictIn K C = true
  store : PySem.W.findIn K (Value.ref C) "__setattr__" = some (some (.builtin "object.__setattr__"))
  isExc : PySem.W.subIn K (Value.ref C) (.type "BaseException") = some true
  ofType : PySem.W.typeIn K (Value.ref C) = some (.type "type")
  kept_ : PySem.W.keepIn K (Value.ref C) = true
section
variable {X : Cx} {pins : List (Addr × Obj)} {σ : L2.St} {H : Hp} {s : Shared} {a C : Addr} {f : Str} {y : V} {u : Value} {Q : Unit → Shared → Prop} {E : Value → Shared → Prop} {A : Around} {base maker : String} {rows : List Value}
/-- the first field: the exception's dict is made and holds it -/
theorem ost_first (SF : StoreFacts base rows "object.__setattr__" "object") (T : OexT X.K C rows maker) (free : PySem.W.takerIn X.K C f = some none) (I : Inv X pins σ H s) (here : H a = some (exo a C none)) (ry : RelV y u)
    (done : ∀ dx s', H dx = none → dx ≠ a → Inv X pins σ (upd (upd H dx (exd dx [(f, y)])) a (exo a C (some dx))) s' → Q () s') : wpAny (model X.prog X.w) A (setAttr (.ref a) f u) Q E s := by
  obtain ⟨t1, ho⟩ := exo_at I.hok here
  obtain ⟨cd, look, hasd⟩ := PySem.W.any_some T.dict
  have J1 : Inv X pins σ (upd H s.heap.objs.size (exd s.heap.objs.size [])) { s with heap := s.heap.push (PySem.W.dictOf [] 0), toks := s.toks } := by
    refine I.laid (fun b o z => Heap.get?_push_of_some _ z) (Nat.le_refl _) (exd_ok (mA := fun _ => none) (Heap.Ns1.of_empty ⟨_, #[], _, Heap.get?_push_at rfl rfl, rfl, fun e he => absurd he (by simp), fun _ => rfl⟩) fun g => True.intro)
  obtain ⟨mem, gl, dr, tks, os⟩ := s
  have fresh : H mem.objs.size = none := I.hok.fresh (Nat.le_refl _)
  have apart : a ≠ mem.objs.size := Nat.ne_of_lt (Heap.lt_size ho)
  have ho1 : (mem.push (PySem.W.dictOf [] 0)).get? a = some (PySem.W.excObj C t1 none .none) := Heap.get?_push_of_some _ ho
  have e1 : upd H mem.objs.size (exd mem.objs.size []) a = some (exo a C none) := by
    rw [upd_ne apart]
    exact here
  let mem2 := (mem.push (PySem.W.dictOf [] 0)).update a fun o => { o with dict := some mem.objs.size }
  have at2 : mem2.get? a = some (PySem.W.excObj C t1 (some mem.objs.size) .none) := Heap.get?_update_self _ ho1 rfl
  have J2 : Inv X pins σ (upd (upd H mem.objs.size (exd mem.objs.size [])) a (exo a C (some mem.objs.size))) ⟨mem2, gl, dr, tks, os⟩ :=
    J1.write (t' := tks) (x := a) (e := a) (by rw [e1]; exact True.intro) (.inl rfl) (fun b o ne z => (Heap.get?_update_ne _ _ _ _ ne).trans z) ⟨_, at2⟩ (exo_ok at2)
  have dict2 : mem2.Ns mem.objs.size fun _ => none := ⟨_, #[], _, (Heap.get?_update_ne _ _ _ _ apart.symm).trans (Heap.get?_push_at rfl rfl), rfl, fun e he => absurd he (by simp), fun _ => rfl⟩
  refine PySem.W.set_plain I.kIn (ox := PySem.W.excObj C t1 none .none) (od := none) ⟨ho, rfl, rfl, trivial⟩ T.store ?_
  refine PySem.W.osa_openX (od := none) SF I.kIn ⟨ho, rfl, rfl, trivial⟩ T.over free fun b => ?_
  refine wpAny_bind (wpAny_pure (wpAny_bind (PySem.W.instanceDict_exc ho (PySem.W.looks_clsIn I.kIn look) hasd ?_)))
  show wpAny _ _ (Builtin.ObjectAttr.storeInDict mem.objs.size (.str f _) f u) _ _ _
  refine PySem.HandSPX.store_in_new dict2 fun mem3 tk3 ns same => ?_
  have J3 := J2.write (h' := mem3) (t' := tk3) (x := mem.objs.size) (e := mem.objs.size) (o := exd mem.objs.size [(f, y)]) (by rw [upd_ne apart.symm, upd_same]; exact True.intro) (.inl rfl) (fun b o ne z => (same.2 b ne).trans z) (by
    obtain ⟨o, _, _, e', _⟩ := ns
    exact ⟨o, e'⟩) (exd_ok ns (relO_put (fs := []) ry fun _ => True.intro))
  have swap : upd (upd (upd H mem.objs.size (exd mem.objs.size [])) a (exo a C (some mem.objs.size))) mem.objs.size (exd mem.objs.size [(f, y)]) = upd (upd H mem.objs.size (exd mem.objs.size [(f, y)])) a (exo a C (some mem.objs.size)) := by
    funext b
    by_cases h1 : b = mem.objs.size
    · rw [h1, upd_same, upd_ne apart.symm, upd_same]
    · rw [upd_ne h1]
      by_cases h2 : b = a
      · rw [h2, upd_same, upd_same]
      · rw [upd_ne h2, upd_ne h2, upd_ne h1, upd_ne h1]
  rw [swap] at J3
  exact done mem.objs.size _ fresh apart.symm J3
end
/-- self.f = e, the first field -/
def tOne (K : PySem.W.Frag) (f : Str) (to te : TE) : TS := fun D σ H => te σ H fun y H1 => to σ H1 fun x H2 => ∃ (a C : Addr) (base maker : String) (rows : List Value), x = .ref a ∧ StoreFacts base rows "object.__setattr__" "object" ∧ OexT K C rows maker ∧ PySem.W.takerIn K C f = some none ∧
  H2 a = some (exo a C none) ∧ ∀ dx, H2 dx = none → dx ≠ a → D.nx σ (upd (upd H2 dx (exd dx [(f, y)])) a (exo a C (some dx)))
theorem ps_one {X : Cx} {o e : Expr} {to te : TE} {f : Str} {q pos : Pos} (ho : PE X o to) (he : PE X e te) (hs : swapsWith e (some (.Attribute o f q)) pos.line X.env = pure false := by rfl) : PS X (.Assign [.Attribute o f q] e pos) (tOne X.K f to te) := by
  refine ⟨fun pins s σ H D I h => plainObj_wpAny_Assign_Attribute (thn (he.run pins s σ H _ I h) fun v s1 z1 => ?_) hs⟩
  obtain ⟨y, H1, I1, r1, q1⟩ := z1
  refine thn (ho.run pins s1 σ H1 _ I1 q1) fun u s2 z2 => ?_
  obtain ⟨x, H2, I2, r2, a, C, base, maker, rows, rfl, SF, T, free, here, go⟩ := z2
  obtain rfl : u = Value.ref a := by exact r2
  exact ost_first SF T free I2 here r1 fun dx s' n ne J => ⟨σ, _, J, go dx n ne⟩
/-- the class x, over any base, has an __init__ that keeps its one argument in the field f -/
structure ET (P : Program) (w : World) (K : PySem.W.Frag) (mg : Str → Option Value) (base : Heap) (x f : Str) : Prop where
  gC : mg x = some (.ref (He.ga K x))
  ox : ∃ (up maker ini : String) (rows : List Value), StoreFacts up rows "object.__setattr__" "object" ∧ ExcBaseFacts up maker ini rows ∧ OexT K (He.ga K x) rows maker
  xf : XfC K (He.ga K x)
  noN : PySem.W.findIn K (.ref (He.ga K x)) f = some none
  iC : PySem.W.findIn K (.ref (He.ga K x)) "__init__" = some (some (.ref (He.ma K (He.ga K x) "__init__")))
  tC : PySem.W.typeIn K (.ref (He.ma K (He.ga K x) "__init__")) = some (.type "function")
  fn : ∃ fd, FnOk P w K mg base CX0 1 (He.ma K (He.ga K x) "__init__") fd (["self", f] : List Str) (fun vs H Q _ => ∃ (a : Addr) (v : V), vs = [.ref a, v] ∧ H a = some (exo a (He.ga K x) none) ∧ ∀ dx, H dx = none → dx ≠ a → Q .non (upd (upd H dx (exd dx [(f, v)])) a (exo a (He.ga K x) (some dx)))) ∧ Binds K fd (["self", f] : List Str) []
/-- C(e) -/
theorem pmk_t {X : Cx} {x f : Str} {e : Expr} {ta : TA} {j : Nat} {p pos : Pos} (T : ET X.prog X.w X.K X.mg X.base x f) (hr : Room j X.A) (hj : 2 ≤ j) (hg : Gl X x) (ha : PA X [e] ta)
    (hdb : (x == ("__debug__" : Str)) = false := by decide) (he : starEach [e] X.env = (false, eval e X.env) :: starEach [] X.env := by rfl) (hpl : (backTo pos (starEach [] X.env)).any (·.1) = false := by rfl) :
    PMk X (.Call (.Name x p) [e] [] pos) (tMkE (He.ga X.K x) f ta) := by
  obtain ⟨fd, run_, bnd⟩ := T.fn
  obtain ⟨up, maker, ini, rows, SF, FB, TX⟩ := T.ox
  intro pins s σ H Q I h
  refine wpAny_Call_Name_kw (ld_glob I hg T.gC ?_ hdb)
  refine PySem.W.callWith_K (h₀ := X.base) I.ok.mod.kin TX.kept_ (thn (ha.run pos pins s σ H _ I h) fun us s1 z1 => ?_) he hpl
  obtain ⟨vs, H1, I1, r1, v, rfl, go⟩ := z1
  obtain ⟨u, rfl, ru⟩ := L2.vals1 r1
  refine ⟨I1.kIn, ?_⟩
  obtain ⟨nm, N, qn, bs, bm, hdct, sn, sub, ab, col, dd, k0, k1, k2, k3, k5, atC, names⟩ := PySem.W.excInit_of I1.kIn TX.made
  obtain ⟨hp, g, dr, tk, out⟩ := s1
  have new : H1 (hp.objs.size + 1) = none := I1.hok.fresh (Nat.le_succ _)
  have keeps : ∀ b o, hp.get? b = some o → ((hp.push (PySem.W.kdv_tup [u])).push (PySem.HandSPX.excO (He.ga X.K x) hp.objs.size)).get? b = some o := fun b o z => Heap.get?_push_of_some _ (Heap.get?_push_of_some _ z)
  have exc_ : ((hp.push (PySem.W.kdv_tup [u])).push (PySem.HandSPX.excO (He.ga X.K x) hp.objs.size)).get? (hp.objs.size + 1) = some (PySem.HandSPX.excO (He.ga X.K x) hp.objs.size) := by heap_get
  have I2 := I1.laid (t' := tk) (o := exo (hp.objs.size + 1) (He.ga X.K x) none) keeps (Nat.le_succ _) (exo_ok exc_)
  have vals2 : Vals [V.ref (hp.objs.size + 1), v] [Value.ref (hp.objs.size + 1), u] := .cons rfl (.cons ru .nil)
  have one : ([u] : List Value).length ≤ sizeLine := by show 1 ≤ sizeLine; decide
  have bd := bnd (Shared.mk ((hp.push (PySem.W.kdv_tup [u])).push (PySem.HandSPX.excO (He.ga X.K x) hp.objs.size)) g dr tk out) [Value.ref (hp.objs.size + 1), u] I2.kIn rfl
  refine wpAny_call (PySem.HandSPX.call_own FB names atC (PySem.W.looks_findIn I1.kIn T.iC) (fun self => PySem.W.bind_fn I1.kIn self T.tC) one
    (codeAny_mono (run_.run _ X.stack _ _ ⟨[Value.ref (hp.objs.size + 1), u], []⟩ [Value.ref (hp.objs.size + 1), u] _ (fun w G => w = .non ∧ ∃ dx, H1 dx = none ∧ dx ≠ hp.objs.size + 1 ∧ G = upd (upd (upd H1 (hp.objs.size + 1) (exo (hp.objs.size + 1) (He.ga X.K x) none)) dx (exd dx [(f, v)])) (hp.objs.size + 1) (exo (hp.objs.size + 1) (He.ga X.K x) (some dx))) (fun _ _ _ => False) ((hr.mono hj).make (He.ga X.K x) [u] []) (I2.env0.make (He.ga X.K x) [u] []) bd vals2
      ⟨_, v, rfl, upd_same, fun dx n ne => ⟨rfl, dx, by rw [upd_ne ne] at n; exact n, ne, rfl⟩⟩) fun r s' back => ?_))
  cases r with
  | error er => exact pass0 pins σ _ _ er s' I2 back
  | ok fl =>
    cases fl with
    | next => exact back.elim
    | brk => exact back.elim
    | cont => exact back.elim
    | ret back_ =>
      obtain ⟨w2, G, same, bare, un, ok2, rv, ew, dx, ndx, ne, rfl⟩ := back
      subst ew
      obtain ⟨h2, g2, d2, t2, os2⟩ := s'
      have last : upd (del (upd (upd (upd H1 (hp.objs.size + 1) (exo (hp.objs.size + 1) (He.ga X.K x) none)) dx (exd dx [(f, v)])) (hp.objs.size + 1) (exo (hp.objs.size + 1) (He.ga X.K x) (some dx))) (hp.objs.size + 1)) dx (.xd [(f, v)]) = upd H1 dx (.xd [(f, v)]) := by
        funext b
        by_cases hb : b = dx
        · rw [hb, upd_same, upd_same]
        · rw [upd_ne hb, upd_ne hb]
          by_cases he : b = hp.objs.size + 1
          · rw [he, del_same, new]
          · rw [del_ne he, upd_ne he, upd_ne hb, upd_ne he]
      have q := go dx ndx
      rw [← last] at q
      exact ⟨rv, mk_end (raises_own TX.isExc TX.ofType) I1 (Nat.le_succ _) keeps un ok2 same bare upd_same ((upd_ne ne).trans upd_same) ndx q⟩
section
variable {P : Program} {w : World} {K : PySem.W.Frag} {mg : Str → Option Value} {base : Heap} {h : Heap} {x f q : Str} {st : Stmt} {up maker ini : String} {rows : List Value}
theorem ET.of {fd : FuncData} (SF : StoreFacts up rows "object.__setattr__" "object") (FB : ExcBaseFacts up maker ini rows) (gC : mg x = some (.ref (He.ga K x))) (e : etB K x f rows maker = true) (F : FunD K "__init__" q (defArgs (initOf st)) (defBody (initOf st)) (defScope (initOf st)) [] [] (He.ma K (He.ga K x) "__init__") fd)
    (S : FnScope (["self", f] : List Str) (["self", f] : List Str) (defScope (initOf st)))
    (bd : ∀ (kV doc pm : Value) (an : Option Addr) (cdv ct : Value) (us : List Value), us.length = 2 → bindArgs (PySem.W.fnOf "__init__" q (defArgs (initOf st)) (defBody (initOf st)) (defScope (initOf st)) .none kV doc pm an cdv ct) ⟨us, []⟩ = pure ((["self", f] : List Str).zip us))
    (hb : ∀ X : Cx, X.N = (["self", f] : List Str) → X.env.scope = defScope (initOf st) → X.fn "self" = true → PSs X (defBody (initOf st)) (tSeq (tOne X.K f (tVar 0) (tVar 1)) tNext)) : ET P w K mg base x f := by
  unfold etB at e
  simp only [Bool.and_eq_true, decide_eq_true_eq] at e
  obtain ⟨e1, e2, e3, e4, e5, e6, e7, e8, e9, e10, e11⟩ := e
  have ox : OexT K (He.ga K x) rows maker := ⟨e1, e2, e3, e4, e5, e6, e7⟩
  refine ⟨gC, ⟨up, maker, ini, rows, SF, FB, ox⟩, xfB_ok e8, e9, e10, e11, fd, F.ok S (fun vs H Q E z => ?_) fun cdv A outer s H vs Q E hr z => ?_, F.bindsN bd⟩
  · obtain ⟨a, v, rfl, _⟩ := z
    rfl
  · obtain ⟨a, v, rfl, here, go⟩ := z
    have free : PySem.W.takerIn K (He.ga K x) f = some none := by
      unfold PySem.W.takerIn
      rw [e9]
      rfl
    exact ⟨_, hb _ rfl rfl rfl, _, rfl, _, rfl, a, _, up, maker, rows, rfl, SF, ox, free, here, go⟩
end
end Lp
namespace Lp
open PySem PySem.Spec PyProof.Rows L2
/-! ### repr of data that holds empty dicts: lists made so that their address is known not to be the modules' dict -/
/-- a number as a dict's key -/
abbrev kI (n : Int) : L2.Key := Sum.inl n
mutual
inductive Dr (K : PySem.W.Frag) (H : Hp) : V → PyData → Prop
  | non : Dr K H .non .none
  | bl (b : Bool) : Dr K H (.bl b) (.bool b)
  | int (i : Int) : Dr K H (.int i) (.int i)
  | str (x : Str) : Dr K H (.str x) (.str x)
  | lst {a : Addr} {xs : List V} {ds : List PyData} : H a = some (.lst xs) → a ≠ sysModules → DrAll K H xs ds → Dr K H (.ref a) (.list ds)
  | tup {a : Addr} {xs : List V} {ds : List PyData} : SqT K H a xs → DrAll K H xs ds → Dr K H (.ref a) (.tuple ds)
  | dct {a : Addr} : H a = some (.dK []) → Dr K H (.ref a) (.dict [])
  | dct1 {a : Addr} {ns : List Int} : H a = some (.dT [(ns.map kI, .int 1)]) → Dr K H (.ref a) (.dict [(.tuple (ns.map PyData.int), .int 1)])
inductive DrAll (K : PySem.W.Frag) (H : Hp) : List V → List PyData → Prop
  | nil : DrAll K H [] []
  | cons {x : V} {xs : List V} {d : PyData} {ds : List PyData} : Dr K H x d → DrAll K H xs ds → DrAll K H (x :: xs) (d :: ds)
end
section
variable {X : Cx} {pins : List (Addr × Obj)} {σ : L2.St} {H : Hp} {s : Shared}
theorem intsRead {h : Heap} : ∀ {ns : List Int} {us : List Value}, Vals (ns.map V.int) us → ReadsAll h us (ns.map PyData.int) []
  | [], _, r => by
    cases r
    exact .nil
  | n :: ns, _, r => by
    cases r with
    | cons r1 r2 =>
      obtain ⟨t, rfl⟩ := r1
      exact ReadsAll.cons (as := []) (Reads.int n t) (intsRead r2)
mutual
theorem Dr.reads (I : Inv X pins σ H s) : ∀ (d : PyData) (v : V) (u : Value), Dr X.K H v d → RelV v u → ∃ as, Reads s.heap u d as ∧ sysModules ∉ as
  | .none, _, _, h, r => by
    cases h
    cases r
    exact ⟨_, Reads.none, List.not_mem_nil⟩
  | .bool b, _, _, h, r => by
    cases h
    cases r
    exact ⟨_, Reads.bool b, List.not_mem_nil⟩
  | .int i, _, _, h, r => by
    cases h
    obtain ⟨t, rfl⟩ := r
    exact ⟨_, Reads.int i t, List.not_mem_nil⟩
  | .str x, _, _, h, r => by
    cases h
    obtain ⟨t, rfl⟩ := r
    exact ⟨_, Reads.str x t, List.not_mem_nil⟩
  | .list ds, _, _, h, r => by
    cases h with
    | lst hs ne ha =>
      cases r
      obtain ⟨its, rv, ⟨o, n, ho, hc, _, hd⟩, _⟩ := I.list (.inl (.inl hs))
      obtain ⟨as, hr, no⟩ := Dr.readsAll I ds _ its ha rv
      exact ⟨_, Reads.list ho hc hd hr, fun z => (List.mem_cons.mp z).elim (fun e => ne e.symm) no⟩
  | .tuple ds, _, _, h, r => by
    cases h with
    | tup hs ha =>
      cases r
      obtain ⟨its, rv, ⟨o, ho, hc, n, hd⟩, _⟩ := I.tuple hs
      obtain ⟨as, hr, no⟩ := Dr.readsAll I ds _ its ha rv
      exact ⟨_, Reads.tuple ho hc hd hr, no⟩
  | .dict kvs, _, _, h, r => by
    cases h with
    | dct ha =>
      cases r
      obtain ⟨_, nsm, vs, kv, o, es, ep, g1, g2, g3, g4, g5, _⟩ := dk_of I.hok ha
      have e0 : vs = [] := by cases kv; rfl
      subst e0
      have e1 : es.toList = [] := List.length_eq_zero_iff.mp g5.length
      refine ⟨_, Reads.dict (kvs := []) (as := []) (bs := []) g1 g2.1 g3 (by rw [e1]; exact .nil) (by rw [e1]; exact .nil), fun z => ?_⟩
      rw [List.append_nil] at z
      rw [← List.mem_singleton.mp z, beq_self_eq_true] at nsm
      cases nsm
    | @dct1 a ns ha =>
      cases r
      obtain ⟨_, nsm, xs, kt, o, es, ep, g1, g2, g3, g4, _, _⟩ := dt_of I.hok ha
      cases kt with
      | @cons _ x _ _ hq t =>
        cases t
        obtain ⟨e1, hb, rv⟩ := hq
        obtain ⟨y, b, val⟩ := x
        have e1 : ns.map kI = y := e1
        subst e1
        have hb : H b = some (.tup ((ns.map kI).map L2.kV)) := hb
        obtain ⟨t, ev⟩ : ∃ t, val = .int 1 t := rv
        subst ev
        rw [List.map_map, show L2.kV ∘ kI = V.int from rfl] at hb
        obtain ⟨its, rel, ⟨o2, ho2, hc2, n2, hd2⟩, _⟩ := I.tuple (.inl (.inl hb))
        refine ⟨_, Reads.dict (kvs := [(.tuple (ns.map PyData.int), .int 1)]) (as := []) (bs := []) g1 g2.1 g3 ?_ ?_, fun z => ?_⟩
        · rw [g4]
          exact ReadsAll.cons (as := []) (Reads.tuple ho2 hc2 hd2 (intsRead rel)) .nil
        · rw [g4]
          exact ReadsAll.cons (as := []) (Reads.int 1 t) .nil
        · rw [List.append_nil] at z
          rw [← List.mem_singleton.mp z, beq_self_eq_true] at nsm
          cases nsm
theorem Dr.readsAll (I : Inv X pins σ H s) : ∀ (ds : List PyData) (vs : List V) (us : List Value), DrAll X.K H vs ds → Vals vs us → ∃ as, ReadsAll s.heap us ds as ∧ sysModules ∉ as
  | [], _, _, h, r => by
    cases h
    cases r
    exact ⟨_, ReadsAll.nil, List.not_mem_nil⟩
  | d :: ds, _, _, h, r => by
    cases h with
    | cons h1 h2 =>
      cases r with
      | cons r1 r2 =>
        obtain ⟨as, q1, n1⟩ := Dr.reads I d _ _ h1 r1
        obtain ⟨bs, q2, n2⟩ := Dr.readsAll I ds _ _ h2 r2
        exact ⟨_, ReadsAll.cons q1 q2, fun z => (List.mem_append.mp z).elim n1 n2⟩
end
end
mutual
theorem Dr.same {K : PySem.W.Frag} {H H' : Hp} (s : Same H H') : ∀ {d : PyData} {v : V}, Dr K H v d → Dr K H' v d
  | .none, _, h => by cases h; exact .non
  | .bool b, _, h => by cases h; exact .bl b
  | .int i, _, h => by cases h; exact .int i
  | .str x, _, h => by cases h; exact .str x
  | .list ds, _, h => by
    cases h with
    | lst hs ne ha => exact .lst (s _ _ hs) ne (DrAll.same s ha)
  | .tuple ds, _, h => by
    cases h with
    | tup hs ha => exact .tup (SqT.same s hs) (DrAll.same s ha)
  | .dict _, _, h => by
    cases h with
    | dct ha => exact .dct (s _ _ ha)
    | dct1 ha => exact .dct1 (s _ _ ha)
theorem DrAll.same {K : PySem.W.Frag} {H H' : Hp} (s : Same H H') : ∀ {ds : List PyData} {vs : List V}, DrAll K H vs ds → DrAll K H' vs ds
  | [], _, h => by cases h; exact .nil
  | d :: ds, _, h => by
    cases h with
    | cons h1 h2 => exact .cons (Dr.same s h1) (DrAll.same s h2)
end
/-- a list, or a tuple, that may be shown -/
def rReprR (K : PySem.W.Frag) : List V → Hp → VK → Prop := fun xs H Q => ∃ (a : Addr) (d : PyData), xs = [.ref a] ∧ Dr K H (.ref a) d ∧ d.depth ≤ 60 ∧ d.showable = true ∧ d.shown.length ≤ sizeLine ∧ Q (.str d.shown) H
theorem call_reprR {X : Cx} {k : Nat} (hr : L2H.RoomH k X.A) (hgd : X.A.guards = some []) : CallR X (.builtin "repr") (rReprR X.K) := by
  intro pins s σ H xs us Q I r h
  obtain ⟨a, d, rfl, hd, hdp, hs, hz, q⟩ := h
  obtain ⟨u, rfl, rv⟩ := vals1 r
  have hu := hr.un
  obtain ⟨as, rd, no⟩ := Dr.reads I d _ u hd rv
  cases rv
  exact repr_of_reads' rd hs (fun _ => no) hgd (by omega) (fun _ _ e => e) (fun h' t tk hk => ⟨.str d.shown, H, I.kept (t' := tk) hk, ⟨t, rfl⟩, q⟩) hz
/-- a list display, its address told not to be the modules' dict -/
def tLstB (t : TA) : TE := fun σ H Q => t σ H fun xs H1 => xs.length ≤ sizeLine ∧ ∀ p, H1 p = none → p ≠ sysModules → Q (.ref p) (upd H1 p (.lst xs))
theorem pe_lstB {X : Cx} {es : List Expr} {t : TA} {pos : Pos} (h : PA X es t) : PE X (.List es pos) (tLstB t) := by
  refine ⟨fun pins s σ H Q I hq => wpAny_List_spliced (thn (h.run pos pins s σ H _ I hq) fun us s1 z => ?_)⟩
  obtain ⟨xs, H1, I1, r, sz, q⟩ := z
  have new : H1 s1.heap.objs.size = none := I1.hok.fresh (Nat.le_refl _)
  refine ⟨by rw [← r.length]; exact sz, .ref s1.heap.objs.size, upd H1 s1.heap.objs.size (.lst xs), I1.laid (t' := s1.toks) (fun b u e => Heap.get?_push_of_some _ e) (Nat.le_refl _) ?_, rfl, q _ new (Nat.ne_of_gt I1.big)⟩
  exact ⟨sz, us, 0, r, Heap.get?_push_size _ rfl⟩
/-- list(x) of a tuple or a list, with the same telling -/
def rListB (K : PySem.W.Frag) : List V → Hp → VK → Prop := fun xs H Q => ∃ (p : Addr) (ys : List V), xs = [.ref p] ∧ (SqL K H p ys ∨ SqT K H p ys) ∧ ∀ l, H l = none → l ≠ sysModules → Q (.ref l) (upd H l (.lst ys))
theorem call_listB {X : Cx} : CallR X (.type "list") (rListB X.K) := by
  intro pins s σ H xs us Q I r h
  obtain ⟨p, ys, rfl, at_, q⟩ := h
  obtain ⟨u, rfl, rx⟩ := vals1 r
  cases rx
  have last : ∀ (its : List Value), Vals ys its → ys.length ≤ sizeLine → ∀ (mem : Heap) (c : Nat), (∀ b o, s.heap.get? b = some o → mem.get? b = some o) →
      mem.get? s.heap.objs.size = some { cls := .type "list", dict := none, data := .seq its.toArray c, slots := #[] } → EP X pins σ Q (.ref s.heap.objs.size) { s with heap := mem } := fun its rel few mem c keeps new =>
    ⟨.ref s.heap.objs.size, _, I.laid (t' := s.toks) (o := .lst ys) keeps (Nat.le_refl _) ⟨few, its, c, rel, new⟩, rfl, q _ (I.hok.fresh (Nat.le_refl _)) (Nat.ne_of_gt I.big)⟩
  rcases at_ with at_ | at_
  · obtain ⟨its, rel, pl, few⟩ := I.list at_
    have len := rel.length
    obtain ⟨o, ho, hc, n, hd⟩ := pl.isList
    exact call_list_seq p (.inl rfl) ho hc hd (fun mem c keeps new => last its rel few mem c keeps new) (by simp only [List.size_toArray]; omega)
  · obtain ⟨its, rel, ⟨o, ho, hc, n, hd⟩, few⟩ := I.tuple at_
    have len := rel.length
    exact call_list_seq p (.inr rfl) ho hc hd (fun mem c keeps new => last its rel few mem c keeps new) (by simp only [List.size_toArray]; omega)
end Lp
namespace Lp
open PySem PySem.Spec PyProof.Rows L2
/-! ### displays whose parts are only known by what they are -/
section
variable {X : Cx} {Pre : L2.St → Hp → Prop} {F G : Hp → V → Prop} {n : Nat} {e : Expr} {es : List Expr} {pos : Pos}
def tV (Pre : L2.St → Hp → Prop) (F : Hp → V → Prop) : TE := fun σ H Q => Pre σ H ∧ ∀ (v : V) (H' : Hp), Same H H' → F H' v → Q v H'
def tVs (Pre : L2.St → Hp → Prop) (F : Hp → V → Prop) (n : Nat) : TA := fun σ H Q => Pre σ H ∧ ∀ (vs : List V) (H' : Hp), Same H H' → vs.length = n → (∀ v ∈ vs, F H' v) → Q vs H'
def tVl (Pre : L2.St → Hp → Prop) (F : Hp → V → Prop) (n : Nat) : TE := fun σ H Q => Pre σ H ∧ ∀ (l : Addr) (vs : List V) (H' : Hp), Same H H' → H l = none → l ≠ sysModules → H' l = some (.lst vs) → vs.length = n → (∀ v ∈ vs, F H' v) → Q (.ref l) H'
def StP (Pre : L2.St → Hp → Prop) : Prop := ∀ σ H H', Pre σ H → Same H H' → Pre σ H'
def StF (F : Hp → V → Prop) : Prop := ∀ H H' v, F H v → Same H H' → F H' v
theorem v_by {te : TE} (h : PE X e te) (i : ∀ σ H Q, Pre σ H → (∀ (v : V) (H' : Hp), Same H H' → F H' v → Q v H') → te σ H Q) : PE X e (tV Pre F) := PE.by h fun σ H Q q => i σ H Q q.1 q.2
theorem vs_by {t t' : TA} (h : PA X es t) (i : ∀ σ H Q, t' σ H Q → t σ H Q) : PA X es t' := ⟨fun pos pins s σ H Q I q => h.run pos pins s σ H Q I (i σ H Q q)⟩
theorem v_int {i : Int} {j} (h : ∀ σ H, Pre σ H → F H (.int i)) : PE X (.Constant (.int i) j pos) (tV Pre F) := v_by pe_int fun σ H _ p q => q _ _ (Same.refl H) (h σ H p)
theorem v_str {z : Str} {j} (h : ∀ σ H, Pre σ H → F H (.str z)) : PE X (.Constant (.str z) j pos) (tV Pre F) := v_by pe_str fun σ H _ p q => q _ _ (Same.refl H) (h σ H p)
theorem v_bl {b : Bool} {j} (h : ∀ σ H, Pre σ H → F H (.bl b)) : PE X (.Constant (.bool b) j pos) (tV Pre F) := v_by pe_bl fun σ H _ p q => q _ _ (Same.refl H) (h σ H p)
theorem v_non {j} (h : ∀ σ H, Pre σ H → F H .non) : PE X (.Constant .none j pos) (tV Pre F) := v_by pe_non fun σ H _ p q => q _ _ (Same.refl H) (h σ H p)
theorem v_neg {i : Int} {j p2} (h : ∀ σ H, Pre σ H → F H (.int (-i))) : PE X (.UnaryOp .USub (.Constant (.int i) j pos) p2) (tV Pre F) := v_by (pe_un un_neg pe_int) fun σ H _ p q => ⟨_, rfl, q _ _ (Same.refl H) (h σ H p)⟩
theorem v_pow {i m : Int} {j j2 p2 p3} (h1 : 0 ≤ m) (h2 : m ≤ 1000000) (h3 : i.natAbs < 2 ^ 64) (h : ∀ σ H, Pre σ H → F H (.int (i ^ m.toNat))) : PE X (.BinOp (.Constant (.int i) j pos) .Pow (.Constant (.int m) j2 p2) p3) (tV Pre F) :=
  v_by (pe_op op_pow pe_int pe_int) fun σ H _ p q => ⟨_, _, rfl, rfl, ⟨h1, h2, h3⟩, q _ _ (Same.refl H) (h σ H p)⟩
theorem v_var (i : Nat) {x : Str} (h : ∀ σ H, Pre σ H → ∃ v, σ[i]? = some (some v) ∧ F H v) (hN : X.N[i]? = some x := by rfl) (hv : Vis X.env.scope x := by first | exact Or.inl rfl | exact Or.inr (Or.inl rfl) | exact Or.inr (Or.inr rfl)) (hd : (x == ("__debug__" : Str)) = false := by decide)
    (hcd : (x == ("__classdict__" : Str)) = false := by decide) : PE X (.Name x pos) (tV Pre F) := v_by (pv i hN hv hd hcd) fun σ H _ p q => by
  obtain ⟨v, e, f⟩ := h σ H p
  exact ⟨v, e, q _ _ (Same.refl H) f⟩
theorem vs_nil : PA X [] (tVs Pre F 0) := vs_by pa_nil fun _ H _ q => q.2 _ _ (Same.refl H) rfl fun v hv => nomatch hv
theorem vs_cons (sP : StP Pre) (sF : StF F) (ha : PE X e (tV Pre F)) (hr : PA X es (tVs Pre F n)) (hs : starEach (e :: es) X.env = (false, eval e X.env) :: starEach es X.env := by rfl) : PA X (e :: es) (tVs Pre F (n + 1)) :=
  vs_by (pa_cons ha hr hs) fun σ H _ q => ⟨q.1, fun v G s1 f1 => ⟨sP σ H G q.1 s1, fun vs G2 s2 len f2 => q.2 _ _ (s1.trans s2) (by rw [List.length_cons, len]) fun x hx => by
    rcases List.mem_cons.mp hx with z | z
    · rw [z]
      exact sF _ _ _ f1 s2
    · exact f2 x z⟩⟩
theorem v_small {vs : List V} (h : vs.length = n) (hn : n ≤ 100000) : vs.length ≤ sizeLine := by
  rw [h, sizeLine_eq]
  omega
theorem v_was {H G : Hp} {p : Addr} (s : Same H G) (np : G p = none) : H p = none := by
  cases e : H p with
  | none => rfl
  | some o =>
    rw [s p o e] at np
    cases np
theorem v_tup {x1} (sF : StF F) (h : PA X es (tVs Pre F n)) (hn : n ≤ 100000) (i : ∀ (σ : L2.St) (H0 H : Hp) (r : Addr) (vs : List V), Pre σ H0 → Same H0 H → H0 r = none → H r = some (.tup vs) → vs.length = n → (∀ v ∈ vs, F H v) → G H (.ref r)) : PE X (.Tuple es x1 pos) (tV Pre G) :=
  v_by (pe_tup h) fun σ H _ p q => ⟨p, fun vs F1 s1 len f1 => ⟨v_small len hn, fun r np => q _ _ (s1.trans (same_upd np)) (i σ H _ r vs p (s1.trans (same_upd np)) (v_was s1 np) upd_same len fun v hv => sF _ _ _ (f1 v hv) (same_upd np))⟩⟩
theorem v_lst (sF : StF F) (h : PA X es (tVs Pre F n)) (hn : n ≤ 100000) (i : ∀ (σ : L2.St) (H0 H : Hp) (r : Addr) (vs : List V), Pre σ H0 → Same H0 H → H0 r = none → r ≠ sysModules → H r = some (.lst vs) → vs.length = n → (∀ v ∈ vs, F H v) → G H (.ref r)) : PE X (.List es pos) (tV Pre G) :=
  v_by (pe_lstB h) fun σ H _ p q => ⟨p, fun vs F1 s1 len f1 => ⟨v_small len hn, fun r np nm => q _ _ (s1.trans (same_upd np)) (i σ H _ r vs p (s1.trans (same_upd np)) (v_was s1 np) nm upd_same len fun v hv => sF _ _ _ (f1 v hv) (same_upd np))⟩⟩
theorem v_dct (i : ∀ (σ : L2.St) (H0 H : Hp) (r : Addr), Pre σ H0 → Same H0 H → H0 r = none → H r = some (.dK []) → G H (.ref r)) : PE X (.Dict [] [] pos) (tV Pre G) :=
  v_by pe_dnewK fun σ H _ p q r np => q _ _ (same_upd np) (i σ H _ r p (same_upd np) np upd_same)
theorem v_list (sF : StF F) (h : PA X es (tVs Pre F n)) (hn : n ≤ 100000) : PE X (.List es pos) (tVl Pre F n) :=
  PE.by (pe_lstB h) fun σ H _ q => ⟨q.1, fun vs F1 s1 len f1 => ⟨v_small len hn, fun r np nm => q.2 r vs _ (s1.trans (same_upd np)) (v_was s1 np) nm upd_same len fun v hv => sF _ _ _ (f1 v hv) (same_upd np)⟩⟩
end
end Lp
namespace Lp
open PySem PySem.Spec PyProof.Rows L2
/-! ### literals, read as the data that they show -/
mutual
inductive Li (H : Hp) : V → PyData → Prop
  | non : Li H .non .none
  | bl (b : Bool) : Li H (.bl b) (.bool b)
  | int (i : Int) : Li H (.int i) (.int i)
  | str (x : Str) : Li H (.str x) (.str x)
  | lst {a : Addr} {xs : List V} {ds : List PyData} : H a = some (.lst xs) → a ≠ sysModules → LiAll H xs ds → Li H (.ref a) (.list ds)
  | tup {a : Addr} {xs : List V} {ds : List PyData} : H a = some (.tup xs) → LiAll H xs ds → Li H (.ref a) (.tuple ds)
  | dct {a : Addr} : H a = some (.dK []) → Li H (.ref a) (.dict [])
inductive LiAll (H : Hp) : List V → List PyData → Prop
  | nil : LiAll H [] []
  | cons {x : V} {xs : List V} {d : PyData} {ds : List PyData} : Li H x d → LiAll H xs ds → LiAll H (x :: xs) (d :: ds)
end
mutual
theorem Li.same {H G : Hp} (s : Same H G) : ∀ {d : PyData} {v : V}, Li H v d → Li G v d
  | .none, _, h => by cases h; exact .non
  | .bool b, _, h => by cases h; exact .bl b
  | .int i, _, h => by cases h; exact .int i
  | .str x, _, h => by cases h; exact .str x
  | .list ds, _, h => by
    cases h with
    | lst hs ne ha => exact .lst (s _ _ hs) ne (LiAll.same s ha)
  | .tuple ds, _, h => by
    cases h with
    | tup hs ha => exact .tup (s _ _ hs) (LiAll.same s ha)
  | .dict _, _, h => by
    cases h with
    | dct ha => exact .dct (s _ _ ha)
theorem LiAll.same {H G : Hp} (s : Same H G) : ∀ {ds : List PyData} {vs : List V}, LiAll H vs ds → LiAll G vs ds
  | [], _, h => by cases h; exact .nil
  | d :: ds, _, h => by
    cases h with
    | cons h1 h2 => exact .cons (Li.same s h1) (LiAll.same s h2)
end
mutual
theorem Li.dr {K : PySem.W.Frag} {H : Hp} : ∀ {d : PyData} {v : V}, Li H v d → Dr K H v d
  | .none, _, h => by cases h; exact .non
  | .bool b, _, h => by cases h; exact .bl b
  | .int i, _, h => by cases h; exact .int i
  | .str x, _, h => by cases h; exact .str x
  | .list ds, _, h => by
    cases h with
    | lst hs ne ha => exact .lst hs ne (LiAll.dr ha)
  | .tuple ds, _, h => by
    cases h with
    | tup hs ha => exact .tup (.inl (.inl hs)) (LiAll.dr ha)
  | .dict _, _, h => by
    cases h with
    | dct ha => exact .dct ha
theorem LiAll.dr {K : PySem.W.Frag} {H : Hp} : ∀ {ds : List PyData} {vs : List V}, LiAll H vs ds → DrAll K H vs ds
  | [], _, h => by cases h; exact .nil
  | d :: ds, _, h => by
    cases h with
    | cons h1 h2 => exact .cons (Li.dr h1) (LiAll.dr h2)
end
mutual
/-- data without dicts -/
def flatD : PyData → Bool
  | .list ds => flatDs ds
  | .tuple ds => flatDs ds
  | .dict _ => false
  | _ => true
def flatDs : List PyData → Bool
  | [] => true
  | d :: ds => flatD d && flatDs ds
end
mutual
theorem Li.dp {K : PySem.W.Frag} {H : Hp} : ∀ {d : PyData} {v : V}, Li H v d → flatD d = true → Dp K H v d
  | .none, _, h, _ => by cases h; exact .non
  | .bool b, _, h, _ => by cases h; exact .bl b
  | .int i, _, h, _ => by cases h; exact .int i
  | .str x, _, h, _ => by cases h; exact .str x
  | .list ds, _, h, n => by
    cases h with
    | lst hs ne ha => exact .lst (.inl (.inl hs)) (LiAll.dp ha (by unfold flatD at n; exact n))
  | .tuple ds, _, h, n => by
    cases h with
    | tup hs ha => exact .tup (.inl (.inl hs)) (LiAll.dp ha (by unfold flatD at n; exact n))
  | .dict _, _, h, n => by
    unfold flatD at n
    cases n
theorem LiAll.dp {K : PySem.W.Frag} {H : Hp} : ∀ {ds : List PyData} {vs : List V}, LiAll H vs ds → flatDs ds = true → DpAll K H vs ds
  | [], _, h, _ => by cases h; exact .nil
  | d :: ds, _, h, n => by
    unfold flatDs at n
    have n := Bool.and_eq_true_iff.mp n
    cases h with
    | cons h1 h2 => exact .cons (Li.dp h1 n.1) (LiAll.dp h2 n.2)
end
theorem LiAll.len {H : Hp} : ∀ {ds : List PyData} {vs : List V}, LiAll H vs ds → vs.length = ds.length
  | [], _, h => by cases h; rfl
  | d :: ds, _, h => by
    cases h with
    | cons h1 h2 => rw [List.length_cons, List.length_cons, h2.len]
theorem LiAll.at_ {H : Hp} : ∀ {ds : List PyData} {vs : List V} {i : Nat} {v : V}, LiAll H vs ds → vs[i]? = some v → ∃ d, ds[i]? = some d ∧ Li H v d
  | [], _, i, v, h, e => by
    cases h
    cases i <;> cases e
  | d :: ds, _, i, v, h, e => by
    cases h with
    | cons h1 h2 =>
      cases i with
      | zero =>
        cases e
        exact ⟨_, rfl, h1⟩
      | succ i => exact h2.at_ (i := i) e
/-- what stands for data that is no container -/
def vOf : PyData → V
  | .bool b => .bl b
  | .int i => .int i
  | .str x => .str x
  | _ => .non
def scB : PyData → Bool
  | .none => true
  | .bool _ => true
  | .int _ => true
  | .str _ => true
  | _ => false
theorem Li.flat {H : Hp} {d : PyData} {v : V} (h : Li H v d) (s : scB d = true) : v = vOf d := by cases h <;> first | rfl | cases s
theorem LiAll.flat {H : Hp} : ∀ {ds : List PyData} {vs : List V}, LiAll H vs ds → ds.all scB = true → vs = ds.map vOf
  | [], _, h, _ => by cases h; rfl
  | d :: ds, _, h, s => by
    rw [List.all_cons] at s
    have s := Bool.and_eq_true_iff.mp s
    cases h with
    | cons h1 h2 => rw [List.map_cons, h1.flat s.1, ← h2.flat s.2]
theorem vOf_tv {K : PySem.W.Frag} {H : Hp} {d : PyData} (s : scB d = true) : ∃ T, Tv K H (vOf d) T ∧ T ≠ "tuple" := by
  cases d with
  | none => exact ⟨"NoneType", ⟨.base .non, by decide⟩, by decide⟩
  | bool b => exact ⟨"bool", ⟨.base (.bl b), by decide⟩, by decide⟩
  | int i => exact ⟨_, Tv.int i, by decide⟩
  | str x => exact ⟨"str", ⟨.base (.str x), by decide⟩, by decide⟩
  | _ => cases s
theorem vOf_tvs {K : PySem.W.Frag} {H : Hp} {ds : List PyData} (s : ds.all scB = true) : ∀ x ∈ ds.map vOf, ∃ T, Tv K H x T := fun x hx => by
  obtain ⟨d, hd, rfl⟩ := List.mem_map.mp hx
  obtain ⟨T, t, _⟩ := vOf_tv (K := K) (H := H) (List.all_eq_true.mp s d hd)
  exact ⟨T, t⟩
section
variable {X : Cx} {e : Expr} {es : List Expr} {pos : Pos} {d : PyData} {ds : List PyData}
def tL (d : PyData) : TE := fun σ H Q => ∀ (v : V) (H' : Hp), Same H H' → Li H' v d → Q v H'
def tLs (ds : List PyData) : TA := fun σ H Q => ∀ (vs : List V) (H' : Hp), Same H H' → LiAll H' vs ds → Q vs H'
theorem q_by {te : TE} (h : PE X e te) (i : ∀ σ H Q, (∀ (v : V) (H' : Hp), Same H H' → Li H' v d → Q v H') → te σ H Q) : PE X e (tL d) := PE.by h fun σ H Q q => i σ H Q q
theorem q_int {i : Int} {j} : PE X (.Constant (.int i) j pos) (tL (.int i)) := q_by pe_int fun σ H _ q => q _ _ (Same.refl H) (.int i)
theorem q_str {z : Str} {j} : PE X (.Constant (.str z) j pos) (tL (.str z)) := q_by pe_str fun σ H _ q => q _ _ (Same.refl H) (.str z)
theorem q_bl {b : Bool} {j} : PE X (.Constant (.bool b) j pos) (tL (.bool b)) := q_by pe_bl fun σ H _ q => q _ _ (Same.refl H) (.bl b)
theorem q_non {j} : PE X (.Constant .none j pos) (tL .none) := q_by pe_non fun σ H _ q => q _ _ (Same.refl H) .non
theorem q_neg {i : Int} {j p2} : PE X (.UnaryOp .USub (.Constant (.int i) j pos) p2) (tL (.int (-i))) := q_by (pe_un un_neg pe_int) fun σ H _ q => ⟨_, rfl, q _ _ (Same.refl H) (.int _)⟩
theorem qs_nil : PA X [] (tLs []) := vs_by pa_nil fun _ H _ q => q _ _ (Same.refl H) .nil
theorem qs_cons (ha : PE X e (tL d)) (hr : PA X es (tLs ds)) (hs : starEach (e :: es) X.env = (false, eval e X.env) :: starEach es X.env := by rfl) : PA X (e :: es) (tLs (d :: ds)) :=
  vs_by (pa_cons ha hr hs) fun σ H _ q => fun v G s1 f1 => fun vs G2 s2 f2 => q _ _ (s1.trans s2) (.cons (f1.same s2) f2)
theorem q_tup {x1} (h : PA X es (tLs ds)) (hn : ds.length ≤ 100000) : PE X (.Tuple es x1 pos) (tL (.tuple ds)) :=
  q_by (pe_tup h) fun σ H _ q => fun vs F1 s1 f1 => ⟨v_small f1.len hn, fun r np => q _ _ (s1.trans (same_upd np)) (.tup upd_same (f1.same (same_upd np)))⟩
theorem q_lst (h : PA X es (tLs ds)) (hn : ds.length ≤ 100000) : PE X (.List es pos) (tL (.list ds)) :=
  q_by (pe_lstB h) fun σ H _ q => fun vs F1 s1 f1 => ⟨v_small f1.len hn, fun r np nm => q _ _ (s1.trans (same_upd np)) (.lst upd_same nm (f1.same (same_upd np)))⟩
theorem q_dct : PE X (.Dict [] [] pos) (tL (.dict [])) :=
  q_by pe_dnewK fun σ H _ q r np => q _ _ (same_upd np) (.dct upd_same)
end
end Lp
namespace Lp
open PySem PySem.Spec PyProof.Rows L2
section
variable {P : Program} {w : World} {K : PySem.W.Frag} {mg : Str → Option Value} {base : Heap}
/-! ### the cells of the script -/
abbrev s__law_cell : Stmt := top 52
abbrev N__law_cell : List Str := ["_law_script", "_law_k", "_law_state", "_law_item"]
theorem sc__law_cell : FnScope N__law_cell ["_law_script", "_law_k"] (defScope s__law_cell) := ⟨rfl, rfl, rfl, by decide +kernel, rfl, by decide +kernel, by decide +kernel⟩
def spCell (K : PySem.W.Frag) : Sp := fun vs H Q _ => ∃ (l : Addr) (ns : List Int) (k : Nat), vs = [.ref l, .int (k : Nat)] ∧ SqL K H l (ns.map V.int) ∧ k ≤ 1000 ∧ ∀ (i : Int) (H' : Hp), Same H H' → Q (.int i) H'
theorem ok_cell (D : Df K mg "_law_cell" s__law_cell) (m_len : mg "len" = none) : Cl P w K mg base 1 "_law_cell" s__law_cell ["_law_script", "_law_k"] (spCell K) := by
  refine D.ok sc__law_cell (fun _ _ _ _ _ _ us hl => match us, hl with | [_, _], _ => rfl) (fun vs H Q E h => ?_) (fun f cdv A outer s H vs Q E hr h => ?_)
  · obtain ⟨l, ns, k, rfl, _⟩ := h
    rfl
  · obtain ⟨l, ns, k, rfl, hS, hk, q⟩ := h
    refine ⟨_, 
      (pss_cons (ps_if (pt_cmpR op_lt (pv 1) (pe_callB call_lenS (by rfl) m_len (by decide +kernel) (pa_cons (pv 0) pa_nil)) (nomark _)) (pss_one (ps_ret (pe_ix ix_list (pv 0) (pv 1) (fun _ _ => rfl)))) pss_nil) 
      (pss_cons (ps_set (i := 2) sc__law_cell.nd rfl (Or.inl rfl) (pe_op op_mod (pe_op op_mul pe_int (pe_op op_add (pe_op op_add (pe_op op_mul (pv 1) (pv 1)) (pe_op op_mul pe_int (pv 1))) pe_int)) pe_int)) 
      (pss_cons (ps_for PassesOwn.never rfl (pi_list (pe_slice sl_list (pv 0) po_none (po_some pe_int))) (pg_name (i := 3) sc__law_cell.nd rfl (Or.inl rfl)) (pss_one (ps_set (i := 2) sc__law_cell.nd rfl (Or.inl rfl) (pe_op op_mod (pe_op op_add (pe_op op_mul (pv 2) pe_int) (pv 3)) pe_int)))) 
      (pss_one (ps_ret (pv 2)))))), ?_⟩
    refine ⟨_, rfl, _, rfl, l, ns.map V.int, rfl, .inl hS, _, _, rfl, rfl, _, rfl, ite2 (fun e => ?_) (fun e => ?_)⟩
    · have lt : k < ns.length := by
        have e2 := of_decide_eq_true e
        rw [List.length_map] at e2
        omega
      have g : (ns.map V.int)[k]? = some (.int ns[k]) := by
        rw [List.getElem?_map, List.getElem?_eq_getElem lt]
        rfl
      exact ⟨_, rfl, _, rfl, l, _, _, _, rfl, rfl, hS, atI_nat g, q _ _ (Same.refl H)⟩
    · refine ⟨_, rfl, _, rfl, _, _, rfl, rfl, .inl ⟨by omega, by omega⟩, _, rfl, _, _, rfl, rfl, .inl ⟨by decide, by decide⟩, _, _, rfl, rfl, _, _, rfl, rfl, _, _, rfl, rfl, .inl ⟨by decide, by decide⟩, _, _, rfl, rfl, (by show (0 : Int) < 2147483399; decide), ?_⟩
      refine ⟨_, rfl, 3, rfl, l, ns.map V.int, rfl, hS, fun c nc => ?_⟩
      have sm : Same H (upd H c (.lst (cutV (ns.map V.int) none (some 3)))) := same_upd nc
      refine ⟨c, rfl, ⟨_, .inl (.inl upd_same)⟩, ?_⟩
      refine for_list (xs := cutV (ns.map V.int) none (some 3)) (fun i σ H2 => ∃ (z : Int) (y : Option V), σ = [some (.ref l), some (.int (k : Nat)), some (.int z), y] ∧ -(2 ^ 64) < z ∧ z < 2 ^ 64 ∧ H2 = upd H c (.lst (cutV (ns.map V.int) none (some 3))))
        ⟨_, none, rfl, ?_, ?_, rfl⟩ (fun i σ H2 _ h2 => ?_) (fun i x σ H2 hx h2 => ?_) (fun σ H2 h2 => ?_)
      · exact Int.lt_of_lt_of_le (by decide) (Int.emod_nonneg _ (by decide))
      · exact Int.lt_trans (Int.emod_lt_of_pos _ (by decide)) (by decide)
      · obtain ⟨z, y, _, _, _, rfl⟩ := h2
        exact .inl (.inl upd_same)
      · obtain ⟨z, y, rfl, h3, h4, rfl⟩ := h2
        have hm : x ∈ ns.map V.int := List.mem_of_mem_drop (List.mem_of_mem_take (List.mem_of_getElem? hx))
        obtain ⟨n, _, rfl⟩ := List.mem_map.mp hm
        refine ⟨_, rfl, _, _, rfl, rfl, .inl ⟨h3, h4⟩, _, rfl, _, _, rfl, rfl, _, _, rfl, rfl, (by show (0 : Int) < 2147483399; decide), ?_⟩
        refine ⟨_, some (.int n), rfl, ?_, ?_, rfl⟩
        · exact Int.lt_of_lt_of_le (by decide) (Int.emod_nonneg _ (by decide))
        · exact Int.lt_trans (Int.emod_lt_of_pos _ (by decide)) (by decide)
      · obtain ⟨z, y, rfl, h3, h4, rfl⟩ := h2
        exact ⟨_, rfl, q _ _ sm⟩
/-! ### the pool -/
abbrev s__law_pool : Stmt := top 53
abbrev N__law_pool : List Str := ["_law_item", "_law_digits"]
theorem sc__law_pool : FnScope N__law_pool ["_law_item"] (defScope s__law_pool) := ⟨rfl, rfl, rfl, by decide +kernel, rfl, by decide +kernel, by decide +kernel⟩
def spPool : Sp := fun vs H Q _ => ∃ n : Int, vs = [.int n] ∧ ∀ p H', Same H H' → H p = none → Pool H' p → Q (.ref p) H'
theorem ok_pool (D : Df K mg "_law_pool" s__law_pool) (m_abs : mg "abs" = none) : Cl P w K mg base 1 "_law_pool" s__law_pool ["_law_item"] spPool := by
  refine D.ok sc__law_pool (fun _ _ _ _ _ _ us hl => match us, hl with | [_], _ => rfl) (fun vs H Q E h => ?_) (fun f cdv A outer s H vs Q E hr h => ?_)
  · obtain ⟨n, rfl, _⟩ := h
    rfl
  · obtain ⟨n, rfl, q⟩ := h
    have fin : ∀ d : Int, 0 ≤ d → ∀ p, H p = none → Q (.ref p) (upd H p (.lst [.int (n % 2147483399), .int d, .int 0])) := fun d hd p np =>
      q p _ (same_upd np) np ⟨_, d, 0, upd_same, Int.emod_nonneg _ (by decide), Int.emod_lt_of_pos _ (by decide), hd⟩
    refine ⟨_, 
      (pss_cons (ps_set (i := 1) sc__law_pool.nd rfl (Or.inl rfl) (pe_ifExp (PW.pt (pw_or (pt_cmpR op_lt (pv 0) pe_int (nomark _)) (pw_or1 (pt_cmpR op_ge (pv 0) (pe_op op_pow pe_int pe_int) (nomark _))))) (pe_callB call_abs (by rfl) m_abs (by decide +kernel) (pa_cons (pv 0) pa_nil)) pe_int)) 
      (pss_one (ps_ret (pe_lst (pa_cons (pe_op op_mod (pv 0) pe_int) (pa_cons (pv 1) (pa_cons pe_int pa_nil))))))), ?_⟩
    refine ⟨_, rfl, _, _, rfl, rfl, _, rfl, ?_⟩
    have three : ∀ d : Int, ([V.int (n % 2147483399), V.int d, V.int 0] : List V).length ≤ sizeLine := fun d => by
      show 3 ≤ sizeLine
      decide
    by_cases h0 : n < 0
    · rw [decide_eq_true h0]
      refine iteT (iteT ⟨_, rfl, _, rfl, _, rfl, _, _, rfl, rfl, (by show (0 : Int) < 2147483399; decide), _, rfl, three _, fun p np => fin _ ?_ p np⟩)
      rw [if_pos h0]
      omega
    · rw [decide_eq_false h0]
      refine iteF ⟨_, rfl, _, _, rfl, rfl, ⟨by decide, by decide, by decide⟩, _, _, rfl, rfl, _, rfl, ?_⟩
      refine ite2 (fun e => ?_) (fun e => ?_)
      · refine ⟨_, rfl, _, rfl, _, rfl, _, _, rfl, rfl, (by show (0 : Int) < 2147483399; decide), _, rfl, three _, fun p np => fin _ ?_ p np⟩
        rw [if_neg h0]
        omega
      · exact ⟨_, rfl, _, _, rfl, rfl, (by show (0 : Int) < 2147483399; decide), _, rfl, three _, fun p np => fin _ (Int.le_refl _) p np⟩
/-! ### a draw -/
abbrev s__law_draw : Stmt := top 54
abbrev N__law_draw : List Str := ["_law_pool_here", "_law_limit", "_law_state", "_law_digit"]
theorem sc__law_draw : FnScope N__law_draw ["_law_pool_here", "_law_limit"] (defScope s__law_draw) := ⟨rfl, rfl, rfl, by decide +kernel, rfl, by decide +kernel, by decide +kernel⟩
def spDraw : Sp := fun vs H Q _ => ∃ (a : Addr) (c : Int), vs = [.ref a, .int c] ∧ 1 ≤ c ∧ c ≤ 1000000 ∧ Pool H a ∧ ∀ (d : Int) (H' : Hp), 0 ≤ d → d < c → Kp a H H' → Pool H' a → Q (.int d) H'
theorem ok_draw (D : Df K mg "_law_draw" s__law_draw) (m_divmod : mg "divmod" = none) : Cl P w K mg base 1 "_law_draw" s__law_draw ["_law_pool_here", "_law_limit"] spDraw := by
  refine D.ok sc__law_draw (fun _ _ _ _ _ _ us hl => match us, hl with | [_, _], _ => rfl) (fun vs H Q E h => ?_) (fun f cdv A outer s H vs Q E hr h => ?_)
  · obtain ⟨a, c, rfl, _⟩ := h
    rfl
  · obtain ⟨a, c, rfl, c1, c2, ⟨st, dg, n, ha, s0, s1, d0⟩, q⟩ := h
    refine ⟨_, 
      (pss_cons (ps_asg (pe_op op_add (pe_ix ix_list (pv 0) pe_int (fun _ _ => rfl)) pe_int) (pg_sub (pv 0) pe_int set_list)) 
      (pss_cons (ps_set (i := 2) sc__law_draw.nd rfl (Or.inl rfl) (pe_ix ix_list (pv 0) pe_int (fun _ _ => rfl))) 
      (pss_cons (ps_asg (pe_op op_mod (pe_op op_add (pe_op op_mul (pv 2) (pe_op op_add (pe_op op_mod (pv 2) pe_int) pe_int)) (pe_op op_mul pe_int (pe_ix ix_list (pv 0) pe_int (fun _ _ => rfl)))) pe_int) (pg_sub (pv 0) pe_int set_list)) 
      (pss_cons (ps_if (pt_cmpR op_gt (pe_ix ix_list (pv 0) pe_int (fun _ _ => rfl)) pe_int (nomark _)) (pss_cons (ps_asg (pe_callB call_divmodW (by rfl) m_divmod (by decide +kernel) (pa_cons (pe_ix ix_list (pv 0) pe_int (fun _ _ => rfl)) (pa_cons (pv 1) pa_nil))) (pg_tup (by rfl) (pgs_cons (pg_sub (pv 0) pe_int set_list) (pgs_cons (pg_name (i := 3) sc__law_draw.nd rfl (Or.inl rfl)) pgs_nil)))) (pss_one (ps_ret (pv 3)))) pss_nil) 
      (pss_one (ps_ret (pe_op op_mod (pe_op op_fdiv (pe_ix ix_list (pv 0) pe_int (fun _ _ => rfl)) pe_int) (pv 1)))))))), ?_⟩
    have at0 : ∀ x y z : V, atI [x, y, z] (0 : Int) = some x := fun _ _ _ => rfl
    have at1 : ∀ x y z : V, atI [x, y, z] (1 : Int) = some y := fun _ _ _ => rfl
    have at2 : ∀ x y z : V, atI [x, y, z] (2 : Int) = some z := fun _ _ _ => rfl
    refine ⟨_, rfl, a, _, 2, _, rfl, rfl, .inl (.inl ha), at2 _ _ _, _, _, rfl, rfl, ?_⟩
    refine ⟨_, rfl, a, _, 2, 2, rfl, rfl, ha, rfl, ?_⟩
    refine ⟨_, rfl, a, _, 0, _, rfl, rfl, .inl (.inl upd_same), at0 _ _ _, ?_⟩
    have b1 : 0 ≤ st % 40961 := Int.emod_nonneg _ (by decide)
    have b2 : st % 40961 < 40961 := Int.emod_lt_of_pos _ (by decide)
    refine ⟨_, rfl, _, rfl, _, _, rfl, rfl, (by show (0 : Int) < 40961; decide), _, _, rfl, rfl, _, _, rfl, rfl, .inl ⟨by omega, by omega⟩, ?_⟩
    refine ⟨_, rfl, a, _, 2, _, rfl, rfl, .inl (.inl upd_same), at2 _ _ _, _, _, rfl, rfl, .inl ⟨by decide, by decide⟩, _, _, rfl, rfl, _, _, rfl, rfl, (by show (0 : Int) < 2147483399; decide), ?_⟩
    refine ⟨_, rfl, a, _, 0, 0, rfl, rfl, upd_same, rfl, ?_⟩
    rw [upd_upd]
    refine ⟨_, rfl, a, _, 1, _, rfl, rfl, .inl (.inl upd_same), at1 _ _ _, _, _, rfl, rfl, _, rfl, ?_⟩
    have kp : ∀ xs, Kp a H (upd H a (.lst xs)) := fun xs b o e ne => by
      rw [upd_ne ne]
      exact e
    refine ite2 (fun e => ?_) (fun e => ?_)
    · refine ⟨_, rfl, a, _, 1, _, rfl, rfl, .inl (.inl upd_same), at1 _ _ _, _, rfl, dg, c, rfl, ⟨by omega, ?_⟩, fun p np => ?_⟩
      · exact small_div (by omega) (by omega)
      · have pa : p ≠ a := fun z => by
          subst z
          rw [upd_same] at np
          cases np
        refine ⟨p, _, rfl, .inl (.inl upd_same), rfl, _, _, rfl, _, rfl, a, _, 1, 1, rfl, rfl, (upd_ne pa.symm).trans upd_same, rfl, _, _, rfl, rfl, ?_⟩
        refine ⟨_, rfl, q _ _ (Int.emod_nonneg _ (by omega)) (Int.emod_lt_of_pos _ (by omega)) (fun b o eb ne => ?_) ⟨_, dg / c, n + 1, upd_same, Int.emod_nonneg _ (by decide), Int.emod_lt_of_pos _ (by decide), Int.ediv_nonneg d0 (by omega)⟩⟩
        have bp : b ≠ p := fun zz => by
          subst zz
          rw [upd_ne ne, eb] at np
          cases np
        rw [upd_ne ne, upd_ne bp, upd_ne ne]
        exact eb
    · refine ⟨_, rfl, a, _, 0, _, rfl, rfl, .inl (.inl upd_same), at0 _ _ _, _, _, rfl, rfl, ⟨by decide, by decide⟩, _, rfl, _, _, rfl, rfl, (by show 0 < c; omega), ?_⟩
      exact q _ _ (Int.emod_nonneg _ (by omega)) (Int.emod_lt_of_pos _ (by omega)) (kp _) ⟨_, dg, n + 1, upd_same, Int.emod_nonneg _ (by decide), Int.emod_lt_of_pos _ (by decide), d0⟩
end
section
/-! ### which of the error classes it is -/
structure SortOk (K : PySem.W.Frag) (x : Str) (i : Nat) : Prop where
  ec : ExcC K (He.ga K x)
  lt : i < 30
  is : ∀ (j : Nat) (y : Str), errL[j]? = some y → PySem.W.kitOne K (.ref (He.ga K x)) (.ref (He.ga K y)) = some (decide (i = j))
  b1 : PySem.W.kitOne K (.ref (He.ga K x)) (.ref (He.ga K "PassError")) = some (decide (i < 17))
  b2 : PySem.W.kitOne K (.ref (He.ga K x)) (.ref (He.ga K "FindError")) = some (decide (16 < i) && decide (i < 25))
  b3 : PySem.W.kitOne K (.ref (He.ga K x)) (.ref (He.ga K "LimitError")) = some (decide (24 < i))
  o1 : PySem.W.kitOne K (.ref (He.ga K x)) (.type "ValueError") = some (decide (i < 17))
  o2 : PySem.W.kitOne K (.ref (He.ga K x)) (.type "LookupError") = some (decide (16 < i) && decide (i < 25))
  o3 : PySem.W.kitOne K (.ref (He.ga K x)) (.type "ArithmeticError") = some (decide (24 < i))
theorem excCB_ok {K : PySem.W.Frag} {D : Addr} (h : excCB K D = true) : ExcC K D := by
  obtain ⟨h1, h⟩ := Bool.and_eq_true_iff.mp h
  obtain ⟨h2, h⟩ := Bool.and_eq_true_iff.mp h
  obtain ⟨h3, h⟩ := Bool.and_eq_true_iff.mp h
  obtain ⟨h4, h⟩ := Bool.and_eq_true_iff.mp h
  obtain ⟨h5, h⟩ := Bool.and_eq_true_iff.mp h
  obtain ⟨h6, h⟩ := Bool.and_eq_true_iff.mp h
  obtain ⟨h7, h8⟩ := Bool.and_eq_true_iff.mp h
  exact ⟨of_decide_eq_true h1, of_decide_eq_true h2, of_decide_eq_true h3, h4, of_decide_eq_true h5, of_decide_eq_true h6, of_decide_eq_true h7, of_decide_eq_true h8⟩
theorem sortB_ok {K : PySem.W.Frag} {x : Str} {i : Nat} (h : sortB K x i = true) : SortOk K x i := by
  obtain ⟨h1, h⟩ := Bool.and_eq_true_iff.mp h
  obtain ⟨h2, h⟩ := Bool.and_eq_true_iff.mp h
  obtain ⟨h3, h⟩ := Bool.and_eq_true_iff.mp h
  obtain ⟨h4, h⟩ := Bool.and_eq_true_iff.mp h
  obtain ⟨h5, h⟩ := Bool.and_eq_true_iff.mp h
  obtain ⟨h6, h⟩ := Bool.and_eq_true_iff.mp h
  obtain ⟨h7, h⟩ := Bool.and_eq_true_iff.mp h
  obtain ⟨h8, h9⟩ := Bool.and_eq_true_iff.mp h
  refine ⟨excCB_ok h1, of_decide_eq_true h2, fun j y hj => ?_, of_decide_eq_true h4, of_decide_eq_true h5, of_decide_eq_true h6, of_decide_eq_true h7, of_decide_eq_true h8, of_decide_eq_true h9⟩
  have lt : j < 30 := (List.getElem?_eq_some_iff.mp hj).1
  have z := of_decide_eq_true (List.all_eq_true.mp h3 j (List.mem_range.mpr lt))
  rw [List.getD_eq_getElem?_getD, hj] at z
  exact z
/-- the first n answers -/
def ksL (i n : Nat) : List V := (List.range n).map fun j => V.bl (decide (i = j))
theorem ksL_add (i n : Nat) : ksL i n ++ [V.bl (decide (i = n)), V.bl (decide (i = n + 1)), V.bl (decide (i = n + 2))] = ksL i (n + 3) := by
  unfold ksL
  simp [List.range_succ]
theorem ksL_len (i n : Nat) : (ksL i n).length = n := by simp [ksL]
theorem ksL_get {i n j : Nat} (h : j < n) : (ksL i n)[j]? = some (.bl (decide (i = j))) := by simp [ksL, h]
theorem ksL_flat (i n : Nat) : (ksL i n).all flatV = true := by simp [ksL, flatV]
theorem ksL_one {i n : Nat} (h : i < n) : ((ksL i n).countP fun z => eqV z (.bl true)) = 1 := by
  have go : ∀ m, ((ksL i m).countP fun z => eqV z (.bl true)) = if i < m then 1 else 0 := fun m => by
    induction m with
    | zero => rfl
    | succ m ih =>
      have e : ksL i (m + 1) = ksL i m ++ [V.bl (decide (i = m))] := by simp [ksL, List.range_succ]
      rw [e, List.countP_append, ih]
      by_cases h1 : i < m
      · rw [if_pos h1, if_pos (by omega), decide_eq_false (by omega)]
        rfl
      · rw [if_neg h1]
        by_cases h2 : i = m
        · rw [if_pos (by omega), decide_eq_true h2]
          rfl
        · rw [if_neg (by omega), decide_eq_false h2]
          rfl
  rw [go, if_pos h]
theorem Dp_b3 {K : PySem.W.Frag} {H : Hp} {l : Addr} {a b c : Bool} (h : SqL K H l [.bl a, .bl b, .bl c]) : Dp K H (.ref l) (.list [.bool a, .bool b, .bool c]) := .lst h (.cons (.bl a) (.cons (.bl b) (.cons (.bl c) .nil)))
theorem sh_b3 (a b c : Bool) : SeqAt.shaped (.list [.bool a, .bool b, .bool c]) = true := by cases a <;> cases b <;> cases c <;> decide +kernel
theorem eq_b3 (a b c : Bool) : PyData.eqv (.list [.bool a, .bool b, .bool c]) (.list [.bool a, .bool b, .bool c]) = true := by cases a <;> cases b <;> cases c <;> decide +kernel
variable {P : Program} {w : World} {K : PySem.W.Frag} {mg : Str → Option Value} {base : Heap}
abbrev s__law_sort : Stmt := top 61
abbrev N__law_sort : List Str := ["_law_e", "_law_kinds", "_law_bases", "_law_own", "_law_at"]
theorem sc__law_sort : FnScope N__law_sort ["_law_e"] (defScope s__law_sort) := ⟨rfl, rfl, rfl, by decide +kernel, rfl, by decide +kernel, by decide +kernel⟩
def spSortZ (K : PySem.W.Frag) : SpZ := fun p vs H Q _ => ∃ (x : Str) (dd : Addr) (fs : List (Str × V)) (i : Nat), vs = [.ref p.1] ∧ ExZ p (He.ga K x) dd ∧ H dd = some (.xd fs) ∧ SortOk K x i ∧ ∀ H', Same H H' → Q (.int ((i : Nat) : Int)) H'
structure ErrG (K : PySem.W.Frag) (mg : Str → Option Value) : Prop where
  at_ : ∀ y ∈ errL ++ (["PassError", "FindError", "LimitError"] : List Str), mg y = some (.ref (He.ga K y))
theorem ok_sortz (D : Df K mg "_law_sort" s__law_sort) (G : ErrG K mg) (m_isinstance : mg "isinstance" = none) (m_ValueError : mg "ValueError" = none) (m_LookupError : mg "LookupError" = none) (m_ArithmeticError : mg "ArithmeticError" = none) : ClZ P w K mg base 1 "_law_sort" s__law_sort ["_law_e"] (spSortZ K) := by
  refine D.okZ sc__law_sort (fun _ _ _ _ _ _ us hl => match us, hl with | [_], _ => rfl) (fun p vs H Q E h => ?_) (fun f cdv A outer s H vs Q E p hr h => ?_)
  · obtain ⟨x, dd, fs, i, rfl, _⟩ := h
    rfl
  · obtain ⟨x, dd, fs, i, rfl, ez, hd, so, q⟩ := h
    have g_InvalidRow := G.at_ "InvalidRow" (by decide +kernel)
    have g_InvalidNumber := G.at_ "InvalidNumber" (by decide +kernel)
    have g_InvalidKind := G.at_ "InvalidKind" (by decide +kernel)
    have g_InvalidWord := G.at_ "InvalidWord" (by decide +kernel)
    have g_InvalidSize := G.at_ "InvalidSize" (by decide +kernel)
    have g_InvalidProgram := G.at_ "InvalidProgram" (by decide +kernel)
    have g_InvalidText := G.at_ "InvalidText" (by decide +kernel)
    have g_InvalidHeights := G.at_ "InvalidHeights" (by decide +kernel)
    have g_InvalidWishes := G.at_ "InvalidWishes" (by decide +kernel)
    have g_InvalidRecord := G.at_ "InvalidRecord" (by decide +kernel)
    have g_InvalidPattern := G.at_ "InvalidPattern" (by decide +kernel)
    have g_InvalidShare := G.at_ "InvalidShare" (by decide +kernel)
    have g_InvalidPeople := G.at_ "InvalidPeople" (by decide +kernel)
    have g_InvalidName := G.at_ "InvalidName" (by decide +kernel)
    have g_InvalidHeight := G.at_ "InvalidHeight" (by decide +kernel)
    have g_InvalidDeed := G.at_ "InvalidDeed" (by decide +kernel)
    have g_InvalidCommand := G.at_ "InvalidCommand" (by decide +kernel)
    have g_NotFinal := G.at_ "NotFinal" (by decide +kernel)
    have g_OtherPersons := G.at_ "OtherPersons" (by decide +kernel)
    have g_UnknownName := G.at_ "UnknownName" (by decide +kernel)
    have g_UnknownHeight := G.at_ "UnknownHeight" (by decide +kernel)
    have g_NoOrder := G.at_ "NoOrder" (by decide +kernel)
    have g_NameTaken := G.at_ "NameTaken" (by decide +kernel)
    have g_HeightTaken := G.at_ "HeightTaken" (by decide +kernel)
    have g_NothingToUndo := G.at_ "NothingToUndo" (by decide +kernel)
    have g_TooManySeats := G.at_ "TooManySeats" (by decide +kernel)
    have g_TooManyPeople := G.at_ "TooManyPeople" (by decide +kernel)
    have g_WordTooShort := G.at_ "WordTooShort" (by decide +kernel)
    have g_TooManyDeeds := G.at_ "TooManyDeeds" (by decide +kernel)
    have g_LastPerson := G.at_ "LastPerson" (by decide +kernel)
    have g_PassError := G.at_ "PassError" (by decide +kernel)
    have g_FindError := G.at_ "FindError" (by decide +kernel)
    have g_LimitError := G.at_ "LimitError" (by decide +kernel)
    have hp0 : p ∈ (L2H.cxH CX0 P w K mg base N__law_sort "_law_sort" (defScope s__law_sort) f cdv A outer s H E p).nox.pn := List.mem_cons_self
    have hu0 : (L2H.cxH CX0 P w K mg base N__law_sort "_law_sort" (defScope s__law_sort) f cdv A outer s H E p).nox.A.units + 64 < cLine := by
      have := hr.un
      show (A.deeper _).units + 64 < cLine
      omega
    refine ⟨_, 
      (pss_cons (ps_set (i := 1) sc__law_sort.nd rfl (Or.inl rfl) (pe_lst (pa_cons (pe_callB (call_isZ so.ec hp0 ez) (by rfl) m_isinstance (by decide +kernel) (pa_cons (pv 0) (pa_cons (pe_glob (v := .ref (He.ga K "InvalidRow")) (by rfl) g_InvalidRow rfl) pa_nil))) (pa_cons (pe_callB (call_isZ so.ec hp0 ez) (by rfl) m_isinstance (by decide +kernel) (pa_cons (pv 0) (pa_cons (pe_glob (v := .ref (He.ga K "InvalidNumber")) (by rfl) g_InvalidNumber rfl) pa_nil))) (pa_cons (pe_callB (call_isZ so.ec hp0 ez) (by rfl) m_isinstance (by decide +kernel) (pa_cons (pv 0) (pa_cons (pe_glob (v := .ref (He.ga K "InvalidKind")) (by rfl) g_InvalidKind rfl) pa_nil))) pa_nil))))) 
      (pss_cons (ps_set (i := 1) sc__law_sort.nd rfl (Or.inl rfl) (pe_op op_cat (pv 1) (pe_lst (pa_cons (pe_callB (call_isZ so.ec hp0 ez) (by rfl) m_isinstance (by decide +kernel) (pa_cons (pv 0) (pa_cons (pe_glob (v := .ref (He.ga K "InvalidWord")) (by rfl) g_InvalidWord rfl) pa_nil))) (pa_cons (pe_callB (call_isZ so.ec hp0 ez) (by rfl) m_isinstance (by decide +kernel) (pa_cons (pv 0) (pa_cons (pe_glob (v := .ref (He.ga K "InvalidSize")) (by rfl) g_InvalidSize rfl) pa_nil))) (pa_cons (pe_callB (call_isZ so.ec hp0 ez) (by rfl) m_isinstance (by decide +kernel) (pa_cons (pv 0) (pa_cons (pe_glob (v := .ref (He.ga K "InvalidProgram")) (by rfl) g_InvalidProgram rfl) pa_nil))) pa_nil)))))) 
      (pss_cons (ps_set (i := 1) sc__law_sort.nd rfl (Or.inl rfl) (pe_op op_cat (pv 1) (pe_lst (pa_cons (pe_callB (call_isZ so.ec hp0 ez) (by rfl) m_isinstance (by decide +kernel) (pa_cons (pv 0) (pa_cons (pe_glob (v := .ref (He.ga K "InvalidText")) (by rfl) g_InvalidText rfl) pa_nil))) (pa_cons (pe_callB (call_isZ so.ec hp0 ez) (by rfl) m_isinstance (by decide +kernel) (pa_cons (pv 0) (pa_cons (pe_glob (v := .ref (He.ga K "InvalidHeights")) (by rfl) g_InvalidHeights rfl) pa_nil))) (pa_cons (pe_callB (call_isZ so.ec hp0 ez) (by rfl) m_isinstance (by decide +kernel) (pa_cons (pv 0) (pa_cons (pe_glob (v := .ref (He.ga K "InvalidWishes")) (by rfl) g_InvalidWishes rfl) pa_nil))) pa_nil)))))) 
      (pss_cons (ps_set (i := 1) sc__law_sort.nd rfl (Or.inl rfl) (pe_op op_cat (pv 1) (pe_lst (pa_cons (pe_callB (call_isZ so.ec hp0 ez) (by rfl) m_isinstance (by decide +kernel) (pa_cons (pv 0) (pa_cons (pe_glob (v := .ref (He.ga K "InvalidRecord")) (by rfl) g_InvalidRecord rfl) pa_nil))) (pa_cons (pe_callB (call_isZ so.ec hp0 ez) (by rfl) m_isinstance (by decide +kernel) (pa_cons (pv 0) (pa_cons (pe_glob (v := .ref (He.ga K "InvalidPattern")) (by rfl) g_InvalidPattern rfl) pa_nil))) (pa_cons (pe_callB (call_isZ so.ec hp0 ez) (by rfl) m_isinstance (by decide +kernel) (pa_cons (pv 0) (pa_cons (pe_glob (v := .ref (He.ga K "InvalidShare")) (by rfl) g_InvalidShare rfl) pa_nil))) pa_nil)))))) 
      (pss_cons (ps_set (i := 1) sc__law_sort.nd rfl (Or.inl rfl) (pe_op op_cat (pv 1) (pe_lst (pa_cons (pe_callB (call_isZ so.ec hp0 ez) (by rfl) m_isinstance (by decide +kernel) (pa_cons (pv 0) (pa_cons (pe_glob (v := .ref (He.ga K "InvalidPeople")) (by rfl) g_InvalidPeople rfl) pa_nil))) (pa_cons (pe_callB (call_isZ so.ec hp0 ez) (by rfl) m_isinstance (by decide +kernel) (pa_cons (pv 0) (pa_cons (pe_glob (v := .ref (He.ga K "InvalidName")) (by rfl) g_InvalidName rfl) pa_nil))) (pa_cons (pe_callB (call_isZ so.ec hp0 ez) (by rfl) m_isinstance (by decide +kernel) (pa_cons (pv 0) (pa_cons (pe_glob (v := .ref (He.ga K "InvalidHeight")) (by rfl) g_InvalidHeight rfl) pa_nil))) pa_nil)))))) 
      (pss_cons (ps_set (i := 1) sc__law_sort.nd rfl (Or.inl rfl) (pe_op op_cat (pv 1) (pe_lst (pa_cons (pe_callB (call_isZ so.ec hp0 ez) (by rfl) m_isinstance (by decide +kernel) (pa_cons (pv 0) (pa_cons (pe_glob (v := .ref (He.ga K "InvalidDeed")) (by rfl) g_InvalidDeed rfl) pa_nil))) (pa_cons (pe_callB (call_isZ so.ec hp0 ez) (by rfl) m_isinstance (by decide +kernel) (pa_cons (pv 0) (pa_cons (pe_glob (v := .ref (He.ga K "InvalidCommand")) (by rfl) g_InvalidCommand rfl) pa_nil))) (pa_cons (pe_callB (call_isZ so.ec hp0 ez) (by rfl) m_isinstance (by decide +kernel) (pa_cons (pv 0) (pa_cons (pe_glob (v := .ref (He.ga K "NotFinal")) (by rfl) g_NotFinal rfl) pa_nil))) pa_nil)))))) 
      (pss_cons (ps_set (i := 1) sc__law_sort.nd rfl (Or.inl rfl) (pe_op op_cat (pv 1) (pe_lst (pa_cons (pe_callB (call_isZ so.ec hp0 ez) (by rfl) m_isinstance (by decide +kernel) (pa_cons (pv 0) (pa_cons (pe_glob (v := .ref (He.ga K "OtherPersons")) (by rfl) g_OtherPersons rfl) pa_nil))) (pa_cons (pe_callB (call_isZ so.ec hp0 ez) (by rfl) m_isinstance (by decide +kernel) (pa_cons (pv 0) (pa_cons (pe_glob (v := .ref (He.ga K "UnknownName")) (by rfl) g_UnknownName rfl) pa_nil))) (pa_cons (pe_callB (call_isZ so.ec hp0 ez) (by rfl) m_isinstance (by decide +kernel) (pa_cons (pv 0) (pa_cons (pe_glob (v := .ref (He.ga K "UnknownHeight")) (by rfl) g_UnknownHeight rfl) pa_nil))) pa_nil)))))) 
      (pss_cons (ps_set (i := 1) sc__law_sort.nd rfl (Or.inl rfl) (pe_op op_cat (pv 1) (pe_lst (pa_cons (pe_callB (call_isZ so.ec hp0 ez) (by rfl) m_isinstance (by decide +kernel) (pa_cons (pv 0) (pa_cons (pe_glob (v := .ref (He.ga K "NoOrder")) (by rfl) g_NoOrder rfl) pa_nil))) (pa_cons (pe_callB (call_isZ so.ec hp0 ez) (by rfl) m_isinstance (by decide +kernel) (pa_cons (pv 0) (pa_cons (pe_glob (v := .ref (He.ga K "NameTaken")) (by rfl) g_NameTaken rfl) pa_nil))) (pa_cons (pe_callB (call_isZ so.ec hp0 ez) (by rfl) m_isinstance (by decide +kernel) (pa_cons (pv 0) (pa_cons (pe_glob (v := .ref (He.ga K "HeightTaken")) (by rfl) g_HeightTaken rfl) pa_nil))) pa_nil)))))) 
      (pss_cons (ps_set (i := 1) sc__law_sort.nd rfl (Or.inl rfl) (pe_op op_cat (pv 1) (pe_lst (pa_cons (pe_callB (call_isZ so.ec hp0 ez) (by rfl) m_isinstance (by decide +kernel) (pa_cons (pv 0) (pa_cons (pe_glob (v := .ref (He.ga K "NothingToUndo")) (by rfl) g_NothingToUndo rfl) pa_nil))) (pa_cons (pe_callB (call_isZ so.ec hp0 ez) (by rfl) m_isinstance (by decide +kernel) (pa_cons (pv 0) (pa_cons (pe_glob (v := .ref (He.ga K "TooManySeats")) (by rfl) g_TooManySeats rfl) pa_nil))) (pa_cons (pe_callB (call_isZ so.ec hp0 ez) (by rfl) m_isinstance (by decide +kernel) (pa_cons (pv 0) (pa_cons (pe_glob (v := .ref (He.ga K "TooManyPeople")) (by rfl) g_TooManyPeople rfl) pa_nil))) pa_nil)))))) 
      (pss_cons (ps_set (i := 1) sc__law_sort.nd rfl (Or.inl rfl) (pe_op op_cat (pv 1) (pe_lst (pa_cons (pe_callB (call_isZ so.ec hp0 ez) (by rfl) m_isinstance (by decide +kernel) (pa_cons (pv 0) (pa_cons (pe_glob (v := .ref (He.ga K "WordTooShort")) (by rfl) g_WordTooShort rfl) pa_nil))) (pa_cons (pe_callB (call_isZ so.ec hp0 ez) (by rfl) m_isinstance (by decide +kernel) (pa_cons (pv 0) (pa_cons (pe_glob (v := .ref (He.ga K "TooManyDeeds")) (by rfl) g_TooManyDeeds rfl) pa_nil))) (pa_cons (pe_callB (call_isZ so.ec hp0 ez) (by rfl) m_isinstance (by decide +kernel) (pa_cons (pv 0) (pa_cons (pe_glob (v := .ref (He.ga K "LastPerson")) (by rfl) g_LastPerson rfl) pa_nil))) pa_nil)))))) 
      (pss_cons (ps_set (i := 2) sc__law_sort.nd rfl (Or.inl rfl) (pe_lst (pa_cons (pe_callB (call_isZ so.ec hp0 ez) (by rfl) m_isinstance (by decide +kernel) (pa_cons (pv 0) (pa_cons (pe_glob (v := .ref (He.ga K "PassError")) (by rfl) g_PassError rfl) pa_nil))) (pa_cons (pe_callB (call_isZ so.ec hp0 ez) (by rfl) m_isinstance (by decide +kernel) (pa_cons (pv 0) (pa_cons (pe_glob (v := .ref (He.ga K "FindError")) (by rfl) g_FindError rfl) pa_nil))) (pa_cons (pe_callB (call_isZ so.ec hp0 ez) (by rfl) m_isinstance (by decide +kernel) (pa_cons (pv 0) (pa_cons (pe_glob (v := .ref (He.ga K "LimitError")) (by rfl) g_LimitError rfl) pa_nil))) pa_nil))))) 
      (pss_cons (ps_set (i := 3) sc__law_sort.nd rfl (Or.inl rfl) (pe_lst (pa_cons (pe_callB (call_isZ so.ec hp0 ez) (by rfl) m_isinstance (by decide +kernel) (pa_cons (pv 0) (pa_cons (pe_bltn (v := .ty "ValueError") (by rfl) m_ValueError (by decide +kernel) rfl) pa_nil))) (pa_cons (pe_callB (call_isZ so.ec hp0 ez) (by rfl) m_isinstance (by decide +kernel) (pa_cons (pv 0) (pa_cons (pe_bltn (v := .ty "LookupError") (by rfl) m_LookupError (by decide +kernel) rfl) pa_nil))) (pa_cons (pe_callB (call_isZ so.ec hp0 ez) (by rfl) m_isinstance (by decide +kernel) (pa_cons (pv 0) (pa_cons (pe_bltn (v := .ty "ArithmeticError") (by rfl) m_ArithmeticError (by decide +kernel) rfl) pa_nil))) pa_nil))))) 
      (pss_cons (ps_if (PW.pt (pw_or (pt_cmpR op_ne (pe_bm PySem.F.plainAttrs_list PySem.F.slot_list_count PySem.F.type_list_count mt_fcount (pv 1) (pa_cons pe_bl pa_nil)) pe_int (nomark _)) (pw_or1 (pt_cmpR (op_neD hu0) (pv 3) (pv 2) (nomark _))))) (pss_one (ps_ret (pe_op op_sub pe_int pe_int))) pss_nil) 
      (pss_cons (ps_set (i := 4) sc__law_sort.nd rfl (Or.inl rfl) (pe_bm PySem.F.plainAttrs_list PySem.F.slot_list_index PySem.F.type_list_index mt_index (pv 1) (pa_cons pe_bl pa_nil))) 
      (pss_one (ps_ret (pe_ifExp (pt_cmpR (op_eqD hu0) (pv 2) (pe_lst (pa_cons (pe_cmpR op_lt (pv 4) pe_int (nomark _)) (pa_cons (pe_chain op_lt op_lt pe_int (pv 4) pe_int) (pa_cons (pe_cmpR op_gt (pv 4) pe_int (nomark _)) pa_nil)))) (nomark _)) (pv 4) (pe_op op_sub pe_int pe_int)))))))))))))))))), ?_⟩
    have isa : ∀ (j : Nat) (y : Str), errL[j]? = some y → PySem.W.kitOne K (.ref (He.ga K x)) (.ref (He.ga K y)) = some (decide (i = j)) := so.is
    have sA : Same H H := Same.refl H
    refine ⟨_, rfl, _, _, _, fs, rfl, (fun _ r => r), isa 0 _ rfl, hd, ?_⟩
    refine ⟨_, rfl, _, _, _, fs, rfl, (fun _ r => r), isa 1 _ rfl, hd, ?_⟩
    refine ⟨_, rfl, _, _, _, fs, rfl, (fun _ r => r), isa 2 _ rfl, hd, ?_⟩
    refine ⟨(by show 3 ≤ sizeLine; decide), fun a0 na0 => ?_⟩
    have sa0 := same_upd (o := .lst [.bl (decide (i = 0)), .bl (decide (i = 1)), .bl (decide (i = 2))]) na0
    have ha0 : upd H a0 (.lst [.bl (decide (i = 0)), .bl (decide (i = 1)), .bl (decide (i = 2))]) a0 = some (.lst [.bl (decide (i = 0)), .bl (decide (i = 1)), .bl (decide (i = 2))]) := upd_same
    generalize upd H a0 (.lst [.bl (decide (i = 0)), .bl (decide (i = 1)), .bl (decide (i = 2))]) = G0 at sa0 ha0 ⊢
    replace hd := sa0 _ _ hd
    replace sA := sA.trans sa0
    replace ha0 : G0 a0 = some (.lst (ksL i 3)) := ha0
    have hk0 := ha0
    refine ⟨_, rfl, ?_⟩
    refine ⟨_, rfl, _, _, _, fs, rfl, (fun _ r => r), isa 3 _ rfl, hd, ?_⟩
    refine ⟨_, rfl, _, _, _, fs, rfl, (fun _ r => r), isa 4 _ rfl, hd, ?_⟩
    refine ⟨_, rfl, _, _, _, fs, rfl, (fun _ r => r), isa 5 _ rfl, hd, ?_⟩
    refine ⟨(by show 3 ≤ sizeLine; decide), fun a1 na1 => ?_⟩
    have sa1 := same_upd (o := .lst [.bl (decide (i = 3)), .bl (decide (i = 4)), .bl (decide (i = 5))]) na1
    have ha1 : upd G0 a1 (.lst [.bl (decide (i = 3)), .bl (decide (i = 4)), .bl (decide (i = 5))]) a1 = some (.lst [.bl (decide (i = 3)), .bl (decide (i = 4)), .bl (decide (i = 5))]) := upd_same
    generalize upd G0 a1 (.lst [.bl (decide (i = 3)), .bl (decide (i = 4)), .bl (decide (i = 5))]) = G1 at sa1 ha1 ⊢
    replace hd := sa1 _ _ hd
    replace sA := sA.trans sa1
    refine ⟨a0, a1, _, _, rfl, rfl, sa1 _ _ hk0, ha1, (by rw [ksL_len]; show 3 + 3 ≤ sizeLine; decide), fun k1 nk1 => ?_⟩
    have sk1 := same_upd (o := .lst (ksL i 3 ++ [.bl (decide (i = 3)), .bl (decide (i = 4)), .bl (decide (i = 5))])) nk1
    have hk1 : upd G1 k1 (.lst (ksL i 3 ++ [.bl (decide (i = 3)), .bl (decide (i = 4)), .bl (decide (i = 5))])) k1 = some (.lst (ksL i 6)) := by rw [upd_same, ksL_add]
    generalize upd G1 k1 (.lst (ksL i 3 ++ [.bl (decide (i = 3)), .bl (decide (i = 4)), .bl (decide (i = 5))])) = G2 at sk1 hk1 ⊢
    replace hd := sk1 _ _ hd
    replace sA := sA.trans sk1
    refine ⟨_, rfl, ?_⟩
    refine ⟨_, rfl, _, _, _, fs, rfl, (fun _ r => r), isa 6 _ rfl, hd, ?_⟩
    refine ⟨_, rfl, _, _, _, fs, rfl, (fun _ r => r), isa 7 _ rfl, hd, ?_⟩
    refine ⟨_, rfl, _, _, _, fs, rfl, (fun _ r => r), isa 8 _ rfl, hd, ?_⟩
    refine ⟨(by show 3 ≤ sizeLine; decide), fun a2 na2 => ?_⟩
    have sa2 := same_upd (o := .lst [.bl (decide (i = 6)), .bl (decide (i = 7)), .bl (decide (i = 8))]) na2
    have ha2 : upd G2 a2 (.lst [.bl (decide (i = 6)), .bl (decide (i = 7)), .bl (decide (i = 8))]) a2 = some (.lst [.bl (decide (i = 6)), .bl (decide (i = 7)), .bl (decide (i = 8))]) := upd_same
    generalize upd G2 a2 (.lst [.bl (decide (i = 6)), .bl (decide (i = 7)), .bl (decide (i = 8))]) = G3 at sa2 ha2 ⊢
    replace hd := sa2 _ _ hd
    replace sA := sA.trans sa2
    refine ⟨k1, a2, _, _, rfl, rfl, sa2 _ _ hk1, ha2, (by rw [ksL_len]; show 6 + 3 ≤ sizeLine; decide), fun k2 nk2 => ?_⟩
    have sk2 := same_upd (o := .lst (ksL i 6 ++ [.bl (decide (i = 6)), .bl (decide (i = 7)), .bl (decide (i = 8))])) nk2
    have hk2 : upd G3 k2 (.lst (ksL i 6 ++ [.bl (decide (i = 6)), .bl (decide (i = 7)), .bl (decide (i = 8))])) k2 = some (.lst (ksL i 9)) := by rw [upd_same, ksL_add]
    generalize upd G3 k2 (.lst (ksL i 6 ++ [.bl (decide (i = 6)), .bl (decide (i = 7)), .bl (decide (i = 8))])) = G4 at sk2 hk2 ⊢
    replace hd := sk2 _ _ hd
    replace sA := sA.trans sk2
    refine ⟨_, rfl, ?_⟩
    refine ⟨_, rfl, _, _, _, fs, rfl, (fun _ r => r), isa 9 _ rfl, hd, ?_⟩
    refine ⟨_, rfl, _, _, _, fs, rfl, (fun _ r => r), isa 10 _ rfl, hd, ?_⟩
    refine ⟨_, rfl, _, _, _, fs, rfl, (fun _ r => r), isa 11 _ rfl, hd, ?_⟩
    refine ⟨(by show 3 ≤ sizeLine; decide), fun a3 na3 => ?_⟩
    have sa3 := same_upd (o := .lst [.bl (decide (i = 9)), .bl (decide (i = 10)), .bl (decide (i = 11))]) na3
    have ha3 : upd G4 a3 (.lst [.bl (decide (i = 9)), .bl (decide (i = 10)), .bl (decide (i = 11))]) a3 = some (.lst [.bl (decide (i = 9)), .bl (decide (i = 10)), .bl (decide (i = 11))]) := upd_same
    generalize upd G4 a3 (.lst [.bl (decide (i = 9)), .bl (decide (i = 10)), .bl (decide (i = 11))]) = G5 at sa3 ha3 ⊢
    replace hd := sa3 _ _ hd
    replace sA := sA.trans sa3
    refine ⟨k2, a3, _, _, rfl, rfl, sa3 _ _ hk2, ha3, (by rw [ksL_len]; show 9 + 3 ≤ sizeLine; decide), fun k3 nk3 => ?_⟩
    have sk3 := same_upd (o := .lst (ksL i 9 ++ [.bl (decide (i = 9)), .bl (decide (i = 10)), .bl (decide (i = 11))])) nk3
    have hk3 : upd G5 k3 (.lst (ksL i 9 ++ [.bl (decide (i = 9)), .bl (decide (i = 10)), .bl (decide (i = 11))])) k3 = some (.lst (ksL i 12)) := by rw [upd_same, ksL_add]
    generalize upd G5 k3 (.lst (ksL i 9 ++ [.bl (decide (i = 9)), .bl (decide (i = 10)), .bl (decide (i = 11))])) = G6 at sk3 hk3 ⊢
    replace hd := sk3 _ _ hd
    replace sA := sA.trans sk3
    refine ⟨_, rfl, ?_⟩
    refine ⟨_, rfl, _, _, _, fs, rfl, (fun _ r => r), isa 12 _ rfl, hd, ?_⟩
    refine ⟨_, rfl, _, _, _, fs, rfl, (fun _ r => r), isa 13 _ rfl, hd, ?_⟩
    refine ⟨_, rfl, _, _, _, fs, rfl, (fun _ r => r), isa 14 _ rfl, hd, ?_⟩
    refine ⟨(by show 3 ≤ sizeLine; decide), fun a4 na4 => ?_⟩
    have sa4 := same_upd (o := .lst [.bl (decide (i = 12)), .bl (decide (i = 13)), .bl (decide (i = 14))]) na4
    have ha4 : upd G6 a4 (.lst [.bl (decide (i = 12)), .bl (decide (i = 13)), .bl (decide (i = 14))]) a4 = some (.lst [.bl (decide (i = 12)), .bl (decide (i = 13)), .bl (decide (i = 14))]) := upd_same
    generalize upd G6 a4 (.lst [.bl (decide (i = 12)), .bl (decide (i = 13)), .bl (decide (i = 14))]) = G7 at sa4 ha4 ⊢
    replace hd := sa4 _ _ hd
    replace sA := sA.trans sa4
    refine ⟨k3, a4, _, _, rfl, rfl, sa4 _ _ hk3, ha4, (by rw [ksL_len]; show 12 + 3 ≤ sizeLine; decide), fun k4 nk4 => ?_⟩
    have sk4 := same_upd (o := .lst (ksL i 12 ++ [.bl (decide (i = 12)), .bl (decide (i = 13)), .bl (decide (i = 14))])) nk4
    have hk4 : upd G7 k4 (.lst (ksL i 12 ++ [.bl (decide (i = 12)), .bl (decide (i = 13)), .bl (decide (i = 14))])) k4 = some (.lst (ksL i 15)) := by rw [upd_same, ksL_add]
    generalize upd G7 k4 (.lst (ksL i 12 ++ [.bl (decide (i = 12)), .bl (decide (i = 13)), .bl (decide (i = 14))])) = G8 at sk4 hk4 ⊢
    replace hd := sk4 _ _ hd
    replace sA := sA.trans sk4
    refine ⟨_, rfl, ?_⟩
    refine ⟨_, rfl, _, _, _, fs, rfl, (fun _ r => r), isa 15 _ rfl, hd, ?_⟩
    refine ⟨_, rfl, _, _, _, fs, rfl, (fun _ r => r), isa 16 _ rfl, hd, ?_⟩
    refine ⟨_, rfl, _, _, _, fs, rfl, (fun _ r => r), isa 17 _ rfl, hd, ?_⟩
    refine ⟨(by show 3 ≤ sizeLine; decide), fun a5 na5 => ?_⟩
    have sa5 := same_upd (o := .lst [.bl (decide (i = 15)), .bl (decide (i = 16)), .bl (decide (i = 17))]) na5
    have ha5 : upd G8 a5 (.lst [.bl (decide (i = 15)), .bl (decide (i = 16)), .bl (decide (i = 17))]) a5 = some (.lst [.bl (decide (i = 15)), .bl (decide (i = 16)), .bl (decide (i = 17))]) := upd_same
    generalize upd G8 a5 (.lst [.bl (decide (i = 15)), .bl (decide (i = 16)), .bl (decide (i = 17))]) = G9 at sa5 ha5 ⊢
    replace hd := sa5 _ _ hd
    replace sA := sA.trans sa5
    refine ⟨k4, a5, _, _, rfl, rfl, sa5 _ _ hk4, ha5, (by rw [ksL_len]; show 15 + 3 ≤ sizeLine; decide), fun k5 nk5 => ?_⟩
    have sk5 := same_upd (o := .lst (ksL i 15 ++ [.bl (decide (i = 15)), .bl (decide (i = 16)), .bl (decide (i = 17))])) nk5
    have hk5 : upd G9 k5 (.lst (ksL i 15 ++ [.bl (decide (i = 15)), .bl (decide (i = 16)), .bl (decide (i = 17))])) k5 = some (.lst (ksL i 18)) := by rw [upd_same, ksL_add]
    generalize upd G9 k5 (.lst (ksL i 15 ++ [.bl (decide (i = 15)), .bl (decide (i = 16)), .bl (decide (i = 17))])) = G10 at sk5 hk5 ⊢
    replace hd := sk5 _ _ hd
    replace sA := sA.trans sk5
    refine ⟨_, rfl, ?_⟩
    refine ⟨_, rfl, _, _, _, fs, rfl, (fun _ r => r), isa 18 _ rfl, hd, ?_⟩
    refine ⟨_, rfl, _, _, _, fs, rfl, (fun _ r => r), isa 19 _ rfl, hd, ?_⟩
    refine ⟨_, rfl, _, _, _, fs, rfl, (fun _ r => r), isa 20 _ rfl, hd, ?_⟩
    refine ⟨(by show 3 ≤ sizeLine; decide), fun a6 na6 => ?_⟩
    have sa6 := same_upd (o := .lst [.bl (decide (i = 18)), .bl (decide (i = 19)), .bl (decide (i = 20))]) na6
    have ha6 : upd G10 a6 (.lst [.bl (decide (i = 18)), .bl (decide (i = 19)), .bl (decide (i = 20))]) a6 = some (.lst [.bl (decide (i = 18)), .bl (decide (i = 19)), .bl (decide (i = 20))]) := upd_same
    generalize upd G10 a6 (.lst [.bl (decide (i = 18)), .bl (decide (i = 19)), .bl (decide (i = 20))]) = G11 at sa6 ha6 ⊢
    replace hd := sa6 _ _ hd
    replace sA := sA.trans sa6
    refine ⟨k5, a6, _, _, rfl, rfl, sa6 _ _ hk5, ha6, (by rw [ksL_len]; show 18 + 3 ≤ sizeLine; decide), fun k6 nk6 => ?_⟩
    have sk6 := same_upd (o := .lst (ksL i 18 ++ [.bl (decide (i = 18)), .bl (decide (i = 19)), .bl (decide (i = 20))])) nk6
    have hk6 : upd G11 k6 (.lst (ksL i 18 ++ [.bl (decide (i = 18)), .bl (decide (i = 19)), .bl (decide (i = 20))])) k6 = some (.lst (ksL i 21)) := by rw [upd_same, ksL_add]
    generalize upd G11 k6 (.lst (ksL i 18 ++ [.bl (decide (i = 18)), .bl (decide (i = 19)), .bl (decide (i = 20))])) = G12 at sk6 hk6 ⊢
    replace hd := sk6 _ _ hd
    replace sA := sA.trans sk6
    refine ⟨_, rfl, ?_⟩
    refine ⟨_, rfl, _, _, _, fs, rfl, (fun _ r => r), isa 21 _ rfl, hd, ?_⟩
    refine ⟨_, rfl, _, _, _, fs, rfl, (fun _ r => r), isa 22 _ rfl, hd, ?_⟩
    refine ⟨_, rfl, _, _, _, fs, rfl, (fun _ r => r), isa 23 _ rfl, hd, ?_⟩
    refine ⟨(by show 3 ≤ sizeLine; decide), fun a7 na7 => ?_⟩
    have sa7 := same_upd (o := .lst [.bl (decide (i = 21)), .bl (decide (i = 22)), .bl (decide (i = 23))]) na7
    have ha7 : upd G12 a7 (.lst [.bl (decide (i = 21)), .bl (decide (i = 22)), .bl (decide (i = 23))]) a7 = some (.lst [.bl (decide (i = 21)), .bl (decide (i = 22)), .bl (decide (i = 23))]) := upd_same
    generalize upd G12 a7 (.lst [.bl (decide (i = 21)), .bl (decide (i = 22)), .bl (decide (i = 23))]) = G13 at sa7 ha7 ⊢
    replace hd := sa7 _ _ hd
    replace sA := sA.trans sa7
    refine ⟨k6, a7, _, _, rfl, rfl, sa7 _ _ hk6, ha7, (by rw [ksL_len]; show 21 + 3 ≤ sizeLine; decide), fun k7 nk7 => ?_⟩
    have sk7 := same_upd (o := .lst (ksL i 21 ++ [.bl (decide (i = 21)), .bl (decide (i = 22)), .bl (decide (i = 23))])) nk7
    have hk7 : upd G13 k7 (.lst (ksL i 21 ++ [.bl (decide (i = 21)), .bl (decide (i = 22)), .bl (decide (i = 23))])) k7 = some (.lst (ksL i 24)) := by rw [upd_same, ksL_add]
    generalize upd G13 k7 (.lst (ksL i 21 ++ [.bl (decide (i = 21)), .bl (decide (i = 22)), .bl (decide (i = 23))])) = G14 at sk7 hk7 ⊢
    replace hd := sk7 _ _ hd
    replace sA := sA.trans sk7
    refine ⟨_, rfl, ?_⟩
    refine ⟨_, rfl, _, _, _, fs, rfl, (fun _ r => r), isa 24 _ rfl, hd, ?_⟩
    refine ⟨_, rfl, _, _, _, fs, rfl, (fun _ r => r), isa 25 _ rfl, hd, ?_⟩
    refine ⟨_, rfl, _, _, _, fs, rfl, (fun _ r => r), isa 26 _ rfl, hd, ?_⟩
    refine ⟨(by show 3 ≤ sizeLine; decide), fun a8 na8 => ?_⟩
    have sa8 := same_upd (o := .lst [.bl (decide (i = 24)), .bl (decide (i = 25)), .bl (decide (i = 26))]) na8
    have ha8 : upd G14 a8 (.lst [.bl (decide (i = 24)), .bl (decide (i = 25)), .bl (decide (i = 26))]) a8 = some (.lst [.bl (decide (i = 24)), .bl (decide (i = 25)), .bl (decide (i = 26))]) := upd_same
    generalize upd G14 a8 (.lst [.bl (decide (i = 24)), .bl (decide (i = 25)), .bl (decide (i = 26))]) = G15 at sa8 ha8 ⊢
    replace hd := sa8 _ _ hd
    replace sA := sA.trans sa8
    refine ⟨k7, a8, _, _, rfl, rfl, sa8 _ _ hk7, ha8, (by rw [ksL_len]; show 24 + 3 ≤ sizeLine; decide), fun k8 nk8 => ?_⟩
    have sk8 := same_upd (o := .lst (ksL i 24 ++ [.bl (decide (i = 24)), .bl (decide (i = 25)), .bl (decide (i = 26))])) nk8
    have hk8 : upd G15 k8 (.lst (ksL i 24 ++ [.bl (decide (i = 24)), .bl (decide (i = 25)), .bl (decide (i = 26))])) k8 = some (.lst (ksL i 27)) := by rw [upd_same, ksL_add]
    generalize upd G15 k8 (.lst (ksL i 24 ++ [.bl (decide (i = 24)), .bl (decide (i = 25)), .bl (decide (i = 26))])) = G16 at sk8 hk8 ⊢
    replace hd := sk8 _ _ hd
    replace sA := sA.trans sk8
    refine ⟨_, rfl, ?_⟩
    refine ⟨_, rfl, _, _, _, fs, rfl, (fun _ r => r), isa 27 _ rfl, hd, ?_⟩
    refine ⟨_, rfl, _, _, _, fs, rfl, (fun _ r => r), isa 28 _ rfl, hd, ?_⟩
    refine ⟨_, rfl, _, _, _, fs, rfl, (fun _ r => r), isa 29 _ rfl, hd, ?_⟩
    refine ⟨(by show 3 ≤ sizeLine; decide), fun a9 na9 => ?_⟩
    have sa9 := same_upd (o := .lst [.bl (decide (i = 27)), .bl (decide (i = 28)), .bl (decide (i = 29))]) na9
    have ha9 : upd G16 a9 (.lst [.bl (decide (i = 27)), .bl (decide (i = 28)), .bl (decide (i = 29))]) a9 = some (.lst [.bl (decide (i = 27)), .bl (decide (i = 28)), .bl (decide (i = 29))]) := upd_same
    generalize upd G16 a9 (.lst [.bl (decide (i = 27)), .bl (decide (i = 28)), .bl (decide (i = 29))]) = G17 at sa9 ha9 ⊢
    replace hd := sa9 _ _ hd
    replace sA := sA.trans sa9
    refine ⟨k8, a9, _, _, rfl, rfl, sa9 _ _ hk8, ha9, (by rw [ksL_len]; show 27 + 3 ≤ sizeLine; decide), fun k9 nk9 => ?_⟩
    have sk9 := same_upd (o := .lst (ksL i 27 ++ [.bl (decide (i = 27)), .bl (decide (i = 28)), .bl (decide (i = 29))])) nk9
    have hk9 : upd G17 k9 (.lst (ksL i 27 ++ [.bl (decide (i = 27)), .bl (decide (i = 28)), .bl (decide (i = 29))])) k9 = some (.lst (ksL i 30)) := by rw [upd_same, ksL_add]
    generalize upd G17 k9 (.lst (ksL i 27 ++ [.bl (decide (i = 27)), .bl (decide (i = 28)), .bl (decide (i = 29))])) = G18 at sk9 hk9 ⊢
    replace hd := sk9 _ _ hd
    replace sA := sA.trans sk9
    refine ⟨_, rfl, _, _, _, fs, rfl, (fun _ r => r), so.b1, hd, ?_⟩
    refine ⟨_, rfl, _, _, _, fs, rfl, (fun _ r => r), so.b2, hd, ?_⟩
    refine ⟨_, rfl, _, _, _, fs, rfl, (fun _ r => r), so.b3, hd, ?_⟩
    refine ⟨(by show 3 ≤ sizeLine; decide), fun bs nbs => ?_⟩
    have sbs := same_upd (o := .lst [.bl (decide (i < 17)), .bl (decide (16 < i) && decide (i < 25)), .bl (decide (24 < i))]) nbs
    have hbs : upd G18 bs (.lst [.bl (decide (i < 17)), .bl (decide (16 < i) && decide (i < 25)), .bl (decide (24 < i))]) bs = some (.lst [.bl (decide (i < 17)), .bl (decide (16 < i) && decide (i < 25)), .bl (decide (24 < i))]) := upd_same
    generalize upd G18 bs (.lst [.bl (decide (i < 17)), .bl (decide (16 < i) && decide (i < 25)), .bl (decide (24 < i))]) = G19 at sbs hbs ⊢
    replace hd := sbs _ _ hd
    replace sA := sA.trans sbs
    refine ⟨_, rfl, _, _, _, fs, rfl, (fun _ r => r), so.o1, hd, ?_⟩
    refine ⟨_, rfl, _, _, _, fs, rfl, (fun _ r => r), so.o2, hd, ?_⟩
    refine ⟨_, rfl, _, _, _, fs, rfl, (fun _ r => r), so.o3, hd, ?_⟩
    refine ⟨(by show 3 ≤ sizeLine; decide), fun ow now => ?_⟩
    have sow := same_upd (o := .lst [.bl (decide (i < 17)), .bl (decide (16 < i) && decide (i < 25)), .bl (decide (24 < i))]) now
    have how : upd G19 ow (.lst [.bl (decide (i < 17)), .bl (decide (16 < i) && decide (i < 25)), .bl (decide (24 < i))]) ow = some (.lst [.bl (decide (i < 17)), .bl (decide (16 < i) && decide (i < 25)), .bl (decide (24 < i))]) := upd_same
    generalize upd G19 ow (.lst [.bl (decide (i < 17)), .bl (decide (16 < i) && decide (i < 25)), .bl (decide (24 < i))]) = G20 at sow how ⊢
    replace hd := sow _ _ hd
    replace sA := sA.trans sow
    have hk := sow _ _ (sbs _ _ hk9)
    have hb := sow _ _ hbs
    refine ⟨_, rfl, .inl ⟨rfl, _, .inl (.inl hk)⟩, k9, _, .bl true, rfl, rfl, .inl (.inl hk), rfl, ksL_flat i 30, rfl, _, rfl, ?_⟩
    rw [ksL_one so.lt, show ((1 : Nat) : Int) = 1 from rfl, neV]
    refine iteF ⟨_, rfl, _, rfl, _, _, Dp_b3 (.inl (.inl how)), Dp_b3 (.inl (.inl hb)), sh_b3 _ _ _, sh_b3 _ _ _, _, rfl, ?_⟩
    rw [eq_b3]
    refine iteF ⟨_, rfl, .inl ⟨rfl, _, .inl (.inl hk)⟩, k9, _, .bl true, i, .bl true, rfl, rfl, .inl (.inl hk), rfl, ksL_flat i 30, ?_, rfl, fun m z hm hz => ?_, ?_⟩
    · rw [ksL_get so.lt, decide_eq_true rfl]
    · rw [ksL_get (by have := so.lt; omega), decide_eq_false (by omega)] at hz
      rw [← Option.some.inj hz]
      rfl
    have fin : ∀ (c : Bool) (F : Hp) (l : Addr), c = (decide (16 < i) && decide (i < 25)) → Same H F → F bs = some (.lst [.bl (decide (i < 17)), .bl (decide (16 < i) && decide (i < 25)), .bl (decide (24 < i))]) → F l = some (.lst [.bl (decide (((i : Nat) : Int) < 17)), .bl c, .bl (decide (24 < ((i : Nat) : Int)))]) →
        Dp K F (.ref bs) (.list [.bool (decide (i < 17)), .bool (decide (16 < i) && decide (i < 25)), .bool (decide (24 < i))]) ∧ Dp K F (.ref l) (.list [.bool (decide (i < 17)), .bool (decide (16 < i) && decide (i < 25)), .bool (decide (24 < i))]) ∧ Same H F := fun c F l hc sF h1 h2 => by
      subst hc
      rw [show decide (((i : Nat) : Int) < 17) = decide (i < 17) from decide_eq_decide.mpr (by omega), show decide (24 < ((i : Nat) : Int)) = decide (24 < i) from decide_eq_decide.mpr (by omega)] at h2
      exact ⟨Dp_b3 (.inl (.inl h1)), Dp_b3 (.inl (.inl h2)), sF⟩
    refine ⟨_, rfl, _, rfl, _, _, rfl, rfl, ?_⟩
    have tail : ∀ c : Bool, c = (decide (16 < i) && decide (i < 25)) → ∀ (l : Addr), G20 l = none → Dp K (upd G20 l (.lst [.bl (decide (((i : Nat) : Int) < 17)), .bl c, .bl (decide (24 < ((i : Nat) : Int)))])) (.ref bs) (.list [.bool (decide (i < 17)), .bool (decide (16 < i) && decide (i < 25)), .bool (decide (24 < i))]) ∧ Dp K (upd G20 l (.lst [.bl (decide (((i : Nat) : Int) < 17)), .bl c, .bl (decide (24 < ((i : Nat) : Int)))])) (.ref l) (.list [.bool (decide (i < 17)), .bool (decide (16 < i) && decide (i < 25)), .bool (decide (24 < i))]) ∧ Same H (upd G20 l (.lst [.bl (decide (((i : Nat) : Int) < 17)), .bl c, .bl (decide (24 < ((i : Nat) : Int)))])) := fun c hc l nl =>
      fin c _ l hc (sA.trans (same_upd nl)) (same_upd nl _ _ hb) upd_same
    refine ⟨_, rfl, _, _, rfl, rfl, _, rfl, ?_⟩
    by_cases h16 : 16 < i
    · rw [decide_eq_true (show (16 : Int) < ((i : Nat) : Int) by omega)]
      refine iteT ⟨_, _, rfl, rfl, _, rfl, _, _, rfl, rfl, (by show 3 ≤ sizeLine; decide), fun l nl => ?_⟩
      obtain ⟨d1, d2, sH⟩ := tail (decide (((i : Nat) : Int) < 25)) (by rw [decide_eq_true h16, Bool.true_and]; exact decide_eq_decide.mpr (by omega)) l nl
      refine ⟨_, _, d1, d2, sh_b3 _ _ _, sh_b3 _ _ _, _, rfl, ?_⟩
      rw [eq_b3]
      exact iteT ⟨_, rfl, q _ sH⟩
    · rw [decide_eq_false (show ¬ (16 : Int) < ((i : Nat) : Int) by omega)]
      refine iteF ⟨_, rfl, _, _, rfl, rfl, (by show 3 ≤ sizeLine; decide), fun l nl => ?_⟩
      obtain ⟨d1, d2, sH⟩ := tail false (by rw [decide_eq_false h16]; rfl) l nl
      refine ⟨_, _, d1, d2, sh_b3 _ _ _, sh_b3 _ _ _, _, rfl, ?_⟩
      rw [eq_b3]
      exact iteT ⟨_, rfl, q _ sH⟩
end
section
variable {P : Program} {w : World} {K : PySem.W.Frag} {mg : Str → Option Value} {base : Heap}
/-! ### a final row -/
theorem finR_T (r : List Bool) {l : List Int} (h : 2 ≤ l.length) : finR (true :: r) l = finR r l.dropLast ++ [l[l.length - 1]] := by
  match l, h with
  | x :: y :: l, _ =>
    rw [finR, List.getLast_eq_getElem]
theorem finR_S (r : List Bool) {l : List Int} (h : 2 ≤ l.length) : finR (false :: r) l = finR r l.tail ++ [l[0]] := by
  match l, h with
  | x :: y :: l, _ => rfl
theorem finR_one (r : List Bool) {l : List Int} (h : l.length = 1) : finR r l = l := by
  match l, h with
  | [x], _ => cases r <;> rfl
theorem seqIxN {n : Nat} (h : 1 ≤ n) : seqIndex? (-1) n = some (n - 1) := by
  unfold seqIndex?
  have e : (-1 : Int) + (n : Nat) = ((n - 1 : Nat) : Int) := by omega
  simp [e]
  omega
end
section
variable {P : Program} {w : World} {K : PySem.W.Frag} {mg : Str → Option Value} {base : Heap}
/-! ### rows -/
abbrev s_is_whole : Stmt := top 37
abbrev N_is_whole : List Str := ["value"]
theorem sc_is_whole : FnScope N_is_whole ["value"] (defScope s_is_whole) := ⟨rfl, rfl, rfl, by decide +kernel, rfl, by decide +kernel, by decide +kernel⟩
def spWhole (K : PySem.W.Frag) : Sp := fun vs H Q _ => ∃ (v : V) (T : String), vs = [v] ∧ Tv K H v T ∧ Q (.bl (decide (T = "int"))) H
theorem ok_whole (D : Df K mg "is_whole" s_is_whole) (m_isinstance : mg "isinstance" = none) (m_int : mg "int" = none) (m_bool : mg "bool" = none) : Cl P w K mg base 1 "is_whole" s_is_whole ["value"] (spWhole K) := by
  refine D.ok sc_is_whole (fun _ _ _ _ _ _ us hl => match us, hl with | [_], _ => rfl) (fun vs H Q E h => ?_) (fun f cdv A outer s H vs Q E hr h => ?_)
  · obtain ⟨v, T, rfl, _⟩ := h
    rfl
  · obtain ⟨v, T, rfl, t, q⟩ := h
    refine ⟨_, 
      (pss_one (ps_ret (pe_and (pe_callB call_isi (by rfl) m_isinstance (by decide +kernel) (pa_cons (pv 0) (pa_cons (pe_bltn (v := .ty "int") (by rfl) m_int (by decide +kernel) rfl) pa_nil))) (pe_one (pe_not (pe_callB call_isi (by rfl) m_isinstance (by decide +kernel) (pa_cons (pv 0) (pa_cons (pe_bltn (v := .ty "bool") (by rfl) m_bool (by decide +kernel) rfl) pa_nil)))))))), ?_⟩
    refine ⟨_, rfl, v, .ty "int", .type T, .type "int", _, rfl, .ty _, t.ty, kit_int t.mem, _, rfl, ?_⟩
    by_cases h1 : T = "int"
    · rw [decide_eq_true h1, Bool.true_or]
      refine iteT ⟨_, rfl, v, .ty "bool", .type T, .type "bool", _, rfl, .ty _, t.ty, kit_bool t.mem, _, rfl, ?_⟩
      rw [decide_eq_true h1] at q
      rw [decide_eq_false (show ¬ T = "bool" by rw [h1]; decide)]
      exact q
    · rw [decide_eq_false h1] at q
      rw [decide_eq_false h1, Bool.false_or]
      by_cases h2 : T = "bool"
      · rw [decide_eq_true h2]
        refine iteT ⟨_, rfl, v, .ty "bool", .type T, .type "bool", _, rfl, .ty _, t.ty, kit_bool t.mem, _, rfl, ?_⟩
        rw [decide_eq_true h2]
        exact q
      · rw [decide_eq_false h2]
        exact iteF q
abbrev s_is_whole_from : Stmt := top 38
abbrev N_is_whole_from : List Str := ["value", "least", "greatest"]
theorem sc_is_whole_from : FnScope N_is_whole_from ["value", "least", "greatest"] (defScope s_is_whole_from) := ⟨rfl, rfl, rfl, by decide +kernel, rfl, by decide +kernel, by decide +kernel⟩
def wholeB (v : V) (lo hi : Int) : Bool := match v with
  | .int i => decide (lo ≤ i) && decide (i ≤ hi)
  | _ => false
def spFrom (K : PySem.W.Frag) : Sp := fun vs H Q _ => ∃ (v : V) (T : String) (lo hi : Int), vs = [v, .int lo, .int hi] ∧ Tv K H v T ∧ Q (.bl (wholeB v lo hi)) H
theorem ok_from (D : Df K mg "is_whole_from" s_is_whole_from) (c_is_whole : Cl P w K mg base 1 "is_whole" s_is_whole ["value"] (spWhole K)) :
    Cl P w K mg base 2 "is_whole_from" s_is_whole_from ["value", "least", "greatest"] (spFrom K) := by
  refine D.ok sc_is_whole_from (fun _ _ _ _ _ _ us hl => match us, hl with | [_, _, _], _ => rfl) (fun vs H Q E h => ?_) (fun f cdv A outer s H vs Q E hr h => ?_)
  · obtain ⟨v, T, lo, hi, rfl, _⟩ := h
    rfl
  · obtain ⟨v, T, lo, hi, rfl, t, q⟩ := h
    refine ⟨_, 
      (pss_one (ps_ret (pe_and (pe_u c_is_whole hr (by omega) (by rfl) (pa_cons (pv 0) pa_nil)) (pe_one (pe_chain op_le op_le (pv 1) (pv 0) (pv 2)))))), ?_⟩
    refine ⟨_, rfl, v, T, rfl, t, _, rfl, ?_⟩
    by_cases h1 : T = "int"
    · rw [decide_eq_true h1]
      subst h1
      obtain ⟨i, rfl⟩ := t.int_of
      refine iteT ⟨_, rfl, _, rfl, _, _, rfl, rfl, _, rfl, ?_⟩
      have q2 : Q (.bl (decide (lo ≤ i) && decide (i ≤ hi))) H := q
      by_cases h2 : lo ≤ i
      · rw [decide_eq_true h2] at q2 ⊢
        exact iteT ⟨_, rfl, _, _, rfl, rfl, q2⟩
      · rw [decide_eq_false h2] at q2 ⊢
        exact iteF q2
    · rw [decide_eq_false h1]
      refine iteF ?_
      have e : wholeB v lo hi = false := by
        cases v with
        | int i => exact absurd t.of_int h1
        | _ => rfl
      rw [e] at q
      exact q
end
section
variable {P : Program} {w : World} {K : PySem.W.Frag} {mg : Str → Option Value} {base : Heap}
abbrev s_is_height : Stmt := top 39
abbrev N_is_height : List Str := ["value"]
theorem sc_is_height : FnScope N_is_height ["value"] (defScope s_is_height) := ⟨rfl, rfl, rfl, by decide +kernel, rfl, by decide +kernel, by decide +kernel⟩
def spHeight (K : PySem.W.Frag) : Sp := fun vs H Q _ => ∃ (v : V) (T : String), vs = [v] ∧ Tv K H v T ∧ Q (.bl (heightB v)) H
theorem ok_height (D : Df K mg "is_height" s_is_height) (c_is_whole_from : Cl P w K mg base 2 "is_whole_from" s_is_whole_from ["value", "least", "greatest"] (spFrom K)) {tg : Tok} (g_GREATEST_HEIGHT : mg "GREATEST_HEIGHT" = some (.int 999 tg)) :
    Cl P w K mg base 3 "is_height" s_is_height ["value"] (spHeight K) := by
  refine D.ok sc_is_height (fun _ _ _ _ _ _ us hl => match us, hl with | [_], _ => rfl) (fun vs H Q E h => ?_) (fun f cdv A outer s H vs Q E hr h => ?_)
  · obtain ⟨v, T, rfl, _⟩ := h
    rfl
  · obtain ⟨v, T, rfl, t, q⟩ := h
    refine ⟨_, 
      (pss_one (ps_ret (pe_u c_is_whole_from hr (by omega) (by rfl) (pa_cons (pv 0) (pa_cons pe_int (pa_cons (pe_glob (v := .int 999) (by rfl) g_GREATEST_HEIGHT ⟨_, rfl⟩) pa_nil)))))), ?_⟩
    have e : wholeB v 1 999 = heightB v := by cases v <;> rfl
    rw [← e] at q
    exact ⟨_, rfl, v, T, 1, 999, rfl, t, q⟩
abbrev s_may_be_row : Stmt := top 40
abbrev N_may_be_row : List Str := ["value"]
theorem sc_may_be_row : FnScope N_may_be_row ["value"] (defScope s_may_be_row) := ⟨rfl, rfl, rfl, by decide +kernel, rfl, by decide +kernel, by decide +kernel⟩
def spMay (K : PySem.W.Frag) : Sp := fun vs H Q _ => (∃ (v : V) (T : String), vs = [v] ∧ Tv K H v T ∧ T ≠ "tuple" ∧ Q (.bl false) H) ∨
  ∃ (a : Addr) (xs : List V), vs = [.ref a] ∧ SqT K H a xs ∧ Q (.bl (decide (1 ≤ xs.length) && decide (xs.length ≤ 12))) H
theorem ok_may (D : Df K mg "may_be_row" s_may_be_row) (m_isinstance : mg "isinstance" = none) (m_tuple : mg "tuple" = none) (m_len : mg "len" = none) {tg : Tok} (g_MOST_PEOPLE : mg "MOST_PEOPLE" = some (.int 12 tg)) :
    Cl P w K mg base 1 "may_be_row" s_may_be_row ["value"] (spMay K) := by
  refine D.ok sc_may_be_row (fun _ _ _ _ _ _ us hl => match us, hl with | [_], _ => rfl) (fun vs H Q E h => ?_) (fun f cdv A outer s H vs Q E hr h => ?_)
  · rcases h with ⟨v, T, rfl, _⟩ | ⟨a, xs, rfl, _⟩ <;> rfl
  · refine ⟨_, 
      (pss_one (ps_ret (pe_and (pe_callB call_isi (by rfl) m_isinstance (by decide +kernel) (pa_cons (pv 0) (pa_cons (pe_bltn (v := .ty "tuple") (by rfl) m_tuple (by decide +kernel) rfl) pa_nil))) (pe_one (pe_chain op_le op_le pe_int (pe_callB call_lenS (by rfl) m_len (by decide +kernel) (pa_cons (pv 0) pa_nil)) (pe_glob (v := .int 12) (by rfl) g_MOST_PEOPLE ⟨_, rfl⟩)))))), ?_⟩
    rcases h with ⟨v, T, rfl, t, h1, q⟩ | ⟨a, xs, rfl, hS, q⟩
    · refine ⟨_, rfl, v, .ty "tuple", .type T, .type "tuple", _, rfl, .ty _, t.ty, kit_tuple t.mem, _, rfl, ?_⟩
      rw [decide_eq_false h1]
      exact iteF q
    · refine ⟨_, rfl, .ref a, .ty "tuple", .type "tuple", .type "tuple", _, rfl, .ty _, (Tv.tup hS).ty, kit_tuple (Tv.tup hS).mem, _, rfl, iteT ?_⟩
      refine ⟨_, rfl, a, xs, rfl, .inr hS, _, _, rfl, rfl, _, rfl, ?_⟩
      have c1 : ((1 : Int) ≤ (xs.length : Int)) ↔ 1 ≤ xs.length := by omega
      have c2 : ((xs.length : Int) ≤ 12) ↔ xs.length ≤ 12 := by omega
      rw [show decide ((1 : Int) ≤ (xs.length : Int)) = decide (1 ≤ xs.length) from decide_eq_decide.mpr c1]
      by_cases h2 : 1 ≤ xs.length
      · rw [decide_eq_true h2] at q ⊢
        refine iteT ⟨_, _, rfl, rfl, ?_⟩
        show Q (.bl (decide ((xs.length : Int) ≤ 12))) H
        rw [show decide ((xs.length : Int) ≤ 12) = decide (xs.length ≤ 12) from decide_eq_decide.mpr c2]
        exact q
      · rw [decide_eq_false h2] at q ⊢
        exact iteF q
end
section
variable {P : Program} {w : World} {K : PySem.W.Frag} {mg : Str → Option Value} {base : Heap}
/-! ### ascending heights -/
structure Asc (hs : List Int) : Prop where
  row : Row hs
  up : hs.Pairwise (· < ·)
abbrev s_wrong_height : Stmt := top 41
abbrev N_wrong_height : List Str := ["heights", "index", "height"]
theorem sc_wrong_height : FnScope N_wrong_height ["heights"] (defScope s_wrong_height) := ⟨rfl, rfl, rfl, by decide +kernel, rfl, by decide +kernel, by decide +kernel⟩
def spWrongH (K : PySem.W.Frag) : Sp := fun vs H Q _ => ∃ (a : Addr) (hs : List Int), vs = [.ref a] ∧ SqT K H a (hs.map V.int) ∧ Asc hs ∧ ∀ H', Same H H' → Q .non H'
theorem ok_wrongh (D : Df K mg "wrong_height" s_wrong_height) (c_is_height : Cl P w K mg base 3 "is_height" s_is_height ["value"] (spHeight K)) (m_enumerate : mg "enumerate" = none) :
    Cl P w K mg base 4 "wrong_height" s_wrong_height ["heights"] (spWrongH K) := by
  refine D.ok sc_wrong_height (fun _ _ _ _ _ _ us hl => match us, hl with | [_], _ => rfl) (fun vs H Q E h => ?_) (fun f cdv A outer s H vs Q E hr h => ?_)
  · obtain ⟨a, hs, rfl, _⟩ := h
    rfl
  · obtain ⟨a, hs, rfl, hS, asc, q⟩ := h
    refine ⟨_, 
      (pss_cons (ps_for PassesOwn.never rfl (pi_enumT (by rfl) m_enumerate (pa_cons (pv 0) pa_nil)) (pg_tup (by rfl) (pgs_cons (pg_name (i := 1) sc_wrong_height.nd rfl (Or.inl rfl)) (pgs_cons (pg_name (i := 2) sc_wrong_height.nd rfl (Or.inl rfl)) pgs_nil))) (pss_one (ps_if (PW.pt (pw_or (pt_not (pt_val (pe_u c_is_height hr (by omega) (by rfl) (pa_cons (pv 2) pa_nil)))) (pw_or1 (PW.pt (pw_and (pt_cmpR op_gt (pv 1) pe_int (nomark _)) (pw_and1 (pt_cmpR op_le (pv 2) (pe_ix ix_tup (pv 0) (pe_op op_sub (pv 1) pe_int) (fun _ _ => rfl)) (nomark _)))))))) (pss_one (ps_ret (pv 1))) pss_nil))) 
      (pss_one (ps_ret pe_non))), ?_⟩
    refine ⟨_, rfl, a, hs.map V.int, rfl, hS, ?_⟩
    refine walk_enumT (xs := hs.map V.int) (fun i σ G => ∃ y1 y2 : Option V, σ = [some (.ref a), y1, y2] ∧ Same H G) ⟨none, none, rfl, Same.refl H⟩ (fun i σ G _ hI => ?_) (fun i x T σ G hx hI nT => ?_) (fun σ G hI => ?_)
    · obtain ⟨_, _, _, sm⟩ := hI
      exact SqT.same sm hS
    · obtain ⟨y1, y2, rfl, sm⟩ := hI
      have lt := lt_of_get hx
      have ex := Option.some.inj (hx.symm.trans (getI lt))
      subst ex
      have smT := sm.trans (same_upd (o := .tup [.int (i : Nat), .int hs[i]]) nT)
      refine ⟨T, _, rfl, .inl (.inl upd_same), rfl, _, _, rfl, _, _, rfl, rfl, ?_⟩
      have rg := asc.row.rng hs[i] (List.getElem_mem lt)
      have hB : heightB (.int hs[i]) = true := by
        show (decide (1 ≤ hs[i]) && decide (hs[i] ≤ 999)) = true
        rw [decide_eq_true rg.1, decide_eq_true rg.2]
        rfl
      refine ⟨_, rfl, .int hs[i], "int", rfl, Tv.int _, _, rfl, ?_⟩
      rw [hB]
      refine iteF ⟨_, rfl, _, _, rfl, rfl, _, rfl, ?_⟩
      by_cases h0 : i = 0
      · rw [decide_eq_false (by omega)]
        exact iteF (iteF ⟨_, _, rfl, smT⟩)
      · rw [decide_eq_true (by omega)]
        have lt1 : i - 1 < hs.length := by omega
        refine iteT ⟨_, rfl, _, rfl, _, rfl, _, _, rfl, rfl, a, _, _, .int hs[i - 1], rfl, rfl, SqT.same smT hS, ?_, _, _, rfl, rfl, _, rfl, ?_⟩
        · rw [show ((i : Nat) : Int) - 1 = ((i - 1 : Nat) : Int) by omega]
          exact atI_nat (getI lt1)
        · have := List.pairwise_iff_getElem.mp asc.up (i - 1) i lt1 lt (by omega)
          rw [decide_eq_false (by omega)]
          exact iteF ⟨_, _, rfl, smT⟩
    · obtain ⟨y1, y2, rfl, sm⟩ := hI
      exact q _ sm
abbrev s_check_heights : Stmt := top 42
abbrev N_check_heights : List Str := ["heights", "index"]
theorem sc_check_heights : FnScope N_check_heights ["heights"] (defScope s_check_heights) := ⟨rfl, rfl, rfl, by decide +kernel, rfl, by decide +kernel, by decide +kernel⟩
def spCheckH (K : PySem.W.Frag) : Sp := fun vs H Q _ => ∃ (a : Addr) (hs : List Int), vs = [.ref a] ∧ SqT K H a (hs.map V.int) ∧ Asc hs ∧ ∀ H', Same H H' → Q .non H'
theorem ok_checkh (D : Df K mg "check_heights" s_check_heights) (c_may_be_row : Cl P w K mg base 1 "may_be_row" s_may_be_row ["value"] (spMay K)) (c_wrong_height : Cl P w K mg base 4 "wrong_height" s_wrong_height ["heights"] (spWrongH K)) :
    Cl P w K mg base 5 "check_heights" s_check_heights ["heights"] (spCheckH K) := by
  refine D.ok sc_check_heights (fun _ _ _ _ _ _ us hl => match us, hl with | [_], _ => rfl) (fun vs H Q E h => ?_) (fun f cdv A outer s H vs Q E hr h => ?_)
  · obtain ⟨a, hs, rfl, _⟩ := h
    rfl
  · obtain ⟨a, hs, rfl, hS, asc, q⟩ := h
    have l1 : 1 ≤ (hs.map V.int).length := by rw [List.length_map]; exact asc.row.pos
    have l2 : (hs.map V.int).length ≤ 12 := by rw [List.length_map]; exact asc.row.most
    refine ⟨_, 
      (pss_cons (ps_if (pt_not (pt_val (pe_u c_may_be_row hr (by omega) (by rfl) (pa_cons (pv 0) pa_nil)))) (pss_one ps_never) pss_nil) 
      (pss_cons (ps_set (i := 1) sc_check_heights.nd rfl (Or.inl rfl) (pe_u c_wrong_height hr (by omega) (by rfl) (pa_cons (pv 0) pa_nil))) 
      (pss_one (ps_if (pt_cmpR op_notN (pv 1) pe_non (nomark _)) (pss_one ps_never) pss_nil)))), ?_⟩
    refine ⟨_, rfl, .inr ⟨a, _, rfl, hS, _, rfl, ?_⟩⟩
    rw [decide_eq_true l1, decide_eq_true l2]
    refine iteF ⟨_, rfl, a, hs, rfl, hS, asc, fun H' sm => ?_⟩
    refine ⟨_, rfl, rfl, _, rfl, ?_⟩
    rw [decide_eq_true rfl]
    exact iteF (q H' sm)
end
section
variable {P : Program} {w : World} {K : PySem.W.Frag} {mg : Str → Option Value} {base : Heap}
/-! ### heights -/
theorem rg_up (a b : Int) : (rg a b).Pairwise (· < ·) := by
  unfold rg
  exact List.pairwise_map.mpr (List.pairwise_lt_range.imp fun h => by omega)
abbrev s__law_persons : Stmt := top 55
abbrev N__law_persons : List Str := ["_law_pool_here", "_law_many", "_law_mode", "_law_left", "_law_k"]
theorem sc__law_persons : FnScope N__law_persons ["_law_pool_here", "_law_many"] (defScope s__law_persons) := ⟨rfl, rfl, rfl, by decide +kernel, rfl, by decide +kernel, by decide +kernel⟩
def spPersons : Sp := fun vs H Q _ => ∃ (a : Addr) (n : Int), vs = [.ref a, .int n] ∧ 1 ≤ n ∧ n ≤ 12 ∧ Pool H a ∧
  ∀ (p : Addr) (ns : List Int) (H' : Hp), Kp a H H' → Pool H' a → H p = none → H' p = some (.lst (ns.map V.int)) → (ns.length : Int) = n → Row ns → ns.Pairwise (· < ·) → Q (.ref p) H'
theorem ok_heights (D : Df K mg "_law_persons" s__law_persons) (c__law_draw : Cl P w K mg base 1 "_law_draw" s__law_draw ["_law_pool_here", "_law_limit"] spDraw) (m_len : mg "len" = none) (m_list : mg "list" = none) (m_range : mg "range" = none) (m_sorted : mg "sorted" = none) :
    Cl P w K mg base 2 "_law_persons" s__law_persons ["_law_pool_here", "_law_many"] spPersons := by
  refine D.ok sc__law_persons (fun _ _ _ _ _ _ us hl => match us, hl with | [_, _], _ => rfl) (fun vs H Q E h => ?_) (fun f cdv A outer s H vs Q E hr h => ?_)
  · obtain ⟨a, n, rfl, _⟩ := h
    rfl
  · obtain ⟨a, n, rfl, n1, n2, hp, q⟩ := h
    refine ⟨_, 
      (pss_cons (ps_set (i := 2) sc__law_persons.nd rfl (Or.inl rfl) (pe_u c__law_draw hr (by omega) (by rfl) (pa_cons (pv 0) (pa_cons pe_int pa_nil)))) 
      (pss_cons (ps_if (pt_cmpR op_eq (pv 2) pe_int (nomark _)) (pss_one (ps_ret (pe_listRg rfl (by rfl) m_list (prg_2 (by rfl) m_range pe_int (pe_op op_add (pv 1) pe_int))))) pss_nil) 
      (pss_cons (ps_if (pt_cmpR op_eq (pv 2) pe_int (nomark _)) (pss_one (ps_ret (pe_listRg rfl (by rfl) m_list (prg_2 (by rfl) m_range (pe_op op_sub pe_int (pv 1)) pe_int)))) pss_nil) 
      (pss_cons (ps_set (i := 3) sc__law_persons.nd rfl (Or.inr rfl) (pe_listRg rfl (by rfl) m_list (prg_2 (by rfl) m_range pe_int pe_int))) 
      (pss_one (ps_ret (pe_callB cr_sorted (by rfl) m_sorted (by decide +kernel) (pa_cons (pe_lc (own := [("_law_k", 4)]) (g := gName 4) (te := (tBM K "list" rPopAt (tVar 3) (tCons (tCall spDraw [] E0 (tCons (tVar 0) (tCons (tCB (rLenS K) (tCons (tVar 3) tNil)) tNil))) tNil))) rfl sc__law_persons.nd (pi_range1 (by rfl) m_range (pa_cons (pv 1) pa_nil)) (blkOk_by (own := [("_law_k", 4)]) (N := N__law_persons) (sc := (defScope s__law_persons)) (by decide +kernel)) (fun _ _ _ _ _ => (pg_name (i := 4) sc__law_persons.nd rfl (Or.inl rfl))) (fun _ _ _ _ _ => pts_nil) (fun _ _ _ _ _ => (pe_bm PySem.F.plainAttrs_list PySem.F.slot_list_pop PySem.F.type_list_pop mt_popAt (pv 3) (pa_cons (pe_u c__law_draw hr (by omega) (by rfl) (pa_cons (pv 0) (pa_cons (pe_callB call_lenS (by rfl) m_len (by decide +kernel) (pa_cons (pv 3) pa_nil)) pa_nil))) pa_nil)))) pa_nil)))))))), ?_⟩
    refine ⟨_, rfl, a, 4, rfl, by decide, by decide, hp, fun d H1 d0 d1 k1 p1 => ?_⟩
    have whole : ∀ (lo hi : Int), 1 ≤ lo → hi ≤ 1000 → hi - lo = n → ∀ p, H1 p = none → Q (.ref p) (upd H1 p (.lst (rgV lo hi))) := fun lo hi h1 h2 h3 p np => by
      have pa : p ≠ a := p1.ne np
      refine q p (rg lo hi) _ (k1.upd (k1.free np pa)) (p1.upd pa.symm) (k1.free np pa) ?_ ?_ ⟨?_, ?_, rg_nodup lo hi, fun x hx => ?_⟩ ?_
      · rw [upd_same, rgV_rg]
      · rw [rg_len]; omega
      · rw [rg_len]; omega
      · rw [rg_len]; omega
      · have := rg_mem hx
        omega
      · exact rg_up lo hi
    refine ⟨_, rfl, rfl, _, rfl, ite2 (fun e => ?_) (fun e => ?_)⟩
    · exact ⟨_, rfl, _, _, rfl, rfl, 1, n + 1, rfl, rfl, .of_le (by decide) (by omega) (by decide) (by omega), whole 1 (n + 1) (by decide) (by omega) (by omega)⟩
    · refine ⟨_, rfl, rfl, _, rfl, ite2 (fun e => ?_) (fun e => ?_)⟩
      · exact ⟨_, rfl, _, _, rfl, rfl, 1000 - n, 1000, rfl, rfl, .of_le (by omega) (by decide) (by omega) (by decide), whole (1000 - n) 1000 (by omega) (by decide) (by omega)⟩
      · refine ⟨1, 1000, rfl, rfl, .of_le (by decide) (by decide) (by decide) (by decide), fun l nl => ?_⟩
        have la : l ≠ a := p1.ne nl
        refine ⟨_, rfl, n, rfl, by omega, by omega, fun D nD => ?_⟩
        have Dl : D ≠ l := fun z => by
          subst z
          rw [upd_same] at nD
          cases nD
        rw [upd_ne Dl] at nD
        have Da : D ≠ a := p1.ne nD
        refine lc_range (lo := 0) (n := n.toNat) (fun i H2 => ∃ taken left : List Int, H2 l = some (.lst (left.map V.int)) ∧ H2 D = some (.lst (taken.map V.int)) ∧ taken.length = i ∧ (taken ++ left).Perm (rg 1 1000) ∧ Pool H2 a ∧ Kp a H H2)
          ⟨[], rg 1 1000, ?_, upd_same, rfl, .refl _, (p1.upd la.symm).upd Da.symm, (k1.upd (k1.free nl la)).upd (k1.free nD Da)⟩ (fun i H2 hi hI => ?_) (fun H2 hI => ?_)
        · rw [upd_ne Dl.symm, upd_same, rgV_rg]
        · obtain ⟨taken, left, hl, hD, ht, hpm, p2, k2⟩ := hI
          have hlen : taken.length + left.length = 999 := by
            have := hpm.length_eq
            rw [List.length_append, rg_len] at this
            exact this
          refine ⟨rfl, _, rfl, .inl ⟨rfl, _, .inl (.inl hl)⟩, _, rfl, _, rfl, l, _, rfl, .inl (.inl (.inl hl)), a, _, rfl, ?_, ?_, p2, fun j H3 j0 j1 k3 p3 => ?_⟩
          · rw [List.length_map]; omega
          · rw [List.length_map]; omega
          · rw [List.length_map] at j1
            have lt : j.toNat < left.length := by omega
            have hl3 : H3 l = some (.lst (left.map V.int)) := k3 l _ hl la
            have hD3 : H3 D = some (.lst (taken.map V.int)) := k3 D _ hD Da
            refine ⟨l, left.map V.int, j, j.toNat, .int left[j.toNat], rfl, rfl, hl3, by omega, by omega, seqIx j0 (by rw [List.length_map]; exact j1), getI lt, taken.map V.int, ?_, ?_, ?_⟩
            · rw [upd_ne Dl]
              exact hD3
            · rw [List.length_map]
              exact len_lt (by omega)
            · refine ⟨taken ++ [left[j.toNat]], left.eraseIdx j.toNat, ?_, ?_, ?_, (take_perm lt).trans hpm, (p3.upd la.symm).upd Da.symm, ?_⟩
              · rw [upd_ne Dl.symm, upd_same, eraseI]
              · rw [upd_same, List.map_append]
                rfl
              · rw [List.length_append, ht]
                rfl
              · exact ((k2.trans k3).upd (k1.free nl la)).upd (k1.free nD Da)
        · obtain ⟨taken, left, hl, hD, ht, hpm, p2, k2⟩ := hI
          have nd : (taken ++ left).Nodup := hpm.nodup_iff.mpr (rg_nodup 1 1000)
          have mem : ∀ x ∈ taken, 1 ≤ x ∧ x ≤ 999 := fun x hx => by
            have := rg_mem (hpm.mem_iff.mp (List.mem_append_left left hx))
            omega
          refine ⟨D, taken, rfl, .inl (.inl hD), by omega, fun ns p pm so np => ?_⟩
          have pa : p ≠ a := p2.ne np
          have pf : H p = none := k2.free np pa
          refine q p ns _ (k2.upd pf) (p2.upd pa.symm) pf upd_same ?_ ⟨?_, ?_, ?_, fun x hx => mem x (pm.mem_iff.mp hx)⟩ ?_
          · rw [pm.length_eq]; omega
          · rw [pm.length_eq]; omega
          · rw [pm.length_eq]; omega
          · exact pm.nodup_iff.mpr (List.nodup_append.mp nd).1
          · exact (so.and (pm.nodup_iff.mpr (List.nodup_append.mp nd).1)).imp fun z => by omega
end
section
variable {P : Program} {w : World} {K : PySem.W.Frag} {mg : Str → Option Value} {base : Heap}
/-! ### people in a drawn order -/
abbrev s__law_shuffled : Stmt := top 56
abbrev N__law_shuffled : List Str := ["_law_pool_here", "_law_things", "_law_left", "_law_found", "_law_k"]
theorem sc__law_shuffled : FnScope N__law_shuffled ["_law_pool_here", "_law_things"] (defScope s__law_shuffled) := ⟨rfl, rfl, rfl, by decide +kernel, rfl, by decide +kernel, by decide +kernel⟩
def spShuf (K : PySem.W.Frag) : Sp := fun vs H Q _ => ∃ (a t : Addr) (ns : List Int), vs = [.ref a, .ref t] ∧ t ≠ a ∧ (SqL K H t (ns.map V.int) ∨ SqT K H t (ns.map V.int)) ∧ ns.length ≤ 12 ∧ Pool H a ∧
  ∀ (p : Addr) (ms : List Int) (H' : Hp), Kp a H H' → Pool H' a → H p = none → H' p = some (.tup (ms.map V.int)) → ms.Perm ns → Q (.ref p) H'
theorem ok_shuf (D : Df K mg "_law_shuffled" s__law_shuffled) (c__law_draw : Cl P w K mg base 1 "_law_draw" s__law_draw ["_law_pool_here", "_law_limit"] spDraw)
    (m_len : mg "len" = none) (m_tuple : mg "tuple" = none) (m_list : mg "list" = none) (m_range : mg "range" = none) : Cl P w K mg base 2 "_law_shuffled" s__law_shuffled ["_law_pool_here", "_law_things"] (spShuf K) := by
  refine D.ok sc__law_shuffled (fun _ _ _ _ _ _ us hl => match us, hl with | [_, _], _ => rfl) (fun vs H Q E h => ?_) (fun f cdv A outer s H vs Q E hr h => ?_)
  · obtain ⟨a, t, ns, rfl, _⟩ := h
    rfl
  · obtain ⟨a, t, all, rfl, ta, hS, most, hp, q⟩ := h
    refine ⟨_, 
      (pss_cons (ps_par (i := 2) (j := 3) (by rfl) sc__law_shuffled.nd rfl rfl (by decide) rfl rfl (pa_cons (pe_callTy call_list_of (by rfl) m_list (by decide +kernel) (pa_cons (pv 1) pa_nil)) (pa_cons (pe_lst pa_nil) pa_nil)) (by rfl)) 
      (pss_cons (ps_for PassesOwn.never rfl (pi_range1 (by rfl) m_range (pa_cons (pe_callB call_lenS (by rfl) m_len (by decide +kernel) (pa_cons (pv 1) pa_nil)) pa_nil)) (pg_name (i := 4) sc__law_shuffled.nd rfl (Or.inl rfl)) (pss_one (ps_expr (pe_bm PySem.F.plainAttrs_list PySem.F.slot_list_append PySem.F.type_list_append mt_append (pv 3) (pa_cons (pe_bm PySem.F.plainAttrs_list PySem.F.slot_list_pop PySem.F.type_list_pop mt_popAt (pv 2) (pa_cons (pe_u c__law_draw hr (by omega) (by rfl) (pa_cons (pv 0) (pa_cons (pe_callB call_lenS (by rfl) m_len (by decide +kernel) (pa_cons (pv 2) pa_nil)) pa_nil))) pa_nil)) pa_nil))))) 
      (pss_one (ps_ret (pe_callTy call_tuple_of (by rfl) m_tuple (by decide +kernel) (pa_cons (pv 3) pa_nil)))))), ?_⟩
    refine ⟨_, rfl, t, _, rfl, hS, fun l nl => ⟨Nat.zero_le _, fun D nD => ⟨_, _, rfl, ?_⟩⟩⟩
    have la : l ≠ a := hp.ne nl
    have Dl : D ≠ l := fun z => by
      subst z
      rw [upd_same] at nD
      cases nD
    rw [upd_ne Dl] at nD
    have Da : D ≠ a := hp.ne nD
    have s2 : Same H (upd (upd H l (.lst (all.map V.int))) D (.lst [])) := (same_upd nl).trans (same_upd ((upd_ne Dl).trans nD))
    refine ⟨_, rfl, t, all.map V.int, rfl, hS.elim (fun z => .inl (s2.seq z)) (fun z => .inr (SqT.same s2 z)), ?_⟩
    refine ⟨((all.map V.int).length : Nat), rfl, by omega, ?_, ?_⟩
    · rw [List.length_map]
      omega
    refine for_range (lo := 0) (n := (((all.map V.int).length : Nat) : Int).toNat) (fun i σ H3 => ∃ (y : Option V) (taken left : List Int), σ = [some (.ref a), some (.ref t), some (.ref l), some (.ref D), y] ∧ H3 l = some (.lst (left.map V.int)) ∧ H3 D = some (.lst (taken.map V.int)) ∧ taken.length = i ∧ (taken ++ left).Perm all ∧ Pool H3 a ∧ Kp a H H3)
      ⟨none, [], all, rfl, ?_, upd_same, rfl, .refl _, (hp.upd la.symm).upd Da.symm, .of_same s2⟩ (fun i σ H3 hi hI => ?_) (fun σ H3 hI => ?_)
    · rw [upd_ne Dl.symm, upd_same]
    · obtain ⟨y, taken, left, rfl, hl3, hD3, ht, hpm, p3, k3⟩ := hI
      have ln : taken.length + left.length = all.length := by
        rw [← List.length_append]
        exact hpm.length_eq
      rw [List.length_map] at hi
      refine ⟨_, rfl, .inl ⟨rfl, _, .inl (.inl hD3)⟩, _, rfl, .inl ⟨rfl, _, .inl (.inl hl3)⟩, _, rfl, _, rfl, l, _, rfl, .inl (.inl (.inl hl3)), a, _, rfl, ?_, ?_, p3, fun j H4 j0 j1 k4 p4 => ?_⟩
      · rw [List.length_map]; omega
      · rw [List.length_map]; omega
      · rw [List.length_map] at j1
        have lt : j.toNat < left.length := by omega
        have hl4 : H4 l = some (.lst (left.map V.int)) := k4 l _ hl3 la
        have hD4 : H4 D = some (.lst (taken.map V.int)) := k4 D _ hD3 Da
        refine ⟨l, left.map V.int, j, j.toNat, .int left[j.toNat], rfl, rfl, hl4, by omega, by omega, seqIx j0 (by rw [List.length_map]; exact j1), getI lt, D, taken.map V.int, _, rfl, rfl, ?_, ?_, ?_⟩
        · rw [upd_ne Dl]
          exact hD4
        · rw [List.length_map]
          exact len_lt (by omega)
        · refine ⟨_, taken ++ [left[j.toNat]], left.eraseIdx j.toNat, rfl, ?_, ?_, ?_, (take_perm lt).trans hpm, (p4.upd la.symm).upd Da.symm, ((k3.trans k4).upd nl).upd nD⟩
          · rw [upd_ne Dl.symm, upd_same, eraseI]
          · rw [upd_same, List.map_append]
            rfl
          · rw [List.length_append, ht]
            rfl
    · obtain ⟨y, taken, left, rfl, hl3, hD3, ht, hpm, p3, k3⟩ := hI
      have ln : taken.length + left.length = all.length := by
        rw [← List.length_append]
        exact hpm.length_eq
      have l0 : left = [] := List.length_eq_zero_iff.mp (by
        rw [List.length_map] at ht
        omega)
      subst l0
      rw [List.append_nil] at hpm
      refine ⟨_, rfl, D, taken.map V.int, rfl, .inl ⟨.inl (.inl hD3), fun p np => ?_⟩⟩
      have pa : p ≠ a := p3.ne np
      have pf : H p = none := k3.free np pa
      exact q p taken _ (k3.upd pf) (p3.upd pa.symm) pf upd_same hpm
end
section
variable {P : Program} {w : World} {K : PySem.W.Frag} {mg : Str → Option Value} {base : Heap}
/-! ### drawn letters -/
abbrev s__law_letters : Stmt := top 57
abbrev N__law_letters : List Str := ["_law_pool_here", "_law_many", "_law_most", "_law_found"]
theorem sc__law_letters : FnScope N__law_letters ["_law_pool_here", "_law_many"] (defScope s__law_letters) := ⟨rfl, rfl, rfl, by decide +kernel, rfl, by decide +kernel, by decide +kernel⟩
def spLetters : Sp := fun vs H Q _ => ∃ (a : Addr) (m : Int), vs = [.ref a, .int m] ∧ 0 ≤ m ∧ m ≤ 1000 ∧ Pool H a ∧ ∀ (bs : List Bool) (H' : Hp), Kp a H H' → Pool H' a → (bs.length : Int) = m → Q (.str (wd bs)) H'
theorem ok_letters (D : Df K mg "_law_letters" s__law_letters) (c__law_draw : Cl P w K mg base 1 "_law_draw" s__law_draw ["_law_pool_here", "_law_limit"] spDraw) (m_len : mg "len" = none) : Cl P w K mg base 2 "_law_letters" s__law_letters ["_law_pool_here", "_law_many"] spLetters := by
  refine D.ok sc__law_letters (fun _ _ _ _ _ _ us hl => match us, hl with | [_, _], _ => rfl) (fun vs H Q E h => ?_) (fun f cdv A outer s H vs Q E hr h => ?_)
  · obtain ⟨a, m, rfl, _⟩ := h
    rfl
  · obtain ⟨a, m, rfl, m0, m1, hp, q⟩ := h
    refine ⟨_, 
      (pss_cons (ps_par (i := 2) (j := 3) (by rfl) sc__law_letters.nd rfl rfl (by decide) rfl rfl (pa_cons (pe_op op_add pe_int (pe_u c__law_draw hr (by omega) (by rfl) (pa_cons (pv 0) (pa_cons pe_int pa_nil)))) (pa_cons pe_str pa_nil)) (by rfl)) 
      (pss_cons (ps_while PassesOwn.never (pt_cmpR op_lt (pe_callB call_len_str (by rfl) m_len (by decide +kernel) (pa_cons (pv 3) pa_nil)) (pv 1) (nomark _)) (pss_one (ps_set (i := 3) sc__law_letters.nd rfl (Or.inl rfl) (pe_op op_add_str (pv 3) (pe_op op_mul_str (pe_ix ix_str pe_str (pe_u c__law_draw hr (by omega) (by rfl) (pa_cons (pv 0) (pa_cons pe_int pa_nil))) (fun _ _ => rfl)) (pe_op op_add pe_int (pe_u c__law_draw hr (by omega) (by rfl) (pa_cons (pv 0) (pa_cons (pv 2) pa_nil))))))))) 
      (pss_one (ps_ret (pe_slice sl_str (pv 3) po_none (po_some (pv 1))))))), ?_⟩
    refine ⟨_, rfl, a, 3, rfl, by decide, by decide, hp, fun e H2 e0 e1 k2 p2 => ?_⟩
    refine ⟨_, _, rfl, rfl, _, _, rfl, ?_⟩
    obtain ⟨n, rfl⟩ : ∃ n : Nat, m = (n : Nat) := ⟨m.toNat, by omega⟩
    refine while_by (fun σ H3 => ∃ bs : List Bool, σ = [some (.ref a), some (.int (n : Nat)), some (.int (1 + e)), some (.str (wd bs))] ∧ bs.length ≤ 2000 ∧ Kp a H H3 ∧ Pool H3 a)
      (fun σ _ => match σ with | [_, _, _, some (.str z)] => n - z.length | _ => 0) ⟨[], rfl, Nat.zero_le _, k2, p2⟩ (fun σ H3 hI => ?_) (fun σ H3 Q1 Q2 hq hc => ?_)
    · obtain ⟨bs, rfl, hb, k3, p3⟩ := hI
      have sz : (wd bs).length ≤ sizeLine := by
        rw [wd_len]
        exact Nat.le_of_lt (len_lt (by omega))
      refine ⟨_, rfl, _, rfl, sz, _, rfl, _, _, rfl, rfl, _, rfl, ?_⟩
      rw [show decide ((((wd bs).length : Nat) : Int) < ((n : Nat) : Int)) = decide (bs.length < n) from decide_eq_decide.mpr (by rw [wd_len]; omega)]
      by_cases hlt : bs.length < n
      · rw [decide_eq_true hlt]
        refine iteT ⟨_, rfl, _, rfl, a, 2, rfl, by decide, by decide, p3, fun c H4 c0 c1 k4 p4 => ?_⟩
        refine ⟨_, c, _, rfl, rfl, (by decide +kernel), atST c c0 c1, ?_⟩
        refine ⟨_, rfl, _, rfl, a, _, rfl, by omega, by omega, p4, fun g H5 g0 g1 k5 p5 => ?_⟩
        refine ⟨_, _, rfl, rfl, _, _, rfl, rfl, by omega, by omega, (by show 1 ≤ 1000; decide), ?_⟩
        obtain ⟨j, rfl⟩ : ∃ j : Nat, g = (j : Nat) := ⟨g.toNat, by omega⟩
        have em : Txt.mul (ltr (decide (c = 1))) (1 + (j : Nat)) = wd (List.replicate (j + 1) (decide (c = 1))) := by
          rw [← mul_ltr]
          congr 1
          omega
        rw [em]
        refine ⟨_, _, rfl, rfl, ?_, ?_⟩
        · rw [wd_len, wd_len, List.length_replicate]
          exact Nat.le_of_lt (len_lt (by omega))
        · rw [wd_app]
          refine ⟨⟨bs ++ List.replicate (j + 1) (decide (c = 1)), rfl, ?_, (k3.trans k4).trans k5, p5⟩, ?_⟩
          · rw [List.length_append, List.length_replicate]
            omega
          · show n - (wd (bs ++ List.replicate (j + 1) (decide (c = 1)))).length < n - (wd bs).length
            rw [wd_len, wd_len, List.length_append, List.length_replicate]
            omega
      · rw [decide_eq_false hlt]
        refine iteF ⟨_, rfl, _, rfl, _, rfl, _, rfl, sz, ?_⟩
        rw [cutS_take]
        refine q (bs.take n) _ k3 p3 ?_
        rw [List.length_take]
        omega
    · obtain ⟨v, hv, z, hz, hs, v2, hv2, i, j, e1, e2, k, ek, r⟩ := hc
      exact ⟨v, hv, z, hz, hs, v2, hv2, i, j, e1, e2, k, ek, hq _ _ r⟩
end
section
variable {P : Program} {w : World} {K : PySem.W.Frag} {mg : Str → Option Value} {base : Heap}
/-! ### the law's own final row -/
theorem finR_nil (l : List Int) : finR [] l = l := by
  match l with
  | [] => rfl
  | [x] => rfl
  | x :: y :: l => rfl
abbrev s__law_placed : Stmt := top 58
abbrev N__law_placed : List Str := ["_law_persons_here", "_law_code", "_law_left", "_law_found", "_law_letter"]
theorem sc__law_placed : FnScope N__law_placed ["_law_persons_here", "_law_code"] (defScope s__law_placed) := ⟨rfl, rfl, rfl, by decide +kernel, rfl, by decide +kernel, by decide +kernel⟩
def spPlaced (K : PySem.W.Frag) : Sp := fun vs H Q _ => ∃ (a : Addr) (hs : List Int) (bs : List Bool), vs = [.ref a, .str (wd bs)] ∧ (SqL K H a (hs.map V.int) ∨ SqT K H a (hs.map V.int)) ∧ 1 ≤ hs.length ∧ hs.length ≤ 12 ∧ bs.length ≤ 400 ∧
  ∀ (p : Addr) (H' : Hp), Same H H' → H p = none → TupAt H' p ((finR bs.reverse hs).map V.int) → Q (.ref p) H'
theorem ok_placed (D : Df K mg "_law_placed" s__law_placed) (m_len : mg "len" = none) (m_list : mg "list" = none) (m_int : mg "int" = none) (m_tuple : mg "tuple" = none) : Cl P w K mg base 1 "_law_placed" s__law_placed ["_law_persons_here", "_law_code"] (spPlaced K) := by
  refine D.ok sc__law_placed (fun _ _ _ _ _ _ us hl => match us, hl with | [_, _], _ => rfl) (fun vs H Q E h => ?_) (fun f cdv A outer s H vs Q E hr h => ?_)
  · obtain ⟨a, hs, bs, rfl, _⟩ := h
    rfl
  · obtain ⟨a, hs, bs, rfl, hS, pos, most, hb, q⟩ := h
    refine ⟨_, 
      (pss_cons (ps_par (i := 2) (j := 3) (by rfl) sc__law_placed.nd rfl rfl (by decide) rfl rfl (pa_cons (pe_callTy call_list_of (by rfl) m_list (by decide +kernel) (pa_cons (pv 0) pa_nil)) (pa_cons (pe_lst pa_nil) pa_nil)) (by rfl)) 
      (pss_cons (ps_for PassesOwn.never rfl (pi_str (pe_back (pv 1))) (pg_name (i := 4) sc__law_placed.nd rfl (Or.inl rfl)) (pss_one (ps_if (pt_cmpR op_gt (pe_callB call_lenS (by rfl) m_len (by decide +kernel) (pa_cons (pv 2) pa_nil)) pe_int (nomark _)) (pss_one (ps_expr (pe_bm PySem.F.plainAttrs_list PySem.F.slot_list_append PySem.F.type_list_append mt_append (pv 3) (pa_cons (pe_bm PySem.F.plainAttrs_list PySem.F.slot_list_pop PySem.F.type_list_pop mt_popAt (pv 2) (pa_cons (pe_ix ix_list (pe_lst (pa_cons pe_int (pa_cons (pe_op op_sub (pe_callB call_lenS (by rfl) m_len (by decide +kernel) (pa_cons (pv 2) pa_nil)) pe_int) pa_nil))) (pe_callTy call_int1 (by rfl) m_int (by decide +kernel) (pa_cons (pe_cmpR op_eq (pv 4) pe_str (nomark _)) pa_nil)) (fun _ _ => rfl)) pa_nil)) pa_nil)))) pss_nil))) 
      (pss_one (ps_ret (pe_callTy call_tupF (by rfl) m_tuple (by decide +kernel) (pa_cons (pe_op op_cat (pv 2) (pe_revL (pv 3))) pa_nil)))))), ?_⟩
    refine ⟨_, rfl, a, _, rfl, hS, fun r nr => ⟨Nat.zero_le _, fun l nl => ⟨_, _, rfl, ?_⟩⟩⟩
    have s1 := same_upd (o := .lst (hs.map V.int)) nr
    have s2 := s1.trans (same_upd (o := .lst []) nl)
    have rl : r ≠ l := ne_of_none upd_same nl
    have fl : H l = none := s1.free nl
    refine ⟨_, rfl, bs, rfl, by omega, _, rfl, ?_⟩
    refine for_it walk_str (fun i σ G => ∃ (y : Option V) (rem pl : List Int), σ = [some (.ref a), some (.str (wd bs)), some (.ref r), some (.ref l), y] ∧ Same H G ∧ G r = some (.lst (rem.map V.int)) ∧ G l = some (.lst (pl.map V.int)) ∧ rem.length + pl.length = hs.length ∧ 1 ≤ rem.length ∧ finR bs.reverse hs = finR (bs.reverse.drop i) rem ++ pl.reverse)
      ⟨none, hs, [], rfl, s2, (upd_ne rl).trans upd_same, upd_same, rfl, pos, by rw [List.reverse_nil, List.append_nil]; rfl⟩ (fun _ _ _ _ _ => trivial) (fun i v σ G G' hi hI hv => ?_) (fun σ G hI => ?_)
    · obtain ⟨y, rem, pl, rfl, sm, hr1, hl1, hlen, h1, fe⟩ := hI
      obtain ⟨rfl, c, hc, rfl⟩ := hv
      obtain ⟨b, hbi, rfl⟩ := wd_get hc
      have dr : bs.reverse.drop i = b :: bs.reverse.drop (i + 1) := by
        have lt : i < bs.reverse.length := (List.getElem?_eq_some_iff.mp hbi).1
        rw [List.drop_eq_getElem_cons lt, (List.getElem?_eq_some_iff.mp hbi).2]
      refine ⟨_, rfl, r, _, rfl, .inl (.inl (.inl hr1)), _, _, rfl, rfl, _, rfl, ?_⟩
      rw [List.length_map]
      by_cases hone : rem.length = 1
      · rw [decide_eq_false (by omega)]
        refine iteF ⟨_, rem, pl, rfl, sm, hr1, hl1, hlen, h1, ?_⟩
        rw [fe, finR_one _ hone, finR_one _ hone]
      · rw [decide_eq_true (by omega)]
        have h2 : 2 ≤ rem.length := by omega
        refine iteT ⟨_, rfl, .inl ⟨rfl, _, .inl (.inl hl1)⟩, _, rfl, .inl ⟨rfl, _, .inl (.inl hr1)⟩, _, rfl, r, _, rfl, .inl (.inl (.inl hr1)), _, _, rfl, rfl, (by show 2 ≤ sizeLine; decide), fun u nu => ?_⟩
        have su := same_upd (o := .lst [.int 0, .int (((rem.map V.int).length : Nat) - 1)]) nu
        have ur : r ≠ u := ne_of_none hr1 nu
        have ul : l ≠ u := ne_of_none hl1 nu
        refine ⟨_, rfl, rfl, .inr ⟨_, rfl, ?_⟩⟩
        rw [kindT]
        cases b with
        | true =>
          refine ⟨u, _, 1, _, rfl, rfl, .inl (.inl upd_same), atI_nat (j := 1) rfl, ?_⟩
          refine ⟨r, _, _, rem.length - 1, .int rem[rem.length - 1], rfl, rfl, su r _ hr1, ?_, ?_, ?_, getI (by omega), l, pl.map V.int, _, rfl, rfl, ?_, ?_, ?_⟩
          · rw [List.length_map]
            omega
          · rw [List.length_map]
            omega
          · rw [List.length_map, show ((rem.length : Nat) : Int) - 1 = ((rem.length - 1 : Nat) : Int) by omega]
            exact seqIx (by omega) (by omega)
          · exact (upd_ne rl.symm).trans (su l _ hl1)
          · rw [List.length_map]
            exact len_lt (by omega)
          · refine ⟨_, rem.dropLast, pl ++ [rem[rem.length - 1]], rfl, fun c o e => ?_, ?_, ?_, ?_, ?_, ?_⟩
            · rw [upd_ne (ne_of_none e fl), upd_ne (ne_of_none e nr)]
              exact su c o (sm c o e)
            · rw [upd_ne rl, upd_same, eraseI, List.eraseIdx_eq_dropLast (by omega)]
            · rw [upd_same, List.map_append]
              rfl
            · rw [List.length_dropLast, List.length_append]
              show rem.length - 1 + (pl.length + 1) = _
              omega
            · rw [List.length_dropLast]
              omega
            · rw [fe, dr, finR_T _ h2, List.reverse_append, List.append_assoc]
              rfl
        | false =>
          refine ⟨u, _, 0, _, rfl, rfl, .inl (.inl upd_same), atI_nat (j := 0) rfl, ?_⟩
          refine ⟨r, _, _, 0, .int rem[0], rfl, rfl, su r _ hr1, by decide, by decide, ?_, getI (by omega), l, pl.map V.int, _, rfl, rfl, ?_, ?_, ?_⟩
          · rw [List.length_map]
            exact seqIx (by decide) (by omega)
          · exact (upd_ne rl.symm).trans (su l _ hl1)
          · rw [List.length_map]
            exact len_lt (by omega)
          · refine ⟨_, rem.tail, pl ++ [rem[0]], rfl, fun c o e => ?_, ?_, ?_, ?_, ?_, ?_⟩
            · rw [upd_ne (ne_of_none e fl), upd_ne (ne_of_none e nr)]
              exact su c o (sm c o e)
            · rw [upd_ne rl, upd_same, eraseI, List.eraseIdx_zero]
            · rw [upd_same, List.map_append]
              rfl
            · rw [List.length_tail, List.length_append]
              show rem.length - 1 + (pl.length + 1) = _
              omega
            · rw [List.length_tail]
              omega
            · rw [fe, dr, finR_S _ h2, List.reverse_append, List.append_assoc]
              rfl
    · obtain ⟨y, rem, pl, rfl, sm, hr1, hl1, hlen, h1, fe⟩ := hI
      have ed : bs.reverse.drop (wd bs.reverse).cps.size = [] := List.drop_of_length_le (Nat.le_of_eq (wd_len bs.reverse).symm)
      rw [ed, finR_nil] at fe
      refine ⟨_, rfl, _, rfl, l, _, rfl, .inl (.inl hl1), fun c nc => ?_⟩
      have sc := same_upd (o := .lst (pl.map V.int).reverse) nc
      refine ⟨r, c, _, _, rfl, rfl, sc r _ hr1, upd_same, ?_, fun d nd => ?_⟩
      · rw [List.length_reverse, List.length_map, List.length_map]
        exact Nat.le_of_lt (len_lt (by omega))
      have sd := sc.trans (same_upd (o := .lst (rem.map V.int ++ (pl.map V.int).reverse)) nd)
      refine ⟨d, _, rfl, .inl (.inl upd_same), fun p ob tb np => q p _ ((sm.trans sd).trans (same_upd np)) ((sm.trans sd).free np) ⟨ob, tb, ?_⟩⟩
      rw [upd_same, fe, List.map_append, List.map_reverse]
end
section
/-- all words, the last letter last -/
def allC : Nat → List (List Bool)
  | 0 => [[]]
  | m + 1 => (allC m).flatMap fun w => [w ++ [false], w ++ [true]]
theorem allC_len : ∀ m : Nat, (allC m).length = 2 ^ m
  | 0 => rfl
  | m + 1 => by
    have two : ∀ l : List (List Bool), (l.flatMap fun w => [w ++ [false], w ++ [true]]).length = l.length * 2 := fun l => by
      induction l with
      | nil => rfl
      | cons a l ih =>
        rw [List.flatMap_cons, List.length_append, ih]
        show 2 + l.length * 2 = (l.length + 1) * 2
        omega
    show ((allC m).flatMap fun w => [w ++ [false], w ++ [true]]).length = _
    rw [two, allC_len m, Nat.pow_succ]
theorem allC_mem : ∀ (m : Nat) (u : List Bool), u ∈ allC m → u.length = m
  | 0, u, h => by rw [List.mem_singleton.mp h]; rfl
  | m + 1, u, h => by
    obtain ⟨v, hv, hu⟩ := List.mem_flatMap.mp h
    have vl := allC_mem m v hv
    have c : u = v ++ [false] ∨ u = v ++ [true] := by simpa using hu
    rcases c with rfl | rfl <;> rw [List.length_append, List.length_singleton, vl]
end
section
variable {P : Program} {w : World} {K : PySem.W.Frag} {mg : Str → Option Value} {base : Heap}
/-! ### the law's own words -/
abbrev wV (w : List Bool) : V := .str (wd w)
theorem getW {l : List (List Bool)} {i : Nat} {v : V} (h : (l.map wV)[i]? = some v) : ∃ w, l[i]? = some w ∧ v = wV w := by
  rw [List.getElem?_map] at h
  obtain ⟨w, e1, e2⟩ := Option.map_eq_some_iff.mp h
  exact ⟨w, e1, e2.symm⟩
end
section
/-! ### wishes: mathematics -/
/-- may this person stand at this index -/
def mayS (ws : List (Int × Int)) (p k : Int) : Bool := ws.all fun x => decide (x.1 = p) == decide (x.2 = k)
/-- each person of the row may stand at its index -/
def okL (ws : List (Int × Int)) (l : List Int) : Bool := l.zipIdx.all fun x => mayS ws x.1 ((x.2 : Nat) : Int)
theorem okL_snoc (ws : List (Int × Int)) (l : List Int) (x : Int) : okL ws (l ++ [x]) = (okL ws l && mayS ws x (l.length : Nat)) := by
  unfold okL
  rw [List.zipIdx_append, List.all_append]
  simp
/-- how many words place the people from s to s + i so -/
def cw (ws : List (Int × Int)) (hs : List Int) : Nat → Nat → Nat
  | 0, s => if mayS ws (hs.getD s 0) 0 then 1 else 0
  | i + 1, s => (if mayS ws (hs.getD s 0) ((i + 1 : Nat) : Int) then cw ws hs i (s + 1) else 0) + (if mayS ws (hs.getD (s + (i + 1)) 0) ((i + 1 : Nat) : Int) then cw ws hs i s else 0)
def seg (hs : List Int) (s i : Nat) : List Int := (hs.drop s).take (i + 1)
theorem seg_len {hs : List Int} {s i : Nat} (h : s + i < hs.length) : (seg hs s i).length = i + 1 := by
  unfold seg
  rw [List.length_take, List.length_drop]
  omega
theorem seg_first {hs : List Int} {s i : Nat} (h : s + i < hs.length) : (seg hs s i)[0]'(by rw [seg_len h]; omega) = hs.getD s 0 := by
  unfold seg
  rw [List.getElem_take, List.getElem_drop, List.getD_eq_getElem?_getD, List.getElem?_eq_getElem (by omega)]
  rfl
theorem seg_last {hs : List Int} {s i : Nat} (h : s + i < hs.length) : (seg hs s i)[(seg hs s i).length - 1]'(by rw [seg_len h]; omega) = hs.getD (s + i) 0 := by
  have e := seg_len h
  have : (seg hs s i)[(seg hs s i).length - 1]'(by rw [e]; omega) = (seg hs s i)[i]'(by rw [e]; omega) := by
    congr 1
    omega
  rw [this]
  unfold seg
  rw [List.getElem_take, List.getElem_drop, List.getD_eq_getElem?_getD, List.getElem?_eq_getElem (by omega)]
  rfl
theorem seg_tail {hs : List Int} {s i : Nat} : (seg hs s (i + 1)).tail = seg hs (s + 1) i := by
  unfold seg
  rw [← List.drop_one, List.drop_take, List.drop_drop]
  rfl
theorem seg_init {hs : List Int} {s i : Nat} (h : s + (i + 1) < hs.length) : (seg hs s (i + 1)).dropLast = seg hs s i := by
  have e := seg_len h
  rw [List.dropLast_eq_take, e]
  unfold seg
  rw [List.take_take]
  congr 1
  omega
theorem finR_len : ∀ (r : List Bool) (l : List Int), (finR r l).length = l.length
  | [], l => by
    match l with
    | [] => simp [finR]
    | [x] => simp [finR]
    | x :: y :: l => simp [finR]
  | b :: r, l => by
    by_cases h : 2 ≤ l.length
    · cases b with
      | true =>
        rw [finR_T r h, List.length_append, finR_len r, List.length_dropLast, List.length_singleton]
        omega
      | false =>
        rw [finR_S r h, List.length_append, finR_len r, List.length_tail, List.length_singleton]
        omega
    · match l, h with
      | [], _ => simp [finR]
      | [x], _ => simp [finR]
      | x :: y :: l, h => exact absurd (by simp) h
theorem countP_two (f : List Bool → Bool) : ∀ l : List (List Bool), (l.flatMap fun w => [w ++ [false], w ++ [true]]).countP f = (l.countP fun w => f (w ++ [false])) + l.countP fun w => f (w ++ [true])
  | [] => rfl
  | a :: l => by
    rw [List.flatMap_cons, List.countP_append, countP_two f l, List.countP_cons, List.countP_cons, List.countP_cons, List.countP_cons, List.countP_nil]
    omega
theorem countP_and (f : List Bool → Bool) (c : Bool) (l : List (List Bool)) : (l.countP fun w => f w && c) = if c then l.countP f else 0 := by
  cases c with
  | true => simp
  | false => simp
theorem cw_count (ws : List (Int × Int)) (hs : List Int) : ∀ (i s : Nat), s + i < hs.length → ((allC i).countP fun u => okL ws (finR u.reverse (seg hs s i))) = cw ws hs i s
  | 0, s, h => by
    have e := seg_len h
    have f := seg_first h
    show ([[]] : List (List Bool)).countP _ = _
    rw [List.countP_cons, List.countP_nil, Nat.zero_add, finR_one _ e]
    match hz : seg hs s 0, e with
    | [x], _ =>
      have fx : x = hs.getD s 0 := by
        rw [← f]
        simp [hz]
      subst fx
      unfold cw okL
      simp
  | i + 1, s, h => by
    have e := seg_len h
    have two : 2 ≤ (seg hs s (i + 1)).length := by omega
    show ((allC i).flatMap fun w => [w ++ [false], w ++ [true]]).countP _ = _
    rw [countP_two]
    have eS : ∀ w : List Bool, okL ws (finR (w ++ [false]).reverse (seg hs s (i + 1))) = (okL ws (finR w.reverse (seg hs (s + 1) i)) && mayS ws (hs.getD s 0) ((i + 1 : Nat) : Int)) := fun w => by
      rw [List.reverse_append]
      show okL ws (finR (false :: w.reverse) _) = _
      rw [finR_S _ two, okL_snoc, seg_tail, seg_first h, finR_len, seg_len (by omega)]
    have eT : ∀ w : List Bool, okL ws (finR (w ++ [true]).reverse (seg hs s (i + 1))) = (okL ws (finR w.reverse (seg hs s i)) && mayS ws (hs.getD (s + (i + 1)) 0) ((i + 1 : Nat) : Int)) := fun w => by
      rw [List.reverse_append]
      show okL ws (finR (true :: w.reverse) _) = _
      rw [finR_T _ two, okL_snoc, seg_init h, seg_last h, finR_len, seg_len (by omega)]
    simp only [eS, eT]
    rw [countP_and, countP_and, cw_count ws hs i (s + 1) (by omega), cw_count ws hs i s (by omega)]
    rfl
/-- each wish is met -/
def hasW (ws : List (Int × Int)) (l : List Int) : Bool := ws.all fun x => decide (l[x.2.toNat]? = some x.1)
structure Wish (hs : List Int) (ws : List (Int × Int)) : Prop where
  mem : ∀ x ∈ ws, x.1 ∈ hs ∧ 0 ≤ x.2 ∧ x.2 < (hs.length : Nat)
  up : ws.Pairwise fun x y => x.2 < y.2
  nd : (ws.map (·.1)).Nodup
theorem has_ok {hs l : List Int} {ws : List (Int × Int)} (wi : Wish hs ws) (p : l.Perm hs) (nd : hs.Nodup) : hasW ws l = okL ws l := by
  have ndl : l.Nodup := p.nodup_iff.mpr nd
  have ll := p.length_eq
  rw [Bool.eq_iff_iff]
  unfold hasW okL mayS
  simp only [List.all_eq_true, decide_eq_true_eq, beq_iff_eq]
  constructor
  · intro h y hy x hx
    obtain ⟨p, j⟩ := y
    have hj := List.mk_mem_zipIdx_iff_getElem?.mp hy
    have hx2 := h x hx
    obtain ⟨_, h0, h1⟩ := wi.mem x hx
    show decide (x.1 = p) = decide (x.2 = ((j : Nat) : Int))
    by_cases e : x.2 = ((j : Nat) : Int)
    · rw [decide_eq_true e]
      refine decide_eq_true ?_
      rw [e, Int.toNat_natCast, hj] at hx2
      exact (Option.some.inj hx2).symm
    · rw [decide_eq_false e]
      refine decide_eq_false fun z => e ?_
      rw [z, ← hj] at hx2
      have jl : j < l.length := (List.getElem?_eq_some_iff.mp hj).1
      have := (List.getElem?_inj (by omega) ndl).mp hx2
      omega
  · intro h x hx
    obtain ⟨_, h0, h1⟩ := wi.mem x hx
    have lt : x.2.toNat < l.length := by omega
    have := h (l[x.2.toNat], x.2.toNat) (List.mk_mem_zipIdx_iff_getElem?.mpr (List.getElem?_eq_getElem lt)) x hx
    have e2 : x.2 = ((x.2.toNat : Nat) : Int) := by omega
    rw [decide_eq_true e2] at this
    rw [List.getElem?_eq_getElem lt, of_decide_eq_true this]
/-- the words that meet the wishes -/
theorem cw_all {hs : List Int} {ws : List (Int × Int)} {m : Nat} (wi : Wish hs ws) (nd : hs.Nodup) (hl : hs.length = m + 1) (pf : ∀ u ∈ allC m, (finR u.reverse hs).Perm hs) : ((allC m).countP fun u => hasW ws (finR u.reverse hs)) = cw ws hs m 0 := by
  have e : seg hs 0 m = hs := by
    unfold seg
    rw [List.drop_zero, List.take_of_length_le (by omega)]
  rw [← cw_count ws hs m 0 (by omega), e]
  refine List.countP_congr fun u hu => ?_
  rw [has_ok wi (pf u hu) nd]
end
section
/-! ### dicts with numbers as keys -/
def kvD {α : Type} (val : α → V) (d : List (Nat × α)) : List (Key × V) := d.map fun x => (Sum.inl ((x.1 : Nat) : Int), val x.2)
def lookD {α : Type} : List (Nat × α) → Nat → Option α
  | [], _ => none
  | (k, v) :: d, s => if k = s then some v else lookD d s
def addD {α : Type} (g : Option α → α) : List (Nat × α) → Nat → List (Nat × α)
  | [], s => [(s, g none)]
  | (k, v) :: d, s => if k = s then (k, g (some v)) :: d else (k, v) :: addD g d s
variable {α : Type}
theorem key_ne {k s : Nat} (h : ¬ k = s) : ¬ (Sum.inl ((k : Nat) : Int) : Key) = Sum.inl ((s : Nat) : Int) := fun z => h (by have := Sum.inl.inj z; omega)
theorem val_kvD (val : α → V) : ∀ (d : List (Nat × α)) (s : Nat), valV (kvD val d) (Sum.inl ((s : Nat) : Int)) = (lookD d s).map val
  | [], _ => rfl
  | (k, v) :: d, s => by
    show valV ((Sum.inl ((k : Nat) : Int), val v) :: kvD val d) _ = _
    unfold lookD
    by_cases e : k = s
    · rw [if_pos e, e, valV_pos rfl]
      rfl
    · rw [if_neg e, valV_neg (key_ne e), val_kvD val d s]
theorem look_mem {d : List (Nat × α)} {s : Nat} : s ∉ d.map (·.1) → lookD d s = none := by
  induction d with
  | nil => intro _; rfl
  | cons p d ih =>
    obtain ⟨k, v⟩ := p
    intro h
    rw [List.map_cons, List.mem_cons, not_or] at h
    unfold lookD
    rw [if_neg fun z => h.1 z.symm, ih h.2]
theorem look_get {d : List (Nat × α)} (nd : (d.map (·.1)).Nodup) {i s : Nat} {v : α} (h : d[i]? = some (s, v)) : lookD d s = some v := by
  induction d generalizing i with
  | nil => cases h
  | cons p d ih =>
    obtain ⟨k, u⟩ := p
    rw [List.map_cons, List.nodup_cons] at nd
    unfold lookD
    cases i with
    | zero =>
      have := Option.some.inj h
      rw [if_pos (congrArg (·.1) this)]
      exact congrArg some (congrArg (·.2) this)
    | succ i =>
      have h2 : d[i]? = some (s, v) := h
      have ne : ¬ k = s := fun z => nd.1 (by rw [z]; exact List.mem_map.mpr ⟨_, List.mem_of_getElem? h2, rfl⟩)
      rw [if_neg ne]
      exact ih nd.2 h2
theorem map_same (val : α → V) (y : V) (s : Nat) : ∀ d : List (Nat × α), s ∉ d.map (·.1) → (kvD val d).map (fun kv => if kv.1 = (Sum.inl ((s : Nat) : Int) : Key) then (kv.1, y) else kv) = kvD val d
  | [], _ => rfl
  | (k, v) :: d, h => by
    rw [List.map_cons, List.mem_cons, not_or] at h
    show (if (Sum.inl ((k : Nat) : Int) : Key) = Sum.inl ((s : Nat) : Int) then _ else _) :: (kvD val d).map _ = _
    rw [if_neg (key_ne fun z => h.1 z.symm), map_same val y s d h.2]
    rfl
theorem put_kvD (val : α → V) (g : Option α → α) : ∀ (d : List (Nat × α)) (s : Nat), (d.map (·.1)).Nodup → putK (kvD val d) (Sum.inl ((s : Nat) : Int)) (val (g (lookD d s))) = kvD val (addD g d s)
  | [], s, _ => rfl
  | (k, v) :: d, s, nd => by
    rw [List.map_cons, List.nodup_cons] at nd
    have ih := put_kvD val g d s nd.2
    unfold lookD addD
    by_cases e : k = s
    · subst e
      rw [if_pos rfl, if_pos rfl]
      show putK ((Sum.inl ((k : Nat) : Int), val v) :: kvD val d) _ _ = _
      unfold putK
      rw [if_pos (by simp), List.map_cons, if_pos rfl, map_same val _ k d nd.1]
      rfl
    · rw [if_neg e, if_neg e]
      have ne : ¬ (Sum.inl ((k : Nat) : Int) : Key) = Sum.inl ((s : Nat) : Int) := key_ne e
      show putK ((Sum.inl ((k : Nat) : Int), val v) :: kvD val d) _ _ = (Sum.inl ((k : Nat) : Int), val v) :: kvD val (addD g d s)
      rw [← ih]
      unfold putK
      have ea : ((Sum.inl ((k : Nat) : Int), val v) :: kvD val d).any (fun kv : Key × V => decide (kv.1 = Sum.inl ((s : Nat) : Int))) = (kvD val d).any (fun kv : Key × V => decide (kv.1 = Sum.inl ((s : Nat) : Int))) := by
        rw [List.any_cons, decide_eq_false ne, Bool.false_or]
      rw [ea]
      split
      · rw [List.map_cons, if_neg ne]
      · rfl
theorem add_keys (g : Option α → α) : ∀ (d : List (Nat × α)) (s : Nat), (addD g d s).map (·.1) = if s ∈ d.map (·.1) then d.map (·.1) else d.map (·.1) ++ [s]
  | [], s => by simp [addD]
  | (k, v) :: d, s => by
    unfold addD
    by_cases e : k = s
    · rw [if_pos e, e]
      simp
    · rw [if_neg e, List.map_cons, add_keys g d s, List.map_cons]
      by_cases h : s ∈ d.map (·.1)
      · rw [if_pos h, if_pos (List.mem_cons_of_mem _ h)]
      · rw [if_neg h, if_neg (fun z => (List.mem_cons.mp z).elim (fun y => e y.symm) h)]
        rfl
theorem add_nodup {g : Option α → α} {d : List (Nat × α)} {s : Nat} (nd : (d.map (·.1)).Nodup) : ((addD g d s).map (·.1)).Nodup := by
  rw [add_keys]
  split
  · exact nd
  · rename_i h
    rw [List.nodup_append]
    refine ⟨nd, by simp, fun x hx y hy e => h ?_⟩
    rw [← List.mem_singleton.mp hy, ← e]
    exact hx
theorem add_key {g : Option α → α} {d : List (Nat × α)} {s k : Nat} (h : k ∈ (addD g d s).map (·.1)) : k ∈ d.map (·.1) ∨ k = s := by
  rw [add_keys] at h
  split at h
  · exact .inl h
  · rcases List.mem_append.mp h with z | z
    · exact .inl z
    · exact .inr (List.mem_singleton.mp z)
theorem add_len (g : Option α → α) (d : List (Nat × α)) (s : Nat) : (addD g d s).length ≤ d.length + 1 := by
  have e := congrArg List.length (add_keys g d s)
  rw [List.length_map] at e
  rw [e]
  split <;> simp
theorem look_add (g : Option α → α) : ∀ (d : List (Nat × α)) (s t : Nat), lookD (addD g d s) t = if t = s then some (g (lookD d s)) else lookD d t
  | [], s, t => by
    show (if s = t then some (g none) else none) = _
    by_cases e : t = s
    · rw [if_pos e, if_pos e.symm]
      rfl
    · rw [if_neg e, if_neg fun z => e z.symm]
      rfl
  | (k, v) :: d, s, t => by
    unfold addD
    by_cases e : k = s
    · subst e
      rw [if_pos rfl]
      unfold lookD
      by_cases e2 : t = k
      · rw [if_pos e2, if_pos e2.symm, if_pos rfl]
      · rw [if_neg e2, if_neg fun z => e2 z.symm, if_neg fun z => e2 z.symm]
    · rw [if_neg e]
      unfold lookD
      rw [look_add g d s t, if_neg e]
      by_cases e2 : k = t
      · rw [if_pos e2, if_pos e2, if_neg fun z => e (e2.trans z)]
      · rw [if_neg e2, if_neg e2]
/-- what the numbers stand for, added up -/
def sumD (f : Nat → Nat) (d : List (Nat × Nat)) : Nat := (d.map fun x => x.2 * f x.1).sum
theorem sum_add (f : Nat → Nat) (c : Nat) : ∀ (d : List (Nat × Nat)) (s : Nat), sumD f (addD (fun o => o.getD 0 + c) d s) = sumD f d + c * f s
  | [], s => by simp [sumD, addD]
  | (k, v) :: d, s => by
    unfold addD
    by_cases e : k = s
    · subst e
      rw [if_pos rfl]
      show (v + c) * f k + sumD f d = v * f k + sumD f d + c * f k
      rw [Nat.add_mul]
      omega
    · rw [if_neg e]
      show v * f k + sumD f (addD _ d s) = v * f k + sumD f d + c * f s
      rw [sum_add f c d s]
      omega
end
section
variable {P : Program} {w : World} {K : PySem.W.Frag} {mg : Str → Option Value} {base : Heap}
/-! ### wishes: the program -/
abbrev PrAt (H : Hp) : List Addr → List (Int × Int) → Prop := Each fun r p => H r = some (.tup [.int p.1, .int p.2])
theorem PrAt.same {H G : Hp} {rs : List Addr} {ws : List (Int × Int)} (h : PrAt H rs ws) (sm : Same H G) : PrAt G rs ws := h.imp fun r _ p e => sm r _ e
/-- the wishes at a -/
def WsAt (K : PySem.W.Frag) (H : Hp) (a : Addr) (ws : List (Int × Int)) : Prop := ∃ rs : List Addr, SqT K H a (rs.map V.ref) ∧ PrAt H rs ws
theorem WsAt.same {H G : Hp} {a : Addr} {ws : List (Int × Int)} (h : WsAt K H a ws) (sm : Same H G) : WsAt K G a ws := by
  obtain ⟨rs, h1, h2⟩ := h
  exact ⟨rs, SqT.same sm h1, h2.same sm⟩
abbrev s_may_stand : Stmt := top 45
abbrev N_may_stand : List Str := ["person", "index", "wishes", "height", "at"]
theorem sc_may_stand : FnScope N_may_stand ["person", "index", "wishes"] (defScope s_may_stand) := ⟨rfl, rfl, rfl, by decide +kernel, rfl, by decide +kernel, by decide +kernel⟩
def spMayS (K : PySem.W.Frag) : Sp := fun vs H Q _ => ∃ (p k : Int) (a : Addr) (ws : List (Int × Int)), vs = [.int p, .int k, .ref a] ∧ WsAt K H a ws ∧ ws.length ≤ 1000 ∧ ∀ H', Same H H' → Q (.bl (mayS ws p k)) H'
theorem ok_mays (D : Df K mg "may_stand" s_may_stand) (m_all : mg "all" = none) : Cl P w K mg base 1 "may_stand" s_may_stand ["person", "index", "wishes"] (spMayS K) := by
  refine D.ok sc_may_stand (fun _ _ _ _ _ _ us hl => match us, hl with | [_, _, _], _ => rfl) (fun vs H Q E h => ?_) (fun f cdv A outer s H vs Q E hr h => ?_)
  · obtain ⟨p, k, a, ws, rfl, _⟩ := h
    rfl
  · obtain ⟨p, k, a, ws, rfl, ⟨rs, hS, hp⟩, hl, q⟩ := h
    refine ⟨_, 
      (pss_one (ps_ret (pe_callB (cr_all rfl) (by rfl) m_all (by decide +kernel) (pa_cons (pe_lc (own := [("height", 3), ("at", 4)]) (g := gTup K 2 (gCons (gName 3) (gCons (gName 4) gNil))) rfl sc_may_stand.nd (pi_tup (pv 2)) (blkOk_by (own := [("height", 3), ("at", 4)]) (N := N_may_stand) (sc := (defScope s_may_stand)) (by decide +kernel)) (fun _ _ _ _ _ => (pg_tup (by rfl) (pgs_cons (pg_name (i := 3) sc_may_stand.nd rfl (Or.inl rfl)) (pgs_cons (pg_name (i := 4) sc_may_stand.nd rfl (Or.inl rfl)) pgs_nil)))) (fun _ _ _ _ _ => pts_nil) (fun _ _ _ _ _ => (pe_cmpR op_eq (pe_cmpR op_eq (pv 3) (pv 0) (nomark _)) (pe_cmpR op_eq (pv 4) (pv 1) (nomark _)) (nomark _)))) pa_nil)))), ?_⟩
    refine ⟨_, rfl, a, rfl, ⟨_, hS⟩, fun D nD => ?_⟩
    have rl := hp.len
    refine lc_tup (xs := rs.map V.ref) (fun i G => G D = some (.lst (((ws.take i).map fun x => decide (x.1 = p) == decide (x.2 = k)).map V.bl)) ∧ Same H G) ⟨upd_same, same_upd nD⟩ (fun i G _ hI => SqT.same hI.2 hS) (fun i x G hx hI => ?_) (fun G hI => ?_)
    · obtain ⟨hD, sm⟩ := hI
      rw [List.getElem?_map] at hx
      obtain ⟨r, hr3, rfl⟩ := Option.map_eq_some_iff.mp hx
      obtain ⟨x, hx2, hx3⟩ := hp.get hr3
      refine ⟨r, _, rfl, .inl (.inl (sm _ _ hx3)), rfl, _, _, rfl, _, _, rfl, rfl, ?_⟩
      refine ⟨rfl, _, rfl, _, rfl, rfl, _, rfl, _, rfl, rfl, rfl, ?_⟩
      have e : ∀ a b : Int, decide (V.int a = V.int b) = decide (a = b) := fun a b => decide_eq_decide.mpr ⟨fun z => V.int.inj z, fun z => by rw [z]⟩
      have e2 : ∀ a b : Bool, decide (V.bl a = V.bl b) = (a == b) := fun a b => by cases a <;> cases b <;> decide
      rw [e, e, e2]
      refine ⟨_, hD, ?_, ?_, fun b o eb => ?_⟩
      · rw [List.length_map, List.length_map, List.length_take]
        exact len_lt (by omega)
      · rw [upd_same, List.take_add_one, hx2, List.map_append, List.map_append]
        rfl
      · rw [upd_ne (ne_of_none eb nD)]
        exact sm b o eb
    · obtain ⟨hD, sm⟩ := hI
      rw [List.length_map, rl, List.take_length] at hD
      refine ⟨D, _, rfl, .inl (.inl hD), ?_⟩
      have e : ((ws.map fun x => decide (x.1 = p) == decide (x.2 = k)).all id) = mayS ws p k := by
        unfold mayS
        rw [List.all_map]
        rfl
      rw [e]
      exact q _ sm
end
section
variable {P : Program} {w : World} {K : PySem.W.Frag} {mg : Str → Option Value} {base : Heap}
/-! ### which letters may stand -/
def stepsL (ws : List (Int × Int)) (hs : List Int) (i s : Nat) : List (Bool × Nat) :=
  (if mayS ws (hs.getD s 0) (i : Nat) then [(false, s + 1)] else []) ++ (if mayS ws (hs.getD (s + i) 0) (i : Nat) then [(true, s)] else [])
abbrev StAt (H : Hp) : List Addr → List (Bool × Nat) → Prop := Each fun r x => H r = some (.tup [.str (ltr x.1), .int (x.2 : Nat)])
theorem atD {hs : List Int} {i : Nat} (h : i < hs.length) : atI (hs.map V.int) ((i : Nat) : Int) = some (.int (hs.getD i 0)) := by
  refine atI_nat ?_
  rw [List.getElem?_map, List.getElem?_eq_getElem h, List.getD_eq_getElem?_getD, List.getElem?_eq_getElem h]
  rfl
abbrev s_next_steps : Stmt := top 46
abbrev N_next_steps : List Str := ["heights", "wishes", "index", "shorts", "steps"]
theorem sc_next_steps : FnScope N_next_steps ["heights", "wishes", "index", "shorts"] (defScope s_next_steps) := ⟨rfl, rfl, rfl, by decide +kernel, rfl, by decide +kernel, by decide +kernel⟩
def spSteps (K : PySem.W.Frag) : Sp := fun vs H Q _ => ∃ (a b : Addr) (hs : List Int) (ws : List (Int × Int)) (i s : Nat), vs = [.ref a, .ref b, .int (i : Nat), .int (s : Nat)] ∧ SqT K H a (hs.map V.int) ∧ WsAt K H b ws ∧ ws.length ≤ 1000 ∧ s + i < hs.length ∧ ∀ (p : Addr) (rs : List Addr) (H' : Hp), Same H H' → H p = none → H' p = some (.lst (rs.map V.ref)) → StAt H' rs (stepsL ws hs i s) → Q (.ref p) H'
theorem ok_steps (D : Df K mg "next_steps" s_next_steps) (c_may_stand : Cl P w K mg base 1 "may_stand" s_may_stand ["person", "index", "wishes"] (spMayS K)) : Cl P w K mg base 2 "next_steps" s_next_steps ["heights", "wishes", "index", "shorts"] (spSteps K) := by
  refine D.ok sc_next_steps (fun _ _ _ _ _ _ us hl => match us, hl with | [_, _, _, _], _ => rfl) (fun vs H Q E h => ?_) (fun f cdv A outer s H vs Q E hr h => ?_)
  · obtain ⟨a, b, hs, ws, i, s, rfl, _⟩ := h
    rfl
  · obtain ⟨a, b, hs, ws, i, k, rfl, hS, hW, hl, lt, q⟩ := h
    refine ⟨_, 
      (pss_cons (ps_set (i := 4) sc_next_steps.nd rfl (Or.inl rfl) (pe_lst pa_nil)) 
      (C8.pss_cut (ps_if (pt_val (pe_u c_may_stand hr (by omega) (by rfl) (pa_cons (pe_ix ix_tup (pv 0) (pv 3) (fun _ _ => rfl)) (pa_cons (pv 2) (pa_cons (pv 1) pa_nil))))) (pss_one (ps_expr (pe_bm PySem.F.plainAttrs_list PySem.F.slot_list_append PySem.F.type_list_append mt_append (pv 4) (pa_cons (pe_tup (pa_cons pe_str (pa_cons (pe_op op_add (pv 3) pe_int) pa_nil))) pa_nil)))) pss_nil) 
      (pss_cons (ps_if (pt_val (pe_u c_may_stand hr (by omega) (by rfl) (pa_cons (pe_ix ix_tup (pv 0) (pe_op op_add (pv 3) (pv 2)) (fun _ _ => rfl)) (pa_cons (pv 2) (pa_cons (pv 1) pa_nil))))) (pss_one (ps_expr (pe_bm PySem.F.plainAttrs_list PySem.F.slot_list_append PySem.F.type_list_append mt_append (pv 4) (pa_cons (pe_tup (pa_cons pe_str (pa_cons (pv 3) pa_nil))) pa_nil)))) pss_nil) 
      (pss_one (ps_ret (pv 4)))))), ?_⟩
    refine ⟨Nat.zero_le _, fun l nl => ?_⟩
    have s0 := same_upd (o := .lst []) nl
    have hl0 : upd H l (.lst []) l = some (.lst []) := upd_same
    generalize upd H l (.lst []) = H0 at s0 hl0 ⊢
    refine ⟨fun σ G => σ = [some (.ref a), some (.ref b), some (.int (i : Nat)), some (.int (k : Nat)), some (.ref l)] ∧ Same H G ∧ ∃ rs : List Addr, G l = some (.lst (rs.map V.ref)) ∧ StAt G rs (if mayS ws (hs.getD k 0) (i : Nat) then [(false, k + 1)] else []) ∧ (∀ r ∈ rs, r ≠ l) ∧ rs.length ≤ 1, ?_, fun σ G hM => ?_⟩
    · refine ⟨_, rfl, _, rfl, a, _, _, _, rfl, rfl, SqT.same s0 hS, atD (by omega), _, rfl, _, rfl, _, _, b, ws, rfl, hW.same s0, hl, fun H1 s1 => ?_⟩
      have s01 := s0.trans s1
      have hl1 := s1 l _ hl0
      cases hm : mayS ws (hs.getD k 0) (i : Nat) with
      | false => exact ⟨_, rfl, iteF ⟨rfl, s01, [], hl1, trivial, (fun r hr => nomatch hr), Nat.zero_le _⟩⟩
      | true =>
        refine ⟨_, rfl, iteT ⟨_, rfl, .inl ⟨rfl, _, .inl (.inl hl1)⟩, _, rfl, _, _, rfl, rfl, (by show 2 ≤ sizeLine; decide), fun t nt => ?_⟩⟩
        have st := same_upd (o := .tup [.str (Str.ofString "S"), .int ((k : Nat) + 1)]) nt
        have tl : t ≠ l := (ne_of_none hl1 nt).symm
        refine ⟨l, [], _, rfl, rfl, st l _ hl1, (by show 0 < sizeLine; decide), rfl, fun c o e => ?_, [t], upd_same, ⟨?_, trivial⟩, fun r hr2 => ?_, Nat.le_refl _⟩
        · rw [upd_ne (ne_of_none e nl)]
          exact st c o (s01 c o e)
        · show upd _ l _ t = _
          rw [upd_ne tl, upd_same, ltrS]
          rfl
        · rw [List.mem_singleton.mp hr2]
          exact tl
    · obtain ⟨rfl, sm, rs, hg, hE, hne, hlen⟩ := hM
      refine ⟨_, rfl, _, rfl, _, rfl, _, _, rfl, rfl, a, _, _, .int (hs.getD (k + i) 0), rfl, rfl, SqT.same sm hS, ?_, _, rfl, _, rfl, _, _, b, ws, rfl, hW.same sm, hl, fun H1 s1 => ?_⟩
      · rw [show ((k : Nat) : Int) + ((i : Nat) : Int) = ((k + i : Nat) : Int) by omega]
        exact atD lt
      have s01 := sm.trans s1
      have hl1 := s1 l _ hg
      have hE1 : StAt H1 rs _ := hE.imp fun r _ x e => s1 r _ e
      have eL : ∀ c : Bool, mayS ws (hs.getD (k + i) 0) (i : Nat) = c → stepsL ws hs i k = (if mayS ws (hs.getD k 0) (i : Nat) then [(false, k + 1)] else []) ++ (if c then [(true, k)] else []) := fun c e => by
        unfold stepsL
        rw [e]
      cases hm : mayS ws (hs.getD (k + i) 0) (i : Nat) with
      | false =>
        rw [eL false hm] at q
        refine ⟨_, rfl, iteF ⟨_, rfl, q l rs _ s01 nl hl1 ?_⟩⟩
        rw [if_neg (show ¬ false = true from fun z => nomatch z), List.append_nil]
        exact hE1
      | true =>
        rw [eL true hm] at q
        refine ⟨_, rfl, iteT ⟨_, rfl, .inl ⟨rfl, _, .inl (.inl hl1)⟩, _, rfl, (by show 2 ≤ sizeLine; decide), fun t nt => ?_⟩⟩
        have st := same_upd (o := .tup [.str (Str.ofString "T"), .int (k : Nat)]) nt
        have tl : t ≠ l := (ne_of_none hl1 nt).symm
        refine ⟨l, _, _, rfl, rfl, st l _ hl1, ?_, _, rfl, q l (rs ++ [t]) _ (fun c o e => ?_) nl ?_ ?_⟩
        · rw [List.length_map]
          exact len_lt (by omega)
        · rw [upd_ne (ne_of_none e nl)]
          exact st c o (s01 c o e)
        · rw [upd_same, List.map_append]
          rfl
        · rw [if_pos (show true = true from rfl)]
          refine Each.snoc (hE1.imp fun r hr2 x e => ?_) ?_
          · rw [upd_ne (hne r hr2)]
            exact st _ _ e
          · show upd _ l _ t = _
            rw [upd_ne tl, upd_same, ltrT]
end
section
variable {P : Program} {w : World} {K : PySem.W.Frag} {mg : Str → Option Value} {base : Heap}
/-! ### wishes that are right -/
theorem flat_ints (ns : List Int) : (ns.map V.int).all flatV = true := by
  rw [List.all_map, List.all_eq_true]
  intro x _
  rfl
theorem wish_len {hs : List Int} {ws : List (Int × Int)} (wi : Wish hs ws) : ws.length ≤ hs.length := by
  have h := List.pairwise_iff_getElem.mp wi.up
  have up : ∀ (i : Nat) (hi : i < ws.length), ((i : Nat) : Int) ≤ ws[i].2 := fun i => by
    induction i with
    | zero => exact fun hi => (wi.mem _ (List.getElem_mem hi)).2.1
    | succ i ih =>
      intro hi
      have a := ih (by omega)
      have b := h i (i + 1) (by omega) hi (by omega)
      omega
  by_cases z : ws.length = 0
  · omega
  · have a := up (ws.length - 1) (by omega)
    have b := (wi.mem _ (List.getElem_mem (show ws.length - 1 < ws.length by omega))).2.2
    omega
abbrev s_is_wish : Stmt := top 43
abbrev N_is_wish : List Str := ["value", "heights", "height", "index"]
theorem sc_is_wish : FnScope N_is_wish ["value", "heights"] (defScope s_is_wish) := ⟨rfl, rfl, rfl, by decide +kernel, rfl, by decide +kernel, by decide +kernel⟩
def spIsWish (K : PySem.W.Frag) : Sp := fun vs H Q _ => ∃ (r a : Addr) (hs : List Int) (h k : Int), vs = [.ref r, .ref a] ∧ SqT K H r [.int h, .int k] ∧ SqT K H a (hs.map V.int) ∧ Row hs ∧ h ∈ hs ∧ 0 ≤ k ∧ k < (hs.length : Nat) ∧ Q (.bl true) H
theorem ok_iswish (D : Df K mg "is_wish" s_is_wish) (c_is_height : Cl P w K mg base 3 "is_height" s_is_height ["value"] (spHeight K)) (c_is_whole_from : Cl P w K mg base 2 "is_whole_from" s_is_whole_from ["value", "least", "greatest"] (spFrom K))
    (m_isinstance : mg "isinstance" = none) (m_tuple : mg "tuple" = none) (m_len : mg "len" = none) : Cl P w K mg base 4 "is_wish" s_is_wish ["value", "heights"] (spIsWish K) := by
  refine D.ok sc_is_wish (fun _ _ _ _ _ _ us hl => match us, hl with | [_, _], _ => rfl) (fun vs H Q E h => ?_) (fun f cdv A outer s H vs Q E hr h => ?_)
  · obtain ⟨r, a, hs, h, k, rfl, _⟩ := h
    rfl
  · obtain ⟨r, a, hs, h, k, rfl, hR, hS, row, hm, k0, k1, q⟩ := h
    refine ⟨_, 
      (pss_cons (ps_if (PW.pt (pw_or (pt_not (pt_val (pe_callB call_isi (by rfl) m_isinstance (by decide +kernel) (pa_cons (pv 0) (pa_cons (pe_bltn (v := .ty "tuple") (by rfl) m_tuple (by decide +kernel) rfl) pa_nil))))) (pw_or1 (pt_cmpR op_ne (pe_callB call_lenS (by rfl) m_len (by decide +kernel) (pa_cons (pv 0) pa_nil)) pe_int (nomark _))))) (pss_one (ps_ret pe_bl)) pss_nil) 
      (pss_cons (ps_asg (pv 0) (pg_tup (by rfl) (pgs_cons (pg_name (i := 2) sc_is_wish.nd rfl (Or.inl rfl)) (pgs_cons (pg_name (i := 3) sc_is_wish.nd rfl (Or.inl rfl)) pgs_nil)))) 
      (pss_one (ps_ret (pe_and (pe_u c_is_height hr (by omega) (by rfl) (pa_cons (pv 2) pa_nil)) (pe_and (pe_cmpR op_in_seq (pv 2) (pv 1) (by rfl)) (pe_one (pe_u c_is_whole_from hr (by omega) (by rfl) (pa_cons (pv 3) (pa_cons pe_int (pa_cons (pe_op op_sub (pe_callB call_lenS (by rfl) m_len (by decide +kernel) (pa_cons (pv 1) pa_nil)) pe_int) pa_nil))))))))))), ?_⟩
    refine ⟨_, rfl, .ref r, .ty "tuple", .type "tuple", .type "tuple", _, rfl, .ty _, (Tv.tup hR).ty, kit_tuple (Tv.tup hR).mem, _, rfl, iteF ?_⟩
    refine ⟨_, rfl, r, _, rfl, .inr hR, rfl, _, rfl, iteF ?_⟩
    refine ⟨_, rfl, r, _, rfl, hR, rfl, _, _, rfl, _, _, rfl, rfl, ?_⟩
    have rg := row.rng h hm
    have hB : heightB (.int h) = true := by
      show (decide (1 ≤ h) && decide (h ≤ 999)) = true
      rw [decide_eq_true rg.1, decide_eq_true rg.2]
      rfl
    refine ⟨_, rfl, .int h, "int", rfl, Tv.int _, _, rfl, ?_⟩
    rw [hB]
    refine iteT ⟨_, rfl, _, rfl, a, _, rfl, .inr hS, rfl, flat_ints hs, _, rfl, ?_⟩
    rw [inV_ints, decide_eq_true hm]
    refine iteT ⟨_, rfl, _, rfl, a, _, rfl, .inr hS, _, _, rfl, rfl, .int k, "int", 0, _, rfl, Tv.int _, ?_⟩
    have e : wholeB (.int k) 0 (((hs.map V.int).length : Nat) - 1) = true := by
      show (decide (0 ≤ k) && decide (k ≤ ((hs.map V.int).length : Nat) - 1)) = true
      rw [List.length_map, decide_eq_true k0, decide_eq_true (by omega)]
      rfl
    rw [e]
    exact q
abbrev s_wrong_wish : Stmt := top 44
abbrev N_wrong_wish : List Str := ["heights", "wishes", "wished", "at", "wish", "height", "index"]
theorem sc_wrong_wish : FnScope N_wrong_wish ["heights", "wishes"] (defScope s_wrong_wish) := ⟨rfl, rfl, rfl, by decide +kernel, rfl, by decide +kernel, by decide +kernel⟩
def spWrongW (K : PySem.W.Frag) : Sp := fun vs H Q _ => ∃ (a b : Addr) (hs : List Int) (ws : List (Int × Int)), vs = [.ref a, .ref b] ∧ SqT K H a (hs.map V.int) ∧ WsAt K H b ws ∧ Row hs ∧ Wish hs ws ∧ ∀ H', Same H H' → Q .non H'
theorem ok_wrongw (D : Df K mg "wrong_wish" s_wrong_wish) (c_is_wish : Cl P w K mg base 4 "is_wish" s_is_wish ["value", "heights"] (spIsWish K)) (m_enumerate : mg "enumerate" = none) : Cl P w K mg base 5 "wrong_wish" s_wrong_wish ["heights", "wishes"] (spWrongW K) := by
  refine D.ok sc_wrong_wish (fun _ _ _ _ _ _ us hl => match us, hl with | [_, _], _ => rfl) (fun vs H Q E h => ?_) (fun f cdv A outer s H vs Q E hr h => ?_)
  · obtain ⟨a, b, hs, ws, rfl, _⟩ := h
    rfl
  · obtain ⟨a, b, hs, ws, rfl, hS, ⟨rs, hR, hp⟩, row, wi, q⟩ := h
    have wl := wish_len wi
    have most := row.most
    have rl := hp.len
    refine ⟨_, 
      (pss_cons (ps_set (i := 2) sc_wrong_wish.nd rfl (Or.inl rfl) (pe_lst pa_nil)) 
      (pss_cons (ps_for PassesOwn.never rfl (pi_enumT (by rfl) m_enumerate (pa_cons (pv 1) pa_nil)) (pg_tup (by rfl) (pgs_cons (pg_name (i := 3) sc_wrong_wish.nd rfl (Or.inl rfl)) (pgs_cons (pg_name (i := 4) sc_wrong_wish.nd rfl (Or.inl rfl)) pgs_nil))) (pss_cons (ps_if (pt_not (pt_val (pe_u c_is_wish hr (by omega) (by rfl) (pa_cons (pv 4) (pa_cons (pv 0) pa_nil))))) (pss_one (ps_ret (pv 3))) pss_nil) (pss_cons (ps_asg (pv 4) (pg_tup (by rfl) (pgs_cons (pg_name (i := 5) sc_wrong_wish.nd rfl (Or.inl rfl)) (pgs_cons (pg_name (i := 6) sc_wrong_wish.nd rfl (Or.inl rfl)) pgs_nil)))) (pss_cons (ps_if (PW.pt (pw_or (pt_cmpR op_in_seq (pv 5) (pv 2) (by rfl)) (pw_or1 (PW.pt (pw_and (pt_cmpR op_gt (pv 3) pe_int (nomark _)) (pw_and1 (pt_cmpR op_le (pv 6) (pe_ix ix_tup (pe_ix ix_tup (pv 1) (pe_op op_sub (pv 3) pe_int) (fun _ _ => rfl)) pe_int (fun _ _ => rfl)) (nomark _)))))))) (pss_one (ps_ret (pv 3))) pss_nil) (pss_one (ps_expr (pe_bm PySem.F.plainAttrs_list PySem.F.slot_list_append PySem.F.type_list_append mt_append (pv 2) (pa_cons (pv 5) pa_nil)))))))) 
      (pss_one (ps_ret pe_non)))), ?_⟩
    refine ⟨Nat.zero_le _, fun l nl => ?_⟩
    have s0 := same_upd (o := .lst []) nl
    refine ⟨_, rfl, b, rs.map V.ref, rfl, SqT.same s0 hR, ?_⟩
    refine walk_enumT (xs := rs.map V.ref) (fun i σ G => ∃ y1 y2 y3 y4 : Option V, σ = [some (.ref a), some (.ref b), some (.ref l), y1, y2, y3, y4] ∧ Same H G ∧ G l = some (.lst (((ws.take i).map (·.1)).map V.int))) ⟨none, none, none, none, rfl, s0, upd_same⟩ (fun i σ G _ hI => ?_) (fun i x T σ G hx hI nT => ?_) (fun σ G hI => ?_)
    · obtain ⟨_, _, _, _, _, sm, _⟩ := hI
      exact SqT.same sm hR
    · obtain ⟨y1, y2, y3, y4, rfl, sm, hl⟩ := hI
      have sT := same_upd (o := .tup [.int (i : Nat), x]) nT
      have smT := sm.trans sT
      have hlT := sT l _ hl
      rw [List.getElem?_map] at hx
      obtain ⟨r, hr3, rfl⟩ := Option.map_eq_some_iff.mp hx
      obtain ⟨x, hx2, hx3⟩ := hp.get hr3
      have lt : i < ws.length := (List.getElem?_eq_some_iff.mp hx2).1
      have xe : ws[i] = x := (List.getElem?_eq_some_iff.mp hx2).2
      obtain ⟨m1, m2, m3⟩ := wi.mem x (List.mem_of_getElem? hx2)
      refine ⟨T, _, rfl, .inl (.inl upd_same), rfl, _, _, rfl, _, _, rfl, rfl, ?_⟩
      generalize upd G T (.tup [.int (i : Nat), .ref r]) = G1 at smT hlT sT
      have hr4 : SqT K G1 r [.int x.1, .int x.2] := .inl (.inl (smT _ _ hx3))
      refine ⟨_, rfl, _, rfl, r, a, hs, x.1, x.2, rfl, hr4, SqT.same smT hS, row, m1, m2, m3, _, rfl, iteF ?_⟩
      refine ⟨_, rfl, r, _, rfl, hr4, rfl, _, _, rfl, _, _, rfl, rfl, ?_⟩
      refine ⟨_, rfl, _, rfl, l, _, rfl, .inl (.inl (.inl hlT)), rfl, flat_ints _, _, rfl, ?_⟩
      have ni : x.1 ∉ (ws.take i).map (·.1) := fun z => by
        obtain ⟨y, hy, e⟩ := List.mem_map.mp z
        obtain ⟨j, hj, ej⟩ := List.mem_iff_getElem.mp hy
        rw [List.length_take] at hj
        rw [List.getElem_take] at ej
        have nd := List.pairwise_iff_getElem.mp wi.nd j i (by rw [List.length_map]; omega) (by rw [List.length_map]; omega) (by omega)
        rw [List.getElem_map, List.getElem_map, ej, xe] at nd
        exact nd e
      rw [inV_ints, decide_eq_false ni]
      refine iteF ⟨_, rfl, _, _, rfl, rfl, _, rfl, ?_⟩
      have fin : ∀ {σ : L2.St} {y1 y2 y4 : Option V}, σ = [some (.ref a), some (.ref b), some (.ref l), y1, y2, some (.int x.1), y4] → ∃ y1 y2 y3 y4 : Option V, σ = [some (.ref a), some (.ref b), some (.ref l), y1, y2, y3, y4] ∧ Same H (upd G1 l (.lst (((ws.take i).map (·.1)).map V.int ++ [.int x.1]))) ∧ upd G1 l (.lst (((ws.take i).map (·.1)).map V.int ++ [.int x.1])) l = some (.lst (((ws.take (i + 1)).map (·.1)).map V.int)) := fun {σ y1 y2 y4} e => by
        refine ⟨_, _, _, _, e, fun c o eo => ?_, ?_⟩
        · rw [upd_ne (ne_of_none eo nl)]
          exact smT c o eo
        · rw [upd_same, List.take_add_one, hx2, List.map_append, List.map_append]
          rfl
      have sz : (((ws.take i).map (·.1)).map V.int).length < sizeLine := by
        rw [List.length_map, List.length_map, List.length_take]
        exact len_lt (by omega)
      by_cases i0 : i = 0
      · rw [decide_eq_false (by omega)]
        exact iteF (iteF ⟨_, rfl, .inl ⟨rfl, _, .inl (.inl hlT)⟩, _, rfl, l, _, _, rfl, rfl, hlT, sz, fin rfl⟩)
      · rw [decide_eq_true (by omega)]
        have lt1 : i - 1 < ws.length := by omega
        have lr1 : i - 1 < rs.length := by omega
        obtain ⟨y, hy2, hy3⟩ := hp.get (List.getElem?_eq_getElem lr1)
        have ye : ws[i - 1] = y := (List.getElem?_eq_some_iff.mp hy2).2
        have less := List.pairwise_iff_getElem.mp wi.up (i - 1) i lt1 lt (by omega)
        rw [ye, xe] at less
        refine iteT ⟨_, rfl, _, rfl, _, rfl, _, _, rfl, rfl, b, _, _, .ref rs[i - 1], rfl, rfl, SqT.same smT hR, ?_, rs[i - 1], _, 1, .int y.2, rfl, rfl, .inl (.inl (smT _ _ hy3)), atI_nat (j := 1) rfl, _, _, rfl, rfl, _, rfl, ?_⟩
        · rw [show ((i : Nat) : Int) - 1 = ((i - 1 : Nat) : Int) by omega]
          refine atI_nat ?_
          rw [List.getElem?_map, List.getElem?_eq_getElem lr1]
          rfl
        · rw [decide_eq_false (by omega)]
          exact iteF ⟨_, rfl, .inl ⟨rfl, _, .inl (.inl hlT)⟩, _, rfl, l, _, _, rfl, rfl, hlT, sz, fin rfl⟩
    · obtain ⟨y1, y2, y3, y4, rfl, sm, hl⟩ := hI
      exact q _ sm
abbrev s_check_wishes : Stmt := top 48
abbrev N_check_wishes : List Str := ["heights", "wishes", "index"]
theorem sc_check_wishes : FnScope N_check_wishes ["heights", "wishes"] (defScope s_check_wishes) := ⟨rfl, rfl, rfl, by decide +kernel, rfl, by decide +kernel, by decide +kernel⟩
def spCheckW (K : PySem.W.Frag) : Sp := fun vs H Q _ => ∃ (a b : Addr) (hs : List Int) (ws : List (Int × Int)), vs = [.ref a, .ref b] ∧ SqT K H a (hs.map V.int) ∧ WsAt K H b ws ∧ Asc hs ∧ Wish hs ws ∧ ∀ H', Same H H' → Q .non H'
theorem ok_checkw (D : Df K mg "check_wishes" s_check_wishes) (c_check_heights : Cl P w K mg base 5 "check_heights" s_check_heights ["heights"] (spCheckH K)) (c_wrong_wish : Cl P w K mg base 5 "wrong_wish" s_wrong_wish ["heights", "wishes"] (spWrongW K))
    (m_isinstance : mg "isinstance" = none) (m_tuple : mg "tuple" = none) : Cl P w K mg base 6 "check_wishes" s_check_wishes ["heights", "wishes"] (spCheckW K) := by
  refine D.ok sc_check_wishes (fun _ _ _ _ _ _ us hl => match us, hl with | [_, _], _ => rfl) (fun vs H Q E h => ?_) (fun f cdv A outer s H vs Q E hr h => ?_)
  · obtain ⟨a, b, hs, ws, rfl, _⟩ := h
    rfl
  · obtain ⟨a, b, hs, ws, rfl, hS, hW, asc, wi, q⟩ := h
    refine ⟨_, 
      (pss_cons (ps_expr (pe_u c_check_heights hr (by omega) (by rfl) (pa_cons (pv 0) pa_nil))) 
      (pss_cons (ps_if (pt_not (pt_val (pe_callB call_isi (by rfl) m_isinstance (by decide +kernel) (pa_cons (pv 1) (pa_cons (pe_bltn (v := .ty "tuple") (by rfl) m_tuple (by decide +kernel) rfl) pa_nil))))) (pss_one ps_never) pss_nil) 
      (pss_cons (ps_set (i := 2) sc_check_wishes.nd rfl (Or.inl rfl) (pe_u c_wrong_wish hr (by omega) (by rfl) (pa_cons (pv 0) (pa_cons (pv 1) pa_nil)))) 
      (pss_one (ps_if (pt_cmpR op_notN (pv 2) pe_non (nomark _)) (pss_one ps_never) pss_nil))))), ?_⟩
    refine ⟨_, rfl, a, hs, rfl, hS, asc, fun H1 s1 => ?_⟩
    have hW1 := hW.same s1
    obtain ⟨rs, hR, hp⟩ := hW1
    refine ⟨_, rfl, .ref b, .ty "tuple", .type "tuple", .type "tuple", _, rfl, .ty _, (Tv.tup hR).ty, kit_tuple (Tv.tup hR).mem, _, rfl, iteF ?_⟩
    refine ⟨_, rfl, _, rfl, a, b, hs, ws, rfl, SqT.same s1 hS, ⟨rs, hR, hp⟩, asc.row, wi, fun H2 s2 => ?_⟩
    refine ⟨_, rfl, rfl, _, rfl, ?_⟩
    rw [decide_eq_true rfl]
    exact iteF (q _ (s1.trans s2))
end
section
variable {P : Program} {w : World} {K : PySem.W.Frag} {mg : Str → Option Value} {base : Heap}
/-! ### how many words -/
abbrev vI (n : Nat) : V := .int ((n : Nat) : Int)
theorem cw_steps (ws : List (Int × Int)) (hs : List Int) (i s : Nat) : ((stepsL ws hs (i + 1) s).map fun x => cw ws hs i x.2).sum = cw ws hs (i + 1) s := by
  have e : cw ws hs (i + 1) s = (if mayS ws (hs.getD s 0) ((i + 1 : Nat) : Int) then cw ws hs i (s + 1) else 0) + (if mayS ws (hs.getD (s + (i + 1)) 0) ((i + 1 : Nat) : Int) then cw ws hs i s else 0) := rfl
  rw [e]
  unfold stepsL
  rw [List.map_append, List.sum_append]
  congr 1
  · split <;> simp
  · split <;> simp
theorem getD_vI (o : Option Nat) : (o.map vI).getD (.int 0) = .int ((o.getD 0 : Nat) : Int) := by cases o <;> rfl
theorem kvD_get {d : List (Nat × Nat)} {i : Nat} {k : Key} {v : V} (h : (kvD vI d)[i]? = some (k, v)) : ∃ s n : Nat, d[i]? = some (s, n) ∧ k = Sum.inl ((s : Nat) : Int) ∧ v = vI n := by
  unfold kvD at h
  rw [List.getElem?_map] at h
  obtain ⟨x, hx, e⟩ := Option.map_eq_some_iff.mp h
  exact ⟨x.1, x.2, hx, (congrArg Prod.fst e).symm, (congrArg Prod.snd e).symm⟩
theorem sum_kept (f : Nat → Bool) : ∀ d : List (Nat × Nat), (((d.filter fun x => f x.1).map fun x => ((x.2 : Nat) : Int)).sum) = ((sumD (fun s => if f s then 1 else 0) d : Nat) : Int)
  | [] => rfl
  | x :: d => by
    have ih := sum_kept f d
    have e : sumD (fun s => if f s then 1 else 0) (x :: d) = x.2 * (if f x.1 then 1 else 0) + sumD (fun s => if f s then 1 else 0) d := by
      unfold sumD
      rw [List.map_cons, List.sum_cons]
    rw [e, List.filter_cons]
    by_cases e : f x.1 = true
    · rw [if_pos e, if_pos e, List.map_cons, List.sum_cons, ih, Nat.mul_one]
      rfl
    · rw [if_neg e, if_neg e, ih, Nat.mul_zero, Nat.zero_add]
theorem sumD_take (f : Nat → Nat) {d : List (Nat × Nat)} {j s n : Nat} (h : d[j]? = some (s, n)) : sumD f (d.take (j + 1)) = sumD f (d.take j) + n * f s := by
  unfold sumD
  rw [List.take_add_one, h, List.map_append, List.sum_append]
  simp
abbrev s_count_words : Stmt := top 49
abbrev N_count_words : List Str := ["heights", "wishes", "ways", "index", "following", "shorts", "kind", "reached"]
theorem sc_count_words : FnScope N_count_words ["heights", "wishes"] (defScope s_count_words) := ⟨rfl, rfl, rfl, by decide +kernel, rfl, by decide +kernel, by decide +kernel⟩
def spCountW (K : PySem.W.Frag) : Sp := fun vs H Q _ => ∃ (a b : Addr) (hs : List Int) (ws : List (Int × Int)), vs = [.ref a, .ref b] ∧ SqT K H a (hs.map V.int) ∧ WsAt K H b ws ∧ Asc hs ∧ Wish hs ws ∧ ∀ H', Same H H' → Q (.int ((cw ws hs (hs.length - 1) 0 : Nat) : Int)) H'
theorem ok_countw (D : Df K mg "count_words" s_count_words) (c_check_wishes : Cl P w K mg base 6 "check_wishes" s_check_wishes ["heights", "wishes"] (spCheckW K)) (c_next_steps : Cl P w K mg base 2 "next_steps" s_next_steps ["heights", "wishes", "index", "shorts"] (spSteps K)) (c_may_stand : Cl P w K mg base 1 "may_stand" s_may_stand ["person", "index", "wishes"] (spMayS K))
    (m_range : mg "range" = none) (m_len : mg "len" = none) (m_sum : mg "sum" = none) : Cl P w K mg base 7 "count_words" s_count_words ["heights", "wishes"] (spCountW K) := by
  refine D.ok sc_count_words (fun _ _ _ _ _ _ us hl => match us, hl with | [_, _], _ => rfl) (fun vs H Q E h => ?_) (fun f cdv A outer s H vs Q E hr h => ?_)
  · obtain ⟨a, b, hs, ws, rfl, _⟩ := h
    rfl
  · obtain ⟨a, b, hs, ws, rfl, hS, hW, asc, wi, q⟩ := h
    refine ⟨_, 
      (pss_cons (ps_expr (pe_u c_check_wishes hr (by omega) (by rfl) (pa_cons (pv 0) (pa_cons (pv 1) pa_nil)))) 
      (pss_cons (ps_set (i := 2) sc_count_words.nd rfl (Or.inr rfl) (pe_disp (pps_cons pe_int pe_int pps_nil) rfl rfl (by simp) (by decide))) 
      (pss_cons (ps_for PassesOwn.never rfl (pi_range3 (by rfl) m_range (pa_cons (pe_op op_sub (pe_callB call_lenS (by rfl) m_len (by decide +kernel) (pa_cons (pv 0) pa_nil)) pe_int) (pa_cons pe_int (pa_cons (pe_un un_neg pe_int) pa_nil)))) (pg_name (i := 3) sc_count_words.nd rfl (Or.inl rfl)) (pss_cons (ps_set (i := 4) sc_count_words.nd rfl (Or.inl rfl) pe_dnewK) (pss_cons (ps_lock (ps_for PassesOwn.never rfl (pi_keys (pv 2)) (pg_name (i := 5) sc_count_words.nd rfl (Or.inl rfl)) (pss_one (ps_for PassesOwn.never rfl (pi_list (pe_u c_next_steps hr (by omega) (by rfl) (pa_cons (pv 0) (pa_cons (pv 1) (pa_cons (pv 3) (pa_cons (pv 5) pa_nil)))))) (pg_tup (by rfl) (pgs_cons (pg_name (i := 6) sc_count_words.nd rfl (Or.inl rfl)) (pgs_cons (pg_name (i := 7) sc_count_words.nd rfl (Or.inl rfl)) pgs_nil))) (pss_one (ps_dput (uni hr) (pv 4) (pv 7) (pe_op op_add (pe_dget2 (uni hr) (pv 4) (pv 7) pe_int ⟨rfl, rfl, rfl, rfl⟩) (pe_dget (uni hr) (pv 2) (pv 5) (fun _ _ => rfl))) (by rfl))))))) (pss_one (ps_set (i := 2) sc_count_words.nd rfl (Or.inr rfl) (pv 4)))))) 
      (pss_one (ps_ret (pe_callB (cr_sum rfl) (by rfl) m_sum (by decide +kernel) (pa_cons (pe_lock (pe_lc (own := [("shorts", 5)]) (g := gName 5) (te := (tDGet (tVar 2) (tVar 5))) (tt := (tB (tCall (spMayS K) [] E0 (tCons (tOp (rIxT K) (tVar 0) (tVar 5)) (tCons (tC _) (tCons (tVar 1) tNil)))))) rfl sc_count_words.nd (pi_keys (pv 2)) (blkOk_by (own := [("shorts", 5)]) (N := N_count_words) (sc := (defScope s_count_words)) (by decide +kernel)) (fun _ _ _ _ _ => (pg_name (i := 5) sc_count_words.nd rfl (Or.inl rfl))) (fun _ _ _ _ _ => pts_one (pt_val (pe_u c_may_stand hr (by omega) (by rfl) (pa_cons (pe_ix ix_tup (pv 0) (pv 5) (fun _ _ => rfl)) (pa_cons pe_int (pa_cons (pv 1) pa_nil)))))) (fun _ _ _ _ _ => (pe_dget (uni hr) (pv 2) (pv 5) (fun _ _ => rfl))))) pa_nil))))))), ?_⟩
    have pos := asc.row.pos
    have most := asc.row.most
    have wl := wish_len wi
    obtain ⟨m, hm⟩ : ∃ m, hs.length = m + 1 := ⟨hs.length - 1, by omega⟩
    rw [show hs.length - 1 = m by omega] at q
    refine ⟨_, rfl, _, rfl, a, b, hs, ws, rfl, hS, hW, asc, wi, fun H1 s1 => ?_⟩
    refine fun wy nw => ⟨upd_same, [(Sum.inl ((0 : Nat) : Int), vI 1)], rfl, by decide, ?_⟩
    rw [upd_upd, show mergeK [] [((Sum.inl ((0 : Nat) : Int) : Key), vI 1)] = kvD vI [(0, 1)] from rfl]
    have nw0 : H wy = none := s1.free nw
    have s2 : Same H (upd H1 wy (.dK (kvD vI [(0, 1)]))) := s1.trans (same_upd nw)
    refine ⟨_, rfl, a, _, rfl, .inr (SqT.same s2 hS), _, _, rfl, rfl, _, rfl, (m : Nat), 0, -1, m, ?_, ?_, ?_⟩
    · show [V.int (((hs.map V.int).length : Nat) - 1), V.int 0, V.int (-1)] = _
      rw [List.length_map, hm, show (((m + 1 : Nat) : Int)) - 1 = (m : Nat) by omega]
    · have z := RgC.neg (i := ((m : Nat) : Int)) (j := 0) (by omega) (by omega) (by decide) (by decide)
      rw [show ((((m : Nat) : Int)) - 0).toNat = m by omega] at z
      exact z
    refine for_rangeC (lo := ((m : Nat) : Int)) (c := -1) (n := m) (fun t σ G => ∃ (wy : Addr) (d : List (Nat × Nat)) (y1 y2 y3 y4 y5 : Option V), σ = [some (.ref a), some (.ref b), some (.ref wy), y1, y2, y3, y4, y5] ∧ Same H G ∧ H wy = none ∧ G wy = some (.dK (kvD vI d)) ∧ (d.map (·.1)).Nodup ∧ (∀ k ∈ d.map (·.1), k ≤ t) ∧ d.length ≤ 2 ^ t ∧ sumD (cw ws hs (m - t)) d = cw ws hs m 0)
      ⟨wy, [(0, 1)], none, none, none, none, none, rfl, s2, nw0, upd_same, by simp, by simp, Nat.le_refl _, by simp [sumD]⟩ (fun t σ G ht hI => ?_) (fun σ G hI => ?_)
    · obtain ⟨wy, d, y1, y2, y3, y4, y5, rfl, sm, nw, hw, nd, kb, dl, sd⟩ := hI
      have ap : 2 ^ t ≤ 2 ^ 11 := Nat.pow_le_pow_right (by decide) (by omega)
      obtain ⟨i, hi⟩ : ∃ i, m - t = i + 1 := ⟨m - t - 1, by omega⟩
      rw [hi] at sd
      have ei : (((m : Nat) : Int)) + ((t : Nat) : Int) * -1 = ((i + 1 : Nat) : Int) := by omega
      rw [ei]
      refine fun fy nf => ?_
      have wf : wy ≠ fy := ne_of_none hw nf
      have nf0 : H fy = none := sm.free nf
      refine ⟨wy, _, (upd_ne wf).trans hw, trivial, fun od => ?_⟩
      refine ⟨_, rfl, wy, od, rfl, .inl ⟨_, upd_same, ?_⟩⟩
      refine for_it walk_keys (fun j σ F => ∃ (f : List (Nat × Nat)) (y3 y4 y5 : Option V), σ = [some (.ref a), some (.ref b), some (.ref wy), some (.int ((i + 1 : Nat) : Int)), some (.ref fy), y3, y4, y5] ∧ Same H F ∧ F wy = some (.frz od (.dK (kvD vI d))) ∧ F fy = some (.dK (kvD vI f)) ∧ (f.map (·.1)).Nodup ∧ (∀ k ∈ f.map (·.1), k ≤ t + 1) ∧ f.length ≤ 2 * j ∧ sumD (cw ws hs i) f = sumD (cw ws hs (i + 1)) (d.take j))
        ⟨[], _, _, _, rfl, ?_, upd_same, (upd_ne wf.symm).trans upd_same, List.nodup_nil, (fun k hk => nomatch hk), Nat.zero_le _, rfl⟩ (fun j σ F _ hK => ?_) (fun j x σ F F' hj hK hY => ?_) (fun σ F hK => ?_)
      · intro c o e
        rw [upd_ne (ne_of_none e nw), upd_ne (ne_of_none e nf0)]
        exact sm c o e
      · obtain ⟨f, y3, y4, y5, rfl, _, hw2, _⟩ := hK
        exact hw2
      · obtain ⟨f, y3, y4, y5, rfl, sF, hw2, hf2, ndf, kbf, fl, sf⟩ := hK
        obtain ⟨rfl, k, v, hkv, rfl⟩ := hY
        obtain ⟨s, n, hd, rfl, rfl⟩ := kvD_get hkv
        have sk : s ≤ t := kb s (List.mem_map.mpr ⟨_, List.mem_of_getElem? hd, rfl⟩)
        have jl : j < d.length := (List.getElem?_eq_some_iff.mp hd).1
        refine ⟨_, rfl, _, rfl, _, rfl, _, rfl, a, b, hs, ws, i + 1, s, rfl, SqT.same sF hS, hW.same sF, by omega, by omega, fun p rs F1 s1' np hp hst => ?_⟩
        refine ⟨p, rfl, ⟨_, .inl (.inl hp)⟩, ?_⟩
        have pf : p ≠ fy := (ne_of_none hf2 np).symm
        have stl := hst.len
        have sl2 : (stepsL ws hs (i + 1) s).length ≤ 2 := by
          unfold stepsL
          rw [List.length_append]
          split <;> split <;> simp
        refine for_list (xs := rs.map V.ref) (fun z σ F2 => ∃ (f2 : List (Nat × Nat)) (y4 y5 : Option V), σ = [some (.ref a), some (.ref b), some (.ref wy), some (.int ((i + 1 : Nat) : Int)), some (.ref fy), some (.int ((s : Nat) : Int)), y4, y5] ∧ Same H F2 ∧ F2 wy = some (.frz od (.dK (kvD vI d))) ∧ F2 fy = some (.dK (kvD vI f2)) ∧ (f2.map (·.1)).Nodup ∧ (∀ k ∈ f2.map (·.1), k ≤ t + 1) ∧ f2.length ≤ 2 * j + z ∧ sumD (cw ws hs i) f2 = sumD (cw ws hs i) f + n * (((stepsL ws hs (i + 1) s).take z).map fun x => cw ws hs i x.2).sum ∧ F2 p = some (.lst (rs.map V.ref)) ∧ StAt F2 rs (stepsL ws hs (i + 1) s))
          ⟨f, _, _, rfl, sF.trans s1', s1' _ _ hw2, s1' _ _ hf2, ndf, kbf, fl, by simp, hp, hst⟩ (fun z σ F2 _ hL => ?_) (fun z x σ F2 hx hL => ?_) (fun σ F2 hL => ?_)
        · obtain ⟨f2, y4, y5, rfl, _, _, _, _, _, _, _, hp2, _⟩ := hL
          exact .inl (.inl hp2)
        · obtain ⟨f2, y4, y5, rfl, sF2, hw3, hf3, nd3, kb3, fl3, sf3, hp3, st3⟩ := hL
          rw [List.getElem?_map] at hx
          obtain ⟨r, hr3, rfl⟩ := Option.map_eq_some_iff.mp hx
          obtain ⟨⟨kb4, q2⟩, hx2, hx3⟩ := st3.get hr3
          have q2b : q2 ≤ t + 1 := by
            have mem := List.mem_of_getElem? hx2
            unfold stepsL at mem
            rcases List.mem_append.mp mem with y | y
            · split at y
              · have := congrArg Prod.snd (List.mem_singleton.mp y)
                simp at this
                omega
              · cases y
            · split at y
              · have := congrArg Prod.snd (List.mem_singleton.mp y)
                simp at this
                omega
              · cases y
          refine ⟨r, _, rfl, .inl (.inl hx3), rfl, _, _, rfl, _, _, rfl, rfl, ?_⟩
          have g1 : DGet F2 fy (.int ((q2 : Nat) : Int)) ((lookD f2 q2).map vI) := .inl ⟨_, Sum.inl ((q2 : Nat) : Int), .inl hf3, rfl, (val_kvD vI f2 q2).symm⟩
          have g2 : DGet F2 wy (.int ((s : Nat) : Int)) (some (vI n)) := .inl ⟨_, Sum.inl ((s : Nat) : Int), .inr ⟨od, hw3⟩, rfl, by rw [val_kvD, look_get nd hd]; rfl⟩
          have zl : z < rs.length := (List.getElem?_eq_some_iff.mp hr3).1
          have p3 : DPut F2 fy (.int ((q2 : Nat) : Int)) (.int (((lookD f2 q2).getD 0 : Nat) + (n : Nat))) (upd F2 fy (.dK (kvD vI (addD (fun o => o.getD 0 + n) f2 q2)))) := by
            have e := put_kvD vI (fun o => o.getD 0 + n) f2 q2 nd3
            rw [← e]
            refine DPut.k (k := Sum.inl ((q2 : Nat) : Int)) hf3 ?_
            unfold kvD
            rw [List.length_map]
            exact len_lt (by omega)
          refine ⟨_, rfl, fy, rfl, .inl ⟨_, .inl hf3⟩, _, rfl, _, g1, _, rfl, _, rfl, wy, _, rfl, g2, _, _, getD_vI _, rfl, _, rfl, _, rfl, fy, _, rfl, p3, ?_⟩
          have rf : ∀ {r2 : Addr} {ys : List V}, F2 r2 = some (.tup ys) → r2 ≠ fy := fun {r2 ys} e z => by
            rw [z, hf3] at e
            cases e
          refine ⟨_, _, _, rfl, fun c o e => ?_, (upd_ne wf).trans hw3, upd_same, add_nodup nd3, fun k hk => ?_, ?_, ?_, (upd_ne pf).trans hp3, st3.imp fun r2 _ x e => (upd_ne (rf e)).trans e⟩
          · rw [upd_ne (ne_of_none e nf0)]
            exact sF2 c o e
          · rcases add_key hk with y | y
            · exact kb3 k y
            · omega
          · have := add_len (fun o : Option Nat => o.getD 0 + n) f2 q2
            omega
          · rw [sum_add, sf3, List.take_add_one, hx2, List.map_append, List.sum_append, Nat.mul_add]
            simp
            omega
        · obtain ⟨f2, y4, y5, rfl, sF2, hw3, hf3, nd3, kb3, fl3, sf3, hp3, st3⟩ := hL
          rw [List.length_map, stl, List.take_length, cw_steps] at sf3
          rw [List.length_map] at fl3
          exact ⟨f2, _, _, _, rfl, sF2, hw3, hf3, nd3, kb3, by omega, by rw [sf3, sf, sumD_take _ hd]⟩
      · obtain ⟨f, y3, y4, y5, rfl, sF, hw2, hf2, ndf, kbf, fl, sf⟩ := hK
        have kl : (kvD vI d).length = d.length := by
          unfold kvD
          rw [List.length_map]
        rw [kl] at fl sf
        rw [List.take_length] at sf
        refine ⟨hw2, _, rfl, fy, f, _, _, _, _, _, rfl, fun c o e => ?_, nf0, (upd_ne wf.symm).trans hf2, ndf, kbf, ?_, ?_⟩
        · rw [upd_ne (ne_of_none e nw)]
          exact sF c o e
        · rw [Nat.pow_succ]
          omega
        · rw [show m - (t + 1) = i by omega, sf, sd]
    · obtain ⟨wy, d, y1, y2, y3, y4, y5, rfl, sm, nw, hw, nd, kb, dl, sd⟩ := hI
      rw [Nat.sub_self] at sd
      have ap : 2 ^ m ≤ 2 ^ 11 := Nat.pow_le_pow_right (by decide) (by omega)
      refine ⟨wy, _, hw, trivial, fun od => ?_⟩
      refine ⟨_, rfl, wy, od, rfl, .inl ⟨_, upd_same, fun D nD => ?_⟩⟩
      have wD : wy ≠ D := ne_of_none upd_same nD
      have nD0 : G D = none := by
        rw [upd_ne wD.symm] at nD
        exact nD
      refine lc_it walk_keys (fun j F => Same H F ∧ F wy = some (.frz od (.dK (kvD vI d))) ∧ F D = some (.lst (((((d.take j).filter fun x => mayS ws (hs.getD x.1 0) 0).map fun x => ((x.2 : Nat) : Int))).map V.int)))
        ⟨fun c o e => ?_, (upd_ne wD).trans upd_same, upd_same⟩ (fun j F _ hK => hK.2.1) (fun j x F F' hj hK hY => ?_) (fun F hK => ?_)
      · rw [upd_ne (ne_of_none e (sm.free nD0)), upd_ne (ne_of_none e nw)]
        exact sm c o e
      · obtain ⟨sF, hw2, hD⟩ := hK
        obtain ⟨rfl, k, v, hkv, rfl⟩ := hY
        obtain ⟨s, n, hd, rfl, rfl⟩ := kvD_get hkv
        have sk : s ≤ m := kb s (List.mem_map.mpr ⟨_, List.mem_of_getElem? hd, rfl⟩)
        have jl : j < d.length := (List.getElem?_eq_some_iff.mp hd).1
        refine ⟨rfl, _, rfl, _, rfl, a, _, _, _, rfl, rfl, SqT.same sF hS, atD (by omega), _, rfl, _, _, b, ws, rfl, hW.same sF, by omega, fun F1 s1' => ⟨_, rfl, ?_⟩⟩
        have et : (d.take (j + 1)).filter (fun x => mayS ws (hs.getD x.1 0) 0) = (d.take j).filter (fun x => mayS ws (hs.getD x.1 0) 0) ++ (if mayS ws (hs.getD s 0) 0 then [(s, n)] else []) := by
          rw [List.take_add_one, hd, List.filter_append, show (some (s, n)).toList = [(s, n)] from rfl, List.filter_cons, List.filter_nil]
        cases hm2 : mayS ws (hs.getD s 0) 0 with
        | false =>
          rw [hm2, if_neg (show ¬ false = true from fun z => nomatch z), List.append_nil] at et
          refine iteF ⟨sF.trans s1', s1' _ _ hw2, ?_⟩
          rw [et]
          exact s1' _ _ hD
        | true =>
          rw [hm2, if_pos (show true = true from rfl)] at et
          have g2 : DGet F1 wy (.int ((s : Nat) : Int)) (some (vI n)) := .inl ⟨_, Sum.inl ((s : Nat) : Int), .inr ⟨od, s1' _ _ hw2⟩, rfl, by rw [val_kvD, look_get nd hd]; rfl⟩
          refine iteT ⟨_, rfl, _, rfl, wy, _, rfl, g2, _, s1' _ _ hD, ?_, fun c o e => ?_, (upd_ne wD).trans (s1' _ _ hw2), ?_⟩
          · rw [List.length_map, List.length_map]
            have := List.length_filter_le (fun x : Nat × Nat => mayS ws (hs.getD x.1 0) 0) (d.take j)
            rw [List.length_take] at this
            exact len_lt (by omega)
          · rw [upd_ne (ne_of_none e (sm.free nD0))]
            exact s1' c o (sF c o e)
          · rw [upd_same, et, List.map_append, List.map_append]
            rfl
      · obtain ⟨sF, hw2, hD⟩ := hK
        have kl : (kvD vI d).length = d.length := by
          unfold kvD
          rw [List.length_map]
        rw [kl, List.take_length] at hD
        refine ⟨hw2, D, _, rfl, .inl (.inl ((upd_ne wD.symm).trans hD)), ?_⟩
        rw [sum_kept fun s => mayS ws (hs.getD s 0) 0]
        have e : sumD (fun s => if mayS ws (hs.getD s 0) 0 then 1 else 0) d = cw ws hs m 0 := sd
        rw [e]
        refine q _ fun c o e => ?_
        rw [upd_ne (ne_of_none e nw)]
        exact sF c o e
end
section
variable {P : Program} {w : World} {K : PySem.W.Frag} {mg : Str → Option Value} {base : Heap}
/-! ### drawn wishes -/
/-- a list that stands by itself, or a tuple -/
def LT (K : PySem.W.Frag) (H : Hp) (l : Addr) (xs : List V) : Prop := H l = some (.lst xs) ∨ SqT K H l xs
theorem LT.kp {H G : Hp} {a l : Addr} {xs : List V} (h : LT K H l xs) (p : Pool H a) (k : Kp a H G) (ne : l ≠ a) : LT K G l xs := by
  rcases h with h | h
  · exact .inl (k l _ h ne)
  · exact .inr (SqT.pool h p k)
theorem LT.same {H G : Hp} {l : Addr} {xs : List V} (h : LT K H l xs) (k : Same H G) : LT K G l xs := by
  rcases h with h | h
  · exact .inl (k l _ h)
  · exact .inr (SqT.same k h)
theorem rIx_of {H : Hp} {l : Addr} {ls : List Int} {i : Nat} {Q : VK} (h : LT K H l (ls.map V.int)) (lt : i < ls.length) (q : Q (.int ls[i]) H) : rIx K (.ref l) (.int ((i : Nat) : Int)) H Q := by
  rcases h with h | h
  · exact .inl ⟨l, _, _, _, rfl, rfl, .inl (.inl h), atI_nat (getI lt), q⟩
  · exact .inr (.inl ⟨l, _, _, _, rfl, rfl, h, atI_nat (getI lt), q⟩)
theorem swap_set {ls : List Int} {i j : Nat} (hi : i < ls.length) (hj : j < ls.length) : ((ls.set i ls[j]).set j ls[i]).Perm ls := by
  exact List.set_set_perm hi hj
theorem wish_of {hs ls : List Int} {ws : List (Int × Int)} (p : ls.Perm hs) (nd : hs.Nodup) (h : ∀ x ∈ ws, ls[x.2.toNat]? = some x.1 ∧ 0 ≤ x.2 ∧ x.2 < (hs.length : Nat)) (up : ws.Pairwise fun x y => x.2 < y.2) : Wish hs ws := by
  refine ⟨fun x hx => ?_, up, ?_⟩
  · obtain ⟨a, b, c⟩ := h x hx
    exact ⟨p.mem_iff.mp (List.mem_of_getElem? a), b, c⟩
  · rw [List.Nodup, List.pairwise_map]
    refine List.Pairwise.imp_of_mem (fun {x y} hx hy hxy e => ?_) up
    obtain ⟨a, b, c⟩ := h x hx
    obtain ⟨a2, b2, c2⟩ := h y hy
    rw [e, ← a2] at a
    have ll := p.length_eq
    have := (List.getElem?_inj (by omega) (p.nodup_iff.mpr nd)).mp a
    omega
abbrev s__law_a_wish : Stmt := top 59
abbrev N__law_a_wish : List Str := ["_law_pool_here", "_law_persons_here", "_law_many", "_law_way", "_law_limit", "_law_line", "_law_first", "_law_second", "_law_k"]
theorem sc__law_a_wish : FnScope N__law_a_wish ["_law_pool_here", "_law_persons_here"] (defScope s__law_a_wish) := ⟨rfl, rfl, rfl, by decide +kernel, rfl, by decide +kernel, by decide +kernel⟩
def spAWish (K : PySem.W.Frag) : Sp := fun vs H Q _ => ∃ (a pe : Addr) (hs : List Int), vs = [.ref a, .ref pe] ∧ SqT K H pe (hs.map V.int) ∧ Asc hs ∧ Pool H a ∧
  ∀ (b : Addr) (rs : List Addr) (ws : List (Int × Int)) (H' : Hp), Kp a H H' → Pool H' a → H' b = some (.tup (rs.map V.ref)) → PrAt H' rs ws → Wish hs ws → Q (.ref b) H'
theorem ok_awish (D : Df K mg "_law_a_wish" s__law_a_wish) (c__law_draw : Cl P w K mg base 1 "_law_draw" s__law_draw ["_law_pool_here", "_law_limit"] spDraw) (c__law_placed : Cl P w K mg base 1 "_law_placed" s__law_placed ["_law_persons_here", "_law_code"] (spPlaced K)) (c__law_letters : Cl P w K mg base 2 "_law_letters" s__law_letters ["_law_pool_here", "_law_many"] spLetters) (c__law_shuffled : Cl P w K mg base 2 "_law_shuffled" s__law_shuffled ["_law_pool_here", "_law_things"] (spShuf K))
    (m_len : mg "len" = none) (m_list : mg "list" = none) (m_tuple : mg "tuple" = none) (m_range : mg "range" = none) : Cl P w K mg base 3 "_law_a_wish" s__law_a_wish ["_law_pool_here", "_law_persons_here"] (spAWish K) := by
  refine D.ok sc__law_a_wish (fun _ _ _ _ _ _ us hl => match us, hl with | [_, _], _ => rfl) (fun vs H Q E h => ?_) (fun f cdv A outer s H vs Q E hr h => ?_)
  · obtain ⟨a, pe, hs, rfl, _⟩ := h
    rfl
  · obtain ⟨a, pe, hs, rfl, hS, asc, hp, q⟩ := h
    refine ⟨_, 
      (pss_cons (ps_asg (pe_tup (pa_cons (pe_callB call_lenS (by rfl) m_len (by decide +kernel) (pa_cons (pv 1) pa_nil)) (pa_cons (pe_u c__law_draw hr (by omega) (by rfl) (pa_cons (pv 0) (pa_cons pe_int pa_nil))) (pa_cons (pe_op op_add pe_int (pe_u c__law_draw hr (by omega) (by rfl) (pa_cons (pv 0) (pa_cons pe_int pa_nil)))) pa_nil)))) (pg_tup (by rfl) (pgs_cons (pg_name (i := 2) sc__law_a_wish.nd rfl (Or.inl rfl)) (pgs_cons (pg_name (i := 3) sc__law_a_wish.nd rfl (Or.inl rfl)) (pgs_cons (pg_name (i := 4) sc__law_a_wish.nd rfl (Or.inr rfl)) pgs_nil))))) 
      (pss_cons (ps_set (i := 5) sc__law_a_wish.nd rfl (Or.inr rfl) (pe_callTy call_list_of (by rfl) m_list (by decide +kernel) (pa_cons (pe_u c__law_placed hr (by omega) (by rfl) (pa_cons (pv 1) (pa_cons (pe_u c__law_letters hr (by omega) (by rfl) (pa_cons (pv 0) (pa_cons (pe_op op_sub (pv 2) pe_int) pa_nil))) pa_nil))) pa_nil))) 
      (C8.pss_cut (ps_if (pt_cmpR op_eq (pv 3) pe_int (nomark _)) (pss_one (ps_set (i := 5) sc__law_a_wish.nd rfl (Or.inr rfl) (pe_u c__law_shuffled hr (by omega) (by rfl) (pa_cons (pv 0) (pa_cons (pv 5) pa_nil))))) pss_nil) 
      (C8.pss_cut (ps_if (pt_cmpR op_eq (pv 3) pe_int (nomark _)) (pss_cons (ps_par (i := 6) (j := 7) (by rfl) sc__law_a_wish.nd rfl rfl (by decide) rfl rfl (pa_cons (pe_u c__law_draw hr (by omega) (by rfl) (pa_cons (pv 0) (pa_cons (pv 2) pa_nil))) (pa_cons (pe_u c__law_draw hr (by omega) (by rfl) (pa_cons (pv 0) (pa_cons (pv 2) pa_nil))) pa_nil)) (by rfl)) (pss_one (ps_asg (pe_tup (pa_cons (pe_ix ix_list (pv 5) (pv 7) (fun _ _ => rfl)) (pa_cons (pe_ix ix_list (pv 5) (pv 6) (fun _ _ => rfl)) pa_nil))) (pg_tup (by rfl) (pgs_cons (pg_sub (pv 5) (pv 6) set_list) (pgs_cons (pg_sub (pv 5) (pv 7) set_list) pgs_nil)))))) pss_nil) 
      (pss_one (ps_ret (pe_callTy call_tuple_of (by rfl) m_tuple (by decide +kernel) (pa_cons (pe_lc (own := [("_law_k", 8)]) (g := gName 8) (te := (tTup (tCons (tOp (rIx K) (tVar 5) (tVar 8)) (tCons (tVar 8) tNil)))) (tt := (tTest (tOp rEq (tCall spDraw [] E0 (tCons (tVar 0) (tCons (tVar 4) tNil))) (tC _)))) rfl sc__law_a_wish.nd (pi_range1 (by rfl) m_range (pa_cons (pv 2) pa_nil)) (blkOk_by (own := [("_law_k", 8)]) (N := N__law_a_wish) (sc := (defScope s__law_a_wish)) (by decide +kernel)) (fun _ _ _ _ _ => (pg_name (i := 8) sc__law_a_wish.nd rfl (Or.inl rfl))) (fun _ _ _ _ _ => pts_one (pt_cmpR op_eq (pe_u c__law_draw hr (by omega) (by rfl) (pa_cons (pv 0) (pa_cons (pv 4) pa_nil))) pe_int (nomark _))) (fun _ _ _ _ _ => (pe_tup (pa_cons (pe_ix ix_seq (pv 5) (pv 8) (fun _ _ => rfl)) (pa_cons (pv 8) pa_nil))))) pa_nil)))))))), ?_⟩
    have pos := asc.row.pos
    have most := asc.row.most
    refine ⟨_, rfl, pe, _, rfl, .inr hS, _, rfl, a, 4, rfl, by decide, by decide, hp, fun way H1 w0 w1 k1 p1 => ?_⟩
    refine ⟨_, rfl, a, 3, rfl, by decide, by decide, p1, fun lim H2 l0 l1 k2 p2 => ⟨_, _, rfl, rfl, (by show 3 ≤ sizeLine; decide), fun tp ntp => ?_⟩⟩
    rw [List.length_map]
    refine ⟨tp, _, rfl, .inl (.inl upd_same), rfl, _, _, rfl, _, _, rfl, _, _, rfl, rfl, ?_⟩
    have tpa : tp ≠ a := p2.ne ntp
    have k3 : Kp a H (upd H2 tp (.tup [.int (hs.length : Nat), .int way, .int (1 + lim)])) := (k1.trans k2).trans (.of_same (same_upd ntp))
    have p3 : Pool (upd H2 tp (.tup [.int (hs.length : Nat), .int way, .int (1 + lim)])) a := p2.upd tpa.symm
    generalize upd H2 tp (.tup [.int (hs.length : Nat), .int way, .int (1 + lim)]) = H3 at k3 p3 ⊢
    refine ⟨_, rfl, _, rfl, _, rfl, _, _, rfl, rfl, a, _, rfl, by omega, by omega, p3, fun bs H4 k4 p4 bl => ?_⟩
    have k04 := k3.trans k4
    have hS4 := SqT.pool hS hp k04
    refine ⟨pe, hs, bs, rfl, .inr hS4, pos, most, by omega, fun pl H5 s5 n5 t5 => ?_⟩
    refine ⟨pl, _, rfl, .inr t5.sq, fun l nl => ?_⟩
    have p5 : Pool H5 a := p4.of fun o e => s5 a o e
    have la : l ≠ a := p5.ne nl
    have nl0 : H l = none := (k04.trans (.of_same s5)).free nl la
    have k6 : Kp a H (upd H5 l (.lst ((finR bs.reverse hs).map V.int))) := (k04.trans (.of_same s5)).trans (.of_same (same_upd nl))
    have p6 : Pool (upd H5 l (.lst ((finR bs.reverse hs).map V.int))) a := p5.upd la.symm
    have pf : (finR bs.reverse hs).Perm hs := (kinds_fin bs.reverse hs asc.up pos (by rw [List.length_reverse]; omega)).2
    have h6 : upd H5 l (.lst ((finR bs.reverse hs).map V.int)) l = some (.lst ((finR bs.reverse hs).map V.int)) := upd_same
    generalize upd H5 l (.lst ((finR bs.reverse hs).map V.int)) = H6 at k6 p6 h6 ⊢
    generalize finR bs.reverse hs = ls at pf h6
    refine ⟨fun σ G => ∃ (l : Addr) (ls : List Int), σ = [some (.ref a), some (.ref pe), some (.int (hs.length : Nat)), some (.int way), some (.int (1 + lim)), some (.ref l), none, none, none] ∧ Kp a H G ∧ Pool G a ∧ l ≠ a ∧ ls.Perm hs ∧ LT K G l (ls.map V.int) ∧ (way = 1 → G l = some (.lst (ls.map V.int)) ∧ H l = none), ?_, fun σ G hM => ?_⟩
    · refine ⟨_, rfl, rfl, _, rfl, ?_⟩
      by_cases w : way = 0
      · rw [decide_eq_true (congrArg V.int w)]
        refine iteT ⟨_, rfl, _, rfl, a, l, ls, rfl, la, .inl (.inl (.inl h6)), by rw [pf.length_eq]; omega, p6, fun sh ms H7 k7 p7 n7 h7 pm => ?_⟩
        exact ⟨sh, ms, rfl, k6.trans k7, p7, p6.ne n7, pm.trans pf, .inr (.inl (.inl h7)), fun z => absurd z (by omega)⟩
      · rw [decide_eq_false (fun z => w (V.int.inj z))]
        exact iteF ⟨l, ls, rfl, k6, p6, la, pf, .inl h6, fun _ => ⟨h6, nl0⟩⟩
    obtain ⟨l, ls, rfl, kg, pg, la, pf, hl, h1⟩ := hM
    have ll := pf.length_eq
    refine ⟨fun σ G => ∃ (l : Addr) (ls : List Int) (y1 y2 : Option V), σ = [some (.ref a), some (.ref pe), some (.int (hs.length : Nat)), some (.int way), some (.int (1 + lim)), some (.ref l), y1, y2, none] ∧ Kp a H G ∧ Pool G a ∧ l ≠ a ∧ ls.Perm hs ∧ LT K G l (ls.map V.int), ?_, fun σ G hM => ?_⟩
    · refine ⟨_, rfl, rfl, _, rfl, ?_⟩
      by_cases w : way = 1
      · rw [decide_eq_true (congrArg V.int w)]
        obtain ⟨hl1, nl0⟩ := h1 w
        refine iteT ⟨_, rfl, _, rfl, a, _, rfl, by omega, by omega, pg, fun d F1 d0 d1 f1 pf1 => ?_⟩
        refine ⟨_, rfl, _, rfl, a, _, rfl, by omega, by omega, pf1, fun e F2 e0 e1 f2 pf2 => ⟨_, _, rfl, ?_⟩⟩
        obtain ⟨i, rfl⟩ : ∃ i : Nat, d = (i : Nat) := ⟨d.toNat, by omega⟩
        obtain ⟨j, rfl⟩ : ∃ j : Nat, e = (j : Nat) := ⟨e.toNat, by omega⟩
        have hl2 := f2 l _ (f1 l _ hl1 la) la
        have li : i < ls.length := by omega
        have lj : j < ls.length := by omega
        refine ⟨_, rfl, _, rfl, l, _, _, _, rfl, rfl, .inl (.inl hl2), atI_nat (getI lj), _, rfl, _, rfl, l, _, _, _, rfl, rfl, .inl (.inl hl2), atI_nat (getI li), (by show 2 ≤ sizeLine; decide), fun t nt => ?_⟩
        have lt_ : l ≠ t := ne_of_none hl2 nt
        have ta : t ≠ a := pf2.ne nt
        have hx : ∀ {n i : Nat}, i < n → ixN n ((i : Nat) : Int) = some i := fun {n i} h => by
          unfold ixN
          rw [if_pos (by omega), if_pos (by omega), Int.toNat_natCast]
        refine ⟨t, _, rfl, .inl (.inl upd_same), rfl, _, _, rfl, _, rfl, _, rfl, l, _, _, i, rfl, rfl, (upd_ne lt_).trans hl2, hx (by rw [List.length_map]; omega), ?_⟩
        refine ⟨_, _, rfl, _, rfl, _, rfl, l, _, _, j, rfl, rfl, upd_same, hx (by rw [List.length_set, List.length_map]; omega), rfl, ?_⟩
        refine ⟨l, (ls.set i ls[j]).set j ls[i], _, _, rfl, ?_, ?_, la, (swap_set li lj).trans pf, .inl ?_⟩
        · intro b o eb ne
          rw [upd_ne (ne_of_none eb nl0), upd_ne (ne_of_none eb nl0)]
          exact same_upd nt b o (f2 b o (f1 b o (kg b o eb ne) ne) ne)
        · exact ((pf2.upd ta.symm).upd la.symm).upd la.symm
        · rw [upd_same, List.map_set, List.map_set]
      · rw [decide_eq_false (fun z => w (V.int.inj z))]
        exact iteF ⟨l, ls, _, _, rfl, kg, pg, la, pf, hl⟩
    obtain ⟨l, ls, y1, y2, rfl, kg, pg, la, pf, hl⟩ := hM
    have ll := pf.length_eq
    refine ⟨_, rfl, _, rfl, by omega, by omega, fun D nD => ?_⟩
    have Da : D ≠ a := pg.ne nD
    have nD0 : H D = none := kg.free nD Da
    refine lc_range (lo := 0) (n := ((hs.length : Nat) : Int).toNat) (fun j F => ∃ (rs : List Addr) (ws : List (Int × Int)), F D = some (.lst (rs.map V.ref)) ∧ PrAt F rs ws ∧ (∀ x ∈ ws, ls[x.2.toNat]? = some x.1 ∧ 0 ≤ x.2 ∧ x.2 < (j : Nat)) ∧ ws.Pairwise (fun x y => x.2 < y.2) ∧ ws.length ≤ j ∧ Kp a G F ∧ Pool F a)
      ⟨[], [], upd_same, trivial, (fun x hx => nomatch hx), .nil, Nat.zero_le _, .of_same (same_upd nD), pg.upd Da.symm⟩ (fun j F hj hI => ?_) (fun F hI => ?_)
    · obtain ⟨rs, ws, hD, hE, rng, up, wl, kf, pF⟩ := hI
      have rl := hE.len
      rw [Int.toNat_natCast] at hj
      refine ⟨rfl, _, rfl, _, rfl, a, _, rfl, by omega, by omega, pF, fun g F1 g0 g1 k1' p1' => ⟨rfl, _, rfl, ?_⟩⟩
      have hD1 := k1' D _ hD Da
      have tne : ∀ {F : Hp} {r : Addr} {ys : List V} {z : HO}, Pool F a → F r = some (.tup ys) → r ≠ a := fun {F r ys z} p e zz => by
        obtain ⟨_, _, _, e2, _⟩ := p
        rw [zz, e2] at e
        cases e
      have hE1 : PrAt F1 rs ws := hE.imp fun r _ x e => k1' r _ e (tne (z := .tup []) pF e)
      have kf1 := kf.trans k1'
      refine ite2 (fun _ => ?_) (fun _ => ?_)
      · have lj : j < ls.length := by omega
        refine ⟨_, rfl, _, rfl, ?_⟩
        rw [show (0 : Int) + ((j : Nat) : Int) = ((j : Nat) : Int) by omega]
        refine rIx_of (hl.kp pg kf1 la) lj ⟨_, rfl, (by show 2 ≤ sizeLine; decide), fun t nt => ?_⟩
        have st := same_upd (o := .tup [.int ls[j], .int (j : Nat)]) nt
        have tD : t ≠ D := (ne_of_none hD1 nt).symm
        have ta : t ≠ a := p1'.ne nt
        refine ⟨_, st D _ hD1, ?_, rs ++ [t], ws ++ [(ls[j], ((j : Nat) : Int))], ?_, ?_, ?_, ?_, ?_, ?_, ?_⟩
        · rw [List.length_map]
          exact len_lt (by omega)
        · rw [upd_same, List.map_append]
          rfl
        · refine Each.snoc (hE1.imp fun r _ x e => ?_) ?_
          · rw [upd_ne (fun z => by rw [z, hD1] at e; cases e)]
            exact st r _ e
          · show upd _ D _ t = _
            rw [upd_ne tD, upd_same]
        · intro x hx
          rcases List.mem_append.mp hx with z | z
          · obtain ⟨a1, a2, a3⟩ := rng x z
            exact ⟨a1, a2, by omega⟩
          · rw [List.mem_singleton.mp z]
            refine ⟨?_, by show (0 : Int) ≤ (j : Nat); omega, by show ((j : Nat) : Int) < ((j + 1 : Nat) : Int); omega⟩
            show ls[((j : Nat) : Int).toNat]? = _
            rw [Int.toNat_natCast, List.getElem?_eq_getElem lj]
        · rw [List.pairwise_append]
          refine ⟨up, List.pairwise_singleton .., fun x hx y hy => ?_⟩
          rw [List.mem_singleton.mp hy]
          exact (rng x hx).2.2
        · rw [List.length_append, List.length_singleton]
          omega
        · exact (kf1.trans (.of_same st)).upd nD
        · exact (p1'.upd ta.symm).upd Da.symm
      · exact ⟨rs, ws, hD1, hE1, fun x hx => ⟨(rng x hx).1, (rng x hx).2.1, by have := (rng x hx).2.2; omega⟩, up, by omega, kf1, p1'⟩
    · obtain ⟨rs, ws, hD, hE, rng, up, wl, kf, pF⟩ := hI
      rw [Int.toNat_natCast] at rng
      refine ⟨D, _, rfl, .inl ⟨.inl (.inl hD), fun p np => ?_⟩⟩
      have sp := same_upd (o := .tup (rs.map V.ref)) np
      have pa : p ≠ a := pF.ne np
      exact q p rs ws _ ((kg.trans kf).trans (.of_same sp)) (pF.upd pa.symm) upd_same (hE.same sp) (wish_of pf asc.row.nd rng up)
end
section
/-! ### the first word: mathematics -/
/-- the letters of a word as numbers: words are compared so -/
abbrev kL (e : List Bool) : List Nat := e.map code
def leW (a b : List Bool) : Prop := ¬ kL b < kL a
theorem leW_refl (a : List Bool) : leW a a := List.lt_irrefl _
theorem leW_trans {a b c : List Bool} (h1 : leW a b) (h2 : leW b c) : leW a c := by
  have x : kL a ≤ kL b := List.not_lt.mp h1
  have y : kL b ≤ kL c := List.not_lt.mp h2
  exact List.not_lt.mpr (List.le_trans x y)
theorem leW_cons {a b : List Bool} (c : Bool) (h : leW a b) : leW (c :: a) (c :: b) := fun z => by
  have z2 : (code c :: kL b) < (code c :: kL a) := z
  rw [List.cons_lt_cons_iff] at z2
  rcases z2 with y | ⟨_, y⟩
  · exact Nat.lt_irrefl _ y
  · exact h y
/-- the less of two -/
def minB (x y : List Bool) : List Bool := if kL y < kL x then y else x
theorem minB_l (x y : List Bool) : leW (minB x y) x := by
  unfold minB
  split
  · rename_i h
    exact fun z => List.lt_irrefl _ (List.lt_trans z h)
  · exact leW_refl x
theorem minB_r (x y : List Bool) : leW (minB x y) y := by
  unfold minB
  split
  · exact leW_refl y
  · rename_i h
    exact h
theorem minB_or (x y : List Bool) : minB x y = x ∨ minB x y = y := by
  unfold minB
  split
  · exact .inr rfl
  · exact .inl rfl
def minE (x : List Bool) (l : List (List Bool)) : List Bool := l.foldl minB x
theorem minE_mem : ∀ (l : List (List Bool)) (x : List Bool), minE x l ∈ x :: l
  | [], x => List.mem_singleton.mpr rfl
  | y :: l, x => by
    have h := minE_mem l (minB x y)
    show minE (minB x y) l ∈ _
    rcases List.mem_cons.mp h with z | z
    · rcases minB_or x y with e | e
      · rw [z, e]
        exact List.mem_cons_self ..
      · rw [z, e]
        exact List.mem_cons_of_mem _ (List.mem_cons_self ..)
    · exact List.mem_cons_of_mem _ (List.mem_cons_of_mem _ z)
theorem minE_le : ∀ (l : List (List Bool)) (x u : List Bool), u ∈ x :: l → leW (minE x l) u
  | [], x, u, h => by
    rw [List.mem_singleton.mp h]
    exact leW_refl x
  | y :: l, x, u, h => by
    show leW (minE (minB x y) l) u
    rcases List.mem_cons.mp h with z | z
    · rw [z]
      exact leW_trans (minE_le l _ _ (List.mem_cons_self ..)) (minB_l x y)
    · rcases List.mem_cons.mp z with z | z
      · rw [z]
        exact leW_trans (minE_le l _ _ (List.mem_cons_self ..)) (minB_r x y)
      · exact minE_le l _ _ (List.mem_cons_of_mem _ z)
theorem kL_snoc {a b : List Bool} (hl : a.length = b.length) (h : kL a < kL b) (x y : Bool) : kL (a ++ [x]) < kL (b ++ [y]) := by
  induction a generalizing b with
  | nil =>
    match b, hl with
    | [], _ => exact absurd h (List.lt_irrefl _)
  | cons c a ih =>
    match b, hl with
    | d :: b, hl =>
      have h2 : (code c :: kL a) < (code d :: kL b) := h
      show (code c :: kL (a ++ [x])) < (code d :: kL (b ++ [y]))
      rw [List.cons_lt_cons_iff] at h2 ⊢
      rcases h2 with z | ⟨z, z2⟩
      · exact .inl z
      · exact .inr ⟨z, ih (by simpa using hl) z2⟩
theorem kL_two (a : List Bool) : kL (a ++ [false]) < kL (a ++ [true]) := by
  induction a with
  | nil => decide
  | cons c a ih =>
    show (code c :: kL (a ++ [false])) < (code c :: kL (a ++ [true]))
    rw [List.cons_lt_cons_iff]
    exact .inr ⟨rfl, ih⟩
theorem allC_up : ∀ m : Nat, (allC m).Pairwise fun a b => kL a < kL b
  | 0 => List.pairwise_singleton ..
  | m + 1 => by
    have ih := allC_up m
    have len := allC_mem m
    show ((allC m).flatMap fun w => [w ++ [false], w ++ [true]]).Pairwise _
    have gen : ∀ l : List (List Bool), (∀ u ∈ l, u.length = m) → l.Pairwise (fun a b => kL a < kL b) → (l.flatMap fun w => [w ++ [false], w ++ [true]]).Pairwise fun a b => kL a < kL b := fun l => by
      induction l with
      | nil => intro _ _; exact .nil
      | cons a l ih2 =>
        intro hl hp
        rw [List.pairwise_cons] at hp
        rw [List.flatMap_cons, List.pairwise_append]
        refine ⟨?_, ih2 (fun u hu => hl u (List.mem_cons_of_mem _ hu)) hp.2, fun x hx y hy => ?_⟩
        · rw [List.pairwise_cons]
          refine ⟨fun y hy => ?_, List.pairwise_singleton ..⟩
          rw [List.mem_singleton.mp hy]
          exact kL_two a
        · obtain ⟨v, hv, hz⟩ := List.mem_flatMap.mp hy
          have e : a.length = v.length := (hl a (List.mem_cons_self ..)).trans (hl v (List.mem_cons_of_mem _ hv)).symm
          have k := hp.1 v hv
          have cx : ∃ p, x = a ++ [p] := by
            rcases List.mem_cons.mp hx with z | z
            · exact ⟨_, z⟩
            · exact ⟨_, List.mem_singleton.mp z⟩
          have cy : ∃ p, y = v ++ [p] := by
            rcases List.mem_cons.mp hz with z | z
            · exact ⟨_, z⟩
            · exact ⟨_, List.mem_singleton.mp z⟩
          obtain ⟨p, rfl⟩ := cx
          obtain ⟨r, rfl⟩ := cy
          exact kL_snoc e k p r
    exact gen _ len ih
theorem find_least {f : List Bool → Bool} {x : List Bool} : ∀ {l : List (List Bool)}, l.Pairwise (fun a b => kL a < kL b) → x ∈ l → f x = true → (∀ u ∈ l, f u = true → leW x u) → l.find? f = some x
  | [], _, h, _, _ => nomatch h
  | a :: l, hp, h, fx, le => by
    rw [List.pairwise_cons] at hp
    rw [List.find?_cons]
    by_cases fa : f a = true
    · rw [fa]
      have la := le a (List.mem_cons_self ..) fa
      rcases List.mem_cons.mp h with z | z
      · rw [z]
      · exact absurd (hp.1 x z) la
    · rcases List.mem_cons.mp h with z | z
      · rw [z] at fx
        exact absurd fx fa
      · have e : f a = false := by
          cases q : f a with
          | false => rfl
          | true => exact absurd q fa
        rw [e]
        exact find_least hp.2 z fx fun u hu => le u (List.mem_cons_of_mem _ hu)
/-- how many shorts the letters r (from the last) have placed, where each may stand -/
def pr (ws : List (Int × Int)) (hs : List Int) : Nat → Nat → List Bool → Option Nat
  | _, s, [] => some s
  | 0, _, _ :: _ => none
  | i + 1, s, false :: r => if mayS ws (hs.getD s 0) ((i + 1 : Nat) : Int) then pr ws hs i (s + 1) r else none
  | i + 1, s, true :: r => if mayS ws (hs.getD (s + (i + 1)) 0) ((i + 1 : Nat) : Int) then pr ws hs i s r else none
theorem pr_nil (ws : List (Int × Int)) (hs : List Int) (i s : Nat) : pr ws hs i s [] = some s := by cases i <;> rfl
theorem pr_ok (ws : List (Int × Int)) (hs : List Int) : ∀ (r : List Bool) (i s : Nat), r.length = i → s + i < hs.length → (okL ws (finR r (seg hs s i)) = true ↔ ∃ t, pr ws hs i s r = some t ∧ mayS ws (hs.getD t 0) 0 = true)
  | [], i, s, hr, h => by
    have i0 : i = 0 := hr.symm
    subst i0
    have e := seg_len h
    have f := seg_first h
    rw [finR_one _ e, pr_nil]
    match hz : seg hs s 0, e with
    | [x], _ =>
      have fx : x = hs.getD s 0 := by
        rw [← f]
        simp [hz]
      subst fx
      have e2 : okL ws [hs.getD s 0] = mayS ws (hs.getD s 0) 0 := by
        unfold okL
        simp
      rw [e2]
      exact ⟨fun z => ⟨s, rfl, z⟩, fun ⟨t, z1, z2⟩ => by rw [Option.some.inj z1]; exact z2⟩
  | b :: r, 0, s, hr, h => absurd hr (by simp)
  | b :: r, i + 1, s, hr, h => by
    have rl : r.length = i := by simpa using hr
    have e := seg_len h
    have two : 2 ≤ (seg hs s (i + 1)).length := by omega
    cases b with
    | false =>
      rw [finR_S _ two, okL_snoc, seg_tail, seg_first h, finR_len, seg_len (by omega), Bool.and_eq_true, pr_ok ws hs r i (s + 1) rl (by omega), show pr ws hs (i + 1) s (false :: r) = if mayS ws (hs.getD s 0) ((i + 1 : Nat) : Int) then pr ws hs i (s + 1) r else none from rfl]
      by_cases c : mayS ws (hs.getD s 0) ((i + 1 : Nat) : Int) = true
      · rw [if_pos c]
        exact ⟨fun z => z.1, fun z => ⟨z, c⟩⟩
      · rw [if_neg c]
        exact ⟨fun z => absurd z.2 c, fun ⟨t, z, _⟩ => nomatch z⟩
    | true =>
      rw [finR_T _ two, okL_snoc, seg_init h, seg_last h, finR_len, seg_len (by omega), Bool.and_eq_true, pr_ok ws hs r i s rl (by omega), show pr ws hs (i + 1) s (true :: r) = if mayS ws (hs.getD (s + (i + 1)) 0) ((i + 1 : Nat) : Int) then pr ws hs i s r else none from rfl]
      by_cases c : mayS ws (hs.getD (s + (i + 1)) 0) ((i + 1 : Nat) : Int) = true
      · rw [if_pos c]
        exact ⟨fun z => z.1, fun z => ⟨z, c⟩⟩
      · rw [if_neg c]
        exact ⟨fun z => absurd z.2 c, fun ⟨t, z, _⟩ => nomatch z⟩
/-- one letter more, ahead of the others -/
theorem pr_snoc (ws : List (Int × Int)) (hs : List Int) : ∀ (r : List Bool) (i k s t : Nat) (b : Bool), i = r.length + (k + 1) → (pr ws hs i s (r ++ [b]) = some t ↔ ∃ q, pr ws hs i s r = some q ∧ pr ws hs (k + 1) q [b] = some t)
  | [], i, k, s, t, b, hi => by
    have e : i = k + 1 := by simpa using hi
    subst e
    exact ⟨fun z => ⟨s, pr_nil .., z⟩, fun ⟨q, z1, z2⟩ => by rw [pr_nil] at z1; rw [Option.some.inj z1]; exact z2⟩
  | c :: r, 0, k, s, t, b, hi => absurd hi (by simp)
  | c :: r, i + 1, k, s, t, b, hi => by
    have e : i = r.length + (k + 1) := by
      rw [List.length_cons] at hi
      omega
    have h1 := pr_snoc ws hs r i k (s + 1) t b e
    have h2 := pr_snoc ws hs r i k s t b e
    cases c with
    | false =>
      have e1 : pr ws hs (i + 1) s (false :: r ++ [b]) = if mayS ws (hs.getD s 0) ((i + 1 : Nat) : Int) then pr ws hs i (s + 1) (r ++ [b]) else none := rfl
      have e2 : pr ws hs (i + 1) s (false :: r) = if mayS ws (hs.getD s 0) ((i + 1 : Nat) : Int) then pr ws hs i (s + 1) r else none := rfl
      rw [e1, e2]
      split
      · exact h1
      · exact ⟨(fun z => nomatch z), fun ⟨q, z, _⟩ => nomatch z⟩
    | true =>
      have e1 : pr ws hs (i + 1) s (true :: r ++ [b]) = if mayS ws (hs.getD (s + (i + 1)) 0) ((i + 1 : Nat) : Int) then pr ws hs i s (r ++ [b]) else none := rfl
      have e2 : pr ws hs (i + 1) s (true :: r) = if mayS ws (hs.getD (s + (i + 1)) 0) ((i + 1 : Nat) : Int) then pr ws hs i s r else none := rfl
      rw [e1, e2]
      split
      · exact h2
      · exact ⟨(fun z => nomatch z), fun ⟨q, z, _⟩ => nomatch z⟩
end
section
theorem allC_all : ∀ (m : Nat) (u : List Bool), u.length = m → u ∈ allC m
  | 0, u, h => by rw [List.length_eq_zero_iff.mp h]; exact List.mem_singleton.mpr rfl
  | m + 1, u, h => by
    obtain ⟨v, b, rfl⟩ := snoc_of (show 1 ≤ u.length by omega)
    rw [List.length_append, List.length_singleton] at h
    refine List.mem_flatMap.mpr ⟨v, allC_all m v (by omega), ?_⟩
    cases b <;> simp
end
section
/-! ### the first words of all ends -/
theorem steps_pr (ws : List (Int × Int)) (hs : List Int) (k q t : Nat) (b : Bool) : (b, t) ∈ stepsL ws hs (k + 1) q ↔ pr ws hs (k + 1) q [b] = some t := by
  unfold stepsL
  rw [List.mem_append]
  cases b with
  | false =>
    have e : pr ws hs (k + 1) q [false] = if mayS ws (hs.getD q 0) ((k + 1 : Nat) : Int) then some (q + 1) else none := by
      rw [← pr_nil ws hs k (q + 1)]
      rfl
    rw [e]
    split
    · constructor
      · rintro (h | h)
        · exact congrArg some (congrArg Prod.snd (List.mem_singleton.mp h)).symm
        · split at h
          · exact Bool.noConfusion (congrArg Prod.fst (List.mem_singleton.mp h))
          · cases h
      · intro h
        exact .inl (List.mem_singleton.mpr (by rw [Option.some.inj h]))
    · constructor
      · rintro (h | h)
        · cases h
        · split at h
          · exact Bool.noConfusion (congrArg Prod.fst (List.mem_singleton.mp h))
          · cases h
      · intro h
        cases h
  | true =>
    have e : pr ws hs (k + 1) q [true] = if mayS ws (hs.getD (q + (k + 1)) 0) ((k + 1 : Nat) : Int) then some q else none := by
      rw [← pr_nil ws hs k q]
      rfl
    rw [e]
    constructor
    · rintro (h | h)
      · split at h
        · exact Bool.noConfusion (congrArg Prod.fst (List.mem_singleton.mp h))
        · cases h
      · split at h
        · rename_i c
          rw [if_pos c]
          exact congrArg some (congrArg Prod.snd (List.mem_singleton.mp h)).symm
        · cases h
    · intro h
      split at h
      · rename_i c
        rw [if_pos c]
        exact .inr (List.mem_singleton.mpr (by rw [Option.some.inj h]))
      · cases h
theorem look_idx {α : Type} : ∀ {d : List (Nat × α)} {s : Nat} {v : α}, lookD d s = some v → ∃ i : Nat, d[i]? = some (s, v)
  | [], _, _, h => nomatch h
  | (k, u) :: d, s, v, h => by
    unfold lookD at h
    split at h
    · rename_i e
      exact ⟨0, by rw [← Option.some.inj h, e]; rfl⟩
    · obtain ⟨i, hi⟩ := look_idx h
      exact ⟨i + 1, hi⟩
/-- for each number of shorts the first of the ends of t letters -/
structure Best (ws : List (Int × Int)) (hs : List Int) (m t : Nat) (d : List (Nat × List Bool)) : Prop where
  is : ∀ s e, lookD d s = some e → e.length = t ∧ pr ws hs m 0 e.reverse = some s
  le : ∀ s e, e.length = t → pr ws hs m 0 e.reverse = some s → ∃ e', lookD d s = some e' ∧ leW e' e
theorem best_0 (ws : List (Int × Int)) (hs : List Int) (m : Nat) : Best ws hs m 0 [(0, [])] := by
  refine ⟨fun s e h => ?_, fun s e h1 h2 => ?_⟩
  · unfold lookD at h
    split at h
    · rename_i c
      rw [← Option.some.inj h]
      exact ⟨rfl, by rw [← c]; exact pr_nil ..⟩
    · cases h
  · have e0 : e = [] := List.length_eq_zero_iff.mp h1
    subst e0
    rw [List.reverse_nil, pr_nil] at h2
    refine ⟨[], ?_, leW_refl _⟩
    rw [← Option.some.inj h2]
    rfl
theorem best_new {ws : List (Int × Int)} {hs : List Int} {m t k s q : Nat} {d : List (Nat × List Bool)} {e0 : List Bool} {b : Bool} (hB : Best ws hs m t d) (hm : m = t + (k + 1)) (h : lookD d s = some e0) (st : (b, q) ∈ stepsL ws hs (k + 1) s) : (b :: e0).length = t + 1 ∧ pr ws hs m 0 (b :: e0).reverse = some q := by
  obtain ⟨l, p⟩ := hB.is s e0 h
  refine ⟨by rw [List.length_cons, l], ?_⟩
  rw [List.reverse_cons]
  exact (pr_snoc ws hs e0.reverse m k 0 q b (by rw [List.length_reverse, l, hm])).mpr ⟨s, p, (steps_pr ..).mp st⟩
theorem best_step {ws : List (Int × Int)} {hs : List Int} {m t k : Nat} {d f : List (Nat × List Bool)} (hB : Best ws hs m t d) (hm : m = t + (k + 1)) (A : ∀ q e, lookD f q = some e → e.length = t + 1 ∧ pr ws hs m 0 e.reverse = some q)
    (B : ∀ (j s : Nat) (e0 : List Bool), d[j]? = some (s, e0) → ∀ x ∈ stepsL ws hs (k + 1) s, ∃ e', lookD f x.2 = some e' ∧ leW e' (x.1 :: e0)) : Best ws hs m (t + 1) f := by
  refine ⟨A, fun q e h1 h2 => ?_⟩
  match e, h1 with
  | b :: e1, h1 =>
    have l1 : e1.length = t := by simpa using h1
    rw [List.reverse_cons] at h2
    obtain ⟨s, p1, p2⟩ := (pr_snoc ws hs e1.reverse m k 0 q b (by rw [List.length_reverse, l1, hm])).mp h2
    obtain ⟨e0, h0, le0⟩ := hB.le s e1 l1 p1
    obtain ⟨j, hj⟩ := look_idx h0
    obtain ⟨e', h', le'⟩ := B j s e0 hj (b, q) ((steps_pr ..).mpr p2)
    exact ⟨e', h', leW_trans le' (leW_cons b le0)⟩
/-- the ends that may stand, in the order of the dict -/
def endsL (ws : List (Int × Int)) (hs : List Int) (d : List (Nat × List Bool)) : List (List Bool) := (d.filter fun x => mayS ws (hs.getD x.1 0) 0).map (·.2)
def firstW (ws : List (Int × Int)) (hs : List Int) (m : Nat) : Option (List Bool) := (allC m).find? fun u => hasW ws (finR u.reverse hs)
theorem first_is {ws : List (Int × Int)} {hs : List Int} {m : Nat} {d : List (Nat × List Bool)} (hB : Best ws hs m m d) (nd : (d.map (·.1)).Nodup) (wi : Wish hs ws) (ndh : hs.Nodup) (hl : hs.length = m + 1) (all : ∀ u : List Bool, u.length = m → u ∈ allC m) (pf : ∀ u ∈ allC m, (finR u.reverse hs).Perm hs) :
    (endsL ws hs d = [] → firstW ws hs m = none) ∧ ∀ y ys, endsL ws hs d = y :: ys → firstW ws hs m = some (minE y ys) := by
  have sg : seg hs 0 m = hs := by
    unfold seg
    rw [List.drop_zero, List.take_of_length_le (by omega)]
  have key : ∀ u : List Bool, u.length = m → (hasW ws (finR u.reverse hs) = true ↔ ∃ t, pr ws hs m 0 u.reverse = some t ∧ mayS ws (hs.getD t 0) 0 = true) := fun u hu => by
    rw [has_ok wi (pf u (all u hu)) ndh, ← pr_ok ws hs u.reverse m 0 (by rw [List.length_reverse, hu]) (by omega), sg]
  have down : ∀ u : List Bool, u.length = m → hasW ws (finR u.reverse hs) = true → ∃ e ∈ endsL ws hs d, leW e u := fun u hu h => by
    obtain ⟨t, p, q⟩ := (key u hu).mp h
    obtain ⟨e, he, le⟩ := hB.le t u hu p
    obtain ⟨j, hj⟩ := look_idx he
    exact ⟨e, List.mem_map.mpr ⟨(t, e), List.mem_filter.mpr ⟨List.mem_of_getElem? hj, q⟩, rfl⟩, le⟩
  have up : ∀ e ∈ endsL ws hs d, e.length = m ∧ hasW ws (finR e.reverse hs) = true := fun e he => by
    obtain ⟨x, hx, rfl⟩ := List.mem_map.mp he
    obtain ⟨hx1, hx2⟩ := List.mem_filter.mp hx
    obtain ⟨j, hj⟩ := List.mem_iff_getElem?.mp hx1
    obtain ⟨l, p⟩ := hB.is x.1 x.2 (look_get nd (i := j) hj)
    exact ⟨l, (key x.2 l).mpr ⟨x.1, p, hx2⟩⟩
  constructor
  · intro e0
    unfold firstW
    rw [List.find?_eq_none]
    intro u hu h
    obtain ⟨e, he, _⟩ := down u (allC_mem m u hu) h
    rw [e0] at he
    cases he
  · intro y ys e0
    have mem : minE y ys ∈ endsL ws hs d := by
      rw [e0]
      exact minE_mem ys y
    obtain ⟨l, h⟩ := up _ mem
    refine find_least (allC_up m) (all _ l) h fun u hu hh => ?_
    obtain ⟨e, he, le⟩ := down u (allC_mem m u hu) hh
    rw [e0] at he
    exact leW_trans (minE_le ys y e he) le
end
section
variable {P : Program} {w : World} {K : PySem.W.Frag} {mg : Str → Option Value} {base : Heap}
/-! ### the first word -/
def oV : Option (List Bool) → V
  | none => .non
  | some w => wV w
theorem kvE_get {d : List (Nat × List Bool)} {i : Nat} {k : Key} {v : V} (h : (kvD wV d)[i]? = some (k, v)) : ∃ (s : Nat) (e : List Bool), d[i]? = some (s, e) ∧ k = Sum.inl ((s : Nat) : Int) ∧ v = wV e := by
  unfold kvD at h
  rw [List.getElem?_map] at h
  obtain ⟨x, hx, e⟩ := Option.map_eq_some_iff.mp h
  exact ⟨x.1, x.2, hx, (congrArg Prod.fst e).symm, (congrArg Prod.snd e).symm⟩
theorem wd_key (e : List Bool) : (wd e).cps.toList = kL e := rfl
theorem min_wd (x y : List Bool) : (if (wd y).cps.toList < (wd x).cps.toList then wd y else wd x) = wd (minB x y) := by
  unfold minB
  rw [wd_key, wd_key]
  split <;> rfl
theorem minOf_wd : ∀ (l : List (List Bool)) (x : List Bool), PySem.W.minOf (wd x) (l.map wd) = wd (minE x l)
  | [], x => rfl
  | y :: l, x => by
    have e : PySem.W.minOf (wd x) ((y :: l).map wd) = PySem.W.minOf (wd (minB x y)) (l.map wd) := by
      show PySem.W.minOf (if decide ((wd y).cps.toList < (wd x).cps.toList) = true then wd y else wd x) (l.map wd) = _
      rw [← min_wd]
      congr 1
      simp only [decide_eq_true_eq]
    rw [e, minOf_wd l (minB x y)]
    rfl
theorem getD_wV (o : Option (List Bool)) (w : List Bool) : (o.map wV).getD (wV w) = wV (o.getD w) := by cases o <;> rfl
theorem ltr_cons (b : Bool) (e : List Bool) : ltr b ++ wd e = wd (b :: e) := wd_app [b] e
abbrev s_first_word : Stmt := top 50
abbrev N_first_word : List Str := ["heights", "wishes", "ends", "index", "following", "shorts", "kind", "reached", "word"]
theorem sc_first_word : FnScope N_first_word ["heights", "wishes"] (defScope s_first_word) := ⟨rfl, rfl, rfl, by decide +kernel, rfl, by decide +kernel, by decide +kernel⟩
def spFirstW (K : PySem.W.Frag) : Sp := fun vs H Q _ => ∃ (a b : Addr) (hs : List Int) (ws : List (Int × Int)), vs = [.ref a, .ref b] ∧ SqT K H a (hs.map V.int) ∧ WsAt K H b ws ∧ Asc hs ∧ Wish hs ws ∧ ∀ H', Same H H' → Q (oV (firstW ws hs (hs.length - 1))) H'
theorem ok_firstw (D : Df K mg "first_word" s_first_word) (c_check_wishes : Cl P w K mg base 6 "check_wishes" s_check_wishes ["heights", "wishes"] (spCheckW K)) (c_next_steps : Cl P w K mg base 2 "next_steps" s_next_steps ["heights", "wishes", "index", "shorts"] (spSteps K)) (c_may_stand : Cl P w K mg base 1 "may_stand" s_may_stand ["person", "index", "wishes"] (spMayS K))
    (m_range : mg "range" = none) (m_len : mg "len" = none) (m_min : mg "min" = none) : Cl P w K mg base 7 "first_word" s_first_word ["heights", "wishes"] (spFirstW K) := by
  refine D.ok sc_first_word (fun _ _ _ _ _ _ us hl => match us, hl with | [_, _], _ => rfl) (fun vs H Q E h => ?_) (fun f cdv A outer s H vs Q E hr h => ?_)
  · obtain ⟨a, b, hs, ws, rfl, _⟩ := h
    rfl
  · obtain ⟨a, b, hs, ws, rfl, hS, hW, asc, wi, q⟩ := h
    refine ⟨_, 
      (pss_cons (ps_expr (pe_u c_check_wishes hr (by omega) (by rfl) (pa_cons (pv 0) (pa_cons (pv 1) pa_nil)))) 
      (pss_cons (ps_set (i := 2) sc_first_word.nd rfl (Or.inr rfl) (pe_disp (pps_cons pe_int pe_str pps_nil) rfl rfl (by simp) (by decide))) 
      (pss_cons (ps_for PassesOwn.never rfl (pi_range3 (by rfl) m_range (pa_cons (pe_op op_sub (pe_callB call_lenS (by rfl) m_len (by decide +kernel) (pa_cons (pv 0) pa_nil)) pe_int) (pa_cons pe_int (pa_cons (pe_un un_neg pe_int) pa_nil)))) (pg_name (i := 3) sc_first_word.nd rfl (Or.inl rfl)) (pss_cons (ps_set (i := 4) sc_first_word.nd rfl (Or.inl rfl) pe_dnewK) (pss_cons (ps_lock (ps_for PassesOwn.never rfl (pi_keys (pv 2)) (pg_name (i := 5) sc_first_word.nd rfl (Or.inl rfl)) (pss_one (ps_for PassesOwn.never rfl (pi_list (pe_u c_next_steps hr (by omega) (by rfl) (pa_cons (pv 0) (pa_cons (pv 1) (pa_cons (pv 3) (pa_cons (pv 5) pa_nil)))))) (pg_tup (by rfl) (pgs_cons (pg_name (i := 6) sc_first_word.nd rfl (Or.inl rfl)) (pgs_cons (pg_name (i := 7) sc_first_word.nd rfl (Or.inl rfl)) pgs_nil))) (pss_cons (ps_set (i := 8) sc_first_word.nd rfl (Or.inl rfl) (pe_op op_add_str (pv 6) (pe_dget (uni hr) (pv 2) (pv 5) (fun _ _ => rfl)))) (pss_one (ps_dput (uni hr) (pv 4) (pv 7) (pe_callB (call_min2S rfl) (by rfl) m_min (by decide +kernel) (pa_cons (pv 8) (pa_cons (pe_dget2 (uni hr) (pv 4) (pv 7) (pv 8) ⟨rfl, rfl, rfl, rfl⟩) pa_nil))) (by rfl)))))))) (pss_one (ps_set (i := 2) sc_first_word.nd rfl (Or.inr rfl) (pv 4)))))) 
      (pss_one (ps_ret (pe_callBK (call_minD rfl (uni hr)) (by rfl) m_min (by decide +kernel) (pa_cons (pe_lock (pe_lc (own := [("shorts", 5)]) (g := gName 5) (te := (tDGet (tVar 2) (tVar 5))) (tt := (tB (tCall (spMayS K) [] E0 (tCons (tOp (rIxT K) (tVar 0) (tVar 5)) (tCons (tC _) (tCons (tVar 1) tNil)))))) rfl sc_first_word.nd (pi_keys (pv 2)) (blkOk_by (own := [("shorts", 5)]) (N := N_first_word) (sc := (defScope s_first_word)) (by decide +kernel)) (fun _ _ _ _ _ => (pg_name (i := 5) sc_first_word.nd rfl (Or.inl rfl))) (fun _ _ _ _ _ => pts_one (pt_val (pe_u c_may_stand hr (by omega) (by rfl) (pa_cons (pe_ix ix_tup (pv 0) (pv 5) (fun _ _ => rfl)) (pa_cons pe_int (pa_cons (pv 1) pa_nil)))))) (fun _ _ _ _ _ => (pe_dget (uni hr) (pv 2) (pv 5) (fun _ _ => rfl))))) pa_nil) (pk_cons pe_non pk_nil))))))), ?_⟩
    have pos := asc.row.pos
    have most := asc.row.most
    have wl := wish_len wi
    obtain ⟨m, hm⟩ : ∃ m, hs.length = m + 1 := ⟨hs.length - 1, by omega⟩
    rw [show hs.length - 1 = m by omega] at q
    refine ⟨_, rfl, _, rfl, a, b, hs, ws, rfl, hS, hW, asc, wi, fun H1 s1 => ?_⟩
    refine fun wy nw => ⟨upd_same, [(Sum.inl ((0 : Nat) : Int), wV [])], rfl, by decide, ?_⟩
    rw [upd_upd, show mergeK [] [((Sum.inl ((0 : Nat) : Int) : Key), wV [])] = kvD wV [(0, [])] from rfl]
    have nw0 : H wy = none := s1.free nw
    have s2 : Same H (upd H1 wy (.dK (kvD wV [(0, [])]))) := s1.trans (same_upd nw)
    refine ⟨_, rfl, a, _, rfl, .inr (SqT.same s2 hS), _, _, rfl, rfl, _, rfl, (m : Nat), 0, -1, m, ?_, ?_, ?_⟩
    · show [V.int (((hs.map V.int).length : Nat) - 1), V.int 0, V.int (-1)] = _
      rw [List.length_map, hm, show (((m + 1 : Nat) : Int)) - 1 = (m : Nat) by omega]
    · have z := RgC.neg (i := ((m : Nat) : Int)) (j := 0) (by omega) (by omega) (by decide) (by decide)
      rw [show ((((m : Nat) : Int)) - 0).toNat = m by omega] at z
      exact z
    refine for_rangeC (lo := ((m : Nat) : Int)) (c := -1) (n := m) (fun t σ G => ∃ (wy : Addr) (d : List (Nat × List Bool)) (y1 y2 y3 y4 y5 y6 : Option V), σ = [some (.ref a), some (.ref b), some (.ref wy), y1, y2, y3, y4, y5, y6] ∧ Same H G ∧ H wy = none ∧ G wy = some (.dK (kvD wV d)) ∧ (d.map (·.1)).Nodup ∧ (∀ k ∈ d.map (·.1), k ≤ t) ∧ d.length ≤ 2 ^ t ∧ Best ws hs m t d)
      ⟨wy, [(0, [])], none, none, none, none, none, none, rfl, s2, nw0, upd_same, by simp, by simp, Nat.le_refl _, best_0 ws hs m⟩ (fun t σ G ht hI => ?_) (fun σ G hI => ?_)
    · obtain ⟨wy, d, y1, y2, y3, y4, y5, y6, rfl, sm, nw, hw, nd, kb, dl, hB⟩ := hI
      have ap : 2 ^ t ≤ 2 ^ 11 := Nat.pow_le_pow_right (by decide) (by omega)
      obtain ⟨i, hi⟩ : ∃ i, m = t + (i + 1) := ⟨m - t - 1, by omega⟩
      have ei : (((m : Nat) : Int)) + ((t : Nat) : Int) * -1 = ((i + 1 : Nat) : Int) := by omega
      rw [ei]
      refine fun fy nf => ?_
      have wf : wy ≠ fy := ne_of_none hw nf
      have nf0 : H fy = none := sm.free nf
      refine ⟨wy, _, (upd_ne wf).trans hw, trivial, fun od => ?_⟩
      refine ⟨_, rfl, wy, od, rfl, .inl ⟨_, upd_same, ?_⟩⟩
      refine for_it walk_keys (fun j σ F => ∃ (f : List (Nat × List Bool)) (y3 y4 y5 y6 : Option V), σ = [some (.ref a), some (.ref b), some (.ref wy), some (.int ((i + 1 : Nat) : Int)), some (.ref fy), y3, y4, y5, y6] ∧ Same H F ∧ F wy = some (.frz od (.dK (kvD wV d))) ∧ F fy = some (.dK (kvD wV f)) ∧ (f.map (·.1)).Nodup ∧ (∀ k ∈ f.map (·.1), k ≤ t + 1) ∧ f.length ≤ 2 * j ∧ (∀ q e, lookD f q = some e → e.length = t + 1 ∧ pr ws hs m 0 e.reverse = some q) ∧ (∀ (j0 s : Nat) (e0 : List Bool), j0 < j → d[j0]? = some (s, e0) → ∀ x ∈ stepsL ws hs (i + 1) s, ∃ e', lookD f x.2 = some e' ∧ leW e' (x.1 :: e0)))
        ⟨[], _, _, _, _, rfl, ?_, upd_same, (upd_ne wf.symm).trans upd_same, List.nodup_nil, (fun k hk => nomatch hk), Nat.zero_le _, (fun q e h => nomatch h), (fun j0 s e0 h => absurd h (Nat.not_lt_zero _))⟩ (fun j σ F _ hK => ?_) (fun j x σ F F' hj hK hY => ?_) (fun σ F hK => ?_)
      · intro c o e
        rw [upd_ne (ne_of_none e nw), upd_ne (ne_of_none e nf0)]
        exact sm c o e
      · obtain ⟨f, y3, y4, y5, y6, rfl, _, hw2, _⟩ := hK
        exact hw2
      · obtain ⟨f, y3, y4, y5, y6, rfl, sF, hw2, hf2, ndf, kbf, fl, fA, fB⟩ := hK
        obtain ⟨rfl, k, v, hkv, rfl⟩ := hY
        obtain ⟨s, e0, hd, rfl, rfl⟩ := kvE_get hkv
        have sk : s ≤ t := kb s (List.mem_map.mpr ⟨_, List.mem_of_getElem? hd, rfl⟩)
        have jl : j < d.length := (List.getElem?_eq_some_iff.mp hd).1
        have lk := look_get nd hd
        have el := (hB.is s e0 lk).1
        refine ⟨_, rfl, _, rfl, _, rfl, _, rfl, a, b, hs, ws, i + 1, s, rfl, SqT.same sF hS, hW.same sF, by omega, by omega, fun p rs F1 s1' np hp hst => ?_⟩
        refine ⟨p, rfl, ⟨_, .inl (.inl hp)⟩, ?_⟩
        have pf : p ≠ fy := (ne_of_none hf2 np).symm
        have stl := hst.len
        have sl2 : (stepsL ws hs (i + 1) s).length ≤ 2 := by
          unfold stepsL
          rw [List.length_append]
          split <;> split <;> simp
        refine for_list (xs := rs.map V.ref) (fun z σ F2 => ∃ (f2 : List (Nat × List Bool)) (y4 y5 y6 : Option V), σ = [some (.ref a), some (.ref b), some (.ref wy), some (.int ((i + 1 : Nat) : Int)), some (.ref fy), some (.int ((s : Nat) : Int)), y4, y5, y6] ∧ Same H F2 ∧ F2 wy = some (.frz od (.dK (kvD wV d))) ∧ F2 fy = some (.dK (kvD wV f2)) ∧ (f2.map (·.1)).Nodup ∧ (∀ k ∈ f2.map (·.1), k ≤ t + 1) ∧ f2.length ≤ 2 * j + z ∧ (∀ q e, lookD f2 q = some e → e.length = t + 1 ∧ pr ws hs m 0 e.reverse = some q) ∧ (∀ (j0 s : Nat) (e0 : List Bool), j0 < j → d[j0]? = some (s, e0) → ∀ x ∈ stepsL ws hs (i + 1) s, ∃ e', lookD f2 x.2 = some e' ∧ leW e' (x.1 :: e0)) ∧ (∀ x ∈ (stepsL ws hs (i + 1) s).take z, ∃ e', lookD f2 x.2 = some e' ∧ leW e' (x.1 :: e0)) ∧ F2 p = some (.lst (rs.map V.ref)) ∧ StAt F2 rs (stepsL ws hs (i + 1) s))
          ⟨f, _, _, _, rfl, sF.trans s1', s1' _ _ hw2, s1' _ _ hf2, ndf, kbf, fl, fA, fB, (fun x hx => nomatch hx), hp, hst⟩ (fun z σ F2 _ hL => ?_) (fun z x σ F2 hx hL => ?_) (fun σ F2 hL => ?_)
        · obtain ⟨f2, y4, y5, y6, rfl, _, _, _, _, _, _, _, _, _, hp2, _⟩ := hL
          exact .inl (.inl hp2)
        · obtain ⟨f2, y4, y5, y6, rfl, sF2, hw3, hf3, nd3, kb3, fl3, fA3, fB3, fC3, hp3, st3⟩ := hL
          rw [List.getElem?_map] at hx
          obtain ⟨r, hr3, rfl⟩ := Option.map_eq_some_iff.mp hx
          obtain ⟨⟨kd, q2⟩, hx2, hx3⟩ := st3.get hr3
          have mem := List.mem_of_getElem? hx2
          have q2b : q2 ≤ t + 1 := by
            unfold stepsL at mem
            rcases List.mem_append.mp mem with y | y
            · split at y
              · have := congrArg Prod.snd (List.mem_singleton.mp y)
                simp at this
                omega
              · cases y
            · split at y
              · have := congrArg Prod.snd (List.mem_singleton.mp y)
                simp at this
                omega
              · cases y
          refine ⟨r, _, rfl, .inl (.inl hx3), rfl, _, _, rfl, _, _, rfl, rfl, ?_⟩
          have g1 : DGet F2 fy (.int ((q2 : Nat) : Int)) ((lookD f2 q2).map wV) := .inl ⟨_, Sum.inl ((q2 : Nat) : Int), .inl hf3, rfl, (val_kvD wV f2 q2).symm⟩
          have g2 : DGet F2 wy (.int ((s : Nat) : Int)) (some (wV e0)) := .inl ⟨_, Sum.inl ((s : Nat) : Int), .inr ⟨od, hw3⟩, rfl, by rw [val_kvD, lk]; rfl⟩
          have zl : z < rs.length := (List.getElem?_eq_some_iff.mp hr3).1
          have nw2 := best_new hB hi lk mem
          have p3 : DPut F2 fy (.int ((q2 : Nat) : Int)) (wV (minB (kd :: e0) ((lookD f2 q2).getD (kd :: e0)))) (upd F2 fy (.dK (kvD wV (addD (fun o => minB (kd :: e0) (o.getD (kd :: e0))) f2 q2)))) := by
            have e := put_kvD wV (fun o => minB (kd :: e0) (o.getD (kd :: e0))) f2 q2 nd3
            rw [← e]
            refine DPut.k (k := Sum.inl ((q2 : Nat) : Int)) hf3 ?_
            unfold kvD
            rw [List.length_map]
            exact len_lt (by omega)
          refine ⟨_, rfl, _, rfl, _, rfl, wy, _, rfl, g2, _, _, rfl, rfl, ?_, ?_⟩
          · rw [wd_len, el]
            exact Nat.le_of_lt (len_lt (by show 1 + t ≤ _; omega))
          rw [ltr_cons]
          refine ⟨_, rfl, _, rfl, fy, rfl, .inl ⟨_, .inl hf3⟩, _, rfl, _, rfl, _, g1, ?_⟩
          rw [getD_wV]
          refine ⟨_, _, rfl, ?_⟩
          rw [min_wd]
          refine ⟨_, rfl, _, rfl, fy, _, rfl, p3, ?_⟩
          have rf : ∀ {r2 : Addr} {ys : List V}, F2 r2 = some (.tup ys) → r2 ≠ fy := fun {r2 ys} e z => by
            rw [z, hf3] at e
            cases e
          have keep : ∀ {c : Bool} {q3 : Nat} {e1 : List Bool}, (∃ e', lookD f2 q3 = some e' ∧ leW e' (c :: e1)) → ∃ e', lookD (addD (fun o => minB (kd :: e0) (o.getD (kd :: e0))) f2 q2) q3 = some e' ∧ leW e' (c :: e1) := fun {c q3 e1} ⟨e', h1, h2⟩ => by
            rw [look_add]
            split
            · rename_i ee
              rw [← ee, h1]
              exact ⟨_, rfl, leW_trans (minB_r _ _) h2⟩
            · exact ⟨e', h1, h2⟩
          refine ⟨_, _, _, _, rfl, fun c o e => ?_, (upd_ne wf).trans hw3, upd_same, add_nodup nd3, fun k hk => ?_, ?_, fun q3 e1 h1 => ?_, fun j0 s0 e1 hj0 hd0 x hx => keep (fB3 j0 s0 e1 hj0 hd0 x hx), fun x hx => ?_, (upd_ne pf).trans hp3, st3.imp fun r2 _ x e => (upd_ne (rf e)).trans e⟩
          · rw [upd_ne (ne_of_none e nf0)]
            exact sF2 c o e
          · rcases add_key hk with y | y
            · exact kb3 k y
            · omega
          · have := add_len (fun o : Option (List Bool) => minB (kd :: e0) (o.getD (kd :: e0))) f2 q2
            omega
          · rw [look_add] at h1
            split at h1
            · rename_i ee
              rw [← Option.some.inj h1, ee]
              rcases minB_or (kd :: e0) ((lookD f2 q2).getD (kd :: e0)) with y | y
              · rw [y]
                exact nw2
              · rw [y]
                cases ho : lookD f2 q2 with
                | none => exact nw2
                | some e2 => exact fA3 q2 e2 ho
            · exact fA3 q3 e1 h1
          · rw [List.take_add_one, hx2] at hx
            rcases List.mem_append.mp hx with y | y
            · exact keep (fC3 x y)
            · have ex : x = (kd, q2) := List.mem_singleton.mp y
              rw [ex, look_add, if_pos rfl]
              exact ⟨_, rfl, minB_l _ _⟩
        · obtain ⟨f2, y4, y5, y6, rfl, sF2, hw3, hf3, nd3, kb3, fl3, fA3, fB3, fC3, hp3, st3⟩ := hL
          rw [List.length_map, stl, List.take_length] at fC3
          rw [List.length_map] at fl3
          refine ⟨f2, _, _, _, _, rfl, sF2, hw3, hf3, nd3, kb3, by omega, fA3, fun j0 s0 e1 hj0 hd0 x hx => ?_⟩
          by_cases ej : j0 = j
          · subst ej
            have ee := Option.some.inj (hd0.symm.trans hd)
            have e1e : s0 = s := congrArg Prod.fst ee
            have e2e : e1 = e0 := congrArg Prod.snd ee
            rw [e1e] at hx
            rw [e2e]
            exact fC3 x hx
          · exact fB3 j0 s0 e1 (by omega) hd0 x hx
      · obtain ⟨f, y3, y4, y5, y6, rfl, sF, hw2, hf2, ndf, kbf, fl, fA, fB⟩ := hK
        have kl : (kvD wV d).length = d.length := by
          unfold kvD
          rw [List.length_map]
        rw [kl] at fl fB
        refine ⟨hw2, _, rfl, fy, f, _, _, _, _, _, _, rfl, fun c o e => ?_, nf0, (upd_ne wf.symm).trans hf2, ndf, kbf, ?_, ?_⟩
        · rw [upd_ne (ne_of_none e nw)]
          exact sF c o e
        · rw [Nat.pow_succ]
          omega
        · exact best_step hB hi fA fun j0 s0 e1 hd0 => fB j0 s0 e1 (List.getElem?_eq_some_iff.mp hd0).1 hd0
    · obtain ⟨wy, d, y1, y2, y3, y4, y5, y6, rfl, sm, nw, hw, nd, kb, dl, hB⟩ := hI
      have ap : 2 ^ m ≤ 2 ^ 11 := Nat.pow_le_pow_right (by decide) (by omega)
      refine ⟨wy, _, hw, trivial, fun od => ?_⟩
      refine ⟨_, rfl, wy, od, rfl, .inl ⟨_, upd_same, fun D nD => ?_⟩⟩
      have wD : wy ≠ D := ne_of_none upd_same nD
      have nD0 : G D = none := by
        rw [upd_ne wD.symm] at nD
        exact nD
      refine lc_it walk_keys (fun j F => Same H F ∧ F wy = some (.frz od (.dK (kvD wV d))) ∧ F D = some (.lst ((endsL ws hs (d.take j)).map wV)))
        ⟨fun c o e => ?_, (upd_ne wD).trans upd_same, upd_same⟩ (fun j F _ hK => hK.2.1) (fun j x F F' hj hK hY => ?_) (fun F hK => ?_)
      · rw [upd_ne (ne_of_none e (sm.free nD0)), upd_ne (ne_of_none e nw)]
        exact sm c o e
      · obtain ⟨sF, hw2, hD⟩ := hK
        obtain ⟨rfl, k, v, hkv, rfl⟩ := hY
        obtain ⟨s, e0, hd, rfl, rfl⟩ := kvE_get hkv
        have sk : s ≤ m := kb s (List.mem_map.mpr ⟨_, List.mem_of_getElem? hd, rfl⟩)
        have jl : j < d.length := (List.getElem?_eq_some_iff.mp hd).1
        refine ⟨rfl, _, rfl, _, rfl, a, _, _, _, rfl, rfl, SqT.same sF hS, atD (by omega), _, rfl, _, _, b, ws, rfl, hW.same sF, by omega, fun F1 s1' => ⟨_, rfl, ?_⟩⟩
        have et : endsL ws hs (d.take (j + 1)) = endsL ws hs (d.take j) ++ (if mayS ws (hs.getD s 0) 0 then [e0] else []) := by
          unfold endsL
          rw [List.take_add_one, hd, List.filter_append, show (some (s, e0)).toList = [(s, e0)] from rfl, List.filter_cons, List.filter_nil, List.map_append]
          congr 1
          split <;> rfl
        cases hm2 : mayS ws (hs.getD s 0) 0 with
        | false =>
          rw [hm2, if_neg (show ¬ false = true from fun z => nomatch z), List.append_nil] at et
          refine iteF ⟨sF.trans s1', s1' _ _ hw2, ?_⟩
          rw [et]
          exact s1' _ _ hD
        | true =>
          rw [hm2, if_pos (show true = true from rfl)] at et
          have g2 : DGet F1 wy (.int ((s : Nat) : Int)) (some (wV e0)) := .inl ⟨_, Sum.inl ((s : Nat) : Int), .inr ⟨od, s1' _ _ hw2⟩, rfl, by rw [val_kvD, look_get nd hd]; rfl⟩
          refine iteT ⟨_, rfl, _, rfl, wy, _, rfl, g2, _, s1' _ _ hD, ?_, fun c o e => ?_, (upd_ne wD).trans (s1' _ _ hw2), ?_⟩
          · rw [List.length_map]
            unfold endsL
            rw [List.length_map]
            have := List.length_filter_le (fun x : Nat × List Bool => mayS ws (hs.getD x.1 0) 0) (d.take j)
            rw [List.length_take] at this
            exact len_lt (by omega)
          · rw [upd_ne (ne_of_none e (sm.free nD0))]
            exact s1' c o (sF c o e)
          · rw [upd_same, et, List.map_append]
            rfl
      · obtain ⟨sF, hw2, hD⟩ := hK
        have kl : (kvD wV d).length = d.length := by
          unfold kvD
          rw [List.length_map]
        rw [kl, List.take_length] at hD
        have pfin : ∀ u ∈ allC m, (finR u.reverse hs).Perm hs := fun u hu => by
          have ul := allC_mem m u hu
          exact (kinds_fin u.reverse hs asc.up pos (by rw [List.length_reverse]; omega)).2
        obtain ⟨f0, f1⟩ := first_is hB nd wi asc.row.nd hm (allC_all m) pfin
        have fin : Same H (upd F wy (.dK (kvD wV d))) := fun c o e => by
          rw [upd_ne (ne_of_none e nw)]
          exact sF c o e
        have em : (endsL ws hs d).map wV = ((endsL ws hs d).map wd).map V.str := by
          rw [List.map_map]
          rfl
        rw [em] at hD
        refine ⟨hw2, D, _, rfl, rfl, .inl (.inl ((upd_ne wD.symm).trans hD)), fun e => ?_, fun y ys e => ?_⟩
        · rw [f0 (List.map_eq_nil_iff.mp e)] at q
          exact q _ fin
        · obtain ⟨z, zs, ez⟩ : ∃ z zs, endsL ws hs d = z :: zs := by
            cases hz : endsL ws hs d with
            | nil =>
              rw [hz] at e
              cases e
            | cons z zs => exact ⟨z, zs, rfl⟩
          rw [ez, List.map_cons] at e
          obtain ⟨e1, e2⟩ := List.cons.inj e
          rw [f1 z zs ez] at q
          rw [← e1, ← e2, minOf_wd]
          exact q _ fin
end
section
variable {P : Program} {w : World} {K : PySem.W.Frag} {mg : Str → Option Value} {base : Heap}
/-- the exception with one field -/
def Flies (K : PySem.W.Frag) (E : XK) (C f : Str) (v : V) (H : Hp) : Prop := ∀ (d : Addr) (H' : Hp), Same H H' → H' d = some (.xd [(f, v)]) → E (.ref (He.ga K C)) (some d) H'
theorem Flies.from {E : XK} {C f : Str} {v : V} {H H1 : Hp} (h : Flies K E C f v H) (s : Same H H1) : Flies K E C f v H1 := fun d H' t => h d H' (s.trans t)
end
section
variable {P : Program} {w : World} {K : PySem.W.Frag} {mg : Str → Option Value} {base : Heap}
/-! ### heights of any kind -/
def okUp (xs : List V) (i : Nat) : Bool := match xs[i]? with
  | some (.int n) => (decide (1 ≤ n) && decide (n ≤ 999)) && (decide (i = 0) || (match xs[i - 1]? with
    | some (.int p) => decide (p < n)
    | _ => true))
  | some _ => false
  | none => true
inductive HtF (K : PySem.W.Frag) (H : Hp) : V → Option V → List Int → Prop
  | other {v : V} {T : String} : Tv K H v T → T ≠ "tuple" → HtF K H v (some .non) []
  | long {a : Addr} {xs : List V} : SqT K H a xs → (decide (1 ≤ xs.length) && decide (xs.length ≤ 12)) = false → HtF K H (.ref a) (some .non) []
  | wrong {a : Addr} {xs : List V} {i : Nat} : SqT K H a xs → 1 ≤ xs.length → xs.length ≤ 12 → (∀ x ∈ xs, ∃ T, Tv K H x T) → i < xs.length → okUp xs i = false → (∀ j < i, okUp xs j = true) → HtF K H (.ref a) (some (.int (i : Nat))) []
  | asc {a : Addr} {ns : List Int} : SqT K H a (ns.map V.int) → Asc ns → HtF K H (.ref a) none ns
theorem HtF.same {H H' : Hp} {v : V} {f : Option V} {ns : List Int} (h : HtF K H v f ns) (s : Same H H') : HtF K H' v f ns := by
  cases h with
  | other t n => exact .other (t.same s) n
  | long t n => exact .long (SqT.same s t) n
  | wrong t a b c d e f => exact .wrong (SqT.same s t) a b (fun x hx => (c x hx).imp fun T t => t.same s) d e f
  | asc t r => exact .asc (SqT.same s t) r
theorem up_int {xs : List V} {i : Nat} (lt : i < xs.length) (h : okUp xs i = true) : ∃ n : Int, xs[i]? = some (.int n) ∧ 1 ≤ n ∧ n ≤ 999 ∧ ∀ p : Int, 1 ≤ i → xs[i - 1]? = some (.int p) → p < n := by
  unfold okUp at h
  rw [List.getElem?_eq_getElem lt] at h ⊢
  cases e : xs[i] with
  | int n =>
    rw [e] at h
    have h : ((decide (1 ≤ n) && decide (n ≤ 999)) && (decide (i = 0) || (match xs[i - 1]? with
      | some (.int p) => decide (p < n)
      | _ => true))) = true := h
    rw [Bool.and_eq_true, Bool.and_eq_true, decide_eq_true_iff, decide_eq_true_iff] at h
    refine ⟨n, rfl, h.1.1, h.1.2, fun p hi hp => ?_⟩
    have h2 := h.2
    rw [hp, decide_eq_false (by omega), Bool.false_or] at h2
    exact of_decide_eq_true h2
  | _ =>
    rw [e] at h
    cases h
theorem asc_of {xs : List V} (h1 : 1 ≤ xs.length) (h2 : xs.length ≤ 12) (h : ∀ j < xs.length, okUp xs j = true) : ∃ ns : List Int, xs = ns.map V.int ∧ Asc ns := by
  have go : ∀ n, n ≤ xs.length → ∃ ns : List Int, xs.take n = ns.map V.int ∧ ns.Pairwise (· < ·) ∧ (∀ x ∈ ns, 1 ≤ x ∧ x ≤ 999) ∧ ∀ z : Int, ns.getLast? = some z → ∀ x ∈ ns, x ≤ z := fun n => by
    induction n with
    | zero => exact fun _ => ⟨[], rfl, .nil, (fun x hx => nomatch hx), fun _ e => nomatch e⟩
    | succ n ih =>
      intro hn
      obtain ⟨ns, e, pw, r, top⟩ := ih (by omega)
      obtain ⟨i, ei, i1, i2, prev⟩ := up_int (by omega) (h n (by omega))
      have len : ns.length = n := by
        have := congrArg List.length e
        rw [List.length_take, List.length_map] at this
        omega
      have less : ∀ x ∈ ns, x < i := fun x hx => by
        have pos : 0 < ns.length := List.length_pos_of_mem hx
        have gl : ns.getLast? = some (ns[n - 1]'(by omega)) := by
          rw [List.getLast?_eq_getElem?, show ns.length - 1 = n - 1 by omega]
          exact List.getElem?_eq_getElem (by omega)
        have a1 := top _ gl x hx
        have gx : xs[n - 1]? = some (.int (ns[n - 1]'(by omega))) := by
          have z : (xs.take n)[n - 1]? = xs[n - 1]? := List.getElem?_take_of_lt (by omega)
          rw [← z, e, List.getElem?_map, List.getElem?_eq_getElem (by omega)]
          rfl
        have a2 := prev _ (by omega) gx
        omega
      refine ⟨ns ++ [i], ?_, ?_, fun x hx => ?_, fun z hz x hx => ?_⟩
      · rw [List.take_succ, ei, e, List.map_append]
        rfl
      · rw [List.pairwise_append]
        exact ⟨pw, List.pairwise_singleton _ _, fun x hx y hy => by rw [List.mem_singleton.mp hy]; exact less x hx⟩
      · rcases List.mem_append.mp hx with z | z
        · exact r x z
        · rw [List.mem_singleton.mp z]
          exact ⟨i1, i2⟩
      · rw [List.getLast?_append] at hz
        have ez : i = z := by simpa using hz
        rw [← ez]
        rcases List.mem_append.mp hx with y | y
        · exact Int.le_of_lt (less x y)
        · rw [List.mem_singleton.mp y]
          exact Int.le_refl _
  obtain ⟨ns, e, pw, r, _⟩ := go xs.length (Nat.le_refl _)
  rw [List.take_length] at e
  subst e
  rw [List.length_map] at h1 h2
  exact ⟨ns, rfl, ⟨h1, h2, pw.imp fun h => Int.ne_of_lt h, r⟩, pw⟩
theorem ht_any {a : Addr} {xs : List V} : ∃ (fo : Option V) (ns : List Int), ∀ H : Hp, SqT K H a xs → (∀ x ∈ xs, ∃ T, Tv K H x T) → HtF K H (.ref a) fo ns := by
  cases hl : (decide (1 ≤ xs.length) && decide (xs.length ≤ 12)) with
  | false => exact ⟨_, _, fun H hS _ => .long hS hl⟩
  | true =>
    obtain ⟨h1, h2⟩ := Bool.and_eq_true_iff.mp hl
    replace h1 := of_decide_eq_true h1
    replace h2 := of_decide_eq_true h2
    have go : ∀ n, n ≤ xs.length → (∀ j < n, okUp xs j = true) ∨ ∃ i, i < xs.length ∧ okUp xs i = false ∧ ∀ j < i, okUp xs j = true := fun n => by
      induction n with
      | zero => exact fun _ => .inl fun j hj => absurd hj (Nat.not_lt_zero j)
      | succ n ih =>
        intro hn
        rcases ih (by omega) with z | z
        · cases ho : okUp xs n with
          | true =>
            refine .inl fun j hj => ?_
            rcases Nat.lt_succ_iff_lt_or_eq.mp hj with y | y
            · exact z j y
            · rw [y, ho]
          | false => exact .inr ⟨n, by omega, ho, z⟩
        · exact .inr z
    rcases go xs.length (Nat.le_refl _) with z | ⟨i, lt, ho, hb⟩
    · obtain ⟨ns, rfl, r⟩ := asc_of h1 h2 z
      exact ⟨_, _, fun H hS _ => .asc hS r⟩
    · exact ⟨_, _, fun H hS hT => .wrong hS h1 h2 hT lt ho hb⟩
def spWrongHA (K : PySem.W.Frag) : Sp := fun vs H Q _ => ∃ (a : Addr) (xs : List V), vs = [.ref a] ∧ SqT K H a xs ∧ (∀ x ∈ xs, ∃ T, Tv K H x T) ∧
  (∀ i : Nat, i < xs.length → okUp xs i = false → (∀ j < i, okUp xs j = true) → ∀ H', Same H H' → Q (.int (i : Nat)) H') ∧ ((∀ i, i < xs.length → okUp xs i = true) → ∀ H', Same H H' → Q .non H')
theorem ok_wrongha (D : Df K mg "wrong_height" s_wrong_height) (c_is_height : Cl P w K mg base 3 "is_height" s_is_height ["value"] (spHeight K)) (m_enumerate : mg "enumerate" = none) :
    Cl P w K mg base 4 "wrong_height" s_wrong_height ["heights"] (spWrongHA K) := by
  refine D.ok sc_wrong_height (fun _ _ _ _ _ _ us hl => match us, hl with | [_], _ => rfl) (fun vs H Q E h => ?_) (fun f cdv A outer s H vs Q E hr h => ?_)
  · obtain ⟨a, xs, rfl, _⟩ := h
    rfl
  · obtain ⟨a, xs, rfl, hS, hT, q1, q2⟩ := h
    refine ⟨_, 
      (pss_cons (ps_for PassesOwn.never rfl (pi_enumT (by rfl) m_enumerate (pa_cons (pv 0) pa_nil)) (pg_tup (by rfl) (pgs_cons (pg_name (i := 1) sc_wrong_height.nd rfl (Or.inl rfl)) (pgs_cons (pg_name (i := 2) sc_wrong_height.nd rfl (Or.inl rfl)) pgs_nil))) (pss_one (ps_if (PW.pt (pw_or (pt_not (pt_val (pe_u c_is_height hr (by omega) (by rfl) (pa_cons (pv 2) pa_nil)))) (pw_or1 (PW.pt (pw_and (pt_cmpR op_gt (pv 1) pe_int (nomark _)) (pw_and1 (pt_cmpR op_le (pv 2) (pe_ix ix_tup (pv 0) (pe_op op_sub (pv 1) pe_int) (fun _ _ => rfl)) (nomark _)))))))) (pss_one (ps_ret (pv 1))) pss_nil))) 
      (pss_one (ps_ret pe_non))), ?_⟩
    refine ⟨_, rfl, a, xs, rfl, hS, ?_⟩
    refine walk_enumT (xs := xs) (fun i σ G => ∃ y1 y2 : Option V, σ = [some (.ref a), y1, y2] ∧ Same H G ∧ ∀ j < i, okUp xs j = true) ⟨none, none, rfl, Same.refl H, fun j hj => absurd hj (Nat.not_lt_zero j)⟩ (fun i σ G _ hI => ?_) (fun i x T σ G hx hI nT => ?_) (fun σ G hI => ?_)
    · obtain ⟨_, _, _, sm, _⟩ := hI
      exact SqT.same sm hS
    · obtain ⟨y1, y2, rfl, sm, oks⟩ := hI
      have lt : i < xs.length := (List.getElem?_eq_some_iff.mp hx).1
      obtain ⟨Ty, tv⟩ := hT x (List.mem_of_getElem? hx)
      have smT := sm.trans (same_upd (o := .tup [.int (i : Nat), x]) nT)
      have more : okUp xs i = true → ∀ j < i + 1, okUp xs j = true := fun e j hj => by
        rcases Nat.lt_succ_iff_lt_or_eq.mp hj with y | y
        · exact oks j y
        · rw [y]
          exact e
      refine ⟨T, _, rfl, .inl (.inl upd_same), rfl, _, _, rfl, _, _, rfl, rfl, ?_⟩
      refine ⟨_, rfl, x, Ty, rfl, tv.same smT, _, rfl, ?_⟩
      cases hB : heightB x with
      | false =>
        refine iteT (iteT ⟨_, rfl, q1 i lt ?_ oks _ smT⟩)
        unfold okUp
        rw [hx]
        cases x with
        | int n =>
          have hB : (decide (1 ≤ n) && decide (n ≤ 999)) = false := hB
          show ((decide (1 ≤ n) && decide (n ≤ 999)) && _) = false
          rw [hB]
          rfl
        | _ => rfl
      | true =>
        obtain ⟨n, rfl, n1, n2⟩ := heightB_int hB
        have okE : okUp xs i = (decide (i = 0) || (match xs[i - 1]? with
            | some (.int p) => decide (p < n)
            | _ => true)) := by
          unfold okUp
          rw [hx]
          show ((decide (1 ≤ n) && decide (n ≤ 999)) && _) = _
          rw [decide_eq_true n1, decide_eq_true n2]
          rfl
        refine iteF ⟨_, rfl, _, _, rfl, rfl, _, rfl, ?_⟩
        by_cases h0 : i = 0
        · rw [decide_eq_false (by omega)]
          rw [decide_eq_true h0, Bool.true_or] at okE
          exact iteF (iteF ⟨_, _, rfl, smT, more okE⟩)
        · rw [decide_eq_true (by omega)]
          obtain ⟨p, hp, _⟩ := up_int (by omega) (oks (i - 1) (by omega))
          rw [decide_eq_false h0, Bool.false_or, hp] at okE
          have okE : okUp xs i = decide (p < n) := okE
          refine iteT ⟨_, rfl, _, rfl, _, rfl, _, _, rfl, rfl, a, _, _, .int p, rfl, rfl, SqT.same smT hS, ?_, _, _, rfl, rfl, _, rfl, ?_⟩
          · rw [show ((i : Nat) : Int) - 1 = ((i - 1 : Nat) : Int) by omega]
            exact atI_nat hp
          · by_cases le : n ≤ p
            · rw [decide_eq_true le]
              rw [decide_eq_false (by omega)] at okE
              exact iteT ⟨_, rfl, q1 i lt okE oks _ smT⟩
            · rw [decide_eq_false le]
              rw [decide_eq_true (by omega)] at okE
              exact iteF ⟨_, _, rfl, smT, more okE⟩
    · obtain ⟨y1, y2, rfl, sm, oks⟩ := hI
      exact q2 oks _ sm
def spCheckHX (K : PySem.W.Frag) : Sp := fun vs H Q E => ∃ (v : V) (f : Option V) (ns : List Int), vs = [v] ∧ HtF K H v f ns ∧ (f = none → ∀ H', Same H H' → Q .non H') ∧ ∀ x, f = some x → Flies K E "InvalidHeights" "index" x H
theorem ok_checkhX (D : Df K mg "check_heights" s_check_heights) (ec_InvalidHeights : EC P w K mg base "InvalidHeights" "index") (c_may_be_row : Cl P w K mg base 1 "may_be_row" s_may_be_row ["value"] (spMay K)) (c_wrong_height : Cl P w K mg base 4 "wrong_height" s_wrong_height ["heights"] (spWrongHA K)) :
    ClX P w K mg base 5 "check_heights" s_check_heights ["heights"] (spCheckHX K) := by
  refine D.okX sc_check_heights (fun _ _ _ _ _ _ us hl => match us, hl with | [_], _ => rfl) (fun vs H Q E h => ?_) (fun f cdv A outer s H vs Q E hr h => ?_)
  · obtain ⟨v, f, ns, rfl, _⟩ := h
    rfl
  · obtain ⟨v, f, ns, rfl, hv, q, qe⟩ := h
    refine ⟨_, 
      (pss_cons (ps_if (pt_not (pt_val (pe_u c_may_be_row hr (by omega) (by rfl) (pa_cons (pv 0) pa_nil)))) (pss_one (ps_raise rfl takesD (pmk_e ec_InvalidHeights hr (by omega) (by rfl) (pa_cons pe_non pa_nil)))) pss_nil) 
      (pss_cons (ps_set (i := 1) sc_check_heights.nd rfl (Or.inl rfl) (pe_u c_wrong_height hr (by omega) (by rfl) (pa_cons (pv 0) pa_nil))) 
      (pss_one (ps_if (pt_cmpR op_notN (pv 1) pe_non (nomark _)) (pss_one (ps_raise rfl takesD (pmk_e ec_InvalidHeights hr (by omega) (by rfl) (pa_cons (pv 1) pa_nil)))) pss_nil)))), ?_⟩
    cases hv with
    | @other v T t hn => exact ⟨_, rfl, .inl ⟨v, T, rfl, t, hn, _, rfl, iteT ⟨_, rfl, fun d nd => qe _ rfl d _ (same_upd nd) upd_same⟩⟩⟩
    | @long a xs hS hn =>
      refine ⟨_, rfl, .inr ⟨a, _, rfl, hS, _, rfl, ?_⟩⟩
      rw [hn]
      exact iteT ⟨_, rfl, fun d nd => qe _ rfl d _ (same_upd nd) upd_same⟩
    | @wrong a xs i hS l1 l2 hT lt ho hb =>
      refine ⟨_, rfl, .inr ⟨a, _, rfl, hS, _, rfl, ?_⟩⟩
      rw [decide_eq_true l1, decide_eq_true l2]
      refine iteF ⟨_, rfl, a, _, rfl, hS, hT, fun j lj oj hj H' sm => ?_, fun ha => ?_⟩
      · have e : j = i := by
          rcases Nat.lt_trichotomy i j with z | z | z
          · rw [hj i z] at ho
            cases ho
          · exact z.symm
          · rw [hb j z] at oj
            cases oj
        subst e
        refine ⟨_, rfl, rfl, _, rfl, ?_⟩
        exact iteT ⟨_, rfl, _, rfl, fun d nd => qe _ rfl d _ (sm.trans (same_upd nd)) upd_same⟩
      · rw [ha i lt] at ho
        cases ho
    | @asc a ns hS hasc =>
      have l1 : 1 ≤ (ns.map V.int).length := by rw [List.length_map]; exact hasc.row.pos
      have l2 : (ns.map V.int).length ≤ 12 := by rw [List.length_map]; exact hasc.row.most
      have all : ∀ i, i < (ns.map V.int).length → okUp (ns.map V.int) i = true := fun i hi => by
        rw [List.length_map] at hi
        unfold okUp
        rw [List.getElem?_map, List.getElem?_eq_getElem hi]
        have rg := hasc.row.rng ns[i] (List.getElem_mem hi)
        show ((decide (1 ≤ ns[i]) && decide (ns[i] ≤ 999)) && _) = true
        rw [decide_eq_true rg.1, decide_eq_true rg.2]
        by_cases h0 : i = 0
        · rw [decide_eq_true h0]
          rfl
        · rw [decide_eq_false h0, List.getElem?_map, List.getElem?_eq_getElem (show i - 1 < ns.length by omega)]
          exact decide_eq_true (List.pairwise_iff_getElem.mp hasc.up (i - 1) i (by omega) hi (by omega))
      refine ⟨_, rfl, .inr ⟨a, _, rfl, hS, _, rfl, ?_⟩⟩
      rw [decide_eq_true l1, decide_eq_true l2]
      refine iteF ⟨_, rfl, a, _, rfl, hS, fun x hx => ?_, fun i hi ho => ?_, fun _ H' sm => ?_⟩
      · obtain ⟨n, _, rfl⟩ := List.mem_map.mp hx
        exact ⟨_, Tv.int n⟩
      · rw [all i hi] at ho
        cases ho
      · refine ⟨_, rfl, rfl, _, rfl, ?_⟩
        rw [decide_eq_true rfl]
        exact iteF (q rfl H' sm)
end
section
variable {P : Program} {w : World} {K : PySem.W.Frag} {mg : Str → Option Value} {base : Heap}
/-! ### wishes of any kind -/
/-- what one wish is: its two things, if it is a pair -/
inductive WshV (K : PySem.W.Frag) (H : Hp) : V → Option (V × V) → Prop
  | other {v : V} {T : String} : Tv K H v T → T ≠ "tuple" → WshV K H v none
  | long {r : Addr} {xs : List V} : H r = some (.tup xs) → xs.length ≠ 2 → xs.length ≤ 1000 → WshV K H (.ref r) none
  | pair {r : Addr} {x y : V} {T U : String} : H r = some (.tup [x, y]) → Tv K H x T → Tv K H y U → WshV K H (.ref r) (some (x, y))
theorem WshV.same {H G : Hp} {v : V} {o : Option (V × V)} (h : WshV K H v o) (s : Same H G) : WshV K G v o := by
  cases h with
  | other t n => exact .other (t.same s) n
  | long h n l => exact .long (s _ _ h) n l
  | pair h t u => exact .pair (s _ _ h) (t.same s) (u.same s)
def isW (hs : List Int) : Option (V × V) → Bool
  | some (x, y) => heightB x && (inV x (hs.map V.int) && wholeB y 0 (((hs.length : Nat) : Int) - 1))
  | none => false
def firstsL (ps : List (Option (V × V))) : List V := (ps.filterMap id).map (·.1)
def lessP : Option (Option (V × V)) → Option (V × V) → Bool
  | some (some (_, .int j)), some (_, .int k) => decide (j < k)
  | _, _ => true
def okW (hs : List Int) (ps : List (Option (V × V))) (i : Nat) : Bool := match ps[i]? with
  | some (some (x, y)) => isW hs (some (x, y)) && (!inV x (firstsL (ps.take i)) && (decide (i = 0) || lessP ps[i - 1]? (some (x, y))))
  | some none => false
  | none => true
abbrev wsP (x : Int × Int) : Option (V × V) := some (.int x.1, .int x.2)
theorem isW_int {hs : List Int} {o : Option (V × V)} (h : isW hs o = true) : ∃ x k : Int, o = wsP (x, k) ∧ x ∈ hs ∧ 0 ≤ k ∧ k < ((hs.length : Nat) : Int) := by
  match o, h with
  | some (x, y), h =>
    obtain ⟨h1, h2⟩ := Bool.and_eq_true_iff.mp (show (heightB x && (inV x (hs.map V.int) && wholeB y 0 (((hs.length : Nat) : Int) - 1))) = true from h)
    obtain ⟨h3, h4⟩ := Bool.and_eq_true_iff.mp h2
    obtain ⟨i, rfl, _⟩ := heightB_int h1
    rw [inV_ints] at h3
    cases y with
    | int k =>
      obtain ⟨k1, k2⟩ := Bool.and_eq_true_iff.mp (show (decide (0 ≤ k) && decide (k ≤ ((hs.length : Nat) : Int) - 1)) = true from h4)
      have := of_decide_eq_true k2
      exact ⟨i, k, rfl, of_decide_eq_true h3, of_decide_eq_true k1, by omega⟩
    | _ => cases h4
theorem firsts_ws (ws : List (Int × Int)) : firstsL (ws.map wsP) = (ws.map (·.1)).map V.int := by
  unfold firstsL
  induction ws with
  | nil => rfl
  | cons x ws ih =>
    rw [List.map_cons, List.filterMap_cons]
    show V.int x.1 :: ((ws.map wsP).filterMap id).map (·.1) = _
    rw [ih]
    rfl
theorem wish_of_ok {hs : List Int} {ps : List (Option (V × V))} : ∀ n, n ≤ ps.length → (∀ j < n, okW hs ps j = true) → ∃ ws : List (Int × Int), ps.take n = ws.map wsP ∧ ws.length = n ∧ Wish hs ws := fun n => by
  induction n with
  | zero => exact fun _ _ => ⟨[], rfl, rfl, ⟨(fun x hx => nomatch hx), .nil, .nil⟩⟩
  | succ n ih =>
    intro hn h
    obtain ⟨ws, e, len, wi⟩ := ih (by omega) fun j hj => h j (by omega)
    have o := h n (by omega)
    have gx : ps[n]? = some ps[n] := List.getElem?_eq_getElem (by omega)
    unfold okW at o
    rw [gx] at o
    match ho : ps[n], o with
    | some (x, y), o =>
      rw [ho] at gx
      obtain ⟨o1, o2⟩ := Bool.and_eq_true_iff.mp (show (isW hs (some (x, y)) && (!inV x (firstsL (ps.take n)) && (decide (n = 0) || lessP ps[n - 1]? (some (x, y))))) = true from o)
      obtain ⟨i, k, exy, im, k0, k1⟩ := isW_int o1
      cases exy
      obtain ⟨o3, o4⟩ := Bool.and_eq_true_iff.mp o2
      rw [e, firsts_ws, inV_ints] at o3
      have ni : i ∉ ws.map (·.1) := fun z => by
        rw [decide_eq_true z] at o3
        cases o3
      have less : ∀ x ∈ ws, x.2 < k := fun x hx => by
        obtain ⟨j, hj, ej⟩ := List.mem_iff_getElem.mp hx
        have n0 : n ≠ 0 := by omega
        have lt : n - 1 < ws.length := by omega
        have gp : ps[n - 1]? = some (wsP ws[n - 1]) := by
          rw [← List.getElem?_take_of_lt (show n - 1 < n by omega), e, List.getElem?_map, List.getElem?_eq_getElem lt]
          rfl
        rw [gp, decide_eq_false n0, Bool.false_or] at o4
        have l1 : ws[n - 1].2 < k := of_decide_eq_true (show decide (ws[n - 1].2 < k) = true from o4)
        rcases Nat.lt_or_ge j (n - 1) with z | z
        · have := List.pairwise_iff_getElem.mp wi.up j (n - 1) hj lt z
          rw [ej] at this
          omega
        · have ej2 : j = n - 1 := by omega
          subst ej2
          rw [← ej]
          exact l1
      refine ⟨ws ++ [(i, k)], ?_, by rw [List.length_append, len]; rfl, ⟨fun x hx => ?_, ?_, ?_⟩⟩
      · rw [List.take_succ, gx, e, List.map_append]
        rfl
      · rcases List.mem_append.mp hx with z | z
        · exact wi.mem x z
        · rw [List.mem_singleton.mp z]
          exact ⟨im, k0, k1⟩
      · rw [List.pairwise_append]
        exact ⟨wi.up, List.pairwise_singleton _ _, fun x hx y hy => by rw [List.mem_singleton.mp hy]; exact less x hx⟩
      · rw [List.map_append, List.nodup_append]
        refine ⟨wi.nd, by simp, fun x hx y hy z => ?_⟩
        have hy : y ∈ [i] := hy
        rw [List.mem_singleton.mp hy] at z
        exact ni (z ▸ hx)
def spIsWishA (K : PySem.W.Frag) : Sp := fun vs H Q _ => ∃ (v : V) (o : Option (V × V)) (a : Addr) (hs : List Int), vs = [v, .ref a] ∧ WshV K H v o ∧ SqT K H a (hs.map V.int) ∧ Row hs ∧ Q (.bl (isW hs o)) H
theorem ok_iswisha (D : Df K mg "is_wish" s_is_wish) (c_is_height : Cl P w K mg base 3 "is_height" s_is_height ["value"] (spHeight K)) (c_is_whole_from : Cl P w K mg base 2 "is_whole_from" s_is_whole_from ["value", "least", "greatest"] (spFrom K))
    (m_isinstance : mg "isinstance" = none) (m_tuple : mg "tuple" = none) (m_len : mg "len" = none) : Cl P w K mg base 4 "is_wish" s_is_wish ["value", "heights"] (spIsWishA K) := by
  refine D.ok sc_is_wish (fun _ _ _ _ _ _ us hl => match us, hl with | [_, _], _ => rfl) (fun vs H Q E h => ?_) (fun f cdv A outer s H vs Q E hr h => ?_)
  · obtain ⟨v, o, a, hs, rfl, _⟩ := h
    rfl
  · obtain ⟨v, o, a, hs, rfl, hv, hS, row, q⟩ := h
    refine ⟨_, 
      (pss_cons (ps_if (PW.pt (pw_or (pt_not (pt_val (pe_callB call_isi (by rfl) m_isinstance (by decide +kernel) (pa_cons (pv 0) (pa_cons (pe_bltn (v := .ty "tuple") (by rfl) m_tuple (by decide +kernel) rfl) pa_nil))))) (pw_or1 (pt_cmpR op_ne (pe_callB call_lenS (by rfl) m_len (by decide +kernel) (pa_cons (pv 0) pa_nil)) pe_int (nomark _))))) (pss_one (ps_ret pe_bl)) pss_nil) 
      (pss_cons (ps_asg (pv 0) (pg_tup (by rfl) (pgs_cons (pg_name (i := 2) sc_is_wish.nd rfl (Or.inl rfl)) (pgs_cons (pg_name (i := 3) sc_is_wish.nd rfl (Or.inl rfl)) pgs_nil)))) 
      (pss_one (ps_ret (pe_and (pe_u c_is_height hr (by omega) (by rfl) (pa_cons (pv 2) pa_nil)) (pe_and (pe_cmpR op_in_seq (pv 2) (pv 1) (by rfl)) (pe_one (pe_u c_is_whole_from hr (by omega) (by rfl) (pa_cons (pv 3) (pa_cons pe_int (pa_cons (pe_op op_sub (pe_callB call_lenS (by rfl) m_len (by decide +kernel) (pa_cons (pv 1) pa_nil)) pe_int) pa_nil))))))))))), ?_⟩
    cases hv with
    | @other _ T t n =>
      refine ⟨_, rfl, v, .ty "tuple", .type T, .type "tuple", _, rfl, .ty _, t.ty, kit_tuple t.mem, _, rfl, ?_⟩
      rw [decide_eq_false n]
      exact iteT q
    | @long r xs hr_ nl _ =>
      have hR : SqT K H r xs := .inl (.inl hr_)
      refine ⟨_, rfl, .ref r, .ty "tuple", .type "tuple", .type "tuple", _, rfl, .ty _, (Tv.tup hR).ty, kit_tuple (Tv.tup hR).mem, _, rfl, iteF ?_⟩
      refine ⟨_, rfl, r, _, rfl, .inr hR, rfl, _, rfl, ?_⟩
      show if (!decide (V.int ((xs.length : Nat) : Int) = V.int 2)) = true then _ else _
      rw [decide_eq_false (show ¬ V.int ((xs.length : Nat) : Int) = V.int 2 from fun z => nl (by have := V.int.inj z; omega))]
      exact iteT q
    | @pair r x y T U hr_ tx ty =>
      have hR : SqT K H r [x, y] := .inl (.inl hr_)
      refine ⟨_, rfl, .ref r, .ty "tuple", .type "tuple", .type "tuple", _, rfl, .ty _, (Tv.tup hR).ty, kit_tuple (Tv.tup hR).mem, _, rfl, iteF ?_⟩
      refine ⟨_, rfl, r, _, rfl, .inr hR, rfl, _, rfl, iteF ?_⟩
      refine ⟨_, rfl, r, _, rfl, hR, rfl, _, _, rfl, _, _, rfl, rfl, ?_⟩
      have q : Q (.bl (heightB x && (inV x (hs.map V.int) && wholeB y 0 (((hs.length : Nat) : Int) - 1)))) H := q
      refine ⟨_, rfl, x, T, rfl, tx, _, rfl, ?_⟩
      cases hB : heightB x with
      | false =>
        rw [hB] at q
        exact iteF q
      | true =>
        rw [hB] at q
        obtain ⟨h, rfl, _⟩ := heightB_int hB
        refine iteT ⟨_, rfl, _, rfl, a, _, rfl, .inr hS, rfl, flat_ints hs, ?_⟩
        show ∃ k, _
        cases hi : inV (.int h) (hs.map V.int) with
        | false =>
          rw [hi] at q
          exact ⟨_, rfl, iteF q⟩
        | true =>
          rw [hi] at q
          refine ⟨_, rfl, iteT ⟨_, rfl, _, rfl, a, _, rfl, .inr hS, _, _, rfl, rfl, y, U, 0, _, rfl, ty, ?_⟩⟩
          rw [List.length_map]
          exact q
end
section
variable {P : Program} {w : World} {K : PySem.W.Frag} {mg : Str → Option Value} {base : Heap}
structure EachW (K : PySem.W.Frag) (H : Hp) (xs : List V) (ps : List (Option (V × V))) : Prop where
  len : ps.length = xs.length
  at_ : ∀ (i : Nat) (x : V) (o : Option (V × V)), xs[i]? = some x → ps[i]? = some o → WshV K H x o
theorem EachW.same {H G : Hp} {xs : List V} {ps : List (Option (V × V))} (h : EachW K H xs ps) (s : Same H G) : EachW K G xs ps := ⟨h.len, fun i x o h1 h2 => (h.at_ i x o h1 h2).same s⟩
theorem firsts_flat {hs : List Int} {ps : List (Option (V × V))} {n : Nat} (hn : n ≤ ps.length) (h : ∀ j < n, okW hs ps j = true) : (firstsL (ps.take n)).all flatV = true ∧ (firstsL (ps.take n)).length = n := by
  obtain ⟨ws, e, len, _⟩ := wish_of_ok n hn h
  rw [e, firsts_ws]
  exact ⟨flat_ints _, by rw [List.length_map, List.length_map, len]⟩
theorem firsts_succ {ps : List (Option (V × V))} {i : Nat} {x y : V} (h : ps[i]? = some (some (x, y))) : firstsL (ps.take (i + 1)) = firstsL (ps.take i) ++ [x] := by
  unfold firstsL
  rw [List.take_succ, h, List.filterMap_append, List.map_append]
  rfl
def spWrongWA (K : PySem.W.Frag) : Sp := fun vs H Q _ => ∃ (a b : Addr) (hs : List Int) (xs : List V) (ps : List (Option (V × V))), vs = [.ref a, .ref b] ∧ SqT K H a (hs.map V.int) ∧ Row hs ∧ SqT K H b xs ∧ EachW K H xs ps ∧ xs.length ≤ 1000 ∧
  (∀ i : Nat, i < ps.length → okW hs ps i = false → (∀ j < i, okW hs ps j = true) → ∀ H', Same H H' → Q (.int (i : Nat)) H') ∧ ((∀ i, i < ps.length → okW hs ps i = true) → ∀ H', Same H H' → Q .non H')
theorem ok_wrongwa (D : Df K mg "wrong_wish" s_wrong_wish) (c_is_wish : Cl P w K mg base 4 "is_wish" s_is_wish ["value", "heights"] (spIsWishA K)) (m_enumerate : mg "enumerate" = none) : Cl P w K mg base 5 "wrong_wish" s_wrong_wish ["heights", "wishes"] (spWrongWA K) := by
  refine D.ok sc_wrong_wish (fun _ _ _ _ _ _ us hl => match us, hl with | [_, _], _ => rfl) (fun vs H Q E h => ?_) (fun f cdv A outer s H vs Q E hr h => ?_)
  · obtain ⟨a, b, hs, xs, ps, rfl, _⟩ := h
    rfl
  · obtain ⟨a, b, hs, xs, ps, rfl, hS, row, hX, hp, few, q1, q2⟩ := h
    have pl := hp.len
    refine ⟨_, 
      (pss_cons (ps_set (i := 2) sc_wrong_wish.nd rfl (Or.inl rfl) (pe_lst pa_nil)) 
      (pss_cons (ps_for PassesOwn.never rfl (pi_enumT (by rfl) m_enumerate (pa_cons (pv 1) pa_nil)) (pg_tup (by rfl) (pgs_cons (pg_name (i := 3) sc_wrong_wish.nd rfl (Or.inl rfl)) (pgs_cons (pg_name (i := 4) sc_wrong_wish.nd rfl (Or.inl rfl)) pgs_nil))) (pss_cons (ps_if (pt_not (pt_val (pe_u c_is_wish hr (by omega) (by rfl) (pa_cons (pv 4) (pa_cons (pv 0) pa_nil))))) (pss_one (ps_ret (pv 3))) pss_nil) (pss_cons (ps_asg (pv 4) (pg_tup (by rfl) (pgs_cons (pg_name (i := 5) sc_wrong_wish.nd rfl (Or.inl rfl)) (pgs_cons (pg_name (i := 6) sc_wrong_wish.nd rfl (Or.inl rfl)) pgs_nil)))) (pss_cons (ps_if (PW.pt (pw_or (pt_cmpR op_in_seq (pv 5) (pv 2) (by rfl)) (pw_or1 (PW.pt (pw_and (pt_cmpR op_gt (pv 3) pe_int (nomark _)) (pw_and1 (pt_cmpR op_le (pv 6) (pe_ix ix_tup (pe_ix ix_tup (pv 1) (pe_op op_sub (pv 3) pe_int) (fun _ _ => rfl)) pe_int (fun _ _ => rfl)) (nomark _)))))))) (pss_one (ps_ret (pv 3))) pss_nil) (pss_one (ps_expr (pe_bm PySem.F.plainAttrs_list PySem.F.slot_list_append PySem.F.type_list_append mt_append (pv 2) (pa_cons (pv 5) pa_nil)))))))) 
      (pss_one (ps_ret pe_non)))), ?_⟩
    refine ⟨Nat.zero_le _, fun l nl => ?_⟩
    have s0 := same_upd (o := .lst []) nl
    refine ⟨_, rfl, b, xs, rfl, SqT.same s0 hX, ?_⟩
    refine walk_enumT (xs := xs) (fun i σ G => ∃ y1 y2 y3 y4 : Option V, σ = [some (.ref a), some (.ref b), some (.ref l), y1, y2, y3, y4] ∧ Same H G ∧ G l = some (.lst (firstsL (ps.take i))) ∧ ∀ j < i, okW hs ps j = true) ⟨none, none, none, none, rfl, s0, upd_same, fun j hj => absurd hj (Nat.not_lt_zero j)⟩ (fun i σ G _ hI => ?_) (fun i x T σ G hx hI nT => ?_) (fun σ G hI => ?_)
    · obtain ⟨_, _, _, _, _, sm, _⟩ := hI
      exact SqT.same sm hX
    · obtain ⟨y1, y2, y3, y4, rfl, sm, hl, oks⟩ := hI
      have sT := same_upd (o := .tup [.int (i : Nat), x]) nT
      have smT := sm.trans sT
      have hlT := sT l _ hl
      have lt : i < xs.length := (List.getElem?_eq_some_iff.mp hx).1
      have ltp : i < ps.length := by omega
      have gp : ps[i]? = some ps[i] := List.getElem?_eq_getElem ltp
      have wv := hp.at_ i x _ hx gp
      obtain ⟨fl, fn⟩ := firsts_flat (Nat.le_of_lt ltp) oks
      refine ⟨T, _, rfl, .inl (.inl upd_same), rfl, _, _, rfl, _, _, rfl, rfl, ?_⟩
      generalize upd G T (.tup [.int (i : Nat), x]) = G1 at smT hlT sT
      have bad : okW hs ps i = false → ∀ H', Same H H' → Q (.int (i : Nat)) H' := fun e H' s => q1 i ltp e oks H' s
      have okE : ∀ x y : V, ps[i] = some (x, y) → okW hs ps i = (isW hs (some (x, y)) && (!inV x (firstsL (ps.take i)) && (decide (i = 0) || lessP ps[i - 1]? (some (x, y))))) := fun x y e => by
        unfold okW
        rw [gp, e]
      generalize ps[i] = o at gp wv okE
      refine ⟨_, rfl, _, rfl, x, o, a, hs, rfl, wv.same smT, SqT.same smT hS, row, _, rfl, ?_⟩
      cases hW : isW hs o with
      | false =>
        refine iteT ⟨_, rfl, bad ?_ _ smT⟩
        cases o with
        | none =>
          unfold okW
          rw [gp]
        | some xy =>
          rw [okE xy.1 xy.2 rfl, hW]
          rfl
      | true =>
        obtain ⟨h, k, rfl, hm, k0, k1⟩ := isW_int hW
        cases wv with
        | @pair r _ _ _ _ hr_ _ _ =>
          replace okE := okE _ _ rfl
          rw [hW, Bool.true_and] at okE
          have hr4 : SqT K G1 r [.int h, .int k] := .inl (.inl (smT _ _ hr_))
          refine iteF ⟨_, rfl, r, _, rfl, hr4, rfl, _, _, rfl, _, _, rfl, rfl, ?_⟩
          refine ⟨_, rfl, _, rfl, l, _, rfl, .inl (.inl (.inl hlT)), rfl, fl, _, rfl, ?_⟩
          have fin : okW hs ps i = true → ∀ {σ : L2.St} {y1 y2 y4 : Option V}, σ = [some (.ref a), some (.ref b), some (.ref l), y1, y2, some (.int h), y4] → ∃ y1 y2 y3 y4 : Option V, σ = [some (.ref a), some (.ref b), some (.ref l), y1, y2, y3, y4] ∧ Same H (upd G1 l (.lst (firstsL (ps.take i) ++ [.int h]))) ∧ upd G1 l (.lst (firstsL (ps.take i) ++ [.int h])) l = some (.lst (firstsL (ps.take (i + 1)))) ∧ ∀ j < i + 1, okW hs ps j = true := fun ok {σ y1 y2 y4} e => by
            refine ⟨_, _, _, _, e, fun c o eo => ?_, ?_, fun j hj => ?_⟩
            · rw [upd_ne (ne_of_none eo nl)]
              exact smT c o eo
            · rw [upd_same, firsts_succ gp]
            · rcases Nat.lt_succ_iff_lt_or_eq.mp hj with z | z
              · exact oks j z
              · rw [z]
                exact ok
          have sz : (firstsL (ps.take i)).length < sizeLine := by
            rw [fn]
            exact len_lt (by omega)
          show if inV (.int h) (firstsL (ps.take i)) = true then _ else _
          cases hin : inV (.int h) (firstsL (ps.take i)) with
          | true =>
            rw [hin] at okE
            exact iteT (iteT ⟨_, rfl, bad okE _ smT⟩)
          | false =>
            rw [hin] at okE
            refine iteF ⟨_, rfl, _, _, rfl, rfl, _, rfl, ?_⟩
            by_cases i0 : i = 0
            · rw [decide_eq_false (by omega)]
              rw [decide_eq_true i0] at okE
              exact iteF (iteF ⟨_, rfl, .inl ⟨rfl, _, .inl (.inl hlT)⟩, _, rfl, l, _, _, rfl, rfl, hlT, sz, fin okE rfl⟩)
            · rw [decide_eq_true (by omega)]
              obtain ⟨ws, ew, wn, _⟩ := wish_of_ok i (Nat.le_of_lt ltp) oks
              have lt1 : i - 1 < ws.length := by omega
              have gq : ps[i - 1]? = some (wsP ws[i - 1]) := by
                rw [← List.getElem?_take_of_lt (show i - 1 < i by omega), ew, List.getElem?_map, List.getElem?_eq_getElem lt1]
                rfl
              have gx : xs[i - 1]? = some xs[i - 1] := List.getElem?_eq_getElem (by omega)
              have wv1 := hp.at_ _ _ _ gx gq
              rw [gq, decide_eq_false i0] at okE
              have okE : okW hs ps i = decide (ws[i - 1].2 < k) := okE
              generalize ws[i - 1] = z at wv1 okE
              generalize xs[i - 1] = x1 at gx wv1
              cases wv1 with
              | @pair r1 _ _ _ _ hr1 _ _ =>
                refine iteT ⟨_, rfl, _, rfl, _, rfl, _, _, rfl, rfl, b, _, _, .ref r1, rfl, rfl, SqT.same smT hX, ?_, r1, _, 1, .int z.2, rfl, rfl, .inl (.inl (smT _ _ hr1)), atI_nat (j := 1) rfl, _, _, rfl, rfl, _, rfl, ?_⟩
                · rw [show ((i : Nat) : Int) - 1 = ((i - 1 : Nat) : Int) by omega]
                  exact atI_nat gx
                · by_cases c : z.2 < k
                  · rw [decide_eq_false (by omega)]
                    rw [decide_eq_true c] at okE
                    exact iteF ⟨_, rfl, .inl ⟨rfl, _, .inl (.inl hlT)⟩, _, rfl, l, _, _, rfl, rfl, hlT, sz, fin okE rfl⟩
                  · rw [decide_eq_true (by omega)]
                    rw [decide_eq_false c] at okE
                    exact iteT ⟨_, rfl, bad okE _ smT⟩
    · obtain ⟨y1, y2, y3, y4, rfl, sm, hl, oks⟩ := hI
      exact q2 (fun i hi => oks i (by omega)) _ sm
end
section
variable {P : Program} {w : World} {K : PySem.W.Frag} {mg : Str → Option Value} {base : Heap}
/-! ### what is asked of wishes, and what is refused -/
inductive AkF (K : PySem.W.Frag) (H : Hp) (hs : List Int) : V → Option V → Prop
  | other {v : V} {T : String} : Tv K H v T → T ≠ "tuple" → AkF K H hs v (some .non)
  | wrong {b : Addr} {xs : List V} {ps : List (Option (V × V))} {i : Nat} : SqT K H b xs → EachW K H xs ps → xs.length ≤ 1000 → i < ps.length → okW hs ps i = false → (∀ j < i, okW hs ps j = true) → AkF K H hs (.ref b) (some (.int ((i : Nat) : Int)))
  | fine {b : Addr} {xs : List V} {ws : List (Int × Int)} : SqT K H b xs → EachW K H xs (ws.map wsP) → xs.length ≤ 1000 → (∀ j < ws.length, okW hs (ws.map wsP) j = true) → Wish hs ws → AkF K H hs (.ref b) none
theorem AkF.same {H G : Hp} {hs : List Int} {v : V} {o : Option V} (h : AkF K H hs v o) (s : Same H G) : AkF K G hs v o := by
  cases h with
  | other t n => exact .other (t.same s) n
  | wrong h e l a b c => exact .wrong (SqT.same s h) (e.same s) l a b c
  | fine h e l a b => exact .fine (SqT.same s h) (e.same s) l a b
theorem ak_any {hs : List Int} {b : Addr} {xs : List V} {ps : List (Option (V × V))} (few : xs.length ≤ 1000) : ∃ fo : Option V, ∀ H : Hp, SqT K H b xs → EachW K H xs ps → AkF K H hs (.ref b) fo := by
  have go : ∀ n, n ≤ ps.length → (∀ j < n, okW hs ps j = true) ∨ ∃ i, i < ps.length ∧ okW hs ps i = false ∧ ∀ j < i, okW hs ps j = true := fun n => by
    induction n with
    | zero => exact fun _ => .inl fun j hj => absurd hj (Nat.not_lt_zero j)
    | succ n ih =>
      intro hn
      rcases ih (by omega) with z | z
      · cases ho : okW hs ps n with
        | true =>
          refine .inl fun j hj => ?_
          rcases Nat.lt_succ_iff_lt_or_eq.mp hj with y | y
          · exact z j y
          · rw [y, ho]
        | false => exact .inr ⟨n, by omega, ho, z⟩
      · exact .inr z
  rcases go ps.length (Nat.le_refl _) with z | ⟨i, lt, ho, hb⟩
  · obtain ⟨ws, e, len, wi⟩ := wish_of_ok ps.length (Nat.le_refl _) z
    rw [List.take_length] at e
    subst e
    exact ⟨_, fun H hS hE => .fine hS hE few (fun j hj => z j (by rw [List.length_map]; exact hj)) wi⟩
  · exact ⟨_, fun H hS hE => .wrong hS hE few lt ho hb⟩
theorem AkF.good {H : Hp} {hs : List Int} {v : V} (h : AkF K H hs v none) : ∃ (b : Addr) (ws : List (Int × Int)), v = .ref b ∧ WsAt K H b ws ∧ Wish hs ws := by
  cases h with
  | @fine b xs ws hS hE few ok wi =>
    refine ⟨b, ws, rfl, ?_, wi⟩
    have go : ∀ (ws : List (Int × Int)) (xs : List V), EachW K H xs (ws.map wsP) → ∃ rs : List Addr, xs = rs.map V.ref ∧ PrAt H rs ws := fun ws => by
      induction ws with
      | nil =>
        intro xs e
        have := e.len
        cases xs with
        | nil => exact ⟨[], rfl, True.intro⟩
        | cons x xs => cases this
      | cons w ws ih =>
        intro xs e
        have len := e.len
        cases xs with
        | nil => cases len
        | cons x xs =>
          obtain ⟨rs, er, hr⟩ := ih xs ⟨by simpa using len, fun i y o h1 h2 => e.at_ (i + 1) y o h1 h2⟩
          have h0 := e.at_ 0 x (wsP w) rfl rfl
          cases h0 with
          | @pair r _ _ _ _ h1 _ _ => exact ⟨r :: rs, by rw [er]; rfl, h1, hr⟩
    obtain ⟨rs, rfl, hr⟩ := go ws xs hE
    exact ⟨rs, hS, hr⟩
inductive ErrK where
  | heights
  | wishes
def ErrK.cls : ErrK → Str
  | .heights => "InvalidHeights"
  | .wishes => "InvalidWishes"
def ErrK.fld : ErrK → Str
  | .heights => "index"
  | .wishes => "index"
def ErrK.at_ : ErrK → Nat
  | .heights => 7
  | .wishes => 8
abbrev FliesE (K : PySem.W.Frag) (E : XK) (e : ErrK) (v : V) (H : Hp) : Prop := Flies K E e.cls e.fld v H
inductive GW (K : PySem.W.Frag) (H : Hp) : V → V → Option (ErrK × V) → Prop
  | hts {v0 v1 x : V} {hs : List Int} : HtF K H v0 (some x) hs → GW K H v0 v1 (some (.heights, x))
  | wsh {v0 v1 x : V} {hs : List Int} : HtF K H v0 none hs → AkF K H hs v1 (some x) → GW K H v0 v1 (some (.wishes, x))
  | fine {v0 v1 : V} {hs : List Int} : HtF K H v0 none hs → AkF K H hs v1 none → GW K H v0 v1 none
theorem GW.same {H G : Hp} {v0 v1 : V} {o : Option (ErrK × V)} (h : GW K H v0 v1 o) (s : Same H G) : GW K G v0 v1 o := by
  cases h with
  | hts a => exact .hts (a.same s)
  | wsh a b => exact .wsh (a.same s) (b.same s)
  | fine a b => exact .fine (a.same s) (b.same s)
theorem HtF.good {H : Hp} {v : V} {ns : List Int} (h : HtF K H v none ns) : ∃ a : Addr, v = .ref a ∧ SqT K H a (ns.map V.int) ∧ Asc ns := by
  cases h with
  | asc a b => exact ⟨_, rfl, a, b⟩
def spErrW (K : PySem.W.Frag) : Sp := fun vs H Q E => ∃ (v0 v1 : V) (e : ErrK) (v : V), vs = [v0, v1] ∧ GW K H v0 v1 (some (e, v)) ∧ FliesE K E e v H
theorem ok_checkwX (D : Df K mg "check_wishes" s_check_wishes) (c_check_heights : ClX P w K mg base 5 "check_heights" s_check_heights ["heights"] (spCheckHX K)) (c_wrong_wish : Cl P w K mg base 5 "wrong_wish" s_wrong_wish ["heights", "wishes"] (spWrongWA K)) (ec_InvalidWishes : EC P w K mg base "InvalidWishes" "index")
    (m_isinstance : mg "isinstance" = none) (m_tuple : mg "tuple" = none) : ClX P w K mg base 6 "check_wishes" s_check_wishes ["heights", "wishes"] (spErrW K) := by
  refine D.okX sc_check_wishes (fun _ _ _ _ _ _ us hl => match us, hl with | [_, _], _ => rfl) (fun vs H Q E h => ?_) (fun f cdv A outer s H vs Q E hr h => ?_)
  · obtain ⟨v0, v1, e, v, rfl, _⟩ := h
    rfl
  · obtain ⟨v0, v1, e, v, rfl, ha, qe⟩ := h
    refine ⟨_, 
      (pss_cons (ps_expr (pe_x c_check_heights takesD hr (by omega) (by rfl) (pa_cons (pv 0) pa_nil))) 
      (pss_cons (ps_if (pt_not (pt_val (pe_callB call_isi (by rfl) m_isinstance (by decide +kernel) (pa_cons (pv 1) (pa_cons (pe_bltn (v := .ty "tuple") (by rfl) m_tuple (by decide +kernel) rfl) pa_nil))))) (pss_one (ps_raise rfl takesD (pmk_e ec_InvalidWishes hr (by omega) (by rfl) (pa_cons pe_non pa_nil)))) pss_nil) 
      (pss_cons (ps_set (i := 2) sc_check_wishes.nd rfl (Or.inl rfl) (pe_u c_wrong_wish hr (by omega) (by rfl) (pa_cons (pv 0) (pa_cons (pv 1) pa_nil)))) 
      (pss_one (ps_if (pt_cmpR op_notN (pv 2) pe_non (nomark _)) (pss_one (ps_raise rfl takesD (pmk_e ec_InvalidWishes hr (by omega) (by rfl) (pa_cons (pv 2) pa_nil)))) pss_nil))))), ?_⟩
    cases ha with
    | hts h0 => exact ⟨_, rfl, v0, some _, _, rfl, h0, (fun z => nomatch z), fun y ey => by cases ey; exact qe⟩
    | wsh h0 h1 =>
      obtain ⟨a, rfl, hS, asc⟩ := h0.good
      refine ⟨_, rfl, _, none, _, rfl, h0, (fun _ H1 s1 => ?_), fun y ey => nomatch ey⟩
      cases h1 with
      | @other _ T t n =>
        refine ⟨_, rfl, v1, .ty "tuple", .type T, .type "tuple", _, rfl, .ty _, (t.same s1).ty, kit_tuple t.mem, _, rfl, ?_⟩
        rw [decide_eq_false n]
        exact iteT ⟨_, rfl, fun d nd => qe d _ (s1.trans (same_upd nd)) upd_same⟩
      | @wrong b xs ps i hX hE few lt ho hb =>
        have hR := SqT.same s1 hX
        refine ⟨_, rfl, .ref b, .ty "tuple", .type "tuple", .type "tuple", _, rfl, .ty _, (Tv.tup hR).ty, kit_tuple (Tv.tup hR).mem, _, rfl, iteF ?_⟩
        refine ⟨_, rfl, _, rfl, a, b, _, xs, ps, rfl, SqT.same s1 hS, asc.row, hR, hE.same s1, few, fun j lj oj hj H2 s2 => ?_, fun all => ?_⟩
        · have e : j = i := by
            rcases Nat.lt_trichotomy i j with z | z | z
            · rw [hj i z] at ho
              cases ho
            · exact z.symm
            · rw [hb j z] at oj
              cases oj
          subst e
          refine ⟨_, rfl, rfl, _, rfl, ?_⟩
          exact iteT ⟨_, rfl, _, rfl, fun d nd => qe d _ ((s1.trans s2).trans (same_upd nd)) upd_same⟩
        · rw [all i lt] at ho
          cases ho
theorem ok_countwX (D : Df K mg "count_words" s_count_words) (c_check_wishes : ClX P w K mg base 6 "check_wishes" s_check_wishes ["heights", "wishes"] (spErrW K)) (c_next_steps : Cl P w K mg base 2 "next_steps" s_next_steps ["heights", "wishes", "index", "shorts"] (spSteps K)) (c_may_stand : Cl P w K mg base 1 "may_stand" s_may_stand ["person", "index", "wishes"] (spMayS K))
    (m_range : mg "range" = none) (m_len : mg "len" = none) (m_sum : mg "sum" = none) : ClX P w K mg base 7 "count_words" s_count_words ["heights", "wishes"] (spErrW K) := by
  refine D.okX sc_count_words (fun _ _ _ _ _ _ us hl => match us, hl with | [_, _], _ => rfl) (fun vs H Q E h => ?_) (fun f cdv A outer s H vs Q E hr h => ?_)
  · obtain ⟨v0, v1, e, v, rfl, _⟩ := h
    rfl
  · obtain ⟨v0, v1, e, v, rfl, ha, qe⟩ := h
    refine ⟨_, 
      (pss_cons (ps_expr (pe_x c_check_wishes takesD hr (by omega) (by rfl) (pa_cons (pv 0) (pa_cons (pv 1) pa_nil)))) (PSs.nox 
      (pss_cons (ps_set (i := 2) sc_count_words.nd rfl (Or.inr rfl) (pe_disp (pps_cons pe_int pe_int pps_nil) rfl rfl (by simp) (by decide))) 
      (pss_cons (ps_for PassesOwn.never rfl (pi_range3 (by rfl) m_range (pa_cons (pe_op op_sub (pe_callB call_lenS (by rfl) m_len (by decide +kernel) (pa_cons (pv 0) pa_nil)) pe_int) (pa_cons pe_int (pa_cons (pe_un un_neg pe_int) pa_nil)))) (pg_name (i := 3) sc_count_words.nd rfl (Or.inl rfl)) (pss_cons (ps_set (i := 4) sc_count_words.nd rfl (Or.inl rfl) pe_dnewK) (pss_cons (ps_lock (ps_for PassesOwn.never rfl (pi_keys (pv 2)) (pg_name (i := 5) sc_count_words.nd rfl (Or.inl rfl)) (pss_one (ps_for PassesOwn.never rfl (pi_list (pe_u c_next_steps hr (by omega) (by rfl) (pa_cons (pv 0) (pa_cons (pv 1) (pa_cons (pv 3) (pa_cons (pv 5) pa_nil)))))) (pg_tup (by rfl) (pgs_cons (pg_name (i := 6) sc_count_words.nd rfl (Or.inl rfl)) (pgs_cons (pg_name (i := 7) sc_count_words.nd rfl (Or.inl rfl)) pgs_nil))) (pss_one (ps_dput (uni hr) (pv 4) (pv 7) (pe_op op_add (pe_dget2 (uni hr) (pv 4) (pv 7) pe_int ⟨rfl, rfl, rfl, rfl⟩) (pe_dget (uni hr) (pv 2) (pv 5) (fun _ _ => rfl))) (by rfl))))))) (pss_one (ps_set (i := 2) sc_count_words.nd rfl (Or.inr rfl) (pv 4)))))) 
      (pss_one (ps_ret (pe_callB (cr_sum rfl) (by rfl) m_sum (by decide +kernel) (pa_cons (pe_lock (pe_lc (own := [("shorts", 5)]) (g := gName 5) (te := (tDGet (tVar 2) (tVar 5))) (tt := (tB (tCall (spMayS K) [] E0 (tCons (tOp (rIxT K) (tVar 0) (tVar 5)) (tCons (tC _) (tCons (tVar 1) tNil)))))) rfl sc_count_words.nd (pi_keys (pv 2)) (blkOk_by (own := [("shorts", 5)]) (N := N_count_words) (sc := (defScope s_count_words)) (by decide +kernel)) (fun _ _ _ _ _ => (pg_name (i := 5) sc_count_words.nd rfl (Or.inl rfl))) (fun _ _ _ _ _ => pts_one (pt_val (pe_u c_may_stand hr (by omega) (by rfl) (pa_cons (pe_ix ix_tup (pv 0) (pv 5) (fun _ _ => rfl)) (pa_cons pe_int (pa_cons (pv 1) pa_nil)))))) (fun _ _ _ _ _ => (pe_dget (uni hr) (pv 2) (pv 5) (fun _ _ => rfl))))) pa_nil)))))))), ?_⟩
    exact ⟨_, rfl, _, rfl, v0, v1, e, v, rfl, ha, qe⟩
theorem ok_firstwX (D : Df K mg "first_word" s_first_word) (c_check_wishes : ClX P w K mg base 6 "check_wishes" s_check_wishes ["heights", "wishes"] (spErrW K)) (c_next_steps : Cl P w K mg base 2 "next_steps" s_next_steps ["heights", "wishes", "index", "shorts"] (spSteps K)) (c_may_stand : Cl P w K mg base 1 "may_stand" s_may_stand ["person", "index", "wishes"] (spMayS K))
    (m_range : mg "range" = none) (m_len : mg "len" = none) (m_min : mg "min" = none) : ClX P w K mg base 7 "first_word" s_first_word ["heights", "wishes"] (spErrW K) := by
  refine D.okX sc_first_word (fun _ _ _ _ _ _ us hl => match us, hl with | [_, _], _ => rfl) (fun vs H Q E h => ?_) (fun f cdv A outer s H vs Q E hr h => ?_)
  · obtain ⟨v0, v1, e, v, rfl, _⟩ := h
    rfl
  · obtain ⟨v0, v1, e, v, rfl, ha, qe⟩ := h
    refine ⟨_, 
      (pss_cons (ps_expr (pe_x c_check_wishes takesD hr (by omega) (by rfl) (pa_cons (pv 0) (pa_cons (pv 1) pa_nil)))) (PSs.nox 
      (pss_cons (ps_set (i := 2) sc_first_word.nd rfl (Or.inr rfl) (pe_disp (pps_cons pe_int pe_str pps_nil) rfl rfl (by simp) (by decide))) 
      (pss_cons (ps_for PassesOwn.never rfl (pi_range3 (by rfl) m_range (pa_cons (pe_op op_sub (pe_callB call_lenS (by rfl) m_len (by decide +kernel) (pa_cons (pv 0) pa_nil)) pe_int) (pa_cons pe_int (pa_cons (pe_un un_neg pe_int) pa_nil)))) (pg_name (i := 3) sc_first_word.nd rfl (Or.inl rfl)) (pss_cons (ps_set (i := 4) sc_first_word.nd rfl (Or.inl rfl) pe_dnewK) (pss_cons (ps_lock (ps_for PassesOwn.never rfl (pi_keys (pv 2)) (pg_name (i := 5) sc_first_word.nd rfl (Or.inl rfl)) (pss_one (ps_for PassesOwn.never rfl (pi_list (pe_u c_next_steps hr (by omega) (by rfl) (pa_cons (pv 0) (pa_cons (pv 1) (pa_cons (pv 3) (pa_cons (pv 5) pa_nil)))))) (pg_tup (by rfl) (pgs_cons (pg_name (i := 6) sc_first_word.nd rfl (Or.inl rfl)) (pgs_cons (pg_name (i := 7) sc_first_word.nd rfl (Or.inl rfl)) pgs_nil))) (pss_cons (ps_set (i := 8) sc_first_word.nd rfl (Or.inl rfl) (pe_op op_add_str (pv 6) (pe_dget (uni hr) (pv 2) (pv 5) (fun _ _ => rfl)))) (pss_one (ps_dput (uni hr) (pv 4) (pv 7) (pe_callB (call_min2S rfl) (by rfl) m_min (by decide +kernel) (pa_cons (pv 8) (pa_cons (pe_dget2 (uni hr) (pv 4) (pv 7) (pv 8) ⟨rfl, rfl, rfl, rfl⟩) pa_nil))) (by rfl)))))))) (pss_one (ps_set (i := 2) sc_first_word.nd rfl (Or.inr rfl) (pv 4)))))) 
      (pss_one (ps_ret (pe_callBK (call_minD rfl (uni hr)) (by rfl) m_min (by decide +kernel) (pa_cons (pe_lock (pe_lc (own := [("shorts", 5)]) (g := gName 5) (te := (tDGet (tVar 2) (tVar 5))) (tt := (tB (tCall (spMayS K) [] E0 (tCons (tOp (rIxT K) (tVar 0) (tVar 5)) (tCons (tC _) (tCons (tVar 1) tNil)))))) rfl sc_first_word.nd (pi_keys (pv 2)) (blkOk_by (own := [("shorts", 5)]) (N := N_first_word) (sc := (defScope s_first_word)) (by decide +kernel)) (fun _ _ _ _ _ => (pg_name (i := 5) sc_first_word.nd rfl (Or.inl rfl))) (fun _ _ _ _ _ => pts_one (pt_val (pe_u c_may_stand hr (by omega) (by rfl) (pa_cons (pe_ix ix_tup (pv 0) (pv 5) (fun _ _ => rfl)) (pa_cons pe_int (pa_cons (pv 1) pa_nil)))))) (fun _ _ _ _ _ => (pe_dget (uni hr) (pv 2) (pv 5) (fun _ _ => rfl))))) pa_nil) (pk_cons pe_non pk_nil)))))))), ?_⟩
    exact ⟨_, rfl, _, rfl, v0, v1, e, v, rfl, ha, qe⟩
/-! ### good and refused together -/
def spAnyW (K : PySem.W.Frag) : Sp := fun vs H Q E => ∃ (v0 v1 : V) (o : Option (ErrK × V)), vs = [v0, v1] ∧ GW K H v0 v1 o ∧ (∀ e v, o = some (e, v) → FliesE K E e v H) ∧ (o = none → ∀ (x : V) (H' : Hp), Same H H' → Q x H')
theorem any_countw {vs : List V} {H : Hp} {Q : VK} {E : XK} (h : spAnyW K vs H Q E) : spCountW K vs H Q E ∨ spErrW K vs H Q E := by
  obtain ⟨v0, v1, o, rfl, ha, qe, q⟩ := h
  cases o with
  | some ev => exact .inr ⟨v0, v1, ev.1, ev.2, rfl, ha, qe _ _ rfl⟩
  | none =>
    cases ha with
    | fine h0 h1 =>
      obtain ⟨a, rfl, hS, asc⟩ := h0.good
      obtain ⟨b, ws, rfl, hW, wi⟩ := h1.good
      exact .inl ⟨a, b, _, ws, rfl, hS, hW, asc, wi, fun H' s => q rfl _ H' s⟩
theorem any_firstw {vs : List V} {H : Hp} {Q : VK} {E : XK} (h : spAnyW K vs H Q E) : spFirstW K vs H Q E ∨ spErrW K vs H Q E := by
  obtain ⟨v0, v1, o, rfl, ha, qe, q⟩ := h
  cases o with
  | some ev => exact .inr ⟨v0, v1, ev.1, ev.2, rfl, ha, qe _ _ rfl⟩
  | none =>
    cases ha with
    | fine h0 h1 =>
      obtain ⟨a, rfl, hS, asc⟩ := h0.good
      obtain ⟨b, ws, rfl, hW, wi⟩ := h1.good
      exact .inl ⟨a, b, _, ws, rfl, hS, hW, asc, wi, fun H' s => q rfl _ H' s⟩
end
section
theorem op_inK {X : Cx} {K : PySem.W.Frag} (e : X.K = K) : OpR X (compareOp .In) (rIn K false) := by
  rw [← e]
  exact op_in_seq
theorem ix_listK {X : Cx} {K : PySem.W.Frag} (e : X.K = K) : IxR X (rIxL K) := by
  rw [← e]
  exact ix_list
/-- a def that may raise, called by these names -/
def IsXK (P : Program) (w : World) (K : PySem.W.Frag) (mg : Str → Option Value) (base : Heap) (k : Nat) (f : Addr) (ks : List Str) (g : {α : Type} → List α → List α) (sp : Sp) : Prop := ∃ (fd : FuncData) (ps : List Str), FnOk P w K mg base (L2.CX P w) k f fd ps sp ∧ PySem.W.keepIn K (.ref f) = true ∧ KBn K fd ps 0 ks (fun _ ws => g ws) (fun _ zs => g zs)
theorem ClX.isXK {P : Program} {w : World} {K : PySem.W.Frag} {mg : Str → Option Value} {base : Heap} {k : Nat} {x : Str} {st : Stmt} {ps ks : List Str} {sp : Sp} {a : Addr} (g : {α : Type} → List α → List α) (c : ClX P w K mg base k x st ps sp) (hm : mg x = some (.ref a))
    (bd : ∀ (kV doc pm : Value) (an : Option Addr) (cdv ct : Value) (ws : List Value), ws.length = ks.length → bindArgs (PySem.W.fnOf x x (defArgs st) (defBody st) (defScope st) .none kV doc pm an cdv ct) ⟨[], ks.zip ws⟩ = pure (ps.zip (g ws)))
    (rel : ∀ {zs : List V} {ws : List Value}, Vals zs ws → Vals (g zs) (g ws)) : IsXK P w K mg base k a ks g sp := by
  obtain ⟨f, fd, F, G, m, b⟩ := c.ex
  cases m.symm.trans hm
  refine ⟨fd, ps, G, F.kp, ?_⟩
  obtain ⟨oc, od, dV, kV, doc, pm, an, cdv, ct, osl, rfl, lk, hcd, hD, hK⟩ := F.ex
  rcases hD with ⟨_, rfl⟩ | ⟨z, _⟩
  · refine ⟨fun s us ws X1 l1 l2 => ?_, fun _ r => rel r⟩
    have e0 : us = [] := List.length_eq_zero_iff.mp l1
    subst e0
    exact .of_eq (bd kV doc pm an cdv ct ws l2)
  · exact absurd rfl z
def tCallEK (P : Program) (w : World) (K : PySem.W.Frag) (mg : Str → Option Value) (base : Heap) (j : Nat) (ks : List Str) (g : {α : Type} → List α → List α) (W : WX) (te : TE) (tk : TA) : TE := fun σ H Q => te σ H fun x H1 => ∃ (k : Nat) (f : Addr) (sp : Sp), k ≤ j ∧ x = .ref f ∧ IsXK P w K mg base k f ks g sp ∧ tk σ H1 fun zs H2 => zs.length = ks.length ∧ sp (g zs) H2 Q (WE W σ)
/-- [f, g][i](k = v): it may raise -/
theorem pe_xek {X : Cx} {P : Program} {w : World} {K : PySem.W.Frag} {mg : Str → Option Value} {base : Heap} (e1 : X.prog = P) (e2 : X.w = w) (e3 : X.K = K) (e4 : X.mg = mg) (e5 : X.base = base) {v i : Expr} {te : TE} {tk : TA} {W : WX} {j : Nat} {p pos : Pos} {ks : List Str} {kws : List Keyword} (g : {α : Type} → List α → List α) (hw : Takes X W) (hr : Room j X.A) (hf : PE X (.Subscript v i p) te) (hkw : PK X kws tk)
    (hall : (backToKw pos (keywordEach kws X.env)).all (·.1.isSome) = true := by rfl) (hks : (backToKw pos (keywordEach kws X.env)).filterMap (·.1) = ks := by rfl)
    (hpl : ((backTo pos (starEach [] X.env)).any (·.1) || (backToKw pos (keywordEach kws X.env)).any (·.1.isNone)) = false := by rfl) :
    PE X (.Call (.Subscript v i p) [] kws pos) (tCallEK P w K mg base j ks g W te tk) := by
  subst e1 e2 e3 e4 e5
  refine ⟨fun pins s σ H Q I h => ?_⟩
  show wpAny (model X.prog X.w) X.A (do callWith pos (← eval (.Subscript v i p) X.env) [] (backTo pos (starEach [] X.env)) (backToKw pos (keywordEach kws X.env))) _ _ _
  refine wpAny_bind (thn (hf.run pins s σ H _ I h) fun u s1 hh => ?_)
  obtain ⟨x, H1, I1, rx, k, f, sp, hk, ex, ⟨fd, ps, G, kp, kb⟩, q⟩ := hh
  subst ex
  cases rx
  refine PySem.W.callWith_KW0 (h₀ := X.base) I1.ok.mod.kin kp hall (thn (hkw.run pos pins s1 σ H1 _ I1 q) fun ws s2 hh => ?_) hpl
  obtain ⟨zs, H2, I2, rz, l2, q2⟩ := hh
  refine ⟨I2.kIn, ?_⟩
  rw [hks]
  have given := kb.to s2 [] ws I2.kIn rfl (rz.length.symm.trans l2)
  have done := G.run X.A X.stack s2 H2 ⟨[], ks.zip ws⟩ (g ws) (g zs) Q (WE W σ) (hr.mono hk) I2.env0 given (kb.rel .nil rz) q2
  refine wpAny_call (codeAny_mono done fun out s3 z => ?_)
  match out, z with
  | .error er, z => exact passAt hw σ pins H2 s2 er s3 I2 z
  | .ok (.ret _), z => exact I2.after z
  | .ok .next, z => exact z.elim
  | .ok .brk, z => exact z.elim
  | .ok .cont, z => exact z.elim
end
section
variable {P : Program} {w : World} {K : PySem.W.Frag} {mg : Str → Option Value} {base : Heap}
/-! ### what is caught -/
abbrev emAt (K : PySem.W.Frag) (x : Str) : Prop := PySem.W.exmAny K (.ref (He.ga K x)) [.ref (He.ga K "PassError"), .ref (He.ga K "FindError"), .ref (He.ga K "LimitError")] = some true
def toldV : Option (ErrK × V) → V
  | none => .str "told"
  | some (e, _) => .int ((e.at_ : Nat) : Int)
def TellsZ (K : PySem.W.Frag) (H : Hp) : Option (ErrK × V) → Str → Prop
  | none, z => z = ""
  | some (_, v), z => RpE K H v z
theorem TellsZ.same {H G : Hp} {o : Option (ErrK × V)} {z : Str} (h : TellsZ K H o z) (s : Same H G) : TellsZ K G o z := by
  cases o with
  | none => exact h
  | some ev => exact RpE.same (K := K) (v := ev.2) h s
def AskAt (K : PySem.W.Frag) (H : Hp) (v0 v1 : V) (k : V) (z : Str) : Prop := ∃ o, GW K H v0 v1 o ∧ k = toldV o ∧ TellsZ K H o z
/-- what the except suite may ask of the error classes -/
def ErrsOk (K : PySem.W.Frag) : Prop := ∀ e : ErrK, XfC K (He.ga K e.cls) ∧ PySem.W.findIn K (.ref (He.ga K e.cls)) e.fld = some none ∧ SortOk K e.cls e.at_ ∧ emAt K e.cls
theorem PE.or {X : Cx} {e : Expr} {t1 t2 : TE} (h1 : PE X e t1) (h2 : PE X e t2) : PE X e (fun σ H Q => t1 σ H Q ∨ t2 σ H Q) := ⟨fun pins s σ H Q I h => h.elim (h1.run pins s σ H Q I) (h2.run pins s σ H Q I)⟩
abbrev s__law_caught : Stmt := top 66
abbrev N__law_caught : List Str := ["_law_door", "_law_persons_here", "_law_asked", "_law_e", "_law_found"]
theorem sc__law_caught : FnScope N__law_caught ["_law_door", "_law_persons_here", "_law_asked"] (defScope s__law_caught) := ⟨rfl, rfl, rfl, by decide +kernel, rfl, by decide +kernel, by decide +kernel⟩
def spCaught (K : PySem.W.Frag) : Sp := fun vs H Q _ => ∃ (dr : Nat) (v0 v1 : V) (k : V) (z : Str), vs = [.int ((dr : Nat) : Int), v0, v1] ∧ dr ≤ 3 ∧ AskAt K H v0 v1 k z ∧ ∀ (t : Addr) (H' : Hp), Same H H' → H' t = some (.tup [k, .str z]) → Q (.ref t) H'
theorem ok_caught (D : Df K mg "_law_caught" s__law_caught) (c_count_words : ClX P w K mg base 8 "count_words" s_count_words ["heights", "wishes"] (spAnyW K)) (c_first_word : ClX P w K mg base 8 "first_word" s_first_word ["heights", "wishes"] (spAnyW K)) (c__law_sort : ClZ P w K mg base 1 "_law_sort" s__law_sort ["_law_e"] (spSortZ K)) (ers : ErrsOk K)
    (g_count_words : mg "count_words" = some (.ref (He.ga K "count_words"))) (g_first_word : mg "first_word" = some (.ref (He.ga K "first_word")))
    (g_PassError : mg "PassError" = some (.ref (He.ga K "PassError"))) (g_FindError : mg "FindError" = some (.ref (He.ga K "FindError"))) (g_LimitError : mg "LimitError" = some (.ref (He.ga K "LimitError")))
    (m_repr : mg "repr" = none) : ClG P w K mg base 10 "_law_caught" s__law_caught ["_law_door", "_law_persons_here", "_law_asked"] (spCaught K) := by
  have x0 := c_count_words.isXK (ks := ["wishes", "heights"]) swap2 g_count_words (fun _ _ _ _ _ _ ws hl => match ws, hl with | [_, _], _ => rfl) rel_swap2
  have x1 := c_first_word.isXK (ks := ["wishes", "heights"]) swap2 g_first_word (fun _ _ _ _ _ _ ws hl => match ws, hl with | [_, _], _ => rfl) rel_swap2
  refine D.okG sc__law_caught (fun _ _ _ _ _ _ us hl => match us, hl with | [_, _, _], _ => rfl) (fun vs H Q E h => ?_) (fun f cdv A outer s H vs Q E hr hgd h => ?_)
  · obtain ⟨dr, v0, v1, k, z, rfl, _⟩ := h
    rfl
  · obtain ⟨dr, v0, v1, k, z, rfl, d3, ⟨o, g, hk, tz⟩, q⟩ := h
    refine ⟨_, 
      (pss_cons (ps_tryO (i := 3) rfl rfl sc__law_caught.nd rfl rfl (tst3 (by rfl) (by rfl) (by rfl) g_PassError g_FindError g_LimitError) (fun W pn xe tk po => (pss_one (ps_if (pt_cmpR op_eq (pv 0) pe_int (nomark _)) (pss_one (ps_expr (pe_x c_count_words tk hr (by omega) (by rfl) (pa_cons (pv 1) (pa_cons (pv 2) pa_nil))))) (pss_one (ps_if (pt_cmpR op_eq (pv 0) pe_int (nomark _)) (pss_one (ps_expr (pe_x c_first_word tk hr (by omega) (by rfl) (pa_cons (pv 1) (pa_cons (pv 2) pa_nil))))) (pss_one (ps_expr (pe_xek (P := P) (w := w) (K := K) (mg := mg) (base := base) rfl rfl rfl rfl rfl (ks := ["wishes", "heights"]) swap2 tk hr (pe_ix (ix_listK (K := K) rfl) (pe_lst (pa_cons (pe_glob (v := .ref (He.ga K "count_words")) (by rfl) g_count_words rfl) (pa_cons (pe_glob (v := .ref (He.ga K "first_word")) (by rfl) g_first_word rfl) pa_nil))) (pe_op op_sub (pv 0) pe_int) (fun _ _ => rfl)) (pk_cons (pv 2) (pk_cons (pv 1) pk_nil)))))))))) (fun a oe cls d pn hz hf => have hrh := rm_mark hr (some (.ref a)); have hp0 : (a, oe) ∈ ((a, oe) :: pn) := List.mem_cons_self; (pss_cons (ps_set (i := 4) sc__law_caught.nd rfl (Or.inl rfl) (pe_z (p := (a, oe)) c__law_sort hrh (by omega) hp0 (by rfl) (pa_cons (pv 3) pa_nil))) (pss_one (ps_ret (pe_ifExp (pt_cmpR (op_inK (K := K) rfl) (pv 4) (pe_lst (pa_cons pe_int (pa_cons pe_int pa_nil))) (by rfl)) (pe_tup (pa_cons (pv 4) (pa_cons (pe_callB (call_reprK (K := K) rfl hrh hgd) (by rfl) m_repr (by decide +kernel) (pa_cons (PE.or (pe_xf (ers ErrK.heights).1 (ers ErrK.heights).2.1 hz hf (pv 3)) (pe_xf (ers ErrK.wishes).1 (ers ErrK.wishes).2.1 hz hf (pv 3))) pa_nil)) pa_nil))) (pe_tup (pa_cons (pv 4) (pa_cons pe_str pa_nil))))))))) 
      (pss_one (ps_ret (pe_tup (pa_cons pe_str (pa_cons pe_str pa_nil)))))), ?_⟩
    have two : ∀ x y : V, ([x, y] : List V).length ≤ sizeLine := fun _ _ => by show 2 ≤ sizeLine; decide
    have good : ∀ (G : Hp), Same H G → o = none → ∀ t, G t = none → Q (.ref t) (upd G t (.tup [.str "told", .str ""])) := fun G s1 eo t nt => by
      subst eo
      have ez : z = "" := tz
      subst ez
      subst hk
      exact q t _ (s1.trans (same_upd nt)) upd_same
    have qD : ∀ (e : ErrK) (v : V), o = some (e, v) → RpE K H v z ∧ ∀ (G : Hp), Same H G → ∀ t, G t = none → Q (.ref t) (upd G t (.tup [.int ((e.at_ : Nat) : Int), .str z])) := fun e v eo => by
      subst eo
      subst hk
      exact ⟨tz, fun G s1 t nt => q t _ (s1.trans (same_upd nt)) upd_same⟩
    clear tz
    by_cases e0 : dr = 0
    · subst e0
      refine ⟨_, rfl, rfl, _, rfl, iteT ⟨_, rfl, _, rfl, v0, v1, o, rfl, g, fun e v eo d H1 s1 hd => ?_, fun eo x H1 s1 => ?_⟩⟩
      · obtain ⟨rz, q2⟩ := qD e v eo
        obtain ⟨xf, noN, so, em⟩ := ers e
        refine ⟨em, fun a na oe hz hf => ?_⟩
        refine ⟨_, rfl, e.cls, d, _, e.at_, rfl, ⟨hz, hf⟩, hd, so, fun H2 s2 => ?_⟩
        have sA := s1.trans s2
        refine ⟨_, rfl, two _ _, fun p np => ⟨p, _, rfl, .inl (.inl (.inl upd_same)), rfl, rfl, _, rfl, ?_⟩⟩
        have sp_ := same_upd (o := .lst [.int 7, .int 8]) np
        have sB := sA.trans sp_
        have hd2 := sp_ _ _ (s2 _ _ hd)
        replace q2 := q2 _ sB
        generalize upd H2 p (.lst [.int 7, .int 8]) = H3 at sB hd2 q2 ⊢
        cases e with
        | heights => exact iteT ⟨_, rfl, .inl ⟨_, rfl, rfl, rfl, d, _, _, rfl, hd2, rfl, _, z, rfl, rz.same sB, two _ _, q2⟩⟩
        | wishes => exact iteT ⟨_, rfl, .inr ⟨_, rfl, rfl, rfl, d, _, _, rfl, hd2, rfl, _, z, rfl, rz.same sB, two _ _, q2⟩⟩
      · exact ⟨two _ _, good H1 s1 eo⟩
    · by_cases e1 : dr = 1
      · subst e1
        refine ⟨_, rfl, rfl, _, rfl, iteF ⟨_, rfl, rfl, _, rfl, iteT ⟨_, rfl, _, rfl, v0, v1, o, rfl, g, fun e v eo d H1 s1 hd => ?_, fun eo x H1 s1 => ?_⟩⟩⟩
        · obtain ⟨rz, q2⟩ := qD e v eo
          obtain ⟨xf, noN, so, em⟩ := ers e
          refine ⟨em, fun a na oe hz hf => ?_⟩
          refine ⟨_, rfl, e.cls, d, _, e.at_, rfl, ⟨hz, hf⟩, hd, so, fun H2 s2 => ?_⟩
          have sA := s1.trans s2
          refine ⟨_, rfl, two _ _, fun p np => ⟨p, _, rfl, .inl (.inl (.inl upd_same)), rfl, rfl, _, rfl, ?_⟩⟩
          have sp_ := same_upd (o := .lst [.int 7, .int 8]) np
          have sB := sA.trans sp_
          have hd2 := sp_ _ _ (s2 _ _ hd)
          replace q2 := q2 _ sB
          generalize upd H2 p (.lst [.int 7, .int 8]) = H3 at sB hd2 q2 ⊢
          cases e with
          | heights => exact iteT ⟨_, rfl, .inl ⟨_, rfl, rfl, rfl, d, _, _, rfl, hd2, rfl, _, z, rfl, rz.same sB, two _ _, q2⟩⟩
          | wishes => exact iteT ⟨_, rfl, .inr ⟨_, rfl, rfl, rfl, d, _, _, rfl, hd2, rfl, _, z, rfl, rz.same sB, two _ _, q2⟩⟩
        · exact ⟨two _ _, good H1 s1 eo⟩
      · obtain ⟨c, e2⟩ : ∃ c : Nat, dr = c + 2 ∧ c < 2 := ⟨dr - 2, by omega, by omega⟩
        obtain ⟨rfl, c2⟩ := e2
        refine ⟨_, rfl, rfl, _, rfl, ?_⟩
        rw [decide_eq_false (show ¬ V.int ((c + 2 : Nat) : Int) = V.int 0 from fun z => by have := V.int.inj z; omega)]
        refine iteF ⟨_, rfl, rfl, _, rfl, ?_⟩
        rw [decide_eq_false (show ¬ V.int ((c + 2 : Nat) : Int) = V.int 1 from fun z => by have := V.int.inj z; omega)]
        refine iteF ⟨two _ _, fun L nL => ?_⟩
        have sL := same_upd (o := .lst [.ref (He.ga K "count_words"), .ref (He.ga K "first_word")]) nL
        have hL : upd H L (.lst [.ref (He.ga K "count_words"), .ref (He.ga K "first_word")]) L = some (.lst [.ref (He.ga K "count_words"), .ref (He.ga K "first_word")]) := upd_same
        generalize upd H L (.lst [.ref (He.ga K "count_words"), .ref (He.ga K "first_word")]) = G at sL hL ⊢
        refine ⟨_, rfl, _, _, rfl, rfl, ?_⟩
        have ei : ((c + 2 : Nat) : Int) - 2 = ((c : Nat) : Int) := by omega
        have pick2 : ∃ f : Addr, atI [V.ref (He.ga K "count_words"), .ref (He.ga K "first_word")] (((c + 2 : Nat) : Int) - 2) = some (.ref f) ∧ IsXK P w K mg base 8 f ["wishes", "heights"] swap2 (spAnyW K) := by
          rw [ei]
          match c, c2 with
          | 0, _ => exact ⟨_, atI_nat (j := 0) rfl, x0⟩
          | 1, _ => exact ⟨_, atI_nat (j := 1) rfl, x1⟩
        obtain ⟨f, hf, hx⟩ := pick2
        refine ⟨L, _, _, _, rfl, rfl, .inl (.inl hL), hf, 8, f, _, by omega, rfl, hx, _, rfl, _, rfl, rfl, v0, v1, o, rfl, g.same sL, fun e v eo d H1 s1' hd => ?_, fun eo x H1 s1' => ?_⟩
        all_goals have s1 := sL.trans s1'
        · obtain ⟨rz, q2⟩ := qD e v eo
          obtain ⟨xf, noN, so, em⟩ := ers e
          refine ⟨em, fun a na oe hz hf => ?_⟩
          refine ⟨_, rfl, e.cls, d, _, e.at_, rfl, ⟨hz, hf⟩, hd, so, fun H2 s2 => ?_⟩
          have sA := s1.trans s2
          refine ⟨_, rfl, two _ _, fun p np => ⟨p, _, rfl, .inl (.inl (.inl upd_same)), rfl, rfl, _, rfl, ?_⟩⟩
          have sp_ := same_upd (o := .lst [.int 7, .int 8]) np
          have sB := sA.trans sp_
          have hd2 := sp_ _ _ (s2 _ _ hd)
          replace q2 := q2 _ sB
          generalize upd H2 p (.lst [.int 7, .int 8]) = H3 at sB hd2 q2 ⊢
          cases e with
          | heights => exact iteT ⟨_, rfl, .inl ⟨_, rfl, rfl, rfl, d, _, _, rfl, hd2, rfl, _, z, rfl, rz.same sB, two _ _, q2⟩⟩
          | wishes => exact iteT ⟨_, rfl, .inr ⟨_, rfl, rfl, rfl, d, _, _, rfl, hd2, rfl, _, z, rfl, rz.same sB, two _ _, q2⟩⟩
        · exact ⟨two _ _, good H1 s1 eo⟩
end
section
variable {P : Program} {w : World} {K : PySem.W.Frag} {mg : Str → Option Value} {base : Heap}
/-! ### what the law finds wrong -/
abbrev s__law_whole : Stmt := top 60
abbrev N__law_whole : List Str := ["_law_thing"]
theorem sc__law_whole : FnScope N__law_whole ["_law_thing"] (defScope s__law_whole) := ⟨rfl, rfl, rfl, by decide +kernel, rfl, by decide +kernel, by decide +kernel⟩
theorem ok_lawwhole (D : Df K mg "_law_whole" s__law_whole) (m_isinstance : mg "isinstance" = none) (m_int : mg "int" = none) (m_bool : mg "bool" = none) : Cl P w K mg base 1 "_law_whole" s__law_whole ["_law_thing"] (spWhole K) := by
  refine D.ok sc__law_whole (fun _ _ _ _ _ _ us hl => match us, hl with | [_], _ => rfl) (fun vs H Q E h => ?_) (fun f cdv A outer s H vs Q E hr h => ?_)
  · obtain ⟨v, T, rfl, _⟩ := h
    rfl
  · obtain ⟨v, T, rfl, t, q⟩ := h
    refine ⟨_, 
      (pss_one (ps_ret (pe_and (pe_callB call_isi (by rfl) m_isinstance (by decide +kernel) (pa_cons (pv 0) (pa_cons (pe_bltn (v := .ty "int") (by rfl) m_int (by decide +kernel) rfl) pa_nil))) (pe_one (pe_not (pe_callB call_isi (by rfl) m_isinstance (by decide +kernel) (pa_cons (pv 0) (pa_cons (pe_bltn (v := .ty "bool") (by rfl) m_bool (by decide +kernel) rfl) pa_nil)))))))), ?_⟩
    refine ⟨_, rfl, v, .ty "int", .type T, .type "int", _, rfl, .ty _, t.ty, kit_int t.mem, _, rfl, ?_⟩
    by_cases h1 : T = "int"
    · rw [decide_eq_true h1, Bool.true_or]
      refine iteT ⟨_, rfl, v, .ty "bool", .type T, .type "bool", _, rfl, .ty _, t.ty, kit_bool t.mem, _, rfl, ?_⟩
      rw [decide_eq_true h1] at q
      rw [decide_eq_false (show ¬ T = "bool" by rw [h1]; decide)]
      exact q
    · rw [decide_eq_false h1] at q
      rw [decide_eq_false h1, Bool.false_or]
      by_cases h2 : T = "bool"
      · rw [decide_eq_true h2]
        refine iteT ⟨_, rfl, v, .ty "bool", .type T, .type "bool", _, rfl, .ty _, t.ty, kit_bool t.mem, _, rfl, ?_⟩
        rw [decide_eq_true h2]
        exact q
      · rw [decide_eq_false h2]
        exact iteF q
theorem asc_ok {ns : List Int} (h : Asc ns) (i : Nat) (hi : i < ns.length) : okUp (ns.map V.int) i = true := by
  unfold okUp
  rw [List.getElem?_map, List.getElem?_eq_getElem hi]
  have rg := h.row.rng ns[i] (List.getElem_mem hi)
  show ((decide (1 ≤ ns[i]) && decide (ns[i] ≤ 999)) && _) = true
  rw [decide_eq_true rg.1, decide_eq_true rg.2]
  by_cases h0 : i = 0
  · rw [decide_eq_true h0]
    rfl
  · rw [decide_eq_false h0, List.getElem?_map, List.getElem?_eq_getElem (show i - 1 < ns.length by omega)]
    exact decide_eq_true (List.pairwise_iff_getElem.mp h.up (i - 1) i (by omega) hi (by omega))
theorem HtF.three {H : Hp} {v : V} {fo : Option V} {ns : List Int} (h : HtF K H v fo ns) : (∃ T, Tv K H v T ∧ T ≠ "tuple" ∧ fo = some .non) ∨ (∃ (a : Addr) (xs : List V), v = .ref a ∧ SqT K H a xs ∧ (decide (1 ≤ xs.length) && decide (xs.length ≤ 12)) = false ∧ fo = some .non) ∨
    ∃ (a : Addr) (xs : List V), v = .ref a ∧ SqT K H a xs ∧ 1 ≤ xs.length ∧ xs.length ≤ 12 ∧ (∀ x ∈ xs, ∃ T, Tv K H x T) ∧ ((∀ i, i < xs.length → okUp xs i = true) → fo = none) ∧ (∀ i, i < xs.length → okUp xs i = false → (∀ j < i, okUp xs j = true) → fo = some (.int (i : Nat))) := by
  cases h with
  | other t hn => exact .inl ⟨_, t, hn, rfl⟩
  | long hS hn => exact .inr (.inl ⟨_, _, rfl, hS, hn, rfl⟩)
  | @wrong a xs i hS l1 l2 hT lt ho hb =>
    refine .inr (.inr ⟨_, _, rfl, hS, l1, l2, hT, fun ha => ?_, fun j lj oj hj => ?_⟩)
    · rw [ha i lt] at ho
      cases ho
    · have e : j = i := by
        rcases Nat.lt_trichotomy i j with z | z | z
        · rw [hj i z] at ho
          cases ho
        · exact z.symm
        · rw [hb j z] at oj
          cases oj
      rw [e]
  | @asc a ns hS hasc =>
    refine .inr (.inr ⟨a, _, rfl, hS, by rw [List.length_map]; exact hasc.row.pos, by rw [List.length_map]; exact hasc.row.most, fun x hx => ?_, fun _ => rfl, fun i lt ho => ?_⟩)
    · obtain ⟨n, _, rfl⟩ := List.mem_map.mp hx
      exact ⟨_, Tv.int n⟩
    · rw [asc_ok hasc i (by rw [List.length_map] at lt; exact lt)] at ho
      cases ho
def rV : Option V → V
  | some x => x
  | none => .str "fine"
abbrev s__law_wrong_persons : Stmt := top 64
abbrev N__law_wrong_persons : List Str := ["_law_thing", "_law_k", "_law_one"]
theorem sc__law_wrong_persons : FnScope N__law_wrong_persons ["_law_thing"] (defScope s__law_wrong_persons) := ⟨rfl, rfl, rfl, by decide +kernel, rfl, by decide +kernel, by decide +kernel⟩
def spWrP (K : PySem.W.Frag) : Sp := fun vs H Q _ => ∃ (v : V) (fo : Option V) (ns : List Int), vs = [v] ∧ HtF K H v fo ns ∧ ∀ H', Same H H' → Q (rV fo) H'
theorem ok_wrp (D : Df K mg "_law_wrong_persons" s__law_wrong_persons) (c__law_whole : Cl P w K mg base 1 "_law_whole" s__law_whole ["_law_thing"] (spWhole K)) (m_isinstance : mg "isinstance" = none) (m_tuple : mg "tuple" = none) (m_len : mg "len" = none) (m_enumerate : mg "enumerate" = none) : Cl P w K mg base 2 "_law_wrong_persons" s__law_wrong_persons ["_law_thing"] (spWrP K) := by
  refine D.ok sc__law_wrong_persons (fun _ _ _ _ _ _ us hl => match us, hl with | [_], _ => rfl) (fun vs H Q E h => ?_) (fun f cdv A outer s H vs Q E hr h => ?_)
  · obtain ⟨v, fo, ns, rfl, _⟩ := h
    rfl
  · obtain ⟨v, fo, ns, rfl, hv, q⟩ := h
    refine ⟨_, 
      (pss_cons (ps_if (PW.pt (pw_or (pt_not (pt_val (pe_callB call_isi (by rfl) m_isinstance (by decide +kernel) (pa_cons (pv 0) (pa_cons (pe_bltn (v := .ty "tuple") (by rfl) m_tuple (by decide +kernel) rfl) pa_nil))))) (pw_or1 (pt_not (pt_chain op_lt op_lt pe_int (pe_callB call_lenS (by rfl) m_len (by decide +kernel) (pa_cons (pv 0) pa_nil)) pe_int))))) (pss_one (ps_ret pe_non)) pss_nil) 
      (pss_cons (ps_for PassesOwn.never rfl (pi_enumT (by rfl) m_enumerate (pa_cons (pv 0) pa_nil)) (pg_tup (by rfl) (pgs_cons (pg_name (i := 1) sc__law_wrong_persons.nd rfl (Or.inl rfl)) (pgs_cons (pg_name (i := 2) sc__law_wrong_persons.nd rfl (Or.inl rfl)) pgs_nil))) (pss_one (ps_if (PW.pt (pw_or (pt_not (pt_val (pe_u c__law_whole hr (by omega) (by rfl) (pa_cons (pv 2) pa_nil)))) (pw_or (pt_not (pt_chain op_le op_le pe_int (pv 2) pe_int)) (pw_or1 (PW.pt (pw_and (pt_cmpR op_gt (pv 1) pe_int (nomark _)) (pw_and1 (pt_cmpR op_le (pv 2) (pe_ix ix_tup (pv 0) (pe_op op_sub (pv 1) pe_int) (fun _ _ => rfl)) (nomark _))))))))) (pss_one (ps_ret (pv 1))) pss_nil))) 
      (pss_one (ps_ret pe_str)))), ?_⟩
    rcases hv.three with ⟨T, t, hn, rfl⟩ | ⟨a, xs, rfl, hS, hn, rfl⟩ | ⟨a, xs, rfl, hS, l1, l2, hT, f1, f2⟩
    · refine ⟨_, rfl, v, .ty "tuple", .type T, .type "tuple", _, rfl, .ty _, t.ty, kit_tuple t.mem, _, rfl, ?_⟩
      rw [decide_eq_false hn]
      exact iteT (q _ (Same.refl H))
    · refine ⟨_, rfl, .ref a, .ty "tuple", .type "tuple", .type "tuple", _, rfl, .ty _, (Tv.tup hS).ty, kit_tuple (Tv.tup hS).mem, _, rfl, ?_⟩
      rw [decide_eq_true rfl]
      refine iteF ?_
      refine ⟨_, rfl, a, xs, rfl, .inr hS, _, _, rfl, rfl, _, rfl, ?_⟩
      by_cases h1 : 1 ≤ xs.length
      · have h2 : ¬ xs.length ≤ 12 := fun z => by
          rw [decide_eq_true h1, decide_eq_true z] at hn
          cases hn
        rw [decide_eq_true (show (0 : Int) < ((xs.length : Nat) : Int) by omega)]
        refine iteT ⟨_, _, rfl, rfl, _, rfl, ?_⟩
        rw [decide_eq_false (show ¬ ((xs.length : Nat) : Int) < 13 by omega)]
        exact iteT (q _ (Same.refl H))
      · rw [decide_eq_false (show ¬ (0 : Int) < ((xs.length : Nat) : Int) by omega)]
        exact iteF ⟨_, rfl, iteT (q _ (Same.refl H))⟩
    · refine ⟨_, rfl, .ref a, .ty "tuple", .type "tuple", .type "tuple", _, rfl, .ty _, (Tv.tup hS).ty, kit_tuple (Tv.tup hS).mem, _, rfl, ?_⟩
      rw [decide_eq_true rfl]
      refine iteF ?_
      refine ⟨_, rfl, a, xs, rfl, .inr hS, _, _, rfl, rfl, _, rfl, ?_⟩
      rw [decide_eq_true (show (0 : Int) < ((xs.length : Nat) : Int) by omega)]
      refine iteT ⟨_, _, rfl, rfl, _, rfl, ?_⟩
      rw [decide_eq_true (show ((xs.length : Nat) : Int) < 13 by omega)]
      refine iteF ?_
      refine ⟨_, rfl, a, xs, rfl, hS, ?_⟩
      refine walk_enumT (xs := xs) (fun i σ G => ∃ y1 y2 : Option V, σ = [some (.ref a), y1, y2] ∧ Same H G ∧ ∀ j < i, okUp xs j = true) ⟨none, none, rfl, Same.refl H, fun j hj => absurd hj (Nat.not_lt_zero j)⟩ (fun i σ G _ hI => ?_) (fun i x T σ G hx hI nT => ?_) (fun σ G hI => ?_)
      · obtain ⟨_, _, _, sm, _⟩ := hI
        exact SqT.same sm hS
      · obtain ⟨y1, y2, rfl, sm, oks⟩ := hI
        have lt : i < xs.length := (List.getElem?_eq_some_iff.mp hx).1
        have smT := sm.trans (same_upd (o := .tup [.int (i : Nat), x]) nT)
        obtain ⟨Tn, t⟩ := hT x (List.mem_of_getElem? hx)
        refine ⟨T, _, rfl, .inl (.inl upd_same), rfl, _, _, rfl, _, _, rfl, rfl, ?_⟩
        have bad : okUp xs i = false → ∀ H', Same H H' → Q (.int (i : Nat)) H' := fun e H' s => by
          have r := q H' s
          rw [f2 i lt e oks] at r
          exact r
        have more : okUp xs i = true → ∀ j < i + 1, okUp xs j = true := fun e j hj => by
          rcases Nat.lt_succ_iff_lt_or_eq.mp hj with z | z
          · exact oks j z
          · rw [z]
            exact e
        have okE : okUp xs i = match (some x : Option V) with
          | some (.int n) => (decide (1 ≤ n) && decide (n ≤ 999)) && (decide (i = 0) || (match xs[i - 1]? with
            | some (.int p) => decide (p < n)
            | _ => true))
          | some _ => false
          | none => true := by
          unfold okUp
          first
            | (rw [hx]; done)
            | (rw [hx]; cases x <;> rfl)
        refine ⟨_, rfl, x, Tn, rfl, t.same smT, _, rfl, ?_⟩
        by_cases hi : Tn = "int"
        · subst hi
          obtain ⟨n, rfl⟩ := t.int_of
          have okE : okUp xs i = ((decide (1 ≤ n) && decide (n ≤ 999)) && (decide (i = 0) || (match xs[i - 1]? with
            | some (.int p) => decide (p < n)
            | _ => true))) := okE
          rw [decide_eq_true rfl]
          refine iteF ⟨_, rfl, _, _, rfl, rfl, _, rfl, ?_⟩
          by_cases n1 : 1 ≤ n
          · rw [decide_eq_true n1] at okE ⊢
            refine iteT ⟨_, _, rfl, rfl, _, rfl, ?_⟩
            by_cases n2 : n ≤ 999
            · rw [decide_eq_true n2] at okE ⊢
              refine iteF ⟨_, rfl, _, _, rfl, rfl, _, rfl, ?_⟩
              by_cases i0 : i = 0
              · rw [decide_eq_false (show ¬ (0 : Int) < ((i : Nat) : Int) by omega)]
                rw [decide_eq_true i0] at okE
                exact iteF (iteF ⟨_, _, rfl, smT, more okE⟩)
              · rw [decide_eq_true (show (0 : Int) < ((i : Nat) : Int) by omega)]
                obtain ⟨pv_, hp, _⟩ := up_int (by omega) (oks (i - 1) (by omega))
                rw [decide_eq_false i0, hp] at okE
                have okE : okUp xs i = decide (pv_ < n) := by
                  rw [okE]
                  rfl
                refine iteT ⟨_, rfl, _, rfl, _, rfl, _, _, rfl, rfl, a, _, _, .int pv_, rfl, rfl, SqT.same smT hS, ?_, _, _, rfl, rfl, _, rfl, ?_⟩
                · rw [show ((i : Nat) : Int) - 1 = ((i - 1 : Nat) : Int) by omega]
                  exact atI_nat hp
                · by_cases z : pv_ < n
                  · rw [decide_eq_false (by omega)]
                    rw [decide_eq_true z] at okE
                    exact iteF ⟨_, _, rfl, smT, more okE⟩
                  · rw [decide_eq_true (by omega)]
                    rw [decide_eq_false z] at okE
                    exact iteT ⟨_, rfl, bad okE _ smT⟩
            · rw [decide_eq_false n2] at okE ⊢
              exact iteT (iteT ⟨_, rfl, bad okE _ smT⟩)
          · rw [decide_eq_false n1] at okE ⊢
            exact iteF ⟨_, rfl, iteT (iteT ⟨_, rfl, bad okE _ smT⟩)⟩
        · rw [decide_eq_false hi]
          have no : okUp xs i = false := by
            rw [okE]
            cases x with
            | int n => exact absurd t.of_int hi
            | _ => rfl
          exact iteT (iteT ⟨_, rfl, bad no _ smT⟩)
      · obtain ⟨y1, y2, rfl, sm, oks⟩ := hI
        have r := q G sm
        rw [f1 oks] at r
        exact r
end
section
variable {P : Program} {w : World} {K : PySem.W.Frag} {mg : Str → Option Value} {base : Heap}
theorem AkF.three {H : Hp} {hs : List Int} {v : V} {fo : Option V} (h : AkF K H hs v fo) : (∃ T, Tv K H v T ∧ T ≠ "tuple" ∧ fo = some .non) ∨
    ∃ (b : Addr) (xs : List V) (ps : List (Option (V × V))), v = .ref b ∧ SqT K H b xs ∧ EachW K H xs ps ∧ xs.length ≤ 1000 ∧ ((∀ i, i < ps.length → okW hs ps i = true) → fo = none) ∧ (∀ i, i < ps.length → okW hs ps i = false → (∀ j < i, okW hs ps j = true) → fo = some (.int (i : Nat))) := by
  cases h with
  | other t n => exact .inl ⟨_, t, n, rfl⟩
  | @wrong b xs ps i hS hE few lt ho hb =>
    refine .inr ⟨_, _, _, rfl, hS, hE, few, fun ha => ?_, fun j lj oj hj => ?_⟩
    · rw [ha i lt] at ho
      cases ho
    · have e : j = i := by
        rcases Nat.lt_trichotomy i j with z | z | z
        · rw [hj i z] at ho
          cases ho
        · exact z.symm
        · rw [hb j z] at oj
          cases oj
      rw [e]
  | @fine b xs ws hS hE few ok wi =>
    refine .inr ⟨_, _, _, rfl, hS, hE, few, fun _ => rfl, fun i lt ho => ?_⟩
    rw [ok i (by rw [List.length_map] at lt; exact lt)] at ho
    cases ho
abbrev s__law_wrong_asked : Stmt := top 65
abbrev N__law_wrong_asked : List Str := ["_law_persons_here", "_law_thing", "_law_used", "_law_last", "_law_k", "_law_one"]
theorem sc__law_wrong_asked : FnScope N__law_wrong_asked ["_law_persons_here", "_law_thing"] (defScope s__law_wrong_asked) := ⟨rfl, rfl, rfl, by decide +kernel, rfl, by decide +kernel, by decide +kernel⟩
def spWrA (K : PySem.W.Frag) : Sp := fun vs H Q _ => ∃ (a : Addr) (hs : List Int) (v : V) (fo : Option V), vs = [.ref a, v] ∧ SqT K H a (hs.map V.int) ∧ Row hs ∧ AkF K H hs v fo ∧ ∀ H', Same H H' → Q (rV fo) H'
theorem ok_wra (D : Df K mg "_law_wrong_asked" s__law_wrong_asked) (c__law_whole : Cl P w K mg base 1 "_law_whole" s__law_whole ["_law_thing"] (spWhole K)) (m_isinstance : mg "isinstance" = none) (m_tuple : mg "tuple" = none) (m_len : mg "len" = none) (m_enumerate : mg "enumerate" = none) : Cl P w K mg base 2 "_law_wrong_asked" s__law_wrong_asked ["_law_persons_here", "_law_thing"] (spWrA K) := by
  refine D.ok sc__law_wrong_asked (fun _ _ _ _ _ _ us hl => match us, hl with | [_, _], _ => rfl) (fun vs H Q E h => ?_) (fun f cdv A outer s H vs Q E hr h => ?_)
  · obtain ⟨a, hs, v, fo, rfl, _⟩ := h
    rfl
  · obtain ⟨a, hs, v, fo, rfl, hA, row, hv, q⟩ := h
    refine ⟨_, 
      (pss_cons (ps_if (pt_not (pt_val (pe_callB call_isi (by rfl) m_isinstance (by decide +kernel) (pa_cons (pv 1) (pa_cons (pe_bltn (v := .ty "tuple") (by rfl) m_tuple (by decide +kernel) rfl) pa_nil))))) (pss_one (ps_ret pe_non)) pss_nil) 
      (pss_cons (ps_par (i := 2) (j := 3) (by rfl) sc__law_wrong_asked.nd rfl rfl (by decide) rfl rfl (pa_cons (pe_lst pa_nil) (pa_cons (pe_un un_neg pe_int) pa_nil)) (by rfl)) 
      (pss_cons (ps_for PassesOwn.never rfl (pi_enumT (by rfl) m_enumerate (pa_cons (pv 1) pa_nil)) (pg_tup (by rfl) (pgs_cons (pg_name (i := 4) sc__law_wrong_asked.nd rfl (Or.inl rfl)) (pgs_cons (pg_name (i := 5) sc__law_wrong_asked.nd rfl (Or.inl rfl)) pgs_nil))) (pss_cons (ps_if (PW.pt (pw_or (pt_not (pt_val (pe_callB call_isi (by rfl) m_isinstance (by decide +kernel) (pa_cons (pv 5) (pa_cons (pe_bltn (v := .ty "tuple") (by rfl) m_tuple (by decide +kernel) rfl) pa_nil))))) (pw_or (pt_cmpR op_ne (pe_callB call_lenS (by rfl) m_len (by decide +kernel) (pa_cons (pv 5) pa_nil)) pe_int (nomark _)) (pw_or (pt_not (pt_val (pe_u c__law_whole hr (by omega) (by rfl) (pa_cons (pe_ix ix_tup (pv 5) pe_int (fun _ _ => rfl)) pa_nil)))) (pw_or1 (pt_not (pt_val (pe_u c__law_whole hr (by omega) (by rfl) (pa_cons (pe_ix ix_tup (pv 5) pe_int (fun _ _ => rfl)) pa_nil))))))))) (pss_one (ps_ret (pv 4))) pss_nil) (pss_cons (ps_if (PW.pt (pw_or (pt_cmpR op_notIn_seq (pe_ix ix_tup (pv 5) pe_int (fun _ _ => rfl)) (pv 0) (by rfl)) (pw_or (pt_cmpR op_in_seq (pe_ix ix_tup (pv 5) pe_int (fun _ _ => rfl)) (pv 2) (by rfl)) (pw_or1 (pt_not (pt_chain op_lt op_lt (pv 3) (pe_ix ix_tup (pv 5) pe_int (fun _ _ => rfl)) (pe_callB call_lenS (by rfl) m_len (by decide +kernel) (pa_cons (pv 0) pa_nil)))))))) (pss_one (ps_ret (pv 4))) pss_nil) (pss_cons (ps_expr (pe_bm PySem.F.plainAttrs_list PySem.F.slot_list_append PySem.F.type_list_append mt_append (pv 2) (pa_cons (pe_ix ix_tup (pv 5) pe_int (fun _ _ => rfl)) pa_nil))) (pss_one (ps_set (i := 3) sc__law_wrong_asked.nd rfl (Or.inl rfl) (pe_ix ix_tup (pv 5) pe_int (fun _ _ => rfl)))))))) 
      (pss_one (ps_ret pe_str))))), ?_⟩
    rcases hv.three with ⟨T, t, hn, rfl⟩ | ⟨b, xs, ps, rfl, hS, hE, few, f1, f2⟩
    · refine ⟨_, rfl, v, .ty "tuple", .type T, .type "tuple", _, rfl, .ty _, t.ty, kit_tuple t.mem, _, rfl, ?_⟩
      rw [decide_eq_false hn]
      exact iteT (q _ (Same.refl H))
    · refine ⟨_, rfl, .ref b, .ty "tuple", .type "tuple", .type "tuple", _, rfl, .ty _, (Tv.tup hS).ty, kit_tuple (Tv.tup hS).mem, _, rfl, ?_⟩
      rw [decide_eq_true rfl]
      refine iteF ⟨Nat.zero_le _, fun l nl => ?_⟩
      have s0 := same_upd (o := .lst []) nl
      have pl := hE.len
      refine ⟨_, rfl, _, _, rfl, ?_⟩
      refine ⟨_, rfl, b, xs, rfl, SqT.same s0 hS, ?_⟩
      refine walk_enumT (xs := xs) (fun i σ G => ∃ (y4 y5 : Option V) (la : Int), σ = [some (.ref a), some (.ref b), some (.ref l), some (.int la), y4, y5] ∧ Same H G ∧ G l = some (.lst (firstsL (ps.take i))) ∧ (∀ j < i, okW hs ps j = true) ∧ (i = 0 → la = -1) ∧ (i ≠ 0 → ∃ x : Int, ps[i - 1]? = some (wsP (x, la)))) ⟨none, none, -1, rfl, s0, upd_same, (fun j hj => absurd hj (Nat.not_lt_zero j)), fun _ => rfl, fun h => absurd rfl h⟩ (fun i σ G _ hI => ?_) (fun i x T σ G hx hI nT => ?_) (fun σ G hI => ?_)
      · obtain ⟨_, _, _, _, sm, _⟩ := hI
        exact SqT.same sm hS
      · obtain ⟨y4, y5, la, rfl, sm, hl, oks, la0, la1⟩ := hI
        have sT := same_upd (o := .tup [.int (i : Nat), x]) nT
        have smT := sm.trans sT
        have hlT := sT l _ hl
        have lt : i < xs.length := (List.getElem?_eq_some_iff.mp hx).1
        have ltp : i < ps.length := by omega
        have gp : ps[i]? = some ps[i] := List.getElem?_eq_getElem ltp
        have wv := hE.at_ i x _ hx gp
        obtain ⟨fl, fn⟩ := firsts_flat (Nat.le_of_lt ltp) oks
        refine ⟨T, _, rfl, .inl (.inl upd_same), rfl, _, _, rfl, _, _, rfl, rfl, ?_⟩
        generalize upd G T (.tup [.int (i : Nat), x]) = G1 at smT hlT sT
        have bad : okW hs ps i = false → ∀ H', Same H H' → Q (.int (i : Nat)) H' := fun e H' s => by
          have r := q H' s
          rw [f2 i ltp e oks] at r
          exact r
        have okE : ∀ x y : V, ps[i] = some (x, y) → okW hs ps i = (isW hs (some (x, y)) && (!inV x (firstsL (ps.take i)) && (decide (i = 0) || lessP ps[i - 1]? (some (x, y))))) := fun x y e => by
          unfold okW
          rw [gp, e]
        have okN : ps[i] = none → okW hs ps i = false := fun e => by
          unfold okW
          rw [gp, e]
        generalize ps[i] = o at gp wv okE okN
        cases wv with
        | @other _ T t n =>
          refine ⟨_, rfl, x, .ty "tuple", .type T, .type "tuple", _, rfl, .ty _, (t.same smT).ty, kit_tuple t.mem, _, rfl, ?_⟩
          rw [decide_eq_false n]
          exact iteT (iteT ⟨_, rfl, bad (okN rfl) _ smT⟩)
        | @long r ys hr_ nl2 _ =>
          have hR : SqT K G1 r ys := .inl (.inl (smT _ _ hr_))
          refine ⟨_, rfl, .ref r, .ty "tuple", .type "tuple", .type "tuple", _, rfl, .ty _, (Tv.tup hR).ty, kit_tuple (Tv.tup hR).mem, _, rfl, ?_⟩
          rw [decide_eq_true rfl]
          refine iteF ⟨_, rfl, r, _, rfl, .inr hR, rfl, _, rfl, ?_⟩
          show if (!decide (V.int ((ys.length : Nat) : Int) = V.int 2)) = true then _ else _
          rw [decide_eq_false (show ¬ V.int ((ys.length : Nat) : Int) = V.int 2 from fun z => nl2 (by have := V.int.inj z; omega))]
          exact iteT (iteT ⟨_, rfl, bad (okN rfl) _ smT⟩)
        | @pair r x y T U hr_ tx ty =>
          replace okE := okE _ _ rfl
          have hR : SqT K G1 r [x, y] := .inl (.inl (smT _ _ hr_))
          have g0 : atI [x, y] 0 = some x := atI_nat (j := 0) rfl
          have g1 : atI [x, y] 1 = some y := atI_nat (j := 1) rfl
          refine ⟨_, rfl, .ref r, .ty "tuple", .type "tuple", .type "tuple", _, rfl, .ty _, (Tv.tup hR).ty, kit_tuple (Tv.tup hR).mem, _, rfl, ?_⟩
          rw [decide_eq_true rfl]
          refine iteF ⟨_, rfl, r, _, rfl, .inr hR, rfl, _, rfl, ?_⟩
          refine iteF ⟨_, rfl, r, _, 0, x, rfl, rfl, hR, g0, x, T, rfl, tx.same smT, _, rfl, ?_⟩
          by_cases hTi : T = "int"
          · subst hTi
            obtain ⟨h, rfl⟩ := tx.int_of
            rw [decide_eq_true rfl]
            refine iteF ⟨_, rfl, r, _, 1, y, rfl, rfl, hR, g1, y, U, rfl, ty.same smT, _, rfl, ?_⟩
            by_cases hUi : U = "int"
            · subst hUi
              obtain ⟨k, rfl⟩ := ty.int_of
              rw [decide_eq_true rfl]
              refine iteF ⟨_, rfl, r, _, 0, _, rfl, rfl, hR, g0, _, rfl, a, _, rfl, .inr (SqT.same smT hA), rfl, flat_ints hs, _, rfl, ?_⟩
              show if (!inV (.int h) (hs.map V.int)) = true then _ else _
              rw [inV_ints]
              by_cases hm : h ∈ hs
              · rw [decide_eq_true hm]
                have eW : isW hs (some (.int h, .int k)) = (decide (0 ≤ k) && decide (k ≤ ((hs.length : Nat) : Int) - 1)) := by
                  have rg := row.rng h hm
                  show (heightB (.int h) && (inV (.int h) (hs.map V.int) && _)) = _
                  rw [inV_ints, decide_eq_true hm, show heightB (.int h) = true from by show (decide (1 ≤ h) && decide (h ≤ 999)) = true; rw [decide_eq_true rg.1, decide_eq_true rg.2]; rfl]
                  rfl
                rw [eW] at okE
                refine iteF ⟨_, rfl, r, _, 0, _, rfl, rfl, hR, g0, _, rfl, l, _, rfl, .inl (.inl (.inl hlT)), rfl, fl, _, rfl, ?_⟩
                show if inV (.int h) (firstsL (ps.take i)) = true then _ else _
                cases hin : inV (.int h) (firstsL (ps.take i)) with
                | true =>
                  rw [hin, Bool.not_true, Bool.false_and, Bool.and_false] at okE
                  exact iteT (iteT ⟨_, rfl, bad okE _ smT⟩)
                | false =>
                  rw [hin, Bool.not_false, Bool.true_and] at okE
                  have nn : i ≠ 0 → 0 ≤ la := fun i0 => by
                    obtain ⟨x', gq⟩ := la1 i0
                    obtain ⟨ws, ew, wn, wi⟩ := wish_of_ok i (Nat.le_of_lt ltp) oks
                    have lt1 : i - 1 < ws.length := by omega
                    have gq2 : ps[i - 1]? = some (wsP ws[i - 1]) := by
                      rw [← List.getElem?_take_of_lt (show i - 1 < i by omega), ew, List.getElem?_map, List.getElem?_eq_getElem lt1]
                      rfl
                    have e := Option.some.inj (Option.some.inj (gq.symm.trans gq2))
                    have e2 := V.int.inj (Prod.mk.inj e).2
                    have := (wi.mem _ (List.getElem_mem lt1)).2.1
                    omega
                  have less : (decide (i = 0) || lessP ps[i - 1]? (some (.int h, .int k))) = (decide (i = 0) || decide (la < k)) := by
                    by_cases i0 : i = 0
                    · rw [decide_eq_true i0]
                      rfl
                    · obtain ⟨x', gq⟩ := la1 i0
                      rw [gq]
                      rfl
                  rw [less] at okE
                  refine iteF ⟨_, rfl, _, rfl, r, _, 1, _, rfl, rfl, hR, g1, _, _, rfl, rfl, _, rfl, ?_⟩
                  by_cases c1 : la < k
                  · rw [decide_eq_true c1] at okE ⊢
                    rw [Bool.or_true, Bool.and_true] at okE
                    have k0 : 0 ≤ k := by
                      by_cases i0 : i = 0
                      · have := la0 i0
                        omega
                      · have := nn i0
                        omega
                    rw [decide_eq_true k0, Bool.true_and] at okE
                    refine iteT ⟨_, rfl, a, _, rfl, .inr (SqT.same smT hA), _, _, rfl, rfl, _, rfl, ?_⟩
                    rw [List.length_map]
                    by_cases c2 : k < ((hs.length : Nat) : Int)
                    · rw [decide_eq_true c2]
                      rw [decide_eq_true (by omega)] at okE
                      refine iteF ⟨_, rfl, .inl ⟨rfl, _, .inl (.inl hlT)⟩, _, rfl, r, _, 0, _, rfl, rfl, hR, g0, l, _, _, rfl, rfl, hlT, ?_, ?_⟩
                      · rw [fn]
                        exact len_lt (by omega)
                      · refine ⟨_, rfl, r, _, 1, _, rfl, rfl, .inl (.inl ((upd_ne (ne_of_none hr_ nl)).trans (smT _ _ hr_))), g1, ?_⟩
                        refine ⟨_, _, k, rfl, fun c o eo => ?_, ?_, fun j hj => ?_, fun e => absurd e (Nat.succ_ne_zero i), fun _ => ⟨h, ?_⟩⟩
                        · rw [upd_ne (ne_of_none eo nl)]
                          exact smT c o eo
                        · rw [upd_same, firsts_succ gp]
                        · rcases Nat.lt_succ_iff_lt_or_eq.mp hj with z | z
                          · exact oks j z
                          · rw [z]
                            exact okE
                        · rw [Nat.add_sub_cancel]
                          exact gp
                    · rw [decide_eq_false c2]
                      rw [decide_eq_false (by omega)] at okE
                      exact iteT ⟨_, rfl, bad okE _ smT⟩
                  · rw [decide_eq_false c1] at okE ⊢
                    have no : okW hs ps i = false := by
                      rw [okE]
                      by_cases i0 : i = 0
                      · have := la0 i0
                        rw [decide_eq_false (show ¬ 0 ≤ k by omega)]
                        rfl
                      · rw [decide_eq_false i0]
                        exact Bool.and_false _
                    exact iteF ⟨_, rfl, iteT ⟨_, rfl, bad no _ smT⟩⟩
              · rw [decide_eq_false hm]
                have no : okW hs ps i = false := by
                  rw [okE]
                  show ((heightB (.int h) && (inV (.int h) (hs.map V.int) && _)) && _) = false
                  rw [inV_ints, decide_eq_false hm, Bool.false_and, Bool.and_false]
                  rfl
                exact iteT (iteT ⟨_, rfl, bad no _ smT⟩)
            · rw [decide_eq_false hUi]
              have no : okW hs ps i = false := by
                rw [okE]
                show ((heightB (.int h) && (inV (.int h) (hs.map V.int) && wholeB y 0 (((hs.length : Nat) : Int) - 1))) && _) = false
                rw [show wholeB y 0 (((hs.length : Nat) : Int) - 1) = false from by cases y with
                  | int k => exact absurd ty.of_int hUi
                  | _ => rfl]
                rw [Bool.and_false, Bool.and_false]
                rfl
              exact iteT ⟨_, rfl, bad no _ smT⟩
          · rw [decide_eq_false hTi]
            have no : okW hs ps i = false := by
              rw [okE]
              show ((heightB x && _) && _) = false
              rw [show heightB x = false from by cases x with
                | int k => exact absurd tx.of_int hTi
                | _ => rfl]
              rfl
            exact iteT (iteT ⟨_, rfl, bad no _ smT⟩)
      · obtain ⟨y4, y5, la, rfl, sm, hl, oks, _⟩ := hI
        have r := q G sm
        rw [f1 fun i hi => oks i (by omega)] at r
        exact r
end
section
variable {P : Program} {w : World} {K : PySem.W.Frag} {mg : Str → Option Value} {base : Heap}
/-! ### what is due -/
theorem HtF.kind {H : Hp} {v x : V} {ns : List Int} (h : HtF K H v (some x) ns) : scal x (.str "fine") = true ∧ decide (x = V.str "fine") = false := by
  cases h with
  | other t n => exact ⟨rfl, rfl⟩
  | long t n => exact ⟨rfl, rfl⟩
  | wrong t a b c d e f => exact ⟨rfl, rfl⟩
theorem AkF.kind {H : Hp} {v x : V} {hs : List Int} (h : AkF K H hs v (some x)) : scal x (.str "fine") = true ∧ decide (x = V.str "fine") = false := by
  cases h with
  | other t n => exact ⟨rfl, rfl⟩
  | wrong a b c d e f => exact ⟨rfl, rfl⟩
theorem GW.facts {H : Hp} {v0 v1 : V} {o : Option (ErrK × V)} {k : V} {z : Str} (h : GW K H v0 v1 o) (hk : k = toldV o) (tz : TellsZ K H o z) : ∃ fo hs, HtF K H v0 fo hs ∧ (∀ x, fo = some x → k = .int 7 ∧ RpE K H x z) ∧
    (fo = none → ∃ a : Addr, v0 = .ref a ∧ SqT K H a (hs.map V.int) ∧ Row hs ∧ ∃ fw, AkF K H hs v1 fw ∧ (∀ x, fw = some x → k = .int 8 ∧ RpE K H x z) ∧ (fw = none → k = .str "told" ∧ z = "")) := by
  subst hk
  cases h with
  | hts h0 => exact ⟨_, _, h0, (fun x e => by cases e; exact ⟨rfl, tz⟩), fun e => nomatch e⟩
  | wsh h0 h1 =>
    obtain ⟨a, rfl, hS, asc⟩ := h0.good
    exact ⟨_, _, h0, (fun x e => nomatch e), fun _ => ⟨a, rfl, hS, asc.row, _, h1, (fun x e => by cases e; exact ⟨rfl, tz⟩), fun e => nomatch e⟩⟩
  | fine h0 h1 =>
    obtain ⟨a, rfl, hS, asc⟩ := h0.good
    exact ⟨_, _, h0, (fun x e => nomatch e), fun _ => ⟨a, rfl, hS, asc.row, _, h1, (fun x e => nomatch e), fun _ => ⟨rfl, tz⟩⟩⟩
abbrev s__law_due : Stmt := top 67
abbrev N__law_due : List Str := ["_law_persons_here", "_law_asked", "_law_at"]
theorem sc__law_due : FnScope N__law_due ["_law_persons_here", "_law_asked"] (defScope s__law_due) := ⟨rfl, rfl, rfl, by decide +kernel, rfl, by decide +kernel, by decide +kernel⟩
def spDue (K : PySem.W.Frag) : Sp := fun vs H Q _ => ∃ (v0 v1 : V) (k : V) (z : Str), vs = [v0, v1] ∧ AskAt K H v0 v1 k z ∧ ∀ (t : Addr) (H' : Hp), Same H H' → H' t = some (.tup [k, .str z]) → Q (.ref t) H'
theorem ok_due (D : Df K mg "_law_due" s__law_due) (c__law_wrong_persons : Cl P w K mg base 2 "_law_wrong_persons" s__law_wrong_persons ["_law_thing"] (spWrP K)) (c__law_wrong_asked : Cl P w K mg base 2 "_law_wrong_asked" s__law_wrong_asked ["_law_persons_here", "_law_thing"] (spWrA K)) (m_repr : mg "repr" = none) : ClG P w K mg base 4 "_law_due" s__law_due ["_law_persons_here", "_law_asked"] (spDue K) := by
  refine D.okG sc__law_due (fun _ _ _ _ _ _ us hl => match us, hl with | [_, _], _ => rfl) (fun vs H Q E h => ?_) (fun f cdv A outer s H vs Q E hr hgd h => ?_)
  · obtain ⟨v0, v1, k, z, rfl, _⟩ := h
    rfl
  · obtain ⟨v0, v1, k, z, rfl, ⟨o, g, hk, tz⟩, q⟩ := h
    refine ⟨_, 
      (pss_cons (ps_set (i := 2) sc__law_due.nd rfl (Or.inl rfl) (pe_u c__law_wrong_persons hr (by omega) (by rfl) (pa_cons (pv 0) pa_nil))) 
      (pss_cons (ps_if (pt_cmpR op_ne (pv 2) pe_str (nomark _)) (pss_one (ps_ret (pe_tup (pa_cons pe_int (pa_cons (pe_callB (call_reprE (L2H.roomH_of hr) hgd) (by rfl) m_repr (by decide +kernel) (pa_cons (pv 2) pa_nil)) pa_nil))))) pss_nil) 
      (pss_cons (ps_set (i := 2) sc__law_due.nd rfl (Or.inl rfl) (pe_u c__law_wrong_asked hr (by omega) (by rfl) (pa_cons (pv 0) (pa_cons (pv 1) pa_nil)))) 
      (pss_one (ps_ret (pe_ifExp (pt_cmpR op_eq (pv 2) pe_str (nomark _)) (pe_tup (pa_cons pe_str (pa_cons pe_str pa_nil))) (pe_tup (pa_cons pe_int (pa_cons (pe_callB (call_reprE (L2H.roomH_of hr) hgd) (by rfl) m_repr (by decide +kernel) (pa_cons (pv 2) pa_nil)) pa_nil))))))))), ?_⟩
    have two : ∀ x y : V, ([x, y] : List V).length ≤ sizeLine := fun _ _ => by show 2 ≤ sizeLine; decide
    have fin : ∀ {G : Hp}, Same H G → ∀ t, G t = none → Q (.ref t) (upd G t (.tup [k, .str z])) := fun s t nt => q t _ (s.trans (same_upd nt)) upd_same
    obtain ⟨fo, hs, h0, w1, w2⟩ := g.facts hk tz
    refine ⟨_, rfl, v0, fo, hs, rfl, h0, fun G sG => ?_⟩
    cases fo with
    | some x =>
      obtain ⟨rfl, rz⟩ := w1 x rfl
      obtain ⟨k1, k2⟩ := h0.kind
      refine ⟨_, rfl, k1, _, rfl, ?_⟩
      show if (!decide (x = V.str "fine")) = true then _ else _
      rw [k2]
      exact iteT ⟨_, rfl, x, z, rfl, rz.same sG, two _ _, fin sG⟩
    | none =>
      obtain ⟨a, rfl, hS, row, fw, hw, u1, u2⟩ := w2 rfl
      refine ⟨_, rfl, rfl, _, rfl, iteF ?_⟩
      refine ⟨_, rfl, _, rfl, a, hs, v1, fw, rfl, SqT.same sG hS, row, hw.same sG, fun G2 s2 => ?_⟩
      have sB := sG.trans s2
      cases fw with
      | some x =>
        obtain ⟨rfl, rz⟩ := u1 x rfl
        obtain ⟨k1, k2⟩ := hw.kind
        refine ⟨_, rfl, k1, _, rfl, ?_⟩
        show if decide (x = V.str "fine") = true then _ else _
        rw [k2]
        exact iteF ⟨_, rfl, x, z, rfl, rz.same sB, two _ _, fin sB⟩
      | none =>
        obtain ⟨rfl, rfl⟩ := u2 rfl
        exact ⟨_, rfl, rfl, _, rfl, iteT ⟨two _ _, fin sB⟩⟩
end
section
variable {P : Program} {w : World} {K : PySem.W.Frag} {mg : Str → Option Value} {base : Heap}
/-! ### values that stay, whatever befalls the given list -/
/-- data that can be shown, dicts inside too: how deep, how long its text -/
structure OkR (D : PyData) (dep len : Nat) : Prop where
  deep : D.depth ≤ dep
  shw : D.showable = true
  fits : D.shown.length ≤ len
theorem OkR.le {D : PyData} {a b c e : Nat} (h : OkR D a b) (h1 : a ≤ c) (h2 : b ≤ e) : OkR D c e := ⟨Nat.le_trans h.deep h1, h.shw, Nat.le_trans h.fits h2⟩
theorem okr_all {dep len : Nat} : ∀ {ds : List PyData}, (∀ d ∈ ds, OkR d dep len) → PyData.depthAll ds ≤ dep ∧ PyData.showableAll ds = true ∧ ((PyData.shownAll ds).map (·.length)).sum ≤ ds.length * len ∧ (PyData.shownAll ds).length = ds.length
  | [], _ => by simp [PyData.depthAll, PyData.showableAll, PyData.shownAll]
  | d :: ds, h => by
    obtain ⟨a2, a3, a4, a5⟩ := okr_all fun x hx => h x (List.mem_cons_of_mem _ hx)
    have b := h d List.mem_cons_self
    have b2 := b.deep
    have b4 := b.fits
    refine ⟨?_, ?_, ?_, ?_⟩
    · simp only [PyData.depthAll]
      omega
    · simp only [PyData.showableAll, b.shw, a3, Bool.and_self]
    · simp only [PyData.shownAll, List.map_cons, List.sum_cons, List.length_cons, Nat.succ_mul]
      omega
    · simp only [PyData.shownAll, List.length_cons, a5]
theorem OkR.tup {ds : List PyData} {dep len m : Nat} (h : ∀ d ∈ ds, OkR d dep len) (hm : ds.length ≤ m) : OkR (.tuple ds) (dep + 1) (m * len + 2 * m + 3) := by
  obtain ⟨a2, a3, a4, a5⟩ := okr_all h
  refine ⟨by simp only [PyData.depth]; omega, by simp only [PyData.showable, a3], ?_⟩
  simp only [PyData.shown]
  have l := tupleText_len_le (PyData.shownAll ds)
  have l2 : ds.length * len ≤ m * len := Nat.mul_le_mul_right _ hm
  omega
theorem OkR.lst {ds : List PyData} {dep len m : Nat} (h : ∀ d ∈ ds, OkR d dep len) (hm : ds.length ≤ m) : OkR (.list ds) (dep + 1) (m * len + 2 * m + 3) := by
  obtain ⟨a2, a3, a4, a5⟩ := okr_all h
  refine ⟨by simp only [PyData.depth]; omega, by simp only [PyData.showable, a3], ?_⟩
  simp only [PyData.shown]
  have l := listText_len_le (PyData.shownAll ds)
  have l2 : ds.length * len ≤ m * len := Nat.mul_le_mul_right _ hm
  omega
theorem OkR.non : OkR .none 0 5 := ⟨by simp [PyData.depth], by simp [PyData.showable], by decide +kernel⟩
theorem OkR.bl (b : Bool) : OkR (.bool b) 0 5 := by cases b <;> exact ⟨by decide, by decide, by decide +kernel⟩
theorem OkR.int {i : Int} (h : i.natAbs.log2 < 1920) : OkR (.int i) 0 1921 := by
  refine ⟨by simp only [PyData.depth]; decide, by simp only [PyData.showable]; exact decide_eq_true h, ?_⟩
  simp only [PyData.shown]
  exact int_text_len_1921 h
theorem OkR.str {z : Str} {m : Nat} (hm : z.cps.size ≤ m) (h : ∀ c ∈ z.cps.toList, c < 128) : OkR (.str z) 0 (10 * m + 2) := by
  refine ⟨by simp [PyData.depth], by simp [PyData.showable], ?_⟩
  have h1 := StrLaws.reprText_len z fun c hc => Nat.lt_trans (h c hc) (by decide)
  have e : z.length = z.cps.size := rfl
  show (reprText z).length ≤ _
  omega
theorem OkR.dct : OkR (.dict []) 1 5 := ⟨by decide, by decide +kernel, by decide +kernel⟩
/-- what stands outside of S stays -/
def KpS (S : Addr → Prop) (H H' : Hp) : Prop := ∀ b o, H b = some o → ¬ S b → H' b = some o
section
variable {S : Addr → Prop} {H G F : Hp} {v : V} {a : Addr}
theorem KpS.refl : KpS S H H := fun _ _ h _ => h
theorem KpS.trans (h : KpS S H G) (k : KpS S G F) : KpS S H F := fun b o e n => k b o (h b o e n) n
theorem KpS.of_same (s : Same H G) : KpS S H G := fun b o e _ => s b o e
theorem KpS.of_kp (s : S a) (k : Kp a H G) : KpS S H G := fun b o e n => k b o e fun z => n (z ▸ s)
theorem sqt_kps {b : Addr} {xs : List V} (h : SqT K H b xs) (n : ¬ S b) (k : KpS S H G) : SqT K G b xs := by
  rcases h with (h | ⟨o, h⟩) | h
  · exact .inl (.inl (k b _ h n))
  · exact .inl (.inr ⟨o, k b _ h n⟩)
  · exact .inr h
/-- what a value is as data to be shown, whatever befalls S -/
def DrC (K : PySem.W.Frag) (S : Addr → Prop) (H : Hp) (v : V) : Prop := ∃ d, OkR d 4 60000 ∧ ∀ H2, KpS S H H2 → Dr K H2 v d
def TyC (K : PySem.W.Frag) (S : Addr → Prop) (H : Hp) (v : V) (T : String) : Prop := ∀ H2, KpS S H H2 → Tv K H2 v T
def ElC (K : PySem.W.Frag) (S : Addr → Prop) (H : Hp) (v : V) : Prop := (∃ T, TyC K S H v T) ∧ ∃ d, OkR d 1 2000 ∧ ∀ H2, KpS S H H2 → Dr K H2 v d
def LiC (K : PySem.W.Frag) (S : Addr → Prop) (H : Hp) (v : V) : Prop := ((∃ T, TyC K S H v T ∧ T ≠ "tuple") ∨ ∃ (b : Addr) (xs : List V), v = .ref b ∧ (∀ H2, KpS S H H2 → SqT K H2 b xs) ∧ ∀ x ∈ xs, ∃ T, TyC K S H x T) ∧ DrC K S H v
theorem DrC.kp (h : DrC K S H v) (k : KpS S H G) : DrC K S G v := by
  obtain ⟨d, o, h⟩ := h
  exact ⟨d, o, fun H2 k2 => h H2 (k.trans k2)⟩
theorem TyC.kp {T : String} (h : TyC K S H v T) (k : KpS S H G) : TyC K S G v T := fun H2 k2 => h H2 (k.trans k2)
theorem ElC.kp (h : ElC K S H v) (k : KpS S H G) : ElC K S G v := by
  obtain ⟨⟨T, t⟩, d, o, h⟩ := h
  exact ⟨⟨T, t.kp k⟩, d, o, fun H2 k2 => h H2 (k.trans k2)⟩
theorem LiC.kp (h : LiC K S H v) (k : KpS S H G) : LiC K S G v := by
  refine ⟨?_, h.2.kp k⟩
  rcases h.1 with ⟨T, t, n⟩ | ⟨b, xs, e, hS, hx⟩
  · exact .inl ⟨T, t.kp k, n⟩
  · exact .inr ⟨b, xs, e, fun H2 k2 => hS H2 (k.trans k2), fun x hm => (hx x hm).imp fun T t => t.kp k⟩
theorem ElC.all : ∀ {xs : List V}, (∀ x ∈ xs, ElC K S H x) → ∃ ds : List PyData, ds.length = xs.length ∧ (∀ d ∈ ds, OkR d 1 2000) ∧ ∀ H2, KpS S H H2 → DrAll K H2 xs ds
  | [], _ => ⟨[], rfl, (fun d hd => nomatch hd), fun _ _ => .nil⟩
  | x :: xs, h => by
    obtain ⟨ds, e, o, r⟩ := ElC.all fun y hy => h y (List.mem_cons_of_mem _ hy)
    obtain ⟨_, d, od, rd⟩ := h x List.mem_cons_self
    refine ⟨d :: ds, by rw [List.length_cons, List.length_cons, e], fun y hy => ?_, fun H2 k => .cons (rd H2 k) (r H2 k)⟩
    rcases List.mem_cons.mp hy with z | z
    · rw [z]
      exact od
    · exact o y z
theorem LiC.tup {b : Addr} {xs : List V} (hS : SqT K H b xs) (ne : ¬ S b) (hl : xs.length ≤ 26) (h : ∀ x ∈ xs, ElC K S H x) : LiC K S H (.ref b) := by
  obtain ⟨ds, e, o, r⟩ := ElC.all h
  exact ⟨.inr ⟨b, xs, rfl, fun H2 k => sqt_kps hS ne k, fun x hx => (h x hx).1⟩, .tuple ds, (OkR.tup o (show ds.length ≤ 26 by omega)).le (by decide) (by decide), fun H2 k => .tup (sqt_kps hS ne k) (r H2 k)⟩
theorem ElC.int (i : Int) (h : i.natAbs.log2 < 1920) : ElC K S H (.int i) := ⟨⟨_, fun _ _ => Tv.int i⟩, _, (OkR.int h).le (by decide) (by decide), fun _ _ => .int i⟩
theorem ElC.bl (b : Bool) : ElC K S H (.bl b) := ⟨⟨"bool", fun _ _ => ⟨.base (.bl b), by decide⟩⟩, _, (OkR.bl b).le (by decide) (by decide), fun _ _ => .bl b⟩
theorem ElC.non : ElC K S H .non := ⟨⟨"NoneType", fun _ _ => ⟨.base .non, by decide⟩⟩, _, OkR.non.le (by decide) (by decide), fun _ _ => .non⟩
theorem ElC.str (z : Str) (hm : z.cps.size ≤ 100) (h : ∀ c ∈ z.cps.toList, c < 128) : ElC K S H (.str z) := ⟨⟨"str", fun _ _ => ⟨.base (.str z), by decide⟩⟩, _, (OkR.str hm h).le (by decide) (by decide), fun _ _ => .str z⟩
theorem ElC.nil {l : Addr} (h : H l = some (.lst [])) (ne : ¬ S l) (nm : l ≠ sysModules) : ElC K S H (.ref l) := ⟨⟨_, fun _ k => Tv.lst (k l _ h ne)⟩, (.list []), (OkR.lst (ds := []) (dep := 0) (len := 0) (m := 0) (fun d hd => nomatch hd) (Nat.le_refl _)).le (by decide) (by decide), fun H2 k => .lst (k l _ h ne) nm .nil⟩
theorem ElC.dict {l : Addr} (h : H l = some (.dK [])) (ne : ¬ S l) : ElC K S H (.ref l) := ⟨⟨_, fun _ k => Tv.dct (k l _ h ne)⟩, _, OkR.dct.le (by decide) (by decide), fun H2 k => .dct (k l _ h ne)⟩
theorem ElC.ints {ns : List Int} (h : ∀ x ∈ ns, x.natAbs.log2 < 1920) : ∀ x ∈ ns.map V.int, ElC K S H x := fun x hx => by
  obtain ⟨i, hi, rfl⟩ := List.mem_map.mp hx
  exact .int i (h i hi)
theorem ElC.row {ns : List Int} (h : Row ns) : ∀ x ∈ ns.map V.int, ElC K S H x := ElC.ints fun x hx => small_log (h.rng x hx)
theorem ElC.tup1 {l : Addr} {i : Int} (h : H l = some (.tup [.int i])) (ne : ¬ S l) (hi : i.natAbs < 10) : ElC K S H (.ref l) := ⟨⟨_, fun _ k => Tv.tup (.inl (.inl (k l _ h ne)))⟩, .tuple [.int i], (OkR.tup (m := 1) (fun d hd => by
    rw [List.mem_singleton.mp hd]
    exact OkR.int (Nat.lt_of_le_of_lt (Nat.log2_le_self _) (by omega))) (Nat.le_refl _)).le (by decide) (by decide), fun H2 k => .tup (.inl (.inl (k l _ h ne))) (.cons (.int i) .nil)⟩
theorem LiC.el {T : String} (h : ElC K S H v) (t : TyC K S H v T) (n : T ≠ "tuple") : LiC K S H v := by
  obtain ⟨h1, d, o, r⟩ := h
  exact ⟨.inl ⟨T, t, n⟩, d, o.le (by decide) (by decide), r⟩
theorem LiC.list {l : Addr} {xs : List V} (h : H l = some (.lst xs)) (ne : ¬ S l) (nm : l ≠ sysModules) (hl : xs.length ≤ 26) (hx : ∀ x ∈ xs, ElC K S H x) : LiC K S H (.ref l) := by
  obtain ⟨ds, e, o, r⟩ := ElC.all hx
  exact ⟨.inl ⟨"list", fun _ k => Tv.lst (k l _ h ne), by decide⟩, .list ds, (OkR.lst o (show ds.length ≤ 26 by omega)).le (by decide) (by decide), fun H2 k => .lst (k l _ h ne) nm (r H2 k)⟩
/-- one wish, whatever befalls S -/
def WhC (K : PySem.W.Frag) (S : Addr → Prop) (H : Hp) (v : V) : Prop := (∃ o, ∀ H2, KpS S H H2 → WshV K H2 v o) ∧ ∃ d, OkR d 2 7000 ∧ ∀ H2, KpS S H H2 → Dr K H2 v d
/-- what may be asked as wishes, whatever befalls S -/
def AkC (K : PySem.W.Frag) (S : Addr → Prop) (H : Hp) (v : V) : Prop := ((∃ T, TyC K S H v T ∧ T ≠ "tuple") ∨ ∃ (b : Addr) (xs : List V) (ps : List (Option (V × V))), v = .ref b ∧ xs.length ≤ 1000 ∧ (∀ H2, KpS S H H2 → SqT K H2 b xs) ∧ ∀ H2, KpS S H H2 → EachW K H2 xs ps) ∧ ∃ d, OkR d 3 200000 ∧ ∀ H2, KpS S H H2 → Dr K H2 v d
theorem WhC.kp (h : WhC K S H v) (k : KpS S H G) : WhC K S G v := by
  obtain ⟨⟨o, w⟩, d, od, r⟩ := h
  exact ⟨⟨o, fun H2 k2 => w H2 (k.trans k2)⟩, d, od, fun H2 k2 => r H2 (k.trans k2)⟩
theorem AkC.kp (h : AkC K S H v) (k : KpS S H G) : AkC K S G v := by
  obtain ⟨h1, d, od, r⟩ := h
  refine ⟨?_, d, od, fun H2 k2 => r H2 (k.trans k2)⟩
  rcases h1 with ⟨T, t, n⟩ | ⟨b, xs, ps, e, l, hS, hE⟩
  · exact .inl ⟨T, t.kp k, n⟩
  · exact .inr ⟨b, xs, ps, e, l, fun H2 k2 => hS H2 (k.trans k2), fun H2 k2 => hE H2 (k.trans k2)⟩
theorem WhC.el {T : String} (h : ElC K S H v) (t : TyC K S H v T) (n : T ≠ "tuple") : WhC K S H v := by
  obtain ⟨_, d, o, r⟩ := h
  exact ⟨⟨none, fun H2 k => .other (t H2 k) n⟩, d, o.le (by decide) (by decide), r⟩
theorem WhC.list {l : Addr} {xs : List V} (h : H l = some (.lst xs)) (ne : ¬ S l) (nm : l ≠ sysModules) (hl : xs.length ≤ 3) (hx : ∀ x ∈ xs, ElC K S H x) : WhC K S H (.ref l) := by
  obtain ⟨ds, e, o, r⟩ := ElC.all hx
  exact ⟨⟨none, fun H2 k => .other (Tv.lst (k l _ h ne)) (by decide)⟩, .list ds, (OkR.lst o (show ds.length ≤ 3 by omega)).le (by decide) (by decide), fun H2 k => .lst (k l _ h ne) nm (r H2 k)⟩
theorem WhC.tup {r : Addr} {xs : List V} (h : H r = some (.tup xs)) (ne : ¬ S r) (hl : xs.length ≤ 3) (hx : ∀ x ∈ xs, ElC K S H x) : WhC K S H (.ref r) := by
  obtain ⟨ds, e, o, rd⟩ := ElC.all hx
  refine ⟨?_, .tuple ds, (OkR.tup o (show ds.length ≤ 3 by omega)).le (by decide) (by decide), fun H2 k => .tup (.inl (.inl (k r _ h ne))) (rd H2 k)⟩
  by_cases l2 : xs.length = 2
  · match xs, l2, hx with
    | [x, y], _, hx =>
      obtain ⟨⟨T, t⟩, _⟩ := hx x (by simp)
      obtain ⟨⟨U, u⟩, _⟩ := hx y (by simp)
      exact ⟨some (x, y), fun H2 k => .pair (k r _ h ne) (t H2 k) (u H2 k)⟩
  · exact ⟨none, fun H2 k => .long (k r _ h ne) l2 (by omega)⟩
theorem WhC.all : ∀ {xs : List V}, (∀ x ∈ xs, WhC K S H x) → ∃ (ps : List (Option (V × V))) (ds : List PyData), ps.length = xs.length ∧ ds.length = xs.length ∧ (∀ d ∈ ds, OkR d 2 7000) ∧ (∀ H2, KpS S H H2 → EachW K H2 xs ps) ∧ ∀ H2, KpS S H H2 → DrAll K H2 xs ds
  | [], _ => ⟨[], [], rfl, rfl, (fun d hd => nomatch hd), (fun _ _ => ⟨rfl, fun i x o h => by simp at h⟩), fun _ _ => .nil⟩
  | x :: xs, h => by
    obtain ⟨ps, ds, e1, e2, o, w, r⟩ := WhC.all fun y hy => h y (List.mem_cons_of_mem _ hy)
    obtain ⟨⟨p, wp⟩, d, od, rd⟩ := h x List.mem_cons_self
    refine ⟨p :: ps, d :: ds, by rw [List.length_cons, List.length_cons, e1], by rw [List.length_cons, List.length_cons, e2], fun y hy => ?_, fun H2 k => ⟨by rw [List.length_cons, List.length_cons, e1], fun i y o' h1 h2 => ?_⟩, fun H2 k => .cons (rd H2 k) (r H2 k)⟩
    · rcases List.mem_cons.mp hy with z | z
      · rw [z]
        exact od
      · exact o y z
    · cases i with
      | zero =>
        cases h1
        cases h2
        exact wp H2 k
      | succ i => exact (w H2 k).at_ i y o' h1 h2
theorem AkC.tup {b : Addr} {xs : List V} (hS : SqT K H b xs) (ne : ¬ S b) (hl : xs.length ≤ 26) (h : ∀ x ∈ xs, WhC K S H x) : AkC K S H (.ref b) := by
  obtain ⟨ps, ds, e1, e2, o, w, r⟩ := WhC.all h
  exact ⟨.inr ⟨b, xs, ps, rfl, by omega, fun H2 k => sqt_kps hS ne k, w⟩, .tuple ds, (OkR.tup o (show ds.length ≤ 26 by omega)).le (by decide) (by decide), fun H2 k => .tup (sqt_kps hS ne k) (r H2 k)⟩
theorem AkC.el {T : String} (h : ElC K S H v) (t : TyC K S H v T) (n : T ≠ "tuple") : AkC K S H v := by
  obtain ⟨_, d, o, r⟩ := h
  exact ⟨.inl ⟨T, t, n⟩, d, o.le (by decide) (by decide), r⟩
theorem AkC.list {l : Addr} {xs : List V} (h : H l = some (.lst xs)) (ne : ¬ S l) (nm : l ≠ sysModules) (hl : xs.length ≤ 26) (hx : ∀ x ∈ xs, WhC K S H x) : AkC K S H (.ref l) := by
  obtain ⟨ps, ds, e1, e2, o, w, r⟩ := WhC.all hx
  exact ⟨.inl ⟨"list", fun _ k => Tv.lst (k l _ h ne), by decide⟩, .list ds, (OkR.lst o (show ds.length ≤ 26 by omega)).le (by decide) (by decide), fun H2 k => .lst (k l _ h ne) nm (r H2 k)⟩
theorem AkC.ak (hs : List Int) (h : AkC K S H v) : ∃ fo, ∀ H2, KpS S H H2 → AkF K H2 hs v fo := by
  rcases h.1 with ⟨T, t, n⟩ | ⟨b, xs, ps, rfl, few, hS, hE⟩
  · exact ⟨_, fun H2 k => .other (t H2 k) n⟩
  · obtain ⟨fo, w⟩ := ak_any (K := K) (hs := hs) (b := b) (xs := xs) (ps := ps) few
    exact ⟨fo, fun H2 k => w H2 (hS H2 k) (hE H2 k)⟩
theorem LiC.ht (h : LiC K S H v) : ∃ fo ns, ∀ H2, KpS S H H2 → HtF K H2 v fo ns := by
  rcases h.1 with ⟨T, t, n⟩ | ⟨b, xs, rfl, hS, hx⟩
  · exact ⟨_, _, fun H2 k => .other (t H2 k) n⟩
  · obtain ⟨fo, ns, w⟩ := ht_any (K := K) (a := b) (xs := xs)
    exact ⟨fo, ns, fun H2 k => w H2 (hS H2 k) fun x hm => (hx x hm).imp fun T t => t H2 k⟩
theorem WhC.int (i : Int) (h : i.natAbs.log2 < 1920) : WhC K S H (.int i) := .el (.int i h) (fun _ _ => Tv.int _) (by decide)
theorem WhC.non : WhC K S H .non := .el .non (T := "NoneType") (fun _ _ => ⟨.base .non, by decide⟩) (by decide)
theorem WhC.str (z : Str) (hm : z.cps.size ≤ 100) (h : ∀ c ∈ z.cps.toList, c < 128) : WhC K S H (.str z) := .el (.str z hm h) (T := "str") (fun _ _ => ⟨.base (.str _), by decide⟩) (by decide)
theorem AkC.int (i : Int) (h : i.natAbs.log2 < 1920) : AkC K S H (.int i) := .el (.int i h) (fun _ _ => Tv.int _) (by decide)
theorem AkC.bl (b : Bool) : AkC K S H (.bl b) := .el (.bl b) (T := "bool") (fun _ _ => ⟨.base (.bl _), by decide⟩) (by decide)
theorem AkC.non : AkC K S H .non := .el .non (T := "NoneType") (fun _ _ => ⟨.base .non, by decide⟩) (by decide)
theorem AkC.str (z : Str) (hm : z.cps.size ≤ 100) (h : ∀ c ∈ z.cps.toList, c < 128) : AkC K S H (.str z) := .el (.str z hm h) (T := "str") (fun _ _ => ⟨.base (.str _), by decide⟩) (by decide)
end
end
section
variable {P : Program} {w : World} {K : PySem.W.Frag} {mg : Str → Option Value} {base : Heap}
abbrev s__law_odd_persons : Stmt := top 62
abbrev N__law_odd_persons : List Str := ["_law_pool_here", "_law_persons_here", "_law_at", "_law_k", "_law_odd", "_law_some"]
theorem sc__law_odd_persons : FnScope N__law_odd_persons ["_law_pool_here", "_law_persons_here"] (defScope s__law_odd_persons) := ⟨rfl, rfl, rfl, by decide +kernel, rfl, by decide +kernel, by decide +kernel⟩
def spOddP (K : PySem.W.Frag) : Sp := fun vs H Q _ => ∃ (a p : Addr) (ns : List Int) (S : Addr → Prop), vs = [.ref a, .ref p] ∧ Pool H a ∧ S a ∧ ¬ S p ∧ (∀ b, S b → H b ≠ none) ∧ H p = some (.tup (ns.map V.int)) ∧ Row ns ∧ ∀ (v : V) (H' : Hp), Kp a H H' → Pool H' a → LiC K S H' v → Q v H'
theorem ok_oddp (D : Df K mg "_law_odd_persons" s__law_odd_persons) (c__law_draw : Cl P w K mg base 1 "_law_draw" s__law_draw ["_law_pool_here", "_law_limit"] spDraw) (m_len : mg "len" = none) (m_list : mg "list" = none) (m_tuple : mg "tuple" = none) (m_range : mg "range" = none) :
    Cl P w K mg base 2 "_law_odd_persons" s__law_odd_persons ["_law_pool_here", "_law_persons_here"] (spOddP K) := by
  refine D.ok sc__law_odd_persons (fun _ _ _ _ _ _ us hl => match us, hl with | [_, _], _ => rfl) (fun vs H Q E h => ?_) (fun f cdv A outer s H vs Q E hr h => ?_)
  · obtain ⟨a, p, ns, S, rfl, _⟩ := h
    rfl
  · obtain ⟨a, p, ns, S, rfl, hp, Sa, Sp_, hSn, hl, hrow, q⟩ := h
    have pa : p ≠ a := fun e => Sp_ (e ▸ Sa)
    have kS : ∀ {G G' : Hp}, Kp a G G' → KpS S G G' := fun k => .of_kp Sa k
    have outK : ∀ {G : Hp}, Kp a H G → Pool G a → ∀ {q : Addr}, G q = none → ¬ S q := fun {G} k pg {q} nq sq => by
      by_cases e : q = a
      · exact pg.ne nq e
      · cases ho : H q with
        | none => exact hSn q sq ho
        | some o =>
          rw [k q o ho e] at nq
          cases nq
    have most := hrow.most
    have pos := hrow.pos
    refine ⟨_, 
      (pss_cons (ps_par (i := 2) (j := 3) (by rfl) sc__law_odd_persons.nd rfl rfl (by decide) rfl rfl (pa_cons (pe_u c__law_draw hr (by omega) (by rfl) (pa_cons (pv 0) (pa_cons (pe_op op_add (pe_callB call_lenS (by rfl) m_len (by decide +kernel) (pa_cons (pv 1) pa_nil)) pe_int) pa_nil))) (pa_cons (pe_u c__law_draw hr (by omega) (by rfl) (pa_cons (pv 0) (pa_cons (pe_callB call_lenS (by rfl) m_len (by decide +kernel) (pa_cons (pv 1) pa_nil)) pa_nil))) pa_nil)) (by rfl)) 
      (pss_cons (ps_set (i := 4) sc__law_odd_persons.nd rfl (Or.inl rfl) (pe_ix ix_list (pe_lst (pa_cons pe_int (pa_cons pe_int (pa_cons pe_bl (pa_cons pe_non (pa_cons pe_str (pa_cons (pe_tup (pa_cons pe_int pa_nil)) (pa_cons (pe_un un_neg pe_int) (pa_cons (pe_lstB pa_nil) (pa_cons (pe_ix ix_tup (pv 1) (pv 3) (fun _ _ => rfl)) pa_nil)))))))))) (pe_u c__law_draw hr (by omega) (by rfl) (pa_cons (pv 0) (pa_cons pe_int pa_nil))) (fun _ _ => rfl))) 
      (pss_cons (ps_set (i := 5) sc__law_odd_persons.nd rfl (Or.inl rfl) (pe_lst (pa_cons pe_non (pa_cons pe_int (pa_cons pe_str (pa_cons (pe_tup pa_nil) (pa_cons (pe_lstB pa_nil) (pa_cons pe_dnewK (pa_cons (pe_callTy call_listB (by rfl) m_list (by decide +kernel) (pa_cons (pv 1) pa_nil)) (pa_cons (pe_tupRg rfl (by rfl) m_tuple (prg_2 (by rfl) m_range pe_int pe_int)) (pa_cons pe_bl (pa_cons (pe_op op_catB (pe_tup (pa_cons pe_int pa_nil)) (pv 1)) (pa_cons (pe_tup (pa_cons (pe_lstB pa_nil) pa_nil)) pa_nil))))))))))))) 
      (pss_one (ps_ret (pe_ix ix_list (pe_op op_cat (pv 5) (pe_op op_rep (pe_lst (pa_cons (pe_op op_catB (pe_op op_catB (pe_slice sl_tupB (pv 1) po_none (po_some (pv 2))) (pe_tup (pa_cons (pv 4) pa_nil))) (pe_slice sl_tupB (pe_slice sl_tupB (pv 1) (po_some (pv 2)) po_none) po_none (po_some (pe_op op_sub pe_int (pv 2))))) pa_nil)) pe_int)) (pe_u c__law_draw hr (by omega) (by rfl) (pa_cons (pv 0) (pa_cons pe_int pa_nil))) (fun _ _ => rfl))))))), ?_⟩
    -- the draws
    refine ⟨_, rfl, _, rfl, p, _, rfl, .inr (.inl (.inl hl)), _, _, rfl, rfl, a, _, rfl, ?_, ?_, hp, fun d W1 d0 d1 k1 p1 => ?_⟩
    · rw [List.length_map]; omega
    · rw [List.length_map]; omega
    rw [List.length_map] at d1
    obtain ⟨at_, rfl⟩ : ∃ n : Nat, d = (n : Nat) := ⟨d.toNat, by omega⟩
    have hl1 := k1 p _ hl pa
    refine ⟨_, rfl, _, rfl, p, _, rfl, .inr (.inl (.inl hl1)), a, _, rfl, ?_, ?_, p1, fun d W2 d0 d2 k2 p2 => ?_⟩
    · rw [List.length_map]; omega
    · rw [List.length_map]; omega
    rw [List.length_map] at d2
    obtain ⟨k, rfl⟩ : ∃ n : Nat, d = (n : Nat) := ⟨d.toNat, by omega⟩
    have lk_ : k < ns.length := by omega
    have k0 : Kp a H W2 := k1.trans k2
    have hl2 := k2 p _ hl1 pa
    clear hl1 k1 p1 k2
    -- odd
    refine ⟨_, _, rfl, (by show 1 ≤ sizeLine; decide), fun l1 m1 => ?_⟩
    have u1 := same_upd (o := .tup [.int 5]) m1
    have i1 : upd W2 l1 (.tup [.int 5]) l1 = some (.tup [.int 5]) := upd_same
    generalize upd W2 l1 (.tup [.int 5]) = O1 at u1 i1 ⊢
    refine ⟨_, rfl, Nat.zero_le _, fun l2 m2 b2 => ?_⟩
    have u2 := same_upd (o := .lst []) m2
    have i2 : upd O1 l2 (.lst []) l2 = some (.lst []) := upd_same
    generalize upd O1 l2 (.lst []) = O2 at u2 i2 ⊢
    have pl : ∀ {G : Hp}, Same W2 G → Pool G a := fun s => p2.of fun u e => s a u e
    have v3 := u1.trans u2
    have out : ∀ {G : Hp}, Same W2 G → ∀ {q : Addr}, G q = none → ¬ S q := fun {_} s {q} nq => outK (k0.trans (.of_same s)) (pl s) nq
    have c1 := out (Same.refl _) m1
    have c2 := out u1 m2
    refine ⟨_, rfl, _, rfl, p, _, _, .int ns[k], rfl, rfl, .inl (.inl (v3 p _ hl2)), atI_nat (getI lk_), (by show 9 ≤ sizeLine; decide), fun o no => ?_⟩
    have od : ∀ v ∈ [V.int 0, .int 1000, .bl true, .non, .str "5", .ref l1, .int (-1), .ref l2, .int ns[k]], ElC K S O2 v := fun v hv => by
      have e1 : ElC K S O2 (.ref l1) := ElC.tup1 (u2 _ _ i1) c1 (by decide)
      have e2 : ElC K S O2 (.ref l2) := ElC.nil i2 c2 b2
      have e3 : ElC K S O2 (.int ns[k]) := ElC.int _ (small_log (hrow.rng _ (List.getElem_mem lk_)))
      simp only [List.mem_cons, List.not_mem_nil, or_false] at hv
      rcases hv with rfl | rfl | rfl | rfl | rfl | rfl | rfl | rfl | rfl
      all_goals first | exact e1 | exact e2 | exact e3 | exact ElC.int _ (by decide +kernel) | exact ElC.bl _ | exact ElC.non | exact ElC.str _ (by decide) (by decide)
    generalize hO : [V.int 0, .int 1000, .bl true, .non, .str "5", .ref l1, .int (-1), .ref l2, .int ns[k]] = oddL at od
    have oddLen : oddL.length = 9 := by rw [← hO]; rfl
    have uo := same_upd (o := .lst oddL) no
    have ao := (pl v3).ne no
    have ho : upd O2 o (.lst oddL) o = some (.lst oddL) := upd_same
    have vo := v3.trans uo
    replace od : ∀ v ∈ oddL, ElC K S (upd O2 o (.lst oddL)) v := fun v hv => (od v hv).kp (.of_same uo)
    have hl3 := vo p _ hl2
    have po := pl vo
    replace k0 := k0.trans (.of_same vo)
    clear out pl v3 c1 c2 u1 u2 i1 i2 vo p2 hl2
    generalize upd O2 o (.lst oddL) = O at ho hl3 po k0 od ⊢
    refine ⟨_, rfl, a, 9, rfl, by decide, by decide, po, fun g W3 g0 g1 k3 p3 => ?_⟩
    obtain ⟨odd, hv, hm⟩ := pick (xs := oddL) (n := 9) g0 g1 oddLen
    refine ⟨o, _, g, odd, rfl, rfl, .inl (.inl (k3 o _ ho ao)), hv, ?_⟩
    have hodd := (od odd hm).kp (kS k3)
    have hl4 := k3 p _ hl3 pa
    replace k0 := k0.trans k3
    clear od hm hv g0 g1 ho ao po hl3 k3 no hO oddLen
    -- some
    refine ⟨Nat.zero_le _, fun q4 n4 => ?_⟩
    have s1 := same_upd (o := .tup []) n4
    have h4 : upd W3 q4 (.tup []) q4 = some (.tup []) := upd_same
    generalize upd W3 q4 (.tup []) = G1 at s1 h4 ⊢
    refine ⟨Nat.zero_le _, fun q1 n1 m1 => ?_⟩
    have s2 := same_upd (o := .lst []) n1
    have h1 : upd G1 q1 (.lst []) q1 = some (.lst []) := upd_same
    generalize upd G1 q1 (.lst []) = G2 at s2 h1 ⊢
    refine fun q2 n2 => ?_
    have s3 := same_upd (o := .dK []) n2
    have h2 : upd G2 q2 (.dK []) q2 = some (.dK []) := upd_same
    generalize upd G2 q2 (.dK []) = G3 at s3 h2 ⊢
    have t2 := s1.trans s2
    have t3 := t2.trans s3
    refine ⟨_, rfl, p, _, rfl, .inr (.inl (.inl (t3 p _ hl4))), fun q3 n3 m3 => ?_⟩
    have s4 := same_upd (o := .lst (ns.map V.int)) n3
    have h3 : upd G3 q3 (.lst (ns.map V.int)) q3 = some (.lst (ns.map V.int)) := upd_same
    generalize upd G3 q3 (.lst (ns.map V.int)) = G4 at s4 h3 ⊢
    have t4 := t3.trans s4
    refine ⟨1, 14, rfl, rfl, .of_le (by decide) (by decide) (by decide) (by decide), fun q5 n5 => ?_⟩
    have s5 := same_upd (o := .tup (rgV 1 14)) n5
    have h5 : upd G4 q5 (.tup (rgV 1 14)) q5 = some (.tup (rgV 1 14)) := upd_same
    generalize upd G4 q5 (.tup (rgV 1 14)) = G5 at s5 h5 ⊢
    have t5 := t4.trans s5
    refine ⟨(by show 1 ≤ sizeLine; decide), fun c nc => ?_⟩
    have s6 := same_upd (o := .tup [.int 999]) nc
    have hc : upd G5 c (.tup [.int 999]) c = some (.tup [.int 999]) := upd_same
    generalize upd G5 c (.tup [.int 999]) = G6 at s6 hc ⊢
    have t6 := t5.trans s6
    refine ⟨_, rfl, c, p, _, _, rfl, rfl, .inl (.inl hc), .inl (.inl (t6 p _ hl4)), ?_, fun q7 G7 s7 h7 e7 => ?_⟩
    · rw [List.length_map]
      exact Nat.le_trans (show _ ≤ 1000 by show 1 + ns.length ≤ 1000; omega) (by decide)
    have t7 := t6.trans s7
    refine ⟨Nat.zero_le _, fun q8 n8 m8 => ?_⟩
    have s8 := same_upd (o := .lst []) n8
    have h8 : upd G7 q8 (.lst []) q8 = some (.lst []) := upd_same
    generalize upd G7 q8 (.lst []) = G8 at s8 h8 ⊢
    have t8 := t7.trans s8
    refine ⟨(by show 1 ≤ sizeLine; decide), fun q9 n9 => ?_⟩
    have s9 := same_upd (o := .tup [.ref q8]) n9
    have h9 : upd G8 q9 (.tup [.ref q8]) q9 = some (.tup [.ref q8]) := upd_same
    generalize upd G8 q9 (.tup [.ref q8]) = G9 at s9 h9 ⊢
    have tA := t8.trans s9
    have pl : ∀ {G : Hp}, Same W3 G → Pool G a := fun s => p3.of fun u e => s a u e
    have out : ∀ {G : Hp}, Same W3 G → ∀ {q : Addr}, G q = none → ¬ S q := fun {_} s {q} nq => outK (k0.trans (.of_same s)) (pl s) nq
    have a4 := out (Same.refl _) n4
    have a1 := out s1 n1
    have a2 := out t2 n2
    have a3 := out t3 n3
    have a5 := out t4 n5
    have ac := out t5 nc
    have a7 : ¬ S q7 := e7.elim (fun z => z ▸ ac) fun z => z.elim (fun z => z ▸ Sp_) (out t6)
    have a8 := out t7 n8
    have a9 := out t8 n9
    have r8 := s8.trans s9
    have r7 := s7.trans r8
    have r6 := s6.trans r7
    have r5 := s5.trans r6
    have r4 := s4.trans r5
    have r3 := s3.trans r4
    have r2 := s2.trans r3
    have b4 := r2 _ _ h4
    have b1 := r3 _ _ h1
    have b2 := r4 _ _ h2
    have b3 := r5 _ _ h3
    have b5 := r6 _ _ h5
    have b7 := SqT.same r8 h7
    have b8 := s9 _ _ h8
    have fin : ∀ v ∈ [V.non, .int 0, .str "", .ref q4, .ref q1, .ref q2, .ref q3, .ref q5, .bl true, .ref q7, .ref q9], LiC K S G9 v := fun v hv => by
      simp only [List.mem_cons, List.not_mem_nil, or_false] at hv
      rcases hv with rfl | rfl | rfl | rfl | rfl | rfl | rfl | rfl | rfl | rfl | rfl
      · exact LiC.el ElC.non (T := "NoneType") (fun _ _ => ⟨.base .non, by decide⟩) (by decide)
      · exact LiC.el (ElC.int 0 (by decide)) (fun _ _ => Tv.int _) (by decide)
      · exact LiC.el (ElC.str _ (by decide) (by decide)) (T := "str") (fun _ _ => ⟨.base (.str _), by decide⟩) (by decide)
      · exact LiC.tup (.inl (.inl b4)) a4 (Nat.zero_le _) (fun y hy => nomatch hy)
      · exact LiC.el (ElC.nil b1 a1 m1) (fun _ k => Tv.lst (k _ _ b1 a1)) (by decide)
      · exact LiC.el (ElC.dict b2 a2) (fun _ k => Tv.dct (k _ _ b2 a2)) (by decide)
      · exact LiC.list b3 a3 m3 (by rw [List.length_map]; omega) (ElC.row hrow)
      · exact LiC.tup (.inl (.inl b5)) a5 (by rw [rgV_length]; decide) (by
          rw [rgV_rg]
          exact ElC.ints (by decide))
      · exact LiC.el (ElC.bl true) (T := "bool") (fun _ _ => ⟨.base (.bl _), by decide⟩) (by decide)
      · refine LiC.tup b7 a7 (by rw [List.length_append, List.length_map]; show 1 + ns.length ≤ 26; omega) fun y hy => ?_
        rcases List.mem_append.mp hy with z | z
        · rw [List.mem_singleton.mp z]
          exact ElC.int 999 (by decide)
        · exact ElC.row hrow y z
      · refine LiC.tup (.inl (.inl h9)) a9 (by show 1 ≤ 26; decide) fun y hy => ?_
        rw [List.mem_singleton.mp hy]
        exact ElC.nil b8 a8 m8
    generalize hS : [V.non, .int 0, .str "", .ref q4, .ref q1, .ref q2, .ref q3, .ref q5, .bl true, .ref q7, .ref q9] = someL at fin
    have someLen : someL.length = 11 := by rw [← hS]; rfl
    refine ⟨(by show 11 ≤ sizeLine; decide), fun L nL => ?_⟩
    show _
    rw [hS]
    have sL := same_upd (o := .lst someL) nL
    have aL := (pl tA).ne nL
    have hL : upd G9 L (.lst someL) L = some (.lst someL) := upd_same
    replace fin : ∀ v ∈ someL, LiC K S (upd G9 L (.lst someL)) v := fun v hv => (fin v hv).kp (.of_same sL)
    replace tA := tA.trans sL
    have hlA := tA p _ hl4
    have pA := pl tA
    replace k0 := k0.trans (.of_same tA)
    replace hodd := hodd.kp (.of_same tA)
    clear hS b1 b2 b3 b4 b5 b7 b8 r2 r3 r4 r5 r6 r7 r8 a1 a2 a3 a4 a5 a7 a8 a9 ac s1 s2 s3 s4 s5 s6 s7 s8 s9 t2 t3 t4 t5 t6 t7 t8 h1 h2 h3 h4 h5 h7 h8 h9 hc sL tA hl4 out pl
    generalize upd G9 L (.lst someL) = F at hL fin hlA pA k0 hodd ⊢
    have sF : Same F F := Same.refl F
    have hMl := hL
    have zl := someLen
    have zf := fin
    have pl : ∀ {F' : Hp}, Same F F' → Pool F' a := fun s => pA.of fun u e => (sF.trans s) a u e
    have pF := pl (Same.refl F)
    have hlF := sF p _ hlA
    have oddF := hodd.kp (.of_same sF)
    refine ⟨_, rfl, _, rfl, _, rfl, _, rfl, p, _, rfl, .inl (.inl hlF), fun c W3 sc hc ec => ?_⟩
    have out : ∀ {F' : Hp}, Same F F' → ∀ {q : Addr}, F' q = none → ¬ S q := fun {_} s {q} nq => outK (k0.trans (.of_same (sF.trans s))) (pl s) nq
    have ac : ¬ S c := ec.elim (fun z => z ▸ Sp_) (out (Same.refl _))
    refine ⟨_, rfl, (by show 1 ≤ sizeLine; decide), fun t nt => ?_⟩
    have at' := out sc nt
    have st := same_upd (o := .tup [odd]) nt
    have ht : upd W3 t (.tup [odd]) t = some (.tup [odd]) := upd_same
    generalize upd W3 t (.tup [odd]) = W5 at st ht ⊢
    have t5 := sc.trans st
    have cl1 := cut_len (ns.map V.int) none (some ((at_ : Nat) : Int))
    rw [List.length_map] at cl1
    refine ⟨c, t, _, _, rfl, rfl, SqT.same st hc, .inl (.inl ht), Nat.le_trans (show _ ≤ 1000 by simp only [List.length_cons, List.length_nil]; omega) (by decide), fun e W6 s6 he ee => ?_⟩
    have ae : ¬ S e := ee.elim (fun z => z ▸ ac) fun z => z.elim (fun z => z ▸ at') (out t5)
    have t6 := t5.trans s6
    refine ⟨_, rfl, _, rfl, _, rfl, p, _, rfl, .inl (.inl (t6 p _ hlF)), fun f1 W7 s7 hf1 ef1 => ?_⟩
    have af1 : ¬ S f1 := ef1.elim (fun z => z ▸ Sp_) (out t6)
    have t7 := t6.trans s7
    have cl2 := cut_len (ns.map V.int) (some ((at_ : Nat) : Int)) none
    rw [List.length_map] at cl2
    refine ⟨_, rfl, _, _, rfl, rfl, _, rfl, f1, _, rfl, hf1, fun f2 W8 s8 hf2 ef2 => ?_⟩
    have af2 : ¬ S f2 := ef2.elim (fun z => z ▸ af1) (out t7)
    have t8 := t7.trans s8
    have cl3 := cut_len (cutV (ns.map V.int) (some ((at_ : Nat) : Int)) none) none (some (11 - ((at_ : Nat) : Int)))
    refine ⟨e, f2, _, _, rfl, rfl, SqT.same (s7.trans s8) he, hf2, Nat.le_trans (show _ ≤ 1000 by simp only [List.length_append, List.length_cons, List.length_nil]; omega) (by decide), fun r W9 s9 hr' er => ?_⟩
    have ar : ¬ S r := er.elim (fun z => z ▸ ae) fun z => z.elim (fun z => z ▸ af2) (out t8)
    have t9 := t8.trans s9
    have fr : LiC K S W9 (.ref r) := by
      refine LiC.tup hr' ar ?_ fun y hy => ?_
      · simp only [List.length_append, List.length_cons, List.length_nil]
        omega
      · rcases List.mem_append.mp hy with y1 | y1
        · rcases List.mem_append.mp y1 with y2 | y2
          · exact ElC.row hrow y (cut_mem y2)
          · rw [List.mem_singleton.mp y2]
            exact oddF.kp (.of_same t9)
        · exact ElC.row hrow y (cut_mem (cut_mem y1))
    refine ⟨(by show 1 ≤ sizeLine; decide), fun m nm => ?_⟩
    have sm := same_upd (o := .lst [.ref r]) nm
    have hm : upd W9 m (.lst [.ref r]) m = some (.lst [.ref r]) := upd_same
    generalize upd W9 m (.lst [.ref r]) = X1 at sm hm ⊢
    have u1 := t9.trans sm
    refine ⟨m, 5, _, rfl, rfl, hm, by decide, by decide, (by show 1 * 5 ≤ sizeLine; decide), fun m2 nm2 => ?_⟩
    have sm2 := same_upd (o := .lst (List.replicate (5 : Int).toNat [V.ref r]).flatten) nm2
    have hm2 : upd X1 m2 (.lst (List.replicate (5 : Int).toNat [V.ref r]).flatten) m2 = some (.lst [.ref r, .ref r, .ref r, .ref r, .ref r]) := upd_same
    generalize upd X1 m2 (.lst (List.replicate (5 : Int).toNat [V.ref r]).flatten) = X2 at sm2 hm2 ⊢
    have u2 := u1.trans sm2
    refine ⟨L, m2, _, _, rfl, rfl, u2 _ _ hMl, hm2, Nat.le_trans (show _ ≤ 1000 by show someL.length + 5 ≤ 1000; omega) (by decide), fun m3 nm3 => ?_⟩
    have sm3 := same_upd (o := .lst (someL ++ [.ref r, .ref r, .ref r, .ref r, .ref r])) nm3
    have hm3 : upd X2 m3 (.lst (someL ++ [.ref r, .ref r, .ref r, .ref r, .ref r])) m3 = some (.lst (someL ++ [.ref r, .ref r, .ref r, .ref r, .ref r])) := upd_same
    have am3 := (pl u2).ne nm3
    have u3 := u2.trans sm3
    have all : ∀ v ∈ someL ++ [V.ref r, .ref r, .ref r, .ref r, .ref r], LiC K S (upd X2 m3 (.lst (someL ++ [.ref r, .ref r, .ref r, .ref r, .ref r]))) v := fun v hv => by
      rcases List.mem_append.mp hv with z | z
      · exact (zf v z).kp (.of_same u3)
      · simp only [List.mem_cons, List.not_mem_nil, or_false, or_self] at z
        rw [z]
        exact fr.kp (.of_same ((sm.trans sm2).trans sm3))
    generalize hE : someL ++ [V.ref r, .ref r, .ref r, .ref r, .ref r] = es at hm3 all sm3 u3
    have esLen : es.length = someL.length + 5 := by rw [← hE, List.length_append]; rfl
    have pX := pl u3
    have kX := k0.trans (.of_same (sF.trans u3))
    have hMx := u3 _ _ hMl
    generalize upd X2 m3 (.lst es) = X3 at hm3 all pX kX hMx ⊢
    refine ⟨_, rfl, a, 16, rfl, by decide, by decide, pX, fun g Y g0 g1 kY pY => ?_⟩
    obtain ⟨v, hv, hm⟩ := pick (xs := es) (n := 16) g0 (by omega) (by rw [esLen, zl])
    exact ⟨m3, _, g, v, rfl, rfl, .inl (.inl (kY _ _ hm3 am3)), hv, q v Y (kX.trans kY) pY ((all v hm).kp (kS kY))⟩
end
section
variable {P : Program} {w : World} {K : PySem.W.Frag} {mg : Str → Option Value} {base : Heap}
theorem Pool.ne' {H : Hp} {a l : Addr} {xs : List V} {n : Nat} (p : Pool H a) (h : H l = some (.lst xs)) (e : xs.length = n) (n3 : n ≠ 3) : l ≠ a := fun z => by
  obtain ⟨_, _, _, g, _⟩ := p
  rw [z, g] at h
  cases h
  exact n3 (e ▸ rfl)
abbrev s__law_odd_asked : Stmt := top 63
abbrev N__law_odd_asked : List Str := ["_law_pool_here", "_law_persons_here", "_law_asked", "_law_at", "_law_place", "_law_tall", "_law_odd", "_law_some"]
theorem sc__law_odd_asked : FnScope N__law_odd_asked ["_law_pool_here", "_law_persons_here", "_law_asked"] (defScope s__law_odd_asked) := ⟨rfl, rfl, rfl, by decide +kernel, rfl, by decide +kernel, by decide +kernel⟩
def spOddA (K : PySem.W.Frag) : Sp := fun vs H Q _ => ∃ (a p b : Addr) (ns : List Int) (xs : List V) (S : Addr → Prop), vs = [.ref a, .ref p, .ref b] ∧ Pool H a ∧ S a ∧ ¬ S p ∧ ¬ S b ∧ (∀ c, S c → H c ≠ none) ∧ H p = some (.tup (ns.map V.int)) ∧ Row ns ∧ SqT K H b xs ∧ xs.length ≤ 12 ∧ (∀ x ∈ xs, WhC K S H x) ∧ ∀ (v : V) (H' : Hp), Kp a H H' → Pool H' a → AkC K S H' v → Q v H'
theorem ok_odda (D : Df K mg "_law_odd_asked" s__law_odd_asked) (c__law_draw : Cl P w K mg base 1 "_law_draw" s__law_draw ["_law_pool_here", "_law_limit"] spDraw) (m_len : mg "len" = none) (m_list : mg "list" = none) :
    Cl P w K mg base 2 "_law_odd_asked" s__law_odd_asked ["_law_pool_here", "_law_persons_here", "_law_asked"] (spOddA K) := by
  refine D.ok sc__law_odd_asked (fun _ _ _ _ _ _ us hl => match us, hl with | [_, _, _], _ => rfl) (fun vs H Q E h => ?_) (fun f cdv A outer s H vs Q E hr h => ?_)
  · obtain ⟨a, p, b, ns, xs, S, rfl, _⟩ := h
    rfl
  · obtain ⟨a, p, b, ns, xs, S, rfl, hp, Sa, Sp_, Sb_, hSn, hl, hrow, hb, xl, xsW, q⟩ := h
    have pa : p ≠ a := fun e => Sp_ (e ▸ Sa)
    have kS : ∀ {G G' : Hp}, Kp a G G' → KpS S G G' := fun k => .of_kp Sa k
    have fullK : ∀ {G : Hp}, Kp a H G → Pool G a → ∀ c, S c → G c ≠ none := fun {G} k pg c sc nc => by
      by_cases e : c = a
      · exact pg.ne nc e
      · cases ho : H c with
        | none => exact hSn c sc ho
        | some o =>
          rw [k c o ho e] at nc
          cases nc
    have most := hrow.most
    have pos := hrow.pos
    -- what a display may lean on
    obtain ⟨Pre, hPre⟩ : ∃ Pre : L2.St → Hp → Prop, ∀ σ G, Pre σ G = (Pool G a ∧ (∀ c, S c → G c ≠ none) ∧ G p = some (.tup (ns.map V.int)) ∧ SqT K G b xs ∧ (∀ x ∈ xs, WhC K S G x) ∧ σ[1]? = some (some (.ref p)) ∧ σ[2]? = some (some (.ref b)) ∧ (∃ i : Int, σ[4]? = some (some (.int i)) ∧ i.natAbs.log2 < 1920) ∧ ∃ i : Int, σ[5]? = some (some (.int i)) ∧ i.natAbs.log2 < 1920) := ⟨_, fun _ _ => rfl⟩
    have sElC : StF (ElC K S) := fun _ _ _ h s => h.kp (.of_same s)
    have sWhC : StF (WhC K S) := fun _ _ _ h s => h.kp (.of_same s)
    have sAkC : StF (AkC K S) := fun _ _ _ h s => h.kp (.of_same s)
    have sPre : StP Pre := fun σ G G' h s => by
      rw [hPre] at h ⊢
      obtain ⟨h1, h2, h3, h4, h5, h6⟩ := h
      exact ⟨h1.of fun u e => s a u e, fun c sc nc => h2 c sc (v_was s nc), s _ _ h3, SqT.same s h4, fun x hx => sWhC _ _ _ (h5 x hx) s, h6⟩
    have fr : ∀ {σ : L2.St} {G : Hp} {r : Addr}, Pre σ G → G r = none → ¬ S r := fun {σ G r} h n sr => by
      rw [hPre] at h
      exact h.2.1 r sr n
    have hv5_ElC : ∀ σ G, Pre σ G → ∃ v, σ[5]? = some (some v) ∧ ElC K S G v := fun σ G h => by
      rw [hPre] at h
      obtain ⟨_, _, _, _, _, _, _, _, i, e, l⟩ := h
      exact ⟨_, e, .int _ l⟩
    have hv4_ElC : ∀ σ G, Pre σ G → ∃ v, σ[4]? = some (some v) ∧ ElC K S G v := fun σ G h => by
      rw [hPre] at h
      obtain ⟨_, _, _, _, _, _, _, ⟨i, e, l⟩, _⟩ := h
      exact ⟨_, e, .int _ l⟩
    have hlen : ∀ (σ : L2.St) (G : Hp) (Q : VK), Pre σ G → (∀ (v : V) (H' : Hp), Same G H' → ElC K S H' v → Q v H') → tCB (rLenS K) (tCons (tVar 1) tNil) σ G Q := fun σ G Q h q => by
      rw [hPre] at h
      exact ⟨_, h.2.2.2.2.2.1, p, _, rfl, .inr (.inl (.inl h.2.2.1)), q _ _ (Same.refl G) (.int _ (by rw [List.length_map]; exact Nat.lt_of_le_of_lt (Nat.log2_le_self _) (by omega)))⟩
    have hix0 : ∀ (σ : L2.St) (G : Hp) (Q : VK), Pre σ G → (∀ (v : V) (H' : Hp), Same G H' → ElC K S H' v → Q v H') → tOp (rIxT K) (tVar 1) (tC (.int 0)) σ G Q := fun σ G Q h q => by
      rw [hPre] at h
      exact ⟨_, h.2.2.2.2.2.1, p, _, 0, .int ns[0], rfl, rfl, .inl (.inl h.2.2.1), atI_nat (getI pos), q _ _ (Same.refl G) (.int _ (small_log (hrow.rng _ (List.getElem_mem pos))))⟩
    have hlist : ∀ (σ : L2.St) (G : Hp) (Q : VK), Pre σ G → (∀ (v : V) (H' : Hp), Same G H' → AkC K S H' v → Q v H') → tCB (rListB K) (tCons (tVar 2) tNil) σ G Q := fun σ G Q h q => by
      have h0 := h
      rw [hPre] at h
      exact ⟨_, h.2.2.2.2.2.2.1, b, xs, rfl, .inr h.2.2.2.1, fun l nl nm => q _ _ (same_upd nl) (.list upd_same (fr h0 nl) nm (by omega) fun x hx => sWhC _ _ _ (h.2.2.2.2.1 x hx) (same_upd nl))⟩
    have ht_WhC : ∀ {n : Nat}, n ≤ 3 → ∀ (σ : L2.St) (H0 H : Hp) (r : Addr) (vs : List V), Pre σ H0 → Same H0 H → H0 r = none → H r = some (.tup vs) → vs.length = n → (∀ v ∈ vs, ElC K S H v) → WhC K S H (.ref r) := fun {n} hn σ H0 H r vs p s n0 h len f => WhC.tup h (fr p n0) (by omega) f
    have hl_WhC : ∀ {n : Nat}, n ≤ 3 → ∀ (σ : L2.St) (H0 H : Hp) (r : Addr) (vs : List V), Pre σ H0 → Same H0 H → H0 r = none → r ≠ sysModules → H r = some (.lst vs) → vs.length = n → (∀ v ∈ vs, ElC K S H v) → WhC K S H (.ref r) := fun {n} hn σ H0 H r vs p s n0 nm h len f => WhC.list h (fr p n0) nm (by omega) f
    have hd_WhC : ∀ (σ : L2.St) (H0 H : Hp) (r : Addr), Pre σ H0 → Same H0 H → H0 r = none → H r = some (.dK []) → WhC K S H (.ref r) := fun σ H0 H r p s n0 h => WhC.el (ElC.dict h (fr p n0)) (fun _ k => Tv.dct (k _ _ h (fr p n0))) (by decide)
    have hl_ElC : ∀ {n : Nat}, n ≤ 0 → ∀ (σ : L2.St) (H0 H : Hp) (r : Addr) (vs : List V), Pre σ H0 → Same H0 H → H0 r = none → r ≠ sysModules → H r = some (.lst vs) → vs.length = n → (∀ v ∈ vs, ElC K S H v) → ElC K S H (.ref r) := fun {n} hn σ H0 H r vs p s n0 nm h len f => by
      have e : vs = [] := List.length_eq_zero_iff.mp (by omega)
      subst e
      exact ElC.nil h (fr p n0) nm
    have ht_AkC : ∀ {n : Nat}, n ≤ 3 → ∀ (σ : L2.St) (H0 H : Hp) (r : Addr) (vs : List V), Pre σ H0 → Same H0 H → H0 r = none → H r = some (.tup vs) → vs.length = n → (∀ v ∈ vs, WhC K S H v) → AkC K S H (.ref r) := fun {n} hn σ H0 H r vs p s n0 h len f => AkC.tup (.inl (.inl h)) (fr p n0) (by omega) f
    have hl_AkC : ∀ {n : Nat}, n ≤ 3 → ∀ (σ : L2.St) (H0 H : Hp) (r : Addr) (vs : List V), Pre σ H0 → Same H0 H → H0 r = none → r ≠ sysModules → H r = some (.lst vs) → vs.length = n → (∀ v ∈ vs, WhC K S H v) → AkC K S H (.ref r) := fun {n} hn σ H0 H r vs p s n0 nm h len f => AkC.list h (fr p n0) nm (by omega) f
    have hd_AkC : ∀ (σ : L2.St) (H0 H : Hp) (r : Addr), Pre σ H0 → Same H0 H → H0 r = none → H r = some (.dK []) → AkC K S H (.ref r) := fun σ H0 H r p s n0 h => AkC.el (ElC.dict h (fr p n0)) (fun _ k => Tv.dct (k _ _ h (fr p n0))) (by decide)
    refine ⟨_, 
      (pss_cons (ps_par (i := 3) (j := 4) (by rfl) sc__law_odd_asked.nd rfl rfl (by decide) rfl rfl (pa_cons (pe_u c__law_draw hr (by omega) (by rfl) (pa_cons (pv 0) (pa_cons (pe_op op_add (pe_callB call_lenS (by rfl) m_len (by decide +kernel) (pa_cons (pv 2) pa_nil)) pe_int) pa_nil))) (pa_cons (pe_u c__law_draw hr (by omega) (by rfl) (pa_cons (pv 0) (pa_cons (pe_callB call_lenS (by rfl) m_len (by decide +kernel) (pa_cons (pv 1) pa_nil)) pa_nil))) pa_nil)) (by rfl)) 
      (pss_cons (ps_set (i := 5) sc__law_odd_asked.nd rfl (Or.inl rfl) (pe_ix ix_tup (pv 1) (pe_u c__law_draw hr (by omega) (by rfl) (pa_cons (pv 0) (pa_cons (pe_callB call_lenS (by rfl) m_len (by decide +kernel) (pa_cons (pv 1) pa_nil)) pa_nil))) (fun _ _ => rfl))) 
      (pss_cons (ps_set (i := 6) sc__law_odd_asked.nd rfl (Or.inl rfl) (v_list sWhC (vs_cons sPre sWhC (v_non fun _ _ _ => WhC.non) (vs_cons sPre sWhC (v_int fun _ _ _ => WhC.int _ (by decide +kernel)) (vs_cons sPre sWhC (v_tup sElC vs_nil (by decide) (ht_WhC (by decide))) (vs_cons sPre sWhC (v_tup sElC (vs_cons sPre sElC (v_var 5 hv5_ElC) vs_nil) (by decide) (ht_WhC (by decide))) (vs_cons sPre sWhC (v_tup sElC (vs_cons sPre sElC (v_var 5 hv5_ElC) (vs_cons sPre sElC (v_var 4 hv4_ElC) (vs_cons sPre sElC (v_int fun _ _ _ => ElC.int _ (by decide +kernel)) vs_nil))) (by decide) (ht_WhC (by decide))) (vs_cons sPre sWhC (v_lst sElC (vs_cons sPre sElC (v_var 5 hv5_ElC) (vs_cons sPre sElC (v_var 4 hv4_ElC) vs_nil)) (by decide) (hl_WhC (by decide))) (vs_cons sPre sWhC (v_tup sElC (vs_cons sPre sElC (v_var 5 hv5_ElC) (vs_cons sPre sElC (v_neg fun _ _ _ => ElC.int _ (by decide +kernel)) vs_nil)) (by decide) (ht_WhC (by decide))) (vs_cons sPre sWhC (v_tup sElC (vs_cons sPre sElC (v_var 5 hv5_ElC) (vs_cons sPre sElC (v_by (pe_callB call_lenS (by rfl) m_len (by decide +kernel) (pa_cons (pv 1) pa_nil)) hlen) vs_nil)) (by decide) (ht_WhC (by decide))) (vs_cons sPre sWhC (v_tup sElC (vs_cons sPre sElC (v_var 5 hv5_ElC) (vs_cons sPre sElC (v_bl fun _ _ _ => ElC.bl _) vs_nil)) (by decide) (ht_WhC (by decide))) vs_nil))))))))) (by decide))) 
      (pss_cons (ps_set (i := 6) sc__law_odd_asked.nd rfl (Or.inl rfl) (pe_op op_cat (pv 6) (v_list sWhC (vs_cons sPre sWhC (v_tup sElC (vs_cons sPre sElC (v_bl fun _ _ _ => ElC.bl _) (vs_cons sPre sElC (v_var 4 hv4_ElC) vs_nil)) (by decide) (ht_WhC (by decide))) (vs_cons sPre sWhC (v_tup sElC (vs_cons sPre sElC (v_int fun _ _ _ => ElC.int _ (by decide +kernel)) (vs_cons sPre sElC (v_var 4 hv4_ElC) vs_nil)) (by decide) (ht_WhC (by decide))) (vs_cons sPre sWhC (v_tup sElC (vs_cons sPre sElC (v_int fun _ _ _ => ElC.int _ (by decide +kernel)) (vs_cons sPre sElC (v_var 4 hv4_ElC) vs_nil)) (by decide) (ht_WhC (by decide))) (vs_cons sPre sWhC (v_tup sElC (vs_cons sPre sElC (v_str fun _ _ _ => ElC.str _ (by decide +kernel) (by decide +kernel)) (vs_cons sPre sElC (v_var 4 hv4_ElC) vs_nil)) (by decide) (ht_WhC (by decide))) (vs_cons sPre sWhC (v_tup sElC (vs_cons sPre sElC (v_var 5 hv5_ElC) (vs_cons sPre sElC (v_str fun _ _ _ => ElC.str _ (by decide +kernel) (by decide +kernel)) vs_nil)) (by decide) (ht_WhC (by decide))) (vs_cons sPre sWhC (v_tup sElC (vs_cons sPre sElC (v_var 5 hv5_ElC) (vs_cons sPre sElC (v_non fun _ _ _ => ElC.non) vs_nil)) (by decide) (ht_WhC (by decide))) (vs_cons sPre sWhC (v_tup sElC (vs_cons sPre sElC (v_lst sElC vs_nil (by decide) (hl_ElC (by decide))) (vs_cons sPre sElC (v_var 4 hv4_ElC) vs_nil)) (by decide) (ht_WhC (by decide))) (vs_cons sPre sWhC (v_dct hd_WhC) vs_nil)))))))) (by decide)))) 
      (pss_cons (ps_set (i := 6) sc__law_odd_asked.nd rfl (Or.inl rfl) (pe_op op_cat (pv 6) (v_list sWhC (vs_cons sPre sWhC (v_tup sElC (vs_cons sPre sElC (v_var 5 hv5_ElC) (vs_cons sPre sElC (v_var 4 hv4_ElC) vs_nil)) (by decide) (ht_WhC (by decide))) (vs_cons sPre sWhC (v_tup sElC (vs_cons sPre sElC (v_var 5 hv5_ElC) (vs_cons sPre sElC (v_var 4 hv4_ElC) vs_nil)) (by decide) (ht_WhC (by decide))) (vs_cons sPre sWhC (v_tup sElC (vs_cons sPre sElC (v_var 5 hv5_ElC) (vs_cons sPre sElC (v_int fun _ _ _ => ElC.int _ (by decide +kernel)) vs_nil)) (by decide) (ht_WhC (by decide))) (vs_cons sPre sWhC (v_tup sElC (vs_cons sPre sElC (v_by (pe_ix ix_tup (pv 1) pe_int (fun _ _ => rfl)) hix0) (vs_cons sPre sElC (v_var 4 hv4_ElC) vs_nil)) (by decide) (ht_WhC (by decide))) (vs_cons sPre sWhC (v_tup sElC (vs_cons sPre sElC (v_var 5 hv5_ElC) (vs_cons sPre sElC (v_bl fun _ _ _ => ElC.bl _) vs_nil)) (by decide) (ht_WhC (by decide))) (vs_cons sPre sWhC (v_str fun _ _ _ => WhC.str _ (by decide +kernel) (by decide +kernel)) (vs_cons sPre sWhC (v_tup sElC (vs_cons sPre sElC (v_var 5 hv5_ElC) (vs_cons sPre sElC (v_pow (by decide) (by decide) (by decide) fun _ _ _ => ElC.int _ (by decide +kernel)) vs_nil)) (by decide) (ht_WhC (by decide))) vs_nil))))))) (by decide)))) 
      (pss_cons (ps_set (i := 7) sc__law_odd_asked.nd rfl (Or.inl rfl) (v_list sAkC (vs_cons sPre sAkC (v_non fun _ _ _ => AkC.non) (vs_cons sPre sAkC (v_int fun _ _ _ => AkC.int _ (by decide +kernel)) (vs_cons sPre sAkC (v_str fun _ _ _ => AkC.str _ (by decide +kernel) (by decide +kernel)) (vs_cons sPre sAkC (v_lst sWhC vs_nil (by decide) (hl_AkC (by decide))) (vs_cons sPre sAkC (v_dct hd_AkC) (vs_cons sPre sAkC (v_by (pe_callTy call_listB (by rfl) m_list (by decide +kernel) (pa_cons (pv 2) pa_nil)) hlist) (vs_cons sPre sAkC (v_bl fun _ _ _ => AkC.bl _) (vs_cons sPre sAkC (v_tup sWhC (vs_cons sPre sWhC (v_non fun _ _ _ => WhC.non) vs_nil) (by decide) (ht_AkC (by decide))) (vs_cons sPre sAkC (v_tup sWhC (vs_cons sPre sWhC (v_lst sElC vs_nil (by decide) (hl_WhC (by decide))) vs_nil) (by decide) (ht_AkC (by decide))) vs_nil))))))))) (by decide))) 
      (pss_one (ps_ret (pe_ix ix_list (pe_op op_cat (pv 7) (pe_op op_rep (pe_lst (pa_cons (pe_op op_catB (pe_op op_catB (pe_slice sl_tupB (pv 2) po_none (po_some (pv 3))) (pe_tup (pa_cons (pe_ix ix_list (pv 6) (pe_u c__law_draw hr (by omega) (by rfl) (pa_cons (pv 0) (pa_cons pe_int pa_nil))) (fun _ _ => rfl)) pa_nil))) (pe_slice sl_tupB (pv 2) (po_some (pv 3)) po_none)) pa_nil)) pe_int)) (pe_u c__law_draw hr (by omega) (by rfl) (pa_cons (pv 0) (pa_cons pe_int pa_nil))) (fun _ _ => rfl)))))))))), ?_⟩
    -- the draws
    refine ⟨_, rfl, _, rfl, b, _, rfl, .inr hb, _, _, rfl, rfl, a, _, rfl, ?_, ?_, hp, fun d W1 d0 d1 k1 p1 => ?_⟩
    · omega
    · omega
    obtain ⟨at_, rfl⟩ : ∃ n : Nat, d = (n : Nat) := ⟨d.toNat, by omega⟩
    have hl1 := k1 p _ hl pa
    refine ⟨_, rfl, _, rfl, p, _, rfl, .inr (.inl (.inl hl1)), a, _, rfl, ?_, ?_, p1, fun place W2 c0 c1 k2 p2 => ?_⟩
    · rw [List.length_map]; omega
    · rw [List.length_map]; omega
    rw [List.length_map] at c1
    have hl2 := k2 p _ hl1 pa
    refine ⟨_, _, rfl, ?_⟩
    refine ⟨_, rfl, _, rfl, _, rfl, p, _, rfl, .inr (.inl (.inl hl2)), a, _, rfl, ?_, ?_, p2, fun d W3 e0 e1 k3 p3 => ?_⟩
    · rw [List.length_map]; omega
    · rw [List.length_map]; omega
    rw [List.length_map] at e1
    obtain ⟨k, rfl⟩ : ∃ n : Nat, d = (n : Nat) := ⟨d.toNat, by omega⟩
    have lk_ : k < ns.length := by omega
    have hl3 := k3 p _ hl2 pa
    have k0 : Kp a H W3 := (k1.trans k2).trans k3
    refine ⟨p, _, _, .int ns[k], rfl, rfl, .inl (.inl hl3), atI_nat (getI lk_), ?_⟩
    have small : ns[k].natAbs.log2 < 1920 := small_log (hrow.rng _ (List.getElem_mem lk_))
    have smallP : place.natAbs.log2 < 1920 := Nat.lt_of_le_of_lt (Nat.log2_le_self _) (by omega)
    have hb3 : SqT K W3 b xs := SqT.pool hb hp k0
    have xs3 : ∀ x ∈ xs, WhC K S W3 x := fun x hx => (xsW x hx).kp (kS k0)
    have full3 := fullK k0 p3
    have pre : ∀ {G : Hp}, Same W3 G → ∀ σ : L2.St, σ[1]? = some (some (.ref p)) → σ[2]? = some (some (.ref b)) → σ[4]? = some (some (.int place)) → σ[5]? = some (some (.int ns[k])) → Pre σ G := fun {G} s σ f1 f2 f4 f5 => by
      rw [hPre]
      exact ⟨p3.of fun u e => s a u e, fun c sc nc => full3 c sc (v_was s nc), s _ _ hl3, SqT.same s hb3, fun x hx => sWhC _ _ _ (xs3 x hx) s, f1, f2, ⟨_, f4, smallP⟩, _, f5, small⟩
    clear hl1 hl2 k1 k2 k3 p1 p2 d0 d1 c0 c1 e0 e1
    refine ⟨pre (Same.refl _) _ rfl rfl rfl rfl, fun l1 v1 O1 t1 m1 _ i1 len1 f1 => ?_⟩
    refine ⟨_, rfl, pre t1 _ rfl rfl rfl rfl, fun l2 v2 O2 s2 m2 _ i2 len2 f2 => ?_⟩
    have t2 := t1.trans s2
    refine ⟨l1, l2, _, _, rfl, rfl, s2 _ _ i1, i2, Nat.le_trans (show v1.length + v2.length ≤ 1000 by omega) (by decide), fun l3 n3 => ?_⟩
    have s3 := same_upd (o := .lst (v1 ++ v2)) n3
    have i3 : upd O2 l3 (.lst (v1 ++ v2)) l3 = some (.lst (v1 ++ v2)) := upd_same
    have f3 : ∀ v ∈ v1 ++ v2, WhC K S (upd O2 l3 (.lst (v1 ++ v2))) v := fun v hv => by
      rcases List.mem_append.mp hv with z | z
      · exact sWhC _ _ _ (f1 v z) (s2.trans s3)
      · exact sWhC _ _ _ (f2 v z) s3
    have len3 : (v1 ++ v2).length = 17 := by rw [List.length_append]; omega
    have t3 := t2.trans s3
    clear f1 f2
    generalize v1 ++ v2 = v3 at i3 f3 len3 t3 s3 ⊢
    generalize upd O2 l3 (.lst v3) = O3 at i3 f3 t3 s3 ⊢
    refine ⟨_, rfl, pre t3 _ rfl rfl rfl rfl, fun l4 v4 O4 s4 m4 _ i4 len4 f4 => ?_⟩
    have t4 := t3.trans s4
    refine ⟨l3, l4, _, _, rfl, rfl, s4 _ _ i3, i4, Nat.le_trans (show v3.length + v4.length ≤ 1000 by omega) (by decide), fun l5 n5 => ?_⟩
    have s5 := same_upd (o := .lst (v3 ++ v4)) n5
    have i5 : upd O4 l5 (.lst (v3 ++ v4)) l5 = some (.lst (v3 ++ v4)) := upd_same
    have f5 : ∀ v ∈ v3 ++ v4, WhC K S (upd O4 l5 (.lst (v3 ++ v4))) v := fun v hv => by
      rcases List.mem_append.mp hv with z | z
      · exact sWhC _ _ _ (f3 v z) (s4.trans s5)
      · exact sWhC _ _ _ (f4 v z) s5
    have len5 : (v3 ++ v4).length = 24 := by rw [List.length_append]; omega
    have t5 := t4.trans s5
    clear f3 f4
    generalize v3 ++ v4 = oddL at i5 f5 len5 t5 s5 ⊢
    generalize upd O4 l5 (.lst oddL) = O5 at i5 f5 t5 s5 ⊢
    refine ⟨pre t5 _ rfl rfl rfl rfl, fun L someL F s6 nL _ hL someLen fin => ?_⟩
    have t6 := t5.trans s6
    have hO := s6 _ _ i5
    have oddW : ∀ v ∈ oddL, WhC K S F v := fun v hv => sWhC _ _ _ (f5 v hv) s6
    have hbF : SqT K F b xs := SqT.same t6 hb3
    have xsF : ∀ x ∈ xs, WhC K S F x := fun x hx => sWhC _ _ _ (xs3 x hx) t6
    have pF : Pool F a := p3.of fun u e => t6 a u e
    have kF : Kp a H F := k0.trans (.of_same t6)
    have fullF : ∀ c, S c → F c ≠ none := fullK kF pF
    have aO : l5 ≠ a := fun e => by
      obtain ⟨x, y, z, h, _⟩ := pF
      rw [e, h] at hO
      cases hO
      cases len5
    clear pre t1 t2 t3 t4 t5 s2 s3 s4 s5 i1 i2 i3 i4 i5 len1 len2 len3 len4 f5 hl3 k0 p3 hb3 xs3 full3 hp hl hb xsW
    -- what is told
    have out : ∀ {F' : Hp}, Same F F' → ∀ {q : Addr}, F' q = none → ¬ S q := fun {_} s {q} nq sq => fullF q sq (v_was s nq)
    refine ⟨_, rfl, _, rfl, _, rfl, _, rfl, b, _, rfl, hbF, fun c W3 sc hc ec => ?_⟩
    have ac : ¬ S c := ec.elim (fun z => z ▸ Sb_) (out (Same.refl _))
    have pW : Pool W3 a := pF.of fun u e => sc a u e
    refine ⟨_, rfl, _, rfl, a, 24, rfl, by decide, by decide, pW, fun g W4 g0 g1 k4 p4 => ?_⟩
    obtain ⟨odd, hv, hm⟩ := pick (xs := oddL) (n := 24) g0 g1 len5
    refine ⟨l5, _, g, odd, rfl, rfl, .inl (.inl (k4 _ _ (sc _ _ hO) aO)), hv, (by show 1 ≤ sizeLine; decide), fun t nt => ?_⟩
    have kc : Kp a W3 W4 := k4
    have cW : c ≠ a := fun e => ac (e ▸ Sa)
    have st := same_upd (o := .tup [odd]) nt
    have at' : ¬ S t := fun z => fullF t z (v_was sc (kc.free nt (p4.ne nt)))
    have ht : upd W4 t (.tup [odd]) t = some (.tup [odd]) := upd_same
    have hoddW : WhC K S (upd W4 t (.tup [odd])) odd := sWhC _ _ _ (((oddW odd hm).kp (.of_same sc)).kp (kS k4)) st
    have hcW : SqT K (upd W4 t (.tup [odd])) c (cutV xs none (some ((at_ : Nat) : Int))) := SqT.same st (SqT.pool hc pW k4)
    have hLW := st _ _ (k4 _ _ (sc _ _ hL) (pF.ne' hL someLen (by decide)))
    have pT : Pool (upd W4 t (.tup [odd])) a := p4.of fun u e => st a u e
    have hbW : SqT K (upd W4 t (.tup [odd])) b xs := SqT.same st (SqT.pool (SqT.same sc hbF) pW k4)
    have kT : KpS S F (upd W4 t (.tup [odd])) := ((KpS.of_same sc).trans (kS k4)).trans (.of_same st)
    have kT' : Kp a H (upd W4 t (.tup [odd])) := (kF.trans (.of_same sc)).trans (k4.trans (.of_same st))
    have fullT := fullK kT' pT
    replace fin : ∀ v ∈ someL, AkC K S (upd W4 t (.tup [odd])) v := fun v hv => (fin v hv).kp kT
    replace xsF : ∀ x ∈ xs, WhC K S (upd W4 t (.tup [odd])) x := fun v hv => (xsF v hv).kp kT
    generalize upd W4 t (.tup [odd]) = T at ht hoddW hcW hLW pT hbW kT kT' fullT fin xsF ⊢
    have out : ∀ {F' : Hp}, Same T F' → ∀ {q : Addr}, F' q = none → ¬ S q := fun {_} s {q} nq sq => fullT q sq (v_was s nq)
    have cl1 := cut_len xs none (some ((at_ : Nat) : Int))
    refine ⟨c, t, _, _, rfl, rfl, hcW, .inl (.inl ht), Nat.le_trans (show _ ≤ 1000 by simp only [List.length_cons, List.length_nil]; omega) (by decide), fun e W6 s6 he ee => ?_⟩
    have ae : ¬ S e := ee.elim (fun z => z ▸ ac) fun z => z.elim (fun z => z ▸ at') (out (Same.refl _))
    refine ⟨_, rfl, _, rfl, _, rfl, b, _, rfl, SqT.same s6 hbW, fun f1 W7 s7 hf1 ef1 => ?_⟩
    have af1 : ¬ S f1 := ef1.elim (fun z => z ▸ Sb_) (out s6)
    have t7 := s6.trans s7
    have cl2 := cut_len xs (some ((at_ : Nat) : Int)) none
    refine ⟨e, f1, _, _, rfl, rfl, SqT.same s7 he, hf1, Nat.le_trans (show _ ≤ 1000 by simp only [List.length_append, List.length_cons, List.length_nil]; omega) (by decide), fun r W9 s9 hr' er => ?_⟩
    have ar : ¬ S r := er.elim (fun z => z ▸ ae) fun z => z.elim (fun z => z ▸ af1) (out t7)
    have t9 := t7.trans s9
    have fr' : AkC K S W9 (.ref r) := by
      refine AkC.tup hr' ar ?_ fun y hy => ?_
      · simp only [List.length_append, List.length_cons, List.length_nil]
        omega
      · rcases List.mem_append.mp hy with y1 | y1
        · rcases List.mem_append.mp y1 with y2 | y2
          · exact sWhC _ _ _ (xsF y (cut_mem y2)) t9
          · rw [List.mem_singleton.mp y2]
            exact sWhC _ _ _ hoddW t9
        · exact sWhC _ _ _ (xsF y (cut_mem y1)) t9
    refine ⟨(by show 1 ≤ sizeLine; decide), fun m nm => ?_⟩
    have sm := same_upd (o := .lst [.ref r]) nm
    have hm : upd W9 m (.lst [.ref r]) m = some (.lst [.ref r]) := upd_same
    generalize upd W9 m (.lst [.ref r]) = X1 at sm hm ⊢
    have u1 := t9.trans sm
    refine ⟨m, 9, _, rfl, rfl, hm, by decide, by decide, (by show 1 * 9 ≤ sizeLine; decide), fun m2 nm2 => ?_⟩
    have sm2 := same_upd (o := .lst (List.replicate (9 : Int).toNat [V.ref r]).flatten) nm2
    have hm2 : upd X1 m2 (.lst (List.replicate (9 : Int).toNat [V.ref r]).flatten) m2 = some (.lst (List.replicate 9 (.ref r))) := upd_same
    generalize upd X1 m2 (.lst (List.replicate (9 : Int).toNat [V.ref r]).flatten) = X2 at sm2 hm2 ⊢
    have u2 := u1.trans sm2
    refine ⟨L, m2, _, _, rfl, rfl, u2 _ _ hLW, hm2, Nat.le_trans (show _ ≤ 1000 by rw [List.length_replicate]; omega) (by decide), fun m3 nm3 => ?_⟩
    have sm3 := same_upd (o := .lst (someL ++ List.replicate 9 (.ref r))) nm3
    have hm3 : upd X2 m3 (.lst (someL ++ List.replicate 9 (.ref r))) m3 = some (.lst (someL ++ List.replicate 9 (.ref r))) := upd_same
    have am3 : m3 ≠ a := (pT.of fun u e => u2 a u e).ne nm3
    have u3 := u2.trans sm3
    have all : ∀ v ∈ someL ++ List.replicate 9 (V.ref r), AkC K S (upd X2 m3 (.lst (someL ++ List.replicate 9 (.ref r)))) v := fun v hv => by
      rcases List.mem_append.mp hv with z | z
      · exact sAkC _ _ _ (fin v z) u3
      · rw [List.eq_of_mem_replicate z]
        exact sAkC _ _ _ fr' ((sm.trans sm2).trans sm3)
    have esLen : (someL ++ List.replicate 9 (V.ref r)).length = 18 := by rw [List.length_append, List.length_replicate]; omega
    generalize someL ++ List.replicate 9 (V.ref r) = es at hm3 all sm3 u3 esLen
    have pX : Pool (upd X2 m3 (.lst es)) a := pT.of fun u e => u3 a u e
    have kX := kT'.trans (.of_same u3)
    generalize upd X2 m3 (.lst es) = X3 at hm3 all pX kX ⊢
    refine ⟨_, rfl, a, 18, rfl, by decide, by decide, pX, fun g Y g0 g1 kY pY => ?_⟩
    obtain ⟨v, hv, hm⟩ := pick (xs := es) (n := 18) g0 g1 esLen
    exact ⟨m3, _, g, v, rfl, rfl, .inl (.inl (kY _ _ hm3 am3)), hv, q v Y (kX.trans kY) pY ((all v hm).kp (kS kY))⟩
end
section
variable {P : Program} {w : World} {K : PySem.W.Frag} {mg : Str → Option Value} {base : Heap}
/-! ### what is told, and what is due -/
theorem HtF.fo12 {H : Hp} {v x : V} {ns : List Int} (h : HtF K H v (some x) ns) : x = .non ∨ ∃ i : Nat, i < 1000 ∧ x = .int (i : Nat) := by
  cases h with
  | other _ _ => exact .inl rfl
  | long _ _ => exact .inl rfl
  | wrong _ _ _ _ _ _ _ => exact .inr ⟨_, by omega, rfl⟩
theorem AkF.fo1000 {H : Hp} {hs : List Int} {v x : V} (h : AkF K H hs v (some x)) : x = .non ∨ ∃ i : Nat, i < 1000 ∧ x = .int (i : Nat) := by
  cases h with
  | other _ _ => exact .inl rfl
  | wrong _ e l lt _ _ => exact .inr ⟨_, (by have := e.len; omega), rfl⟩
theorem AskAt.same {H G : Hp} {v0 v1 : V} {k : V} {z : Str} (h : AskAt K H v0 v1 k z) (s : Same H G) : AskAt K G v0 v1 k z := by
  obtain ⟨o, a, b, c⟩ := h
  exact ⟨o, a.same s, b, c.same s⟩
theorem ok_small : ∀ i : Nat, i < 1001 → PyData.strOk (PyData.int ((i : Nat) : Int)).shown = true := by decide +kernel
theorem rp_small {H : Hp} {i : Nat} (h : i < 1001) : RpE K H (.int ((i : Nat) : Int)) (PyData.int ((i : Nat) : Int)).shown := RpE.int (Nat.lt_of_le_of_lt (Nat.log2_le_self _) (show i < 1920 by omega))
/-- what is asked may be told in a text -/
def AsksOk (K : PySem.W.Frag) (H : Hp) (v0 v1 : V) : Prop := ∃ (k : V) (z : Str), AskAt K H v0 v1 k z ∧ PyData.strOk z = true ∧ ∃ dk : PyData, Dp K H k dk ∧ SeqAt.shaped dk = true ∧ dk.canLay0 = true ∧ dk.depth = 0
theorem AsksOk.mk_ {H : Hp} {v0 v1 : V} {o : Option (ErrK × V)} {z : Str} (a : GW K H v0 v1 o) (t : TellsZ K H o z) (s : PyData.strOk z = true) : AsksOk K H v0 v1 := by
  refine ⟨_, z, ⟨o, a, rfl, t⟩, s, ?_⟩
  cases o with
  | none => exact ⟨.str "told", .str _, by decide +kernel, by decide +kernel, by simp [PyData.depth]⟩
  | some ev =>
    obtain ⟨e, v⟩ := ev
    exact ⟨.int ((e.at_ : Nat) : Int), .int _, by cases e <;> decide +kernel, by simp [PyData.canLay0], by simp [PyData.depth]⟩
theorem asksW {H : Hp} {v0 v1 : V} {fo fw : Option V} {hs : List Int} (h0 : HtF K H v0 fo hs) (h1 : fo = none → AkF K H hs v1 fw) : AsksOk K H v0 v1 := by
  cases fo with
  | some x =>
    rcases h0.fo12 with rfl | ⟨i, hi, rfl⟩
    · exact .mk_ (.hts h0) (show RpE K H _ _ from RpE.non) (by decide +kernel)
    · exact .mk_ (.hts h0) (show RpE K H _ _ from rp_small (by omega)) (ok_small i (by omega))
  | none =>
    have h1 := h1 rfl
    cases fw with
    | some x =>
      rcases h1.fo1000 with rfl | ⟨i, hi, rfl⟩
      · exact .mk_ (.wsh h0 h1) (show RpE K H _ _ from RpE.non) (by decide +kernel)
      · exact .mk_ (.wsh h0 h1) (show RpE K H _ _ from rp_small (by omega)) (ok_small i (by omega))
    | none => exact .mk_ (.fine h0 h1) (show ("" : Str) = "" from rfl) (by decide +kernel)
abbrev pairD (d : PyData) (z : Str) : PyData := .tuple [d, .str z]
theorem Dp_ask {H : Hp} {t : Addr} {k : V} {d : PyData} {z : Str} (h : H t = some (.tup [k, .str z])) (hk : Dp K H k d) : Dp K H (.ref t) (pairD d z) := .tup (.inl (.inl h)) (.cons hk (.cons (.str z) .nil))
theorem lay_ask {d : PyData} {z : Str} (l : d.canLay0 = true) (o : PyData.strOk z = true) : (pairD d z).canLay0 = true := by
  simp [PyData.canLay0, PyData.canLayAll0, o, l]
theorem sh_ask {d : PyData} {z : Str} (l : d.canLay0 = true) (e : d.depth = 0) (o : PyData.strOk z = true) : SeqAt.shaped (pairD d z) = true := by
  unfold SeqAt.shaped
  rw [lay_ask l o]
  simp [PyData.depth, PyData.depthAll, e]
theorem eq_ask {d : PyData} {z : Str} (l : d.canLay0 = true) (o : PyData.strOk z = true) : PyData.eqv (pairD d z) (pairD d z) = true := SeqAt.eqv_refl _ (lay_ask l o)
theorem ne_ask {d : PyData} {z : Str} (l : d.canLay0 = true) (o : PyData.strOk z = true) : (!PyData.eqv (pairD d z) (pairD d z)) = false := by
  rw [eq_ask l o]
  rfl
/-! ### a call is right -/
theorem at0 {v0 v1 : V} : atI [v0, v1] 0 = some v0 := atI_nat (j := 0) rfl
theorem at1 {v0 v1 : V} : atI [v0, v1] 1 = some v1 := atI_nat (j := 1) rfl
theorem each_of {H : Hp} {S : Addr → Prop} : ∀ {rs : List Addr} {ws : List (Int × Int)}, PrAt H rs ws → (∀ r xs, H r = some (.tup xs) → ¬ S r) → (∀ x ∈ ws, x.1.natAbs.log2 < 1920 ∧ x.2.natAbs.log2 < 1920) → ∀ v ∈ rs.map V.ref, WhC K S H v
  | [], _, _, _, _, v, hv => nomatch hv
  | r :: rs, [], h, _, _, v, hv => h.elim
  | r :: rs, w :: ws, h, nS, rng, v, hv => by
    obtain ⟨h1, h2⟩ := h
    rcases List.mem_cons.mp hv with z | z
    · rw [z]
      refine WhC.tup h1 (nS _ _ h1) (by show 2 ≤ 3; decide) fun y hy => ?_
      obtain ⟨a, b⟩ := rng w List.mem_cons_self
      rcases List.mem_cons.mp hy with e | e
      · rw [e]; exact .int _ a
      · rw [List.mem_singleton.mp e]; exact .int _ b
    · exact each_of h2 nS (fun x hx => rng x (List.mem_cons_of_mem _ hx)) v z
theorem ok_of_wish {hs : List Int} {ws : List (Int × Int)} (row : Row hs) (wi : Wish hs ws) (j : Nat) (hj : j < ws.length) : okW hs (ws.map wsP) j = true := by
  have gj : (ws.map wsP)[j]? = some (wsP ws[j]) := by
    rw [List.getElem?_map, List.getElem?_eq_getElem hj]
    rfl
  obtain ⟨m1, m2, m3⟩ := wi.mem _ (List.getElem_mem hj)
  have rg := row.rng _ m1
  have h1 : isW hs (wsP ws[j]) = true := by
    show (heightB (.int ws[j].1) && (inV (.int ws[j].1) (hs.map V.int) && wholeB (.int ws[j].2) 0 (((hs.length : Nat) : Int) - 1))) = true
    have e1 : heightB (.int ws[j].1) = true := by
      show (decide (1 ≤ ws[j].1) && decide (ws[j].1 ≤ 999)) = true
      rw [decide_eq_true rg.1, decide_eq_true rg.2]
      rfl
    have e2 : inV (.int ws[j].1) (hs.map V.int) = true := by
      rw [inV_ints, decide_eq_true m1]
    have e3 : wholeB (.int ws[j].2) 0 (((hs.length : Nat) : Int) - 1) = true := by
      show (decide (0 ≤ ws[j].2) && decide (ws[j].2 ≤ ((hs.length : Nat) : Int) - 1)) = true
      rw [decide_eq_true m2, decide_eq_true (by omega)]
      rfl
    rw [e1, e2, e3]
    rfl
  have h2 : inV (.int ws[j].1) (firstsL ((ws.map wsP).take j)) = false := by
    rw [← List.map_take, firsts_ws, inV_ints]
    refine decide_eq_false fun z => ?_
    obtain ⟨x, hx, ex⟩ := List.mem_map.mp z
    obtain ⟨k, hk, ek⟩ := List.mem_iff_getElem.mp hx
    rw [List.length_take] at hk
    rw [List.getElem_take] at ek
    have nd := wi.nd
    rw [List.Nodup, List.pairwise_iff_getElem] at nd
    have := nd k j (by rw [List.length_map]; omega) (by rw [List.length_map]; exact hj) (by omega)
    rw [List.getElem_map, List.getElem_map, ek] at this
    exact this ex
  have h3 : (decide (j = 0) || lessP (ws.map wsP)[j - 1]? (wsP ws[j])) = true := by
    by_cases j0 : j = 0
    · rw [decide_eq_true j0]
      rfl
    · rw [decide_eq_false j0, List.getElem?_map, List.getElem?_eq_getElem (show j - 1 < ws.length by omega)]
      exact decide_eq_true (List.pairwise_iff_getElem.mp wi.up (j - 1) j (by omega) hj (by omega))
  unfold okW
  rw [gj]
  show (isW hs (wsP ws[j]) && (!inV (.int ws[j].1) (firstsL ((ws.map wsP).take j)) && (decide (j = 0) || lessP (ws.map wsP)[j - 1]? (wsP ws[j])))) = true
  rw [h1, h2, h3]
  rfl
theorem each_ws {H : Hp} : ∀ {rs : List Addr} {ws : List (Int × Int)}, PrAt H rs ws → EachW K H (rs.map V.ref) (ws.map wsP)
  | [], [], _ => ⟨rfl, fun i x o h => by simp at h⟩
  | [], _ :: _, h => h.elim
  | _ :: _, [], h => h.elim
  | r :: rs, w :: ws, ⟨h1, h2⟩ => by
    have ih := each_ws h2
    refine ⟨by rw [List.length_map, List.length_map, List.length_cons, List.length_cons]; have := ih.len; rw [List.length_map, List.length_map] at this; omega, fun i x o e1 e2 => ?_⟩
    cases i with
    | zero =>
      cases e1
      cases e2
      exact .pair h1 (Tv.int _) (Tv.int _)
    | succ i => exact ih.at_ i x o e1 e2
theorem ask_fine {H : Hp} {p b : Addr} {ns : List Int} {ws : List (Int × Int)} (hp : SqT K H p (ns.map V.int)) (asc : Asc ns) (hw : WsAt K H b ws) (wi : Wish ns ws) (few : ws.length ≤ 12) : AskAt K H (.ref p) (.ref b) (.str "told") "" := by
  obtain ⟨rs, hb, hr⟩ := hw
  have e := each_ws (K := K) hr
  have len := e.len
  rw [List.length_map, List.length_map] at len
  exact ⟨none, .fine (.asc hp asc) (.fine hb e (by rw [List.length_map]; omega) (fun j hj => ok_of_wish asc.row wi j hj) wi), rfl, rfl⟩
abbrev s__law_call_right : Stmt := top 68
abbrev N__law_call_right : List Str := ["_law_pool_here", "_law_door", "_law_persons_here", "_law_asked", "_law_way", "_law_given", "_law_shown"]
theorem sc__law_call_right : FnScope N__law_call_right ["_law_pool_here", "_law_door"] (defScope s__law_call_right) := ⟨rfl, rfl, rfl, by decide +kernel, rfl, by decide +kernel, by decide +kernel⟩
def spCRight : Sp := fun vs H Q _ => ∃ (a : Addr) (dr : Nat), vs = [.ref a, .int ((dr : Nat) : Int)] ∧ dr ≤ 3 ∧ Pool H a ∧ ∀ H', Kp a H H' → Pool H' a → Q (.bl true) H'
theorem ok_callright (D : Df K mg "_law_call_right" s__law_call_right) (c__law_draw : Cl P w K mg base 1 "_law_draw" s__law_draw ["_law_pool_here", "_law_limit"] spDraw) (c__law_persons : Cl P w K mg base 2 "_law_persons" s__law_persons ["_law_pool_here", "_law_many"] spPersons) (c__law_a_wish : Cl P w K mg base 3 "_law_a_wish" s__law_a_wish ["_law_pool_here", "_law_persons_here"] (spAWish K)) (c__law_odd_asked : Cl P w K mg base 2 "_law_odd_asked" s__law_odd_asked ["_law_pool_here", "_law_persons_here", "_law_asked"] (spOddA K)) (c__law_odd_persons : Cl P w K mg base 2 "_law_odd_persons" s__law_odd_persons ["_law_pool_here", "_law_persons_here"] (spOddP K))
    (c__law_caught : ClG P w K mg base 10 "_law_caught" s__law_caught ["_law_door", "_law_persons_here", "_law_asked"] (spCaught K)) (c__law_due : ClG P w K mg base 4 "_law_due" s__law_due ["_law_persons_here", "_law_asked"] (spDue K)) (m_tuple : mg "tuple" = none) (m_repr : mg "repr" = none) :
    ClG P w K mg base 11 "_law_call_right" s__law_call_right ["_law_pool_here", "_law_door"] spCRight := by
  refine D.okG sc__law_call_right (fun _ _ _ _ _ _ us hl => match us, hl with | [_, _], _ => rfl) (fun vs H Q E h => ?_) (fun f cdv A outer s H vs Q E hr hgd h => ?_)
  · obtain ⟨a, dr, rfl, _⟩ := h
    rfl
  · obtain ⟨a, dr, rfl, d3, hp, q⟩ := h
    refine ⟨_, 
      (pss_cons (ps_set (i := 2) sc__law_call_right.nd rfl (Or.inl rfl) (pe_callTy call_tuple_of (by rfl) m_tuple (by decide +kernel) (pa_cons (pe_u c__law_persons hr (by omega) (by rfl) (pa_cons (pv 0) (pa_cons (pe_op op_add pe_int (pe_u c__law_draw hr (by omega) (by rfl) (pa_cons (pv 0) (pa_cons pe_int pa_nil)))) pa_nil))) pa_nil))) 
      (pss_cons (ps_par (i := 3) (j := 4) (by rfl) sc__law_call_right.nd rfl rfl (by decide) rfl rfl (pa_cons (pe_u c__law_a_wish hr (by omega) (by rfl) (pa_cons (pv 0) (pa_cons (pv 2) pa_nil))) (pa_cons (pe_u c__law_draw hr (by omega) (by rfl) (pa_cons (pv 0) (pa_cons pe_int pa_nil))) pa_nil)) (by rfl)) 
      (pss_cons (ps_set (i := 5) sc__law_call_right.nd rfl (Or.inl rfl) (pe_lstB (pa_cons (pv 2) (pa_cons (pv 3) pa_nil)))) 
      (C8.pss_cut (ps_if (pt_cmpR op_ne (pv 4) pe_int (nomark _)) (pss_one (ps_asg (pe_u c__law_odd_asked hr (by omega) (by rfl) (pa_cons (pv 0) (pa_cons (pv 2) (pa_cons (pv 3) pa_nil)))) (pg_sub (pv 5) pe_int set_list))) pss_nil) 
      (C8.pss_cut (ps_if (pt_cmpR op_ne (pv 4) pe_int (nomark _)) (pss_one (ps_asg (pe_u c__law_odd_persons hr (by omega) (by rfl) (pa_cons (pv 0) (pa_cons (pv 2) pa_nil))) (pg_sub (pv 5) pe_int set_list))) pss_nil) 
      (pss_cons (ps_set (i := 6) sc__law_call_right.nd rfl (Or.inl rfl) (pe_callB (call_reprR (L2H.roomH_of hr) hgd) (by rfl) m_repr (by decide +kernel) (pa_cons (pv 5) pa_nil))) 
      (pss_cons (ps_if (PW.pt (pw_or (pt_cmpR (op_neD hr.units) (pe_ug c__law_caught hr hgd (by omega) (by rfl) (pa_cons (pv 1) (pa_cons (pe_ix ix_list (pv 5) pe_int (fun _ _ => rfl)) (pa_cons (pe_ix ix_list (pv 5) pe_int (fun _ _ => rfl)) pa_nil)))) (pe_ug c__law_due hr hgd (by omega) (by rfl) (pa_cons (pe_ix ix_list (pv 5) pe_int (fun _ _ => rfl)) (pa_cons (pe_ix ix_list (pv 5) pe_int (fun _ _ => rfl)) pa_nil))) (nomark _)) (pw_or1 (pt_cmpR op_ne (pe_callB (call_reprR (L2H.roomH_of hr) hgd) (by rfl) m_repr (by decide +kernel) (pa_cons (pv 5) pa_nil)) (pv 6) (nomark _))))) (pss_one (ps_ret pe_bl)) pss_nil) 
      (pss_one (ps_ret (pe_cmpR (op_eqD hr.units) (pe_ug c__law_caught hr hgd (by omega) (by rfl) (pa_cons (pv 1) (pa_cons (pv 2) (pa_cons (pv 3) pa_nil)))) (pe_tup (pa_cons pe_str (pa_cons pe_str pa_nil))) (nomark _))))))))))), ?_⟩
    have two : ∀ x y : V, ([x, y] : List V).length ≤ sizeLine := fun _ _ => by show 2 ≤ sizeLine; decide
    refine ⟨_, rfl, _, rfl, a, 12, rfl, by decide, by decide, hp, fun d G d0 d1 k1 p1 => ?_⟩
    refine ⟨_, _, rfl, rfl, a, 1 + d, rfl, by omega, by omega, p1, fun l0 ns G2 k2 p2 nl0 hl0 len hrow up => ?_⟩
    refine ⟨l0, _, rfl, .inl ⟨.inl (.inl hl0), fun p np => ?_⟩⟩
    have s1 := same_upd (o := .tup (ns.map V.int)) np
    have h1 : upd G2 p (.tup (ns.map V.int)) p = some (.tup (ns.map V.int)) := upd_same
    have pa := p2.ne np
    have kk : Kp a H (upd G2 p (.tup (ns.map V.int))) := (k1.trans k2).trans (.of_same s1)
    have pp : Pool (upd G2 p (.tup (ns.map V.int))) a := p2.of fun u e => s1 a u e
    clear hl0 k1 k2 p1 p2 s1
    generalize upd G2 p (.tup (ns.map V.int)) = F at h1 kk pp ⊢
    have most := hrow.most
    have pos := hrow.pos
    have asc : Asc ns := ⟨hrow, up⟩
    refine ⟨_, rfl, _, rfl, a, p, ns, rfl, .inl (.inl h1), asc, pp, fun b rs ws F1 k3 p3 hb hr' wi => ?_⟩
    refine ⟨_, rfl, a, 3, rfl, by decide, by decide, p3, fun way F2 w0 w1 k4 p4 => ?_⟩
    have hp2 := k4 _ _ (k3 _ _ h1 pa) pa
    replace hr' : PrAt F2 rs ws := hr'.imp fun r _ _ e => k4 r _ e (p3.row e)
    replace hb := k4 _ _ hb (p3.row hb)
    have few := wish_len wi
    refine ⟨_, _, rfl, ?_⟩
    refine ⟨_, rfl, _, rfl, two _ _, fun g ng gm => ?_⟩
    have ga := p4.ne ng
    have sG := same_upd (o := .lst [.ref p, .ref b]) ng
    have kH : Kp a H F2 := (kk.trans k3).trans k4
    clear k3 p3 k4 h1 pp kk
    generalize hS : (fun c : Addr => c = a ∨ c = g) = S
    have Sa : S a := by rw [← hS]; exact .inl rfl
    have Sg : S g := by rw [← hS]; exact .inr rfl
    have nS : ∀ {c : Addr}, c ≠ a → c ≠ g → ¬ S c := fun h1 h2 => by rw [← hS]; exact fun z => z.elim h1 h2
    have nT : ∀ r xs, F2 r = some (.tup xs) → ¬ S r := fun r xs h => nS (fun e => by
      obtain ⟨_, _, _, z, _⟩ := p4
      rw [e, z] at h
      cases h) (ne_of_none h ng)
    have pS : ¬ S p := nT p _ hp2
    have bS : ¬ S b := nT b _ hb
    have rl := hr'.len
    have xsW : ∀ v ∈ rs.map V.ref, WhC K S F2 v := each_of hr' nT fun x hx => by
      obtain ⟨m1, m2, m3⟩ := wi.mem x hx
      exact ⟨small_log (hrow.rng _ m1), Nat.lt_of_le_of_lt (Nat.log2_le_self _) (by omega)⟩
    have hp3 := sG _ _ hp2
    have hg3 : upd F2 g (.lst [.ref p, .ref b]) g = some (.lst [.ref p, .ref b]) := upd_same
    have p5 : Pool (upd F2 g (.lst [.ref p, .ref b])) a := p4.of fun u e => sG a u e
    have hb3 := sG _ _ hb
    have hr3 : PrAt (upd F2 g (.lst [.ref p, .ref b])) rs ws := hr'.same sG
    have xs3 : ∀ v ∈ rs.map V.ref, WhC K S (upd F2 g (.lst [.ref p, .ref b])) v := fun v hv => (xsW v hv).kp (.of_same sG)
    have kE : ∀ {F : Hp}, KpS S (upd F2 g (.lst [.ref p, .ref b])) F → Kp a H F := fun k c o e ne => k c o (sG _ _ (kH c o e ne)) (nS ne fun z => by
      rw [z] at e
      rw [kH g o e ga] at ng
      cases ng)
    clear hp2 hb hr' xsW kH p4 nT
    generalize upd F2 g (.lst [.ref p, .ref b]) = G at hp3 hg3 p5 hb3 hr3 xs3 kE ⊢
    have kS : ∀ {F F' : Hp}, Kp a F F' → KpS S F F' := fun k => .of_kp Sa k
    have wr : ∀ {F : Hp} {o : HO}, KpS S F (upd F g o) := fun {F o} c u e n => by
      rw [upd_ne (show c ≠ g from fun z => n (by rw [z]; exact Sg))]
      exact e
    have full : ∀ {F : Hp}, Pool F a → (∃ o, F g = some o) → ∀ c, S c → F c ≠ none := fun {F} pF ⟨o, ho⟩ c hc e => by
      rw [← hS] at hc
      rcases hc with rfl | rfl
      · exact pF.ne e rfl
      · rw [ho] at e
        cases e
    have xl : (rs.map V.ref).length ≤ 12 := by rw [List.length_map]; have := hr3.len; omega
    have ak0 : AkC K S G (.ref b) := AkC.tup (.inl (.inl hb3)) bS (by omega) xs3
    have li0 : LiC K S G (.ref p) := LiC.tup (.inl (.inl hp3)) pS (by rw [List.length_map]; omega) (ElC.row hrow)
    refine ⟨fun σ F => ∃ (x1 : V), σ = [some (.ref a), some (.int ((dr : Nat) : Int)), some (.ref p), some (.ref b), some (.int way), some (.ref g), none] ∧ KpS S G F ∧ Pool F a ∧ F g = some (.lst [.ref p, x1]) ∧ AkC K S F x1, ?_, fun σ F hM => ?_⟩
    · refine ⟨_, rfl, rfl, _, rfl, ite2 (fun _ => ?_) (fun _ => ?_)⟩
      · refine ⟨_, rfl, _, rfl, _, rfl, a, p, b, ns, _, S, rfl, p5, Sa, pS, bS, full p5 ⟨_, hg3⟩, hp3, hrow, .inl (.inl hb3), xl, xs3, fun v F kF pF ak => ?_⟩
        exact ⟨_, rfl, g, _, 1, 1, rfl, rfl, kF _ _ hg3 ga, rfl, v, rfl, (kS kF).trans wr, pF.upd ga.symm, upd_same, ak.kp wr⟩
      · exact ⟨_, rfl, .refl, p5, hg3, ak0⟩
    obtain ⟨x1, rfl, kF, pF, hgF, ak⟩ := hM
    have hpF := kF _ _ hp3 pS
    refine ⟨fun σ F => ∃ (x0 x1 : V), σ = [some (.ref a), some (.int ((dr : Nat) : Int)), some (.ref p), some (.ref b), some (.int way), some (.ref g), none] ∧ KpS S G F ∧ Pool F a ∧ F g = some (.lst [x0, x1]) ∧ LiC K S F x0 ∧ AkC K S F x1, ?_, fun σ F hM => ?_⟩
    · refine ⟨_, rfl, rfl, _, rfl, ite2 (fun _ => ?_) (fun _ => ?_)⟩
      · refine ⟨_, rfl, _, rfl, a, p, ns, S, rfl, pF, Sa, pS, full pF ⟨_, hgF⟩, hpF, hrow, fun v F2 k2 pF2 li => ?_⟩
        exact ⟨_, rfl, g, _, 0, 0, rfl, rfl, k2 _ _ hgF ga, rfl, v, x1, rfl, (kF.trans (kS k2)).trans wr, pF2.upd ga.symm, upd_same, li.kp wr, (ak.kp (kS k2)).kp wr⟩
      · exact ⟨_, _, rfl, kF, pF, hgF, li0.kp kF, ak⟩
    clear kF pF hgF ak hpF
    obtain ⟨x0, x1, rfl, kF, pF, hgF, li, ak⟩ := hM
    obtain ⟨fo, hs, w0'⟩ := li.ht
    obtain ⟨fw, w1'⟩ := ak.ak hs
    have ok : AsksOk K F x0 x1 := asksW (w0' F .refl) fun _ => w1' F .refl
    obtain ⟨k, z, ask, oz, dk, hdk, _, lk_, dz⟩ := ok
    obtain ⟨da, oa, ra⟩ := li.2
    obtain ⟨db, ob, rb⟩ := ak.2
    have okL : OkR (.list [da, db]) 5 (2 * 200000 + 2 * 2 + 3) := OkR.lst (fun d hd => by
      rcases List.mem_cons.mp hd with z | z
      · rw [z]; exact oa.le (by decide) (by decide)
      · rw [List.mem_singleton.mp z]; exact ob.le (by decide) (by decide)) (Nat.le_refl _)
    have shown : ∀ {F' : Hp}, Same F F' → Dr K F' (.ref g) (.list [da, db]) := fun s => .lst (s _ _ hgF) gm (.cons (ra _ (.of_same s)) (.cons (rb _ (.of_same s)) .nil))
    have hpF := kF _ _ hp3 pS
    have told : AskAt K F (.ref p) (.ref b) (.str "told") "" := ask_fine (.inl (.inl hpF)) asc ⟨rs, .inl (.inl (kF _ _ hb3 bS)), hr3.imp fun r _ _ e => kF r _ e (nS (p5.row e) fun z => by rw [z, hg3] at e; cases e)⟩ wi (by omega)
    refine ⟨_, rfl, g, _, rfl, shown (Same.refl F), Nat.le_trans okL.deep (by decide), okL.shw, Nat.le_trans okL.fits (by decide), ?_⟩
    refine ⟨_, rfl, _, rfl, g, _, 0, x0, rfl, rfl, .inl (.inl hgF), at0, _, rfl, g, _, 1, x1, rfl, rfl, .inl (.inl hgF), at1, dr, x0, x1, k, z, rfl, d3, ask, fun ta Fa sa ha => ?_⟩
    have hga := sa _ _ hgF
    refine ⟨_, rfl, g, _, 0, x0, rfl, rfl, .inl (.inl hga), at0, _, rfl, g, _, 1, x1, rfl, rfl, .inl (.inl hga), at1, x0, x1, k, z, rfl, ask.same sa, fun tb Fb sb hb => ?_⟩
    have sD := sa.trans sb
    have hdD : Dp K Fb k dk := dp_same sD dk k hdk
    refine ⟨_, _, Dp_ask (sb _ _ ha) hdD, Dp_ask hb hdD, sh_ask lk_ dz oz, sh_ask lk_ dz oz, _, rfl, ?_⟩
    rw [ne_ask lk_ oz]
    refine iteF ⟨_, rfl, g, _, rfl, shown sD, Nat.le_trans okL.deep (by decide), okL.shw, Nat.le_trans okL.fits (by decide), _, rfl, rfl, _, rfl, ?_⟩
    refine (show ∀ {b : Bool} {A B : Prop}, b = false → B → if b = true then A else B from fun h hb => by rw [h]; exact iteF hb) (by show (!decide _) = false; rw [decide_eq_true rfl]; rfl) ?_
    refine ⟨_, rfl, _, rfl, _, rfl, dr, .ref p, .ref b, .str "told", "", rfl, d3, told.same sD, fun t F2 s2 h2 => ?_⟩
    refine ⟨two _ _, fun t2 n2 => ?_⟩
    have s3 := same_upd (o := .tup [.str "told", .str ""]) n2
    refine ⟨_, _, Dp_ask (s3 _ _ h2) (.str _), Dp_ask upd_same (.str _), by decide +kernel, by decide +kernel, ?_⟩
    rw [eq_ask (d := .str "told") (z := "") (by decide +kernel) (by decide +kernel)]
    have sE := (sD.trans s2).trans s3
    exact q _ (kE (kF.trans (.of_same sE))) (pF.of fun u e => sE a u e)
end
section
variable {P : Program} {w : World} {K : PySem.W.Frag} {mg : Str → Option Value} {base : Heap}
/-! ### the law -/
theorem row_lit {ns : List Int} (h : (decide (1 ≤ ns.length) && decide (ns.length ≤ 12) && decide ns.Nodup && ns.all fun x => decide (1 ≤ x) && decide (x ≤ 999)) = true) : Row ns := by
  simp only [Bool.and_eq_true, decide_eq_true_eq, List.all_eq_true] at h
  exact ⟨h.1.1.1, h.1.1.2, h.1.2, h.2⟩
/-- a pair of data that is no container, as values -/
def psD : PyData → Option (V × V)
  | .tuple [x, y] => some (vOf x, vOf y)
  | _ => none
def twoB : PyData → Bool
  | .tuple [x, y] => scB x && scB y
  | _ => false
theorem each_li {H : Hp} : ∀ {ds : List PyData} {vs : List V}, LiAll H vs ds → ds.all twoB = true → EachW K H vs (ds.map psD)
  | [], _, h, _ => by
    cases h
    exact ⟨rfl, fun i x o h => by simp at h⟩
  | d :: ds, _, h, t => by
    rw [List.all_cons] at t
    have t := Bool.and_eq_true_iff.mp t
    cases h with
    | @cons x xs _ _ h1 h2 =>
      have ih := each_li h2 t.2
      have hd : WshV K H x (psD d) := by
        have t1 := t.1
        unfold twoB at t1
        split at t1
        · rename_i dx dy
          have t1 := Bool.and_eq_true_iff.mp t1
          cases h1 with
          | tup hs ha =>
            cases ha with
            | cons a1 r1 =>
              cases r1 with
              | cons a2 r2 =>
                cases r2
                rw [a1.flat t1.1, a2.flat t1.2] at hs
                obtain ⟨T, tx, _⟩ := vOf_tv (K := K) (H := H) t1.1
                obtain ⟨U, ty, _⟩ := vOf_tv (K := K) (H := H) t1.2
                exact .pair hs tx ty
        · cases t1
      refine ⟨by rw [List.map_cons, List.length_cons, List.length_cons, ih.len], fun i y o e1 e2 => ?_⟩
      cases i with
      | zero =>
        cases e1
        cases e2
        exact hd
      | succ i => exact ih.at_ i y o e1 e2
theorem asc_li {H : Hp} {v : V} {d0 : List PyData} (ns : List Int) (h : Li H v (.tuple d0)) (e : d0 = ns.map PyData.int) (asc : Asc ns) : HtF K H v none ns := by
  cases h with
  | tup hs ha =>
    have f := ha.flat (by rw [e, List.all_eq_true]; intro x hx; obtain ⟨i, _, rfl⟩ := List.mem_map.mp hx; rfl)
    rw [f, e, List.map_map] at hs
    exact .asc (.inl (.inl hs)) asc
theorem ask_bad {H : Hp} {v0 v1 : V} {d0 ds : List PyData} {z : Str} (ns : List Int) (i : Nat) (h0 : Li H v0 (.tuple d0)) (h1 : Li H v1 (.tuple ds)) (e0 : d0 = ns.map PyData.int) (asc : Asc ns) (tw : ds.all twoB = true) (few : ds.length ≤ 1000) (lt : i < ds.length)
    (ho : okW ns (ds.map psD) i = false) (hb : (List.range i).all (okW ns (ds.map psD)) = true) (ez : i < 1001 ∧ (PyData.int ((i : Nat) : Int)).shown = z) : AskAt K H v0 v1 (.int 8) z := by
  have hh := asc_li (K := K) ns h0 e0 asc
  cases h1 with
  | tup hs ha =>
    have e := each_li (K := K) ha tw
    exact ⟨some (.wishes, .int ((i : Nat) : Int)), .wsh hh (.wrong (.inl (.inl hs)) e (by rw [ha.len]; exact few) (by rw [List.length_map]; exact lt) ho fun j hj => List.all_eq_true.mp hb j (List.mem_range.mpr hj)), rfl, show RpE K H _ _ from ez.2 ▸ rp_small ez.1⟩
theorem ask_good {H : Hp} {v0 v1 : V} {d0 ds : List PyData} (ns : List Int) (h0 : Li H v0 (.tuple d0)) (h1 : Li H v1 (.tuple ds)) (e0 : d0 = ns.map PyData.int) (asc : Asc ns) (tw : ds.all twoB = true) (few : ds.length ≤ 1000)
    (hb : (List.range ds.length).all (okW ns (ds.map psD)) = true) : AskAt K H v0 v1 (.str "told") "" := by
  have hh := asc_li (K := K) ns h0 e0 asc
  cases h1 with
  | tup hs ha =>
    have e := each_li (K := K) ha tw
    have ok : ∀ j < (ds.map psD).length, okW ns (ds.map psD) j = true := fun j hj => List.all_eq_true.mp hb j (List.mem_range.mpr (by rw [List.length_map] at hj; exact hj))
    obtain ⟨ws, ew, lw, wi⟩ := wish_of_ok (hs := ns) (ps := ds.map psD) (ds.map psD).length (Nat.le_refl _) ok
    rw [List.take_length] at ew
    rw [ew] at e ok
    exact ⟨none, .fine hh (.fine (.inl (.inl hs)) e (by rw [ha.len]; exact few) (fun j hj => ok j (by rw [List.length_map]; exact hj)) wi), rfl, rfl⟩
theorem ask_ht {H : Hp} {v0 v1 : V} {d0 : List PyData} {z : Str} (i : Nat) (h0 : Li H v0 (.tuple d0)) (sc : d0.all scB = true) (l1 : 1 ≤ d0.length) (l2 : d0.length ≤ 12) (lt : i < d0.length) (ho : okUp (d0.map vOf) i = false) (hb : (List.range i).all (okUp (d0.map vOf)) = true) (ez : i < 1001 ∧ (PyData.int ((i : Nat) : Int)).shown = z) : AskAt K H v0 v1 (.int 7) z := by
  cases h0 with
  | tup hs ha =>
    rw [ha.flat sc] at hs
    exact ⟨some (.heights, .int ((i : Nat) : Int)), .hts (.wrong (.inl (.inl hs)) (by rw [List.length_map]; exact l1) (by rw [List.length_map]; exact l2) (vOf_tvs sc) (by rw [List.length_map]; exact lt) ho fun j hj => List.all_eq_true.mp hb j (List.mem_range.mpr hj)), rfl, show RpE K H _ _ from ez.2 ▸ rp_small ez.1⟩
/-- one row of the law's own table: good wishes, and odd ones -/
def rowQ : PyData → Bool
  | .tuple [.tuple g, .tuple o] => (g.all twoB && o.all twoB) && ((decide (g.length = 1) && decide (o.length = 1)) && (okW [1, 2] (g.map psD) 0 && !okW [1, 2] (o.map psD) 0))
  | _ => false
theorem asc12 : Asc [1, 2] := ⟨row_lit (by decide), by decide⟩
theorem row_of {H : Hp} {x : V} {d : PyData} (h : Li H x d) (r : rowQ d = true) : ∃ (e : Addr) (a b : V), x = .ref e ∧ H e = some (.tup [a, b]) ∧ ∀ (G : Hp) (v0 : V), Same H G → Li G v0 (.tuple [.int 1, .int 2]) → AskAt K G v0 a (.str "told") "" ∧ AskAt K G v0 b (.int 8) "0" := by
  unfold rowQ at r
  split at r
  · rename_i g o
    simp only [Bool.and_eq_true, decide_eq_true_eq, Bool.not_eq_true'] at r
    obtain ⟨⟨t1, t2⟩, ⟨l1, l2⟩, o1, o2⟩ := r
    cases h with
    | tup hs ha =>
      cases ha with
      | cons a1 r1 =>
        cases r1 with
        | cons a2 r2 =>
          cases r2
          refine ⟨_, _, _, rfl, hs, fun G v0 s l0 => ⟨ask_good [1, 2] l0 (a1.same s) rfl asc12 t1 (by omega) ?_, ask_bad [1, 2] 0 l0 (a2.same s) rfl asc12 t2 (by omega) (by omega) o2 rfl ⟨by decide, by decide +kernel⟩⟩⟩
          rw [l1]
          show (okW [1, 2] (g.map psD) 0 && true) = true
          rw [o1]
          rfl
  · cases r
abbrev s_law : Stmt := top 69
abbrev N_law : List Str := ["_law_script", "_law_door", "_law_asked", "_law_odd", "_law_k", "_law_pool_here", "_law_turn"]
theorem sc_law : FnScope N_law ["_law_script"] (defScope s_law) := ⟨rfl, rfl, rfl, by decide +kernel, rfl, by decide +kernel, by decide +kernel⟩
def spLaw (K : PySem.W.Frag) : Sp := fun vs H Q _ => ∃ (a : Addr) (ns : List Int), vs = [.ref a] ∧ SqL K H a (ns.map V.int) ∧ ns.length ≤ 63 ∧ ∀ H', Q (.bl true) H'
theorem ok_law (D : Df K mg "law" s_law) (c__law_call_right : ClG P w K mg base 11 "_law_call_right" s__law_call_right ["_law_pool_here", "_law_door"] spCRight) (c__law_caught : ClG P w K mg base 10 "_law_caught" s__law_caught ["_law_door", "_law_persons_here", "_law_asked"] (spCaught K)) (c__law_pool : Cl P w K mg base 1 "_law_pool" s__law_pool ["_law_item"] spPool)
    (c__law_cell : Cl P w K mg base 1 "_law_cell" s__law_cell ["_law_script", "_law_k"] (spCell K)) (m_len : mg "len" = none) (m_range : mg "range" = none) (m_max : mg "max" = none) (m_min : mg "min" = none) :
    ClG P w K mg base 12 "law" s_law ["_law_script"] (spLaw K) := by
  refine D.okG sc_law (fun _ _ _ _ _ _ us hl => match us, hl with | [_], _ => rfl) (fun vs H Q E h => ?_) (fun f cdv A outer s H vs Q E hr hgd h => ?_)
  · obtain ⟨a, ns, rfl, _⟩ := h
    rfl
  · obtain ⟨a, ns, rfl, hS, hlen, q⟩ := h
    refine ⟨_, 
      (pss_cons (ps_if (PW.pt (pw_or (pt_cmpR (op_neD hr.units) (pe_ug c__law_caught hr hgd (by omega) (by rfl) (pa_cons pe_int (pa_cons (q_tup (qs_cons q_int (qs_cons q_int qs_nil)) (by decide)) (pa_cons (q_tup (qs_cons (q_tup (qs_cons q_int (qs_cons q_int qs_nil)) (by decide)) (qs_cons (q_tup (qs_cons q_int (qs_cons q_int qs_nil)) (by decide)) qs_nil)) (by decide)) pa_nil)))) (q_tup (qs_cons q_int (qs_cons q_str qs_nil)) (by decide)) (nomark _)) (pw_or1 (pt_cmpR (op_neD hr.units) (pe_ug c__law_caught hr hgd (by omega) (by rfl) (pa_cons pe_int (pa_cons (q_tup (qs_cons q_int (qs_cons q_int qs_nil)) (by decide)) (pa_cons (q_tup (qs_cons (q_tup (qs_cons q_int (qs_cons q_int qs_nil)) (by decide)) (qs_cons (q_tup (qs_cons q_int (qs_cons q_int qs_nil)) (by decide)) qs_nil)) (by decide)) pa_nil)))) (q_tup (qs_cons q_int (qs_cons q_str qs_nil)) (by decide)) (nomark _))))) (pss_one (ps_ret pe_bl)) pss_nil) 
      (pss_cons (ps_if (pt_cmpR (op_neD hr.units) (pe_ug c__law_caught hr hgd (by omega) (by rfl) (pa_cons pe_int (pa_cons (q_tup (qs_cons q_int (qs_cons q_int qs_nil)) (by decide)) (pa_cons pe_non pa_nil)))) (q_tup (qs_cons q_int (qs_cons q_str qs_nil)) (by decide)) (nomark _)) (pss_one (ps_ret pe_bl)) pss_nil) 
      (pss_cons (ps_for PassesOwn.never rfl (pi_range1 (by rfl) m_range (pa_cons pe_int pa_nil)) (pg_name (i := 1) sc_law.nd rfl (Or.inl rfl)) (pss_cons (ps_for PassesOwn.never rfl (pi_list (q_lst (qs_cons (q_tup (qs_cons (q_tup (qs_cons (q_tup (qs_cons q_int (qs_cons q_int qs_nil)) (by decide)) qs_nil) (by decide)) (qs_cons (q_tup (qs_cons (q_tup (qs_cons q_bl (qs_cons q_int qs_nil)) (by decide)) qs_nil) (by decide)) qs_nil)) (by decide)) (qs_cons (q_tup (qs_cons (q_tup (qs_cons (q_tup (qs_cons q_int (qs_cons q_int qs_nil)) (by decide)) qs_nil) (by decide)) (qs_cons (q_tup (qs_cons (q_tup (qs_cons q_int (qs_cons q_bl qs_nil)) (by decide)) qs_nil) (by decide)) qs_nil)) (by decide)) (qs_cons (q_tup (qs_cons (q_tup (qs_cons (q_tup (qs_cons q_int (qs_cons q_int qs_nil)) (by decide)) qs_nil) (by decide)) (qs_cons (q_tup (qs_cons (q_tup (qs_cons q_int (qs_cons q_bl qs_nil)) (by decide)) qs_nil) (by decide)) qs_nil)) (by decide)) qs_nil))) (by decide))) (pg_tup (by rfl) (pgs_cons (pg_name (i := 2) sc_law.nd rfl (Or.inl rfl)) (pgs_cons (pg_name (i := 3) sc_law.nd rfl (Or.inl rfl)) pgs_nil))) (pss_one (ps_if (PW.pt (pw_or (pt_cmpR (op_neD hr.units) (pe_ug c__law_caught hr hgd (by omega) (by rfl) (pa_cons (pv 1) (pa_cons (q_tup (qs_cons q_int (qs_cons q_int qs_nil)) (by decide)) (pa_cons (pv 2) pa_nil)))) (q_tup (qs_cons q_str (qs_cons q_str qs_nil)) (by decide)) (nomark _)) (pw_or1 (pt_cmpR (op_neD hr.units) (pe_ug c__law_caught hr hgd (by omega) (by rfl) (pa_cons (pv 1) (pa_cons (q_tup (qs_cons q_int (qs_cons q_int qs_nil)) (by decide)) (pa_cons (pv 3) pa_nil)))) (q_tup (qs_cons q_int (qs_cons q_str qs_nil)) (by decide)) (nomark _))))) (pss_one (ps_ret pe_bl)) pss_nil))) (pss_one (ps_if (pt_cmpR (op_neD hr.units) (pe_ug c__law_caught hr hgd (by omega) (by rfl) (pa_cons (pv 1) (pa_cons (q_tup (qs_cons q_bl (qs_cons q_int qs_nil)) (by decide)) (pa_cons (q_tup qs_nil (by decide)) pa_nil)))) (q_tup (qs_cons q_int (qs_cons q_str qs_nil)) (by decide)) (nomark _)) (pss_one (ps_ret pe_bl)) pss_nil)))) 
      (pss_cons (ps_for PassesOwn.never rfl (pi_range1 (by rfl) m_range (pa_cons (pe_callB (call_max2 rfl) (by rfl) m_max (by decide +kernel) (pa_cons pe_int (pa_cons (pe_callB (call_min2 rfl) (by rfl) m_min (by decide +kernel) (pa_cons pe_int (pa_cons (pe_callB call_lenS (by rfl) m_len (by decide +kernel) (pa_cons (pv 0) pa_nil)) pa_nil))) pa_nil))) pa_nil)) (pg_name (i := 4) sc_law.nd rfl (Or.inl rfl)) (pss_cons (ps_set (i := 5) sc_law.nd rfl (Or.inl rfl) (pe_u c__law_pool hr (by omega) (by rfl) (pa_cons (pe_u c__law_cell hr (by omega) (by rfl) (pa_cons (pv 0) (pa_cons (pv 4) pa_nil))) pa_nil))) (pss_one (ps_for PassesOwn.never rfl (pi_range1 (by rfl) m_range (pa_cons pe_int pa_nil)) (pg_name (i := 6) sc_law.nd rfl (Or.inl rfl)) (pss_one (ps_if (pt_not (pt_val (pe_ug c__law_call_right hr hgd (by omega) (by rfl) (pa_cons (pv 5) (pa_cons (pe_op op_fdiv (pv 6) pe_int) pa_nil))))) (pss_one (ps_ret pe_bl)) pss_nil)))))) 
      (pss_one (ps_ret pe_bl)))))), ?_⟩
    have li8 : (PyData.int 8).canLay0 = true := by simp [PyData.canLay0]
    have li7 : (PyData.int 7).canLay0 = true := by simp [PyData.canLay0]
    have lit : (PyData.str "told").canLay0 = true := by decide +kernel
    have o1 : PyData.strOk ("1" : Str) = true := by decide +kernel
    have o0 : PyData.strOk ("0" : Str) = true := by decide +kernel
    have oE : PyData.strOk ("" : Str) = true := by decide +kernel
    refine fun v0 A1 s0 l0 v1 A2 s1 l1 => ⟨0, v0, v1, .int 8, "1", rfl, by decide, ask_bad [5, 8] 1 (l0.same s1) l1 rfl ⟨row_lit (by decide), by decide⟩ (by decide) (by decide) (by decide) (by decide +kernel) (by decide +kernel) ⟨by decide, by decide +kernel⟩, fun t A3 s2 h2 u A4 s3 l2 => ?_⟩
    refine ⟨_, _, Dp_ask (s3 _ _ h2) (.int _), l2.dp rfl, by decide +kernel, by decide +kernel, _, rfl, ?_⟩
    rw [ne_ask (d := .int 8) (z := "1") li8 o1]
    refine iteF ?_
    have sA := ((s0.trans s1).trans s2).trans s3
    clear l0 l1 s0 s1 h2 s2 s3 l2
    refine fun v0 B1 s0 l0 v1 B2 s1 l1 => ⟨1, v0, v1, .int 8, "1", rfl, by decide, ask_bad [5, 8] 1 (l0.same s1) l1 rfl ⟨row_lit (by decide), by decide⟩ (by decide) (by decide) (by decide) (by decide +kernel) (by decide +kernel) ⟨by decide, by decide +kernel⟩, fun t B3 s2 h2 u B4 s3 l2 => ?_⟩
    refine ⟨_, _, Dp_ask (s3 _ _ h2) (.int _), l2.dp rfl, by decide +kernel, by decide +kernel, _, rfl, ?_⟩
    rw [ne_ask (d := .int 8) (z := "1") li8 o1]
    refine iteF ?_
    have sB := (((sA.trans s0).trans s1).trans s2).trans s3
    clear l0 l1 s0 s1 h2 s2 s3 l2 sA
    refine fun v0 C1 s0 l0 => ⟨3, v0, .non, .int 7, "1", rfl, by decide, ask_ht 1 l0 (by decide) (by decide) (by decide) (by decide) (by decide +kernel) (by decide +kernel) ⟨by decide, by decide +kernel⟩, fun t C3 s2 h2 u C4 s3 l2 => ?_⟩
    refine ⟨_, _, Dp_ask (s3 _ _ h2) (.int _), l2.dp rfl, by decide +kernel, by decide +kernel, _, rfl, ?_⟩
    rw [ne_ask (d := .int 7) (z := "1") li7 o1]
    refine iteF ?_
    have sC := ((sB.trans s0).trans s2).trans s3
    clear l0 s0 h2 s2 s3 l2 sB
    refine ⟨4, rfl, by decide, by decide, ?_⟩
    refine for_range (lo := 0) (n := (4 : Int).toNat) (fun i σ F => ∃ y1 y2 y3 : Option V, σ = [some (.ref a), y1, y2, y3, none, none, none] ∧ Same H F) ⟨none, none, none, rfl, sC⟩ (fun dr σ F hdr hI => ?_) (fun σ F hI => ?_)
    · obtain ⟨y1, y2, y3, rfl, sm⟩ := hI
      have hdr : dr < 4 := hdr
      have ed : (0 + ((dr : Nat) : Int)) = ((dr : Nat) : Int) := by omega
      rw [ed]
      refine fun vt G s0 lt => ?_
      have s00 := sm.trans s0
      have rb : ∀ d ∈ ([.tuple [.tuple [.tuple [.int 1, .int 0]], .tuple [.tuple [.bool true, .int 0]]], .tuple [.tuple [.tuple [.int 2, .int 1]], .tuple [.tuple [.int 2, .bool true]]], .tuple [.tuple [.tuple [.int 1, .int 0]], .tuple [.tuple [.int 1, .bool false]]]] : List PyData), rowQ d = true := by decide +kernel
      generalize ([.tuple [.tuple [.tuple [.int 1, .int 0]], .tuple [.tuple [.bool true, .int 0]]], .tuple [.tuple [.tuple [.int 2, .int 1]], .tuple [.tuple [.int 2, .bool true]]], .tuple [.tuple [.tuple [.int 1, .int 0]], .tuple [.tuple [.int 1, .bool false]]]] : List PyData) = tab at rb lt
      cases lt with
      | @lst m xs _ hm nm la =>
        refine ⟨m, rfl, ⟨_, .inl (.inl hm)⟩, ?_⟩
        refine for_list (xs := xs) (fun i σ F => ∃ y2 y3 : Option V, σ = [some (.ref a), some (.int ((dr : Nat) : Int)), y2, y3, none, none, none] ∧ Same G F) ⟨_, _, rfl, Same.refl _⟩ (fun i σ F _ hI => ?_) (fun i x σ F hx hI => ?_) (fun σ F hI => ?_)
        · obtain ⟨_, _, _, sm⟩ := hI
          exact .inl (.inl (sm _ _ hm))
        · obtain ⟨y2, y3, rfl, sm2⟩ := hI
          obtain ⟨d, hd, lx⟩ := la.at_ hx
          obtain ⟨e, g, o, rfl, he, asks⟩ := row_of (K := K) lx (rb d (List.mem_of_getElem? hd))
          refine ⟨e, _, rfl, .inl (.inl (sm2 _ _ he)), rfl, _, _, rfl, _, _, rfl, rfl, ?_⟩
          refine ⟨_, rfl, fun v0 F1 t0 l0 => ⟨_, rfl, dr, v0, g, .str "told", "", rfl, by omega, (asks F1 v0 (sm2.trans t0) l0).1, fun t F2 t2 h2 u F3 t3 l2 => ?_⟩⟩
          refine ⟨_, _, Dp_ask (t3 _ _ h2) (.str _), l2.dp rfl, by decide +kernel, by decide +kernel, _, rfl, ?_⟩
          rw [ne_ask (d := .str "told") (z := "") lit oE]
          refine iteF ?_
          have sX := ((sm2.trans t0).trans t2).trans t3
          refine ⟨_, rfl, fun v0 F4 t4 l4 => ⟨_, rfl, dr, v0, o, .int 8, "0", rfl, by omega, (asks F4 v0 (sX.trans t4) l4).2, fun t F5 t5 h5 u F6 t6 l6 => ?_⟩⟩
          refine ⟨_, _, Dp_ask (t6 _ _ h5) (.int _), l6.dp rfl, by decide +kernel, by decide +kernel, _, rfl, ?_⟩
          rw [ne_ask (d := .int 8) (z := "0") li8 o0]
          exact iteF ⟨_, _, rfl, ((sX.trans t4).trans t5).trans t6⟩
        · obtain ⟨y2, y3, rfl, sm2⟩ := hI
          refine ⟨_, rfl, fun v0 F1 t0 l0 v1 F2 t1 l1 => ⟨dr, v0, v1, .int 7, "0", rfl, by omega, ask_ht 0 (l0.same t1) (by decide) (by decide) (by decide) (by decide) (by decide +kernel) (by decide +kernel) ⟨by decide, by decide +kernel⟩, fun t F3 t2 h2 u F4 t3 l2 => ?_⟩⟩
          refine ⟨_, _, Dp_ask (t3 _ _ h2) (.int _), l2.dp rfl, by decide +kernel, by decide +kernel, _, rfl, ?_⟩
          rw [ne_ask (d := .int 7) (z := "0") li7 o0]
          exact iteF ⟨_, _, _, rfl, ((((s00.trans sm2).trans t0).trans t1).trans t2).trans t3⟩
    · obtain ⟨y1, y2, y3, rfl, sm⟩ := hI
      have hS' := sm.seq hS
      refine ⟨_, rfl, a, _, rfl, .inl hS', _, _, rfl, _, _, rfl, _, rfl, ?_, ?_, ?_⟩
      · rw [List.length_map]
        split <;> split <;> omega
      · rw [List.length_map]
        split <;> split <;> omega
      · generalize hn : (if (if (((ns.map V.int).length : Nat) : Int) < 4 then (((ns.map V.int).length : Nat) : Int) else (4 : Int)) > 2 then (if (((ns.map V.int).length : Nat) : Int) < 4 then (((ns.map V.int).length : Nat) : Int) else (4 : Int)) else 2) = n
        have n1 : n ≤ 100 := by
          rw [← hn, List.length_map]
          split <;> split <;> omega
        refine for_range (lo := 0) (n := n.toNat) (fun i σ G => ∃ y1 y2 y3 y4 y5 y6 : Option V, σ = [some (.ref a), y1, y2, y3, y4, y5, y6] ∧ Same F G) ⟨_, _, _, _, _, _, rfl, Same.refl F⟩ (fun i σ G hi hI => ?_) (fun σ G hI => ?_)
        · obtain ⟨y1, y2, y3, y4, y5, y6, rfl, sG⟩ := hI
          refine ⟨_, rfl, _, rfl, a, ns, i, ?_, sG.seq hS', by omega, fun c H3 s3 => ?_⟩
          · exact congrArg (fun t : Int => [V.ref a, V.int t]) (Int.zero_add _)
          refine ⟨c, rfl, fun p H4 s4 np hp => ?_⟩
          refine ⟨12, rfl, by decide, by decide, ?_⟩
          refine for_range (lo := 0) (n := (12 : Int).toNat) (fun j σ F2 => ∃ y4 y6 : Option V, σ = [some (.ref a), y1, y2, y3, y4, some (.ref p), y6] ∧ Kp p H4 F2 ∧ Pool F2 p) ⟨_, _, rfl, Kp.refl p H4, hp⟩ (fun j σ F2 hj hJ => ?_) (fun σ F2 hJ => ?_)
          · obtain ⟨z4, z6, rfl, kF, pF⟩ := hJ
            have hj : j < 12 := hj
            have ed : (0 + ((j : Nat) : Int)) / 3 = ((j / 3 : Nat) : Int) := by omega
            refine ⟨_, rfl, _, rfl, _, _, rfl, rfl, (by show (0 : Int) < 3 ∧ (3 : Int) < 1073741824; decide), p, j / 3, ?_, by omega, pF, fun F5 k5 p5 => ⟨_, rfl, iteF ⟨_, _, rfl, kF.trans k5, p5⟩⟩⟩
            exact congrArg (fun t : Int => [V.ref p, V.int t]) ed
          · obtain ⟨z4, z6, rfl, kF, pF⟩ := hJ
            refine ⟨_, _, _, _, _, _, rfl, fun b o e => ?_⟩
            have e3 := s3 _ _ (sG _ _ e)
            exact kF b o (s4 _ _ e3) (ne_of_none e3 np)
        · obtain ⟨y1, y2, y3, y4, y5, y6, rfl, sG⟩ := hI
          exact q _
end
section
variable {P : Program} {w : World} {K : PySem.W.Frag} {mg : Str → Option Value} {base : Heap}
/-! ### the errors' own makers -/
abbrev s_InvalidHeights : Stmt := top 9
theorem hb_InvalidHeights (X : Cx) (hN : X.N = (["self", "index"] : List Str)) (hs : X.env.scope = defScope (initOf s_InvalidHeights)) (_ : X.fn "self" = true) : PSs X (defBody (initOf s_InvalidHeights)) (tSeq (tOst X.K "index" (tVar 0) (tVar 1)) tNext) :=
  pss_cons (ps_ost (pe_var (by rw [hN]; rfl) (by rw [hs]; exact Or.inl rfl)) (pe_var (by rw [hN]; rfl) (by rw [hs]; exact Or.inl rfl))) pss_nil
theorem si_InvalidHeights : FnScope (["self", "index"] : List Str) (["self", "index"] : List Str) (defScope (initOf s_InvalidHeights)) := ⟨rfl, rfl, rfl, by decide +kernel, rfl, by decide +kernel, by decide +kernel⟩
abbrev s_InvalidWishes : Stmt := top 10
theorem hb_InvalidWishes (X : Cx) (hN : X.N = (["self", "index"] : List Str)) (hs : X.env.scope = defScope (initOf s_InvalidWishes)) (_ : X.fn "self" = true) : PSs X (defBody (initOf s_InvalidWishes)) (tSeq (tOst X.K "index" (tVar 0) (tVar 1)) tNext) :=
  pss_cons (ps_ost (pe_var (by rw [hN]; rfl) (by rw [hs]; exact Or.inl rfl)) (pe_var (by rw [hN]; rfl) (by rw [hs]; exact Or.inl rfl))) pss_nil
theorem si_InvalidWishes : FnScope (["self", "index"] : List Str) (["self", "index"] : List Str) (defScope (initOf s_InvalidWishes)) := ⟨rfl, rfl, rfl, by decide +kernel, rfl, by decide +kernel, by decide +kernel⟩
theorem fact_in {fa : List He.Fa} {fn : List He.DefD} (c : He.SaysD fa fn K) {y : He.Fa} (h : y ∈ fa) : y.ok K = true := by
  obtain ⟨i, e⟩ := List.getElem?_of_mem h
  exact c.fact i e
theorem ec_of {h : Heap} {x f q : Str} {st : Stmt} {fa : List He.Fa} {fn : List He.DefD} (X : K.In h) (G : h.Ns mainGlobals mg) (c : He.SaysD fa fn K) (i : Nat) (hi : fn[i]? = some (mkI x q st)) (hg : mg x = some (.ref (He.ga K x))) (e : ecB K x f = true)
    (S : FnScope (["self", f] : List Str) (["self", f] : List Str) (defScope (initOf st)))
    (bd : ∀ (kV doc pm : Value) (an : Option Addr) (cdv ct : Value) (us : List Value), us.length = 2 → bindArgs (PySem.W.fnOf "__init__" q (defArgs (initOf st)) (defBody (initOf st)) (defScope (initOf st)) .none kV doc pm an cdv ct) ⟨us, []⟩ = pure ((["self", f] : List Str).zip us))
    (hb : ∀ X : Cx, X.N = (["self", f] : List Str) → X.env.scope = defScope (initOf st) → X.fn "self" = true → PSs X (defBody (initOf st)) (tSeq (tOst X.K f (tVar 0) (tVar 1)) tNext)) : EC P w K mg base x f := by
  obtain ⟨fd, F⟩ := c.def_ i hi
  exact EC.of hg e F S bd hb
theorem clB_ok {x f : Str} {i : Nat} (h : clB K x f i = true) : ecB K x f = true ∧ SortOk K x i ∧ emAt K x := by
  obtain ⟨h1, h⟩ := Bool.and_eq_true_iff.mp h
  obtain ⟨h2, h3⟩ := Bool.and_eq_true_iff.mp h
  exact ⟨h1, sortB_ok h2, of_decide_eq_true h3⟩
theorem et_of {h : Heap} {x f q : Str} {up maker ini : String} {rows : List Value} {fa : List He.Fa} {fn : List He.DefD} {st : Stmt} (SF : StoreFacts up rows "object.__setattr__" "object") (FB : ExcBaseFacts up maker ini rows) (X : K.In h) (G : h.Ns mainGlobals mg) (c : He.SaysD fa fn K) (i : Nat) (hi : fn[i]? = some (mkI x q st)) (hg : mg x = some (.ref (He.ga K x))) (e : etB K x f rows maker = true)
    (S : FnScope (["self", f] : List Str) (["self", f] : List Str) (defScope (initOf st)))
    (bd : ∀ (kV doc pm : Value) (an : Option Addr) (cdv ct : Value) (us : List Value), us.length = 2 → bindArgs (PySem.W.fnOf "__init__" q (defArgs (initOf st)) (defBody (initOf st)) (defScope (initOf st)) .none kV doc pm an cdv ct) ⟨us, []⟩ = pure ((["self", f] : List Str).zip us))
    (hb : ∀ X : Cx, X.N = (["self", f] : List Str) → X.env.scope = defScope (initOf st) → X.fn "self" = true → PSs X (defBody (initOf st)) (tSeq (tOne X.K f (tVar 0) (tVar 1)) tNext)) : ET P w K mg base x f := by
  obtain ⟨fd, F⟩ := c.def_ i hi
  exact ET.of SF FB hg e F S bd hb
theorem clT_ok {x f : Str} {i : Nat} {rows : List Value} {maker : String} (h : clT K x f i rows maker = true) : etB K x f rows maker = true ∧ SortOk K x i ∧ emAt K x := by
  obtain ⟨h1, h⟩ := Bool.and_eq_true_iff.mp h
  obtain ⟨h2, h3⟩ := Bool.and_eq_true_iff.mp h
  exact ⟨h1, sortB_ok h2, of_decide_eq_true h3⟩
end
def lawLevel : Nat := 12
theorem law_facts {P : Program} {w : World} {K : PySem.W.Frag} {h : Heap} {mg : Str → Option Value} {f : Addr} (X : K.In h) (G : h.Ns mainGlobals mg) (hfa : mg ("law" : Str) = some (.ref f)) (c : He.SaysD faL fnL K) (ex : exL K = true) :
    ∃ fd : FuncData, (∀ (s : Shared) (v : Value), BindsTo s fd ⟨[v], []⟩ [("_law_script", v)]) ∧ ∀ base : Heap, FnG P w K mg base lawLevel f fd ["_law_script"] (spLaw K) := by
  obtain ⟨eb_InvalidWishes, so_InvalidWishes, em_InvalidWishes⟩ := clB_ok (show clB K "InvalidWishes" "index" 8 = true from (Bool.and_eq_true_iff.mp ex).2)
  replace ex := (Bool.and_eq_true_iff.mp ex).1
  obtain ⟨eb_InvalidHeights, so_InvalidHeights, em_InvalidHeights⟩ := clB_ok (show clB K "InvalidHeights" "index" 7 = true from (Bool.and_eq_true_iff.mp ex).2)
  replace ex := (Bool.and_eq_true_iff.mp ex).1
  have D_is_whole : Df K mg "is_whole" s_is_whole := Df.of X G c 0 rfl rfl
  have D_is_whole_from : Df K mg "is_whole_from" s_is_whole_from := Df.of X G c 1 rfl rfl
  have D_is_height : Df K mg "is_height" s_is_height := Df.of X G c 2 rfl rfl
  have D_may_be_row : Df K mg "may_be_row" s_may_be_row := Df.of X G c 3 rfl rfl
  have D_wrong_height : Df K mg "wrong_height" s_wrong_height := Df.of X G c 4 rfl rfl
  have D_check_heights : Df K mg "check_heights" s_check_heights := Df.of X G c 5 rfl rfl
  have D_is_wish : Df K mg "is_wish" s_is_wish := Df.of X G c 6 rfl rfl
  have D_wrong_wish : Df K mg "wrong_wish" s_wrong_wish := Df.of X G c 7 rfl rfl
  have D_may_stand : Df K mg "may_stand" s_may_stand := Df.of X G c 8 rfl rfl
  have D_next_steps : Df K mg "next_steps" s_next_steps := Df.of X G c 9 rfl rfl
  have D_check_wishes : Df K mg "check_wishes" s_check_wishes := Df.of X G c 10 rfl rfl
  have D_count_words : Df K mg "count_words" s_count_words := Df.of X G c 11 rfl rfl
  have D_first_word : Df K mg "first_word" s_first_word := Df.of X G c 12 rfl rfl
  have D__law_cell : Df K mg "_law_cell" s__law_cell := Df.of X G c 13 rfl rfl
  have D__law_pool : Df K mg "_law_pool" s__law_pool := Df.of X G c 14 rfl rfl
  have D__law_draw : Df K mg "_law_draw" s__law_draw := Df.of X G c 15 rfl rfl
  have D__law_persons : Df K mg "_law_persons" s__law_persons := Df.of X G c 16 rfl rfl
  have D__law_shuffled : Df K mg "_law_shuffled" s__law_shuffled := Df.of X G c 17 rfl rfl
  have D__law_letters : Df K mg "_law_letters" s__law_letters := Df.of X G c 18 rfl rfl
  have D__law_placed : Df K mg "_law_placed" s__law_placed := Df.of X G c 19 rfl rfl
  have D__law_a_wish : Df K mg "_law_a_wish" s__law_a_wish := Df.of X G c 20 rfl rfl
  have D__law_whole : Df K mg "_law_whole" s__law_whole := Df.of X G c 21 rfl rfl
  have D__law_sort : Df K mg "_law_sort" s__law_sort := Df.of X G c 22 rfl rfl
  have D__law_odd_persons : Df K mg "_law_odd_persons" s__law_odd_persons := Df.of X G c 23 rfl rfl
  have D__law_odd_asked : Df K mg "_law_odd_asked" s__law_odd_asked := Df.of X G c 24 rfl rfl
  have D__law_wrong_persons : Df K mg "_law_wrong_persons" s__law_wrong_persons := Df.of X G c 25 rfl rfl
  have D__law_wrong_asked : Df K mg "_law_wrong_asked" s__law_wrong_asked := Df.of X G c 26 rfl rfl
  have D__law_caught : Df K mg "_law_caught" s__law_caught := Df.of X G c 27 rfl rfl
  have D__law_due : Df K mg "_law_due" s__law_due := Df.of X G c 28 rfl rfl
  have D__law_call_right : Df K mg "_law_call_right" s__law_call_right := Df.of X G c 29 rfl rfl
  have D_law : Df K mg "law" s_law := Df.of X G c 30 rfl rfl
  have m_isinstance : mg "isinstance" = none := He.free_ok X G (c.fact 31 (f := .free "isinstance") rfl)
  have m_int : mg "int" = none := He.free_ok X G (c.fact 32 (f := .free "int") rfl)
  have m_bool : mg "bool" = none := He.free_ok X G (c.fact 33 (f := .free "bool") rfl)
  have m_tuple : mg "tuple" = none := He.free_ok X G (c.fact 34 (f := .free "tuple") rfl)
  have m_len : mg "len" = none := He.free_ok X G (c.fact 35 (f := .free "len") rfl)
  have m_enumerate : mg "enumerate" = none := He.free_ok X G (c.fact 36 (f := .free "enumerate") rfl)
  have m_all : mg "all" = none := He.free_ok X G (c.fact 37 (f := .free "all") rfl)
  have m_range : mg "range" = none := He.free_ok X G (c.fact 38 (f := .free "range") rfl)
  have m_sum : mg "sum" = none := He.free_ok X G (c.fact 39 (f := .free "sum") rfl)
  have m_min : mg "min" = none := He.free_ok X G (c.fact 40 (f := .free "min") rfl)
  have m_abs : mg "abs" = none := He.free_ok X G (c.fact 41 (f := .free "abs") rfl)
  have m_divmod : mg "divmod" = none := He.free_ok X G (c.fact 42 (f := .free "divmod") rfl)
  have m_list : mg "list" = none := He.free_ok X G (c.fact 43 (f := .free "list") rfl)
  have m_sorted : mg "sorted" = none := He.free_ok X G (c.fact 44 (f := .free "sorted") rfl)
  have m_ValueError : mg "ValueError" = none := He.free_ok X G (c.fact 45 (f := .free "ValueError") rfl)
  have m_LookupError : mg "LookupError" = none := He.free_ok X G (c.fact 46 (f := .free "LookupError") rfl)
  have m_ArithmeticError : mg "ArithmeticError" = none := He.free_ok X G (c.fact 47 (f := .free "ArithmeticError") rfl)
  have m_repr : mg "repr" = none := He.free_ok X G (c.fact 48 (f := .free "repr") rfl)
  have m_max : mg "max" = none := He.free_ok X G (c.fact 49 (f := .free "max") rfl)
  obtain ⟨t_GREATEST_HEIGHT, g_GREATEST_HEIGHT⟩ := He.int_ok X G (c.fact 50 (f := .int "GREATEST_HEIGHT" 999) rfl)
  obtain ⟨t_MOST_PEOPLE, g_MOST_PEOPLE⟩ := He.int_ok X G (c.fact 51 (f := .int "MOST_PEOPLE" 12) rfl)
  have g_count_words : mg "count_words" = some (.ref (He.ga K "count_words")) := He.glo_ok X G (c.fact 11 (f := .glo "count_words") rfl)
  have g_first_word : mg "first_word" = some (.ref (He.ga K "first_word")) := He.glo_ok X G (c.fact 12 (f := .glo "first_word") rfl)
  have g_err : ErrG K mg := ⟨fun y hy => He.glo_ok X G (fact_in c (List.mem_append_right _ (List.mem_map_of_mem hy)))⟩
  have g_PassError := g_err.at_ "PassError" (by decide +kernel)
  have g_FindError := g_err.at_ "FindError" (by decide +kernel)
  have g_LimitError := g_err.at_ "LimitError" (by decide +kernel)
  obtain ⟨fd, F, hF⟩ := ClG.last (P := P) (w := w) (k := 12) (ps := ["_law_script"]) (sp := spLaw K) D_law hfa fun base => by
    have ec_InvalidHeights := ec_of (P := P) (w := w) (base := base) (st := s_InvalidHeights) X G c 31 rfl (g_err.at_ "InvalidHeights" (by decide +kernel)) eb_InvalidHeights si_InvalidHeights (fun _ _ _ _ _ _ us hl => match us, hl with | [_, _], _ => rfl) hb_InvalidHeights
    have ec_InvalidWishes := ec_of (P := P) (w := w) (base := base) (st := s_InvalidWishes) X G c 32 rfl (g_err.at_ "InvalidWishes" (by decide +kernel)) eb_InvalidWishes si_InvalidWishes (fun _ _ _ _ _ _ us hl => match us, hl with | [_, _], _ => rfl) hb_InvalidWishes
    have c_draw := ok_draw (P := P) (w := w) (base := base) D__law_draw m_divmod
    have c_persons := ok_heights D__law_persons c_draw m_len m_list m_range m_sorted
    have c_shuf := ok_shuf D__law_shuffled c_draw m_len m_tuple m_list m_range
    have c_letters := ok_letters D__law_letters c_draw m_len
    have c_placed := ok_placed (P := P) (w := w) (base := base) D__law_placed m_len m_list m_int m_tuple
    have c_awish := ok_awish D__law_a_wish c_draw c_placed c_letters c_shuf m_len m_list m_tuple m_range
    have c_whole := ok_whole (P := P) (w := w) (base := base) D_is_whole m_isinstance m_int m_bool
    have c_from := ok_from D_is_whole_from c_whole
    have c_height := ok_height D_is_height c_from g_GREATEST_HEIGHT
    have c_may := ok_may (P := P) (w := w) (base := base) D_may_be_row m_isinstance m_tuple m_len g_MOST_PEOPLE
    have c_checkh := ok_checkh D_check_heights c_may (ok_wrongh D_wrong_height c_height m_enumerate)
    have c_checkhX := ok_checkhX D_check_heights ec_InvalidHeights c_may (ok_wrongha D_wrong_height c_height m_enumerate)
    have c_mays := ok_mays (P := P) (w := w) (K := K) (base := base) D_may_stand m_all
    have c_steps := ok_steps D_next_steps c_mays
    have c_cw := ok_checkw D_check_wishes c_checkh (ok_wrongw D_wrong_wish (ok_iswish D_is_wish c_height c_from m_isinstance m_tuple m_len) m_enumerate) m_isinstance m_tuple
    have c_cwX := ok_checkwX D_check_wishes c_checkhX (ok_wrongwa D_wrong_wish (ok_iswisha D_is_wish c_height c_from m_isinstance m_tuple m_len) m_enumerate) ec_InvalidWishes m_isinstance m_tuple
    have c_countw := ok_countw D_count_words c_cw c_steps c_mays m_range m_len m_sum
    have c_firstw := ok_firstw D_first_word c_cw c_steps c_mays m_range m_len m_min
    have c_countwX := ok_countwX D_count_words c_cwX c_steps c_mays m_range m_len m_sum
    have c_firstwX := ok_firstwX D_first_word c_cwX c_steps c_mays m_range m_len m_min
    have c_sort := ok_sortz (P := P) (w := w) (base := base) D__law_sort g_err m_isinstance m_ValueError m_LookupError m_ArithmeticError
    have ers : ErrsOk K := fun e => by
      cases e
      · exact ⟨ec_InvalidHeights.xf, ec_InvalidHeights.noN, so_InvalidHeights, em_InvalidHeights⟩
      · exact ⟨ec_InvalidWishes.xf, ec_InvalidWishes.noN, so_InvalidWishes, em_InvalidWishes⟩
    have c_caught := ok_caught D__law_caught ((Cl.orX 8 c_countw c_countwX).imp fun _ _ _ _ => any_countw) ((Cl.orX 8 c_firstw c_firstwX).imp fun _ _ _ _ => any_firstw) c_sort ers g_count_words g_first_word g_PassError g_FindError g_LimitError m_repr
    have c_lw := ok_lawwhole (P := P) (w := w) (base := base) D__law_whole m_isinstance m_int m_bool
    have c_wrp := ok_wrp D__law_wrong_persons c_lw m_isinstance m_tuple m_len m_enumerate
    have c_wra := ok_wra D__law_wrong_asked c_lw m_isinstance m_tuple m_len m_enumerate
    have c_due := ok_due D__law_due c_wrp c_wra m_repr
    have c_oddp := ok_oddp D__law_odd_persons c_draw m_len m_list m_tuple m_range
    have c_odda := ok_odda D__law_odd_asked c_draw m_len m_list
    have c_call := ok_callright D__law_call_right c_draw c_persons c_awish c_odda c_oddp c_caught c_due m_tuple m_repr
    exact ok_law D_law c_call c_caught (ok_pool D__law_pool m_abs) (ok_cell D__law_cell m_len) m_len m_range m_max m_min
  exact ⟨fd, fun s v => FunD.bindsA (ps := ["_law_script"]) F (fun _ _ _ _ _ _ us hl => match us, hl with | [_], _ => rfl) s [v] rfl, hF⟩
end Lp
open PySem PySem.W PySem.Calls PyProof.Rows
theorem PySem.Challenge.cw_lastpasses_k45_wishes_refused_holds : PySem.Challenge.rw_lastpasses_k45_wishes_refused.Holds := by
  w_on; o_law
  refine HandSHeadRun.head_any (r := OpenLaw.row PySem.Challenge.rw_lastpasses_k45_wishes_refused) (q := view (OpenLaw.row PySem.Challenge.rw_lastpasses_k45_wishes_refused).prog [69]) (H := Lp.hk) (ob := Lp.ob) (M := 20000) (loose := Lp.loose) (d := HandSHeadRun.topDef (OpenLaw.row PySem.Challenge.rw_lastpasses_k45_wishes_refused).prog 69) (kwd := []) Lp.ob_eq
    (by kernel_rfl) (fun s => by kernel_rfl) Lp.run (by kernel_rfl) (by kernel_rfl) (by kernel_rfl) (by rfl) (by first | assumption | decide +kernel) (by decide +kernel) ⟨rfl, rfl, rfl, rfl, rfl, by decide +kernel⟩ ?hw ?hc
  case hw => w_witness2
  case hc =>
    refine Lp.walkG (l := PySem.Challenge.rw_lastpasses_k45_wishes_refused) (n := 63) (k := Lp.lawLevel) (x := "_law_script") rfl (by decide) (by kernel_rfl) ⟨rfl, by decide, by decide⟩ ?F
    intro w mg fa h Y G hmg0
    obtain ⟨K, KX, c, ex⟩ := Y
    have hmg : mg ("law" : PySem.Str) = some (.ref fa) := by
      have e : (HandSHeadRun.topDef (OpenLaw.row PySem.Challenge.rw_lastpasses_k45_wishes_refused).prog 69).name = ("law" : PySem.Str) := by kernel_rfl
      rw [← e]
      exact hmg0
    obtain ⟨fd, hb, hF⟩ := Lp.law_facts (P := (PySem.Challenge.rw_lastpasses_k45_wishes_refused).prog) (w := w) KX G hmg c ex
    exact ⟨K, fd, Lp.spLaw K, KX, hb, fun H a ns hl hS => ⟨a, ns, rfl, hS, hl, fun _ => rfl⟩, hF⟩
