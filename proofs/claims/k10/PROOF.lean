import PyProof.Rows.All
import Wide.All
import OpenK.AllK
import Wide.FinOn
import KE.GoesEnum
import HandS.ForMost
import HandS.Conv
import HandS.Defaults
import HandS.Walk
import HandS.WideBits
import HandS.IsInst
import HandS.TupAny
import HandS.Style
import HandS.TupLe
import HandS.Head0
import HandS.Head1
import HandS.Head2
import HandS.HeadEnd
import HandS.HeadHook1
import HandS.HeadHook2
import PySem.Challenge.RW_lastpasses_k10_whole_words_one_behind_th
set_option Elab.async false
set_option linter.all false
set_option maxRecDepth 100000
set_option maxHeartbeats 4000000
namespace Lp
open PySem PySem.Spec PyProof.Rows L2
/-! ### enumerate of a tuple -/
theorem meetsEnum1 {v : Value} {o : Obj} {C : Heap → Prop} (B : Begins v o C) :
    Meets (Builtin.«enumerate.__new__» ⟨[.type "enumerate", v], []⟩) (fun _ R s => C s.heap ∧
      R (.ok (.ret (.ref (s.heap.push o).objs.size)))
        { s with heap := (s.heap.push o).push { cls := .type "enumerate", data := .fields #[.none, .bool false, .ref s.heap.objs.size, rawInt 0, .none, .none] } }) :=
  .of_wp fun prog w A R s hc => by
    obtain ⟨hp, gn, dn, tk, os⟩ := s
    obtain ⟨c1, hc⟩ := hc
    have hsub := sub_enumerate
    have qi : ∀ {A2 : Around} {E2 : Value → Shared → Prop} {Q2 : Value → Shared → Prop}, Q2 (.ref hp.objs.size) ⟨hp.push o, gn, dn, tk, os⟩ → wpAny (model prog w) A2 (pyIter v) Q2 E2 ⟨hp, gn, dn, tk, os⟩ :=
      fun q => B.iter prog w _ _ ⟨hp, gn, dn, tk, os⟩ _ c1 q
    wp_walk using qi
    refine wpAny_stack_any fun stk => wpAny_pure ?_
    split
    · rename_i cc _ _ _ _ _
      cases (cc == Value.type "enumerate")
      · wp_walk using qi
        exact ⟨_, rfl, hc⟩
      · wp_walk using qi
        exact ⟨_, rfl, hc⟩
    · wp_walk using qi
      exact ⟨_, rfl, hc⟩
section
variable {prog : Program} {w : World} {A : Around} {E : Value → Shared → Prop} {s : Shared}
theorem callEnum1 {v : Value} {o : Obj} {C : Heap → Prop} {Q : Value → Shared → Prop} (B : Begins v o C) (c1 : C s.heap)
    (hq : ∀ h2, IsEnum h2 (s.heap.objs.size + 1) s.heap.objs.size 0 .none → h2.get? s.heap.objs.size = some o → h2.objs.size = s.heap.objs.size + 2 →
      (∀ b u, s.heap.get? b = some u → h2.get? b = some u) → Q (.ref (s.heap.objs.size + 1)) { s with heap := h2 }) :
    wpAny (model prog w) A (call (.type "enumerate") [v]) Q E s := by
  refine callType_new F.called_enumerate (by decide) (F.typeCall_enumerate_1 _) (F.newCall_enumerate_1 _) (fun ob => F.args_object_init_2 ob _) F.entry_enumerate_new (meetsEnum1 B) ⟨c1, ?_⟩
  have sz : (s.heap.push o).objs.size = s.heap.objs.size + 1 := Heap.size_push ..
  show _ ∧ _
  rw [sz]
  have en : IsEnum ((s.heap.push o).push { cls := .type "enumerate", data := .fields #[.none, .bool false, .ref s.heap.objs.size, rawInt 0, .none, .none] }) (s.heap.objs.size + 1) s.heap.objs.size 0 .none := by
    have z := Heap.get?_push_size (s.heap.push o) (o := { cls := .type "enumerate", data := .fields #[.none, .bool false, .ref s.heap.objs.size, rawInt 0, .none, .none] }) rfl
    rw [sz] at z
    exact z
  refine ⟨⟨_, en, rfl⟩, hq _ en (Heap.get?_push_of_some _ (Heap.get?_push_size _ B.free)) (by rw [Heap.size_push, sz]) fun b u x => Heap.get?_push_of_some _ (Heap.get?_push_of_some _ x)⟩
end
/-- what is fed at each place, each in a new pair with its number -/
def ItE (go stop : Nat → Hp → Prop) (is : Nat → Hp → V → Prop) : It where
  go := go
  stop := stop
  yld := fun i H v H' => ∃ T x, v = .ref T ∧ H T = none ∧ is i H x ∧ H' = upd H T (.tup [.int (i : Nat), x])
/-- the iterator at `it` (its state at place i: st i) feeds the enumerate at e -/
structure Feed (P : Program) (w : World) (K : PySem.W.Frag) (e it : Addr) (st : Nat → Heap → Prop) (go stop : Nat → Hp → Prop) (is : Nat → Hp → V → Prop) : Prop where
  apart : e ≠ it
  lives : ∀ i h, st i h → ∃ o, h.get? it = some o ∧ ∀ v, o.data ≠ .cell v
  stays : ∀ i h g, st i h → (∀ o, h.get? it = some o → g.get? it = some o) → st i g
  more : ∀ X : Cx, X.prog = P → X.w = w → X.K = K → X.calm = true → ∀ i pins s σ H, Inv X pins σ H s → st i s.heap → go i H →
    ∃ n fp Y S, Draws P w X.A.in1 it fp n Y S ∧ i < n ∧ S i s.heap ∧ e ∉ fp ∧ (∀ h, S (i + 1) h → st (i + 1) h) ∧ ∀ v, Y i v → ∃ x, RelV x v ∧ is i H x
  ends : ∀ X : Cx, X.prog = P → X.w = w → X.K = K → X.calm = true → ∀ i pins s σ H, Inv X pins σ H s → st i s.heap → stop i H →
    ∃ fp Y S, Draws P w X.A.in1 it fp i Y S ∧ S i s.heap
theorem turnE {P : Program} {w : World} {K : PySem.W.Frag} {e it : Addr} {st : Nat → Heap → Prop} {go stop : Nat → Hp → Prop} {is : Nat → Hp → V → Prop} (F : Feed P w K e it st go stop is) {l : List Expr} {c : Nat} {q : Pos} :
    Turn P w K (.Tuple l c q) (ItE go stop is) [e, it] e (fun i h => (∃ last, IsEnum h e it ((i : Nat) : Int) last) ∧ st i h) where
  mem := by simp
  obj := by
    rintro i h ⟨⟨last, en⟩, b⟩ x hx
    have two : x = e ∨ x = it := by simpa using hx
    rcases two with rfl | rfl
    · exact ⟨_, en, fun _ z => nomatch z⟩
    · exact F.lives i h b
  keep := by
    rintro i h g ⟨⟨last, en⟩, b⟩ k
    exact ⟨⟨last, k e (by simp) _ en⟩, F.stays i h g b (k it (by simp))⟩
  item := by
    rintro X rfl rfl rfl calm i pins s σ H _ I fr ⟨⟨last, en⟩, b⟩ g
    obtain ⟨n, fp, Y, S, D, lt, at_, out, nxt, val⟩ := F.more X rfl rfl rfl calm i pins s σ H I b g
    refine wpAny_pyNext_enum_itemD D en at_ lt F.apart out fun u h1 tk hu eo at1 pair size old => ⟨_, rfl, ?_⟩
    obtain ⟨x, rx, ix⟩ := val u hu
    have inOld : ∀ {b : Addr} {o : Obj}, s.heap.get? b = some o → b ≠ s.heap.objs.size := fun q z => Nat.lt_irrefl _ (z ▸ Heap.lt_size q)
    have eOld := inOld en
    obtain ⟨oi, hi, _⟩ := F.lives i s.heap b
    have iOld := inOld hi
    refine wpAny_letOwnedTupleGo_enum (s := { s with heap := h1, toks := tk + 1 }) eo fun h2 en2 same => ?_
    have pair2 : h2.get? s.heap.objs.size = some { cls := .type "tuple", data := .seq #[.int i tk, u] } := (same.2 _ eOld.symm).trans pair
    have rest : ∀ b o, b ∉ [e, it] → s.heap.get? b = some o → h2.get? b = some o := fun b o nb q => by
      have hb : b ≠ e ∧ b ≠ it := by simpa using nb
      rw [same.2 b hb.1]
      exact old b o hb.1 hb.2 q
    have J := I.turnedNew (t' := tk + 1) (h' := h2) (ob := .tup [.int (i : Nat), x]) rest fr (Nat.le_refl s.heap.objs.size) ⟨(by decide : 2 ≤ sizeLine), [.int i tk, u], .cons ⟨tk, rfl⟩ (.cons rx .nil), _, pair2, rfl, _, rfl⟩
    refine ⟨.ref s.heap.objs.size, _, J, rfl, ⟨_, x, rfl, I.hok.fresh (Nat.le_refl _), ix, rfl⟩, ⟨⟨u, by push_cast; exact en2⟩, F.stays _ h1 h2 (nxt h1 at1) fun o q => (same.2 it F.apart.symm).trans q⟩, fun y hy => ?_⟩
    have two : y = e ∨ y = it := by simpa using hy
    have yo : y ≠ s.heap.objs.size := by rcases two with rfl | rfl <;> assumption
    rw [upd_ne yo]
    exact (fr y hy).1
  done := by
    rintro X rfl rfl rfl calm i pins s σ H _ I fr ⟨⟨last, en⟩, b⟩ g
    obtain ⟨fp, Y, S, D, at_⟩ := F.ends X rfl rfl rfl calm i pins s σ H I b g
    obtain ⟨u0, u1, _, u3, u4, u5⟩ := fr it (by simp)
    exact wpAny_pyNext_enum_endD D en at_ fun h1 same => ⟨rfl, I.turned (t' := s.toks) (fun b o nb q => same b o nb q) u0 u1 u3 u4 u5⟩
  self := fun _ _ _ _ _ z q => let ⟨⟨_, en⟩, _⟩ := z; wpAny_pyIter_enum en q
/-- for i, x in enumerate(..): n things are fed, Pv holds between the turns -/
theorem walkE {go stop : Nat → Hp → Prop} {is : Nat → Hp → V → Prop} {g : TG} {tb : TS} {D : Ends} {σ : L2.St} {H : Hp} (n : Nat) (Pv : Nat → L2.St → Hp → Prop) (first : Pv 0 σ H) (on : ∀ i σ H, i < n → Pv i σ H → go i H) (off : ∀ σ H, Pv n σ H → stop n H)
    (turn : ∀ i x T σ H, i < n → is i H x → Pv i σ H → H T = none → g (.ref T) σ (upd H T (.tup [.int (i : Nat), x])) fun σ2 H2 => tb { D with nx := Pv (i + 1), ct := Pv (i + 1), bk := D.nx } σ2 H2) (last : ∀ σ H, Pv n σ H → D.nx σ H) :
    tFor (fun _ H R => R (ItE go stop is) H) g tb D σ H := by
  refine ⟨fun i m σ H => i + m = n ∧ Pv i σ H, ⟨n, Nat.zero_add n, first⟩, fun i m σ H z => ?_⟩
  obtain ⟨e, p⟩ := z
  cases m with
  | zero =>
    have : i = n := e
    subst this
    exact .inl ⟨off σ H p, last σ H p⟩
  | succ m =>
    have lt : i < n := by omega
    refine .inr ⟨on i σ H lt p, Pv (i + 1), fun _ _ p2 => ⟨m, Nat.lt_succ_self m, by omega, p2⟩, fun v H2 y => ?_⟩
    obtain ⟨T, x, rfl, new, ix, rfl⟩ := y
    exact turn i x T σ H lt ix p new
/-! #### .. of a tuple -/
def goT (K : PySem.W.Frag) (a : Addr) : Nat → Hp → Prop := fun i H => ∃ (xs : List V) (x : V), SqT K H a xs ∧ xs[i]? = some x
def stopT (K : PySem.W.Frag) (a : Addr) : Nat → Hp → Prop := fun i H => ∃ xs : List V, SqT K H a xs ∧ xs.length ≤ i
def isT (K : PySem.W.Frag) (a : Addr) : Nat → Hp → V → Prop := fun i H x => ∀ xs, SqT K H a xs → xs[i]? = some x
theorem feedT {P : Program} {w : World} {K : PySem.W.Frag} {a e it : Addr} (n1 : e ≠ it) (n2 : a ≠ it) (n3 : a ≠ e) : Feed P w K e it (fun i h => h.IsTupleIter it a i) (goT K a) (stopT K a) (isT K a) where
  apart := n1
  lives := fun i h z => let ⟨o, ho, _, hd⟩ := z; ⟨o, ho, fun v q => by rw [hd] at q; cases q⟩
  stays := fun i h g z k => z.at k
  more := by
    rintro X rfl rfl rfl calm i pins s σ H I at_ ⟨xs, x, hq, hx⟩
    obtain ⟨us, rs, tup, _⟩ := I.tuple hq
    obtain ⟨u, hu, ru⟩ := rs.get hx
    have hu2 : us.toArray[i]? = some u := by simpa using hu
    refine ⟨_, _, _, _, Draws.tuple (A := X.A.in1) (I.ok.hd calm) it a n2 us.toArray, (Array.getElem?_eq_some_iff.mp hu2).1, ⟨at_, tup⟩, by simp [n1, n3.symm], fun h z => z.1, fun v hv => ⟨x, ?_, fun ys hy => ?_⟩⟩
    · rw [Option.some.inj (hv.symm.trans hu2)]
      exact ru
    · rw [I.tuple_inj hy hq]
      exact hx
  ends := by
    rintro X rfl rfl rfl calm i pins s σ H I at_ ⟨xs, hq, hx⟩
    obtain ⟨us, rs, tup, _⟩ := I.tuple hq
    have none_ : us.toArray[i]? = none := by
      rw [Array.getElem?_eq_none_iff, List.size_toArray, ← rs.length]
      exact hx
    exact ⟨[it, a], fun _ _ => False, fun j h => j = i ∧ h.IsTupleIter it a i ∧ h.IsTuple a us.toArray,
      { live := fun _ _ z => let ⟨o, ho, _⟩ := z.2.1; ⟨o, ho⟩
        frame := fun _ _ _ z k => ⟨z.1, z.2.1.at (k it (by simp)), z.2.2.at (k a (by simp))⟩
        item := fun j _ _ _ lt z _ => absurd z.1 (Nat.ne_of_lt lt)
        done := fun _ _ _ z q => wpAny_nextOf_tuple_end (A := X.A.in1) (I.ok.hd calm) z.2.1 z.2.2 none_ q }, rfl, at_, tup⟩
def iEnumT (K : PySem.W.Frag) (ta : TA) : TI := fun σ H R => ta σ H fun vs H1 => ∃ a xs, vs = [.ref a] ∧ SqT K H1 a xs ∧ R (ItE (goT K a) (stopT K a) (isT K a)) H1
theorem pi_enumT {X : Cx} {x : Expr} {ta : TA} {p pos q : Pos} {l : List Expr} {c : Nat} (hg : Gl X "enumerate") (hm : X.mg "enumerate" = none) (ha : PA X [x] ta)
    (hs : starEach [x] X.env = [(false, eval x X.env)] := by rfl) : PI X (.Tuple l c q) (.Call (.Name "enumerate" p) [x] [] pos) (iEnumT X.K ta) := ⟨fun pins s σ H R I h => by
  refine Call_ (ld_blt I hg hm boot_enumerate (PyProof.Rows.callWith_type1 (wpAny_mono (ha.run pos pins s σ H _ I h) (fun us s1 z => ?_) fun _ _ z => z) hs rfl))
  obtain ⟨vs, H1, I1, rs, a, xs, rfl, hq, r⟩ := z
  rw [Vals.ref1 rs]
  obtain ⟨us', _, tup, _⟩ := I1.tuple hq
  have al := tup.lt
  refine callEnum1 (begins_tuple a us'.toArray) tup fun h2 en fed size old => wpAny_pyIter_enum en ?_
  have new : ∀ b ∈ [s1.heap.objs.size + 1, s1.heap.objs.size], s1.heap.objs.size ≤ b := fun b hb => by
    have two : b = s1.heap.objs.size + 1 ∨ b = s1.heap.objs.size := by simpa using hb
    omega
  exact ⟨_, _, _, _, H1, rfl, I1.kept (h' := h2) (t' := s1.toks) old, turnE (feedT (a := a) (e := s1.heap.objs.size + 1) (it := s1.heap.objs.size) (Nat.succ_ne_self _) (Nat.ne_of_lt al) (Nat.ne_of_lt (Nat.lt_succ_of_lt al))), ⟨⟨.none, en⟩, ⟨_, fed, rfl, rfl⟩⟩, fun b hb => I1.fpOk (new b hb) (I1.hok.fresh (new b hb)), r⟩⟩
theorem walk_enumT {K : PySem.W.Frag} {a : Addr} {xs : List V} {g : TG} {tb : TS} {D : Ends} {σ : L2.St} {H : Hp} (Pv : Nat → L2.St → Hp → Prop) (h0 : Pv 0 σ H) (hq : ∀ i σ H, i ≤ xs.length → Pv i σ H → SqT K H a xs)
    (hs : ∀ i x T σ H, xs[i]? = some x → Pv i σ H → H T = none → g (.ref T) σ (upd H T (.tup [.int (i : Nat), x])) fun σ2 H2 => tb { D with nx := Pv (i + 1), ct := Pv (i + 1), bk := D.nx } σ2 H2) (hd : ∀ σ H, Pv xs.length σ H → D.nx σ H) :
    tFor (fun _ H R => R (ItE (goT K a) (stopT K a) (isT K a)) H) g tb D σ H :=
  walkE xs.length Pv h0 (fun i σ H lt p => ⟨xs, xs[i], hq i σ H (Nat.le_of_lt lt) p, List.getElem?_eq_getElem lt⟩) (fun σ H p => ⟨xs, hq _ σ H (Nat.le_refl _) p, Nat.le_refl _⟩)
    (fun i x T σ H lt ix p n => hs i x T σ H (ix xs (hq i σ H (Nat.le_of_lt lt) p)) p n) hd
/-! ### defs by their names -/
abbrev FnP (K : PySem.W.Frag) (x : Str) (st : Stmt) (f : Addr) (fd : FuncData) : Prop := FunD K x x (defArgs st) (defBody st) (defScope st) [] [] f fd
/-- the def st stands under its name x -/
structure Df (K : PySem.W.Frag) (mg : Str → Option Value) (x : Str) (st : Stmt) : Prop where
  ex : ∃ f fd, FnP K x st f fd ∧ mg x = some (.ref f)
/-- what is called by the name x keeps sp -/
structure Cl (P : Program) (w : World) (K : PySem.W.Frag) (mg : Str → Option Value) (base : Heap) (k : Nat) (x : Str) (st : Stmt) (ps : List Str) (sp : Sp) : Prop where
  ex : ∃ f fd, FnP K x st f fd ∧ FnOk P w K mg base CX0 k f fd ps sp ∧ mg x = some (.ref f) ∧ Binds K fd ps []
section
variable {P : Program} {w : World} {K : PySem.W.Frag} {mg : Str → Option Value} {base : Heap} {x : Str} {st : Stmt} {N ps ks : List Str} {k : Nat} {sp : Sp}
theorem Df.ok (D : Df K mg x st) (S : FnScope N ps (defScope st))
    (bd : ∀ (kV doc pm : Value) (an : Option Addr) (cdv ct : Value) (us : List Value), us.length = ps.length → bindArgs (PySem.W.fnOf x x (defArgs st) (defBody st) (defScope st) .none kV doc pm an cdv ct) ⟨us, []⟩ = pure (ps.zip us))
    (len : ∀ vs H Q E, sp vs H Q E → vs.length = ps.length)
    (body : ∀ (f : Addr) (cdv : Value) (A : Around) (outer : List Env) (s : Shared) (H : Hp) (vs : List V) (Q : VK) (E : XK), Room k (A.deeper (envOfC x (defScope st) s.heap.objs.size f cdv)) → sp vs H Q E →
      ∃ t, PSs (cxOf CX0 P w K mg base N x (defScope st) f cdv A outer s H E).nox (defBody st) t ∧ t { nx := fun _ H' => Q .non H', rt := Q } (start N vs) H) : Cl P w K mg base (k + 1) x st ps sp := by
  obtain ⟨f, fd, F, hm⟩ := D.ex
  refine ⟨f, fd, F, F.ok S len fun cdv A outer s H vs Q E hr h => ?_, hm, F.bindsN bd⟩
  obtain ⟨t, h1, h2⟩ := body f cdv A outer s H vs Q E hr h
  exact ⟨t, h1.nox, h2⟩
theorem Cl.imp {sp' : Sp} (c : Cl P w K mg base k x st ps sp) (h : ∀ vs H Q E, sp' vs H Q E → sp vs H Q E) : Cl P w K mg base k x st ps sp' := by
  obtain ⟨f, fd, F, G, hm, b⟩ := c.ex
  exact ⟨f, fd, F, G.imp h, hm, b⟩
end
section
variable {X : Cx} {x : Str} {st : Stmt} {ps ks : List Str} {j k : Nat} {sp : Sp} {e : Expr} {es : List Expr} {kws : List Keyword} {t tk : TA} {p pos : Pos}
/-- f(e, ..) -/
theorem pe_u (c : Cl X.prog X.w X.K X.mg X.base k x st ps sp) (hr : Room j X.A) (hk : k ≤ j) (hg : Gl X x) (ha : PA X (e :: es) t)
    (hdb : (x == ("__debug__" : Str)) = false := by decide) (he : starEach (e :: es) X.env = (false, eval e X.env) :: starEach es X.env := by rfl) (hpl : (backTo pos (starEach es X.env)).any (·.1) = false := by rfl) :
    PE X (.Call (.Name x p) (e :: es) [] pos) (tCall sp [] E0 t) := by
  obtain ⟨f, fd, F, G, hm, b⟩ := c.ex
  exact pe_call G (hr.mono hk) hg hm F.kp b .nil pass0 ha hdb he hpl
def tKw (n : Nat) (sp : Sp) (g : List V → List V) (tk : TA) : TE := fun σ H Q => tk σ H fun zs H2 => zs.length = n ∧ sp (g zs) H2 Q E0
/-- f(k = e, ..) -/
theorem pe_uk (g : {α : Type} → List α → List α) (c : Cl X.prog X.w X.K X.mg X.base k x st ps sp) (hr : Room j X.A) (hk : k ≤ j) (hg : Gl X x)
    (bd : ∀ (kV doc pm : Value) (an : Option Addr) (cdv ct : Value) (ws : List Value), ws.length = ks.length → bindArgs (PySem.W.fnOf x x (defArgs st) (defBody st) (defScope st) .none kV doc pm an cdv ct) ⟨[], ks.zip ws⟩ = pure (ps.zip (g ws)))
    (rel : ∀ {zs : List V} {ws : List Value}, Vals zs ws → Vals (g zs) (g ws)) (hkw : PK X kws tk)
    (hall : (backToKw pos (keywordEach kws X.env)).all (·.1.isSome) = true := by rfl) (hks : (backToKw pos (keywordEach kws X.env)).filterMap (·.1) = ks := by rfl)
    (hdb : (x == ("__debug__" : Str)) = false := by decide) (hpl : ((backTo pos (starEach [] X.env)).any (·.1) || (backToKw pos (keywordEach kws X.env)).any (·.1.isNone)) = false := by rfl) :
    PE X (.Call (.Name x p) [] kws pos) (tKw ks.length sp g tk) := by
  obtain ⟨f, fd, F, G, hm, b⟩ := c.ex
  have kb : KBn X.K fd ps 0 ks (fun _ ws => g ws) (fun _ zs => g zs) := by
    obtain ⟨oc, od, dV, kV, doc, pm, an, cdv, ct, osl, rfl, lk, hcd, hD, hK⟩ := F.ex
    rcases hD with ⟨_, rfl⟩ | ⟨z, _⟩
    · refine ⟨fun s us ws X1 l1 l2 => ?_, fun _ r => rel r⟩
      have e0 : us = [] := List.length_eq_zero_iff.mp l1
      subst e0
      exact .of_eq (bd kV doc pm an cdv ct ws l2)
    · exact absurd rfl z
  refine ⟨fun pins s σ H Q I h => ?_⟩
  refine wpAny_Call_Name_kw (ld_glob I hg hm ?_ hdb)
  refine PySem.W.callWith_KW0 (h₀ := X.base) I.ok.mod.kin F.kp hall (thn (hkw.run pos pins s σ H _ I h) fun ws s2 ⟨zs, H2, I2, rz, l2, q2⟩ => ⟨I2.kIn, ?_⟩) hpl
  rw [hks]
  exact run_fnN G (hr.mono hk) kb pass0 I2 .nil rz rfl l2 q2
end
def swap2 {α : Type} : List α → List α
  | [a, b] => [b, a]
  | l => l
theorem rel_swap2 {zs : List V} {ws : List Value} (r : Vals zs ws) : Vals (swap2 zs) (swap2 ws) := by
  cases r with
  | nil => exact .nil
  | cons a r =>
    cases r with
    | nil => exact .cons a .nil
    | cons b r =>
      cases r with
      | nil => exact .cons b (.cons a .nil)
      | cons c r => exact .cons a (.cons b (.cons c r))
/-! ### rules whose readings name K alone (for the elements of comprehensions) -/
abbrev rLenS (K : PySem.W.Frag) : List V → Hp → VK → Prop := fun xs H Q => ∃ p ys, xs = [.ref p] ∧ (SqL K H p ys ∨ SqT K H p ys) ∧ Q (.int ys.length) H
theorem call_lenS {X : Cx} : CallR X (.builtin "len") (rLenS X.K) := call_len_seq
/-! ### a text times a number -/
theorem op_mul_str {X : Cx} : OpR X (binaryOp .Mult) (fun x y H Q => ∃ (z : Str) (n : Int), x = .str z ∧ y = .int n ∧ 1 ≤ n ∧ n ≤ 1000 ∧ z.length ≤ 1000 ∧ Q (.str (Txt.mul z n)) H) := by
  intro pins s σ H x y v u Q I rx ry h
  obtain ⟨z, n, rfl, rfl, h1, h2, h3, q⟩ := h
  obtain ⟨t, rfl⟩ := rx
  obtain ⟨t', rfl⟩ := ry
  refine SB.mul ⟨?_, fun _ _ => ?_, fun _ _ => ?_⟩ fun t2 k2 => ⟨.str (Txt.mul z n), H, I.tok k2, ⟨t2, rfl⟩, q⟩
  · rw [Bool.or_eq_false_iff]
    exact ⟨decide_eq_false (by omega), decide_eq_false (by omega)⟩
  · have e : (1000 : Int) ≤ (2 ^ 63 - 1) / n := Int.le_ediv_of_mul_le (by omega) (by omega)
    omega
  · unfold PySem.Builtin.Str.tooLong
    have e : z.length * n.toNat ≤ 1000 * 1000 := Nat.mul_le_mul h3 (by omega)
    exact decide_eq_false (by rw [Nat.not_lt]; exact Nat.le_trans e (by decide))
/-! ### heaps, pools, rows -/
theorem same_upd {H : Hp} {p : Addr} {o : HO} (h : H p = none) : Same H (upd H p o) := fun b x e => by
  rw [upd_ne (ne_of_none e h)]
  exact e
/-- all but a is as it was -/
def Kp (a : Addr) (H H' : Hp) : Prop := ∀ b o, H b = some o → b ≠ a → H' b = some o
theorem Kp.refl (a : Addr) (H : Hp) : Kp a H H := fun _ _ e _ => e
theorem Kp.trans {a : Addr} {H H1 H2 : Hp} (x : Kp a H H1) (y : Kp a H1 H2) : Kp a H H2 := fun b o e ne => y b o (x b o e ne) ne
theorem Kp.of_same {a : Addr} {H H1 : Hp} (x : Same H H1) : Kp a H H1 := fun b o e _ => x b o e
theorem Kp.upd {a p : Addr} {H H1 : Hp} {o : HO} (x : Kp a H H1) (h : H p = none) : Kp a H (L2.upd H1 p o) := fun b u e ne => by
  rw [upd_ne (ne_of_none e h)]
  exact x b u e ne
theorem Kp.free {a p : Addr} {H H1 : Hp} (x : Kp a H H1) (h : H1 p = none) (ne : p ≠ a) : H p = none := by
  cases e : H p with
  | none => rfl
  | some o =>
    rw [x p o e ne] at h
    cases h
/-- the pool at a -/
def Pool (H : Hp) (a : Addr) : Prop := ∃ s d n : Int, H a = some (.lst [.int s, .int d, .int n]) ∧ 0 ≤ s ∧ s < 2147483399 ∧ 0 ≤ d
theorem Pool.of {H H' : Hp} {a : Addr} (p : Pool H a) (e : ∀ o, H a = some o → H' a = some o) : Pool H' a := by
  obtain ⟨s, d, n, h, r⟩ := p
  exact ⟨s, d, n, e _ h, r⟩
theorem Pool.ne {H : Hp} {a p : Addr} (x : Pool H a) (h : H p = none) : p ≠ a := fun e => by
  obtain ⟨s, d, n, g, _⟩ := x
  subst e
  rw [h] at g
  cases g
theorem Pool.upd {H : Hp} {a p : Addr} {o : HO} (x : Pool H a) (ne : a ≠ p) : Pool (L2.upd H p o) a := x.of fun u e => by
  rw [upd_ne ne]
  exact e
/-- a row of people -/
structure Row (ns : List Int) : Prop where
  pos : 1 ≤ ns.length
  most : ns.length ≤ 12
  nd : ns.Nodup
  rng : ∀ x ∈ ns, 1 ≤ x ∧ x ≤ 999
theorem small_div {i j : Int} (h1 : 0 < j) (h2 : j ≤ 1000000) : Builtin.divisionGoesByPylong i j = false := by
  have hj : j.natAbs.log2 ≤ 20 := by
    have : j.natAbs < 2 ^ 21 := by omega
    have h3 := (Nat.log2_lt (by omega)).mpr this
    omega
  have h0 : ¬ (j == 0) = true := by simpa using (show j ≠ 0 by omega)
  show (decide ((if j == 0 then 0 else j.natAbs.log2 / 30 + 1) > 300) && _) = false
  rw [if_neg h0]
  have h4 : ¬ (j.natAbs.log2 / 30 + 1 > 300) := by omega
  rw [decide_eq_false h4]
  rfl
/-! ### ranges as lists of ints -/
def rg (a b : Int) : List Int := (List.range (b - a).toNat).map fun i => a + (i : Nat)
theorem rgV_rg (a b : Int) : rgV a b = (rg a b).map V.int := by
  unfold rgV rg
  rw [List.map_map]
  rfl
theorem rg_len (a b : Int) : (rg a b).length = (b - a).toNat := by
  unfold rg
  rw [List.length_map, List.length_range]
theorem rg_mem {a b x : Int} (h : x ∈ rg a b) : a ≤ x ∧ x < b := by
  unfold rg at h
  obtain ⟨i, hi, rfl⟩ := List.mem_map.mp h
  have := List.mem_range.mp hi
  omega
theorem nodup_map_inj {α β : Type} {f : α → β} (hf : ∀ x y, f x = f y → x = y) : ∀ {l : List α}, l.Nodup → (l.map f).Nodup
  | [], _ => List.nodup_nil
  | a :: l, h => by
    rw [List.map_cons, List.nodup_cons]
    rw [List.nodup_cons] at h
    refine ⟨fun hm => ?_, nodup_map_inj hf h.2⟩
    obtain ⟨y, hy, e⟩ := List.mem_map.mp hm
    rw [hf y a e] at hy
    exact h.1 hy
theorem rg_nodup (a b : Int) : (rg a b).Nodup := nodup_map_inj (fun x y e => by omega) List.nodup_range
theorem erase_perm : ∀ (l : List Int) (k : Nat) (h : k < l.length), (l[k] :: l.eraseIdx k).Perm l
  | a :: l, 0, _ => .refl _
  | a :: l, k + 1, h => by
    show (l[k]'(Nat.lt_of_succ_lt_succ h) :: a :: l.eraseIdx k).Perm (a :: l)
    exact (List.Perm.swap ..).trans (.cons a (erase_perm l k (Nat.lt_of_succ_lt_succ h)))
theorem eraseI : ∀ {l : List Int} {k : Nat}, (l.map V.int).eraseIdx k = (l.eraseIdx k).map V.int
  | [], _ => rfl
  | _ :: _, 0 => rfl
  | a :: l, k + 1 => by
    show V.int a :: (l.map V.int).eraseIdx k = V.int a :: (l.eraseIdx k).map V.int
    rw [eraseI]
/-- one is taken out of the left ones -/
theorem take_perm {taken left : List Int} {k : Nat} (h : k < left.length) : ((taken ++ [left[k]]) ++ left.eraseIdx k).Perm (taken ++ left) := by
  rw [List.append_assoc]
  exact (erase_perm left k h).append_left taken
theorem getI {l : List Int} {k : Nat} (h : k < l.length) : (l.map V.int)[k]? = some (.int l[k]) := by
  rw [List.getElem?_map, List.getElem?_eq_getElem h]
  rfl
theorem len_lt {n : Nat} (h : n ≤ 100000) : n < sizeLine := Nat.lt_of_le_of_lt h (by decide)
theorem seqIx {i : Int} {n : Nat} (h0 : 0 ≤ i) (h1 : i < n) : seqIndex? i n = some i.toNat := PySem.seqIndex_of h0 h1
/-! ### enumerate of a text -/
def goS (z : Str) : Nat → Hp → Prop := fun i _ => i < z.cps.size
def stopS (z : Str) : Nat → Hp → Prop := fun i _ => z.cps.size ≤ i
def isS (z : Str) : Nat → Hp → V → Prop := fun i _ x => ∃ c, z.cps[i]? = some c ∧ x = .str ⟨#[c]⟩
theorem feedS {P : Program} {w : World} {K : PySem.W.Frag} {z : Str} {t : Tok} {e it : Addr} (ne : e ≠ it) : Feed P w K e it (fun i h => h.IsStrIter it (strIterType z) z t i) (goS z) (stopS z) (isS z) where
  apart := ne
  lives := fun i h y => let ⟨o, ho, _, hd⟩ := y; ⟨o, ho, fun v q => by rw [hd] at q; cases q⟩
  stays := fun i h g y k => let ⟨o, ho, r⟩ := y; ⟨o, k o ho, r⟩
  more := by
    rintro X rfl rfl rfl calm i pins s σ H I at_ lt
    exact ⟨_, _, _, _, Draws.text (A := X.A.in1) (I.ok.hd calm) it z t, lt, at_, by simp [ne], fun h y => y, fun v ⟨c, u, hc, ev⟩ => ⟨.str ⟨#[c]⟩, ⟨u, ev⟩, c, hc, rfl⟩⟩
  ends := by
    rintro X rfl rfl rfl calm i pins s σ H I at_ le
    have none_ : z.cps[i]? = none := Array.getElem?_eq_none_iff.mpr le
    exact ⟨[it], fun _ _ => False, fun j h => j = i ∧ h.IsStrIter it (strIterType z) z t i,
      { live := fun _ _ y => let ⟨o, ho, _⟩ := y.2; ⟨o, ho⟩
        frame := fun _ _ _ y k => ⟨y.1, let ⟨o, ho, r⟩ := y.2; ⟨o, k it (by simp) o ho, r⟩⟩
        item := fun j _ _ _ lt y _ => absurd y.1 (Nat.ne_of_lt lt)
        done := fun _ _ _ y q => by
          have it2 := y.2
          unfold strIterType at it2
          split at it2
          · exact wpAny_nextOf_ascii_end (A := X.A.in1) (I.ok.hd calm) it2 none_ q
          · exact wpAny_nextOf_wide_end (A := X.A.in1) (I.ok.hd calm) it2 none_ q }, rfl, at_⟩
def iEnumS (ta : TA) : TI := fun σ H R => ta σ H fun vs H1 => ∃ z, vs = [.str z] ∧ R (ItE (goS z) (stopS z) (isS z)) H1
theorem pi_enumS {X : Cx} {x : Expr} {ta : TA} {p pos q : Pos} {l : List Expr} {c : Nat} (hg : Gl X "enumerate") (hm : X.mg "enumerate" = none) (ha : PA X [x] ta)
    (hs : starEach [x] X.env = [(false, eval x X.env)] := by rfl) : PI X (.Tuple l c q) (.Call (.Name "enumerate" p) [x] [] pos) (iEnumS ta) := ⟨fun pins s σ H R I h => by
  refine Call_ (ld_blt I hg hm boot_enumerate (PyProof.Rows.callWith_type1 (wpAny_mono (ha.run pos pins s σ H _ I h) (fun us s1 y => ?_) fun _ _ y => y) hs rfl))
  obtain ⟨vs, H1, I1, rs, z, rfl, r⟩ := y
  obtain ⟨t, rfl⟩ : ∃ t, us = [.str z t] := by
    match us, rs with
    | [_], .cons ⟨t, rfl⟩ .nil => exact ⟨t, rfl⟩
  refine callEnum1 (begins_text z t) trivial fun h2 en fed size old => wpAny_pyIter_enum en ?_
  have new : ∀ b ∈ [s1.heap.objs.size + 1, s1.heap.objs.size], s1.heap.objs.size ≤ b := fun b hb => by
    have two : b = s1.heap.objs.size + 1 ∨ b = s1.heap.objs.size := by simpa using hb
    omega
  exact ⟨_, _, _, _, H1, rfl, I1.kept (h' := h2) (t' := s1.toks) old, turnE (feedS (z := z) (t := t) (e := s1.heap.objs.size + 1) (it := s1.heap.objs.size) (Nat.succ_ne_self _)), ⟨⟨.none, en⟩, ⟨_, fed, rfl, rfl⟩⟩, fun b hb => I1.fpOk (new b hb) (I1.hok.fresh (new b hb)), r⟩⟩
theorem walk_enumS {z : Str} {g : TG} {tb : TS} {D : Ends} {σ : L2.St} {H : Hp} (Pv : Nat → L2.St → Hp → Prop) (h0 : Pv 0 σ H)
    (hs : ∀ i c T σ H, z.cps[i]? = some c → Pv i σ H → H T = none → g (.ref T) σ (upd H T (.tup [.int (i : Nat), .str ⟨#[c]⟩])) fun σ2 H2 => tb { D with nx := Pv (i + 1), ct := Pv (i + 1), bk := D.nx } σ2 H2) (hd : ∀ σ H, Pv z.cps.size σ H → D.nx σ H) :
    tFor (fun _ H R => R (ItE (goS z) (stopS z) (isS z)) H) g tb D σ H :=
  walkE z.cps.size Pv h0 (fun i σ H lt _ => lt) (fun σ H _ => Nat.le_refl _) (fun i x T σ H _ ix p n => by
    obtain ⟨c, hc, rfl⟩ := ix
    exact hs i c T σ H hc p n) hd
/-! ### kinds of values -/
def Tys : List String := ["NoneType", "int", "bool", "str", "list", "tuple", "dict"]
/-- v is of the built-in type T -/
structure Tv (K : PySem.W.Frag) (H : Hp) (v : V) (T : String) : Prop where
  ty : TyX K H v (.type T)
  mem : T ∈ Tys
theorem Tv.same {K : PySem.W.Frag} {H H' : Hp} {v : V} {T : String} (t : Tv K H v T) (e : Same H H') : Tv K H' v T := by
  refine ⟨?_, t.mem⟩
  cases t.ty with
  | base b =>
    cases b with
    | non => exact .base .non
    | bl x => exact .base (.bl x)
    | int i => exact .base (.int i)
    | str x => exact .base (.str x)
    | flt x => exact .base (.flt x)
    | lst h => exact .base (.lst (e _ _ h))
    | frz h => exact .base (.frz (e _ _ h))
    | tup h => exact .base (.tup (e _ _ h))
    | dK h => exact .base (.dK (e _ _ h))
    | dT h => exact .base (.dT (e _ _ h))
  | byt b => exact .byt b
  | set h => exact .set (e _ _ h)
  | kList h c => exact .kList h c
  | kTuple h c => exact .kTuple h c
  | kDict h c => exact .kDict h c
  | fTuple h => exact .fTuple (e _ _ h)
  | fDict h => exact .fDict (e _ _ h)
theorem Tv.int {K : PySem.W.Frag} {H : Hp} (i : Int) : Tv K H (.int i) "int" := ⟨.base (.int i), by decide⟩
theorem Tv.int_of {K : PySem.W.Frag} {H : Hp} {v : V} (t : Tv K H v "int") : ∃ i, v = .int i := by
  generalize hT : Value.type "int" = u at *
  have ty := t.ty
  rw [hT] at ty
  cases ty with
  | base b =>
    cases b with
    | int i => exact ⟨i, rfl⟩
    | _ => first | exact absurd (Value.type.inj hT) (by decide) | exact nomatch hT
  | _ => exact absurd (Value.type.inj hT) (by decide)
theorem Tv.of_int {K : PySem.W.Frag} {H : Hp} {i : Int} {T : String} (t : Tv K H (.int i) T) : T = "int" := by
  cases t.ty with
  | base b =>
    cases b with
    | int i => rfl
theorem SqT.same {K : PySem.W.Frag} {H H' : Hp} {a : Addr} {xs : List V} (e : Same H H') (h : SqT K H a xs) : SqT K H' a xs := by
  rcases h with (h | ⟨o, h⟩) | h
  · exact .inl (.inl (e _ _ h))
  · exact .inl (.inr ⟨o, e _ _ h⟩)
  · exact .inr h
theorem Tv.tup {K : PySem.W.Frag} {H : Hp} {a : Addr} {xs : List V} (h : SqT K H a xs) : Tv K H (.ref a) "tuple" := by
  refine ⟨?_, by decide⟩
  rcases h with (h | ⟨o, h⟩) | ⟨o, its, n, h, c, _⟩
  · exact .base (.tup h)
  · exact .fTuple h
  · exact .kTuple h c
theorem kit_int {K : PySem.W.Frag} {T : String} (h : T ∈ Tys) : PySem.W.kitOne K (.type T) (.type "int") = some (decide (T = "int") || decide (T = "bool")) := by
  have hs : ∀ S ∈ Tys, kitB S "int" = some (decide (S = "int") || decide (S = "bool")) := by decide +kernel
  exact kit_ty (hs T h)
theorem kit_bool {K : PySem.W.Frag} {T : String} (h : T ∈ Tys) : PySem.W.kitOne K (.type T) (.type "bool") = some (decide (T = "bool")) := by
  have hs : ∀ S ∈ Tys, kitB S "bool" = some (decide (S = "bool")) := by decide +kernel
  exact kit_ty (hs T h)
theorem kit_tuple {K : PySem.W.Frag} {T : String} (h : T ∈ Tys) : PySem.W.kitOne K (.type T) (.type "tuple") = some (decide (T = "tuple")) := by
  have hs : ∀ S ∈ Tys, kitB S "tuple" = some (decide (S = "tuple")) := by decide +kernel
  exact kit_ty (hs T h)
theorem kit_str {K : PySem.W.Frag} {T : String} (h : T ∈ Tys) : PySem.W.kitOne K (.type T) (.type "str") = some (decide (T = "str")) := by
  have hs : ∀ S ∈ Tys, kitB S "str" = some (decide (S = "str")) := by decide +kernel
  exact kit_ty (hs T h)
def heightB : V → Bool
  | .int i => decide (1 ≤ i) && decide (i ≤ 999)
  | _ => false
/-- the i-th is a height that stands not earlier -/
def okAt (xs : List V) (i : Nat) : Bool := match xs[i]? with
  | some x => heightB x && !inV x (xs.take i)
  | none => true
theorem heightB_int {x : V} (h : heightB x = true) : ∃ i, x = .int i ∧ 1 ≤ i ∧ i ≤ 999 := by
  cases x with
  | int i =>
    have h2 : (decide (1 ≤ i) && decide (i ≤ 999)) = true := h
    rw [Bool.and_eq_true] at h2
    exact ⟨i, rfl, of_decide_eq_true h2.1, of_decide_eq_true h2.2⟩
  | _ => cases h
theorem flat_of_ok {xs : List V} {i : Nat} (hi : i ≤ xs.length) (h : ∀ j < i, okAt xs j = true) : (xs.take i).all flatV = true := by
  rw [List.all_eq_true]
  intro x hx
  obtain ⟨j, hj, e⟩ := List.mem_take_iff_getElem.mp hx
  have hj2 : j < i := by omega
  have o := h j hj2
  unfold okAt at o
  rw [List.getElem?_eq_getElem (by omega)] at o
  have o2 := (Bool.and_eq_true_iff.mp o).1
  rw [e] at o2
  obtain ⟨n, rfl, _⟩ := heightB_int o2
  rfl
theorem inV_ints {n : Int} {ms : List Int} : inV (.int n) (ms.map V.int) = decide (n ∈ ms) := by
  unfold inV
  rw [List.any_map]
  by_cases h : n ∈ ms
  · rw [decide_eq_true h, List.any_eq_true]
    exact ⟨n, h, by show (n == n) = true; exact beq_self_eq_true n⟩
  · rw [decide_eq_false h, List.any_eq_false]
    intro x hx e
    have e2 : (x == n) = true := e
    rw [eq_of_beq e2] at hx
    exact h hx
theorem Row.ok {ns : List Int} (r : Row ns) (i : Nat) : okAt (ns.map V.int) i = true := by
  unfold okAt
  by_cases h : i < ns.length
  · rw [getI h]
    show (heightB (.int ns[i]) && !inV (.int ns[i]) ((ns.map V.int).take i)) = true
    have g := r.rng ns[i] (List.getElem_mem h)
    have e1 : heightB (.int ns[i]) = true := by
      show (decide (1 ≤ ns[i]) && decide (ns[i] ≤ 999)) = true
      rw [decide_eq_true g.1, decide_eq_true g.2]
      rfl
    rw [e1, ← List.map_take, inV_ints]
    have hn : ns[i] ∉ ns.take i := fun hm => by
      obtain ⟨j, hj, e⟩ := List.mem_take_iff_getElem.mp hm
      have := (List.getElem_inj r.nd).mp e
      omega
    rw [decide_eq_false hn]
    rfl
  · rw [List.getElem?_eq_none_iff.mpr (by rw [List.length_map]; omega)]
end Lp
namespace Lp
open PySem PySem.Spec PyProof.Rows L2
/-! ### the mathematics of passes -/
def code : Bool → Nat
  | true => 84
  | false => 83
/-- the text of a word -/
def wd (bs : List Bool) : Str := ⟨(bs.map code).toArray⟩
abbrev ltr (b : Bool) : Str := ⟨#[code b]⟩
theorem ltrT : Str.ofString "T" = ltr true := by decide +kernel
theorem ltrS : Str.ofString "S" = ltr false := by decide +kernel
theorem ltr_inj {a b : Bool} (h : ltr a = ltr b) : a = b := by
  cases a <;> cases b <;> first | rfl | exact absurd h (by decide +kernel)
theorem wd_len (bs : List Bool) : (wd bs).length = bs.length := by
  show (bs.map code).toArray.size = _
  rw [List.size_toArray, List.length_map]
theorem wd_get {bs : List Bool} {i c : Nat} (h : (wd bs).cps[i]? = some c) : ∃ b, bs[i]? = some b ∧ c = code b := by
  have h2 : (bs.map code)[i]? = some c := by
    rw [← List.getElem?_toArray]
    exact h
  rw [List.getElem?_map] at h2
  obtain ⟨b, e1, e2⟩ := Option.map_eq_some_iff.mp h2
  exact ⟨b, e1, e2.symm⟩
theorem wd_app (a b : List Bool) : wd a ++ wd b = wd (a ++ b) := by
  show (⟨(a.map code).toArray ++ (b.map code).toArray⟩ : Str) = ⟨((a ++ b).map code).toArray⟩
  rw [List.map_append, List.append_toArray]
def takes (b : Bool) (p s : Int) : Bool := if b then decide (s < p) else decide (p < s)
def stepW (b : Bool) (st : List Int × List Int × Int) (p : Int) : List Int × List Int × Int :=
  if takes b p st.2.2 = true then (st.1 ++ [st.2.2], st.2.1 ++ [st.2.2], p) else (st.1 ++ [p], st.2.1, st.2.2)
def runW (b : Bool) (x : Int) (xs : List Int) : List Int × List Int × Int := xs.foldl (stepW b) ([], [], x)
def passL (b : Bool) : List Int → List Int
  | [] => []
  | x :: xs => (runW b x xs).1 ++ [(runW b x xs).2.2]
def seatL (b : Bool) : List Int → List Int
  | [] => []
  | x :: xs => (runW b x xs).2.1 ++ [(runW b x xs).2.2]
def afterL (bs : List Bool) (ns : List Int) : List Int := bs.foldl (fun acc b => passL b acc) ns
theorem runW_perm (b : Bool) : ∀ (xs l s : List Int) (x : Int), ((xs.foldl (stepW b) (l, s, x)).1 ++ [(xs.foldl (stepW b) (l, s, x)).2.2]).Perm (l ++ x :: xs)
  | [], l, s, x => .refl _
  | p :: xs, l, s, x => by
    rw [List.foldl_cons, show stepW b (l, s, x) p = (if takes b p x = true then (l ++ [x], s ++ [x], p) else (l ++ [p], s, x)) from rfl]
    split
    · refine (runW_perm b xs _ _ _).trans ?_
      rw [List.append_assoc]
      exact .refl _
    · refine (runW_perm b xs _ _ _).trans ?_
      rw [List.append_assoc]
      exact (List.Perm.swap x p xs).append_left l
theorem passL_perm (b : Bool) : ∀ ns : List Int, (passL b ns).Perm ns
  | [] => .refl _
  | x :: xs => runW_perm b xs [] [] x
theorem Row.perm {ns ms : List Int} (r : Row ns) (h : ms.Perm ns) : Row ms :=
  ⟨by rw [h.length_eq]; exact r.pos, by rw [h.length_eq]; exact r.most, h.nodup_iff.mpr r.nd, fun x hx => r.rng x (h.mem_iff.mp hx)⟩
theorem Row.pass {ns : List Int} (r : Row ns) (b : Bool) : Row (passL b ns) := r.perm (passL_perm b ns)
theorem afterL_perm : ∀ (bs : List Bool) (ns : List Int), (afterL bs ns).Perm ns
  | [], ns => .refl _
  | b :: bs, ns => (afterL_perm bs (passL b ns)).trans (passL_perm b ns)
theorem Row.after {ns : List Int} (r : Row ns) (bs : List Bool) : Row (afterL bs ns) := r.perm (afterL_perm bs ns)
theorem afterL_app (a b : List Bool) (ns : List Int) : afterL (a ++ b) ns = afterL b (afterL a ns) := List.foldl_append ..
theorem afterL_take {bs : List Bool} {i : Nat} {b : Bool} (h : bs[i]? = some b) (ns : List Int) : afterL (bs.take (i + 1)) ns = passL b (afterL (bs.take i) ns) := by
  rw [List.take_add_one, h, afterL_app]
  rfl
theorem seatL_ne {b : Bool} {ns : List Int} (h : ns ≠ []) : seatL b ns ≠ [] := by
  cases ns with
  | nil => exact absurd rfl h
  | cons x xs =>
    unfold seatL
    simp
theorem runW_len (b : Bool) : ∀ (xs l s : List Int) (x : Int), (xs.foldl (stepW b) (l, s, x)).1.length = l.length + xs.length ∧ (xs.foldl (stepW b) (l, s, x)).2.1.length ≤ s.length + xs.length
  | [], l, s, x => ⟨rfl, Nat.le_refl _⟩
  | p :: xs, l, s, x => by
    rw [List.foldl_cons, show stepW b (l, s, x) p = (if takes b p x = true then (l ++ [x], s ++ [x], p) else (l ++ [p], s, x)) from rfl]
    split
    · have := runW_len b xs (l ++ [x]) (s ++ [x]) p
      simp only [List.length_append, List.length_cons, List.length_nil] at this ⊢
      omega
    · have := runW_len b xs (l ++ [p]) s x
      simp only [List.length_append, List.length_cons, List.length_nil] at this ⊢
      omega
theorem fold_take {α β : Type} {f : α → β → α} {xs : List β} {i : Nat} {x : β} {z : α} (h : xs[i]? = some x) : (xs.take (i + 1)).foldl f z = f ((xs.take i).foldl f z) x := by
  rw [List.take_add_one, h, List.foldl_append]
  rfl
theorem cut1 {x : V} {xs : List V} : cutV (x :: xs) (some 1) none = xs := by
  unfold cutV
  rw [show HT.sIx (x :: xs).length 0 (some 1) = min 1 (x :: xs).length from HT.sIx_nat (x :: xs).length 0 1, HT.sIx_none, List.length_cons, Nat.min_eq_left (by omega)]
  show (xs.take (xs.length + 1 - 1)) = xs
  rw [Nat.add_sub_cancel]
  exact List.take_length
def kindB (z : Str) : Bool := decide (z = ltr false) || decide (z = ltr true)
theorem kindB_ltr (b : Bool) : kindB (ltr b) = true := by cases b <;> decide +kernel
theorem inV_kinds (z : Str) : inV (.str z) [.str (ltr false), .str (ltr true)] = kindB z := by
  show ((ltr false == z) || ((ltr true == z) || false)) = kindB z
  unfold kindB
  rw [Bool.or_false]
  have h : ∀ a : Str, (a == z) = decide (z = a) := fun a => by
    by_cases e : z = a
    · subst e
      rw [decide_eq_true rfl, beq_self_eq_true]
    · rw [decide_eq_false e]
      exact beq_eq_false_iff_ne.mpr (Ne.symm e)
  rw [h, h]
theorem nw1 {n : Nat} (h : 1 ≤ n) : HT.sIx n 0 (some 1) ≠ 0 := by
  rw [show HT.sIx n 0 (some 1) = min 1 n from HT.sIx_nat n 0 1]
  omega
theorem cutS_take (bs : List Bool) (k : Nat) : cutS (wd bs) none (some (k : Nat)) = wd (bs.take k) := by
  unfold cutS
  rw [HT.sIx_none, HT.sIx_nat, wd_len]
  show (⟨((bs.map code).take (min k bs.length - 0)).toArray⟩ : Str) = ⟨((bs.take k).map code).toArray⟩
  rw [Nat.sub_zero, List.map_take]
  congr 2
  by_cases h : k ≤ bs.length
  · rw [Nat.min_eq_left h]
  · rw [Nat.min_eq_right (by omega), List.take_of_length_le (by rw [List.length_map]; omega), List.take_of_length_le (by rw [List.length_map]; omega)]
theorem foldl_single (c : Nat) : ∀ (n : Nat) (acc : Array Nat), (List.replicate n #[c]).foldl (· ++ ·) acc = acc ++ (List.replicate n c).toArray
  | 0, acc => by simp
  | n + 1, acc => by
    rw [List.replicate_succ, List.foldl_cons, foldl_single c n, List.replicate_succ]
    apply Array.ext'
    simp
theorem mul_ltr (b : Bool) (n : Nat) : Txt.mul (ltr b) ((n + 1 : Nat) : Int) = wd (List.replicate (n + 1) b) := by
  unfold Txt.mul
  rw [if_neg (by omega)]
  have e2 : wd (List.replicate (n + 1) b) = ⟨(List.replicate (n + 1) (code b)).toArray⟩ := by
    unfold wd
    rw [List.map_replicate]
  rw [e2]
  split
  · rename_i h
    rcases Bool.or_eq_true_iff.mp h with z | z
    · have := eq_of_beq z
      have hn : n = 0 := by omega
      subst hn
      rfl
    · have : (1 == 0) = true := z
      cases this
  · rw [Int.toNat_natCast]
    congr 1
    rw [foldl_single]
    simp
theorem Dp_ints {K : PySem.W.Frag} {H : Hp} : ∀ ns : List Int, DpAll K H (ns.map V.int) (ns.map PyData.int)
  | [] => .nil
  | n :: ns => .cons (.int n) (Dp_ints ns)
theorem Dp_row {K : PySem.W.Frag} {H : Hp} {a : Addr} {ns : List Int} (h : SqT K H a (ns.map V.int)) : Dp K H (.ref a) (.tuple (ns.map PyData.int)) := .tup h (Dp_ints ns)
theorem Dp_list {K : PySem.W.Frag} {H : Hp} {a : Addr} {ns : List Int} (h : SqL K H a (ns.map V.int)) : Dp K H (.ref a) (.list (ns.map PyData.int)) := .lst h (Dp_ints ns)
theorem lay_ints : ∀ ns : List Int, PyData.canLayAll0 (ns.map PyData.int) = true
  | [] => by simp only [List.map_nil, PyData.canLayAll0]
  | n :: ns => by simp only [List.map_cons, PyData.canLayAll0, PyData.canLay0, Bool.true_and, lay_ints ns]
theorem depth_ints : ∀ ns : List Int, PyData.depthAll (ns.map PyData.int) = 0
  | [] => by simp only [List.map_nil, PyData.depthAll]
  | n :: ns => by simp only [List.map_cons, PyData.depthAll, PyData.depth, depth_ints ns, Nat.max_self]
theorem lay_row (ns : List Int) : (PyData.tuple (ns.map PyData.int)).canLay0 = true := by simp only [PyData.canLay0, lay_ints]
theorem shaped_row (ns : List Int) : SeqAt.shaped (.tuple (ns.map PyData.int)) = true := by
  unfold SeqAt.shaped
  simp only [PyData.canLay0, PyData.depth, lay_ints, depth_ints]
  decide
theorem lay_list (ns : List Int) : (PyData.list (ns.map PyData.int)).canLay0 = true := by simp only [PyData.canLay0, lay_ints]
theorem shaped_list (ns : List Int) : SeqAt.shaped (.list (ns.map PyData.int)) = true := by
  unfold SeqAt.shaped
  simp only [PyData.canLay0, PyData.depth, lay_ints, depth_ints]
  decide
theorem eqv_row (ns : List Int) : PyData.eqv (.tuple (ns.map PyData.int)) (.tuple (ns.map PyData.int)) = true := SeqAt.eqv_refl _ (lay_row ns)
theorem eqv_list (ns : List Int) : PyData.eqv (.list (ns.map PyData.int)) (.list (ns.map PyData.int)) = true := SeqAt.eqv_refl _ (lay_list ns)
theorem all_true (n : Nat) : (List.replicate n true).all id = true := by
  rw [List.all_eq_true]
  intro x hx
  rw [(List.mem_replicate.mp hx).2]
  rfl
end Lp
namespace Lp
open PySem PySem.Spec PyProof.Rows L2
/-! ### the head's facts -/
def mkD (x : Str) (st : Stmt) : He.DefD := ⟨(x, none), x, x, defArgs st, defBody st, defScope st, [], []⟩
def obL (n : Nat) (fa : List He.Fa) (fn : List He.DefD) (ex : PySem.W.Frag → Bool) (g : Addr → Option Obj) : He.AlD × Bool := (He.obsDG n fa fn g, ex (He.frG g (He.asD g n)))
def hookL (n : Nat) (fa : List He.Fa) (fn : List He.DefD) (ex : PySem.W.Frag → Bool) : PySem.W.Hook where
  α := He.AlD × Bool
  obs := fun s => obL n fa fn ex s.heap.get?
  val := fun _ => (He.valD fn, true)
  says := fun _ h => ∃ K : PySem.W.Frag, K.In h ∧ He.SaysD fa fn K ∧ ex K = true
  of := fun _ s e => ⟨He.frG s.heap.get? (He.asD s.heap.get? n), He.frG_in, congrArg (fun z : He.AlD × Bool => z.1) e, congrArg (fun z : He.AlD × Bool => z.2) e⟩
  keeps := fun _ _ _ ⟨K, hK, c, x⟩ k => ⟨K, PySem.W.Frag.In.keeps hK k, c, x⟩
theorem obL_eq {n : Nat} {fa : List He.Fa} {fn : List He.DefD} {ex : PySem.W.Frag → Bool} {g : Addr → Option Obj} {s : Shared} (h : ∀ a, g a = s.heap.get? a) : obL n fa fn ex g = (hookL n fa fn ex).obs s := by
  have e : g = s.heap.get? := funext h
  rw [e]
  rfl
section
variable {P : Program} {w : World} {K : PySem.W.Frag} {mg : Str → Option Value} {h : Heap} {fa : List He.Fa} {fn : List He.DefD} {x : Str} {st : Stmt} {ps : List Str} {sp : Sp} {k : Nat} {f : Addr}
theorem Df.of (X : K.In h) (G : h.Ns mainGlobals mg) (c : He.SaysD fa fn K) (i : Nat) (hi : fn[i]? = some (mkD x st)) (hj : fa[i]? = some (.glo x)) : Df K mg x st := by
  obtain ⟨fd, F⟩ := c.def_ i hi
  exact ⟨_, fd, F, He.glo_ok X G (c.fact i hj)⟩
theorem Cl.last (D : Df K mg x st) (hf : mg x = some (.ref f)) (c : ∀ base, Cl P w K mg base k x st ps sp) : ∃ fd, FnP K x st f fd ∧ ∀ base, FnOk P w K mg base CX0 k f fd ps sp := by
  obtain ⟨f0, fd0, F0, m0⟩ := D.ex
  have e0 : f0 = f := Value.ref.inj (Option.some.inj (m0.symm.trans hf))
  subst e0
  refine ⟨fd0, F0, fun base => ?_⟩
  obtain ⟨f1, fd1, F1, G1, m1, _⟩ := (c base).ex
  have e1 : f1 = f0 := Value.ref.inj (Option.some.inj (m1.symm.trans hf))
  subst e1
  obtain ⟨_, _, _, _, _, _, _, _, _, _, _, l0, _⟩ := F0.ex
  obtain ⟨_, _, _, _, _, _, _, _, _, _, _, l1, _⟩ := F1.ex
  have e2 := l0.symm.trans l1
  simp only [Option.some.injEq, Obj.mk.injEq, Data.func.injEq] at e2
  rw [e2.2.2.1]
  exact G1
end
end Lp
namespace Lp
open PySem PySem.Spec PyProof.Rows L2
def top (i : Nat) : Stmt := PySem.Challenge.pw_lastpasses_k10_whole_words_one_behind_th.main.body.getD i (.Pass ⟨0, 0, 0, 0⟩)
section
variable {P : Program} {w : World} {K : PySem.W.Frag} {mg : Str → Option Value} {base : Heap}
/-! ### the cells of the script -/
abbrev s__law_cell : Stmt := top 27
abbrev N__law_cell : List Str := ["_law_script", "_law_k", "_law_state", "_law_number"]
theorem sc__law_cell : FnScope N__law_cell ["_law_script", "_law_k"] (defScope s__law_cell) := ⟨rfl, rfl, rfl, by decide +kernel, rfl, by decide +kernel, by decide +kernel⟩
def spCell (K : PySem.W.Frag) : Sp := fun vs H Q _ => ∃ (l : Addr) (ns : List Int) (k : Nat), vs = [.ref l, .int (k : Nat)] ∧ SqL K H l (ns.map V.int) ∧ k ≤ 1000 ∧ ∀ (i : Int) (H' : Hp), Same H H' → Q (.int i) H'
theorem ok_cell (D : Df K mg "_law_cell" s__law_cell) (m_len : mg "len" = none) : Cl P w K mg base 1 "_law_cell" s__law_cell ["_law_script", "_law_k"] (spCell K) := by
  refine D.ok sc__law_cell (fun _ _ _ _ _ _ us hl => match us, hl with | [_, _], _ => rfl) (fun vs H Q E h => ?_) (fun f cdv A outer s H vs Q E hr h => ?_)
  · obtain ⟨l, ns, k, rfl, _⟩ := h
    rfl
  · obtain ⟨l, ns, k, rfl, hS, hk, q⟩ := h
    refine ⟨_, 
      (pss_cons (ps_if (pt_cmpR op_lt (pv 1) (pe_callB call_lenS (by rfl) m_len (by decide +kernel) (pa_cons (pv 0) pa_nil)) (nomark _)) (pss_one (ps_ret (pe_ix ix_list (pv 0) (pv 1) (fun _ _ => rfl)))) pss_nil) 
      (pss_cons (ps_set (i := 2) sc__law_cell.nd rfl (Or.inl rfl) (pe_op op_mod (pe_op op_mul pe_int (pe_op op_add (pe_op op_add (pe_op op_mul (pv 1) (pv 1)) (pe_op op_mul pe_int (pv 1))) pe_int)) pe_int)) 
      (pss_cons (ps_for PassesOwn.never rfl (pi_list (pe_slice sl_list (pv 0) po_none (po_some pe_int))) (pg_name (i := 3) sc__law_cell.nd rfl (Or.inl rfl)) (pss_one (ps_set (i := 2) sc__law_cell.nd rfl (Or.inl rfl) (pe_op op_mod (pe_op op_add (pe_op op_mul (pv 2) pe_int) (pv 3)) pe_int)))) 
      (pss_one (ps_ret (pv 2)))))), ?_⟩
    refine ⟨_, rfl, _, rfl, l, ns.map V.int, rfl, .inl hS, _, _, rfl, rfl, _, rfl, ite2 (fun e => ?_) (fun e => ?_)⟩
    · have lt : k < ns.length := by
        have e2 := of_decide_eq_true e
        rw [List.length_map] at e2
        omega
      have g : (ns.map V.int)[k]? = some (.int ns[k]) := by
        rw [List.getElem?_map, List.getElem?_eq_getElem lt]
        rfl
      exact ⟨_, rfl, _, rfl, l, _, _, _, rfl, rfl, hS, atI_nat g, q _ _ (Same.refl H)⟩
    · refine ⟨_, rfl, _, rfl, _, _, rfl, rfl, .inl ⟨by omega, by omega⟩, _, rfl, _, _, rfl, rfl, .inl ⟨by decide, by decide⟩, _, _, rfl, rfl, _, _, rfl, rfl, _, _, rfl, rfl, .inl ⟨by decide, by decide⟩, _, _, rfl, rfl, (by show (0 : Int) < 2147483399; decide), ?_⟩
      refine ⟨_, rfl, 3, rfl, l, ns.map V.int, rfl, hS, fun c nc => ?_⟩
      have sm : Same H (upd H c (.lst (cutV (ns.map V.int) none (some 3)))) := same_upd nc
      refine ⟨c, rfl, ⟨_, .inl (.inl upd_same)⟩, ?_⟩
      refine for_list (xs := cutV (ns.map V.int) none (some 3)) (fun i σ H2 => ∃ (z : Int) (y : Option V), σ = [some (.ref l), some (.int (k : Nat)), some (.int z), y] ∧ -(2 ^ 64) < z ∧ z < 2 ^ 64 ∧ H2 = upd H c (.lst (cutV (ns.map V.int) none (some 3))))
        ⟨_, none, rfl, ?_, ?_, rfl⟩ (fun i σ H2 _ h2 => ?_) (fun i x σ H2 hx h2 => ?_) (fun σ H2 h2 => ?_)
      · exact Int.lt_of_lt_of_le (by decide) (Int.emod_nonneg _ (by decide))
      · exact Int.lt_trans (Int.emod_lt_of_pos _ (by decide)) (by decide)
      · obtain ⟨z, y, _, _, _, rfl⟩ := h2
        exact .inl (.inl upd_same)
      · obtain ⟨z, y, rfl, h3, h4, rfl⟩ := h2
        have hm : x ∈ ns.map V.int := List.mem_of_mem_drop (List.mem_of_mem_take (List.mem_of_getElem? hx))
        obtain ⟨n, _, rfl⟩ := List.mem_map.mp hm
        refine ⟨_, rfl, _, _, rfl, rfl, .inl ⟨h3, h4⟩, _, rfl, _, _, rfl, rfl, _, _, rfl, rfl, (by show (0 : Int) < 2147483399; decide), ?_⟩
        refine ⟨_, some (.int n), rfl, ?_, ?_, rfl⟩
        · exact Int.lt_of_lt_of_le (by decide) (Int.emod_nonneg _ (by decide))
        · exact Int.lt_trans (Int.emod_lt_of_pos _ (by decide)) (by decide)
      · obtain ⟨z, y, rfl, h3, h4, rfl⟩ := h2
        exact ⟨_, rfl, q _ _ sm⟩
/-! ### the pool -/
abbrev s__law_pool : Stmt := top 28
abbrev N__law_pool : List Str := ["_law_number", "_law_digits"]
theorem sc__law_pool : FnScope N__law_pool ["_law_number"] (defScope s__law_pool) := ⟨rfl, rfl, rfl, by decide +kernel, rfl, by decide +kernel, by decide +kernel⟩
def spPool : Sp := fun vs H Q _ => ∃ n : Int, vs = [.int n] ∧ ∀ p H', Same H H' → H p = none → Pool H' p → Q (.ref p) H'
theorem ok_pool (D : Df K mg "_law_pool" s__law_pool) (m_abs : mg "abs" = none) : Cl P w K mg base 1 "_law_pool" s__law_pool ["_law_number"] spPool := by
  refine D.ok sc__law_pool (fun _ _ _ _ _ _ us hl => match us, hl with | [_], _ => rfl) (fun vs H Q E h => ?_) (fun f cdv A outer s H vs Q E hr h => ?_)
  · obtain ⟨n, rfl, _⟩ := h
    rfl
  · obtain ⟨n, rfl, q⟩ := h
    have fin : ∀ d : Int, 0 ≤ d → ∀ p, H p = none → Q (.ref p) (upd H p (.lst [.int (n % 2147483399), .int d, .int 0])) := fun d hd p np =>
      q p _ (same_upd np) np ⟨_, d, 0, upd_same, Int.emod_nonneg _ (by decide), Int.emod_lt_of_pos _ (by decide), hd⟩
    refine ⟨_, 
      (pss_cons (ps_set (i := 1) sc__law_pool.nd rfl (Or.inl rfl) (pe_ifExp (PW.pt (pw_or (pt_cmpR op_lt (pv 0) pe_int (nomark _)) (pw_or1 (pt_cmpR op_ge (pv 0) (pe_op op_pow pe_int pe_int) (nomark _))))) (pe_callB call_abs (by rfl) m_abs (by decide +kernel) (pa_cons (pv 0) pa_nil)) pe_int)) 
      (pss_one (ps_ret (pe_lst (pa_cons (pe_op op_mod (pv 0) pe_int) (pa_cons (pv 1) (pa_cons pe_int pa_nil))))))), ?_⟩
    refine ⟨_, rfl, _, _, rfl, rfl, _, rfl, ?_⟩
    have three : ∀ d : Int, ([V.int (n % 2147483399), V.int d, V.int 0] : List V).length ≤ sizeLine := fun d => by
      show 3 ≤ sizeLine
      decide
    by_cases h0 : n < 0
    · rw [decide_eq_true h0]
      refine iteT (iteT ⟨_, rfl, _, rfl, _, rfl, _, _, rfl, rfl, (by show (0 : Int) < 2147483399; decide), _, rfl, three _, fun p np => fin _ ?_ p np⟩)
      rw [if_pos h0]
      omega
    · rw [decide_eq_false h0]
      refine iteF ⟨_, rfl, _, _, rfl, rfl, ⟨by decide, by decide, by decide⟩, _, _, rfl, rfl, _, rfl, ?_⟩
      refine ite2 (fun e => ?_) (fun e => ?_)
      · refine ⟨_, rfl, _, rfl, _, rfl, _, _, rfl, rfl, (by show (0 : Int) < 2147483399; decide), _, rfl, three _, fun p np => fin _ ?_ p np⟩
        rw [if_neg h0]
        omega
      · exact ⟨_, rfl, _, _, rfl, rfl, (by show (0 : Int) < 2147483399; decide), _, rfl, three _, fun p np => fin _ (Int.le_refl _) p np⟩
/-! ### a draw -/
abbrev s__law_draw : Stmt := top 29
abbrev N__law_draw : List Str := ["_law_pool_here", "_law_count", "_law_state", "_law_digit"]
theorem sc__law_draw : FnScope N__law_draw ["_law_pool_here", "_law_count"] (defScope s__law_draw) := ⟨rfl, rfl, rfl, by decide +kernel, rfl, by decide +kernel, by decide +kernel⟩
def spDraw : Sp := fun vs H Q _ => ∃ (a : Addr) (c : Int), vs = [.ref a, .int c] ∧ 1 ≤ c ∧ c ≤ 1000000 ∧ Pool H a ∧ ∀ (d : Int) (H' : Hp), 0 ≤ d → d < c → Kp a H H' → Pool H' a → Q (.int d) H'
theorem ok_draw (D : Df K mg "_law_draw" s__law_draw) (m_divmod : mg "divmod" = none) : Cl P w K mg base 1 "_law_draw" s__law_draw ["_law_pool_here", "_law_count"] spDraw := by
  refine D.ok sc__law_draw (fun _ _ _ _ _ _ us hl => match us, hl with | [_, _], _ => rfl) (fun vs H Q E h => ?_) (fun f cdv A outer s H vs Q E hr h => ?_)
  · obtain ⟨a, c, rfl, _⟩ := h
    rfl
  · obtain ⟨a, c, rfl, c1, c2, ⟨st, dg, n, ha, s0, s1, d0⟩, q⟩ := h
    refine ⟨_, 
      (pss_cons (ps_asg (pe_op op_add (pe_ix ix_list (pv 0) pe_int (fun _ _ => rfl)) pe_int) (pg_sub (pv 0) pe_int set_list)) 
      (pss_cons (ps_set (i := 2) sc__law_draw.nd rfl (Or.inl rfl) (pe_ix ix_list (pv 0) pe_int (fun _ _ => rfl))) 
      (pss_cons (ps_asg (pe_op op_mod (pe_op op_add (pe_op op_mul (pv 2) (pe_op op_add (pe_op op_mod (pv 2) pe_int) pe_int)) (pe_op op_mul pe_int (pe_ix ix_list (pv 0) pe_int (fun _ _ => rfl)))) pe_int) (pg_sub (pv 0) pe_int set_list)) 
      (pss_cons (ps_if (pt_cmpR op_gt (pe_ix ix_list (pv 0) pe_int (fun _ _ => rfl)) pe_int (nomark _)) (pss_cons (ps_asg (pe_callB call_divmodW (by rfl) m_divmod (by decide +kernel) (pa_cons (pe_ix ix_list (pv 0) pe_int (fun _ _ => rfl)) (pa_cons (pv 1) pa_nil))) (pg_tup (by rfl) (pgs_cons (pg_sub (pv 0) pe_int set_list) (pgs_cons (pg_name (i := 3) sc__law_draw.nd rfl (Or.inl rfl)) pgs_nil)))) (pss_one (ps_ret (pv 3)))) pss_nil) 
      (pss_one (ps_ret (pe_op op_mod (pe_op op_fdiv (pe_ix ix_list (pv 0) pe_int (fun _ _ => rfl)) pe_int) (pv 1)))))))), ?_⟩
    have at0 : ∀ x y z : V, atI [x, y, z] (0 : Int) = some x := fun _ _ _ => rfl
    have at1 : ∀ x y z : V, atI [x, y, z] (1 : Int) = some y := fun _ _ _ => rfl
    have at2 : ∀ x y z : V, atI [x, y, z] (2 : Int) = some z := fun _ _ _ => rfl
    refine ⟨_, rfl, a, _, 2, _, rfl, rfl, .inl (.inl ha), at2 _ _ _, _, _, rfl, rfl, ?_⟩
    refine ⟨_, rfl, a, _, 2, 2, rfl, rfl, ha, rfl, ?_⟩
    refine ⟨_, rfl, a, _, 0, _, rfl, rfl, .inl (.inl upd_same), at0 _ _ _, ?_⟩
    have b1 : 0 ≤ st % 40961 := Int.emod_nonneg _ (by decide)
    have b2 : st % 40961 < 40961 := Int.emod_lt_of_pos _ (by decide)
    refine ⟨_, rfl, _, rfl, _, _, rfl, rfl, (by show (0 : Int) < 40961; decide), _, _, rfl, rfl, _, _, rfl, rfl, .inl ⟨by omega, by omega⟩, ?_⟩
    refine ⟨_, rfl, a, _, 2, _, rfl, rfl, .inl (.inl upd_same), at2 _ _ _, _, _, rfl, rfl, .inl ⟨by decide, by decide⟩, _, _, rfl, rfl, _, _, rfl, rfl, (by show (0 : Int) < 2147483399; decide), ?_⟩
    refine ⟨_, rfl, a, _, 0, 0, rfl, rfl, upd_same, rfl, ?_⟩
    rw [upd_upd]
    refine ⟨_, rfl, a, _, 1, _, rfl, rfl, .inl (.inl upd_same), at1 _ _ _, _, _, rfl, rfl, _, rfl, ?_⟩
    have kp : ∀ xs, Kp a H (upd H a (.lst xs)) := fun xs b o e ne => by
      rw [upd_ne ne]
      exact e
    refine ite2 (fun e => ?_) (fun e => ?_)
    · refine ⟨_, rfl, a, _, 1, _, rfl, rfl, .inl (.inl upd_same), at1 _ _ _, _, rfl, dg, c, rfl, ⟨by omega, ?_⟩, fun p np => ?_⟩
      · exact small_div (by omega) (by omega)
      · have pa : p ≠ a := fun z => by
          subst z
          rw [upd_same] at np
          cases np
        refine ⟨p, _, rfl, .inl (.inl upd_same), rfl, _, _, rfl, _, rfl, a, _, 1, 1, rfl, rfl, (upd_ne pa.symm).trans upd_same, rfl, _, _, rfl, rfl, ?_⟩
        refine ⟨_, rfl, q _ _ (Int.emod_nonneg _ (by omega)) (Int.emod_lt_of_pos _ (by omega)) (fun b o eb ne => ?_) ⟨_, dg / c, n + 1, upd_same, Int.emod_nonneg _ (by decide), Int.emod_lt_of_pos _ (by decide), Int.ediv_nonneg d0 (by omega)⟩⟩
        have bp : b ≠ p := fun zz => by
          subst zz
          rw [upd_ne ne, eb] at np
          cases np
        rw [upd_ne ne, upd_ne bp, upd_ne ne]
        exact eb
    · refine ⟨_, rfl, a, _, 0, _, rfl, rfl, .inl (.inl upd_same), at0 _ _ _, _, _, rfl, rfl, ⟨by decide, by decide⟩, _, rfl, _, _, rfl, rfl, (by show 0 < c; omega), ?_⟩
      exact q _ _ (Int.emod_nonneg _ (by omega)) (Int.emod_lt_of_pos _ (by omega)) (kp _) ⟨_, dg, n + 1, upd_same, Int.emod_nonneg _ (by decide), Int.emod_lt_of_pos _ (by decide), d0⟩
end
section
variable {P : Program} {w : World} {K : PySem.W.Frag} {mg : Str → Option Value} {base : Heap}
/-! ### heights -/
abbrev s__law_heights : Stmt := top 30
abbrev N__law_heights : List Str := ["_law_pool_here", "_law_size", "_law_mode", "_law_left", "_law_k"]
theorem sc__law_heights : FnScope N__law_heights ["_law_pool_here", "_law_size"] (defScope s__law_heights) := ⟨rfl, rfl, rfl, by decide +kernel, rfl, by decide +kernel, by decide +kernel⟩
def spHeights : Sp := fun vs H Q _ => ∃ (a : Addr) (n : Int), vs = [.ref a, .int n] ∧ 1 ≤ n ∧ n ≤ 12 ∧ Pool H a ∧
  ∀ (p : Addr) (ns : List Int) (H' : Hp), Kp a H H' → Pool H' a → H p = none → H' p = some (.lst (ns.map V.int)) → (ns.length : Int) = n → Row ns → Q (.ref p) H'
theorem ok_heights (D : Df K mg "_law_heights" s__law_heights) (c__law_draw : Cl P w K mg base 1 "_law_draw" s__law_draw ["_law_pool_here", "_law_count"] spDraw) (m_len : mg "len" = none) (m_list : mg "list" = none) (m_range : mg "range" = none) (m_sorted : mg "sorted" = none) :
    Cl P w K mg base 2 "_law_heights" s__law_heights ["_law_pool_here", "_law_size"] spHeights := by
  refine D.ok sc__law_heights (fun _ _ _ _ _ _ us hl => match us, hl with | [_, _], _ => rfl) (fun vs H Q E h => ?_) (fun f cdv A outer s H vs Q E hr h => ?_)
  · obtain ⟨a, n, rfl, _⟩ := h
    rfl
  · obtain ⟨a, n, rfl, n1, n2, hp, q⟩ := h
    refine ⟨_, 
      (pss_cons (ps_set (i := 2) sc__law_heights.nd rfl (Or.inl rfl) (pe_u c__law_draw hr (by omega) (by rfl) (pa_cons (pv 0) (pa_cons pe_int pa_nil)))) 
      (pss_cons (ps_if (pt_cmpR op_eq (pv 2) pe_int (nomark _)) (pss_one (ps_ret (pe_listRg rfl (by rfl) m_list (prg_2 (by rfl) m_range pe_int (pe_op op_add (pv 1) pe_int))))) pss_nil) 
      (pss_cons (ps_if (pt_cmpR op_eq (pv 2) pe_int (nomark _)) (pss_one (ps_ret (pe_listRg rfl (by rfl) m_list (prg_2 (by rfl) m_range (pe_op op_sub pe_int (pv 1)) pe_int)))) pss_nil) 
      (pss_cons (ps_set (i := 3) sc__law_heights.nd rfl (Or.inr rfl) (pe_listRg rfl (by rfl) m_list (prg_2 (by rfl) m_range pe_int pe_int))) 
      (pss_one (ps_ret (pe_callB cr_sorted (by rfl) m_sorted (by decide +kernel) (pa_cons (pe_lc (own := [("_law_k", 4)]) (g := gName 4) (te := (tBM K "list" rPopAt (tVar 3) (tCons (tCall spDraw [] E0 (tCons (tVar 0) (tCons (tCB (rLenS K) (tCons (tVar 3) tNil)) tNil))) tNil))) rfl sc__law_heights.nd (pi_range1 (by rfl) m_range (pa_cons (pv 1) pa_nil)) (blkOk_by (own := [("_law_k", 4)]) (N := N__law_heights) (sc := (defScope s__law_heights)) (by decide +kernel)) (fun _ _ _ _ _ => (pg_name (i := 4) sc__law_heights.nd rfl (Or.inl rfl))) (fun _ _ _ _ _ => pts_nil) (fun _ _ _ _ _ => (pe_bm PySem.F.plainAttrs_list PySem.F.slot_list_pop PySem.F.type_list_pop mt_popAt (pv 3) (pa_cons (pe_u c__law_draw hr (by omega) (by rfl) (pa_cons (pv 0) (pa_cons (pe_callB call_lenS (by rfl) m_len (by decide +kernel) (pa_cons (pv 3) pa_nil)) pa_nil))) pa_nil)))) pa_nil)))))))), ?_⟩
    refine ⟨_, rfl, a, 4, rfl, by decide, by decide, hp, fun d H1 d0 d1 k1 p1 => ?_⟩
    have whole : ∀ (lo hi : Int), 1 ≤ lo → hi ≤ 1000 → hi - lo = n → ∀ p, H1 p = none → Q (.ref p) (upd H1 p (.lst (rgV lo hi))) := fun lo hi h1 h2 h3 p np => by
      have pa : p ≠ a := p1.ne np
      refine q p (rg lo hi) _ (k1.upd (k1.free np pa)) (p1.upd pa.symm) (k1.free np pa) ?_ ?_ ⟨?_, ?_, rg_nodup lo hi, fun x hx => ?_⟩
      · rw [upd_same, rgV_rg]
      · rw [rg_len]; omega
      · rw [rg_len]; omega
      · rw [rg_len]; omega
      · have := rg_mem hx
        omega
    refine ⟨_, rfl, rfl, _, rfl, ite2 (fun e => ?_) (fun e => ?_)⟩
    · exact ⟨_, rfl, _, _, rfl, rfl, 1, n + 1, rfl, rfl, .of_le (by decide) (by omega) (by decide) (by omega), whole 1 (n + 1) (by decide) (by omega) (by omega)⟩
    · refine ⟨_, rfl, rfl, _, rfl, ite2 (fun e => ?_) (fun e => ?_)⟩
      · exact ⟨_, rfl, _, _, rfl, rfl, 1000 - n, 1000, rfl, rfl, .of_le (by omega) (by decide) (by omega) (by decide), whole (1000 - n) 1000 (by omega) (by decide) (by omega)⟩
      · refine ⟨1, 1000, rfl, rfl, .of_le (by decide) (by decide) (by decide) (by decide), fun l nl => ?_⟩
        have la : l ≠ a := p1.ne nl
        refine ⟨_, rfl, n, rfl, by omega, by omega, fun D nD => ?_⟩
        have Dl : D ≠ l := fun z => by
          subst z
          rw [upd_same] at nD
          cases nD
        rw [upd_ne Dl] at nD
        have Da : D ≠ a := p1.ne nD
        refine lc_range (lo := 0) (n := n.toNat) (fun i H2 => ∃ taken left : List Int, H2 l = some (.lst (left.map V.int)) ∧ H2 D = some (.lst (taken.map V.int)) ∧ taken.length = i ∧ (taken ++ left).Perm (rg 1 1000) ∧ Pool H2 a ∧ Kp a H H2)
          ⟨[], rg 1 1000, ?_, upd_same, rfl, .refl _, (p1.upd la.symm).upd Da.symm, (k1.upd (k1.free nl la)).upd (k1.free nD Da)⟩ (fun i H2 hi hI => ?_) (fun H2 hI => ?_)
        · rw [upd_ne Dl.symm, upd_same, rgV_rg]
        · obtain ⟨taken, left, hl, hD, ht, hpm, p2, k2⟩ := hI
          have hlen : taken.length + left.length = 999 := by
            have := hpm.length_eq
            rw [List.length_append, rg_len] at this
            exact this
          refine ⟨rfl, _, rfl, .inl ⟨rfl, _, .inl (.inl hl)⟩, _, rfl, _, rfl, l, _, rfl, .inl (.inl (.inl hl)), a, _, rfl, ?_, ?_, p2, fun j H3 j0 j1 k3 p3 => ?_⟩
          · rw [List.length_map]; omega
          · rw [List.length_map]; omega
          · rw [List.length_map] at j1
            have lt : j.toNat < left.length := by omega
            have hl3 : H3 l = some (.lst (left.map V.int)) := k3 l _ hl la
            have hD3 : H3 D = some (.lst (taken.map V.int)) := k3 D _ hD Da
            refine ⟨l, left.map V.int, j, j.toNat, .int left[j.toNat], rfl, rfl, hl3, by omega, by omega, seqIx j0 (by rw [List.length_map]; exact j1), getI lt, taken.map V.int, ?_, ?_, ?_⟩
            · rw [upd_ne Dl]
              exact hD3
            · rw [List.length_map]
              exact len_lt (by omega)
            · refine ⟨taken ++ [left[j.toNat]], left.eraseIdx j.toNat, ?_, ?_, ?_, (take_perm lt).trans hpm, (p3.upd la.symm).upd Da.symm, ?_⟩
              · rw [upd_ne Dl.symm, upd_same, eraseI]
              · rw [upd_same, List.map_append]
                rfl
              · rw [List.length_append, ht]
                rfl
              · exact ((k2.trans k3).upd (k1.free nl la)).upd (k1.free nD Da)
        · obtain ⟨taken, left, hl, hD, ht, hpm, p2, k2⟩ := hI
          have nd : (taken ++ left).Nodup := hpm.nodup_iff.mpr (rg_nodup 1 1000)
          have mem : ∀ x ∈ taken, 1 ≤ x ∧ x ≤ 999 := fun x hx => by
            have := rg_mem (hpm.mem_iff.mp (List.mem_append_left left hx))
            omega
          refine ⟨D, taken, rfl, .inl (.inl hD), by omega, fun ns p pm _ np => ?_⟩
          have pa : p ≠ a := p2.ne np
          have pf : H p = none := k2.free np pa
          refine q p ns _ (k2.upd pf) (p2.upd pa.symm) pf upd_same ?_ ⟨?_, ?_, ?_, fun x hx => mem x (pm.mem_iff.mp hx)⟩
          · rw [pm.length_eq]; omega
          · rw [pm.length_eq]; omega
          · rw [pm.length_eq]; omega
          · exact pm.nodup_iff.mpr (List.nodup_append.mp nd).1
/-! ### a row -/
abbrev s__law_row : Stmt := top 31
abbrev N__law_row : List Str := ["_law_pool_here", "_law_least", "_law_most", "_law_left", "_law_found", "_law_k"]
theorem sc__law_row : FnScope N__law_row ["_law_pool_here", "_law_least", "_law_most"] (defScope s__law_row) := ⟨rfl, rfl, rfl, by decide +kernel, rfl, by decide +kernel, by decide +kernel⟩
def spRow : Sp := fun vs H Q _ => ∃ (a : Addr) (lo hi : Int), vs = [.ref a, .int lo, .int hi] ∧ 1 ≤ lo ∧ lo ≤ hi ∧ hi ≤ 12 ∧ Pool H a ∧
  ∀ (p : Addr) (ns : List Int) (H' : Hp), Kp a H H' → Pool H' a → H p = none → H' p = some (.tup (ns.map V.int)) → lo ≤ ns.length → ns.length ≤ hi → Row ns → Q (.ref p) H'
theorem ok_row (D : Df K mg "_law_row" s__law_row) (c__law_draw : Cl P w K mg base 1 "_law_draw" s__law_draw ["_law_pool_here", "_law_count"] spDraw) (c__law_heights : Cl P w K mg base 2 "_law_heights" s__law_heights ["_law_pool_here", "_law_size"] spHeights)
    (m_len : mg "len" = none) (m_tuple : mg "tuple" = none) (m_range : mg "range" = none) : Cl P w K mg base 3 "_law_row" s__law_row ["_law_pool_here", "_law_least", "_law_most"] spRow := by
  refine D.ok sc__law_row (fun _ _ _ _ _ _ us hl => match us, hl with | [_, _, _], _ => rfl) (fun vs H Q E h => ?_) (fun f cdv A outer s H vs Q E hr h => ?_)
  · obtain ⟨a, lo, hi, rfl, _⟩ := h
    rfl
  · obtain ⟨a, lo, hi, rfl, h1, h2, h3, hp, q⟩ := h
    refine ⟨_, 
      (pss_cons (ps_par (i := 3) (j := 4) (by rfl) sc__law_row.nd rfl rfl (by decide) rfl rfl (pa_cons (pe_u c__law_heights hr (by omega) (by rfl) (pa_cons (pv 0) (pa_cons (pe_op op_add (pv 1) (pe_u c__law_draw hr (by omega) (by rfl) (pa_cons (pv 0) (pa_cons (pe_op op_add (pe_op op_sub (pv 2) (pv 1)) pe_int) pa_nil)))) pa_nil))) (pa_cons (pe_lst pa_nil) pa_nil)) (by rfl)) 
      (pss_cons (ps_for PassesOwn.never rfl (pi_range1 (by rfl) m_range (pa_cons (pe_callB call_lenS (by rfl) m_len (by decide +kernel) (pa_cons (pv 3) pa_nil)) pa_nil)) (pg_name (i := 5) sc__law_row.nd rfl (Or.inl rfl)) (pss_one (ps_expr (pe_bm PySem.F.plainAttrs_list PySem.F.slot_list_append PySem.F.type_list_append mt_append (pv 4) (pa_cons (pe_bm PySem.F.plainAttrs_list PySem.F.slot_list_pop PySem.F.type_list_pop mt_popAt (pv 3) (pa_cons (pe_u c__law_draw hr (by omega) (by rfl) (pa_cons (pv 0) (pa_cons (pe_callB call_lenS (by rfl) m_len (by decide +kernel) (pa_cons (pv 3) pa_nil)) pa_nil))) pa_nil)) pa_nil))))) 
      (pss_one (ps_ret (pe_callTy call_tuple_of (by rfl) m_tuple (by decide +kernel) (pa_cons (pv 4) pa_nil)))))), ?_⟩
    refine ⟨_, rfl, _, rfl, _, rfl, _, rfl, _, rfl, _, _, rfl, rfl, _, _, rfl, rfl, a, _, rfl, by omega, by omega, hp, fun d H1 d0 d1 k1 p1 => ?_⟩
    refine ⟨_, _, rfl, rfl, a, _, rfl, by omega, by omega, p1, fun l all H2 k2 p2 nl hl hlen hrow => ?_⟩
    have la : l ≠ a := p1.ne nl
    have lf : H l = none := k1.free nl la
    have k02 : Kp a H H2 := k1.trans k2
    refine ⟨Nat.zero_le _, fun D nD => ⟨_, _, rfl, ?_⟩⟩
    have Da : D ≠ a := p2.ne nD
    have Dl : D ≠ l := fun z => by
      subst z
      rw [hl] at nD
      cases nD
    have Df : H D = none := k02.free nD Da
    refine ⟨_, rfl, l, all.map V.int, rfl, .inl (.inl (.inl ?_)), ?_⟩
    · rw [upd_ne Dl.symm]
      exact hl
    refine ⟨((all.map V.int).length : Nat), rfl, by omega, ?_, ?_⟩
    · rw [List.length_map]
      have := hrow.most
      omega
    refine for_range (lo := 0) (n := (((all.map V.int).length : Nat) : Int).toNat) (fun i σ H3 => ∃ (y : Option V) (taken left : List Int), σ = [some (.ref a), some (.int lo), some (.int hi), some (.ref l), some (.ref D), y] ∧ H3 l = some (.lst (left.map V.int)) ∧ H3 D = some (.lst (taken.map V.int)) ∧ taken.length = i ∧ (taken ++ left).Perm all ∧ Pool H3 a ∧ Kp a H H3)
      ⟨none, [], all, rfl, ?_, upd_same, rfl, .refl _, p2.upd Da.symm, k02.upd Df⟩ (fun i σ H3 hi hI => ?_) (fun σ H3 hI => ?_)
    · rw [upd_ne Dl.symm]
      exact hl
    · obtain ⟨y, taken, left, rfl, hl3, hD3, ht, hpm, p3, k3⟩ := hI
      have ln : taken.length + left.length = all.length := by
        rw [← List.length_append]
        exact hpm.length_eq
      have most := hrow.most
      rw [List.length_map] at hi
      refine ⟨_, rfl, .inl ⟨rfl, _, .inl (.inl hD3)⟩, _, rfl, .inl ⟨rfl, _, .inl (.inl hl3)⟩, _, rfl, _, rfl, l, _, rfl, .inl (.inl (.inl hl3)), a, _, rfl, ?_, ?_, p3, fun j H4 j0 j1 k4 p4 => ?_⟩
      · rw [List.length_map]; omega
      · rw [List.length_map]; omega
      · rw [List.length_map] at j1
        have lt : j.toNat < left.length := by omega
        have hl4 : H4 l = some (.lst (left.map V.int)) := k4 l _ hl3 la
        have hD4 : H4 D = some (.lst (taken.map V.int)) := k4 D _ hD3 Da
        refine ⟨l, left.map V.int, j, j.toNat, .int left[j.toNat], rfl, rfl, hl4, by omega, by omega, seqIx j0 (by rw [List.length_map]; exact j1), getI lt, D, taken.map V.int, _, rfl, rfl, ?_, ?_, ?_⟩
        · rw [upd_ne Dl]
          exact hD4
        · rw [List.length_map]
          exact len_lt (by omega)
        · refine ⟨_, taken ++ [left[j.toNat]], left.eraseIdx j.toNat, rfl, ?_, ?_, ?_, (take_perm lt).trans hpm, (p4.upd la.symm).upd Da.symm, ((k3.trans k4).upd lf).upd Df⟩
          · rw [upd_ne Dl.symm, upd_same, eraseI]
          · rw [upd_same, List.map_append]
            rfl
          · rw [List.length_append, ht]
            rfl
    · obtain ⟨y, taken, left, rfl, hl3, hD3, ht, hpm, p3, k3⟩ := hI
      have ln : taken.length + left.length = all.length := by
        rw [← List.length_append]
        exact hpm.length_eq
      have l0 : left = [] := List.length_eq_zero_iff.mp (by
        rw [List.length_map] at ht
        omega)
      subst l0
      rw [List.append_nil] at hpm
      refine ⟨_, rfl, D, taken.map V.int, rfl, .inl ⟨.inl (.inl hD3), fun p np => ?_⟩⟩
      have pa : p ≠ a := p3.ne np
      have pf : H p = none := k3.free np pa
      have le := hpm.length_eq
      refine q p taken _ (k3.upd pf) (p3.upd pa.symm) pf upd_same (by omega) (by omega) ⟨?_, ?_, hpm.nodup_iff.mpr hrow.nd, fun x hx => hrow.rng x (hpm.mem_iff.mp hx)⟩
      · rw [le]
        exact hrow.pos
      · rw [le]
        exact hrow.most
end
section
variable {P : Program} {w : World} {K : PySem.W.Frag} {mg : Str → Option Value} {base : Heap}
/-! ### rows -/
abbrev s_is_whole : Stmt := top 9
abbrev N_is_whole : List Str := ["value"]
theorem sc_is_whole : FnScope N_is_whole ["value"] (defScope s_is_whole) := ⟨rfl, rfl, rfl, by decide +kernel, rfl, by decide +kernel, by decide +kernel⟩
def spWhole (K : PySem.W.Frag) : Sp := fun vs H Q _ => ∃ (v : V) (T : String), vs = [v] ∧ Tv K H v T ∧ Q (.bl (decide (T = "int"))) H
theorem ok_whole (D : Df K mg "is_whole" s_is_whole) (m_isinstance : mg "isinstance" = none) (m_int : mg "int" = none) (m_bool : mg "bool" = none) : Cl P w K mg base 1 "is_whole" s_is_whole ["value"] (spWhole K) := by
  refine D.ok sc_is_whole (fun _ _ _ _ _ _ us hl => match us, hl with | [_], _ => rfl) (fun vs H Q E h => ?_) (fun f cdv A outer s H vs Q E hr h => ?_)
  · obtain ⟨v, T, rfl, _⟩ := h
    rfl
  · obtain ⟨v, T, rfl, t, q⟩ := h
    refine ⟨_, 
      (pss_one (ps_ret (pe_and (pe_callB call_isi (by rfl) m_isinstance (by decide +kernel) (pa_cons (pv 0) (pa_cons (pe_bltn (v := .ty "int") (by rfl) m_int (by decide +kernel) rfl) pa_nil))) (pe_one (pe_not (pe_callB call_isi (by rfl) m_isinstance (by decide +kernel) (pa_cons (pv 0) (pa_cons (pe_bltn (v := .ty "bool") (by rfl) m_bool (by decide +kernel) rfl) pa_nil)))))))), ?_⟩
    refine ⟨_, rfl, v, .ty "int", .type T, .type "int", _, rfl, .ty _, t.ty, kit_int t.mem, _, rfl, ?_⟩
    by_cases h1 : T = "int"
    · rw [decide_eq_true h1, Bool.true_or]
      refine iteT ⟨_, rfl, v, .ty "bool", .type T, .type "bool", _, rfl, .ty _, t.ty, kit_bool t.mem, _, rfl, ?_⟩
      rw [decide_eq_true h1] at q
      rw [decide_eq_false (show ¬ T = "bool" by rw [h1]; decide)]
      exact q
    · rw [decide_eq_false h1] at q
      rw [decide_eq_false h1, Bool.false_or]
      by_cases h2 : T = "bool"
      · rw [decide_eq_true h2]
        refine iteT ⟨_, rfl, v, .ty "bool", .type T, .type "bool", _, rfl, .ty _, t.ty, kit_bool t.mem, _, rfl, ?_⟩
        rw [decide_eq_true h2]
        exact q
      · rw [decide_eq_false h2]
        exact iteF q
abbrev s_is_whole_from : Stmt := top 10
abbrev N_is_whole_from : List Str := ["value", "least", "greatest"]
theorem sc_is_whole_from : FnScope N_is_whole_from ["value", "least", "greatest"] (defScope s_is_whole_from) := ⟨rfl, rfl, rfl, by decide +kernel, rfl, by decide +kernel, by decide +kernel⟩
def wholeB (v : V) (lo hi : Int) : Bool := match v with
  | .int i => decide (lo ≤ i) && decide (i ≤ hi)
  | _ => false
def spFrom (K : PySem.W.Frag) : Sp := fun vs H Q _ => ∃ (v : V) (T : String) (lo hi : Int), vs = [v, .int lo, .int hi] ∧ Tv K H v T ∧ Q (.bl (wholeB v lo hi)) H
theorem ok_from (D : Df K mg "is_whole_from" s_is_whole_from) (c_is_whole : Cl P w K mg base 1 "is_whole" s_is_whole ["value"] (spWhole K)) :
    Cl P w K mg base 2 "is_whole_from" s_is_whole_from ["value", "least", "greatest"] (spFrom K) := by
  refine D.ok sc_is_whole_from (fun _ _ _ _ _ _ us hl => match us, hl with | [_, _, _], _ => rfl) (fun vs H Q E h => ?_) (fun f cdv A outer s H vs Q E hr h => ?_)
  · obtain ⟨v, T, lo, hi, rfl, _⟩ := h
    rfl
  · obtain ⟨v, T, lo, hi, rfl, t, q⟩ := h
    refine ⟨_, 
      (pss_one (ps_ret (pe_and (pe_u c_is_whole hr (by omega) (by rfl) (pa_cons (pv 0) pa_nil)) (pe_one (pe_chain op_le op_le (pv 1) (pv 0) (pv 2)))))), ?_⟩
    refine ⟨_, rfl, v, T, rfl, t, _, rfl, ?_⟩
    by_cases h1 : T = "int"
    · rw [decide_eq_true h1]
      subst h1
      obtain ⟨i, rfl⟩ := t.int_of
      refine iteT ⟨_, rfl, _, rfl, _, _, rfl, rfl, _, rfl, ?_⟩
      have q2 : Q (.bl (decide (lo ≤ i) && decide (i ≤ hi))) H := q
      by_cases h2 : lo ≤ i
      · rw [decide_eq_true h2] at q2 ⊢
        exact iteT ⟨_, rfl, _, _, rfl, rfl, q2⟩
      · rw [decide_eq_false h2] at q2 ⊢
        exact iteF q2
    · rw [decide_eq_false h1]
      refine iteF ?_
      have e : wholeB v lo hi = false := by
        cases v with
        | int i => exact absurd t.of_int h1
        | _ => rfl
      rw [e] at q
      exact q
end
section
variable {P : Program} {w : World} {K : PySem.W.Frag} {mg : Str → Option Value} {base : Heap}
abbrev s_is_height : Stmt := top 11
abbrev N_is_height : List Str := ["value"]
theorem sc_is_height : FnScope N_is_height ["value"] (defScope s_is_height) := ⟨rfl, rfl, rfl, by decide +kernel, rfl, by decide +kernel, by decide +kernel⟩
def spHeight (K : PySem.W.Frag) : Sp := fun vs H Q _ => ∃ (v : V) (T : String), vs = [v] ∧ Tv K H v T ∧ Q (.bl (heightB v)) H
theorem ok_height (D : Df K mg "is_height" s_is_height) (c_is_whole_from : Cl P w K mg base 2 "is_whole_from" s_is_whole_from ["value", "least", "greatest"] (spFrom K)) {tg : Tok} (g_GREATEST_HEIGHT : mg "GREATEST_HEIGHT" = some (.int 999 tg)) :
    Cl P w K mg base 3 "is_height" s_is_height ["value"] (spHeight K) := by
  refine D.ok sc_is_height (fun _ _ _ _ _ _ us hl => match us, hl with | [_], _ => rfl) (fun vs H Q E h => ?_) (fun f cdv A outer s H vs Q E hr h => ?_)
  · obtain ⟨v, T, rfl, _⟩ := h
    rfl
  · obtain ⟨v, T, rfl, t, q⟩ := h
    refine ⟨_, 
      (pss_one (ps_ret (pe_u c_is_whole_from hr (by omega) (by rfl) (pa_cons (pv 0) (pa_cons pe_int (pa_cons (pe_glob (v := .int 999) (by rfl) g_GREATEST_HEIGHT ⟨_, rfl⟩) pa_nil)))))), ?_⟩
    have e : wholeB v 1 999 = heightB v := by cases v <;> rfl
    rw [← e] at q
    exact ⟨_, rfl, v, T, 1, 999, rfl, t, q⟩
abbrev s_may_be_row : Stmt := top 12
abbrev N_may_be_row : List Str := ["value"]
theorem sc_may_be_row : FnScope N_may_be_row ["value"] (defScope s_may_be_row) := ⟨rfl, rfl, rfl, by decide +kernel, rfl, by decide +kernel, by decide +kernel⟩
def spMay (K : PySem.W.Frag) : Sp := fun vs H Q _ => (∃ (v : V) (T : String), vs = [v] ∧ Tv K H v T ∧ T ≠ "tuple" ∧ Q (.bl false) H) ∨
  ∃ (a : Addr) (xs : List V), vs = [.ref a] ∧ SqT K H a xs ∧ Q (.bl (decide (1 ≤ xs.length) && decide (xs.length ≤ 12))) H
theorem ok_may (D : Df K mg "may_be_row" s_may_be_row) (m_isinstance : mg "isinstance" = none) (m_tuple : mg "tuple" = none) (m_len : mg "len" = none) {tg : Tok} (g_MOST_PEOPLE : mg "MOST_PEOPLE" = some (.int 12 tg)) :
    Cl P w K mg base 1 "may_be_row" s_may_be_row ["value"] (spMay K) := by
  refine D.ok sc_may_be_row (fun _ _ _ _ _ _ us hl => match us, hl with | [_], _ => rfl) (fun vs H Q E h => ?_) (fun f cdv A outer s H vs Q E hr h => ?_)
  · rcases h with ⟨v, T, rfl, _⟩ | ⟨a, xs, rfl, _⟩ <;> rfl
  · refine ⟨_, 
      (pss_one (ps_ret (pe_and (pe_callB call_isi (by rfl) m_isinstance (by decide +kernel) (pa_cons (pv 0) (pa_cons (pe_bltn (v := .ty "tuple") (by rfl) m_tuple (by decide +kernel) rfl) pa_nil))) (pe_one (pe_chain op_le op_le pe_int (pe_callB call_lenS (by rfl) m_len (by decide +kernel) (pa_cons (pv 0) pa_nil)) (pe_glob (v := .int 12) (by rfl) g_MOST_PEOPLE ⟨_, rfl⟩)))))), ?_⟩
    rcases h with ⟨v, T, rfl, t, h1, q⟩ | ⟨a, xs, rfl, hS, q⟩
    · refine ⟨_, rfl, v, .ty "tuple", .type T, .type "tuple", _, rfl, .ty _, t.ty, kit_tuple t.mem, _, rfl, ?_⟩
      rw [decide_eq_false h1]
      exact iteF q
    · refine ⟨_, rfl, .ref a, .ty "tuple", .type "tuple", .type "tuple", _, rfl, .ty _, (Tv.tup hS).ty, kit_tuple (Tv.tup hS).mem, _, rfl, iteT ?_⟩
      refine ⟨_, rfl, a, xs, rfl, .inr hS, _, _, rfl, rfl, _, rfl, ?_⟩
      have c1 : ((1 : Int) ≤ (xs.length : Int)) ↔ 1 ≤ xs.length := by omega
      have c2 : ((xs.length : Int) ≤ 12) ↔ xs.length ≤ 12 := by omega
      rw [show decide ((1 : Int) ≤ (xs.length : Int)) = decide (1 ≤ xs.length) from decide_eq_decide.mpr c1]
      by_cases h2 : 1 ≤ xs.length
      · rw [decide_eq_true h2] at q ⊢
        refine iteT ⟨_, _, rfl, rfl, ?_⟩
        show Q (.bl (decide ((xs.length : Int) ≤ 12))) H
        rw [show decide ((xs.length : Int) ≤ 12) = decide (xs.length ≤ 12) from decide_eq_decide.mpr c2]
        exact q
      · rw [decide_eq_false h2] at q ⊢
        exact iteF q
abbrev s_wrong_person : Stmt := top 13
abbrev N_wrong_person : List Str := ["row", "index", "person"]
theorem sc_wrong_person : FnScope N_wrong_person ["row"] (defScope s_wrong_person) := ⟨rfl, rfl, rfl, by decide +kernel, rfl, by decide +kernel, by decide +kernel⟩
def spWrong (K : PySem.W.Frag) : Sp := fun vs H Q _ => ∃ (a : Addr) (xs : List V), vs = [.ref a] ∧ SqT K H a xs ∧ xs.length ≤ 1000 ∧ (∀ x ∈ xs, ∃ T, Tv K H x T) ∧
  (∀ i : Nat, i < xs.length → okAt xs i = false → (∀ j < i, okAt xs j = true) → ∀ H', Same H H' → Q (.int (i : Nat)) H') ∧ ((∀ i, i < xs.length → okAt xs i = true) → ∀ H', Same H H' → Q .non H')
theorem ok_wrong (D : Df K mg "wrong_person" s_wrong_person) (c_is_height : Cl P w K mg base 3 "is_height" s_is_height ["value"] (spHeight K)) (m_enumerate : mg "enumerate" = none) :
    Cl P w K mg base 4 "wrong_person" s_wrong_person ["row"] (spWrong K) := by
  refine D.ok sc_wrong_person (fun _ _ _ _ _ _ us hl => match us, hl with | [_], _ => rfl) (fun vs H Q E h => ?_) (fun f cdv A outer s H vs Q E hr h => ?_)
  · obtain ⟨a, xs, rfl, _⟩ := h
    rfl
  · obtain ⟨a, xs, rfl, hS, hlen, hT, q1, q2⟩ := h
    refine ⟨_, 
      (pss_cons (ps_for PassesOwn.never rfl (pi_enumT (by rfl) m_enumerate (pa_cons (pv 0) pa_nil)) (pg_tup (by rfl) (pgs_cons (pg_name (i := 1) sc_wrong_person.nd rfl (Or.inl rfl)) (pgs_cons (pg_name (i := 2) sc_wrong_person.nd rfl (Or.inl rfl)) pgs_nil))) (pss_one (ps_if (PW.pt (pw_or (pt_not (pt_val (pe_u c_is_height hr (by omega) (by rfl) (pa_cons (pv 2) pa_nil)))) (pw_or1 (pt_cmpR op_in_seq (pv 2) (pe_slice sl_tup (pv 0) po_none (po_some (pv 1))) (by rfl))))) (pss_one (ps_ret (pv 1))) pss_nil))) 
      (pss_one (ps_ret pe_non))), ?_⟩
    refine ⟨_, rfl, a, xs, rfl, hS, ?_⟩
    refine walk_enumT (xs := xs) (fun i σ H2 => ∃ y1 y2 : Option V, σ = [some (.ref a), y1, y2] ∧ Same H H2 ∧ ∀ j < i, okAt xs j = true) ⟨none, none, rfl, Same.refl H, fun j hj => absurd hj (Nat.not_lt_zero j)⟩ (fun i σ H2 _ hI => ?_) (fun i x T σ H2 hx hI nT => ?_) (fun σ H2 hI => ?_)
    · obtain ⟨_, _, _, sm, _⟩ := hI
      exact SqT.same sm hS
    · obtain ⟨y1, y2, rfl, sm, oks⟩ := hI
      have lt : i < xs.length := (List.getElem?_eq_some_iff.mp hx).1
      have smT : Same H (upd H2 T (.tup [.int (i : Nat), x])) := sm.trans (same_upd nT)
      refine ⟨T, _, rfl, .inl (.inl upd_same), rfl, _, _, rfl, _, _, rfl, rfl, ?_⟩
      obtain ⟨Ty, tv⟩ := hT x (List.mem_of_getElem? hx)
      refine ⟨_, rfl, x, Ty, rfl, tv.same smT, _, rfl, ?_⟩
      have okE : okAt xs i = (heightB x && !inV x (xs.take i)) := by
        unfold okAt
        rw [hx]
      by_cases hB : heightB x = true
      · rw [hB]
        refine iteF ⟨_, rfl, _, rfl, _, rfl, _, rfl, a, xs, rfl, SqT.same smT hS, ?_, fun p np => ?_⟩
        · rintro ⟨_, e2⟩
          rw [HT.sIx_nat, Nat.min_eq_left (Nat.le_of_lt lt)] at e2
          omega
        · have ec : cutV xs none (some ((i : Nat) : Int)) = xs.take i := by
            unfold cutV
            rw [HT.sIx_none, HT.sIx_nat, Nat.min_eq_left (Nat.le_of_lt lt)]
            rfl
          obtain ⟨n, rfl, _⟩ := heightB_int hB
          rw [ec]
          refine ⟨p, xs.take i, rfl, .inr (.inl (.inl upd_same)), rfl, flat_of_ok (Nat.le_of_lt lt) oks, _, rfl, ?_⟩
          have smP : Same H (upd (upd H2 T (.tup [.int (i : Nat), .int n])) p (.tup (xs.take i))) := smT.trans (same_upd np)
          rw [hB, Bool.true_and] at okE
          show if inV (.int n) (xs.take i) = true then _ else _
          cases hin : inV (.int n) (xs.take i) with
          | true =>
            rw [hin] at okE
            exact iteT ⟨_, rfl, q1 i lt okE oks _ smP⟩
          | false =>
            rw [hin] at okE
            refine iteF ⟨_, _, rfl, smP, fun j hj => ?_⟩
            rcases Nat.lt_succ_iff_lt_or_eq.mp hj with z | z
            · exact oks j z
            · rw [z]
              exact okE
      · have hB2 : heightB x = false := Bool.eq_false_iff.mpr hB
        rw [hB2] at okE ⊢
        exact iteT (iteT ⟨_, rfl, q1 i lt okE oks _ smT⟩)
    · obtain ⟨y1, y2, rfl, sm, oks⟩ := hI
      exact q2 oks _ sm
end
section
variable {P : Program} {w : World} {K : PySem.W.Frag} {mg : Str → Option Value} {base : Heap}
abbrev s_check_row : Stmt := top 14
abbrev N_check_row : List Str := ["row", "index"]
theorem sc_check_row : FnScope N_check_row ["row"] (defScope s_check_row) := ⟨rfl, rfl, rfl, by decide +kernel, rfl, by decide +kernel, by decide +kernel⟩
def spCheckRow (K : PySem.W.Frag) : Sp := fun vs H Q _ => ∃ (a : Addr) (ns : List Int), vs = [.ref a] ∧ SqT K H a (ns.map V.int) ∧ Row ns ∧ ∀ H', Same H H' → Q .non H'
theorem ok_check_row (D : Df K mg "check_row" s_check_row) (c_may_be_row : Cl P w K mg base 1 "may_be_row" s_may_be_row ["value"] (spMay K)) (c_wrong_person : Cl P w K mg base 4 "wrong_person" s_wrong_person ["row"] (spWrong K)) :
    Cl P w K mg base 5 "check_row" s_check_row ["row"] (spCheckRow K) := by
  refine D.ok sc_check_row (fun _ _ _ _ _ _ us hl => match us, hl with | [_], _ => rfl) (fun vs H Q E h => ?_) (fun f cdv A outer s H vs Q E hr h => ?_)
  · obtain ⟨a, ns, rfl, _⟩ := h
    rfl
  · obtain ⟨a, ns, rfl, hS, hrow, q⟩ := h
    have l1 : 1 ≤ (ns.map V.int).length := by rw [List.length_map]; exact hrow.pos
    have l2 : (ns.map V.int).length ≤ 12 := by rw [List.length_map]; exact hrow.most
    refine ⟨_, 
      (pss_cons (ps_if (pt_not (pt_val (pe_u c_may_be_row hr (by omega) (by rfl) (pa_cons (pv 0) pa_nil)))) (pss_one ps_never) pss_nil) 
      (pss_cons (ps_set (i := 1) sc_check_row.nd rfl (Or.inl rfl) (pe_u c_wrong_person hr (by omega) (by rfl) (pa_cons (pv 0) pa_nil))) 
      (pss_one (ps_if (pt_cmpR op_notN (pv 1) pe_non (nomark _)) (pss_one ps_never) pss_nil)))), ?_⟩
    refine ⟨_, rfl, .inr ⟨a, _, rfl, hS, _, rfl, ?_⟩⟩
    rw [decide_eq_true l1, decide_eq_true l2]
    refine iteF ⟨_, rfl, a, _, rfl, hS, by omega, fun x hx => ?_, fun i _ ho => ?_, fun _ H' sm => ?_⟩
    · obtain ⟨n, _, rfl⟩ := List.mem_map.mp hx
      exact ⟨_, Tv.int n⟩
    · rw [hrow.ok i] at ho
      cases ho
    · refine ⟨_, rfl, rfl, _, rfl, ?_⟩
      rw [decide_eq_true rfl]
      exact iteF (q H' sm)
abbrev s_is_kind : Stmt := top 17
abbrev N_is_kind : List Str := ["value"]
theorem sc_is_kind : FnScope N_is_kind ["value"] (defScope s_is_kind) := ⟨rfl, rfl, rfl, by decide +kernel, rfl, by decide +kernel, by decide +kernel⟩
def spIsKind (K : PySem.W.Frag) : Sp := fun vs H Q _ => (∃ (v : V) (T : String), vs = [v] ∧ Tv K H v T ∧ T ≠ "str" ∧ Q (.bl false) H) ∨ ∃ z : Str, vs = [.str z] ∧ Q (.bl (kindB z)) H
theorem ok_is_kind (D : Df K mg "is_kind" s_is_kind) (m_isinstance : mg "isinstance" = none) (m_str : mg "str" = none) {a_KINDS : Addr} (g_KINDS : mg "KINDS" = some (.ref a_KINDS)) (hK : ∀ H : Hp, SqT K H a_KINDS [.str (ltr false), .str (ltr true)]) :
    Cl P w K mg base 1 "is_kind" s_is_kind ["value"] (spIsKind K) := by
  refine D.ok sc_is_kind (fun _ _ _ _ _ _ us hl => match us, hl with | [_], _ => rfl) (fun vs H Q E h => ?_) (fun f cdv A outer s H vs Q E hr h => ?_)
  · rcases h with ⟨v, T, rfl, _⟩ | ⟨z, rfl, _⟩ <;> rfl
  · refine ⟨_, 
      (pss_one (ps_ret (pe_and (pe_callB call_isi (by rfl) m_isinstance (by decide +kernel) (pa_cons (pv 0) (pa_cons (pe_bltn (v := .ty "str") (by rfl) m_str (by decide +kernel) rfl) pa_nil))) (pe_one (pe_cmpR op_in_seq (pv 0) (pe_glob (v := .ref a_KINDS) (by rfl) g_KINDS rfl) (by rfl)))))), ?_⟩
    rcases h with ⟨v, T, rfl, t, h1, q⟩ | ⟨z, rfl, q⟩
    · refine ⟨_, rfl, v, .ty "str", .type T, .type "str", _, rfl, .ty _, t.ty, kit_str t.mem, _, rfl, ?_⟩
      rw [decide_eq_false h1]
      exact iteF q
    · refine ⟨_, rfl, .str z, .ty "str", .type "str", .type "str", _, rfl, .ty _, .base (.str z), kit_str (T := "str") (by decide), _, rfl, iteT ?_⟩
      refine ⟨_, rfl, a_KINDS, _, rfl, .inr (hK H), rfl, rfl, ?_⟩
      show Q (.bl (inV (.str z) [.str (ltr false), .str (ltr true)])) H
      rw [inV_kinds]
      exact q
abbrev s_check_kind : Stmt := top 18
abbrev N_check_kind : List Str := ["kind"]
theorem sc_check_kind : FnScope N_check_kind ["kind"] (defScope s_check_kind) := ⟨rfl, rfl, rfl, by decide +kernel, rfl, by decide +kernel, by decide +kernel⟩
def spCheckKind : Sp := fun vs H Q _ => ∃ b : Bool, vs = [.str (ltr b)] ∧ Q .non H
theorem ok_check_kind (D : Df K mg "check_kind" s_check_kind) (c_is_kind : Cl P w K mg base 1 "is_kind" s_is_kind ["value"] (spIsKind K)) : Cl P w K mg base 2 "check_kind" s_check_kind ["kind"] spCheckKind := by
  refine D.ok sc_check_kind (fun _ _ _ _ _ _ us hl => match us, hl with | [_], _ => rfl) (fun vs H Q E h => ?_) (fun f cdv A outer s H vs Q E hr h => ?_)
  · obtain ⟨b, rfl, _⟩ := h
    rfl
  · obtain ⟨b, rfl, q⟩ := h
    refine ⟨_, 
      (pss_one (ps_if (pt_not (pt_val (pe_u c_is_kind hr (by omega) (by rfl) (pa_cons (pv 0) pa_nil)))) (pss_one ps_never) pss_nil)), ?_⟩
    refine ⟨_, rfl, .inr ⟨_, rfl, _, rfl, ?_⟩⟩
    rw [kindB_ltr]
    exact iteF q
abbrev s_takes_chair : Stmt := top 22
abbrev N_takes_chair : List Str := ["person", "sitter", "kind"]
theorem sc_takes_chair : FnScope N_takes_chair ["person", "sitter", "kind"] (defScope s_takes_chair) := ⟨rfl, rfl, rfl, by decide +kernel, rfl, by decide +kernel, by decide +kernel⟩
def spTakes : Sp := fun vs H Q _ => ∃ (p s : Int) (b : Bool), vs = [.int p, .int s, .str (ltr b)] ∧ Q (.bl (takes b p s)) H
theorem ok_takes (D : Df K mg "takes_chair" s_takes_chair) : Cl P w K mg base 1 "takes_chair" s_takes_chair ["person", "sitter", "kind"] spTakes := by
  refine D.ok sc_takes_chair (fun _ _ _ _ _ _ us hl => match us, hl with | [_, _, _], _ => rfl) (fun vs H Q E h => ?_) (fun f cdv A outer s H vs Q E hr h => ?_)
  · obtain ⟨p, s, b, rfl, _⟩ := h
    rfl
  · obtain ⟨p, s, b, rfl, q⟩ := h
    refine ⟨_, 
      (pss_cons (ps_if (pt_cmpR op_eq (pv 2) pe_str (nomark _)) (pss_one (ps_ret (pe_cmpR op_gt (pv 0) (pv 1) (nomark _)))) pss_nil) 
      (pss_one (ps_ret (pe_cmpR op_lt (pv 0) (pv 1) (nomark _))))), ?_⟩
    refine ⟨_, rfl, rfl, _, rfl, ?_⟩
    rw [ltrT]
    cases b with
    | true =>
      rw [decide_eq_true rfl]
      exact iteT ⟨_, rfl, _, rfl, _, _, rfl, rfl, q⟩
    | false =>
      rw [decide_eq_false (show ¬ V.str (ltr false) = V.str (ltr true) from fun z => absurd (ltr_inj (V.str.inj z)) (by decide))]
      exact iteF ⟨_, rfl, _, rfl, _, _, rfl, rfl, q⟩
/-! ### a walk past the chair -/
abbrev s_walk : Stmt := top 23
abbrev N_walk : List Str := ["people", "kind", "left", "seated", "person"]
theorem sc_walk : FnScope N_walk ["people", "kind"] (defScope s_walk) := ⟨rfl, rfl, rfl, by decide +kernel, rfl, by decide +kernel, by decide +kernel⟩
/-- what a walk leaves: a new pair of new lists -/
def WalkR (Q : VK) (H : Hp) (b : Bool) (ns : List Int) : Prop := ∀ (t l e : Addr) (H' : Hp), Same H H' → H t = none → H l = none → H e = none → t ≠ l → t ≠ e → l ≠ e → H' t = some (.tup [.ref l, .ref e]) → H' l = some (.lst ((passL b ns).map V.int)) → H' e = some (.lst ((seatL b ns).map V.int)) → Q (.ref t) H'
def spWalkL (K : PySem.W.Frag) : Sp := fun vs H Q _ => ∃ (a : Addr) (ns : List Int) (b : Bool), vs = [.ref a, .str (ltr b)] ∧ SqL K H a (ns.map V.int) ∧ 1 ≤ ns.length ∧ ns.length ≤ 12 ∧ WalkR Q H b ns
theorem ok_walkL (D : Df K mg "walk" s_walk) (c_takes_chair : Cl P w K mg base 1 "takes_chair" s_takes_chair ["person", "sitter", "kind"] spTakes) : Cl P w K mg base 2 "walk" s_walk ["people", "kind"] (spWalkL K) := by
  refine D.ok sc_walk (fun _ _ _ _ _ _ us hl => match us, hl with | [_, _], _ => rfl) (fun vs H Q E h => ?_) (fun f cdv A outer s H vs Q E hr h => ?_)
  · obtain ⟨a, ns, b, rfl, _⟩ := h
    rfl
  · obtain ⟨a, ns, b, rfl, hS, h1, h2, q⟩ := h
    obtain ⟨x, xs, rfl⟩ : ∃ x xs, ns = x :: xs := by
      cases ns with
      | nil => exact absurd h1 (by decide)
      | cons x xs => exact ⟨x, xs, rfl⟩
    rw [List.length_cons] at h2
    refine ⟨_, 
      (pss_cons (ps_set (i := 2) sc_walk.nd rfl (Or.inl rfl) (pe_lst pa_nil)) 
      (pss_cons (ps_set (i := 3) sc_walk.nd rfl (Or.inl rfl) (pe_lst (pa_cons (pe_ix ix_list (pv 0) pe_int (fun _ _ => rfl)) pa_nil))) 
      (pss_cons (ps_for PassesOwn.never rfl (pi_list (pe_slice sl_list (pv 0) (po_some pe_int) po_none)) (pg_name (i := 4) sc_walk.nd rfl (Or.inl rfl)) (pss_one (ps_if (pt_val (pe_u c_takes_chair hr (by omega) (by rfl) (pa_cons (pv 4) (pa_cons (pe_ix ix_list (pv 3) (pe_un un_neg pe_int) (fun _ _ => rfl)) (pa_cons (pv 1) pa_nil))))) (pss_cons (ps_expr (pe_bm PySem.F.plainAttrs_list PySem.F.slot_list_append PySem.F.type_list_append mt_append (pv 2) (pa_cons (pe_ix ix_list (pv 3) (pe_un un_neg pe_int) (fun _ _ => rfl)) pa_nil))) (pss_one (ps_expr (pe_bm PySem.F.plainAttrs_list PySem.F.slot_list_append PySem.F.type_list_append mt_append (pv 3) (pa_cons (pv 4) pa_nil))))) (pss_one (ps_expr (pe_bm PySem.F.plainAttrs_list PySem.F.slot_list_append PySem.F.type_list_append mt_append (pv 2) (pa_cons (pv 4) pa_nil))))))) 
      (pss_cons (ps_expr (pe_bm PySem.F.plainAttrs_list PySem.F.slot_list_append PySem.F.type_list_append mt_append (pv 2) (pa_cons (pe_ix ix_list (pv 3) (pe_un un_neg pe_int) (fun _ _ => rfl)) pa_nil))) 
      (pss_one (ps_ret (pe_tup (pa_cons (pv 2) (pa_cons (pv 3) pa_nil))))))))), ?_⟩
    refine ⟨Nat.zero_le _, fun l nl => ?_⟩
    have s1 : Same H (upd H l (.lst [])) := same_upd nl
    refine ⟨_, rfl, a, _, 0, .int x, rfl, rfl, s1.seq hS, atI_nat (j := 0) rfl, (by show 1 ≤ sizeLine; decide), fun e ne => ?_⟩
    have el : e ≠ l := fun z => by
      subst z
      rw [upd_same] at ne
      cases ne
    have ne0 : H e = none := by
      rw [upd_ne el] at ne
      exact ne
    have s2 : Same H (upd (upd H l (.lst [])) e (.lst [.int x])) := s1.trans (same_upd ne)
    refine ⟨_, rfl, 1, rfl, a, _, rfl, s2.seq hS, fun c nc => ?_⟩
    have s3 : Same H (upd (upd (upd H l (.lst [])) e (.lst [.int x])) c (.lst (cutV ((x :: xs).map V.int) (some 1) none))) := s2.trans (same_upd nc)
    have ec : cutV ((x :: xs).map V.int) (some 1) none = xs.map V.int := cut1
    have hl0 : (upd (upd H l (.lst [])) e (.lst [.int x])) l = some (.lst []) := by
      rw [upd_ne el.symm, upd_same]
    have lc : l ≠ c := ne_of_none hl0 nc
    have hc : e ≠ c := ne_of_none upd_same nc
    rw [ec] at s3 ⊢
    refine ⟨c, rfl, ⟨_, .inl (.inl upd_same)⟩, ?_⟩
    refine for_list (xs := xs.map V.int) (fun i σ H2 => ∃ y : Option V, σ = [some (.ref a), some (.str (ltr b)), some (.ref l), some (.ref e), y] ∧ Same H H2 ∧ H2 c = some (.lst (xs.map V.int)) ∧
        H2 l = some (.lst (((xs.take i).foldl (stepW b) ([], [], x)).1.map V.int)) ∧ H2 e = some (.lst (((xs.take i).foldl (stepW b) ([], [], x)).2.1.map V.int ++ [.int ((xs.take i).foldl (stepW b) ([], [], x)).2.2])))
      ⟨none, rfl, s3, upd_same, ?_, ?_⟩ (fun i σ H2 _ hI => ?_) (fun i v σ H2 hv hI => ?_) (fun σ H2 hI => ?_)
    · rw [upd_ne lc]
      exact hl0
    · rw [upd_ne hc, upd_same]
      rfl
    · obtain ⟨_, _, _, h3, _⟩ := hI
      exact .inl (.inl h3)
    · obtain ⟨y, rfl, sm, hC, hl, he⟩ := hI
      have lt : i < xs.length := by
        have := (List.getElem?_eq_some_iff.mp hv).1
        rw [List.length_map] at this
        exact this
      have ev : v = .int xs[i] := Option.some.inj (hv.symm.trans (getI lt))
      subst ev
      have ft := fold_take (f := stepW b) (z := (([], [], x) : List Int × List Int × Int)) (List.getElem?_eq_getElem lt)
      have ln := runW_len b (xs.take i) [] [] x
      generalize (xs.take i).foldl (stepW b) ([], [], x) = r at hl he ft ln
      rw [List.length_take, Nat.min_eq_left (Nat.le_of_lt lt), List.length_nil] at ln
      refine ⟨_, rfl, _, rfl, 1, rfl, e, _, -1, _, rfl, rfl, .inl (.inl he), atI_last _ _, _, rfl, xs[i], r.2.2, b, rfl, _, rfl, ?_⟩
      have lne : l ≠ e := el.symm
      have step : stepW b r xs[i] = (if takes b xs[i] r.2.2 = true then (r.1 ++ [r.2.2], r.2.1 ++ [r.2.2], xs[i]) else (r.1 ++ [xs[i]], r.2.1, r.2.2)) := rfl
      cases ht : takes b xs[i] r.2.2 with
      | true =>
        rw [ht, if_pos rfl] at step
        refine iteT ⟨_, rfl, .inl ⟨rfl, _, .inl (.inl hl)⟩, _, rfl, 1, rfl, e, _, -1, _, rfl, rfl, .inl (.inl he), atI_last _ _, l, _, _, rfl, rfl, hl, ?_, ?_⟩
        · rw [List.length_map]
          exact len_lt (by omega)
        · have he2 : (upd H2 l (.lst (r.1.map V.int ++ [.int r.2.2]))) e = some (.lst (r.2.1.map V.int ++ [.int r.2.2])) := by
            rw [upd_ne el]
            exact he
          refine ⟨_, rfl, .inl ⟨rfl, _, .inl (.inl he2)⟩, _, rfl, e, _, _, rfl, rfl, he2, ?_, _, rfl, fun u o eu => ?_, ?_, ?_, ?_⟩
          · rw [List.length_append, List.length_map]
            exact len_lt (by show _ + 1 ≤ _; omega)
          · rw [upd_ne (ne_of_none eu ne0), upd_ne (ne_of_none eu nl)]
            exact sm u o eu
          · rw [upd_ne hc.symm, upd_ne lc.symm]
            exact hC
          · rw [upd_ne lne, upd_same, ft, step, List.map_append]
            rfl
          · rw [upd_same, ft, step, List.map_append]
            rfl
      | false =>
        rw [ht, if_neg (by decide)] at step
        refine iteF ⟨_, rfl, .inl ⟨rfl, _, .inl (.inl hl)⟩, _, rfl, l, _, _, rfl, rfl, hl, ?_, _, rfl, fun u o eu => ?_, ?_, ?_, ?_⟩
        · rw [List.length_map]
          exact len_lt (by omega)
        · rw [upd_ne (ne_of_none eu nl)]
          exact sm u o eu
        · rw [upd_ne lc.symm]
          exact hC
        · rw [upd_same, ft, step, List.map_append]
          rfl
        · rw [upd_ne el, ft, step]
          exact he
    · obtain ⟨y, rfl, sm, hC, hl, he⟩ := hI
      rw [List.length_map, List.take_length] at hl he
      have ln := runW_len b xs [] [] x
      have eP : passL b (x :: xs) = (xs.foldl (stepW b) ([], [], x)).1 ++ [(xs.foldl (stepW b) ([], [], x)).2.2] := rfl
      have eS : seatL b (x :: xs) = (xs.foldl (stepW b) ([], [], x)).2.1 ++ [(xs.foldl (stepW b) ([], [], x)).2.2] := rfl
      unfold WalkR at q
      rw [eP, eS] at q
      generalize xs.foldl (stepW b) ([], [], x) = r at hl he q ln
      rw [List.length_nil] at ln
      refine ⟨_, rfl, .inl ⟨rfl, _, .inl (.inl hl)⟩, _, rfl, 1, rfl, e, _, -1, _, rfl, rfl, .inl (.inl he), atI_last _ _, l, _, _, rfl, rfl, hl, ?_, ?_⟩
      · rw [List.length_map]
        exact len_lt (by omega)
      · refine ⟨_, rfl, _, rfl, (by show 2 ≤ sizeLine; decide), fun t nt => ?_⟩
        have tl : t ≠ l := fun z => by
          subst z
          rw [upd_same] at nt
          cases nt
        rw [upd_ne tl] at nt
        have te : t ≠ e := fun z => by
          subst z
          rw [he] at nt
          cases nt
        refine q t l e _ (fun u o eu => ?_) (sm.free nt) nl ne0 tl te el.symm upd_same ?_ ?_
        · rw [upd_ne (ne_of_none eu (sm.free nt)), upd_ne (ne_of_none eu nl)]
          exact sm u o eu
        · rw [upd_ne tl.symm, upd_same, List.map_append]
          rfl
        · rw [upd_ne te.symm, upd_ne el, List.map_append]
          exact he
def spWalkT (K : PySem.W.Frag) : Sp := fun vs H Q _ => ∃ (a : Addr) (ns : List Int) (b : Bool), vs = [.ref a, .str (ltr b)] ∧ SqT K H a (ns.map V.int) ∧ 1 ≤ ns.length ∧ ns.length ≤ 12 ∧ WalkR Q H b ns
theorem ok_walkT (D : Df K mg "walk" s_walk) (c_takes_chair : Cl P w K mg base 1 "takes_chair" s_takes_chair ["person", "sitter", "kind"] spTakes) : Cl P w K mg base 2 "walk" s_walk ["people", "kind"] (spWalkT K) := by
  refine D.ok sc_walk (fun _ _ _ _ _ _ us hl => match us, hl with | [_, _], _ => rfl) (fun vs H Q E h => ?_) (fun f cdv A outer s H vs Q E hr h => ?_)
  · obtain ⟨a, ns, b, rfl, _⟩ := h
    rfl
  · obtain ⟨a, ns, b, rfl, hS, h1, h2, q⟩ := h
    obtain ⟨x, xs, rfl⟩ : ∃ x xs, ns = x :: xs := by
      cases ns with
      | nil => exact absurd h1 (by decide)
      | cons x xs => exact ⟨x, xs, rfl⟩
    rw [List.length_cons] at h2
    refine ⟨_, 
      (pss_cons (ps_set (i := 2) sc_walk.nd rfl (Or.inl rfl) (pe_lst pa_nil)) 
      (pss_cons (ps_set (i := 3) sc_walk.nd rfl (Or.inl rfl) (pe_lst (pa_cons (pe_ix ix_tup (pv 0) pe_int (fun _ _ => rfl)) pa_nil))) 
      (pss_cons (ps_for PassesOwn.never rfl (pi_tup (pe_slice sl_tup (pv 0) (po_some pe_int) po_none)) (pg_name (i := 4) sc_walk.nd rfl (Or.inl rfl)) (pss_one (ps_if (pt_val (pe_u c_takes_chair hr (by omega) (by rfl) (pa_cons (pv 4) (pa_cons (pe_ix ix_list (pv 3) (pe_un un_neg pe_int) (fun _ _ => rfl)) (pa_cons (pv 1) pa_nil))))) (pss_cons (ps_expr (pe_bm PySem.F.plainAttrs_list PySem.F.slot_list_append PySem.F.type_list_append mt_append (pv 2) (pa_cons (pe_ix ix_list (pv 3) (pe_un un_neg pe_int) (fun _ _ => rfl)) pa_nil))) (pss_one (ps_expr (pe_bm PySem.F.plainAttrs_list PySem.F.slot_list_append PySem.F.type_list_append mt_append (pv 3) (pa_cons (pv 4) pa_nil))))) (pss_one (ps_expr (pe_bm PySem.F.plainAttrs_list PySem.F.slot_list_append PySem.F.type_list_append mt_append (pv 2) (pa_cons (pv 4) pa_nil))))))) 
      (pss_cons (ps_expr (pe_bm PySem.F.plainAttrs_list PySem.F.slot_list_append PySem.F.type_list_append mt_append (pv 2) (pa_cons (pe_ix ix_list (pv 3) (pe_un un_neg pe_int) (fun _ _ => rfl)) pa_nil))) 
      (pss_one (ps_ret (pe_tup (pa_cons (pv 2) (pa_cons (pv 3) pa_nil))))))))), ?_⟩
    refine ⟨Nat.zero_le _, fun l nl => ?_⟩
    have s1 : Same H (upd H l (.lst [])) := same_upd nl
    refine ⟨_, rfl, a, _, 0, .int x, rfl, rfl, SqT.same s1 hS, atI_nat (j := 0) rfl, (by show 1 ≤ sizeLine; decide), fun e ne => ?_⟩
    have el : e ≠ l := fun z => by
      subst z
      rw [upd_same] at ne
      cases ne
    have ne0 : H e = none := by
      rw [upd_ne el] at ne
      exact ne
    have s2 : Same H (upd (upd H l (.lst [])) e (.lst [.int x])) := s1.trans (same_upd ne)
    refine ⟨_, rfl, 1, rfl, a, _, rfl, SqT.same s2 hS, (fun z => absurd z.1 (nw1 (by rw [List.length_map]; exact h1))), fun c nc => ?_⟩
    have s3 : Same H (upd (upd (upd H l (.lst [])) e (.lst [.int x])) c (.tup (cutV ((x :: xs).map V.int) (some 1) none))) := s2.trans (same_upd nc)
    have ec : cutV ((x :: xs).map V.int) (some 1) none = xs.map V.int := cut1
    have hl0 : (upd (upd H l (.lst [])) e (.lst [.int x])) l = some (.lst []) := by
      rw [upd_ne el.symm, upd_same]
    have lc : l ≠ c := ne_of_none hl0 nc
    have hc : e ≠ c := ne_of_none upd_same nc
    rw [ec] at s3 ⊢
    refine ⟨c, rfl, ⟨_, .inl (.inl upd_same)⟩, ?_⟩
    refine for_tup (xs := xs.map V.int) (fun i σ H2 => ∃ y : Option V, σ = [some (.ref a), some (.str (ltr b)), some (.ref l), some (.ref e), y] ∧ Same H H2 ∧ H2 c = some (.tup (xs.map V.int)) ∧
        H2 l = some (.lst (((xs.take i).foldl (stepW b) ([], [], x)).1.map V.int)) ∧ H2 e = some (.lst (((xs.take i).foldl (stepW b) ([], [], x)).2.1.map V.int ++ [.int ((xs.take i).foldl (stepW b) ([], [], x)).2.2])))
      ⟨none, rfl, s3, upd_same, ?_, ?_⟩ (fun i σ H2 _ hI => ?_) (fun i v σ H2 hv hI => ?_) (fun σ H2 hI => ?_)
    · rw [upd_ne lc]
      exact hl0
    · rw [upd_ne hc, upd_same]
      rfl
    · obtain ⟨_, _, _, h3, _⟩ := hI
      exact .inl (.inl h3)
    · obtain ⟨y, rfl, sm, hC, hl, he⟩ := hI
      have lt : i < xs.length := by
        have := (List.getElem?_eq_some_iff.mp hv).1
        rw [List.length_map] at this
        exact this
      have ev : v = .int xs[i] := Option.some.inj (hv.symm.trans (getI lt))
      subst ev
      have ft := fold_take (f := stepW b) (z := (([], [], x) : List Int × List Int × Int)) (List.getElem?_eq_getElem lt)
      have ln := runW_len b (xs.take i) [] [] x
      generalize (xs.take i).foldl (stepW b) ([], [], x) = r at hl he ft ln
      rw [List.length_take, Nat.min_eq_left (Nat.le_of_lt lt), List.length_nil] at ln
      refine ⟨_, rfl, _, rfl, 1, rfl, e, _, -1, _, rfl, rfl, .inl (.inl he), atI_last _ _, _, rfl, xs[i], r.2.2, b, rfl, _, rfl, ?_⟩
      have lne : l ≠ e := el.symm
      have step : stepW b r xs[i] = (if takes b xs[i] r.2.2 = true then (r.1 ++ [r.2.2], r.2.1 ++ [r.2.2], xs[i]) else (r.1 ++ [xs[i]], r.2.1, r.2.2)) := rfl
      cases ht : takes b xs[i] r.2.2 with
      | true =>
        rw [ht, if_pos rfl] at step
        refine iteT ⟨_, rfl, .inl ⟨rfl, _, .inl (.inl hl)⟩, _, rfl, 1, rfl, e, _, -1, _, rfl, rfl, .inl (.inl he), atI_last _ _, l, _, _, rfl, rfl, hl, ?_, ?_⟩
        · rw [List.length_map]
          exact len_lt (by omega)
        · have he2 : (upd H2 l (.lst (r.1.map V.int ++ [.int r.2.2]))) e = some (.lst (r.2.1.map V.int ++ [.int r.2.2])) := by
            rw [upd_ne el]
            exact he
          refine ⟨_, rfl, .inl ⟨rfl, _, .inl (.inl he2)⟩, _, rfl, e, _, _, rfl, rfl, he2, ?_, _, rfl, fun u o eu => ?_, ?_, ?_, ?_⟩
          · rw [List.length_append, List.length_map]
            exact len_lt (by show _ + 1 ≤ _; omega)
          · rw [upd_ne (ne_of_none eu ne0), upd_ne (ne_of_none eu nl)]
            exact sm u o eu
          · rw [upd_ne hc.symm, upd_ne lc.symm]
            exact hC
          · rw [upd_ne lne, upd_same, ft, step, List.map_append]
            rfl
          · rw [upd_same, ft, step, List.map_append]
            rfl
      | false =>
        rw [ht, if_neg (by decide)] at step
        refine iteF ⟨_, rfl, .inl ⟨rfl, _, .inl (.inl hl)⟩, _, rfl, l, _, _, rfl, rfl, hl, ?_, _, rfl, fun u o eu => ?_, ?_, ?_, ?_⟩
        · rw [List.length_map]
          exact len_lt (by omega)
        · rw [upd_ne (ne_of_none eu nl)]
          exact sm u o eu
        · rw [upd_ne lc.symm]
          exact hC
        · rw [upd_same, ft, step, List.map_append]
          rfl
        · rw [upd_ne el, ft, step]
          exact he
    · obtain ⟨y, rfl, sm, hC, hl, he⟩ := hI
      rw [List.length_map, List.take_length] at hl he
      have ln := runW_len b xs [] [] x
      have eP : passL b (x :: xs) = (xs.foldl (stepW b) ([], [], x)).1 ++ [(xs.foldl (stepW b) ([], [], x)).2.2] := rfl
      have eS : seatL b (x :: xs) = (xs.foldl (stepW b) ([], [], x)).2.1 ++ [(xs.foldl (stepW b) ([], [], x)).2.2] := rfl
      unfold WalkR at q
      rw [eP, eS] at q
      generalize xs.foldl (stepW b) ([], [], x) = r at hl he q ln
      rw [List.length_nil] at ln
      refine ⟨_, rfl, .inl ⟨rfl, _, .inl (.inl hl)⟩, _, rfl, 1, rfl, e, _, -1, _, rfl, rfl, .inl (.inl he), atI_last _ _, l, _, _, rfl, rfl, hl, ?_, ?_⟩
      · rw [List.length_map]
        exact len_lt (by omega)
      · refine ⟨_, rfl, _, rfl, (by show 2 ≤ sizeLine; decide), fun t nt => ?_⟩
        have tl : t ≠ l := fun z => by
          subst z
          rw [upd_same] at nt
          cases nt
        rw [upd_ne tl] at nt
        have te : t ≠ e := fun z => by
          subst z
          rw [he] at nt
          cases nt
        refine q t l e _ (fun u o eu => ?_) (sm.free nt) nl ne0 tl te el.symm upd_same ?_ ?_
        · rw [upd_ne (ne_of_none eu (sm.free nt)), upd_ne (ne_of_none eu nl)]
          exact sm u o eu
        · rw [upd_ne tl.symm, upd_same, List.map_append]
          rfl
        · rw [upd_ne te.symm, upd_ne el, List.map_append]
          exact he
/-! ### one pass -/
abbrev s_single_pass : Stmt := top 24
abbrev N_single_pass : List Str := ["row", "kind", "left", "seated"]
theorem sc_single_pass : FnScope N_single_pass ["row", "kind"] (defScope s_single_pass) := ⟨rfl, rfl, rfl, by decide +kernel, rfl, by decide +kernel, by decide +kernel⟩
def spSingle (K : PySem.W.Frag) : Sp := fun vs H Q _ => ∃ (a : Addr) (ns : List Int) (b : Bool), vs = [.ref a, .str (ltr b)] ∧ SqT K H a (ns.map V.int) ∧ Row ns ∧
  ∀ (p : Addr) (H' : Hp), Same H H' → H p = none → H' p = some (.tup ((passL b ns).map V.int)) → Q (.ref p) H'
theorem ok_single (D : Df K mg "single_pass" s_single_pass) (c_check_row : Cl P w K mg base 5 "check_row" s_check_row ["row"] (spCheckRow K)) (c_check_kind : Cl P w K mg base 2 "check_kind" s_check_kind ["kind"] spCheckKind)
    (c_walkT : Cl P w K mg base 2 "walk" s_walk ["people", "kind"] (spWalkT K)) (m_tuple : mg "tuple" = none) : Cl P w K mg base 6 "single_pass" s_single_pass ["row", "kind"] (spSingle K) := by
  refine D.ok sc_single_pass (fun _ _ _ _ _ _ us hl => match us, hl with | [_, _], _ => rfl) (fun vs H Q E h => ?_) (fun f cdv A outer s H vs Q E hr h => ?_)
  · obtain ⟨a, ns, b, rfl, _⟩ := h
    rfl
  · obtain ⟨a, ns, b, rfl, hS, hrow, q⟩ := h
    refine ⟨_, 
      (pss_cons (ps_expr (pe_u c_check_row hr (by omega) (by rfl) (pa_cons (pv 0) pa_nil))) 
      (pss_cons (ps_expr (pe_u c_check_kind hr (by omega) (by rfl) (pa_cons (pv 1) pa_nil))) 
      (pss_cons (ps_asg (pe_u c_walkT hr (by omega) (by rfl) (pa_cons (pv 0) (pa_cons (pv 1) pa_nil))) (pg_tup (by rfl) (pgs_cons (pg_name (i := 2) sc_single_pass.nd rfl (Or.inl rfl)) (pgs_cons (pg_name (i := 3) sc_single_pass.nd rfl (Or.inl rfl)) pgs_nil)))) 
      (pss_one (ps_ret (pe_callTy call_tuple_of (by rfl) m_tuple (by decide +kernel) (pa_cons (pv 2) pa_nil))))))), ?_⟩
    refine ⟨_, rfl, a, ns, rfl, hS, hrow, fun H1 s1 => ?_⟩
    refine ⟨_, rfl, b, rfl, _, rfl, _, rfl, a, ns, b, rfl, SqT.same s1 hS, hrow.pos, hrow.most, fun t l e H2 s2 nt nl ne tl te le ht hl he => ?_⟩
    refine ⟨t, _, rfl, .inl (.inl ht), rfl, _, _, rfl, _, _, rfl, rfl, _, rfl, l, _, rfl, .inl ⟨.inl (.inl hl), fun p np => ?_⟩⟩
    exact q p _ ((s1.trans s2).trans (same_upd np)) ((s1.trans s2).free np) upd_same
end
section
variable {P : Program} {w : World} {K : PySem.W.Frag} {mg : Str → Option Value} {base : Heap}
/-! ### words -/
abbrev s_may_be_word : Stmt := top 19
abbrev N_may_be_word : List Str := ["value"]
theorem sc_may_be_word : FnScope N_may_be_word ["value"] (defScope s_may_be_word) := ⟨rfl, rfl, rfl, by decide +kernel, rfl, by decide +kernel, by decide +kernel⟩
def spMayW : Sp := fun vs H Q _ => ∃ z : Str, vs = [.str z] ∧ z.length ≤ sizeLine ∧ Q (.bl (decide (z.length ≤ 400))) H
theorem ok_mayw (D : Df K mg "may_be_word" s_may_be_word) (m_isinstance : mg "isinstance" = none) (m_str : mg "str" = none) (m_len : mg "len" = none) {tg : Tok} (g_MOST_LETTERS : mg "MOST_LETTERS" = some (.int 400 tg)) :
    Cl P w K mg base 1 "may_be_word" s_may_be_word ["value"] spMayW := by
  refine D.ok sc_may_be_word (fun _ _ _ _ _ _ us hl => match us, hl with | [_], _ => rfl) (fun vs H Q E h => ?_) (fun f cdv A outer s H vs Q E hr h => ?_)
  · obtain ⟨z, rfl, _⟩ := h
    rfl
  · obtain ⟨z, rfl, sz, q⟩ := h
    refine ⟨_, 
      (pss_one (ps_ret (pe_and (pe_callB call_isi (by rfl) m_isinstance (by decide +kernel) (pa_cons (pv 0) (pa_cons (pe_bltn (v := .ty "str") (by rfl) m_str (by decide +kernel) rfl) pa_nil))) (pe_one (pe_cmpR op_le (pe_callB call_len_str (by rfl) m_len (by decide +kernel) (pa_cons (pv 0) pa_nil)) (pe_glob (v := .int 400) (by rfl) g_MOST_LETTERS ⟨_, rfl⟩) (nomark _)))))), ?_⟩
    refine ⟨_, rfl, .str z, .ty "str", .type "str", .type "str", _, rfl, .ty _, .base (.str _), kit_str (T := "str") (by decide), _, rfl, iteT ⟨_, rfl, _, rfl, sz, _, _, rfl, rfl, ?_⟩⟩
    show Q (.bl (decide ((z.length : Int) ≤ 400))) H
    rw [show decide ((z.length : Int) ≤ 400) = decide (z.length ≤ 400) from decide_eq_decide.mpr (by omega)]
    exact q
abbrev s_wrong_letter : Stmt := top 20
abbrev N_wrong_letter : List Str := ["word", "index", "letter"]
theorem sc_wrong_letter : FnScope N_wrong_letter ["word"] (defScope s_wrong_letter) := ⟨rfl, rfl, rfl, by decide +kernel, rfl, by decide +kernel, by decide +kernel⟩
def spWrongL : Sp := fun vs H Q _ => ∃ bs : List Bool, vs = [.str (wd bs)] ∧ ∀ H', Same H H' → Q .non H'
theorem ok_wrongl (D : Df K mg "wrong_letter" s_wrong_letter) (c_is_kind : Cl P w K mg base 1 "is_kind" s_is_kind ["value"] (spIsKind K)) (m_enumerate : mg "enumerate" = none) :
    Cl P w K mg base 2 "wrong_letter" s_wrong_letter ["word"] spWrongL := by
  refine D.ok sc_wrong_letter (fun _ _ _ _ _ _ us hl => match us, hl with | [_], _ => rfl) (fun vs H Q E h => ?_) (fun f cdv A outer s H vs Q E hr h => ?_)
  · obtain ⟨bs, rfl, _⟩ := h
    rfl
  · obtain ⟨bs, rfl, q⟩ := h
    refine ⟨_, 
      (pss_cons (ps_for PassesOwn.never rfl (pi_enumS (by rfl) m_enumerate (pa_cons (pv 0) pa_nil)) (pg_tup (by rfl) (pgs_cons (pg_name (i := 1) sc_wrong_letter.nd rfl (Or.inl rfl)) (pgs_cons (pg_name (i := 2) sc_wrong_letter.nd rfl (Or.inl rfl)) pgs_nil))) (pss_one (ps_if (pt_not (pt_val (pe_u c_is_kind hr (by omega) (by rfl) (pa_cons (pv 2) pa_nil)))) (pss_one (ps_ret (pv 1))) pss_nil))) 
      (pss_one (ps_ret pe_non))), ?_⟩
    refine ⟨_, rfl, _, rfl, ?_⟩
    refine walk_enumS (fun i σ H2 => ∃ y1 y2 : Option V, σ = [some (.str (wd bs)), y1, y2] ∧ Same H H2) ⟨none, none, rfl, Same.refl H⟩ (fun i c T σ H2 hc hI nT => ?_) (fun σ H2 hI => ?_)
    · obtain ⟨y1, y2, rfl, sm⟩ := hI
      obtain ⟨b, _, rfl⟩ := wd_get hc
      refine ⟨T, _, rfl, .inl (.inl upd_same), rfl, _, _, rfl, _, _, rfl, rfl, _, rfl, .inr ⟨_, rfl, _, rfl, ?_⟩⟩
      rw [kindB_ltr]
      exact iteF ⟨_, _, rfl, sm.trans (same_upd nT)⟩
    · obtain ⟨y1, y2, rfl, sm⟩ := hI
      exact q _ sm
abbrev s_check_word : Stmt := top 21
abbrev N_check_word : List Str := ["word", "index"]
theorem sc_check_word : FnScope N_check_word ["word"] (defScope s_check_word) := ⟨rfl, rfl, rfl, by decide +kernel, rfl, by decide +kernel, by decide +kernel⟩
def spCheckWord : Sp := fun vs H Q _ => ∃ bs : List Bool, vs = [.str (wd bs)] ∧ bs.length ≤ 400 ∧ ∀ H', Same H H' → Q .non H'
theorem ok_check_word (D : Df K mg "check_word" s_check_word) (c_may_be_word : Cl P w K mg base 1 "may_be_word" s_may_be_word ["value"] spMayW) (c_wrong_letter : Cl P w K mg base 2 "wrong_letter" s_wrong_letter ["word"] spWrongL) :
    Cl P w K mg base 3 "check_word" s_check_word ["word"] spCheckWord := by
  refine D.ok sc_check_word (fun _ _ _ _ _ _ us hl => match us, hl with | [_], _ => rfl) (fun vs H Q E h => ?_) (fun f cdv A outer s H vs Q E hr h => ?_)
  · obtain ⟨bs, rfl, _⟩ := h
    rfl
  · obtain ⟨bs, rfl, hl, q⟩ := h
    refine ⟨_, 
      (pss_cons (ps_if (pt_not (pt_val (pe_u c_may_be_word hr (by omega) (by rfl) (pa_cons (pv 0) pa_nil)))) (pss_one ps_never) pss_nil) 
      (pss_cons (ps_set (i := 1) sc_check_word.nd rfl (Or.inl rfl) (pe_u c_wrong_letter hr (by omega) (by rfl) (pa_cons (pv 0) pa_nil))) 
      (pss_one (ps_if (pt_cmpR op_notN (pv 1) pe_non (nomark _)) (pss_one ps_never) pss_nil)))), ?_⟩
    have sz : (wd bs).length ≤ sizeLine := by
      rw [wd_len]
      exact Nat.le_of_lt (len_lt (by omega))
    refine ⟨_, rfl, _, rfl, sz, _, rfl, ?_⟩
    rw [decide_eq_true (by rw [wd_len]; omega)]
    refine iteF ⟨_, rfl, bs, rfl, fun H' sm => ?_⟩
    refine ⟨_, rfl, rfl, _, rfl, ?_⟩
    rw [decide_eq_true rfl]
    exact iteF (q H' sm)
end
section
variable {P : Program} {w : World} {K : PySem.W.Frag} {mg : Str → Option Value} {base : Heap}
/-! ### words -/
abbrev s_after : Stmt := top 25
abbrev N_after : List Str := ["row", "word", "people", "kind", "seated"]
theorem sc_after : FnScope N_after ["row", "word"] (defScope s_after) := ⟨rfl, rfl, rfl, by decide +kernel, rfl, by decide +kernel, by decide +kernel⟩
def spAfter (K : PySem.W.Frag) : Sp := fun vs H Q _ => ∃ (a : Addr) (ns : List Int) (bs : List Bool), vs = [.ref a, .str (wd bs)] ∧ SqT K H a (ns.map V.int) ∧ Row ns ∧ bs.length ≤ 400 ∧
  ∀ (p : Addr) (H' : Hp), Same H H' → H p = none → H' p = some (.tup ((afterL bs ns).map V.int)) → Q (.ref p) H'
theorem ok_after (D : Df K mg "after" s_after) (c_check_row : Cl P w K mg base 5 "check_row" s_check_row ["row"] (spCheckRow K)) (c_check_word : Cl P w K mg base 3 "check_word" s_check_word ["word"] spCheckWord)
    (c_walkL : Cl P w K mg base 2 "walk" s_walk ["people", "kind"] (spWalkL K)) (m_tuple : mg "tuple" = none) (m_list : mg "list" = none) : Cl P w K mg base 6 "after" s_after ["row", "word"] (spAfter K) := by
  refine D.ok sc_after (fun _ _ _ _ _ _ us hl => match us, hl with | [_, _], _ => rfl) (fun vs H Q E h => ?_) (fun f cdv A outer s H vs Q E hr h => ?_)
  · obtain ⟨a, ns, bs, rfl, _⟩ := h
    rfl
  · obtain ⟨a, ns, bs, rfl, hS, hrow, hl, q⟩ := h
    refine ⟨_, 
      (pss_cons (ps_expr (pe_u c_check_row hr (by omega) (by rfl) (pa_cons (pv 0) pa_nil))) 
      (pss_cons (ps_expr (pe_u c_check_word hr (by omega) (by rfl) (pa_cons (pv 1) pa_nil))) 
      (pss_cons (ps_set (i := 2) sc_after.nd rfl (Or.inl rfl) (pe_callTy call_list_of (by rfl) m_list (by decide +kernel) (pa_cons (pv 0) pa_nil))) 
      (pss_cons (ps_for PassesOwn.never rfl (pi_str (pv 1)) (pg_name (i := 3) sc_after.nd rfl (Or.inl rfl)) (pss_one (ps_asg (pe_u c_walkL hr (by omega) (by rfl) (pa_cons (pv 2) (pa_cons (pv 3) pa_nil))) (pg_tup (by rfl) (pgs_cons (pg_name (i := 2) sc_after.nd rfl (Or.inl rfl)) (pgs_cons (pg_name (i := 4) sc_after.nd rfl (Or.inl rfl)) pgs_nil)))))) 
      (pss_one (ps_ret (pe_callTy call_tuple_of (by rfl) m_tuple (by decide +kernel) (pa_cons (pv 2) pa_nil)))))))), ?_⟩
    refine ⟨_, rfl, a, ns, rfl, hS, hrow, fun H1 s1 => ?_⟩
    refine ⟨_, rfl, bs, rfl, hl, fun H2 s2 => ?_⟩
    have s12 := s1.trans s2
    refine ⟨_, rfl, a, _, rfl, .inr (SqT.same s12 hS), fun p np => ?_⟩
    refine ⟨_, rfl, _, rfl, ?_⟩
    refine for_it walk_str (fun i σ H3 => ∃ (y3 y4 : Option V) (p : Addr), σ = [some (.ref a), some (.str (wd bs)), some (.ref p), y3, y4] ∧ Same H H3 ∧ H p = none ∧ H3 p = some (.lst ((afterL (bs.take i) ns).map V.int)))
      ⟨none, none, p, rfl, s12.trans (same_upd np), s12.free np, ?_⟩ (fun _ _ _ _ _ => trivial) (fun i v σ H3 H4 hi hI hv => ?_) (fun σ H3 hI => ?_)
    · rw [upd_same]
      rfl
    · obtain ⟨y3, y4, p, rfl, sm, fp, hp⟩ := hI
      obtain ⟨rfl, c, hc, rfl⟩ := hv
      obtain ⟨b, hb, rfl⟩ := wd_get hc
      have rw0 : Row (afterL (bs.take i) ns) := hrow.after _
      refine ⟨_, rfl, _, rfl, p, _, b, rfl, .inl (.inl hp), rw0.pos, rw0.most, fun t l e H5 s5 nt nl ne tl te le ht hl5 he => ?_⟩
      refine ⟨t, _, rfl, .inl (.inl ht), rfl, _, _, rfl, _, _, rfl, rfl, _, _, l, rfl, sm.trans s5, sm.free nl, ?_⟩
      rw [afterL_take hb]
      exact hl5
    · obtain ⟨y3, y4, p, rfl, sm, fp, hp⟩ := hI
      have et : bs.take (wd bs).cps.size = bs := List.take_of_length_le (Nat.le_of_eq (wd_len bs).symm)
      rw [et] at hp
      exact ⟨_, rfl, p, _, rfl, .inl ⟨.inl (.inl hp), fun r nr => q r _ (sm.trans (same_upd nr)) (sm.free nr) upd_same⟩⟩
end
section
variable {P : Program} {w : World} {K : PySem.W.Frag} {mg : Str → Option Value} {base : Heap}
/-! ### a drawn word -/
abbrev s__law_word : Stmt := top 32
abbrev N__law_word : List Str := ["_law_pool_here", "_law_most", "_law_size", "_law_stretch", "_law_found"]
theorem sc__law_word : FnScope N__law_word ["_law_pool_here", "_law_most"] (defScope s__law_word) := ⟨rfl, rfl, rfl, by decide +kernel, rfl, by decide +kernel, by decide +kernel⟩
def spWord : Sp := fun vs H Q _ => ∃ (a : Addr) (m : Int), vs = [.ref a, .int m] ∧ 0 ≤ m ∧ m ≤ 1000 ∧ Pool H a ∧ ∀ (bs : List Bool) (H' : Hp), Kp a H H' → Pool H' a → (bs.length : Int) ≤ m → Q (.str (wd bs)) H'
theorem atST (d : Int) (h0 : 0 ≤ d) (h1 : d < 2) : atI (Str.ofString "ST").cps.toList d = some (code (decide (d = 1))) := by
  have h : d = 0 ∨ d = 1 := by omega
  rcases h with rfl | rfl <;> decide +kernel
theorem ok_word (D : Df K mg "_law_word" s__law_word) (c__law_draw : Cl P w K mg base 1 "_law_draw" s__law_draw ["_law_pool_here", "_law_count"] spDraw) (m_len : mg "len" = none) : Cl P w K mg base 2 "_law_word" s__law_word ["_law_pool_here", "_law_most"] spWord := by
  refine D.ok sc__law_word (fun _ _ _ _ _ _ us hl => match us, hl with | [_, _], _ => rfl) (fun vs H Q E h => ?_) (fun f cdv A outer s H vs Q E hr h => ?_)
  · obtain ⟨a, m, rfl, _⟩ := h
    rfl
  · obtain ⟨a, m, rfl, m0, m1, hp, q⟩ := h
    refine ⟨_, 
      (pss_cons (ps_par3 (i := 2) (j := 3) (l := 4) (by rfl) sc__law_word.nd rfl rfl rfl (by decide) (by decide) (by decide) rfl rfl rfl (pa_cons (pe_u c__law_draw hr (by omega) (by rfl) (pa_cons (pv 0) (pa_cons (pe_op op_add (pv 1) pe_int) pa_nil))) (pa_cons (pe_op op_add pe_int (pe_u c__law_draw hr (by omega) (by rfl) (pa_cons (pv 0) (pa_cons pe_int pa_nil)))) (pa_cons pe_str pa_nil))) (by rfl)) 
      (pss_cons (ps_while PassesOwn.never (pt_cmpR op_lt (pe_callB call_len_str (by rfl) m_len (by decide +kernel) (pa_cons (pv 4) pa_nil)) (pv 2) (nomark _)) (pss_one (ps_set (i := 4) sc__law_word.nd rfl (Or.inl rfl) (pe_op op_add_str (pv 4) (pe_op op_mul_str (pe_ix ix_str pe_str (pe_u c__law_draw hr (by omega) (by rfl) (pa_cons (pv 0) (pa_cons pe_int pa_nil))) (fun _ _ => rfl)) (pe_op op_add pe_int (pe_u c__law_draw hr (by omega) (by rfl) (pa_cons (pv 0) (pa_cons (pv 3) pa_nil))))))))) 
      (pss_one (ps_ret (pe_slice sl_str (pv 4) po_none (po_some (pv 2))))))), ?_⟩
    refine ⟨_, rfl, _, rfl, _, _, rfl, rfl, a, _, rfl, by omega, by omega, hp, fun d H1 d0 d1 k1 p1 => ?_⟩
    refine ⟨_, rfl, a, 3, rfl, by decide, by decide, p1, fun e H2 e0 e1 k2 p2 => ?_⟩
    refine ⟨_, _, rfl, rfl, _, _, _, rfl, ?_⟩
    obtain ⟨n, rfl⟩ : ∃ n : Nat, d = (n : Nat) := ⟨d.toNat, by omega⟩
    refine while_by (fun σ H3 => ∃ bs : List Bool, σ = [some (.ref a), some (.int m), some (.int (n : Nat)), some (.int (1 + e)), some (.str (wd bs))] ∧ bs.length ≤ 2000 ∧ Kp a H H3 ∧ Pool H3 a)
      (fun σ _ => match σ with | [_, _, _, _, some (.str z)] => n - z.length | _ => 0) ⟨[], rfl, Nat.zero_le _, k1.trans k2, p2⟩ (fun σ H3 hI => ?_) (fun σ H3 Q1 Q2 hq hc => ?_)
    · obtain ⟨bs, rfl, hb, k3, p3⟩ := hI
      have sz : (wd bs).length ≤ sizeLine := by
        rw [wd_len]
        exact Nat.le_of_lt (len_lt (by omega))
      refine ⟨_, rfl, _, rfl, sz, _, rfl, _, _, rfl, rfl, _, rfl, ?_⟩
      rw [show decide ((((wd bs).length : Nat) : Int) < ((n : Nat) : Int)) = decide (bs.length < n) from decide_eq_decide.mpr (by rw [wd_len]; omega)]
      by_cases hlt : bs.length < n
      · rw [decide_eq_true hlt]
        refine iteT ⟨_, rfl, _, rfl, a, 2, rfl, by decide, by decide, p3, fun c H4 c0 c1 k4 p4 => ?_⟩
        refine ⟨_, c, _, rfl, rfl, (by decide +kernel), atST c c0 c1, ?_⟩
        refine ⟨_, rfl, _, rfl, a, _, rfl, by omega, by omega, p4, fun g H5 g0 g1 k5 p5 => ?_⟩
        refine ⟨_, _, rfl, rfl, _, _, rfl, rfl, by omega, by omega, (by show 1 ≤ 1000; decide), ?_⟩
        obtain ⟨j, rfl⟩ : ∃ j : Nat, g = (j : Nat) := ⟨g.toNat, by omega⟩
        have em : Txt.mul (ltr (decide (c = 1))) (1 + (j : Nat)) = wd (List.replicate (j + 1) (decide (c = 1))) := by
          rw [← mul_ltr]
          congr 1
          omega
        rw [em]
        refine ⟨_, _, rfl, rfl, ?_, ?_⟩
        · rw [wd_len, wd_len, List.length_replicate]
          exact Nat.le_of_lt (len_lt (by omega))
        · rw [wd_app]
          refine ⟨⟨bs ++ List.replicate (j + 1) (decide (c = 1)), rfl, ?_, (k3.trans k4).trans k5, p5⟩, ?_⟩
          · rw [List.length_append, List.length_replicate]
            omega
          · show n - (wd (bs ++ List.replicate (j + 1) (decide (c = 1)))).length < n - (wd bs).length
            rw [wd_len, wd_len, List.length_append, List.length_replicate]
            omega
      · rw [decide_eq_false hlt]
        refine iteF ⟨_, rfl, _, rfl, _, rfl, _, rfl, sz, ?_⟩
        rw [cutS_take]
        refine q (bs.take n) _ k3 p3 ?_
        rw [List.length_take]
        omega
    · obtain ⟨v, hv, z, hz, hs, v2, hv2, i, j, e1, e2, k, ek, r⟩ := hc
      exact ⟨v, hv, z, hz, hs, v2, hv2, i, j, e1, e2, k, ek, hq _ _ r⟩
end
section
variable {P : Program} {w : World} {K : PySem.W.Frag} {mg : Str → Option Value} {base : Heap}
/-! ### the law's own question -/
abbrev s__law_right : Stmt := top 33
abbrev N__law_right : List Str := ["_law_pool_here", "_law_line", "_law_one", "_law_two", "_law_three", "_law_behind", "_law_letter"]
theorem sc__law_right : FnScope N__law_right ["_law_pool_here"] (defScope s__law_right) := ⟨rfl, rfl, rfl, by decide +kernel, rfl, by decide +kernel, by decide +kernel⟩
def spRight : Sp := fun vs H Q _ => ∃ a : Addr, vs = [.ref a] ∧ Pool H a ∧ ∀ H', Kp a H H' → Q (.bl true) H'
theorem ok_right (D : Df K mg "_law_right" s__law_right) (c__law_row : Cl P w K mg base 3 "_law_row" s__law_row ["_law_pool_here", "_law_least", "_law_most"] spRow) (c__law_word : Cl P w K mg base 2 "_law_word" s__law_word ["_law_pool_here", "_law_most"] spWord)
    (c_after : Cl P w K mg base 6 "after" s_after ["row", "word"] (spAfter K)) (c_single_pass : Cl P w K mg base 6 "single_pass" s_single_pass ["row", "kind"] (spSingle K)) : Cl P w K mg base 7 "_law_right" s__law_right ["_law_pool_here"] spRight := by
  refine D.ok sc__law_right (fun _ _ _ _ _ _ us hl => match us, hl with | [_], _ => rfl) (fun vs H Q E h => ?_) (fun f cdv A outer s H vs Q E hr h => ?_)
  · obtain ⟨a, rfl, _⟩ := h
    rfl
  · obtain ⟨a, rfl, hp, q⟩ := h
    refine ⟨_, 
      (pss_cons (ps_set (i := 1) sc__law_right.nd rfl (Or.inl rfl) (pe_u c__law_row hr (by omega) (by rfl) (pa_cons (pv 0) (pa_cons pe_int (pa_cons pe_int pa_nil))))) 
      (pss_cons (ps_par3 (i := 2) (j := 3) (l := 4) (by rfl) sc__law_right.nd rfl rfl rfl (by decide) (by decide) (by decide) rfl rfl rfl (pa_cons (pe_u c__law_word hr (by omega) (by rfl) (pa_cons (pv 0) (pa_cons pe_int pa_nil))) (pa_cons (pe_u c__law_word hr (by omega) (by rfl) (pa_cons (pv 0) (pa_cons pe_int pa_nil))) (pa_cons (pe_u c__law_word hr (by omega) (by rfl) (pa_cons (pv 0) (pa_cons pe_int pa_nil))) pa_nil))) (by rfl)) 
      (pss_cons (ps_if (pt_cmpR (op_neD hr.units) (pe_u c_after hr (by omega) (by rfl) (pa_cons (pe_u c_after hr (by omega) (by rfl) (pa_cons (pv 1) (pa_cons (pv 2) pa_nil))) (pa_cons (pv 3) pa_nil))) (pe_u c_after hr (by omega) (by rfl) (pa_cons (pv 1) (pa_cons (pe_op op_add_str (pv 2) (pv 3)) pa_nil))) (nomark _)) (pss_one (ps_ret pe_bl)) pss_nil) 
      (pss_cons (ps_if (pt_cmpR (op_neD hr.units) (pe_u c_after hr (by omega) (by rfl) (pa_cons (pe_u c_after hr (by omega) (by rfl) (pa_cons (pe_u c_after hr (by omega) (by rfl) (pa_cons (pv 1) (pa_cons (pv 4) pa_nil))) (pa_cons (pv 2) pa_nil))) (pa_cons (pv 3) pa_nil))) (pe_u c_after hr (by omega) (by rfl) (pa_cons (pv 1) (pa_cons (pe_op op_add_str (pe_op op_add_str (pv 4) (pv 2)) (pv 3)) pa_nil))) (nomark _)) (pss_one (ps_ret pe_bl)) pss_nil) 
      (pss_cons (ps_set (i := 5) sc__law_right.nd rfl (Or.inl rfl) (pv 1)) 
      (pss_cons (ps_for PassesOwn.never rfl (pi_str (pv 4)) (pg_name (i := 6) sc__law_right.nd rfl (Or.inl rfl)) (pss_one (ps_set (i := 5) sc__law_right.nd rfl (Or.inl rfl) (pe_u c_single_pass hr (by omega) (by rfl) (pa_cons (pv 5) (pa_cons (pv 6) pa_nil)))))) 
      (pss_one (ps_ret (pe_cmpR (op_eqD hr.units) (pv 5) (pe_u c_after hr (by omega) (by rfl) (pa_cons (pv 1) (pa_cons (pv 4) pa_nil))) (nomark _)))))))))), ?_⟩
    refine ⟨_, rfl, a, 1, 12, rfl, by decide, by decide, by decide, hp, fun p ns H1 k1 p1 np hl1 _ _ hrow => ?_⟩
    have pa : p ≠ a := hp.ne np
    refine ⟨_, rfl, a, 60, rfl, by decide, by decide, p1, fun b1 H2 k2 p2 l1 => ?_⟩
    refine ⟨_, rfl, a, 60, rfl, by decide, by decide, p2, fun b2 H3 k3 p3 l2 => ?_⟩
    refine ⟨_, rfl, a, 20, rfl, by decide, by decide, p3, fun b3 H4 k4 p4 l3 => ?_⟩
    refine ⟨_, _, _, rfl, ?_⟩
    have hl : H4 p = some (.tup (ns.map V.int)) := k4 p _ (k3 p _ (k2 p _ hl1 pa) pa) pa
    have k04 : Kp a H H4 := ((k1.trans k2).trans k3).trans k4
    have sz : ∀ x y : List Bool, x.length ≤ 400 → y.length ≤ 400 → (wd x).length + (wd y).length ≤ sizeLine := fun x y h1 h2 => by
      rw [wd_len, wd_len]
      exact Nat.le_of_lt (len_lt (by omega))
    refine ⟨_, rfl, _, rfl, p, ns, b1, rfl, .inl (.inl hl), hrow, by omega, fun r1 H5 s5 n5 h5 => ?_⟩
    refine ⟨_, rfl, r1, _, b2, rfl, .inl (.inl h5), hrow.after b1, by omega, fun r2 H6 s6 n6 h6 => ?_⟩
    refine ⟨_, rfl, _, rfl, _, rfl, _, _, rfl, rfl, sz _ _ (by omega) (by omega), ?_⟩
    rw [wd_app]
    have app_len : ∀ x y : List Bool, (x ++ y).length = x.length + y.length := fun _ _ => List.length_append
    refine ⟨p, ns, b1 ++ b2, rfl, .inl (.inl (s6 p _ (s5 p _ hl))), hrow, by rw [app_len]; omega, fun r3 H7 s7 n7 h7 => ?_⟩
    have h6' := s7 r2 _ h6
    rw [afterL_app] at h7
    refine ⟨_, _, Dp_row (.inl (.inl h6')), Dp_row (.inl (.inl h7)), shaped_row _, shaped_row _, _, rfl, ?_⟩
    rw [eqv_row]
    refine iteF ?_
    have hl7 : H7 p = some (.tup (ns.map V.int)) := s7 p _ (s6 p _ (s5 p _ hl))
    have s47 : Same H4 H7 := (s5.trans s6).trans s7
    refine ⟨_, rfl, _, rfl, p, ns, b3, rfl, .inl (.inl hl7), hrow, by omega, fun t1 H8 s8 n8 h8 => ?_⟩
    refine ⟨_, rfl, t1, _, b1, rfl, .inl (.inl h8), hrow.after b3, by omega, fun t2 H9 s9 n9 h9 => ?_⟩
    refine ⟨_, rfl, t2, _, b2, rfl, .inl (.inl h9), (hrow.after b3).after b1, by omega, fun t3 G1 u1 m1 g1 => ?_⟩
    refine ⟨_, rfl, _, rfl, _, rfl, _, _, rfl, rfl, sz _ _ (by omega) (by omega), ?_⟩
    rw [wd_app]
    refine ⟨_, rfl, _, _, rfl, rfl, sz _ _ (by rw [app_len]; omega) (by omega), ?_⟩
    rw [wd_app]
    refine ⟨p, ns, b3 ++ b1 ++ b2, rfl, .inl (.inl (u1 p _ (s9 p _ (s8 p _ hl7)))), hrow, by rw [app_len, app_len]; omega, fun t4 G2 u2 m2 g2 => ?_⟩
    have g1' := u2 t3 _ g1
    rw [afterL_app, afterL_app] at g2
    refine ⟨_, _, Dp_row (.inl (.inl g1')), Dp_row (.inl (.inl g2)), shaped_row _, shaped_row _, _, rfl, ?_⟩
    rw [eqv_row]
    refine iteF ?_
    have s4G : Same H4 G2 := ((s47.trans s8).trans s9).trans (u1.trans u2)
    refine ⟨_, rfl, _, rfl, _, rfl, ?_⟩
    refine for_it walk_str (fun i σ H3 => ∃ (y : Option V) (t : Addr), σ = [some (.ref a), some (.ref p), some (.str (wd b1)), some (.str (wd b2)), some (.str (wd b3)), some (.ref t), y] ∧ Same H4 H3 ∧ H3 t = some (.tup ((afterL (b3.take i) ns).map V.int)))
      ⟨none, p, rfl, s4G, s4G p _ hl⟩ (fun _ _ _ _ _ => trivial) (fun i v σ H3 H4' hi hI hv => ?_) (fun σ H3 hI => ?_)
    · obtain ⟨y, t, rfl, sm, ht⟩ := hI
      obtain ⟨rfl, c, hc, rfl⟩ := hv
      obtain ⟨b, hb, rfl⟩ := wd_get hc
      refine ⟨_, rfl, _, rfl, t, _, b, rfl, .inl (.inl ht), hrow.after _, fun t' H5 s5 n5 h5 => ?_⟩
      refine ⟨_, t', rfl, sm.trans s5, ?_⟩
      rw [afterL_take hb]
      exact h5
    · obtain ⟨y, t, rfl, sm, ht⟩ := hI
      have et : b3.take (wd b3).cps.size = b3 := List.take_of_length_le (Nat.le_of_eq (wd_len b3).symm)
      rw [et] at ht
      refine ⟨_, rfl, _, rfl, _, rfl, p, ns, b3, rfl, .inl (.inl (sm p _ hl)), hrow, by omega, fun t' H5 s5 n5 h5 => ?_⟩
      refine ⟨_, _, Dp_row (.inl (.inl (s5 t _ ht))), Dp_row (.inl (.inl h5)), shaped_row _, shaped_row _, ?_⟩
      rw [eqv_row]
      exact q _ (fun b o e ne => s5 b o (sm b o (k04 b o e ne)))
end
section
variable {P : Program} {w : World} {K : PySem.W.Frag} {mg : Str → Option Value} {base : Heap}
/-! ### the law -/
abbrev s_law : Stmt := top 34
abbrev N_law : List Str := ["_law_script", "_law_k"]
theorem sc_law : FnScope N_law ["_law_script"] (defScope s_law) := ⟨rfl, rfl, rfl, by decide +kernel, rfl, by decide +kernel, by decide +kernel⟩
def spLaw (K : PySem.W.Frag) : Sp := fun vs H Q _ => ∃ (a : Addr) (ns : List Int), vs = [.ref a] ∧ SqL K H a (ns.map V.int) ∧ ns.length ≤ 63 ∧ ∀ H', Q (.bl true) H'
theorem ok_law {j : Nat} (hj : 2 ≤ j) (D : Df K mg "law" s_law) (c__law_right : Cl P w K mg base j "_law_right" s__law_right ["_law_pool_here"] spRight) (c__law_pool : Cl P w K mg base 1 "_law_pool" s__law_pool ["_law_number"] spPool)
    (c__law_cell : Cl P w K mg base 1 "_law_cell" s__law_cell ["_law_script", "_law_k"] (spCell K)) (m_len : mg "len" = none) (m_all : mg "all" = none) (m_range : mg "range" = none) (m_max : mg "max" = none) (m_min : mg "min" = none) :
    Cl P w K mg base (j + 1) "law" s_law ["_law_script"] (spLaw K) := by
  refine D.ok sc_law (fun _ _ _ _ _ _ us hl => match us, hl with | [_], _ => rfl) (fun vs H Q E h => ?_) (fun f cdv A outer s H vs Q E hr h => ?_)
  · obtain ⟨a, ns, rfl, _⟩ := h
    rfl
  · obtain ⟨a, ns, rfl, hS, hlen, q⟩ := h
    refine ⟨_, 
      (pss_one (ps_ret (pe_callB (cr_all rfl) (by rfl) m_all (by decide +kernel) (pa_cons (pe_lc (own := [("_law_k", 1)]) (g := gName 1) (te := (tCall spRight [] E0 (tCons (tCall spPool [] E0 (tCons (tCall (spCell K) [] E0 (tCons (tVar 0) (tCons (tVar 1) tNil))) tNil)) tNil))) rfl sc_law.nd (pi_range1 (by rfl) m_range (pa_cons (pe_callB (call_max2 rfl) (by rfl) m_max (by decide +kernel) (pa_cons pe_int (pa_cons (pe_callB (call_min2 rfl) (by rfl) m_min (by decide +kernel) (pa_cons (pe_callB call_lenS (by rfl) m_len (by decide +kernel) (pa_cons (pv 0) pa_nil)) (pa_cons pe_int pa_nil))) pa_nil))) pa_nil)) (blkOk_by (own := [("_law_k", 1)]) (N := N_law) (sc := (defScope s_law)) (by decide +kernel)) (fun _ _ _ _ _ => (pg_name (i := 1) sc_law.nd rfl (Or.inl rfl))) (fun _ _ _ _ _ => pts_nil) (fun _ _ _ _ _ => (pe_u c__law_right hr (by omega) (by rfl) (pa_cons (pe_u c__law_pool hr (by omega) (by rfl) (pa_cons (pe_u c__law_cell hr (by omega) (by rfl) (pa_cons (pv 0) (pa_cons (pv 1) pa_nil))) pa_nil)) pa_nil)))) pa_nil)))), ?_⟩
    refine ⟨_, rfl, a, _, rfl, .inl hS, _, _, rfl, _, _, rfl, _, rfl, ?_, ?_, fun D nD => ?_⟩
    · rw [List.length_map]
      split <;> split <;> omega
    · rw [List.length_map]
      split <;> split <;> omega
    · generalize hn : (if (if (8 : Int) < ((ns.map V.int).length : Nat) then (8 : Int) else ((ns.map V.int).length : Nat)) > 2 then (if (8 : Int) < ((ns.map V.int).length : Nat) then (8 : Int) else ((ns.map V.int).length : Nat)) else 2) = n
      have n1 : n ≤ 100 := by
        rw [← hn, List.length_map]
        split <;> split <;> omega
      refine lc_range (lo := 0) (n := n.toNat) (fun i H2 => H2 D = some (.lst ((List.replicate i true).map V.bl)) ∧ Same H H2) ⟨upd_same, same_upd nD⟩ (fun i H2 hi hI => ?_) (fun H2 hI => ?_)
      · obtain ⟨hD, sm⟩ := hI
        refine ⟨rfl, _, rfl, _, rfl, a, ns, i, ?_, sm.seq hS, by omega, fun c H3 s3 => ?_⟩
        · exact congrArg (fun t : Int => [V.ref a, V.int t]) (Int.zero_add _)
        refine ⟨c, rfl, fun p H4 s4 np hp => ⟨p, rfl, hp, fun H5 k5 => ?_⟩⟩
        have hD4 := s4 D _ (s3 D _ hD)
        have pD : p ≠ D := fun z => by
          subst z
          rw [s3 p _ hD] at np
          cases np
        refine ⟨_, k5 D _ hD4 pD.symm, ?_, ?_, fun b o e => ?_⟩
        · rw [List.length_map, List.length_replicate]
          exact len_lt (by omega)
        · rw [upd_same, List.replicate_succ', List.map_append]
          rfl
        · have bD : b ≠ D := ne_of_none e nD
          rw [upd_ne bD]
          have eb := s3 b _ (sm b o e)
          exact k5 b o (s4 b o eb) (ne_of_none eb np)
      · obtain ⟨hD, sm⟩ := hI
        refine ⟨D, List.replicate n.toNat true, rfl, .inl (.inl hD), ?_⟩
        rw [all_true]
        exact q _
end
/-! ### what the top has left; the head -/
def fnL : List He.DefD := [mkD "is_whole" s_is_whole, mkD "is_whole_from" s_is_whole_from, mkD "is_height" s_is_height, mkD "may_be_row" s_may_be_row, mkD "wrong_person" s_wrong_person, mkD "check_row" s_check_row, mkD "is_kind" s_is_kind, mkD "check_kind" s_check_kind, mkD "may_be_word" s_may_be_word, mkD "wrong_letter" s_wrong_letter, mkD "check_word" s_check_word, mkD "takes_chair" s_takes_chair, mkD "walk" s_walk, mkD "single_pass" s_single_pass, mkD "after" s_after, mkD "_law_cell" s__law_cell, mkD "_law_pool" s__law_pool, mkD "_law_draw" s__law_draw, mkD "_law_heights" s__law_heights, mkD "_law_row" s__law_row, mkD "_law_word" s__law_word, mkD "_law_right" s__law_right, mkD "law" s_law]
def faL : List He.Fa := [.glo "is_whole", .glo "is_whole_from", .glo "is_height", .glo "may_be_row", .glo "wrong_person", .glo "check_row", .glo "is_kind", .glo "check_kind", .glo "may_be_word", .glo "wrong_letter", .glo "check_word", .glo "takes_chair", .glo "walk", .glo "single_pass", .glo "after", .glo "_law_cell", .glo "_law_pool", .glo "_law_draw", .glo "_law_heights", .glo "_law_row", .glo "_law_word", .glo "_law_right", .glo "law", .free "isinstance", .free "int", .free "bool", .free "tuple", .free "len", .free "enumerate", .free "str", .free "list", .free "abs", .free "divmod", .free "range", .free "sorted", .free "all", .free "max", .free "min", .int "GREATEST_HEIGHT" 999, .int "MOST_PEOPLE" 12, .glo "KINDS", .int "MOST_LETTERS" 400]
def exL : PySem.W.Frag → Bool := fun K => He.tupB K "KINDS" [.str "S", .str "T"]
def loose0 : List PySem.Str := ["PassError", "InvalidRow", "InvalidKind", "InvalidWord", "MOST_PEOPLE", "MOST_LETTERS", "GREATEST_HEIGHT", "is_whole", "is_whole_from", "is_height", "may_be_row", "wrong_person", "check_row", "KINDS", "is_kind", "check_kind", "may_be_word", "wrong_letter", "check_word", "takes_chair"]
def loose1 : List PySem.Str := ["walk", "single_pass", "after", "_law_cell", "_law_pool", "_law_draw", "_law_heights", "_law_row", "_law_word", "_law_right"]
def loose : List PySem.Str := loose0 ++ loose1

def lawLevel : Nat := 8
theorem law_facts {P : Program} {w : World} {K : PySem.W.Frag} {h : Heap} {mg : Str → Option Value} {f : Addr} (X : K.In h) (G : h.Ns mainGlobals mg) (hfa : mg ("law" : Str) = some (.ref f)) (c : He.SaysD faL fnL K) (ex : exL K = true) :
    ∃ fd : FuncData, (∀ (s : Shared) (v : Value), BindsTo s fd ⟨[v], []⟩ [("_law_script", v)]) ∧ ∀ base : Heap, FnOk P w K mg base CX0 lawLevel f fd ["_law_script"] (spLaw K) := by
  have D_is_whole : Df K mg "is_whole" s_is_whole := Df.of X G c 0 rfl rfl
  have D_is_whole_from : Df K mg "is_whole_from" s_is_whole_from := Df.of X G c 1 rfl rfl
  have D_is_height : Df K mg "is_height" s_is_height := Df.of X G c 2 rfl rfl
  have D_may_be_row : Df K mg "may_be_row" s_may_be_row := Df.of X G c 3 rfl rfl
  have D_wrong_person : Df K mg "wrong_person" s_wrong_person := Df.of X G c 4 rfl rfl
  have D_check_row : Df K mg "check_row" s_check_row := Df.of X G c 5 rfl rfl
  have D_is_kind : Df K mg "is_kind" s_is_kind := Df.of X G c 6 rfl rfl
  have D_check_kind : Df K mg "check_kind" s_check_kind := Df.of X G c 7 rfl rfl
  have D_may_be_word : Df K mg "may_be_word" s_may_be_word := Df.of X G c 8 rfl rfl
  have D_wrong_letter : Df K mg "wrong_letter" s_wrong_letter := Df.of X G c 9 rfl rfl
  have D_check_word : Df K mg "check_word" s_check_word := Df.of X G c 10 rfl rfl
  have D_takes_chair : Df K mg "takes_chair" s_takes_chair := Df.of X G c 11 rfl rfl
  have D_walk : Df K mg "walk" s_walk := Df.of X G c 12 rfl rfl
  have D_single_pass : Df K mg "single_pass" s_single_pass := Df.of X G c 13 rfl rfl
  have D_after : Df K mg "after" s_after := Df.of X G c 14 rfl rfl
  have D__law_cell : Df K mg "_law_cell" s__law_cell := Df.of X G c 15 rfl rfl
  have D__law_pool : Df K mg "_law_pool" s__law_pool := Df.of X G c 16 rfl rfl
  have D__law_draw : Df K mg "_law_draw" s__law_draw := Df.of X G c 17 rfl rfl
  have D__law_heights : Df K mg "_law_heights" s__law_heights := Df.of X G c 18 rfl rfl
  have D__law_row : Df K mg "_law_row" s__law_row := Df.of X G c 19 rfl rfl
  have D__law_word : Df K mg "_law_word" s__law_word := Df.of X G c 20 rfl rfl
  have D__law_right : Df K mg "_law_right" s__law_right := Df.of X G c 21 rfl rfl
  have D_law : Df K mg "law" s_law := Df.of X G c 22 rfl rfl
  have m_isinstance : mg "isinstance" = none := He.free_ok X G (c.fact 23 (f := .free "isinstance") rfl)
  have m_int : mg "int" = none := He.free_ok X G (c.fact 24 (f := .free "int") rfl)
  have m_bool : mg "bool" = none := He.free_ok X G (c.fact 25 (f := .free "bool") rfl)
  have m_tuple : mg "tuple" = none := He.free_ok X G (c.fact 26 (f := .free "tuple") rfl)
  have m_len : mg "len" = none := He.free_ok X G (c.fact 27 (f := .free "len") rfl)
  have m_enumerate : mg "enumerate" = none := He.free_ok X G (c.fact 28 (f := .free "enumerate") rfl)
  have m_str : mg "str" = none := He.free_ok X G (c.fact 29 (f := .free "str") rfl)
  have m_list : mg "list" = none := He.free_ok X G (c.fact 30 (f := .free "list") rfl)
  have m_abs : mg "abs" = none := He.free_ok X G (c.fact 31 (f := .free "abs") rfl)
  have m_divmod : mg "divmod" = none := He.free_ok X G (c.fact 32 (f := .free "divmod") rfl)
  have m_range : mg "range" = none := He.free_ok X G (c.fact 33 (f := .free "range") rfl)
  have m_sorted : mg "sorted" = none := He.free_ok X G (c.fact 34 (f := .free "sorted") rfl)
  have m_all : mg "all" = none := He.free_ok X G (c.fact 35 (f := .free "all") rfl)
  have m_max : mg "max" = none := He.free_ok X G (c.fact 36 (f := .free "max") rfl)
  have m_min : mg "min" = none := He.free_ok X G (c.fact 37 (f := .free "min") rfl)
  obtain ⟨t_GREATEST_HEIGHT, g_GREATEST_HEIGHT⟩ := He.int_ok X G (c.fact 38 (f := .int "GREATEST_HEIGHT" 999) rfl)
  obtain ⟨t_MOST_PEOPLE, g_MOST_PEOPLE⟩ := He.int_ok X G (c.fact 39 (f := .int "MOST_PEOPLE" 12) rfl)
  have g_KINDS : mg "KINDS" = some (.ref (He.ga K "KINDS")) := He.glo_ok X G (c.fact 40 (f := .glo "KINDS") rfl)
  have hT_KINDS : ∀ H : Hp, SqT K H (He.ga K "KINDS") [.str (ltr false), .str (ltr true)] := fun H => by
    have z := He.tupB_ok (show He.tupB K "KINDS" [.str "S", .str "T"] = true from ex) H
    rw [show ([.str "S", .str "T"] : List He.Dv).map (He.Dv.v K) = [V.str (ltr false), V.str (ltr true)] from rfl] at z
    exact z
  obtain ⟨t_MOST_LETTERS, g_MOST_LETTERS⟩ := He.int_ok X G (c.fact 41 (f := .int "MOST_LETTERS" 400) rfl)
  obtain ⟨fd, F, hF⟩ := Cl.last (P := P) (w := w) (k := 8) (ps := ["_law_script"]) (sp := spLaw K) D_law hfa fun base => by
    have c_draw := ok_draw (P := P) (w := w) (base := base) D__law_draw m_divmod
    have c_heights := ok_heights D__law_heights c_draw m_len m_list m_range m_sorted
    have c_row := ok_row D__law_row c_draw c_heights m_len m_tuple m_range
    have c_word := ok_word D__law_word c_draw m_len
    have c_whole := ok_whole (P := P) (w := w) (base := base) D_is_whole m_isinstance m_int m_bool
    have c_from := ok_from D_is_whole_from c_whole
    have c_height := ok_height D_is_height c_from g_GREATEST_HEIGHT
    have c_may := ok_may (P := P) (w := w) (base := base) D_may_be_row m_isinstance m_tuple m_len g_MOST_PEOPLE
    have c_wrong := ok_wrong D_wrong_person c_height m_enumerate
    have c_check := ok_check_row D_check_row c_may c_wrong
    have c_kind := ok_is_kind (P := P) (w := w) (base := base) D_is_kind m_isinstance m_str g_KINDS hT_KINDS
    have c_ckind := ok_check_kind D_check_kind c_kind
    have c_mayw := ok_mayw (P := P) (w := w) (base := base) D_may_be_word m_isinstance m_str m_len g_MOST_LETTERS
    have c_wrongl := ok_wrongl D_wrong_letter c_kind m_enumerate
    have c_cword := ok_check_word D_check_word c_mayw c_wrongl
    have c_takes := ok_takes (P := P) (w := w) (base := base) D_takes_chair
    have c_single := ok_single D_single_pass c_check c_ckind (ok_walkT D_walk c_takes) m_tuple
    have c_after := ok_after D_after c_check c_cword (ok_walkL D_walk c_takes) m_tuple m_list
    exact ok_law (j := 7) (by decide) D_law (ok_right D__law_right c_row c_word c_after c_single) (ok_pool D__law_pool m_abs) (ok_cell D__law_cell m_len) m_len m_all m_range m_max m_min
  exact ⟨fd, fun s v => FunD.bindsA (ps := ["_law_script"]) F (fun _ _ _ _ _ _ us hl => match us, hl with | [_], _ => rfl) s [v] rfl, hF⟩
abbrev R : PySem.W.OpenRow := PySem.W.OpenLaw.row PySem.Challenge.rw_lastpasses_k10_whole_words_one_behind_th
abbrev hk : PySem.W.Hook := hookL 3 faL fnL exL
def ob (s : PySem.W.SharedT) : He.AlD × Bool := obL 3 faL fnL exL (HandSHeadRun.getT s)
theorem ob_eq (s : PySem.W.SharedT) : ob s = hk.obs s.abs := obL_eq (HandSHeadRun.getT_eq s)
theorem run (w : World) : HandSHeadRun.RunEq R (PySem.W.view R.prog [34]) hk ob 20000 loose w := by
  intro os
  kernel_rfl
end Lp
open PySem PySem.W PySem.Calls PyProof.Rows
theorem PySem.Challenge.cw_lastpasses_k10_whole_words_one_behind_th_holds : PySem.Challenge.rw_lastpasses_k10_whole_words_one_behind_th.Holds := by
  w_on; o_law
  refine HandSHeadRun.head_any (r := OpenLaw.row PySem.Challenge.rw_lastpasses_k10_whole_words_one_behind_th) (q := view (OpenLaw.row PySem.Challenge.rw_lastpasses_k10_whole_words_one_behind_th).prog [34]) (H := Lp.hk) (ob := Lp.ob) (M := 20000) (loose := Lp.loose) (d := HandSHeadRun.topDef (OpenLaw.row PySem.Challenge.rw_lastpasses_k10_whole_words_one_behind_th).prog 34) (kwd := []) Lp.ob_eq
    (by kernel_rfl) (fun s => by kernel_rfl) Lp.run (by kernel_rfl) (by kernel_rfl) (by kernel_rfl) (by rfl) (by first | assumption | decide +kernel) (by decide +kernel) ⟨rfl, rfl, rfl, rfl, rfl, by decide +kernel⟩ ?hw ?hc
  case hw => w_witness2
  case hc =>
    refine L2.walk_ofE (l := PySem.Challenge.rw_lastpasses_k10_whole_words_one_behind_th) (n := 63) (k := Lp.lawLevel) (x := "_law_script") (CX := L2.CX0) rfl (by decide) (by kernel_rfl) ⟨rfl, by decide, by decide⟩ ?F (fun _ _ _ _ z => z)
    intro w mg fa h Y G hmg0
    obtain ⟨K, KX, c, ex⟩ := Y
    have hmg : mg ("law" : PySem.Str) = some (.ref fa) := by
      have e : (HandSHeadRun.topDef (OpenLaw.row PySem.Challenge.rw_lastpasses_k10_whole_words_one_behind_th).prog 34).name = ("law" : PySem.Str) := by kernel_rfl
      rw [← e]
      exact hmg0
    obtain ⟨fd, hb, hF⟩ := Lp.law_facts (P := (PySem.Challenge.rw_lastpasses_k10_whole_words_one_behind_th).prog) (w := w) KX G hmg c ex
    exact ⟨K, fd, Lp.spLaw K, KX, hb, fun H a ns hl _ hS => ⟨a, ns, rfl, hS, hl, fun _ => rfl⟩, fun base _ _ => hF base⟩
