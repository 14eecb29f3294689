import PyProof.Rows.All
import Wide.All
import OpenK.AllK
import Wide.FinOn
import KE.GoesEnum
import HandS.ForMost
import HandS.Conv
import HandS.Defaults
import HandS.Walk
import HandS.WideBits
import HandS.IsInst
import HandS.TupAny
import HandS.Style
import HandS.TupLe
import HandS.Head0
import HandS.Head1
import HandS.Head2
import HandS.HeadEnd
import HandS.HeadHook1
import HandS.HeadHook2
import HandS.FStrTup
import HandS.Codes
import HandS.TupMul
import HandS.ReplaceLit
import HandS.ReplaceList
import HandS.Strs
import KE.KRevSl
import HandS.Rev
import KE.DataMinMax
import HandS.Wide
import HandS.SetFor
import HandS.TupLen
import HandS.RevTup
import PyProof.JoinWalk
import KE.BitLaws
import PyProof.Rows.TupDisplay
import HandS.TupSets
import KE.KeyNested
import HandS.Iter
import PySem.Challenge.RW_lastpasses_k72_mean_index_by_all_words
set_option Elab.async false
set_option linter.all false
set_option maxRecDepth 100000
set_option maxHeartbeats 4000000
namespace Lp
open PySem PySem.Spec PyProof.Rows L2
/-! ### enumerate of a tuple -/
theorem meetsEnum1 {v : Value} {o : Obj} {C : Heap → Prop} (B : Begins v o C) :
    Meets (Builtin.«enumerate.__new__» ⟨[.type "enumerate", v], []⟩) (fun _ R s => C s.heap ∧
      R (.ok (.ret (.ref (s.heap.push o).objs.size)))
        { s with heap := (s.heap.push o).push { cls := .type "enumerate", data := .fields #[.none, .bool false, .ref s.heap.objs.size, rawInt 0, .none, .none] } }) :=
  .of_wp fun prog w A R s hc => by
    obtain ⟨hp, gn, dn, tk, os⟩ := s
    obtain ⟨c1, hc⟩ := hc
    have hsub := sub_enumerate
    have qi : ∀ {A2 : Around} {E2 : Value → Shared → Prop} {Q2 : Value → Shared → Prop}, Q2 (.ref hp.objs.size) ⟨hp.push o, gn, dn, tk, os⟩ → wpAny (model prog w) A2 (pyIter v) Q2 E2 ⟨hp, gn, dn, tk, os⟩ :=
      fun q => B.iter prog w _ _ ⟨hp, gn, dn, tk, os⟩ _ c1 q
    wp_walk using qi
    refine wpAny_stack_any fun stk => wpAny_pure ?_
    split
    · rename_i cc _ _ _ _ _
      cases (cc == Value.type "enumerate")
      · wp_walk using qi
        exact ⟨_, rfl, hc⟩
      · wp_walk using qi
        exact ⟨_, rfl, hc⟩
    · wp_walk using qi
      exact ⟨_, rfl, hc⟩
section
variable {prog : Program} {w : World} {A : Around} {E : Value → Shared → Prop} {s : Shared}
theorem callEnum1 {v : Value} {o : Obj} {C : Heap → Prop} {Q : Value → Shared → Prop} (B : Begins v o C) (c1 : C s.heap)
    (hq : ∀ h2, IsEnum h2 (s.heap.objs.size + 1) s.heap.objs.size 0 .none → h2.get? s.heap.objs.size = some o → h2.objs.size = s.heap.objs.size + 2 →
      (∀ b u, s.heap.get? b = some u → h2.get? b = some u) → Q (.ref (s.heap.objs.size + 1)) { s with heap := h2 }) :
    wpAny (model prog w) A (call (.type "enumerate") [v]) Q E s := by
  refine callType_new F.called_enumerate (by decide) (F.typeCall_enumerate_1 _) (F.newCall_enumerate_1 _) (fun ob => F.args_object_init_2 ob _) F.entry_enumerate_new (meetsEnum1 B) ⟨c1, ?_⟩
  have sz : (s.heap.push o).objs.size = s.heap.objs.size + 1 := Heap.size_push ..
  show _ ∧ _
  rw [sz]
  have en : IsEnum ((s.heap.push o).push { cls := .type "enumerate", data := .fields #[.none, .bool false, .ref s.heap.objs.size, rawInt 0, .none, .none] }) (s.heap.objs.size + 1) s.heap.objs.size 0 .none := by
    have z := Heap.get?_push_size (s.heap.push o) (o := { cls := .type "enumerate", data := .fields #[.none, .bool false, .ref s.heap.objs.size, rawInt 0, .none, .none] }) rfl
    rw [sz] at z
    exact z
  refine ⟨⟨_, en, rfl⟩, hq _ en (Heap.get?_push_of_some _ (Heap.get?_push_size _ B.free)) (by rw [Heap.size_push, sz]) fun b u x => Heap.get?_push_of_some _ (Heap.get?_push_of_some _ x)⟩
end
/-- what is fed at each place, each in a new pair with its number -/
def ItE (go stop : Nat → Hp → Prop) (is : Nat → Hp → V → Prop) : It where
  go := go
  stop := stop
  yld := fun i H v H' => ∃ T x, v = .ref T ∧ H T = none ∧ is i H x ∧ H' = upd H T (.tup [.int (i : Nat), x])
/-- the iterator at `it` (its state at place i: st i) feeds the enumerate at e -/
structure Feed (P : Program) (w : World) (K : PySem.W.Frag) (e it : Addr) (st : Nat → Heap → Prop) (go stop : Nat → Hp → Prop) (is : Nat → Hp → V → Prop) : Prop where
  apart : e ≠ it
  lives : ∀ i h, st i h → ∃ o, h.get? it = some o ∧ ∀ v, o.data ≠ .cell v
  stays : ∀ i h g, st i h → (∀ o, h.get? it = some o → g.get? it = some o) → st i g
  more : ∀ X : Cx, X.prog = P → X.w = w → X.K = K → X.calm = true → ∀ i pins s σ H, Inv X pins σ H s → st i s.heap → go i H →
    ∃ n fp Y S, Draws P w X.A.in1 it fp n Y S ∧ i < n ∧ S i s.heap ∧ e ∉ fp ∧ (∀ h, S (i + 1) h → st (i + 1) h) ∧ ∀ v, Y i v → ∃ x, RelV x v ∧ is i H x
  ends : ∀ X : Cx, X.prog = P → X.w = w → X.K = K → X.calm = true → ∀ i pins s σ H, Inv X pins σ H s → st i s.heap → stop i H →
    ∃ fp Y S, Draws P w X.A.in1 it fp i Y S ∧ S i s.heap
theorem turnE {P : Program} {w : World} {K : PySem.W.Frag} {e it : Addr} {st : Nat → Heap → Prop} {go stop : Nat → Hp → Prop} {is : Nat → Hp → V → Prop} (F : Feed P w K e it st go stop is) {l : List Expr} {c : Nat} {q : Pos} :
    Turn P w K (.Tuple l c q) (ItE go stop is) [e, it] e (fun i h => (∃ last, IsEnum h e it ((i : Nat) : Int) last) ∧ st i h) where
  mem := by simp
  obj := by
    rintro i h ⟨⟨last, en⟩, b⟩ x hx
    have two : x = e ∨ x = it := by simpa using hx
    rcases two with rfl | rfl
    · exact ⟨_, en, fun _ z => nomatch z⟩
    · exact F.lives i h b
  keep := by
    rintro i h g ⟨⟨last, en⟩, b⟩ k
    exact ⟨⟨last, k e (by simp) _ en⟩, F.stays i h g b (k it (by simp))⟩
  item := by
    rintro X rfl rfl rfl calm i pins s σ H _ I fr ⟨⟨last, en⟩, b⟩ g
    obtain ⟨n, fp, Y, S, D, lt, at_, out, nxt, val⟩ := F.more X rfl rfl rfl calm i pins s σ H I b g
    refine wpAny_pyNext_enum_itemD D en at_ lt F.apart out fun u h1 tk hu eo at1 pair size old => ⟨_, rfl, ?_⟩
    obtain ⟨x, rx, ix⟩ := val u hu
    have inOld : ∀ {b : Addr} {o : Obj}, s.heap.get? b = some o → b ≠ s.heap.objs.size := fun q z => Nat.lt_irrefl _ (z ▸ Heap.lt_size q)
    have eOld := inOld en
    obtain ⟨oi, hi, _⟩ := F.lives i s.heap b
    have iOld := inOld hi
    refine wpAny_letOwnedTupleGo_enum (s := { s with heap := h1, toks := tk + 1 }) eo fun h2 en2 same => ?_
    have pair2 : h2.get? s.heap.objs.size = some { cls := .type "tuple", data := .seq #[.int i tk, u] } := (same.2 _ eOld.symm).trans pair
    have rest : ∀ b o, b ∉ [e, it] → s.heap.get? b = some o → h2.get? b = some o := fun b o nb q => by
      have hb : b ≠ e ∧ b ≠ it := by simpa using nb
      rw [same.2 b hb.1]
      exact old b o hb.1 hb.2 q
    have J := I.turnedNew (t' := tk + 1) (h' := h2) (ob := .tup [.int (i : Nat), x]) rest fr (Nat.le_refl s.heap.objs.size) ⟨(by decide : 2 ≤ sizeLine), [.int i tk, u], .cons ⟨tk, rfl⟩ (.cons rx .nil), _, pair2, rfl, _, rfl⟩
    refine ⟨.ref s.heap.objs.size, _, J, rfl, ⟨_, x, rfl, I.hok.fresh (Nat.le_refl _), ix, rfl⟩, ⟨⟨u, by push_cast; exact en2⟩, F.stays _ h1 h2 (nxt h1 at1) fun o q => (same.2 it F.apart.symm).trans q⟩, fun y hy => ?_⟩
    have two : y = e ∨ y = it := by simpa using hy
    have yo : y ≠ s.heap.objs.size := by rcases two with rfl | rfl <;> assumption
    rw [upd_ne yo]
    exact (fr y hy).1
  done := by
    rintro X rfl rfl rfl calm i pins s σ H _ I fr ⟨⟨last, en⟩, b⟩ g
    obtain ⟨fp, Y, S, D, at_⟩ := F.ends X rfl rfl rfl calm i pins s σ H I b g
    obtain ⟨u0, u1, _, u3, u4, u5⟩ := fr it (by simp)
    exact wpAny_pyNext_enum_endD D en at_ fun h1 same => ⟨rfl, I.turned (t' := s.toks) (fun b o nb q => same b o nb q) u0 u1 u3 u4 u5⟩
  self := fun _ _ _ _ _ z q => let ⟨⟨_, en⟩, _⟩ := z; wpAny_pyIter_enum en q
/-- for i, x in enumerate(..): n things are fed, Pv holds between the turns -/
theorem walkE {go stop : Nat → Hp → Prop} {is : Nat → Hp → V → Prop} {g : TG} {tb : TS} {D : Ends} {σ : L2.St} {H : Hp} (n : Nat) (Pv : Nat → L2.St → Hp → Prop) (first : Pv 0 σ H) (on : ∀ i σ H, i < n → Pv i σ H → go i H) (off : ∀ σ H, Pv n σ H → stop n H)
    (turn : ∀ i x T σ H, i < n → is i H x → Pv i σ H → H T = none → g (.ref T) σ (upd H T (.tup [.int (i : Nat), x])) fun σ2 H2 => tb { D with nx := Pv (i + 1), ct := Pv (i + 1), bk := D.nx } σ2 H2) (last : ∀ σ H, Pv n σ H → D.nx σ H) :
    tFor (fun _ H R => R (ItE go stop is) H) g tb D σ H := by
  refine ⟨fun i m σ H => i + m = n ∧ Pv i σ H, ⟨n, Nat.zero_add n, first⟩, fun i m σ H z => ?_⟩
  obtain ⟨e, p⟩ := z
  cases m with
  | zero =>
    have : i = n := e
    subst this
    exact .inl ⟨off σ H p, last σ H p⟩
  | succ m =>
    have lt : i < n := by omega
    refine .inr ⟨on i σ H lt p, Pv (i + 1), fun _ _ p2 => ⟨m, Nat.lt_succ_self m, by omega, p2⟩, fun v H2 y => ?_⟩
    obtain ⟨T, x, rfl, new, ix, rfl⟩ := y
    exact turn i x T σ H lt ix p new
/-! #### .. of a tuple -/
def goT (K : PySem.W.Frag) (a : Addr) : Nat → Hp → Prop := fun i H => ∃ (xs : List V) (x : V), SqT K H a xs ∧ xs[i]? = some x
def stopT (K : PySem.W.Frag) (a : Addr) : Nat → Hp → Prop := fun i H => ∃ xs : List V, SqT K H a xs ∧ xs.length ≤ i
def isT (K : PySem.W.Frag) (a : Addr) : Nat → Hp → V → Prop := fun i H x => ∀ xs, SqT K H a xs → xs[i]? = some x
theorem feedT {P : Program} {w : World} {K : PySem.W.Frag} {a e it : Addr} (n1 : e ≠ it) (n2 : a ≠ it) (n3 : a ≠ e) : Feed P w K e it (fun i h => h.IsTupleIter it a i) (goT K a) (stopT K a) (isT K a) where
  apart := n1
  lives := fun i h z => let ⟨o, ho, _, hd⟩ := z; ⟨o, ho, fun v q => by rw [hd] at q; cases q⟩
  stays := fun i h g z k => z.at k
  more := by
    rintro X rfl rfl rfl calm i pins s σ H I at_ ⟨xs, x, hq, hx⟩
    obtain ⟨us, rs, tup, _⟩ := I.tuple hq
    obtain ⟨u, hu, ru⟩ := rs.get hx
    have hu2 : us.toArray[i]? = some u := by simpa using hu
    refine ⟨_, _, _, _, Draws.tuple (A := X.A.in1) (I.ok.hd calm) it a n2 us.toArray, (Array.getElem?_eq_some_iff.mp hu2).1, ⟨at_, tup⟩, by simp [n1, n3.symm], fun h z => z.1, fun v hv => ⟨x, ?_, fun ys hy => ?_⟩⟩
    · rw [Option.some.inj (hv.symm.trans hu2)]
      exact ru
    · rw [I.tuple_inj hy hq]
      exact hx
  ends := by
    rintro X rfl rfl rfl calm i pins s σ H I at_ ⟨xs, hq, hx⟩
    obtain ⟨us, rs, tup, _⟩ := I.tuple hq
    have none_ : us.toArray[i]? = none := by
      rw [Array.getElem?_eq_none_iff, List.size_toArray, ← rs.length]
      exact hx
    exact ⟨[it, a], fun _ _ => False, fun j h => j = i ∧ h.IsTupleIter it a i ∧ h.IsTuple a us.toArray,
      { live := fun _ _ z => let ⟨o, ho, _⟩ := z.2.1; ⟨o, ho⟩
        frame := fun _ _ _ z k => ⟨z.1, z.2.1.at (k it (by simp)), z.2.2.at (k a (by simp))⟩
        item := fun j _ _ _ lt z _ => absurd z.1 (Nat.ne_of_lt lt)
        done := fun _ _ _ z q => wpAny_nextOf_tuple_end (A := X.A.in1) (I.ok.hd calm) z.2.1 z.2.2 none_ q }, rfl, at_, tup⟩
def iEnumT (K : PySem.W.Frag) (ta : TA) : TI := fun σ H R => ta σ H fun vs H1 => ∃ a xs, vs = [.ref a] ∧ SqT K H1 a xs ∧ R (ItE (goT K a) (stopT K a) (isT K a)) H1
theorem pi_enumT {X : Cx} {x : Expr} {ta : TA} {p pos q : Pos} {l : List Expr} {c : Nat} (hg : Gl X "enumerate") (hm : X.mg "enumerate" = none) (ha : PA X [x] ta)
    (hs : starEach [x] X.env = [(false, eval x X.env)] := by rfl) : PI X (.Tuple l c q) (.Call (.Name "enumerate" p) [x] [] pos) (iEnumT X.K ta) := ⟨fun pins s σ H R I h => by
  refine Call_ (ld_blt I hg hm boot_enumerate (PyProof.Rows.callWith_type1 (wpAny_mono (ha.run pos pins s σ H _ I h) (fun us s1 z => ?_) fun _ _ z => z) hs rfl))
  obtain ⟨vs, H1, I1, rs, a, xs, rfl, hq, r⟩ := z
  rw [Vals.ref1 rs]
  obtain ⟨us', _, tup, _⟩ := I1.tuple hq
  have al := tup.lt
  refine callEnum1 (begins_tuple a us'.toArray) tup fun h2 en fed size old => wpAny_pyIter_enum en ?_
  have new : ∀ b ∈ [s1.heap.objs.size + 1, s1.heap.objs.size], s1.heap.objs.size ≤ b := fun b hb => by
    have two : b = s1.heap.objs.size + 1 ∨ b = s1.heap.objs.size := by simpa using hb
    omega
  exact ⟨_, _, _, _, H1, rfl, I1.kept (h' := h2) (t' := s1.toks) old, turnE (feedT (a := a) (e := s1.heap.objs.size + 1) (it := s1.heap.objs.size) (Nat.succ_ne_self _) (Nat.ne_of_lt al) (Nat.ne_of_lt (Nat.lt_succ_of_lt al))), ⟨⟨.none, en⟩, ⟨_, fed, rfl, rfl⟩⟩, fun b hb => I1.fpOk (new b hb) (I1.hok.fresh (new b hb)), r⟩⟩
theorem walk_enumT {K : PySem.W.Frag} {a : Addr} {xs : List V} {g : TG} {tb : TS} {D : Ends} {σ : L2.St} {H : Hp} (Pv : Nat → L2.St → Hp → Prop) (h0 : Pv 0 σ H) (hq : ∀ i σ H, i ≤ xs.length → Pv i σ H → SqT K H a xs)
    (hs : ∀ i x T σ H, xs[i]? = some x → Pv i σ H → H T = none → g (.ref T) σ (upd H T (.tup [.int (i : Nat), x])) fun σ2 H2 => tb { D with nx := Pv (i + 1), ct := Pv (i + 1), bk := D.nx } σ2 H2) (hd : ∀ σ H, Pv xs.length σ H → D.nx σ H) :
    tFor (fun _ H R => R (ItE (goT K a) (stopT K a) (isT K a)) H) g tb D σ H :=
  walkE xs.length Pv h0 (fun i σ H lt p => ⟨xs, xs[i], hq i σ H (Nat.le_of_lt lt) p, List.getElem?_eq_getElem lt⟩) (fun σ H p => ⟨xs, hq _ σ H (Nat.le_refl _) p, Nat.le_refl _⟩)
    (fun i x T σ H lt ix p n => hs i x T σ H (ix xs (hq i σ H (Nat.le_of_lt lt) p)) p n) hd
/-! ### defs by their names -/
abbrev FnP (K : PySem.W.Frag) (x : Str) (st : Stmt) (f : Addr) (fd : FuncData) : Prop := FunD K x x (defArgs st) (defBody st) (defScope st) [] [] f fd
/-- the def st stands under its name x -/
structure Df (K : PySem.W.Frag) (mg : Str → Option Value) (x : Str) (st : Stmt) : Prop where
  ex : ∃ f fd, FnP K x st f fd ∧ mg x = some (.ref f)
/-- what is called by the name x keeps sp -/
structure Cl (P : Program) (w : World) (K : PySem.W.Frag) (mg : Str → Option Value) (base : Heap) (k : Nat) (x : Str) (st : Stmt) (ps : List Str) (sp : Sp) : Prop where
  ex : ∃ f fd, FnP K x st f fd ∧ FnOk P w K mg base CX0 k f fd ps sp ∧ mg x = some (.ref f) ∧ Binds K fd ps []
section
variable {P : Program} {w : World} {K : PySem.W.Frag} {mg : Str → Option Value} {base : Heap} {x : Str} {st : Stmt} {N ps ks : List Str} {k : Nat} {sp : Sp}
theorem Df.ok (D : Df K mg x st) (S : FnScope N ps (defScope st))
    (bd : ∀ (kV doc pm : Value) (an : Option Addr) (cdv ct : Value) (us : List Value), us.length = ps.length → bindArgs (PySem.W.fnOf x x (defArgs st) (defBody st) (defScope st) .none kV doc pm an cdv ct) ⟨us, []⟩ = pure (ps.zip us))
    (len : ∀ vs H Q E, sp vs H Q E → vs.length = ps.length)
    (body : ∀ (f : Addr) (cdv : Value) (A : Around) (outer : List Env) (s : Shared) (H : Hp) (vs : List V) (Q : VK) (E : XK), Room k (A.deeper (envOfC x (defScope st) s.heap.objs.size f cdv)) → sp vs H Q E →
      ∃ t, PSs (cxOf CX0 P w K mg base N x (defScope st) f cdv A outer s H E).nox (defBody st) t ∧ t { nx := fun _ H' => Q .non H', rt := Q } (start N vs) H) : Cl P w K mg base (k + 1) x st ps sp := by
  obtain ⟨f, fd, F, hm⟩ := D.ex
  refine ⟨f, fd, F, F.ok S len fun cdv A outer s H vs Q E hr h => ?_, hm, F.bindsN bd⟩
  obtain ⟨t, h1, h2⟩ := body f cdv A outer s H vs Q E hr h
  exact ⟨t, h1.nox, h2⟩
theorem Cl.imp {sp' : Sp} (c : Cl P w K mg base k x st ps sp) (h : ∀ vs H Q E, sp' vs H Q E → sp vs H Q E) : Cl P w K mg base k x st ps sp' := by
  obtain ⟨f, fd, F, G, hm, b⟩ := c.ex
  exact ⟨f, fd, F, G.imp h, hm, b⟩
end
section
variable {X : Cx} {x : Str} {st : Stmt} {ps ks : List Str} {j k : Nat} {sp : Sp} {e : Expr} {es : List Expr} {kws : List Keyword} {t tk : TA} {p pos : Pos}
/-- f(e, ..) -/
theorem pe_u (c : Cl X.prog X.w X.K X.mg X.base k x st ps sp) (hr : Room j X.A) (hk : k ≤ j) (hg : Gl X x) (ha : PA X (e :: es) t)
    (hdb : (x == ("__debug__" : Str)) = false := by decide) (he : starEach (e :: es) X.env = (false, eval e X.env) :: starEach es X.env := by rfl) (hpl : (backTo pos (starEach es X.env)).any (·.1) = false := by rfl) :
    PE X (.Call (.Name x p) (e :: es) [] pos) (tCall sp [] E0 t) := by
  obtain ⟨f, fd, F, G, hm, b⟩ := c.ex
  exact pe_call G (hr.mono hk) hg hm F.kp b .nil pass0 ha hdb he hpl
def tKw (n : Nat) (sp : Sp) (g : List V → List V) (tk : TA) : TE := fun σ H Q => tk σ H fun zs H2 => zs.length = n ∧ sp (g zs) H2 Q E0
/-- f(k = e, ..) -/
theorem pe_uk (g : {α : Type} → List α → List α) (c : Cl X.prog X.w X.K X.mg X.base k x st ps sp) (hr : Room j X.A) (hk : k ≤ j) (hg : Gl X x)
    (bd : ∀ (kV doc pm : Value) (an : Option Addr) (cdv ct : Value) (ws : List Value), ws.length = ks.length → bindArgs (PySem.W.fnOf x x (defArgs st) (defBody st) (defScope st) .none kV doc pm an cdv ct) ⟨[], ks.zip ws⟩ = pure (ps.zip (g ws)))
    (rel : ∀ {zs : List V} {ws : List Value}, Vals zs ws → Vals (g zs) (g ws)) (hkw : PK X kws tk)
    (hall : (backToKw pos (keywordEach kws X.env)).all (·.1.isSome) = true := by rfl) (hks : (backToKw pos (keywordEach kws X.env)).filterMap (·.1) = ks := by rfl)
    (hdb : (x == ("__debug__" : Str)) = false := by decide) (hpl : ((backTo pos (starEach [] X.env)).any (·.1) || (backToKw pos (keywordEach kws X.env)).any (·.1.isNone)) = false := by rfl) :
    PE X (.Call (.Name x p) [] kws pos) (tKw ks.length sp g tk) := by
  obtain ⟨f, fd, F, G, hm, b⟩ := c.ex
  have kb : KBn X.K fd ps 0 ks (fun _ ws => g ws) (fun _ zs => g zs) := by
    obtain ⟨oc, od, dV, kV, doc, pm, an, cdv, ct, osl, rfl, lk, hcd, hD, hK⟩ := F.ex
    rcases hD with ⟨_, rfl⟩ | ⟨z, _⟩
    · refine ⟨fun s us ws X1 l1 l2 => ?_, fun _ r => rel r⟩
      have e0 : us = [] := List.length_eq_zero_iff.mp l1
      subst e0
      exact .of_eq (bd kV doc pm an cdv ct ws l2)
    · exact absurd rfl z
  refine ⟨fun pins s σ H Q I h => ?_⟩
  refine wpAny_Call_Name_kw (ld_glob I hg hm ?_ hdb)
  refine PySem.W.callWith_KW0 (h₀ := X.base) I.ok.mod.kin F.kp hall (thn (hkw.run pos pins s σ H _ I h) fun ws s2 ⟨zs, H2, I2, rz, l2, q2⟩ => ⟨I2.kIn, ?_⟩) hpl
  rw [hks]
  exact run_fnN G (hr.mono hk) kb pass0 I2 .nil rz rfl l2 q2
end
def swap2 {α : Type} : List α → List α
  | [a, b] => [b, a]
  | l => l
theorem rel_swap2 {zs : List V} {ws : List Value} (r : Vals zs ws) : Vals (swap2 zs) (swap2 ws) := by
  cases r with
  | nil => exact .nil
  | cons a r =>
    cases r with
    | nil => exact .cons a .nil
    | cons b r =>
      cases r with
      | nil => exact .cons b (.cons a .nil)
      | cons c r => exact .cons a (.cons b (.cons c r))
/-! ### rules whose readings name K alone (for the elements of comprehensions) -/
abbrev rLenS (K : PySem.W.Frag) : List V → Hp → VK → Prop := fun xs H Q => ∃ p ys, xs = [.ref p] ∧ (SqL K H p ys ∨ SqT K H p ys) ∧ Q (.int ys.length) H
theorem call_lenS {X : Cx} : CallR X (.builtin "len") (rLenS X.K) := call_len_seq
/-! ### a text times a number -/
theorem op_mul_str {X : Cx} : OpR X (binaryOp .Mult) (fun x y H Q => ∃ (z : Str) (n : Int), x = .str z ∧ y = .int n ∧ 1 ≤ n ∧ n ≤ 1000 ∧ z.length ≤ 1000 ∧ Q (.str (Txt.mul z n)) H) := by
  intro pins s σ H x y v u Q I rx ry h
  obtain ⟨z, n, rfl, rfl, h1, h2, h3, q⟩ := h
  obtain ⟨t, rfl⟩ := rx
  obtain ⟨t', rfl⟩ := ry
  refine SB.mul ⟨?_, fun _ _ => ?_, fun _ _ => ?_⟩ fun t2 k2 => ⟨.str (Txt.mul z n), H, I.tok k2, ⟨t2, rfl⟩, q⟩
  · rw [Bool.or_eq_false_iff]
    exact ⟨decide_eq_false (by omega), decide_eq_false (by omega)⟩
  · have e : (1000 : Int) ≤ (2 ^ 63 - 1) / n := Int.le_ediv_of_mul_le (by omega) (by omega)
    omega
  · unfold PySem.Builtin.Str.tooLong
    have e : z.length * n.toNat ≤ 1000 * 1000 := Nat.mul_le_mul h3 (by omega)
    exact decide_eq_false (by rw [Nat.not_lt]; exact Nat.le_trans e (by decide))
/-! ### heaps, pools, rows -/
theorem same_upd {H : Hp} {p : Addr} {o : HO} (h : H p = none) : Same H (upd H p o) := fun b x e => by
  rw [upd_ne (ne_of_none e h)]
  exact e
/-- all but a is as it was -/
def Kp (a : Addr) (H H' : Hp) : Prop := ∀ b o, H b = some o → b ≠ a → H' b = some o
theorem Kp.refl (a : Addr) (H : Hp) : Kp a H H := fun _ _ e _ => e
theorem Kp.trans {a : Addr} {H H1 H2 : Hp} (x : Kp a H H1) (y : Kp a H1 H2) : Kp a H H2 := fun b o e ne => y b o (x b o e ne) ne
theorem Kp.of_same {a : Addr} {H H1 : Hp} (x : Same H H1) : Kp a H H1 := fun b o e _ => x b o e
theorem Kp.upd {a p : Addr} {H H1 : Hp} {o : HO} (x : Kp a H H1) (h : H p = none) : Kp a H (L2.upd H1 p o) := fun b u e ne => by
  rw [upd_ne (ne_of_none e h)]
  exact x b u e ne
theorem Kp.free {a p : Addr} {H H1 : Hp} (x : Kp a H H1) (h : H1 p = none) (ne : p ≠ a) : H p = none := by
  cases e : H p with
  | none => rfl
  | some o =>
    rw [x p o e ne] at h
    cases h
/-- the pool at a -/
def Pool (H : Hp) (a : Addr) : Prop := ∃ s d n : Int, H a = some (.lst [.int s, .int d, .int n]) ∧ 0 ≤ s ∧ s < 2147483399 ∧ 0 ≤ d
theorem Pool.of {H H' : Hp} {a : Addr} (p : Pool H a) (e : ∀ o, H a = some o → H' a = some o) : Pool H' a := by
  obtain ⟨s, d, n, h, r⟩ := p
  exact ⟨s, d, n, e _ h, r⟩
theorem Pool.ne {H : Hp} {a p : Addr} (x : Pool H a) (h : H p = none) : p ≠ a := fun e => by
  obtain ⟨s, d, n, g, _⟩ := x
  subst e
  rw [h] at g
  cases g
theorem Pool.upd {H : Hp} {a p : Addr} {o : HO} (x : Pool H a) (ne : a ≠ p) : Pool (L2.upd H p o) a := x.of fun u e => by
  rw [upd_ne ne]
  exact e
/-- a row of people -/
structure Row (ns : List Int) : Prop where
  pos : 1 ≤ ns.length
  most : ns.length ≤ 12
  nd : ns.Nodup
  rng : ∀ x ∈ ns, 1 ≤ x ∧ x ≤ 999
theorem small_div {i j : Int} (h1 : 0 < j) (h2 : j ≤ 1000000) : Builtin.divisionGoesByPylong i j = false := by
  have hj : j.natAbs.log2 ≤ 20 := by
    have : j.natAbs < 2 ^ 21 := by omega
    have h3 := (Nat.log2_lt (by omega)).mpr this
    omega
  have h0 : ¬ (j == 0) = true := by simpa using (show j ≠ 0 by omega)
  show (decide ((if j == 0 then 0 else j.natAbs.log2 / 30 + 1) > 300) && _) = false
  rw [if_neg h0]
  have h4 : ¬ (j.natAbs.log2 / 30 + 1 > 300) := by omega
  rw [decide_eq_false h4]
  rfl
/-! ### ranges as lists of ints -/
def rg (a b : Int) : List Int := (List.range (b - a).toNat).map fun i => a + (i : Nat)
theorem rgV_rg (a b : Int) : rgV a b = (rg a b).map V.int := by
  unfold rgV rg
  rw [List.map_map]
  rfl
theorem rg_len (a b : Int) : (rg a b).length = (b - a).toNat := by
  unfold rg
  rw [List.length_map, List.length_range]
theorem rg_mem {a b x : Int} (h : x ∈ rg a b) : a ≤ x ∧ x < b := by
  unfold rg at h
  obtain ⟨i, hi, rfl⟩ := List.mem_map.mp h
  have := List.mem_range.mp hi
  omega
theorem nodup_map_inj {α β : Type} {f : α → β} (hf : ∀ x y, f x = f y → x = y) : ∀ {l : List α}, l.Nodup → (l.map f).Nodup
  | [], _ => List.nodup_nil
  | a :: l, h => by
    rw [List.map_cons, List.nodup_cons]
    rw [List.nodup_cons] at h
    refine ⟨fun hm => ?_, nodup_map_inj hf h.2⟩
    obtain ⟨y, hy, e⟩ := List.mem_map.mp hm
    rw [hf y a e] at hy
    exact h.1 hy
theorem rg_nodup (a b : Int) : (rg a b).Nodup := nodup_map_inj (fun x y e => by omega) List.nodup_range
theorem erase_perm : ∀ (l : List Int) (k : Nat) (h : k < l.length), (l[k] :: l.eraseIdx k).Perm l
  | a :: l, 0, _ => .refl _
  | a :: l, k + 1, h => by
    show (l[k]'(Nat.lt_of_succ_lt_succ h) :: a :: l.eraseIdx k).Perm (a :: l)
    exact (List.Perm.swap ..).trans (.cons a (erase_perm l k (Nat.lt_of_succ_lt_succ h)))
theorem eraseI : ∀ {l : List Int} {k : Nat}, (l.map V.int).eraseIdx k = (l.eraseIdx k).map V.int
  | [], _ => rfl
  | _ :: _, 0 => rfl
  | a :: l, k + 1 => by
    show V.int a :: (l.map V.int).eraseIdx k = V.int a :: (l.eraseIdx k).map V.int
    rw [eraseI]
/-- one is taken out of the left ones -/
theorem take_perm {taken left : List Int} {k : Nat} (h : k < left.length) : ((taken ++ [left[k]]) ++ left.eraseIdx k).Perm (taken ++ left) := by
  rw [List.append_assoc]
  exact (erase_perm left k h).append_left taken
theorem getI {l : List Int} {k : Nat} (h : k < l.length) : (l.map V.int)[k]? = some (.int l[k]) := by
  rw [List.getElem?_map, List.getElem?_eq_getElem h]
  rfl
theorem len_lt {n : Nat} (h : n ≤ 100000) : n < sizeLine := Nat.lt_of_le_of_lt h (by decide)
theorem seqIx {i : Int} {n : Nat} (h0 : 0 ≤ i) (h1 : i < n) : seqIndex? i n = some i.toNat := PySem.seqIndex_of h0 h1
/-! ### enumerate of a text -/
def goS (z : Str) : Nat → Hp → Prop := fun i _ => i < z.cps.size
def stopS (z : Str) : Nat → Hp → Prop := fun i _ => z.cps.size ≤ i
def isS (z : Str) : Nat → Hp → V → Prop := fun i _ x => ∃ c, z.cps[i]? = some c ∧ x = .str ⟨#[c]⟩
theorem feedS {P : Program} {w : World} {K : PySem.W.Frag} {z : Str} {t : Tok} {e it : Addr} (ne : e ≠ it) : Feed P w K e it (fun i h => h.IsStrIter it (strIterType z) z t i) (goS z) (stopS z) (isS z) where
  apart := ne
  lives := fun i h y => let ⟨o, ho, _, hd⟩ := y; ⟨o, ho, fun v q => by rw [hd] at q; cases q⟩
  stays := fun i h g y k => let ⟨o, ho, r⟩ := y; ⟨o, k o ho, r⟩
  more := by
    rintro X rfl rfl rfl calm i pins s σ H I at_ lt
    exact ⟨_, _, _, _, Draws.text (A := X.A.in1) (I.ok.hd calm) it z t, lt, at_, by simp [ne], fun h y => y, fun v ⟨c, u, hc, ev⟩ => ⟨.str ⟨#[c]⟩, ⟨u, ev⟩, c, hc, rfl⟩⟩
  ends := by
    rintro X rfl rfl rfl calm i pins s σ H I at_ le
    have none_ : z.cps[i]? = none := Array.getElem?_eq_none_iff.mpr le
    exact ⟨[it], fun _ _ => False, fun j h => j = i ∧ h.IsStrIter it (strIterType z) z t i,
      { live := fun _ _ y => let ⟨o, ho, _⟩ := y.2; ⟨o, ho⟩
        frame := fun _ _ _ y k => ⟨y.1, let ⟨o, ho, r⟩ := y.2; ⟨o, k it (by simp) o ho, r⟩⟩
        item := fun j _ _ _ lt y _ => absurd y.1 (Nat.ne_of_lt lt)
        done := fun _ _ _ y q => by
          have it2 := y.2
          unfold strIterType at it2
          split at it2
          · exact wpAny_nextOf_ascii_end (A := X.A.in1) (I.ok.hd calm) it2 none_ q
          · exact wpAny_nextOf_wide_end (A := X.A.in1) (I.ok.hd calm) it2 none_ q }, rfl, at_⟩
def iEnumS (ta : TA) : TI := fun σ H R => ta σ H fun vs H1 => ∃ z, vs = [.str z] ∧ R (ItE (goS z) (stopS z) (isS z)) H1
theorem pi_enumS {X : Cx} {x : Expr} {ta : TA} {p pos q : Pos} {l : List Expr} {c : Nat} (hg : Gl X "enumerate") (hm : X.mg "enumerate" = none) (ha : PA X [x] ta)
    (hs : starEach [x] X.env = [(false, eval x X.env)] := by rfl) : PI X (.Tuple l c q) (.Call (.Name "enumerate" p) [x] [] pos) (iEnumS ta) := ⟨fun pins s σ H R I h => by
  refine Call_ (ld_blt I hg hm boot_enumerate (PyProof.Rows.callWith_type1 (wpAny_mono (ha.run pos pins s σ H _ I h) (fun us s1 y => ?_) fun _ _ y => y) hs rfl))
  obtain ⟨vs, H1, I1, rs, z, rfl, r⟩ := y
  obtain ⟨t, rfl⟩ : ∃ t, us = [.str z t] := by
    match us, rs with
    | [_], .cons ⟨t, rfl⟩ .nil => exact ⟨t, rfl⟩
  refine callEnum1 (begins_text z t) trivial fun h2 en fed size old => wpAny_pyIter_enum en ?_
  have new : ∀ b ∈ [s1.heap.objs.size + 1, s1.heap.objs.size], s1.heap.objs.size ≤ b := fun b hb => by
    have two : b = s1.heap.objs.size + 1 ∨ b = s1.heap.objs.size := by simpa using hb
    omega
  exact ⟨_, _, _, _, H1, rfl, I1.kept (h' := h2) (t' := s1.toks) old, turnE (feedS (z := z) (t := t) (e := s1.heap.objs.size + 1) (it := s1.heap.objs.size) (Nat.succ_ne_self _)), ⟨⟨.none, en⟩, ⟨_, fed, rfl, rfl⟩⟩, fun b hb => I1.fpOk (new b hb) (I1.hok.fresh (new b hb)), r⟩⟩
theorem walk_enumS {z : Str} {g : TG} {tb : TS} {D : Ends} {σ : L2.St} {H : Hp} (Pv : Nat → L2.St → Hp → Prop) (h0 : Pv 0 σ H)
    (hs : ∀ i c T σ H, z.cps[i]? = some c → Pv i σ H → H T = none → g (.ref T) σ (upd H T (.tup [.int (i : Nat), .str ⟨#[c]⟩])) fun σ2 H2 => tb { D with nx := Pv (i + 1), ct := Pv (i + 1), bk := D.nx } σ2 H2) (hd : ∀ σ H, Pv z.cps.size σ H → D.nx σ H) :
    tFor (fun _ H R => R (ItE (goS z) (stopS z) (isS z)) H) g tb D σ H :=
  walkE z.cps.size Pv h0 (fun i σ H lt _ => lt) (fun σ H _ => Nat.le_refl _) (fun i x T σ H _ ix p n => by
    obtain ⟨c, hc, rfl⟩ := ix
    exact hs i c T σ H hc p n) hd
/-! ### kinds of values -/
def Tys : List String := ["NoneType", "int", "bool", "str", "list", "tuple", "dict"]
/-- v is of the built-in type T -/
structure Tv (K : PySem.W.Frag) (H : Hp) (v : V) (T : String) : Prop where
  ty : TyX K H v (.type T)
  mem : T ∈ Tys
theorem Tv.same {K : PySem.W.Frag} {H H' : Hp} {v : V} {T : String} (t : Tv K H v T) (e : Same H H') : Tv K H' v T := by
  refine ⟨?_, t.mem⟩
  cases t.ty with
  | base b =>
    cases b with
    | non => exact .base .non
    | bl x => exact .base (.bl x)
    | int i => exact .base (.int i)
    | str x => exact .base (.str x)
    | flt x => exact .base (.flt x)
    | lst h => exact .base (.lst (e _ _ h))
    | frz h => exact .base (.frz (e _ _ h))
    | tup h => exact .base (.tup (e _ _ h))
    | dK h => exact .base (.dK (e _ _ h))
    | dT h => exact .base (.dT (e _ _ h))
  | byt b => exact .byt b
  | set h => exact .set (e _ _ h)
  | kList h c => exact .kList h c
  | kTuple h c => exact .kTuple h c
  | kDict h c => exact .kDict h c
  | fTuple h => exact .fTuple (e _ _ h)
  | fDict h => exact .fDict (e _ _ h)
theorem Tv.int {K : PySem.W.Frag} {H : Hp} (i : Int) : Tv K H (.int i) "int" := ⟨.base (.int i), by decide⟩
theorem Tv.int_of {K : PySem.W.Frag} {H : Hp} {v : V} (t : Tv K H v "int") : ∃ i, v = .int i := by
  generalize hT : Value.type "int" = u at *
  have ty := t.ty
  rw [hT] at ty
  cases ty with
  | base b =>
    cases b with
    | int i => exact ⟨i, rfl⟩
    | _ => first | exact absurd (Value.type.inj hT) (by decide) | exact nomatch hT
  | _ => exact absurd (Value.type.inj hT) (by decide)
theorem Tv.of_int {K : PySem.W.Frag} {H : Hp} {i : Int} {T : String} (t : Tv K H (.int i) T) : T = "int" := by
  cases t.ty with
  | base b =>
    cases b with
    | int i => rfl
theorem SqT.same {K : PySem.W.Frag} {H H' : Hp} {a : Addr} {xs : List V} (e : Same H H') (h : SqT K H a xs) : SqT K H' a xs := by
  rcases h with (h | ⟨o, h⟩) | h
  · exact .inl (.inl (e _ _ h))
  · exact .inl (.inr ⟨o, e _ _ h⟩)
  · exact .inr h
theorem Tv.tup {K : PySem.W.Frag} {H : Hp} {a : Addr} {xs : List V} (h : SqT K H a xs) : Tv K H (.ref a) "tuple" := by
  refine ⟨?_, by decide⟩
  rcases h with (h | ⟨o, h⟩) | ⟨o, its, n, h, c, _⟩
  · exact .base (.tup h)
  · exact .fTuple h
  · exact .kTuple h c
theorem kit_int {K : PySem.W.Frag} {T : String} (h : T ∈ Tys) : PySem.W.kitOne K (.type T) (.type "int") = some (decide (T = "int") || decide (T = "bool")) := by
  have hs : ∀ S ∈ Tys, kitB S "int" = some (decide (S = "int") || decide (S = "bool")) := by decide +kernel
  exact kit_ty (hs T h)
theorem kit_bool {K : PySem.W.Frag} {T : String} (h : T ∈ Tys) : PySem.W.kitOne K (.type T) (.type "bool") = some (decide (T = "bool")) := by
  have hs : ∀ S ∈ Tys, kitB S "bool" = some (decide (S = "bool")) := by decide +kernel
  exact kit_ty (hs T h)
theorem kit_tuple {K : PySem.W.Frag} {T : String} (h : T ∈ Tys) : PySem.W.kitOne K (.type T) (.type "tuple") = some (decide (T = "tuple")) := by
  have hs : ∀ S ∈ Tys, kitB S "tuple" = some (decide (S = "tuple")) := by decide +kernel
  exact kit_ty (hs T h)
theorem kit_str {K : PySem.W.Frag} {T : String} (h : T ∈ Tys) : PySem.W.kitOne K (.type T) (.type "str") = some (decide (T = "str")) := by
  have hs : ∀ S ∈ Tys, kitB S "str" = some (decide (S = "str")) := by decide +kernel
  exact kit_ty (hs T h)
def heightB : V → Bool
  | .int i => decide (1 ≤ i) && decide (i ≤ 999)
  | _ => false
/-- the i-th is a height that stands not earlier -/
def okAt (xs : List V) (i : Nat) : Bool := match xs[i]? with
  | some x => heightB x && !inV x (xs.take i)
  | none => true
theorem heightB_int {x : V} (h : heightB x = true) : ∃ i, x = .int i ∧ 1 ≤ i ∧ i ≤ 999 := by
  cases x with
  | int i =>
    have h2 : (decide (1 ≤ i) && decide (i ≤ 999)) = true := h
    rw [Bool.and_eq_true] at h2
    exact ⟨i, rfl, of_decide_eq_true h2.1, of_decide_eq_true h2.2⟩
  | _ => cases h
theorem flat_of_ok {xs : List V} {i : Nat} (hi : i ≤ xs.length) (h : ∀ j < i, okAt xs j = true) : (xs.take i).all flatV = true := by
  rw [List.all_eq_true]
  intro x hx
  obtain ⟨j, hj, e⟩ := List.mem_take_iff_getElem.mp hx
  have hj2 : j < i := by omega
  have o := h j hj2
  unfold okAt at o
  rw [List.getElem?_eq_getElem (by omega)] at o
  have o2 := (Bool.and_eq_true_iff.mp o).1
  rw [e] at o2
  obtain ⟨n, rfl, _⟩ := heightB_int o2
  rfl
theorem inV_ints {n : Int} {ms : List Int} : inV (.int n) (ms.map V.int) = decide (n ∈ ms) := by
  unfold inV
  rw [List.any_map]
  by_cases h : n ∈ ms
  · rw [decide_eq_true h, List.any_eq_true]
    exact ⟨n, h, by show (n == n) = true; exact beq_self_eq_true n⟩
  · rw [decide_eq_false h, List.any_eq_false]
    intro x hx e
    have e2 : (x == n) = true := e
    rw [eq_of_beq e2] at hx
    exact h hx
theorem Row.ok {ns : List Int} (r : Row ns) (i : Nat) : okAt (ns.map V.int) i = true := by
  unfold okAt
  by_cases h : i < ns.length
  · rw [getI h]
    show (heightB (.int ns[i]) && !inV (.int ns[i]) ((ns.map V.int).take i)) = true
    have g := r.rng ns[i] (List.getElem_mem h)
    have e1 : heightB (.int ns[i]) = true := by
      show (decide (1 ≤ ns[i]) && decide (ns[i] ≤ 999)) = true
      rw [decide_eq_true g.1, decide_eq_true g.2]
      rfl
    rw [e1, ← List.map_take, inV_ints]
    have hn : ns[i] ∉ ns.take i := fun hm => by
      obtain ⟨j, hj, e⟩ := List.mem_take_iff_getElem.mp hm
      have := (List.getElem_inj r.nd).mp e
      omega
    rw [decide_eq_false hn]
    rfl
  · rw [List.getElem?_eq_none_iff.mpr (by rw [List.length_map]; omega)]
end Lp
namespace Lp
open PySem PySem.Spec PyProof.Rows L2
/-! ### the mathematics of passes -/
def code : Bool → Nat
  | true => 84
  | false => 83
/-- the text of a word -/
def wd (bs : List Bool) : Str := ⟨(bs.map code).toArray⟩
abbrev ltr (b : Bool) : Str := ⟨#[code b]⟩
theorem ltrT : Str.ofString "T" = ltr true := by decide +kernel
theorem ltrS : Str.ofString "S" = ltr false := by decide +kernel
theorem ltr_inj {a b : Bool} (h : ltr a = ltr b) : a = b := by
  cases a <;> cases b <;> first | rfl | exact absurd h (by decide +kernel)
theorem wd_len (bs : List Bool) : (wd bs).length = bs.length := by
  show (bs.map code).toArray.size = _
  rw [List.size_toArray, List.length_map]
theorem wd_get {bs : List Bool} {i c : Nat} (h : (wd bs).cps[i]? = some c) : ∃ b, bs[i]? = some b ∧ c = code b := by
  have h2 : (bs.map code)[i]? = some c := by
    rw [← List.getElem?_toArray]
    exact h
  rw [List.getElem?_map] at h2
  obtain ⟨b, e1, e2⟩ := Option.map_eq_some_iff.mp h2
  exact ⟨b, e1, e2.symm⟩
theorem wd_app (a b : List Bool) : wd a ++ wd b = wd (a ++ b) := by
  show (⟨(a.map code).toArray ++ (b.map code).toArray⟩ : Str) = ⟨((a ++ b).map code).toArray⟩
  rw [List.map_append, List.append_toArray]
def takes (b : Bool) (p s : Int) : Bool := if b then decide (s < p) else decide (p < s)
def stepW (b : Bool) (st : List Int × List Int × Int) (p : Int) : List Int × List Int × Int :=
  if takes b p st.2.2 = true then (st.1 ++ [st.2.2], st.2.1 ++ [st.2.2], p) else (st.1 ++ [p], st.2.1, st.2.2)
def runW (b : Bool) (x : Int) (xs : List Int) : List Int × List Int × Int := xs.foldl (stepW b) ([], [], x)
def passL (b : Bool) : List Int → List Int
  | [] => []
  | x :: xs => (runW b x xs).1 ++ [(runW b x xs).2.2]
def seatL (b : Bool) : List Int → List Int
  | [] => []
  | x :: xs => (runW b x xs).2.1 ++ [(runW b x xs).2.2]
def afterL (bs : List Bool) (ns : List Int) : List Int := bs.foldl (fun acc b => passL b acc) ns
theorem runW_perm (b : Bool) : ∀ (xs l s : List Int) (x : Int), ((xs.foldl (stepW b) (l, s, x)).1 ++ [(xs.foldl (stepW b) (l, s, x)).2.2]).Perm (l ++ x :: xs)
  | [], l, s, x => .refl _
  | p :: xs, l, s, x => by
    rw [List.foldl_cons, show stepW b (l, s, x) p = (if takes b p x = true then (l ++ [x], s ++ [x], p) else (l ++ [p], s, x)) from rfl]
    split
    · refine (runW_perm b xs _ _ _).trans ?_
      rw [List.append_assoc]
      exact .refl _
    · refine (runW_perm b xs _ _ _).trans ?_
      rw [List.append_assoc]
      exact (List.Perm.swap x p xs).append_left l
theorem passL_perm (b : Bool) : ∀ ns : List Int, (passL b ns).Perm ns
  | [] => .refl _
  | x :: xs => runW_perm b xs [] [] x
theorem Row.perm {ns ms : List Int} (r : Row ns) (h : ms.Perm ns) : Row ms :=
  ⟨by rw [h.length_eq]; exact r.pos, by rw [h.length_eq]; exact r.most, h.nodup_iff.mpr r.nd, fun x hx => r.rng x (h.mem_iff.mp hx)⟩
theorem Row.pass {ns : List Int} (r : Row ns) (b : Bool) : Row (passL b ns) := r.perm (passL_perm b ns)
theorem afterL_perm : ∀ (bs : List Bool) (ns : List Int), (afterL bs ns).Perm ns
  | [], ns => .refl _
  | b :: bs, ns => (afterL_perm bs (passL b ns)).trans (passL_perm b ns)
theorem Row.after {ns : List Int} (r : Row ns) (bs : List Bool) : Row (afterL bs ns) := r.perm (afterL_perm bs ns)
theorem afterL_app (a b : List Bool) (ns : List Int) : afterL (a ++ b) ns = afterL b (afterL a ns) := List.foldl_append ..
theorem afterL_take {bs : List Bool} {i : Nat} {b : Bool} (h : bs[i]? = some b) (ns : List Int) : afterL (bs.take (i + 1)) ns = passL b (afterL (bs.take i) ns) := by
  rw [List.take_add_one, h, afterL_app]
  rfl
theorem seatL_ne {b : Bool} {ns : List Int} (h : ns ≠ []) : seatL b ns ≠ [] := by
  cases ns with
  | nil => exact absurd rfl h
  | cons x xs =>
    unfold seatL
    simp
theorem runW_len (b : Bool) : ∀ (xs l s : List Int) (x : Int), (xs.foldl (stepW b) (l, s, x)).1.length = l.length + xs.length ∧ (xs.foldl (stepW b) (l, s, x)).2.1.length ≤ s.length + xs.length
  | [], l, s, x => ⟨rfl, Nat.le_refl _⟩
  | p :: xs, l, s, x => by
    rw [List.foldl_cons, show stepW b (l, s, x) p = (if takes b p x = true then (l ++ [x], s ++ [x], p) else (l ++ [p], s, x)) from rfl]
    split
    · have := runW_len b xs (l ++ [x]) (s ++ [x]) p
      simp only [List.length_append, List.length_cons, List.length_nil] at this ⊢
      omega
    · have := runW_len b xs (l ++ [p]) s x
      simp only [List.length_append, List.length_cons, List.length_nil] at this ⊢
      omega
theorem fold_take {α β : Type} {f : α → β → α} {xs : List β} {i : Nat} {x : β} {z : α} (h : xs[i]? = some x) : (xs.take (i + 1)).foldl f z = f ((xs.take i).foldl f z) x := by
  rw [List.take_add_one, h, List.foldl_append]
  rfl
theorem cut1 {x : V} {xs : List V} : cutV (x :: xs) (some 1) none = xs := by
  unfold cutV
  rw [show HT.sIx (x :: xs).length 0 (some 1) = min 1 (x :: xs).length from HT.sIx_nat (x :: xs).length 0 1, HT.sIx_none, List.length_cons, Nat.min_eq_left (by omega)]
  show (xs.take (xs.length + 1 - 1)) = xs
  rw [Nat.add_sub_cancel]
  exact List.take_length
def kindB (z : Str) : Bool := decide (z = ltr false) || decide (z = ltr true)
theorem kindB_ltr (b : Bool) : kindB (ltr b) = true := by cases b <;> decide +kernel
theorem inV_kinds (z : Str) : inV (.str z) [.str (ltr false), .str (ltr true)] = kindB z := by
  show ((ltr false == z) || ((ltr true == z) || false)) = kindB z
  unfold kindB
  rw [Bool.or_false]
  have h : ∀ a : Str, (a == z) = decide (z = a) := fun a => by
    by_cases e : z = a
    · subst e
      rw [decide_eq_true rfl, beq_self_eq_true]
    · rw [decide_eq_false e]
      exact beq_eq_false_iff_ne.mpr (Ne.symm e)
  rw [h, h]
theorem nw1 {n : Nat} (h : 1 ≤ n) : HT.sIx n 0 (some 1) ≠ 0 := by
  rw [show HT.sIx n 0 (some 1) = min 1 n from HT.sIx_nat n 0 1]
  omega
theorem cutS_take (bs : List Bool) (k : Nat) : cutS (wd bs) none (some (k : Nat)) = wd (bs.take k) := by
  unfold cutS
  rw [HT.sIx_none, HT.sIx_nat, wd_len]
  show (⟨((bs.map code).take (min k bs.length - 0)).toArray⟩ : Str) = ⟨((bs.take k).map code).toArray⟩
  rw [Nat.sub_zero, List.map_take]
  congr 2
  by_cases h : k ≤ bs.length
  · rw [Nat.min_eq_left h]
  · rw [Nat.min_eq_right (by omega), List.take_of_length_le (by rw [List.length_map]; omega), List.take_of_length_le (by rw [List.length_map]; omega)]
theorem foldl_single (c : Nat) : ∀ (n : Nat) (acc : Array Nat), (List.replicate n #[c]).foldl (· ++ ·) acc = acc ++ (List.replicate n c).toArray
  | 0, acc => by simp
  | n + 1, acc => by
    rw [List.replicate_succ, List.foldl_cons, foldl_single c n, List.replicate_succ]
    apply Array.ext'
    simp
theorem mul_ltr (b : Bool) (n : Nat) : Txt.mul (ltr b) ((n + 1 : Nat) : Int) = wd (List.replicate (n + 1) b) := by
  unfold Txt.mul
  rw [if_neg (by omega)]
  have e2 : wd (List.replicate (n + 1) b) = ⟨(List.replicate (n + 1) (code b)).toArray⟩ := by
    unfold wd
    rw [List.map_replicate]
  rw [e2]
  split
  · rename_i h
    rcases Bool.or_eq_true_iff.mp h with z | z
    · have := eq_of_beq z
      have hn : n = 0 := by omega
      subst hn
      rfl
    · have : (1 == 0) = true := z
      cases this
  · rw [Int.toNat_natCast]
    congr 1
    rw [foldl_single]
    simp
theorem Dp_ints {K : PySem.W.Frag} {H : Hp} : ∀ ns : List Int, DpAll K H (ns.map V.int) (ns.map PyData.int)
  | [] => .nil
  | n :: ns => .cons (.int n) (Dp_ints ns)
theorem Dp_row {K : PySem.W.Frag} {H : Hp} {a : Addr} {ns : List Int} (h : SqT K H a (ns.map V.int)) : Dp K H (.ref a) (.tuple (ns.map PyData.int)) := .tup h (Dp_ints ns)
theorem Dp_list {K : PySem.W.Frag} {H : Hp} {a : Addr} {ns : List Int} (h : SqL K H a (ns.map V.int)) : Dp K H (.ref a) (.list (ns.map PyData.int)) := .lst h (Dp_ints ns)
theorem lay_ints : ∀ ns : List Int, PyData.canLayAll0 (ns.map PyData.int) = true
  | [] => by simp only [List.map_nil, PyData.canLayAll0]
  | n :: ns => by simp only [List.map_cons, PyData.canLayAll0, PyData.canLay0, Bool.true_and, lay_ints ns]
theorem depth_ints : ∀ ns : List Int, PyData.depthAll (ns.map PyData.int) = 0
  | [] => by simp only [List.map_nil, PyData.depthAll]
  | n :: ns => by simp only [List.map_cons, PyData.depthAll, PyData.depth, depth_ints ns, Nat.max_self]
theorem lay_row (ns : List Int) : (PyData.tuple (ns.map PyData.int)).canLay0 = true := by simp only [PyData.canLay0, lay_ints]
theorem shaped_row (ns : List Int) : SeqAt.shaped (.tuple (ns.map PyData.int)) = true := by
  unfold SeqAt.shaped
  simp only [PyData.canLay0, PyData.depth, lay_ints, depth_ints]
  decide
theorem lay_list (ns : List Int) : (PyData.list (ns.map PyData.int)).canLay0 = true := by simp only [PyData.canLay0, lay_ints]
theorem shaped_list (ns : List Int) : SeqAt.shaped (.list (ns.map PyData.int)) = true := by
  unfold SeqAt.shaped
  simp only [PyData.canLay0, PyData.depth, lay_ints, depth_ints]
  decide
theorem eqv_row (ns : List Int) : PyData.eqv (.tuple (ns.map PyData.int)) (.tuple (ns.map PyData.int)) = true := SeqAt.eqv_refl _ (lay_row ns)
theorem eqv_list (ns : List Int) : PyData.eqv (.list (ns.map PyData.int)) (.list (ns.map PyData.int)) = true := SeqAt.eqv_refl _ (lay_list ns)
theorem all_true (n : Nat) : (List.replicate n true).all id = true := by
  rw [List.all_eq_true]
  intro x hx
  rw [(List.mem_replicate.mp hx).2]
  rfl
end Lp
/-! ### sorted of a tuple of ints -/
namespace Lp
open PySem PySem.Spec PyProof.Rows L2
section
variable {prog : Program} {w : World} {A : Around} {E : Value → Shared → Prop} {s : Shared}
/-- sorted(t): the items are gathered (the heap grows to some g), laid into a new list, and that list is put in order -/
theorem sortedT {t : Addr} {us : List Value} {ns : List Int} {Q : Value → Shared → Prop} (tup : s.heap.IsTuple t us.toArray) (nums : IntsAre us ns) (few : us.length < 64)
    (q : ∀ (g : Heap) (out : Array Value) (ms : List Int), (∀ b o, s.heap.get? b = some o → g.get? b = some o) → IntsAre out.toList ms → ms.Perm ns → ms.Pairwise (· ≤ ·) →
      Q (.ref g.objs.size) { s with heap := sortedHeap (g.push (seqObj "list" us.toArray 0)) g.objs.size us out }) :
    wpAny (model prog w) A (call (.builtin "sorted") [.ref t]) Q E s := by
  obtain ⟨o, ho, cls, m, dat⟩ := tup
  have small : us.toArray.size ≤ sizeLine := by
    rw [List.size_toArray]
    exact Nat.le_of_lt (len_lt (Nat.le_trans (Nat.le_of_lt few) (by decide)))
  refine Calls.call_function_entry kind_sorted plain_sorted entry_sorted (args_sorted1 (.ref t)) ?_
  unfold Builtin.«sorted»
  refine wpAny_bind (m := checkCount "sorted" 1 1 1) (wpAny_pure (wpAny_bind (wpAny_collect_seq t (.inr rfl) ho cls dat (fun g old => ?_) small)))
  refine wpAny_bind (wpAny_newList ?_ (by rw [← List.size_toArray]; exact small))
  have new : (g.push (seqObj "list" us.toArray 0)).get? g.objs.size = some (seqObj "list" us.toArray 0) := Heap.get?_push_size g rfl
  exact wpAny_bind (wpAny_holding (wpAny_call_entry slot_list_sort ⟨_, new, rfl⟩ entry_list_sort (list_sort_tree new nums few fun out ms i1 i2 i3 => ⟨_, rfl, wpAny_pure ⟨_, rfl, q g out ms old i1 i2 i3⟩⟩) (args_list_sort (.ref g.objs.size))))
end
def rSortedTp (K : PySem.W.Frag) : List V → Hp → VK → Prop := fun vs H Q => ∃ (a : Addr) (ns : List Int), vs = [V.ref a] ∧ SqT K H a (ns.map V.int) ∧ ns.length < 64 ∧
  ∀ (ms : List Int) (p : Addr), ms.Perm ns → ms.Pairwise (· ≤ ·) → H p = none → Q (.ref p) (upd H p (.lst (ms.map V.int)))
theorem cr_sortedTp {X : Cx} : CallR X (.builtin "sorted") (rSortedTp X.K) := fun pins s σ H vs us Q I r h => by
  obtain ⟨a, ns, rfl, sq, few, q⟩ := h
  obtain ⟨its, rv, tup, _⟩ := I.tuple sq
  rw [Vals.ref1 r]
  have nums := rv.ints
  refine sortedT tup nums (nums.length ▸ few) fun g out ms old i1 i2 i3 => ?_
  have I1 : Inv X pins σ H { s with heap := g } := I.kept (t' := s.toks) old
  have size : (ms.map V.int).length ≤ sizeLine := by
    rw [List.length_map, i2.length_eq]
    exact Nat.le_of_lt (len_lt (by omega))
  obtain ⟨ep, there⟩ := PyProof.Rows.sortedHeap_at (vs := its) (out := out) (Heap.get?_push_size g rfl : (g.push (seqObj "list" its.toArray 0)).get? g.objs.size = some (seqObj "list" its.toArray 0))
  have J := I1.laid (t' := s.toks) (a := g.objs.size) (o := .lst (ms.map V.int)) (h' := sortedHeap (g.push (seqObj "list" its.toArray 0)) g.objs.size its out) (fun b u z => by
    have lt := Heap.lt_size z
    rw [PyProof.Rows.sortedHeap_old (Nat.ne_of_lt lt) (by rw [size_push']; exact Nat.lt_succ_of_lt lt)]
    exact Heap.get?_push_of_some _ z) (Nat.le_refl _) ⟨size, out.toList, ep, vals_of_ints i1, there⟩
  exact ⟨.ref g.objs.size, _, J, rfl, q ms _ i2 i3 (I1.hok.fresh (Nat.le_refl _))⟩
end Lp
/-! ### promises of defs that are called where no repr is under way -/
namespace Lp
open PySem PySem.Spec PyProof.Rows L2
structure FnG (P : Program) (w : World) (K : PySem.W.Frag) (mg : Str → Option Value) (base : Heap) (k : Nat) (f : Addr) (fd : FuncData) (ps : List Str) (sp : Sp) : Prop where
  len : ∀ vs H Q E, sp vs H Q E → vs.length = ps.length
  run : ∀ (A : Around) (outer : List Env) (s : Shared) (H : Hp) (args : Args) (us : List Value) (vs : List V) (Q : VK) (E : XK), Room k A → A.guards = some [] → Env0 P w K mg base A outer s H →
    BindsTo s fd args (ps.zip us) → Vals vs us → sp vs H Q E → codeAny (model P w) A (.call (.ref f) args) (CR CX0 outer P w H s Q E) s
structure ClG (P : Program) (w : World) (K : PySem.W.Frag) (mg : Str → Option Value) (base : Heap) (k : Nat) (x : Str) (st : Stmt) (ps : List Str) (sp : Sp) : Prop where
  ex : ∃ f fd, FnP K x st f fd ∧ FnG P w K mg base k f fd ps sp ∧ mg x = some (.ref f) ∧ Binds K fd ps []
section
variable {P : Program} {w : World} {K : PySem.W.Frag} {mg : Str → Option Value} {base : Heap} {x : Str} {st : Stmt} {N ps : List Str} {k : Nat} {sp : Sp} {f : Addr}
theorem Df.okG (D : Df K mg x st) (S : FnScope N ps (defScope st))
    (bd : ∀ (kV doc pm : Value) (an : Option Addr) (cdv ct : Value) (us : List Value), us.length = ps.length → bindArgs (PySem.W.fnOf x x (defArgs st) (defBody st) (defScope st) .none kV doc pm an cdv ct) ⟨us, []⟩ = pure (ps.zip us))
    (len : ∀ vs H Q E, sp vs H Q E → vs.length = ps.length)
    (body : ∀ (f : Addr) (cdv : Value) (A : Around) (outer : List Env) (s : Shared) (H : Hp) (vs : List V) (Q : VK) (E : XK), Room k (A.deeper (envOfC x (defScope st) s.heap.objs.size f cdv)) → A.guards = some [] → sp vs H Q E →
      ∃ t, PSs (cxOf CX0 P w K mg base N x (defScope st) f cdv A outer s H E).nox (defBody st) t ∧ t { nx := fun _ H' => Q .non H', rt := Q } (start N vs) H) : ClG P w K mg base (k + 1) x st ps sp := by
  obtain ⟨f, fd, F, hm⟩ := D.ex
  refine ⟨f, fd, F, ?_, hm, F.bindsN bd⟩
  obtain ⟨oc, od, dV, kV, doc, pm, an, cdv, ct, osl, rfl, lk, hcd, _, _⟩ := F.ex
  refine ⟨len, fun A outer s H args us vs Q E hr hgd e0 hb rel hsp => ?_⟩
  have ln := len _ _ _ _ hsp
  have kx : K.In s.heap := e0.mod.kin.keeps fun b o e => (e0.bs b o e).1
  have nl : s.heap.NoLimit := e0.mod.nolimit.keeps fun b o e => (e0.bs b o e).1
  have kinds : ∀ y ∈ ps.zip us, (defScope st).names.lookup y.1 = some .local ∨ ((defScope st).names.lookup y.1 = some .cell ∧ ((cellsFrom (s.heap.objs.size + 1) (defScope st).names []).lookup y.1).isSome = true) := fun y hy => by
    obtain ⟨nm, vl⟩ := y
    rcases S.par nm (List.of_mem_zip hy).1 with z | z
    · exact Or.inl z
    · exact Or.inr ⟨z, PySem.W.cellsFrom_some _ _ _ (Or.inl z)⟩
  refine codeAny_call_function hr.depth (kx _ _ lk) rfl S.co S.gen rfl (PySem.W.codeRec_of kx hcd) (hb _ _ _ _ ?_)
  refine wpAny_newFunctionEnv_cells S.kind kinds fun env henv s1 xc => ?_
  subst henv
  refine ⟨nl.keeps xc.toInCall.keep, codeAny_func ?_⟩
  obtain ⟨t, ht, hq⟩ := body f cdv A outer s H vs Q E (hr.deeper _) hgd hsp
  have ini : L2.Inv (cxOf CX0 P w K mg base N x (defScope st) f cdv A outer s H E) [] (start N vs) H s1 := inv_start S hr.hd e0 ln rel xc
  refine wpAny_mono (ht.nox.run [] s1 (start N vs) H _ ini hq) (fun fl s2 hs => ?_) fun e s2 hs => hs
  have back : ∀ {σ2 : L2.St} {H2 : Hp} {v : V} {u : Value}, L2.Inv (cxOf CX0 P w K mg base N x (defScope st) f cdv A outer s H E) [] σ2 H2 s2 → RelV v u → Q v H2 → CE outer P w H s Q u s2 :=
    fun {σ2 H2 v u} J rv q => ⟨v, H2, J.os, J.bare, J.base, J.hok, rv, q⟩
  cases fl with
  | ret u =>
    obtain ⟨v, σ2, H2, J, rv, q⟩ := hs
    exact back J rv q
  | next =>
    obtain ⟨σ2, H2, J, q⟩ := hs
    exact back (v := V.non) (u := Value.none) J rfl q
  | brk =>
    obtain ⟨_, _, _, q⟩ := hs
    exact q.elim
  | cont =>
    obtain ⟨_, _, _, q⟩ := hs
    exact q.elim
theorem ClG.last (D : Df K mg x st) (hf : mg x = some (.ref f)) (c : ∀ base, ClG P w K mg base k x st ps sp) : ∃ fd, FnP K x st f fd ∧ ∀ base, FnG P w K mg base k f fd ps sp := by
  obtain ⟨f0, fd0, F0, m0⟩ := D.ex
  have e0 : f0 = f := Value.ref.inj (Option.some.inj (m0.symm.trans hf))
  subst e0
  refine ⟨fd0, F0, fun base => ?_⟩
  obtain ⟨f1, fd1, F1, G1, m1, _⟩ := (c base).ex
  have e1 : f1 = f0 := Value.ref.inj (Option.some.inj (m1.symm.trans hf))
  subst e1
  obtain ⟨_, _, _, _, _, _, _, _, _, _, _, l0, _⟩ := F0.ex
  obtain ⟨_, _, _, _, _, _, _, _, _, _, _, l1, _⟩ := F1.ex
  have e2 := l0.symm.trans l1
  simp only [Option.some.injEq, Obj.mk.injEq, Data.func.injEq] at e2
  rw [e2.2.2.1]
  exact G1
end
section
variable {X : Cx} {x : Str} {st : Stmt} {ps ks : List Str} {j k : Nat} {sp : Sp} {e : Expr} {es : List Expr} {t : TA} {p pos : Pos}
theorem pe_ug (c : ClG X.prog X.w X.K X.mg X.base k x st ps sp) (hr : Room j X.A) (hgd : X.A.guards = some []) (hk : k ≤ j) (hg : Gl X x) (ha : PA X (e :: es) t)
    (hdb : (x == ("__debug__" : Str)) = false := by decide) (he : starEach (e :: es) X.env = (false, eval e X.env) :: starEach es X.env := by rfl) (hpl : (backTo pos (starEach es X.env)).any (·.1) = false := by rfl) :
    PE X (.Call (.Name x p) (e :: es) [] pos) (tCall sp [] E0 t) := by
  obtain ⟨f, fd, F, G, hm, b⟩ := c.ex
  refine ⟨fun pins s σ H Q I h => wpAny_Call_Name_kw (ld_glob I hg hm ?_ hdb)⟩
  refine PySem.W.callWith_K (h₀ := X.base) I.ok.mod.kin F.kp (thn (ha.run pos pins s σ H _ I h) fun us s1 ⟨vs, H1, I1, rel, q⟩ => ⟨I1.kIn, ?_⟩) he hpl
  have q1 : sp vs H1 Q E0 := by
    have z : sp (vs ++ []) H1 Q E0 := q
    rw [List.append_nil] at z
    exact z
  have ln : (us ++ []).length = ps.length := by
    rw [List.append_nil, ← rel.length]
    exact G.len _ _ _ _ q1
  have bd := b s1 us I1.kIn ln
  rw [List.append_nil] at bd
  refine wpAny_call (codeAny_mono (G.run X.A X.stack s1 H1 ⟨us, []⟩ us vs Q E0 (hr.mono hk) hgd I1.env0 bd rel q1) fun res s2 hq => ?_)
  cases res with
  | error er => exact hq.elim
  | ok fl =>
    cases fl with
    | ret u => exact I1.after hq
    | next => exact hq.elim
    | brk => exact hq.elim
    | cont => exact hq.elim
end
/-- the law's own call, no repr under way -/
theorem lawCallG {P : Program} {w : World} {K : PySem.W.Frag} {mg mb : Str → Option Value} {k : Nat} {fa a : Addr} {fd : FuncData} {x : Str} {sp : Sp} {s1 : Shared} {vs : List Value} {ns : List Int}
    (kx : K.In s1.heap) (gns : s1.heap.Ns mainGlobals mg) (bns : s1.heap.Ns builtinsNs mb) (bbt : ∀ x : Str, x ≠ "__name__" → mb x = bootBuiltins x) (nlim : s1.heap.NoLimit) (gen0 : s1.gens = #[])
    (hob : s1.heap.get? a = some { cls := .type "list", data := .seq vs.toArray }) (hint : IntsAre vs ns) (hlen : ns.length ≤ sizeLine) (hr : Room k callerA)
    (F : ∀ base : Heap, FnG P w K mg base k fa fd [x] sp) (hbind : ∀ (s : Shared) (u : Value), BindsTo s fd ⟨[u], []⟩ [(x, u)])
    (hsp : ∀ H : Hp, SqL K H a (ns.map V.int) → sp [.ref a] H (fun v _ => v = .bl true) fun _ _ _ => False) :
    codeAny (model P w) callerA (.call (.ref fa) ⟨[.ref a], []⟩) (fun r s' => r = .ok (.ret (.bool true)) ∧ OldK s1.heap s'.heap ∧ s'.os = s1.os ∧ AllBare s'.gens) s1 := by
  have rel := vals_ints hint
  have lv := hint.length
  have main : ∀ H : Hp, SqL K H a (ns.map V.int) → HOk P w H s1.heap → (∀ b u, H b = some u → b = a ∧ K.lookup a = none ∧ ∃ xs, u = .frz { cls := .type "list", data := .seq vs.toArray } (.lst xs)) →
      codeAny (model P w) callerA (.call (.ref fa) ⟨[.ref a], []⟩) (fun r s' => r = .ok (.ret (.bool true)) ∧ OldK s1.heap s'.heap ∧ s'.os = s1.os ∧ AllBare s'.gens) s1 := by
    intro H hS hok only
    have free : ∀ {b : Addr} {o : Obj}, s1.heap.get? b = some o → o ≠ { cls := .type "list", data := .seq vs.toArray } → H b = none := fun {b o} e ne => by
      cases hb : H b with
      | none => rfl
      | some u =>
        obtain ⟨rfl, _, _⟩ := only b u hb
        rw [hob] at e
        exact absurd (Option.some.inj e).symm ne
    have nsk : ∀ {b : Addr} {m : Str → Option Value}, s1.heap.Ns b m → (hidT s1.heap H).Ns b m := fun {b m} z => by
      obtain ⟨o, es, ep, e, d, r⟩ := z
      exact ⟨o, es, ep, hidT_get e (free e fun q => by rw [q] at d; cases d), d, r⟩
    have kb : K.In (hidT s1.heap H) := fun b o e => hidT_get (kx b o e) (by
      cases hb : H b with
      | none => rfl
      | some u =>
        obtain ⟨rfl, z, _⟩ := only b u hb
        rw [z] at e
        cases e)
    obtain ⟨mc, c1, c2⟩ := nlim
    have md : Mod K mg (hidT s1.heap H) := ⟨kb, nsk gns, ⟨mb, nsk bns, bbt⟩, ⟨mc, nsk c1, c2⟩⟩
    have en : Env0 P w K mg (hidT s1.heap H) callerA [] s1 H := ⟨rfl, md, fun b o e => of_hidT e, Nat.le_of_eq (hidT_size _ _), trivial, fun b hb => absurd (show b ∈ ([] : List Addr) from hb) List.not_mem_nil, hok, .of_eq gen0⟩
    refine codeAny_mono ((F _).run callerA [] s1 H ⟨[.ref a], []⟩ [.ref a] [.ref a] _ _ hr rfl en (hbind s1 (.ref a)) (.cons rfl .nil) (hsp H hS)) fun r s2 h => ?_
    cases r with
    | error e => exact h.elim
    | ok fl =>
      cases fl with
      | next => exact h.elim
      | brk => exact h.elim
      | cont => exact h.elim
      | ret u =>
        obtain ⟨v, H2, os, bare, un, hok2, rv, q⟩ := h
        have q2 : v = .bl true := q
        subst q2
        obtain rfl : u = Value.bool true := rv
        refine ⟨rfl, OldK.of_keep fun b o e => ?_, os, bare⟩
        cases hb : H b with
        | none => exact un.keep b o e hb (fun z => absurd (show b ∈ ([] : List Addr) from z) List.not_mem_nil) List.not_mem_nil
        | some u =>
          obtain ⟨_, _, xs, rfl⟩ := only b u hb
          obtain ⟨z1, _⟩ := hok b _ hb
          obtain ⟨z2, _⟩ := hok2 b _ (un.frzs b _ _ hb)
          rw [z1] at e
          cases e
          exact z2
  cases hk : K.lookup a with
  | some o =>
    have e := kx a o hk
    rw [hob] at e
    cases e
    refine main (fun _ => none) (.inr ⟨_, vs.toArray, _, hk, rfl, rfl, rfl, by rw [List.size_toArray, lv]; exact hlen, by simpa using rel⟩) (fun b u z => nomatch z) fun b u z => nomatch z
  | none =>
    refine main (fun b => if b = a then some (.frz { cls := .type "list", data := .seq vs.toArray } (.lst (ns.map V.int))) else none) (.inl (.inr ⟨_, if_pos rfl⟩)) (fun b u z => ?_) fun b u z => ?_
    · by_cases hb : b = a
      · have z2 := (if_pos hb).symm.trans z
        cases z2
        subst hb
        exact ⟨hob, by rw [List.length_map]; exact hlen, vs, _, rel, hob⟩
      · have z2 := (if_neg hb).symm.trans z
        cases z2
    · by_cases hb : b = a
      · have z2 := (if_pos hb).symm.trans z
        cases z2
        exact ⟨hb, hk, _, rfl⟩
      · have z2 := (if_neg hb).symm.trans z
        cases z2
theorem walkG {l : PySem.W.OpenLaw} {n k : Nat} {q : Program} {loose : List Str} {XP : (Str → Option Value) → Heap → Prop} {YP : World → Heap → Prop} {d : DefRec} {x : Str}
    (hn : l.most = some n) (hn2 : n ≤ sizeLine) (hdf : d.params.defaults = []) (hr : Room k callerA)
    (F : ∀ (w : World) (mg : Str → Option Value) (fa : Addr) (h : Heap), YP w h → h.Ns mainGlobals mg → mg d.name = some (.ref fa) →
      ∃ (K : PySem.W.Frag) (fd : FuncData) (sp : Sp), K.In h ∧ (∀ (s : Shared) (u : Value), BindsTo s fd ⟨[u], []⟩ [(x, u)]) ∧
        (∀ (H : Hp) (a : Addr) (ns : List Int), ns.length ≤ n → SqL K H a (ns.map V.int) → sp [.ref a] H (fun v _ => v = .bl true) fun _ _ _ => False) ∧ ∀ base : Heap, FnG l.prog w K mg base k fa fd [x] sp) :
    PySem.W.WalkO q loose XP YP l.row.toRowW d [] (fun f vs => PySem.call f vs) := by
  refine Att.attach_call hn hdf fun w s0 s1 mg mb fa o pm cd doc a vs ns G Y ho hd hcd hmg hobj hints hlen hg => ?_
  obtain ⟨K, fd, sp, kx, hb, hsp, hF⟩ := F w mg fa _ Y G.T.g hmg
  exact lawCallG kx G.T.g G.T.b G.T.builtins G.T.nolimit hg hobj hints (Nat.le_trans hlen hn2) hr hF hb fun H hS => hsp H a ns hlen hS
/-! ### repr of data -/
def rReprD (K : PySem.W.Frag) : List V → Hp → VK → Prop := fun xs H Q => ∃ (v : V) (d : PyData), xs = [v] ∧ Dp K H v d ∧ d.canLay0 = true ∧ d.depth ≤ 60 ∧ d.showable = true ∧ d.shown.length ≤ sizeLine ∧ Q (.str d.shown) H
theorem call_reprD {X : Cx} {k : Nat} (hr : Room k X.A) (hgd : X.A.guards = some []) : CallR X (.builtin "repr") (rReprD X.K) := by
  intro pins s σ H xs us Q I r h
  obtain ⟨v, d, rfl, hd, hl, hdp, hs, hz, q⟩ := h
  obtain ⟨u, rfl, rv⟩ := vals1 r
  have fin : ∀ (h' : Heap) (t : Tok) (tk : Tok), (∀ b o, s.heap.get? b = some o → h'.get? b = some o) → EP X pins σ Q (.str d.shown t) { s with heap := h', toks := tk } := fun h' t tk hk =>
    ⟨.str d.shown, H, I.kept (t' := tk) hk, ⟨t, rfl⟩, q⟩
  have fin0 : ∀ (t tk : Tok), EP X pins σ Q (.str d.shown t) { s with toks := tk } := fun t tk => fin s.heap t tk fun _ _ e => e
  have hu := hr.un
  obtain ⟨as, rd⟩ := Dp.reads I d v u hd rv
  cases hd with
  | non =>
    cases rv
    exact PySem.P.repr_of_none (fin0 _ _)
  | bl b =>
    cases rv
    have z := fin0 s.toks (s.toks + 1)
    cases b <;> exact PySem.P.repr_of_bool z
  | int i =>
    obtain ⟨t, rfl⟩ := rv
    have hs2 : i.natAbs.log2 < 1920 := of_decide_eq_true hs
    exact PySem.P.repr_of_int hs2 (fin0 _ _)
  | str x =>
    obtain ⟨t, rfl⟩ := rv
    exact PySem.P.repr_of_str (fin0 _ _) hz
  | lst _ _ =>
    cases rv
    exact repr_of_reads' rd hs (PyData.noDict_hsm (PyData.hasDict_of_canLay _ hl)) hgd (by omega) (fun _ _ e => e) (fun h' t tk hk => fin h' t tk hk) hz
  | tup _ _ =>
    cases rv
    exact repr_of_reads' rd hs (PyData.noDict_hsm (PyData.hasDict_of_canLay _ hl)) hgd (by omega) (fun _ _ e => e) (fun h' t tk hk => fin h' t tk hk) hz
end Lp
namespace Lp
open PySem PySem.Spec PyProof.Rows L2
/-! ### parts of a text -/
def lcScope : Expr → Scope
  | .ListComp _ _ sc _ => sc
  | _ => { kind := .function, names := [], isGenerator := false, isCoroutine := false }
def asgVal : Stmt → Expr
  | .Assign _ v _ => v
  | _ => .Constant .none 0 ⟨0, 0, 0, 0⟩
/-! ### ranks and signs -/
def rk (ns : List Int) (x : Int) : Int := 1 + ((ns.filter fun y => decide (y < x)).length : Nat)
def ranksL (ns : List Int) : List Int := ns.map (rk ns)
theorem filter_lt_none : ∀ {l : List Int} {x : Int}, (∀ y ∈ l, x ≤ y) → (l.filter fun y => decide (y < x)) = []
  | [], _, _ => rfl
  | a :: l, x, h => by
    rw [List.filter_cons, decide_eq_false (by have := h a (List.mem_cons_self ..); omega)]
    exact filter_lt_none fun y hy => h y (List.mem_cons_of_mem _ hy)
theorem filter_sorted : ∀ {l : List Int} {j : Nat} (h : j < l.length), l.Pairwise (· ≤ ·) → l.Nodup → (l.filter fun y => decide (y < l[j])).length = j
  | a :: l, 0, _, hp, _ => by
    rw [List.pairwise_cons] at hp
    show ((a :: l).filter fun y => decide (y < a)).length = 0
    rw [filter_lt_none fun y hy => ?_]
    · rfl
    · rcases List.mem_cons.mp hy with z | z
      · omega
      · exact hp.1 y z
  | a :: l, j + 1, h, hp, hn => by
    rw [List.pairwise_cons] at hp
    rw [List.nodup_cons] at hn
    have h2 : j < l.length := Nat.lt_of_succ_lt_succ h
    show ((a :: l).filter fun y => decide (y < l[j])).length = j + 1
    have hm : l[j] ∈ l := List.getElem_mem h2
    have lt : a < l[j] := by
      have := hp.1 _ hm
      rcases Int.lt_or_eq_of_le this with z | z
      · exact z
      · rw [z] at hn
        exact absurd hm hn.1
    rw [List.filter_cons, decide_eq_true lt]
    show ((l.filter fun y => decide (y < l[j])).length) + 1 = j + 1
    rw [filter_sorted h2 hp.2 hn.2]
theorem rk_sorted {ns ms : List Int} (hp : ms.Perm ns) (hs : ms.Pairwise (· ≤ ·)) (hn : ms.Nodup) {j : Nat} (h : j < ms.length) : rk ns ms[j] = 1 + (j : Nat) := by
  unfold rk
  rw [← (hp.filter fun y => decide (y < ms[j])).length_eq, filter_sorted h hs hn]
def sg (b : Bool) : Str := if b then Str.ofString "1" else Str.ofString "0"
def sgL (ns : List Int) (h : Int) : List Str := ns.map fun x => sg (decide (h ≤ x))
def signS (ns : List Int) (h : Int) : Str := Txt.join (Str.ofString "") (sgL ns h)
theorem sgL_len (ns : List Int) (h : Int) : ((sgL ns h).map (·.length)).sum + (sgL ns h).length * (Str.ofString "").length ≤ ns.length := by
  have e0 : (Str.ofString "").length = 0 := by decide +kernel
  rw [e0, Nat.mul_zero, Nat.add_zero]
  unfold sgL
  induction ns with
  | nil => exact Nat.le_refl _
  | cons a l ih =>
    rw [List.map_cons, List.map_cons, List.sum_cons, List.length_cons]
    have e1 : (sg (decide (h ≤ a))).length = 1 := by
      unfold sg
      split <;> decide +kernel
    rw [e1]
    omega
theorem take_succ_map {α β : Type} {f : α → β} {l : List α} {i : Nat} (h : i < l.length) : ((l.take (i + 1)).map f) = (l.take i).map f ++ [f l[i]] := by
  rw [List.take_add_one, List.getElem?_eq_getElem h, List.map_append]
  rfl
theorem take_succ_filter {p : Int → Bool} {l : List Int} {i : Nat} (h : i < l.length) : ((l.take (i + 1)).filter p) = if p l[i] = true then (l.take i).filter p ++ [l[i]] else (l.take i).filter p := by
  rw [List.take_add_one, List.getElem?_eq_getElem h, List.filter_append]
  show _ ++ ([l[i]].filter p) = _
  cases hp : p l[i] with
  | true => rw [if_pos rfl]; simp [hp]
  | false => rw [if_neg (by decide)]; simp [hp]
end Lp
namespace Lp
open PySem PySem.Spec PyProof.Rows L2
/-! ### repr of rows -/
abbrev rowS (ns : List Int) : Str := (PyData.tuple (ns.map PyData.int)).shown
theorem small_log {x : Int} (h : 1 ≤ x ∧ x ≤ 999) : x.natAbs.log2 < 1920 := by
  have h1 : x.natAbs < 2 ^ 10 := by omega
  have h2 := (Nat.log2_lt (by omega)).mpr h1
  omega
theorem showable_ints : ∀ {ns : List Int}, (∀ x ∈ ns, x.natAbs.log2 < 1920) → PyData.showableAll (ns.map PyData.int) = true
  | [], _ => by simp only [List.map_nil, PyData.showableAll]
  | n :: ns, h => by
    simp only [List.map_cons, PyData.showableAll, PyData.showable, Bool.and_eq_true]
    exact ⟨decide_eq_true (h n (List.mem_cons_self ..)), showable_ints fun x hx => h x (List.mem_cons_of_mem _ hx)⟩
theorem piled_ints : ∀ {ns : List Int}, (∀ x ∈ ns, x.natAbs.log2 < 1920) → piled (PyData.shownAll (ns.map PyData.int)) ≤ 1923 * ns.length
  | [], _ => by simp only [List.map_nil, PyData.shownAll, piled_nil, List.length_nil]; omega
  | n :: ns, h => by
    simp only [List.map_cons, PyData.shownAll, PyData.shown, piled_cons, List.length_cons]
    have h1 := int_text_len_1921 (h n (List.mem_cons_self ..))
    have h2 := piled_ints fun x hx => h x (List.mem_cons_of_mem _ hx)
    have h3 : (toString n : Str).length ≤ 1921 := h1
    omega
theorem row_dep (ns : List Int) : (PyData.tuple (ns.map PyData.int)).depth ≤ 60 := by
  simp only [PyData.depth, depth_ints]
  decide
theorem row_showI {ns : List Int} (hx : ∀ x ∈ ns, x.natAbs.log2 < 1920) : (PyData.tuple (ns.map PyData.int)).showable = true := by
  simp only [PyData.showable]
  exact showable_ints hx
theorem row_lenI {ns : List Int} (hl : ns.length ≤ 1000) (hx : ∀ x ∈ ns, x.natAbs.log2 < 1920) : (PyData.tuple (ns.map PyData.int)).shown.length ≤ sizeLine := by
  simp only [PyData.shown]
  have h1 := fmt_text (PyData.shownAll (ns.map PyData.int))
  have h2 := piled_ints hx
  rw [sizeLine_eq]
  omega
theorem row_show {ns : List Int} (r : Row ns) : (PyData.tuple (ns.map PyData.int)).showable = true := row_showI fun x hx => small_log (r.rng x hx)
theorem row_len {ns : List Int} (r : Row ns) : (PyData.tuple (ns.map PyData.int)).shown.length ≤ sizeLine := row_lenI (Nat.le_trans r.most (by decide)) fun x hx => small_log (r.rng x hx)
theorem run_mem (b : Bool) : ∀ (xs l s : List Int) (x : Int), (xs.foldl (stepW b) (l, s, x)).2.2 ∈ x :: xs
  | [], l, s, x => List.mem_cons_self ..
  | p :: xs, l, s, x => by
    rw [List.foldl_cons, show stepW b (l, s, x) p = (if takes b p x = true then (l ++ [x], s ++ [x], p) else (l ++ [p], s, x)) from rfl]
    split
    · exact List.mem_cons_of_mem _ (run_mem b xs _ _ p)
    · rcases List.mem_cons.mp (run_mem b xs (l ++ [p]) s x) with z | z
      · rw [z]
        exact List.mem_cons_self ..
      · exact List.mem_cons_of_mem _ (List.mem_cons_of_mem _ z)
theorem takes_eq {b : Bool} {p s : Int} (h : p ≠ s) : takes b p s = (decide (s < p) == b) := by
  unfold takes
  cases b with
  | true =>
    rw [if_pos rfl]
    cases decide (s < p) <;> rfl
  | false =>
    rw [if_neg (by decide)]
    by_cases z : s < p
    · rw [decide_eq_true z, decide_eq_false (by omega)]
      rfl
    · rw [decide_eq_false z, decide_eq_true (by omega)]
      rfl
theorem kindT (b : Bool) : decide (V.str (ltr b) = V.str (Str.ofString "T")) = b := by
  rw [ltrT]
  cases b with
  | true => exact decide_eq_true rfl
  | false => exact decide_eq_false fun z => absurd (ltr_inj (V.str.inj z)) (by decide)
theorem bl_eq (x y : Bool) : decide (V.bl x = V.bl y) = (x == y) := by
  cases x <;> cases y <;> rfl
end Lp
namespace Lp
open PySem PySem.Spec PyProof.Rows L2
/-! ### who sits down -/
def recB (b : Bool) (E : List Int) (p : Int) : Bool := E.all fun o => decide (o < p) == b
def dueUp (b : Bool) (ns : List Int) : Nat → List Int
  | 0 => []
  | i + 1 => if recB b (ns.take i) (ns.getD i 0) = true then dueUp b ns i ++ [ns.getD i 0] else dueUp b ns i
/-- s is the greatest (the least) so far -/
def Ext (b : Bool) (s : Int) (E : List Int) : Prop := s ∈ E ∧ ∀ o ∈ E, if b then o ≤ s else s ≤ o
theorem recB_takes {b : Bool} {s p : Int} {E : List Int} (h : Ext b s E) (hp : p ∉ E) : recB b E p = takes b p s := by
  obtain ⟨hs, he⟩ := h
  unfold recB takes
  cases b with
  | true =>
    rw [if_pos rfl]
    by_cases z : s < p
    · rw [decide_eq_true z, List.all_eq_true]
      intro o ho
      have h1 : o ≤ s := he o ho
      rw [decide_eq_true (by omega)]
      rfl
    · rw [decide_eq_false z, List.all_eq_false]
      refine ⟨s, hs, ?_⟩
      rw [decide_eq_false z]
      decide
  | false =>
    rw [if_neg (by decide)]
    have ne : p ≠ s := fun e => hp (e ▸ hs)
    by_cases z : p < s
    · rw [decide_eq_true z, List.all_eq_true]
      intro o ho
      have h1 : s ≤ o := he o ho
      rw [decide_eq_false (by omega)]
      rfl
    · rw [decide_eq_false z, List.all_eq_false]
      refine ⟨s, hs, ?_⟩
      rw [decide_eq_true (by omega)]
      decide
theorem run_ext (b : Bool) (x : Int) (xs : List Int) : ∀ i, i ≤ xs.length → Ext b ((xs.take i).foldl (stepW b) ([], [], x)).2.2 (x :: xs.take i)
  | 0, _ => ⟨List.mem_cons_self .., fun o ho => by
      rw [List.take_zero] at ho
      rw [List.mem_singleton.mp ho]
      show if b then x ≤ x else x ≤ x
      split <;> exact Int.le_refl _⟩
  | i + 1, h => by
    have lt : i < xs.length := h
    obtain ⟨hs, he⟩ := run_ext b x xs i (Nat.le_of_lt lt)
    rw [fold_take (List.getElem?_eq_getElem lt)]
    have tk : x :: xs.take (i + 1) = (x :: xs.take i) ++ [xs[i]] := by
      rw [List.take_add_one, List.getElem?_eq_getElem lt]
      rfl
    rw [tk]
    generalize (xs.take i).foldl (stepW b) ([], [], x) = r at hs he
    rw [show stepW b r xs[i] = (if takes b xs[i] r.2.2 = true then (r.1 ++ [r.2.2], r.2.1 ++ [r.2.2], xs[i]) else (r.1 ++ [xs[i]], r.2.1, r.2.2)) from rfl]
    by_cases ht : takes b xs[i] r.2.2 = true
    · rw [if_pos ht]
      refine ⟨List.mem_append_right _ (List.mem_singleton_self _), fun o ho => ?_⟩
      show if b then o ≤ xs[i] else xs[i] ≤ o
      unfold takes at ht
      cases b with
      | true =>
        rw [if_pos rfl] at ht ⊢
        have h1 := of_decide_eq_true ht
        rcases List.mem_append.mp ho with z | z
        · have h2 : o ≤ r.2.2 := he o z
          omega
        · rw [List.mem_singleton.mp z]
          omega
      | false =>
        rw [if_neg (by decide)] at ht ⊢
        have h1 := of_decide_eq_true ht
        rcases List.mem_append.mp ho with z | z
        · have h2 : r.2.2 ≤ o := he o z
          omega
        · rw [List.mem_singleton.mp z]
          omega
    · rw [if_neg ht]
      refine ⟨List.mem_append_left _ hs, fun o ho => ?_⟩
      show if b then o ≤ r.2.2 else r.2.2 ≤ o
      unfold takes at ht
      cases b with
      | true =>
        rw [if_pos rfl] at ht ⊢
        have h1 : ¬ r.2.2 < xs[i] := fun z => ht (decide_eq_true z)
        rcases List.mem_append.mp ho with z | z
        · exact he o z
        · rw [List.mem_singleton.mp z]
          omega
      | false =>
        rw [if_neg (by decide)] at ht ⊢
        have h1 : ¬ xs[i] < r.2.2 := fun z => ht (decide_eq_true z)
        rcases List.mem_append.mp ho with z | z
        · exact he o z
        · rw [List.mem_singleton.mp z]
          omega
theorem dueUp_run (b : Bool) {x : Int} {xs : List Int} (nd : (x :: xs).Nodup) : ∀ i, i ≤ xs.length → dueUp b (x :: xs) (i + 1) = ((xs.take i).foldl (stepW b) ([], [], x)).2.1 ++ [((xs.take i).foldl (stepW b) ([], [], x)).2.2]
  | 0, _ => rfl
  | i + 1, h => by
    have lt : i < xs.length := h
    have ih := dueUp_run b nd i (Nat.le_of_lt lt)
    have ex := run_ext b x xs i (Nat.le_of_lt lt)
    have gd : (x :: xs).getD (i + 1) 0 = xs[i] := by
      rw [List.getD_cons_succ, List.getD_eq_getElem?_getD, List.getElem?_eq_getElem lt]
      rfl
    have hp : xs[i] ∉ x :: xs.take i := fun hm => by
      rw [List.nodup_cons] at nd
      rcases List.mem_cons.mp hm with z | z
      · rw [← z] at nd
        exact nd.1 (List.getElem_mem lt)
      · obtain ⟨j, hj, e⟩ := List.mem_take_iff_getElem.mp z
        have := (List.getElem_inj nd.2).mp e
        omega
    show (if recB b ((x :: xs).take (i + 1)) ((x :: xs).getD (i + 1) 0) = true then dueUp b (x :: xs) (i + 1) ++ [(x :: xs).getD (i + 1) 0] else dueUp b (x :: xs) (i + 1)) = _
    rw [gd, show (x :: xs).take (i + 1) = x :: xs.take i from rfl, recB_takes ex hp, ih, fold_take (List.getElem?_eq_getElem lt)]
    generalize (xs.take i).foldl (stepW b) ([], [], x) = r
    rw [show stepW b r xs[i] = (if takes b xs[i] r.2.2 = true then (r.1 ++ [r.2.2], r.2.1 ++ [r.2.2], xs[i]) else (r.1 ++ [xs[i]], r.2.1, r.2.2)) from rfl]
    split <;> rfl
theorem dueUp_seat (b : Bool) {ns : List Int} (r : Row ns) : dueUp b ns ns.length = seatL b ns := by
  cases ns with
  | nil => exact absurd r.pos (by decide)
  | cons x xs =>
    have z := dueUp_run b r.nd xs.length (Nat.le_refl _)
    rw [List.take_length] at z
    exact z
theorem dueUp_len (b : Bool) (ns : List Int) : ∀ i, (dueUp b ns i).length ≤ i
  | 0 => Nat.le_refl _
  | i + 1 => by
    have := dueUp_len b ns i
    unfold dueUp
    split
    · rw [List.length_append]
      show _ + 1 ≤ _
      omega
    · omega
theorem dueUp_succ (b : Bool) {ns : List Int} {i : Nat} (h : i < ns.length) : dueUp b ns (i + 1) = if recB b (ns.take i) ns[i] = true then dueUp b ns i ++ [ns[i]] else dueUp b ns i := by
  have gd : ns.getD i 0 = ns[i] := by
    rw [List.getD_eq_getElem?_getD, List.getElem?_eq_getElem h]
    rfl
  show (if recB b (ns.take i) (ns.getD i 0) = true then dueUp b ns i ++ [ns.getD i 0] else dueUp b ns i) = _
  rw [gd]
/-- the last of the row behind a pass is the last who sat -/
theorem lasts (b : Bool) {ns : List Int} (h : 1 ≤ ns.length) : ∃ (z : Int) (ps ss : List Int), passL b ns = ps ++ [z] ∧ seatL b ns = ss ++ [z] := by
  cases ns with
  | nil => exact absurd h (by decide)
  | cons x xs => exact ⟨_, _, _, rfl, rfl⟩
theorem seat_mem (b : Bool) {ns : List Int} (r : Row ns) : ∀ x ∈ seatL b ns, x ∈ ns := by
  rw [← dueUp_seat b r]
  have go : ∀ i, i ≤ ns.length → ∀ x ∈ dueUp b ns i, x ∈ ns := by
    intro i
    induction i with
    | zero => intro _ x hx; cases hx
    | succ i ih =>
      intro h x hx
      rw [dueUp_succ b h] at hx
      split at hx
      · rcases List.mem_append.mp hx with z | z
        · exact ih (Nat.le_of_succ_le h) x z
        · rw [List.mem_singleton.mp z]
          exact List.getElem_mem _
      · exact ih (Nat.le_of_succ_le h) x hx
  exact go _ (Nat.le_refl _)
theorem seat_log (b : Bool) {ns : List Int} (r : Row ns) : ∀ x ∈ seatL b ns, x.natAbs.log2 < 1920 := fun x hx => small_log (r.rng x (seat_mem b r x hx))
theorem seat_le (b : Bool) {ns : List Int} (r : Row ns) : (seatL b ns).length ≤ 1000 := by
  rw [← dueUp_seat b r]
  have h1 := dueUp_len b ns ns.length
  have h2 := r.most
  omega
theorem all_recB (b : Bool) (E : List Int) (p : Int) : (E.map fun o => decide (o < p) == b).all id = recB b E p := by
  rw [List.all_map]
  rfl
end Lp
namespace Lp
open PySem PySem.Spec PyProof.Rows L2
/-! ### texts of words -/
theorem fold_ltr : ∀ (bs : List Bool) (acc : Array Nat), (bs.map ltr).foldl (fun acc p => acc ++ (Str.ofString "").cps ++ p.cps) acc = acc ++ (bs.map code).toArray
  | [], acc => by simp
  | b :: bs, acc => by
    rw [List.map_cons, List.foldl_cons, fold_ltr bs]
    have e0 : (Str.ofString "").cps = #[] := by decide +kernel
    rw [e0]
    apply Array.ext'
    simp
theorem join_wd : ∀ bs : List Bool, Txt.join (Str.ofString "") (bs.map ltr) = wd bs
  | [] => by decide +kernel
  | b :: bs => by
    show (⟨(bs.map ltr).foldl (fun acc p => acc ++ (Str.ofString "").cps ++ p.cps) (ltr b).cps⟩ : Str) = wd (b :: bs)
    rw [fold_ltr]
    show (⟨#[code b] ++ (bs.map code).toArray⟩ : Str) = ⟨((b :: bs).map code).toArray⟩
    congr 1
    apply Array.ext'
    simp
theorem fold_wd (bs : List Bool) : ∀ (n : Nat) (acc : Array Nat), (List.replicate n (wd bs).cps).foldl (· ++ ·) acc = acc ++ ((List.replicate n bs).flatten.map code).toArray
  | 0, acc => by simp
  | n + 1, acc => by
    rw [List.replicate_succ, List.foldl_cons, fold_wd bs n, List.replicate_succ]
    apply Array.ext'
    simp [wd]
theorem mul_wd {bs : List Bool} {n : Nat} (hn : 2 ≤ n) (hb : bs ≠ []) : Txt.mul (wd bs) ((n : Nat) : Int) = wd (List.replicate n bs).flatten := by
  unfold Txt.mul
  rw [if_neg (by omega)]
  have e1 : ((((n : Nat) : Int) == 1) || ((wd bs).length == 0)) = false := by
    rw [Bool.or_eq_false_iff]
    refine ⟨beq_eq_false_iff_ne.mpr (by omega), beq_eq_false_iff_ne.mpr ?_⟩
    rw [wd_len]
    intro z
    exact hb (List.length_eq_zero_iff.mp z)
  rw [if_neg (by rw [e1]; decide), Int.toNat_natCast, fold_wd]
  unfold wd
  congr 1
  simp
theorem sumlen_ltr (bs : List Bool) : ((bs.map ltr).map (·.length)).sum + (bs.map ltr).length * (Str.ofString "").length = bs.length := by
  have e0 : (Str.ofString "").length = 0 := by decide +kernel
  rw [e0, Nat.mul_zero, Nat.add_zero]
  induction bs with
  | nil => rfl
  | cons b bs ih =>
    rw [List.map_cons, List.map_cons, List.sum_cons, ih, List.length_cons]
    show 1 + bs.length = bs.length + 1
    omega
theorem flat_len (n : Nat) (bs : List Bool) : (List.replicate n bs).flatten.length = n * bs.length := by
  induction n with
  | zero => simp
  | succ n ih =>
    rw [List.replicate_succ, List.flatten_cons, List.length_append, ih, Nat.succ_mul]
    omega
theorem wdTTSTS : Str.ofString "TTSTS" = wd [true, true, false, true, false] := by decide +kernel
theorem wdS : Str.ofString "S" = wd [false] := by decide +kernel
theorem wdNil : Str.ofString "" = wd [] := by decide +kernel
theorem ltr_wd (b : Bool) : ltr b = wd [b] := rfl
end Lp
namespace Lp
open PySem PySem.Spec PyProof.Rows L2
/-! ### rows told -/
def rowB (xs : List V) : Bool := decide (1 ≤ xs.length) && (decide (xs.length ≤ 12) && (List.range xs.length).all (okAt xs))
theorem rowB_true {xs : List V} (h1 : 1 ≤ xs.length) (h2 : xs.length ≤ 12) (h : ∀ i, i < xs.length → okAt xs i = true) : rowB xs = true := by
  unfold rowB
  rw [decide_eq_true h1, decide_eq_true h2, Bool.true_and, Bool.true_and, List.all_eq_true]
  exact fun i hi => h i (List.mem_range.mp hi)
theorem rowB_bad {xs : List V} {i : Nat} (hi : i < xs.length) (h : okAt xs i = false) : rowB xs = false := by
  unfold rowB
  have e : (List.range xs.length).all (okAt xs) = false := by
    rw [List.all_eq_false]
    exact ⟨i, List.mem_range.mpr hi, by rw [h]; decide⟩
  rw [e, Bool.and_false, Bool.and_false]
theorem rowB_len {xs : List V} (h : ¬ (1 ≤ xs.length ∧ xs.length ≤ 12)) : rowB xs = false := by
  unfold rowB
  by_cases h1 : 1 ≤ xs.length
  · rw [decide_eq_false (fun z => h ⟨h1, z⟩), Bool.false_and, Bool.and_false]
  · rw [decide_eq_false h1, Bool.false_and]
theorem Row.rowB {ns : List Int} (r : Row ns) : rowB (ns.map V.int) = true :=
  rowB_true (by rw [List.length_map]; exact r.pos) (by rw [List.length_map]; exact r.most) fun i _ => r.ok i
/-! ### odd values -/
theorem Tv.kp {K : PySem.W.Frag} {a : Addr} {H H' : Hp} {v : V} {T : String} (t : Tv K H v T) (ne : v ≠ .ref a) (e : Kp a H H') : Tv K H' v T := by
  refine ⟨?_, t.mem⟩
  have go : ∀ {b : Addr} {o : HO}, v = .ref b → H b = some o → H' b = some o := fun {b o} ev h => e b o h fun z => ne (by rw [ev, z])
  cases t.ty with
  | base b =>
    cases b with
    | non => exact .base .non
    | bl x => exact .base (.bl x)
    | int i => exact .base (.int i)
    | str x => exact .base (.str x)
    | flt x => exact .base (.flt x)
    | lst h => exact .base (.lst (go rfl h))
    | frz h => exact .base (.frz (go rfl h))
    | tup h => exact .base (.tup (go rfl h))
    | dK h => exact .base (.dK (go rfl h))
    | dT h => exact .base (.dT (go rfl h))
  | byt b => exact .byt b
  | set h => exact .set (go rfl h)
  | kList h c => exact .kList h c
  | kTuple h c => exact .kTuple h c
  | kDict h c => exact .kDict h c
  | fTuple h => exact .fTuple (go rfl h)
  | fDict h => exact .fDict (go rfl h)
/-- typed, and not the pool itself -/
structure Od (K : PySem.W.Frag) (a : Addr) (H : Hp) (v : V) : Prop where
  ty : ∃ T, Tv K H v T
  ne : v ≠ .ref a
theorem Od.kp {K : PySem.W.Frag} {a : Addr} {H H' : Hp} {v : V} (o : Od K a H v) (e : Kp a H H') : Od K a H' v := by
  obtain ⟨⟨T, t⟩, ne⟩ := o
  exact ⟨⟨T, t.kp ne e⟩, ne⟩
theorem Od.int {K : PySem.W.Frag} {a : Addr} {H : Hp} (i : Int) : Od K a H (.int i) := ⟨⟨_, Tv.int i⟩, fun z => nomatch z⟩
theorem Od.bl {K : PySem.W.Frag} {a : Addr} {H : Hp} (b : Bool) : Od K a H (.bl b) := ⟨⟨"bool", .base (.bl b), by decide⟩, fun z => nomatch z⟩
theorem Od.non {K : PySem.W.Frag} {a : Addr} {H : Hp} : Od K a H .non := ⟨⟨"NoneType", .base .non, by decide⟩, fun z => nomatch z⟩
theorem Od.str {K : PySem.W.Frag} {a : Addr} {H : Hp} (x : Str) : Od K a H (.str x) := ⟨⟨"str", .base (.str x), by decide⟩, fun z => nomatch z⟩
theorem Od.ref {K : PySem.W.Frag} {a b : Addr} {H : Hp} {T : String} (t : Tv K H (.ref b) T) (ne : b ≠ a) : Od K a H (.ref b) := ⟨⟨T, t⟩, fun z => ne (V.ref.inj z)⟩
theorem Tv.lst {K : PySem.W.Frag} {b : Addr} {H : Hp} {xs : List V} (h : H b = some (.lst xs)) : Tv K H (.ref b) "list" := ⟨.base (.lst h), by decide⟩
theorem Tv.dct {K : PySem.W.Frag} {b : Addr} {H : Hp} {kvs : List (Key × V)} (h : H b = some (.dK kvs)) : Tv K H (.ref b) "dict" := ⟨.base (.dK h), by decide⟩
/-- what may be asked: no tuple, or a tuple of such -/
def Askd (K : PySem.W.Frag) (a : Addr) (H : Hp) (v : V) : Prop := (∃ T, Tv K H v T ∧ T ≠ "tuple" ∧ v ≠ .ref a) ∨ ∃ (b : Addr) (xs : List V), v = .ref b ∧ b ≠ a ∧ SqT K H b xs ∧ xs.length ≤ 1000 ∧ ∀ x ∈ xs, Od K a H x
theorem Askd.tup {K : PySem.W.Frag} {a b : Addr} {H : Hp} {xs : List V} (h : H b = some (.tup xs)) (ne : b ≠ a) (hl : xs.length ≤ 1000) (hx : ∀ x ∈ xs, Od K a H x) : Askd K a H (.ref b) := .inr ⟨b, xs, rfl, ne, .inl (.inl h), hl, hx⟩
theorem od_upd {K : PySem.W.Frag} {a p : Addr} {H : Hp} {o : HO} {v : V} (h : Od K a H v) (np : H p = none) : Od K a (upd H p o) v := h.kp (.of_same (same_upd np))
theorem od_ints {K : PySem.W.Frag} {a : Addr} {H : Hp} {ns : List Int} : ∀ x ∈ ns.map V.int, Od K a H x := fun x hx => by
  obtain ⟨n, _, rfl⟩ := List.mem_map.mp hx
  exact Od.int n
/-- a draw's place in a list -/
theorem pick {xs : List V} {d : Int} {n : Nat} (h0 : 0 ≤ d) (h1 : d < n) (hn : xs.length = n) : ∃ v, atI xs d = some v ∧ v ∈ xs := by
  have lt : d.toNat < xs.length := by omega
  obtain ⟨k, rfl⟩ : ∃ k : Nat, d = (k : Nat) := ⟨d.toNat, by omega⟩
  have lk : k < xs.length := by omega
  exact ⟨xs[k], atI_nat (List.getElem?_eq_getElem lk), List.getElem_mem lk⟩
theorem cut_mem {xs : List V} {lo hi : Option Int} {x : V} (h : x ∈ cutV xs lo hi) : x ∈ xs := List.mem_of_mem_drop (List.mem_of_mem_take h)
theorem cut_len (xs : List V) (lo hi : Option Int) : (cutV xs lo hi).length ≤ xs.length := by
  unfold cutV
  rw [List.length_take, List.length_drop]
  omega
theorem notwhole_hi {n k : Nat} (h : k < n) (lo : Option Int) : ¬ (HT.sIx n 0 lo = 0 ∧ HT.sIx n n (some (k : Nat)) = n) := fun z => by
  have e := z.2
  rw [HT.sIx_nat] at e
  omega
theorem SqT.kp {K : PySem.W.Frag} {a b : Addr} {H H' : Hp} {xs : List V} (e : Kp a H H') (ne : b ≠ a) (h : SqT K H b xs) : SqT K H' b xs := by
  rcases h with (h | ⟨o, h⟩) | h
  · exact .inl (.inl (e _ _ h ne))
  · exact .inl (.inr ⟨o, e _ _ h ne⟩)
  · exact .inr h
theorem Askd.kp {K : PySem.W.Frag} {a : Addr} {H H' : Hp} {v : V} (h : Askd K a H v) (e : Kp a H H') : Askd K a H' v := by
  rcases h with ⟨T, t, nt, ne⟩ | ⟨b, xs, rfl, ne, hS, hl, hx⟩
  · exact .inl ⟨T, t.kp ne e, nt, ne⟩
  · exact .inr ⟨b, xs, rfl, ne, SqT.kp e ne hS, hl, fun x hm => (hx x hm).kp e⟩
section
variable {X : Cx}
def rCatB (K : PySem.W.Frag) : R2 := fun x y H Q => ∃ a b xs ys, x = .ref a ∧ y = .ref b ∧ SqT K H a xs ∧ SqT K H b ys ∧ xs.length + ys.length ≤ sizeLine ∧
  ∀ (p : Addr) (G : Hp), Same H G → SqT K G p (xs ++ ys) → (p = a ∨ p = b ∨ H p = none) → Q (.ref p) G
theorem op_catB : OpR X (binaryOp .Add) (rCatB X.K) := by
  intro pins s σ H x y v u Q I rx ry h
  obtain ⟨a, b, xs, ys, rfl, rfl, ha, hb, hz, q⟩ := h
  refine op_catA pins s σ H _ _ v u Q I rx ry ⟨a, b, xs, ys, rfl, rfl, ha, hb, hz, fun e => ?_, fun _ e => ?_, fun _ _ p np => ?_⟩
  · subst e
    exact q b H (Same.refl H) hb (.inr (.inl rfl))
  · subst e
    refine q a H (Same.refl H) ?_ (.inl rfl)
    rw [List.append_nil]
    exact ha
  · exact q p _ (same_upd np) (.inl (.inl upd_same)) (.inr (.inr np))
def rSlB' (K : PySem.W.Frag) : V → Option Int → Option Int → Hp → VK → Prop := fun x lo hi H Q => ∃ a xs, x = .ref a ∧ SqT K H a xs ∧
  ∀ (p : Addr) (G : Hp), Same H G → SqT K G p (cutV xs lo hi) → (p = a ∨ H p = none) → Q (.ref p) G
theorem cut_whole {xs : List V} {lo hi : Option Int} (h : HT.sIx xs.length 0 lo = 0 ∧ HT.sIx xs.length xs.length hi = xs.length) : cutV xs lo hi = xs := by
  unfold cutV
  rw [h.1, h.2, Nat.sub_zero]
  show xs.take xs.length = xs
  exact List.take_length
theorem sl_tupB : SlR X (rSlB' X.K) := by
  intro pins s σ H x v vl vu lo hi sl Q I rx hs pl pu h
  obtain ⟨a, xs, rfl, ha, q⟩ := h
  refine sl_tupA pins s σ H _ v vl vu lo hi sl Q I rx hs pl pu ⟨a, xs, rfl, ha, fun z => ?_, fun _ p np => ?_⟩
  · refine q a H (Same.refl H) ?_ (.inl rfl)
    rw [cut_whole z]
    exact ha
  · exact q p _ (same_upd np) (.inl (.inl upd_same)) (.inr np)
end
end Lp
namespace Lp
open PySem PySem.Spec PyProof.Rows L2
/-! ### behind a written number a token is out
PR, PRs, PRS: as the library's readings of an expression, of arguments, of a statement, and the end says besides that some token is out. -/
section
variable {X : Cx} {e o i : Expr} {es : List Expr} {te ti : TE} {ta : TA} {pos p : Pos}
abbrev out1 (s : Shared) : Prop := 1 ≤ s.toks
def PR (X : Cx) (e : Expr) (t : TE) : Prop :=
  ∀ pins s σ H (Q : VK), Inv X pins σ H s → t σ H Q → wpAny (model X.prog X.w) X.A (eval e X.env) (fun u s' => out1 s' ∧ EP X pins σ Q u s') X.xe s
def PRs (X : Cx) (es : List Expr) (t : TA) : Prop :=
  ∀ at_ pins s σ H (Q : List V → Hp → Prop), Inv X pins σ H s → t σ H Q → wpAny (model X.prog X.w) X.A (spliced (backTo at_ (starEach es X.env))) (fun us s' => out1 s' ∧ AP X pins σ Q us s') X.xe s
def PRS (X : Cx) (st : Stmt) (t : TS) : Prop :=
  ∀ pins s σ H (D : Ends), Inv X pins σ H s → t D σ H → wpAny (model X.prog X.w) X.A (exec st X.env) (fun f s' => out1 s' ∧ SP X pins D f s') X.xe s
/-- once out, a token stays out -/
theorem stays {α : Type} {t : Sem α} {Q : α → Shared → Prop} {E : Value → Shared → Prop} {s : Shared} (k : out1 s) (h : wpAny (model X.prog X.w) X.A t Q E s) : wpAny (model X.prog X.w) X.A t (fun a s' => out1 s' ∧ Q a s') E s :=
  wpAny_mono (PySem.wpAny_toks_of k h) (fun _ _ z => z) fun _ _ z => z.2
theorem pr_int {n : Int} {j : Nat} : PR X (.Constant (.int n) j pos) (tC (.int n)) := fun _ s _ H _ I q => wpAny_Constant_int ⟨(Nat.succ_le_succ (Nat.zero_le s.toks) : 1 ≤ s.toks + 1), .int n, H, I.tok _, ⟨_, rfl⟩, q⟩
theorem prs_here (a : PR X e te) (r : PA X es ta) (hs : starEach (e :: es) X.env = (false, eval e X.env) :: starEach es X.env := by rfl) : PRs X (e :: es) (tCons te ta) := fun at_ pins s σ H Q I h => by
  rw [hs]
  refine Calls.spliced_cons (wpAny_mono (a pins s σ H _ I h) (fun u s1 z => ?_) fun _ _ z => z)
  obtain ⟨k, x, H1, I1, rx, q⟩ := z
  refine wpAny_mono (stays k (r.run at_ pins s1 σ H1 _ I1 q)) (fun us s2 z2 => ?_) fun _ _ z2 => z2
  exact ⟨z2.1, let ⟨xs, H2, I2, rs, q2⟩ := z2.2; ⟨x :: xs, H2, I2, .cons rx rs, q2⟩⟩
theorem prs_later (a : PE X e te) (r : PRs X es ta) (hs : starEach (e :: es) X.env = (false, eval e X.env) :: starEach es X.env := by rfl) : PRs X (e :: es) (tCons te ta) := fun at_ pins s σ H Q I h => by
  rw [hs]
  refine Calls.spliced_cons (wpAny_mono (a.run pins s σ H _ I h) (fun u s1 z => ?_) fun _ _ z => z)
  obtain ⟨x, H1, I1, rx, q⟩ := z
  refine wpAny_mono (r at_ pins s1 σ H1 _ I1 q) (fun us s2 z2 => ?_) fun _ _ z2 => z2
  exact ⟨z2.1, let ⟨xs, H2, I2, rs, q2⟩ := z2.2; ⟨x :: xs, H2, I2, .cons rx rs, q2⟩⟩
/-- f(..), one of its arguments with a written number -/
theorem pr_call {k j : Nat} {x : Str} {st : Stmt} {ps : List Str} {sp : Sp} (c : Cl X.prog X.w X.K X.mg X.base k x st ps sp) (hr : Room j X.A) (hk : k ≤ j) (hg : Gl X x) (a : PRs X (e :: es) ta)
    (hdb : (x == ("__debug__" : Str)) = false := by decide) (h1 : starEach (e :: es) X.env = (false, eval e X.env) :: starEach es X.env := by rfl) (h2 : (backTo pos (starEach es X.env)).any (·.1) = false := by rfl) :
    PR X (.Call (.Name x p) (e :: es) [] pos) (tCall sp [] E0 ta) := fun pins s σ H Q I h => by
  obtain ⟨f, fd, F, G, hm, b⟩ := c.ex
  have args := wpAny_mono (a pos pins s σ H _ I h) (E' := X.xe) (Q' := fun us s1 => X.K.In s1.heap ∧ wpAny (model X.prog X.w) X.A (call (.ref f) us) (fun u s' => out1 s' ∧ EP X pins σ Q u s') X.xe s1) (fun us s1 z => by
    obtain ⟨k1, vs, H1, I1, rs, q⟩ := z
    exact ⟨I1.kIn, stays k1 (run_fn G (hr.mono hk) b .nil pass0 I1 rs q)⟩) fun _ _ z => z
  exact wpAny_Call_Name_kw (ld_glob I hg hm (PySem.W.callWith_K (h₀ := X.base) I.ok.mod.kin F.kp args h1 h2) hdb)
/-- x = e -/
theorem pr_set {n : Nat} {x : Str} {pos' : Pos} (hN : X.N.Nodup) (hi : X.N[n]? = some x) (hx : Loc X.env.scope x) (a : PR X e te) (hs : swapsWith e (some (.Name x pos')) pos.line X.env = pure false := by rfl)
    (hf : X.fn x = true ∨ X.env.scope.names.lookup x = some .local := by first | exact .inl rfl | exact .inr rfl) : PRS X (.Assign [.Name x pos'] e pos) (tAsg te (gName n)) := fun pins s σ H D I h =>
  wpAny_Assign_Name (wpAny_mono (a pins s σ H _ I h) (fun u s1 z => by
    obtain ⟨k, y, H1, I1, ry, q⟩ := z
    exact stays k (store_ok I1 hN hi hx ry (fun s2 I2 => ⟨_, H1, I2, q⟩) hf)) fun _ _ z => z) hs
theorem pss_out {st : Stmt} {rest : List Stmt} {t u : TS} (a : PRS X st t) (r : PSsT X rest u) : PSs X (st :: rest) (tSeq t u) := ⟨fun pins s σ H D I h => by
  refine wpAny_execs_cons (wpAny_mono (a pins s σ H { D with nx := u D } I h) (fun f s1 z => ?_) fun _ _ z => z)
  obtain ⟨k, z⟩ := z
  cases f
  case next =>
    obtain ⟨σ1, H1, I1, q⟩ := z
    exact r pins s1 σ1 H1 D k I1 q
  all_goals exact z⟩
/-- o[i], o with a written number -/
theorem pr_ix {r : V → V → Hp → VK → Prop} (hr : IxR X r) (a : PR X o te) (b : PE X i ti) (hs : PlainIx i) : PR X (.Subscript o i pos) (tOp r te ti) := fun pins s σ H Q I h =>
  Subscript_ (wpAny_mono (a pins s σ H _ I h) (fun v s1 z => by
    obtain ⟨k, x, H1, I1, rx, q⟩ := z
    refine wpAny_mono (stays k (b.run pins s1 σ H1 _ I1 q)) (fun u s2 z2 => ?_) fun _ _ z2 => z2
    obtain ⟨k2, y, H2, I2, ry, q2⟩ := z2
    exact stays k2 (hr o i pins s2 σ H2 x y v u Q I2 rx ry q2 (hs _ _))) fun _ _ z => z)
/-- [e, ..] -/
theorem pr_lst (a : PRs X es ta) : PR X (.List es pos) (tLst ta) := fun pins s σ H Q I h =>
  wpAny_List_spliced (wpAny_mono (a pos pins s σ H _ I h) (fun us s1 z => by
    obtain ⟨k, vs, H1, I1, rs, small, q⟩ := z
    have len : us.length ≤ sizeLine := rs.length ▸ small
    have new := I1.hok.fresh (Nat.le_refl s1.heap.objs.size)
    have J := I1.laid (t' := s1.toks) (o := .lst vs) (h' := s1.heap.push { cls := .type "list", data := .seq us.toArray 0 }) (fun _ _ z => Heap.get?_push_of_some _ z) (Nat.le_refl _) ⟨small, us, 0, rs, Heap.get?_push_size _ rfl⟩
    exact ⟨len, k, .ref s1.heap.objs.size, upd H1 s1.heap.objs.size (.lst vs), J, rfl, q _ new⟩) fun _ _ z => z)
end
/-! ### a, b = x, y, one token out -/
theorem two_of {v w : V} {us : List Value} (r : Vals [v, w] us) : ∃ u1 u2, us = [u1, u2] ∧ RelV v u1 ∧ RelV w u2 := by
  match us, r with
  | [u1, u2], .cons p (.cons q .nil) => exact ⟨u1, u2, rfl, p, q⟩
theorem pst_par {X : Cx} {n m : Nat} {x y : Str} {e1 e2 : Expr} {ta : TA} {p1 p2 p3 p4 pos : Pos} {c1 c2} (calm : X.calm = true) (nd : X.N.Nodup) (hn : X.N[n]? = some x) (hm : X.N[m]? = some y) (ne : n ≠ m)
    (lx : X.env.scope.names.lookup x = some .local) (ly : X.env.scope.names.lookup y = some .local) (a : PAT X [e1, e2] ta)
    (sw : swappedStores [.Tuple [.Name x p1, .Name y p2] c1 p3] (.Tuple [e1, e2] c2 p4) X.env = pure (some [x, y])) (so : swapsWithSole [.Tuple [.Name x p1, .Name y p2] c1 p3] (.Tuple [e1, e2] c2 p4) pos.line X.env = pure false := by rfl) :
    PST X (.Assign [.Tuple [.Name x p1, .Name y p2] c1 p3] (.Tuple [e1, e2] c2 p4) pos) (tPar n m ta) := fun pins s σ H D k I h => by
  -- what is stored, once both values stand
  have stores : ∀ (u1 u2 : Value) (s1 : Shared) (v w : V) (H1 : Hp), Inv X pins σ H1 s1 → RelV v u1 → RelV w u2 → D.nx ((σ.set n (some v)).set m (some w)) H1 →
      wpAny (model X.prog X.w) X.A (assignInOrder [fun z => bindName X.env y z, fun z => bindName X.env x z] [u2, u1] >>= fun _ => pure Flow.next) (SP X pins D) X.xe s1 := fun u1 u2 s1 v w H1 I1 r1 r2 q =>
    wpAny_bind (assignInOrder_cons (wpAny_bindName (store_ok I1 nd hm (.inl ly) r2 (fun s2 I2 => assignInOrder_cons (wpAny_bindName (store_ok I2 nd hn (.inl lx) r1 (fun s3 I3 => assignInOrder_nil (wpAny_pure
      ⟨_, H1, by rw [List.set_comm _ _ ne]; exact I3, q⟩)) (.inr lx)))) (.inr ly))))
  -- the pair is made and taken apart
  have made : ∀ (u1 u2 : Value) (s1 : Shared) (v w : V) (H1 : Hp), Inv X pins σ H1 s1 → RelV v u1 → RelV w u2 → D.nx ((σ.set n (some v)).set m (some w)) H1 →
      wpAny (model X.prog X.w) X.A (do rule "assign.swapped-stores"; let its ← unpackItems (.ref s1.heap.objs.size) 2 none; assignInOrder [fun z => bindName X.env y z, fun z => bindName X.env x z] its.reverse; pure Flow.next) (SP X pins D) X.xe
        { s1 with heap := s1.heap.push { cls := .type "tuple", data := .seq [u1, u2].toArray } } := fun u1 u2 s1 v w H1 I1 r1 r2 q => by
    have I2 := I1.kept (h' := s1.heap.push { cls := .type "tuple", data := .seq [u1, u2].toArray }) (t' := s1.toks) fun _ _ z => Heap.get?_push_of_some _ z
    refine wpAny_bind (wpAny_rule (wpAny_bind (unpackItems_tuple (items := #[u1, u2]) (I1.ok.hd calm) (IsTup.new s1.heap _) fun h2 same => ?_)))
    exact stores u1 u2 _ v w H1 (I2.kept (h' := h2) (t' := s1.toks) fun b o z => same b o (Nat.ne_of_lt (Heap.lt_size z)) z) r1 r2 q
  rw [exec_Assign_arm]
  refine wpAny_bind (wpAny_standAt ?_)
  rw [so]
  refine wpAny_bind (wpAny_pure ?_)
  simp only [Bool.false_eq_true, if_false]
  refine wpAny_bind (Tuple_ (wpAny_mono (a _ pins s σ H _ k I h) (fun us s1 z => ?_) fun _ _ z => z))
  obtain ⟨vs, H1, I1, rs, v, w, ev, q⟩ := z
  subst ev
  obtain ⟨u1, u2, eu, r1, r2⟩ := two_of rs
  subst eu
  refine wpAny_newObj_type ?_ (show [u1, u2].length ≤ sizeLine by show 2 ≤ sizeLine; decide)
  rw [sw]
  exact wpAny_bind (wpAny_pure (made u1 u2 s1 v w H1 I1 r1 r2 q))
theorem uni {k : Nat} {A : Around} (hr : Room k A) : A.units + 1 < cLine := by have := hr.un; omega
/-! ### texts of signs -/
def sgc : Bool → Nat
  | true => 49
  | false => 48
def sw (bs : List Bool) : Str := ⟨(bs.map sgc).toArray⟩
abbrev sl (b : Bool) : Str := ⟨#[sgc b]⟩
theorem sl1 : Str.ofString "1" = sl true := by decide +kernel
theorem sl0 : Str.ofString "0" = sl false := by decide +kernel
theorem sl_inj {a b : Bool} (h : sl a = sl b) : a = b := by
  cases a <;> cases b <;> first | rfl | exact absurd h (by decide +kernel)
theorem sw_len (bs : List Bool) : (sw bs).length = bs.length := by
  show (bs.map sgc).toArray.size = _
  rw [List.size_toArray, List.length_map]
theorem sw_get {bs : List Bool} {i c : Nat} (h : (sw bs).cps[i]? = some c) : ∃ b, bs[i]? = some b ∧ c = sgc b := by
  have h2 : (bs.map sgc)[i]? = some c := by
    rw [← List.getElem?_toArray]
    exact h
  rw [List.getElem?_map] at h2
  obtain ⟨b, e1, e2⟩ := Option.map_eq_some_iff.mp h2
  exact ⟨b, e1, e2.symm⟩
theorem sw_app (a b : List Bool) : sw a ++ sw b = sw (a ++ b) := by
  show (⟨(a.map sgc).toArray ++ (b.map sgc).toArray⟩ : Str) = ⟨((a ++ b).map sgc).toArray⟩
  rw [List.map_append, List.append_toArray]
theorem sw_nil : Str.ofString "" = sw [] := by decide +kernel
theorem sw_one (b : Bool) : sl b = sw [b] := by cases b <;> rfl
/-- the text behind replace of S, then of T -/
theorem repl1 (c d : Nat) : ∀ l : List Nat, StrLaws.replL [c] [d] l = l.map fun x => if x = c then d else x
  | [] => StrLaws.replL_nil
  | x :: l => by
    by_cases e : x = c
    · subst e
      rw [StrLaws.replL_hit (by simp) (by rfl), List.map_cons, if_pos rfl]
      exact congrArg (d :: ·) (repl1 x d l)
    · rw [StrLaws.replL_miss (y := [c]) (fun h => e (by have h2 : [x] = [c] := h; exact List.head_eq_of_cons_eq h2)), List.map_cons, if_neg e, repl1 c d l]
theorem repl_bits (bs : List Bool) : Txt.replace (Txt.replace (wd bs) (Str.ofString "S") (Str.ofString "0")) (Str.ofString "T") (Str.ofString "1") = sw bs := by
  have eS : Str.ofString "S" = ⟨#[83]⟩ := by decide +kernel
  have eT : Str.ofString "T" = ⟨#[84]⟩ := by decide +kernel
  have e0 : Str.ofString "0" = ⟨#[48]⟩ := by decide +kernel
  have e1 : Str.ofString "1" = ⟨#[49]⟩ := by decide +kernel
  have ext : ∀ {a b : Str}, a.cps.toList = b.cps.toList → a = b := fun {a b} h => by
    cases a; cases b
    exact congrArg Str.mk (Array.ext' h)
  apply ext
  rw [eS, eT, e0, e1, StrLaws.replace_list (by show 1 ≤ 1; decide), StrLaws.replace_list (by show 1 ≤ 1; decide)]
  show StrLaws.replL [84] [49] (StrLaws.replL [83] [48] (bs.map code).toArray.toList) = (bs.map sgc).toArray.toList
  rw [repl1, repl1, List.map_map, List.toList_toArray, List.toList_toArray, List.map_map]
  apply List.map_congr_left
  intro b _
  cases b <;> rfl
theorem repl_len (bs : List Bool) : (Txt.replace (wd bs) (Str.ofString "S") (Str.ofString "0")).length = bs.length := by
  have eS : Str.ofString "S" = ⟨#[83]⟩ := by decide +kernel
  have e0 : Str.ofString "0" = ⟨#[48]⟩ := by decide +kernel
  rw [eS, e0]
  show (Txt.replace (wd bs) ⟨#[83]⟩ ⟨#[48]⟩).cps.size = _
  rw [← Array.length_toList, StrLaws.replace_list (by show 1 ≤ 1; decide)]
  show (StrLaws.replL [83] [48] (bs.map code).toArray.toList).length = _
  rw [repl1, List.length_map, List.toList_toArray, List.length_map]
theorem count_sw (bs : List Bool) (b : Bool) : Txt.count (sw bs) (sl b) = (bs.count b : Nat) := by
  rw [show (sl b) = ⟨#[sgc b]⟩ from rfl, PyProof.Rows.count_cnt]
  show PyProof.Rows.cnt (sgc b) (bs.map sgc).toArray.toList = _
  rw [List.toList_toArray]
  induction bs with
  | nil => rfl
  | cons a l ih =>
    rw [List.map_cons, PyProof.Rows.cnt_cons, ih, List.count_cons]
    cases a <;> cases b <;> simp [sgc] <;> omega
/-! ### the signs of a row -/
def sgn (h : Int) (ns : List Int) : List Bool := ns.map fun x => decide (h ≤ x)
theorem fold_sl : ∀ (l : List Bool) (acc : Array Nat), (l.map sl).foldl (fun acc p => acc ++ (Str.ofString "").cps ++ p.cps) acc = acc ++ (l.map sgc).toArray
  | [], acc => by simp
  | b :: l, acc => by
    rw [List.map_cons, List.foldl_cons, fold_sl l, show (Str.ofString "").cps = #[] by decide +kernel]
    apply Array.ext'
    simp
theorem join_sl : ∀ l : List Bool, Txt.join (Str.ofString "") (l.map sl) = sw l
  | [] => by decide +kernel
  | b :: l => by
    show (⟨(l.map sl).foldl (fun acc p => acc ++ (Str.ofString "").cps ++ p.cps) (sl b).cps⟩ : Str) = sw (b :: l)
    rw [fold_sl]
    show (⟨#[sgc b] ++ (l.map sgc).toArray⟩ : Str) = ⟨((b :: l).map sgc).toArray⟩
    congr 1
    apply Array.ext'
    simp
theorem signS_sw (ns : List Int) (h : Int) : signS ns h = sw (sgn h ns) := by
  unfold signS sgL sgn
  rw [← join_sl, List.map_map]
  congr 1
  apply List.map_congr_left
  intro x _
  show sg (decide (h ≤ x)) = sl (decide (h ≤ x))
  cases decide (h ≤ x) <;> decide +kernel
theorem seat_sgn (b : Bool) (h : Int) : ∀ (xs l s : List Int) (x : Int), sgn h ((xs.foldl (stepW b) (l, s, x)).1 ++ [(xs.foldl (stepW b) (l, s, x)).2.2]) = sgn h l ++ (sgn h (x :: xs) ++ [b]).erase b
  | [], l, s, x => by
    show sgn h (l ++ [x]) = sgn h l ++ (decide (h ≤ x) :: [b]).erase b
    unfold sgn
    rw [List.map_append]
    congr 1
    by_cases hx : h ≤ x <;> cases b <;> simp [hx]
  | p :: xs, l, s, x => by
    rw [List.foldl_cons, show stepW b (l, s, x) p = (if takes b p x = true then (l ++ [x], s ++ [x], p) else (l ++ [p], s, x)) from rfl]
    have key : ∀ (a c : Int), sgn h (l ++ [a]) ++ (sgn h (c :: xs) ++ [b]).erase b = sgn h l ++ (decide (h ≤ a) :: (decide (h ≤ c) :: (sgn h xs ++ [b])).erase b) := fun a c => by
      unfold sgn
      rw [List.map_append, List.append_assoc]
      rfl
    split
    · rename_i ht
      rw [seat_sgn b h xs, key]
      congr 1
      show _ = (decide (h ≤ x) :: decide (h ≤ p) :: (sgn h xs ++ [b])).erase b
      generalize sgn h xs ++ [b] = R
      unfold takes at ht
      cases b
      · have : p < x := by simpa using ht
        by_cases h1 : h ≤ x <;> by_cases h2 : h ≤ p <;> simp [h1, h2] <;> omega
      · have : x < p := by simpa using ht
        by_cases h1 : h ≤ x <;> by_cases h2 : h ≤ p <;> simp [h1, h2] <;> omega
    · rename_i ht
      rw [seat_sgn b h xs, key]
      congr 1
      show _ = (decide (h ≤ x) :: decide (h ≤ p) :: (sgn h xs ++ [b])).erase b
      generalize sgn h xs ++ [b] = R
      unfold takes at ht
      cases b
      · have : x ≤ p := by simpa using ht
        by_cases h1 : h ≤ x <;> by_cases h2 : h ≤ p <;> simp [h1, h2] <;> omega
      · have : p ≤ x := by simpa using ht
        by_cases h1 : h ≤ x <;> by_cases h2 : h ≤ p <;> simp [h1, h2] <;> omega
theorem pass_sgn (b : Bool) (h : Int) {ns : List Int} (hn : ns ≠ []) : sgn h (passL b ns) = (sgn h ns ++ [b]).erase b := by
  cases ns with
  | nil => exact absurd rfl hn
  | cons x xs => exact (seat_sgn b h xs [] [] x).trans (List.nil_append _)
/-- the first z zeros and the first o ones left out -/
def dropN : Nat → Nat → List Bool → List Bool
  | _, _, [] => []
  | 0, o, false :: r => false :: dropN 0 o r
  | z + 1, o, false :: r => dropN z o r
  | z, 0, true :: r => true :: dropN z 0 r
  | z, o + 1, true :: r => dropN z o r
theorem dropN_f : ∀ (z o : Nat) (l : List Bool), dropN (z + 1) o l = dropN z o (l.erase false)
  | z, o, [] => by simp [dropN]
  | z, o, false :: r => by simp [dropN]
  | z, 0, true :: r => by
    rw [show (true :: r).erase false = true :: r.erase false by simp]
    rw [dropN, dropN, dropN_f z 0 r]
  | z, o + 1, true :: r => by
    rw [show (true :: r).erase false = true :: r.erase false by simp]
    rw [dropN, dropN, dropN_f z o r]
theorem dropN_t : ∀ (z o : Nat) (l : List Bool), dropN z (o + 1) l = dropN z o (l.erase true)
  | z, o, [] => by simp [dropN]
  | z, o, true :: r => by
    rw [show (true :: r).erase true = r by simp, dropN]
  | 0, o, false :: r => by
    rw [show (false :: r).erase true = false :: r.erase true by simp]
    rw [dropN, dropN, dropN_t 0 o r]
  | z + 1, o, false :: r => by
    rw [show (false :: r).erase true = false :: r.erase true by simp]
    rw [dropN, dropN, dropN_t z o r]
theorem dropN_0 : ∀ l : List Bool, dropN 0 0 l = l
  | [] => rfl
  | false :: r => by rw [dropN, dropN_0 r]
  | true :: r => by rw [dropN, dropN_0 r]
theorem after_sgn (h : Int) : ∀ (bs : List Bool) (ns : List Int), ns ≠ [] → sgn h (afterL bs ns) = dropN (bs.count false) (bs.count true) (sgn h ns ++ bs)
  | [], ns, _ => by
    rw [List.append_nil]
    exact (dropN_0 _).symm
  | b :: bs, ns, hn => by
    have hn2 : passL b ns ≠ [] := fun z => hn (by
      have := (passL_perm b ns).length_eq
      rw [z] at this
      exact List.length_eq_zero_iff.mp this.symm)
    rw [show afterL (b :: bs) ns = afterL bs (passL b ns) from rfl, after_sgn h bs _ hn2, pass_sgn b h hn]
    have ea : (sgn h ns ++ [b]).erase b ++ bs = (sgn h ns ++ b :: bs).erase b := by
      rw [← List.erase_append_left _ (by simp), List.append_assoc]
      rfl
    rw [ea]
    cases b
    · rw [← dropN_f]
      congr 1 <;> simp
    · rw [← dropN_t]
      congr 1 <;> simp
/-- the loop's state after i signs: how many of each are still to be left out, and what was kept -/
def stepN (st : Nat × Nat × List Bool) : Bool → Nat × Nat × List Bool
  | false => if 0 < st.1 then (st.1 - 1, st.2.1, st.2.2) else (st.1, st.2.1, st.2.2 ++ [false])
  | true => if 0 < st.2.1 then (st.1, st.2.1 - 1, st.2.2) else (st.1, st.2.1, st.2.2 ++ [true])
theorem fold_dropN : ∀ (l : List Bool) (z o : Nat) (acc : List Bool), (l.foldl stepN (z, o, acc)).2.2 = acc ++ dropN z o l
  | [], z, o, acc => (List.append_nil _).symm
  | false :: r, 0, o, acc => by
    rw [List.foldl_cons, show stepN (0, o, acc) false = (0, o, acc ++ [false]) from rfl, fold_dropN r, dropN, List.append_assoc]
    rfl
  | false :: r, z + 1, o, acc => by
    rw [List.foldl_cons, show stepN (z + 1, o, acc) false = (z, o, acc) from rfl, fold_dropN r, dropN]
  | true :: r, z, 0, acc => by
    rw [List.foldl_cons, show stepN (z, 0, acc) true = (z, 0, acc ++ [true]) from rfl, fold_dropN r, dropN, List.append_assoc]
    rfl
  | true :: r, z, o + 1, acc => by
    rw [List.foldl_cons, show stepN (z, o + 1, acc) true = (z, o, acc) from rfl, fold_dropN r, dropN]
theorem fold_len : ∀ (l : List Bool) (st : Nat × Nat × List Bool), (l.foldl stepN st).2.2.length ≤ st.2.2.length + l.length
  | [], _ => Nat.le_refl _
  | b :: r, st => by
    rw [List.foldl_cons]
    have := fold_len r (stepN st b)
    have h1 : (stepN st b).2.2.length ≤ st.2.2.length + 1 := by
      cases b
      · show (if 0 < st.1 then (st.1 - 1, st.2.1, st.2.2) else (st.1, st.2.1, st.2.2 ++ [false])).2.2.length ≤ _
        split <;> simp
      · show (if 0 < st.2.1 then (st.1, st.2.1 - 1, st.2.2) else (st.1, st.2.1, st.2.2 ++ [true])).2.2.length ≤ _
        split <;> simp
    rw [List.length_cons]
    omega
/-- the table of two counts -/
def dk (z o : Int) : List (Key × V) := [(.inr (sl false), .int z), (.inr (sl true), .int o)]
theorem mk2 (z o : Int) : mergeK [] [(.inr (Str.ofString "0"), .int z), (.inr (Str.ofString "1"), .int o)] = dk z o := by
  rw [sl0, sl1]
  rfl
theorem dk_get (z o : Int) (b : Bool) : valV (dk z o) (.inr (sl b)) = some (.int (if b then o else z)) := by
  cases b <;> rfl
theorem dk_put0 (z o v : Int) : putK (dk z o) (.inr (sl false)) (.int v) = dk v o := rfl
theorem dk_put1 (z o v : Int) : putK (dk z o) (.inr (sl true)) (.int v) = dk z v := rfl
theorem one0 : (Str.ofString "0").length = 1 := by decide +kernel
theorem one1 : (Str.ofString "1").length = 1 := by decide +kernel
end Lp
/-! ### the mathematics of words: the row is forgotten, the last letters tell (no program is spoken of) -/
namespace Lp
open PySem PySem.Spec PyProof.Rows L2
theorem dropN_app : ∀ (l m : List Bool) (a b : Nat), dropN a b (l ++ m) = dropN a b l ++ dropN (a - l.count false) (b - l.count true) m
  | [], m, a, b => by simp [dropN]
  | false :: l, m, 0, b => by
    rw [List.cons_append, dropN, dropN, dropN_app l m 0 b]
    simp
  | false :: l, m, a + 1, b => by
    rw [List.cons_append, dropN, dropN, dropN_app l m a b]
    simp
  | true :: l, m, a, 0 => by
    rw [List.cons_append, dropN, dropN, dropN_app l m a 0]
    simp
  | true :: l, m, a, b + 1 => by
    rw [List.cons_append, dropN, dropN, dropN_app l m a b]
    simp
theorem dropN_zeros : ∀ (l : List Bool) (a b : Nat), l.count false ≤ a → dropN a b l = List.replicate (l.count true - b) true
  | [], a, b, _ => by simp [dropN]
  | false :: l, 0, b, h => by simp at h
  | false :: l, a + 1, b, h => by
    rw [dropN, dropN_zeros l a b (by simpa using h)]
    simp
  | true :: l, a, 0, h => by
    rw [dropN, dropN_zeros l a 0 (by simpa using h)]
    simp [List.replicate_succ]
  | true :: l, a, b + 1, h => by
    rw [dropN, dropN_zeros l a b (by simpa using h)]
    simp
theorem dropN_ones : ∀ (l : List Bool) (a b : Nat), l.count true ≤ b → dropN a b l = List.replicate (l.count false - a) false
  | [], a, b, _ => by simp [dropN]
  | true :: l, a, 0, h => by simp at h
  | true :: l, a, b + 1, h => by
    rw [dropN, dropN_ones l a b (by simpa using h)]
    simp
  | false :: l, 0, b, h => by
    rw [dropN, dropN_ones l 0 b (by simpa using h)]
    simp [List.replicate_succ]
  | false :: l, a + 1, b, h => by
    rw [dropN, dropN_ones l a b (by simpa using h)]
    simp
/-- as many letters as people less one: the signs ahead of them are forgotten -/
theorem forget {l m : List Bool} {a b : Nat} (e0 : l.count false = m.count false) (e1 : l.count true = m.count true) (h : l.count false + l.count true ≤ a + b + 1) : dropN a b l = dropN a b m := by
  by_cases h0 : l.count false ≤ a
  · rw [dropN_zeros l a b h0, dropN_zeros m a b (by omega), e1]
  · have h1 : l.count true ≤ b := by omega
    rw [dropN_ones l a b h1, dropN_ones m a b (by omega), e0]
theorem count_two (l : List Bool) : l.count false + l.count true = l.length := by
  induction l with
  | nil => rfl
  | cons b l ih => cases b <;> simp <;> omega
theorem sgn_len (h : Int) (ns : List Int) : (sgn h ns).length = ns.length := List.length_map ..
theorem sgn_perm {h : Int} {ms ns : List Int} (p : ms.Perm ns) : (sgn h ms).Perm (sgn h ns) := p.map _
theorem sgn_inj : ∀ {xs ys : List Int}, xs.length = ys.length → (∀ h, sgn h xs = sgn h ys) → xs = ys
  | [], [], _, _ => rfl
  | x :: xs, y :: ys, hl, hs => by
    have hd : ∀ h, decide (h ≤ x) = decide (h ≤ y) ∧ sgn h xs = sgn h ys := fun h => by
      have := hs h
      simp only [sgn, List.map_cons, List.cons.injEq] at this
      exact this
    have e1 := (hd x).1
    have e2 := (hd y).1
    have hxy : x = y := by
      simp at e1 e2
      omega
    rw [hxy, sgn_inj (Nat.succ.inj hl) fun h => (hd h).2]
theorem afterL_len (bs : List Bool) (ns : List Int) : (afterL bs ns).length = ns.length := (afterL_perm bs ns).length_eq
theorem afterL_nil : ∀ bs : List Bool, afterL bs [] = []
  | [] => rfl
  | b :: bs => afterL_nil bs
/-- behind n - 1 passes the order ahead of them is forgotten -/
theorem after_forget {bs : List Bool} {ms ns : List Int} (p : ms.Perm ns) (h : ns.length ≤ bs.length + 1) : afterL bs ms = afterL bs ns := by
  by_cases hn : ns = []
  · subst hn
    rw [List.perm_nil.mp p]
  have hm : ms ≠ [] := fun z => hn (List.perm_nil.mp (z ▸ p.symm))
  refine sgn_inj (by rw [afterL_len, afterL_len, p.length_eq]) fun t => ?_
  rw [after_sgn t bs ms hm, after_sgn t bs ns hn, dropN_app, dropN_app]
  have c0 : (sgn t ms).count false = (sgn t ns).count false := (sgn_perm p).count_eq false
  have c1 : (sgn t ms).count true = (sgn t ns).count true := (sgn_perm p).count_eq true
  rw [c0, c1]
  congr 1
  refine forget c0 c1 ?_
  have l1 := count_two (sgn t ms)
  rw [sgn_len, p.length_eq] at l1
  have l2 := count_two bs
  omega
/-- the last n - 1 letters tell -/
theorem after_last {a b : List Bool} {ns : List Int} (h : ns.length ≤ b.length + 1) : afterL (a ++ b) ns = afterL b ns := by
  rw [afterL_app]
  exact after_forget (afterL_perm a ns) h
theorem after_drop {bs : List Bool} {ns : List Int} : afterL (bs.drop (bs.length + 1 - ns.length)) ns = afterL bs ns := by
  by_cases h : bs.length + 1 ≤ ns.length
  · rw [show bs.length + 1 - ns.length = 0 by omega, List.drop_zero]
  · by_cases hn : ns = []
    · subst hn
      rw [afterL_nil, afterL_nil]
    · have n1 : 0 < ns.length := List.length_pos_iff.mpr hn
      conv => rhs; rw [← List.take_append_drop (bs.length + 1 - ns.length) bs]
      rw [after_last]
      rw [List.length_drop]
      omega
theorem dropN_0x (o : Nat) : ∀ z c0 c1 : Nat, dropN c0 c1 (List.replicate z false ++ List.replicate o true) = List.replicate (z - c0) false ++ List.replicate (o - c1) true := fun z c0 c1 => by
  rw [dropN_app]
  have k0 : (List.replicate z false).count true = 0 := by simp [List.count_replicate]
  have k1 : (List.replicate o true).count false = 0 := by simp [List.count_replicate]
  rw [dropN_ones _ c0 c1 (by omega), dropN_zeros _ _ _ (by omega)]
  simp [List.count_replicate]
theorem dropN_1x (o : Nat) : ∀ z c0 c1 : Nat, dropN c0 c1 (List.replicate o true ++ List.replicate z false) = List.replicate (o - c1) true ++ List.replicate (z - c0) false := fun z c0 c1 => by
  rw [dropN_app]
  have k0 : (List.replicate o true).count false = 0 := by simp [List.count_replicate]
  have k1 : (List.replicate z false).count true = 0 := by simp [List.count_replicate]
  rw [dropN_zeros _ c0 c1 (by omega), dropN_ones _ _ _ (by omega)]
  simp [List.count_replicate]
theorem sgn_all {t : Int} : ∀ {l : List Int} (b : Bool), (∀ x ∈ l, decide (t ≤ x) = b) → sgn t l = List.replicate l.length b
  | [], b, _ => rfl
  | x :: l, b, h => by
    show decide (t ≤ x) :: sgn t l = _
    rw [h x (List.mem_cons_self ..), sgn_all b fun y hy => h y (List.mem_cons_of_mem _ hy)]
    rfl
/-- fewer letters: the ascending row and the descending one stay apart -/
theorem after_apart {bs : List Bool} {ns : List Int} (hs : ns.Pairwise (· < ·)) (h : bs.length + 2 ≤ ns.length) : afterL bs ns ≠ afterL bs ns.reverse := by
  intro e
  have cb := count_two bs
  have hz : bs.count false + 1 < ns.length := by omega
  generalize hzz : bs.count false + 1 = z at hz
  have hn : ns ≠ [] := fun q => by
    rw [q] at hz
    exact absurd hz (Nat.not_lt_zero _)
  have hr : ns.reverse ≠ [] := fun q => hn (List.reverse_eq_nil_iff.mp q)
  have e2 := congrArg (sgn ns[z]) e
  rw [after_sgn _ bs ns hn, after_sgn _ bs ns.reverse hr] at e2
  have s1 : sgn ns[z] ns = List.replicate z false ++ List.replicate (ns.length - z) true := by
    have hsp : ns = ns.take z ++ ns.drop z := (List.take_append_drop z ns).symm
    have g := List.pairwise_iff_getElem.mp hs
    have f1 : sgn ns[z] (ns.take z) = List.replicate z false := by
      have := sgn_all (t := ns[z]) (l := ns.take z) false fun x hx => by
        obtain ⟨i, hi, ex⟩ := List.mem_iff_getElem.mp hx
        rw [List.length_take] at hi
        rw [← ex, List.getElem_take]
        have := g i z (by omega) hz (by omega)
        exact decide_eq_false (by omega)
      rw [this, List.length_take, Nat.min_eq_left (by omega)]
    have f2 : sgn ns[z] (ns.drop z) = List.replicate (ns.length - z) true := by
      have := sgn_all (t := ns[z]) (l := ns.drop z) true fun x hx => by
        obtain ⟨i, hi, ex⟩ := List.mem_iff_getElem.mp hx
        rw [List.length_drop] at hi
        rw [← ex, List.getElem_drop]
        by_cases h0 : i = 0
        · subst h0
          simp
        · have := g z (z + i) hz (by omega) (by omega)
          exact decide_eq_true (by omega)
      rw [this, List.length_drop]
    have f3 : sgn ns[z] (ns.take z ++ ns.drop z) = sgn ns[z] (ns.take z) ++ sgn ns[z] (ns.drop z) := List.map_append ..
    rw [List.take_append_drop] at f3
    rw [f3, f1, f2]
  have s2 : sgn ns[z] ns.reverse = List.replicate (ns.length - z) true ++ List.replicate z false := by
    have : sgn ns[z] ns.reverse = (sgn ns[z] ns).reverse := List.map_reverse ..
    rw [this, s1, List.reverse_append, List.reverse_replicate, List.reverse_replicate]
  rw [dropN_app, dropN_app, s1, s2, dropN_0x, dropN_1x] at e2
  have z1 : z - bs.count false = 1 := by omega
  obtain ⟨k, hk⟩ : ∃ k, ns.length - z - bs.count true = k + 1 := ⟨ns.length - z - bs.count true - 1, by omega⟩
  rw [z1, hk, List.replicate_succ] at e2
  simp [List.replicate_succ] at e2
/-! ### the last pass, read backwards -/
theorem ends_max {w : List Bool} {ns : List Int} {M : Int} (hM : M ∈ ns) (top : ∀ x ∈ ns, x ≤ M) (h : ns.length ≤ w.length + 2) : afterL (w ++ [true]) ns = afterL w (ns.erase M) ++ [M] := by
  have hn : ns ≠ [] := List.ne_nil_of_mem hM
  have pe : (M :: ns.erase M).Perm ns := (List.perm_cons_erase hM).symm
  have le := pe.length_eq
  rw [List.length_cons] at le
  refine sgn_inj (by rw [afterL_len, List.length_append, afterL_len, ← le]; rfl) fun t => ?_
  rw [after_sgn t _ ns hn]
  have app : sgn t (afterL w (ns.erase M) ++ [M]) = sgn t (afterL w (ns.erase M)) ++ [decide (t ≤ M)] := List.map_append ..
  have rest : sgn t (afterL w (ns.erase M)) = dropN (w.count false) (w.count true) (sgn t (ns.erase M) ++ w) := by
    by_cases hr : ns.erase M = []
    · rw [hr, afterL_nil]
      have : dropN (w.count false) (w.count true) w = [] := by rw [dropN_zeros _ _ _ (Nat.le_refl _), Nat.sub_self]; rfl
      exact this.symm
    · exact after_sgn t w _ hr
  rw [app, rest]
  have k0 : (w ++ [true]).count false = w.count false := by simp
  have k1 : (w ++ [true]).count true = w.count true + 1 := by simp
  rw [k0, k1]
  have c0 : (sgn t ns).count false = ((decide (t ≤ M)) :: sgn t (ns.erase M)).count false := ((sgn_perm pe).count_eq false).symm
  have c1 : (sgn t ns).count true = ((decide (t ≤ M)) :: sgn t (ns.erase M)).count true := ((sgn_perm pe).count_eq true).symm
  have cl := count_two (sgn t (ns.erase M))
  rw [sgn_len] at cl
  have cw := count_two w
  by_cases hd : t ≤ M
  · rw [decide_eq_true hd] at c0 c1 ⊢
    have d0 : (sgn t ns).count false = (sgn t (ns.erase M)).count false := by rw [c0]; simp
    have d1 : (sgn t ns).count true = (sgn t (ns.erase M)).count true + 1 := by rw [c1]; simp
    have mem : true ∈ sgn t ns := List.count_pos_iff.mp (by omega)
    rw [dropN_t, List.erase_append_left _ mem, dropN_app, dropN_app (sgn t (ns.erase M)) w]
    have f0 : ((sgn t ns).erase true).count false = (sgn t (ns.erase M)).count false := by rw [List.count_erase_of_ne (by decide), d0]
    have f1 : ((sgn t ns).erase true).count true = (sgn t (ns.erase M)).count true := by rw [List.count_erase_self, d1]; omega
    rw [f0, f1, forget f0 f1 (by omega), dropN_app w [true]]
    have z0 : w.count false - (sgn t (ns.erase M)).count false - w.count false = 0 := by omega
    have z1 : w.count true - (sgn t (ns.erase M)).count true - w.count true = 0 := by omega
    rw [z0, z1, ← List.append_assoc]
    rfl
  · rw [decide_eq_false hd] at c0 c1 ⊢
    have d0 : (sgn t ns).count false = (sgn t (ns.erase M)).count false + 1 := by rw [c0]; simp
    have d1 : (sgn t ns).count true = 0 := by
      rw [List.count_eq_zero]
      intro z
      obtain ⟨x, hx, ex⟩ := List.mem_map.mp z
      have := top x hx
      have : t ≤ x := of_decide_eq_true ex
      omega
    have d2 : (sgn t (ns.erase M)).count true = 0 := by
      have : (sgn t ns).count true = (sgn t (ns.erase M)).count true := by rw [c1]; simp
      omega
    rw [dropN_ones _ _ _ (by simp [d1]), dropN_ones _ _ _ (by simp [d2])]
    have e1 : (sgn t ns ++ (w ++ [true])).count false - w.count false = (sgn t (ns.erase M)).count false + 1 := by simp [d0]
    have e2 : (sgn t (ns.erase M) ++ w).count false - w.count false = (sgn t (ns.erase M)).count false := by simp
    rw [e1, e2, List.replicate_succ']
theorem ends_min {w : List Bool} {ns : List Int} {m : Int} (hm : m ∈ ns) (low : ∀ x ∈ ns, m ≤ x) (h : ns.length ≤ w.length + 2) : afterL (w ++ [false]) ns = afterL w (ns.erase m) ++ [m] := by
  have hn : ns ≠ [] := List.ne_nil_of_mem hm
  have pe : (m :: ns.erase m).Perm ns := (List.perm_cons_erase hm).symm
  have le := pe.length_eq
  rw [List.length_cons] at le
  refine sgn_inj (by rw [afterL_len, List.length_append, afterL_len, ← le]; rfl) fun t => ?_
  rw [after_sgn t _ ns hn]
  have app : sgn t (afterL w (ns.erase m) ++ [m]) = sgn t (afterL w (ns.erase m)) ++ [decide (t ≤ m)] := List.map_append ..
  have rest : sgn t (afterL w (ns.erase m)) = dropN (w.count false) (w.count true) (sgn t (ns.erase m) ++ w) := by
    by_cases hr : ns.erase m = []
    · rw [hr, afterL_nil]
      have : dropN (w.count false) (w.count true) w = [] := by rw [dropN_zeros _ _ _ (Nat.le_refl _), Nat.sub_self]; rfl
      exact this.symm
    · exact after_sgn t w _ hr
  rw [app, rest]
  have k0 : (w ++ [false]).count false = w.count false + 1 := by simp
  have k1 : (w ++ [false]).count true = w.count true := by simp
  rw [k0, k1]
  have c0 : (sgn t ns).count false = ((decide (t ≤ m)) :: sgn t (ns.erase m)).count false := ((sgn_perm pe).count_eq false).symm
  have c1 : (sgn t ns).count true = ((decide (t ≤ m)) :: sgn t (ns.erase m)).count true := ((sgn_perm pe).count_eq true).symm
  have cl := count_two (sgn t (ns.erase m))
  rw [sgn_len] at cl
  have cw := count_two w
  by_cases hd : t ≤ m
  · rw [decide_eq_true hd] at c0 c1 ⊢
    have d0 : (sgn t ns).count false = 0 := by
      rw [List.count_eq_zero]
      intro z
      obtain ⟨x, hx, ex⟩ := List.mem_map.mp z
      have := low x hx
      have : ¬ t ≤ x := of_decide_eq_false ex
      omega
    have d1 : (sgn t ns).count true = (sgn t (ns.erase m)).count true + 1 := by rw [c1]; simp
    have d2 : (sgn t (ns.erase m)).count false = 0 := by
      have : (sgn t ns).count false = (sgn t (ns.erase m)).count false := by rw [c0]; simp
      omega
    rw [dropN_zeros _ _ _ (by simp [d0]), dropN_zeros _ _ _ (by simp [d2])]
    have e1 : (sgn t ns ++ (w ++ [false])).count true - w.count true = (sgn t (ns.erase m)).count true + 1 := by simp [d1]
    have e2 : (sgn t (ns.erase m) ++ w).count true - w.count true = (sgn t (ns.erase m)).count true := by simp
    rw [e1, e2, List.replicate_succ']
  · rw [decide_eq_false hd] at c0 c1 ⊢
    have d0 : (sgn t ns).count false = (sgn t (ns.erase m)).count false + 1 := by rw [c0]; simp
    have d1 : (sgn t ns).count true = (sgn t (ns.erase m)).count true := by rw [c1]; simp
    have mem : false ∈ sgn t ns := List.count_pos_iff.mp (by omega)
    rw [dropN_f, List.erase_append_left _ mem, dropN_app, dropN_app (sgn t (ns.erase m)) w]
    have f0 : ((sgn t ns).erase false).count false = (sgn t (ns.erase m)).count false := by rw [List.count_erase_self, d0]; omega
    have f1 : ((sgn t ns).erase false).count true = (sgn t (ns.erase m)).count true := by rw [List.count_erase_of_ne (by decide), d1]
    rw [f0, f1, forget f0 f1 (by omega), dropN_app w [false]]
    have z0 : w.count false - (sgn t (ns.erase m)).count false - w.count false = 0 := by omega
    have z1 : w.count true - (sgn t (ns.erase m)).count true - w.count true = 0 := by omega
    rw [z0, z1, ← List.append_assoc]
    rfl
/-! ### how many of each kind, not their order, tells who stays in front -/
theorem dropN_len : ∀ (l : List Bool) (a b : Nat), (dropN a b l).length = (l.count false - a) + (l.count true - b)
  | [], a, b => by simp [dropN]
  | false :: l, 0, b => by rw [dropN, List.length_cons, dropN_len l 0 b]; simp; omega
  | false :: l, a + 1, b => by rw [dropN, dropN_len l a b]; simp
  | true :: l, a, 0 => by rw [dropN, List.length_cons, dropN_len l a 0]; simp; omega
  | true :: l, a, b + 1 => by rw [dropN, dropN_len l a b]; simp
theorem kept_any {v w : List Bool} {ns : List Int} (e0 : v.count false = w.count false) (e1 : v.count true = w.count true) : (afterL v ns).take (ns.length - v.length) = (afterL w ns).take (ns.length - v.length) := by
  by_cases hn : ns = []
  · subst hn
    rw [afterL_nil, afterL_nil]
  refine sgn_inj (by rw [List.length_take, List.length_take, afterL_len, afterL_len]) fun t => ?_
  have tk : ∀ (k : Nat) (l : List Int), sgn t (l.take k) = (sgn t l).take k := fun k l => List.map_take ..
  rw [tk, tk, after_sgn t v ns hn, after_sgn t w ns hn, dropN_app, dropN_app, e0, e1]
  have ln := dropN_len (sgn t ns) (w.count false) (w.count true)
  have c1 := count_two (sgn t ns)
  have c2 := count_two v
  rw [sgn_len] at c1
  have le : ns.length - v.length ≤ (dropN (w.count false) (w.count true) (sgn t ns)).length := by omega
  rw [List.take_append_of_le_length le, List.take_append_of_le_length le]
/-! ### final rows, read from the last letter on -/
/-- the word backwards, the heights ascending -/
def finR : List Bool → List Int → List Int
  | _, [] => []
  | _, [x] => [x]
  | [], hs => hs
  | true :: r, x :: y :: l => finR r ((x :: y :: l).dropLast) ++ [(x :: y :: l).getLast (by simp)]
  | false :: r, x :: y :: l => finR r (y :: l) ++ [x]
theorem after_one (w : List Bool) (x : Int) : afterL w [x] = [x] := List.perm_singleton.mp (afterL_perm w [x])
theorem after_fin : ∀ (r : List Bool) (hs ns : List Int), hs.Pairwise (· < ·) → ns.Perm hs → hs.length ≤ r.length + 1 → afterL r.reverse ns = finR r hs
  | r, [], ns, _, p, _ => by
    rw [List.perm_nil.mp p, afterL_nil]
    cases r with
    | nil => rfl
    | cons b r => cases b <;> rfl
  | r, [x], ns, _, p, _ => by
    rw [List.perm_singleton.mp p, after_one]
    cases r with
    | nil => rfl
    | cons b r => cases b <;> rfl
  | [], x :: y :: l, ns, _, _, h => by simp at h
  | true :: r, x :: y :: l, ns, hs, p, h => by
    rw [List.reverse_cons]
    have ne : x :: y :: l ≠ [] := by simp
    generalize hM : (x :: y :: l).getLast ne = M
    have sp : (x :: y :: l).dropLast ++ [M] = x :: y :: l := by rw [← hM]; exact List.dropLast_concat_getLast ne
    have pw : ((x :: y :: l).dropLast ++ [M]).Pairwise (· < ·) := by rw [sp]; exact hs
    rw [List.pairwise_append] at pw
    have memM : M ∈ ns := p.mem_iff.mpr (by rw [← sp]; simp)
    have top : ∀ z ∈ ns, z ≤ M := fun z hz => by
      have := p.mem_iff.mp hz
      rw [← sp] at this
      rcases List.mem_append.mp this with q | q
      · exact Int.le_of_lt (pw.2.2 z q M (by simp))
      · rw [List.mem_singleton.mp q]
        exact Int.le_refl _
    have hl : ns.length ≤ r.reverse.length + 2 := by rw [p.length_eq, List.length_reverse]; simpa using h
    have pe : (ns.erase M).Perm (x :: y :: l).dropLast := by
      have := p.erase M
      rw [← sp] at this
      refine this.trans ?_
      have nm : M ∉ (x :: y :: l).dropLast := fun z => by
        have := pw.2.2 M z M (by simp)
        omega
      rw [List.erase_append_right _ nm]
      simp
    rw [ends_max memM top hl]
    show _ = finR r ((x :: y :: l).dropLast) ++ [(x :: y :: l).getLast ne]
    rw [hM, after_fin r _ _ pw.1 pe (by simp at h ⊢; omega)]
  | false :: r, x :: y :: l, ns, hs, p, h => by
    rw [List.reverse_cons]
    have pw := hs
    rw [List.pairwise_cons] at pw
    have memx : x ∈ ns := p.mem_iff.mpr (by simp)
    have low : ∀ z ∈ ns, x ≤ z := fun z hz => by
      rcases List.mem_cons.mp (p.mem_iff.mp hz) with q | q
      · omega
      · exact Int.le_of_lt (pw.1 z q)
    have hl : ns.length ≤ r.reverse.length + 2 := by rw [p.length_eq, List.length_reverse]; simpa using h
    have pe : (ns.erase x).Perm (y :: l) := by
      have := p.erase x
      simpa using this
    rw [ends_min memx low hl, after_fin r _ _ pw.2 pe (by simp at h ⊢; omega)]
    rfl
/-! ### desks -/
theorem sgn_sorted {t : Int} : ∀ {l : List Int}, l.Pairwise (· ≤ ·) → sgn t l = List.replicate ((sgn t l).count false) false ++ List.replicate ((sgn t l).count true) true
  | [], _ => rfl
  | x :: l, h => by
    rw [List.pairwise_cons] at h
    have ih := sgn_sorted (t := t) h.2
    by_cases hx : t ≤ x
    · have al : sgn t (x :: l) = List.replicate (x :: l).length true := sgn_all true fun y hy => by
        rcases List.mem_cons.mp hy with q | q
        · rw [q]; exact decide_eq_true hx
        · have := h.1 y q
          exact decide_eq_true (by omega)
      rw [al]
      simp [List.count_replicate]
    · have e : sgn t (x :: l) = false :: sgn t l := by
        show decide (t ≤ x) :: sgn t l = _
        rw [decide_eq_false hx]
      rw [e]
      have c0 : (false :: sgn t l).count false = (sgn t l).count false + 1 := by simp
      have c1 : (false :: sgn t l).count true = (sgn t l).count true := by simp
      rw [c0, c1, List.replicate_succ, List.cons_append, ← ih]
/-- signs of people who come to a desk with s short seats and t tall ones, a zeros and b ones there -/
def deskB (s t : Nat) : Nat → Nat → List Bool → List Bool
  | a, b, [] => List.replicate (min (s - a) b) true ++ List.replicate (min a s) false ++ (List.replicate (a - s) false ++ List.replicate (b - (s - a)) true)
  | a, b, false :: r => if s + t < a + 1 + b then (if s < a + 1 then false :: deskB s t a b r else true :: deskB s t (a + 1) (b - 1) r) else deskB s t (a + 1) b r
  | a, b, true :: r => if s + t < a + (b + 1) then (if s < a then false :: deskB s t (a - 1) (b + 1) r else true :: deskB s t a b r) else deskB s t a (b + 1) r
def deskG (s t a b : Nat) (l : List Bool) : List Bool :=
  List.replicate (a - s) false ++ (List.replicate (b - t) true ++ (dropN (s - a) (t - b) l ++ (List.replicate (min s (a + l.count false)) false ++ List.replicate (min t (b + l.count true)) true)))
theorem rep_glue {α : Type} (x : α) (m n : Nat) (l : List α) : List.replicate m x ++ (List.replicate n x ++ l) = List.replicate (m + n) x ++ l := by
  rw [← List.append_assoc, List.replicate_append_replicate]
theorem deskB_eq (s t : Nat) : ∀ (l : List Bool) (a b : Nat), a + b ≤ s + t → s + t ≤ a + b + l.length → deskB s t a b l = deskG s t a b l
  | [], a, b, h1, h2 => by
    have e : a + b = s + t := by simp at h2; omega
    unfold deskB deskG
    rw [dropN, List.nil_append]
    by_cases ha : a ≤ s
    · rw [show min (s - a) b = s - a by omega, show min a s = a by omega, show a - s = 0 by omega, show b - (s - a) = t by omega, show b - t = s - a by omega]
      simp [List.append_assoc, show min s a = a by omega, show min t b = t by omega]
    · rw [show s - a = 0 by omega, show min a s = s by omega, show b - t = 0 by omega]
      simp only [Nat.zero_min, List.replicate_zero, List.nil_append, Nat.sub_zero, List.count_nil, Nat.add_zero]
      rw [show min s a = s by omega, show min t b = b by omega, rep_glue, rep_glue, Nat.add_comm]
  | false :: r, a, b, h1, h2 => by
    rw [List.length_cons] at h2
    unfold deskB
    by_cases hf : s + t < a + 1 + b
    · rw [if_pos hf]
      by_cases ha : s < a + 1
      · rw [if_pos ha, deskB_eq s t r a b h1 (by omega)]
        unfold deskG
        have m0 : min s (a + (false :: r).count false) = min s (a + r.count false) := by simp; omega
        have m1 : (false :: r).count true = r.count true := by simp
        rw [m0, m1, show s - a = 0 by omega, show b - t = 0 by omega, dropN]
        simp only [List.replicate_zero, List.nil_append, List.cons_append]
        rw [← List.cons_append, ← List.replicate_succ, List.replicate_succ', List.append_assoc]
        rfl
      · rw [if_neg ha, deskB_eq s t r (a + 1) (b - 1) (by omega) (by omega)]
        unfold deskG
        have m0 : a + (false :: r).count false = a + 1 + r.count false := by simp; omega
        have m1 : (false :: r).count true = r.count true := by simp
        obtain ⟨k, hk⟩ : ∃ k, s - a = k + 1 := ⟨s - a - 1, by omega⟩
        rw [m0, m1, hk, dropN, show a + 1 - s = 0 by omega, show a - s = 0 by omega, show t - (b - 1) = 0 by omega, show t - b = 0 by omega, show s - (a + 1) = k by omega, show b - t = (b - 1 - t) + 1 by omega, List.replicate_succ,
          show min t (b - 1 + r.count true) = min t (b + r.count true) by omega]
        rfl
    · rw [if_neg hf, deskB_eq s t r (a + 1) b (by omega) (by omega)]
      unfold deskG
      have m0 : a + (false :: r).count false = a + 1 + r.count false := by simp; omega
      have m1 : (false :: r).count true = r.count true := by simp
      rw [m0, m1]
      by_cases ha : a < s
      · obtain ⟨k, hk⟩ : ∃ k, s - a = k + 1 := ⟨s - a - 1, by omega⟩
        rw [hk, dropN, show a + 1 - s = 0 by omega, show a - s = 0 by omega, show s - (a + 1) = k by omega]
      · rw [show s - a = 0 by omega, show s - (a + 1) = 0 by omega, dropN, show b - t = 0 by omega, show a + 1 - s = (a - s) + 1 by omega, List.replicate_succ', List.append_assoc]
        rfl
  | true :: r, a, b, h1, h2 => by
    rw [List.length_cons] at h2
    unfold deskB
    have m0 : (true :: r).count false = r.count false := by simp
    by_cases hf : s + t < a + (b + 1)
    · rw [if_pos hf]
      by_cases ha : s < a
      · rw [if_pos ha, deskB_eq s t r (a - 1) (b + 1) (by omega) (by omega)]
        unfold deskG
        have m1 : b + (true :: r).count true = b + 1 + r.count true := by simp; omega
        obtain ⟨k, hk⟩ : ∃ k, t - b = k + 1 := ⟨t - b - 1, by omega⟩
        rw [m0, m1, hk, dropN, show s - a = 0 by omega, show s - (a - 1) = 0 by omega, show b + 1 - t = 0 by omega, show b - t = 0 by omega, show t - (b + 1) = k by omega, show a - s = (a - 1 - s) + 1 by omega, List.replicate_succ,
          show min s (a - 1 + r.count false) = min s (a + r.count false) by omega]
        rfl
      · rw [if_neg ha, deskB_eq s t r a b h1 (by omega)]
        unfold deskG
        have m1 : min t (b + (true :: r).count true) = min t (b + r.count true) := by simp; omega
        rw [m0, m1, show a - s = 0 by omega, show t - b = 0 by omega, dropN]
        simp only [List.replicate_zero, List.nil_append, List.cons_append]
        rw [← List.cons_append, ← List.replicate_succ, List.replicate_succ', List.append_assoc]
        rfl
    · rw [if_neg hf, deskB_eq s t r a (b + 1) (by omega) (by omega)]
      unfold deskG
      have m1 : b + (true :: r).count true = b + 1 + r.count true := by simp; omega
      rw [m0, m1]
      by_cases hb : b < t
      · obtain ⟨k, hk⟩ : ∃ k, t - b = k + 1 := ⟨t - b - 1, by omega⟩
        rw [hk, dropN, show b + 1 - t = 0 by omega, show b - t = 0 by omega, show t - (b + 1) = k by omega]
      · rw [show t - b = 0 by omega, show t - (b + 1) = 0 by omega, dropN, show a - s = 0 by omega, show b + 1 - t = (b - t) + 1 by omega, List.replicate_succ', List.append_assoc]
        rfl
/-- who leaves when one too many is there: exactly s are shorter -/
def leaver (s : Nat) (l : List Int) : Int := (l.find? fun x => decide ((l.filter fun y => decide (y < x)).length = s)).getD 0
/-- d are at the desk, the others come -/
def deskGo (s t : Nat) : List Int → List Int → List Int
  | d, [] => ((d.mergeSort fun x y => decide (x ≤ y)).take s).reverse ++ (d.mergeSort fun x y => decide (x ≤ y)).drop s
  | d, p :: r => if s + t < d.length + 1 then leaver s (d ++ [p]) :: deskGo s t ((d ++ [p]).erase (leaver s (d ++ [p]))) r else deskGo s t (d ++ [p]) r
theorem sort_ok (l : List Int) : (l.mergeSort fun x y => decide (x ≤ y)).Perm l ∧ (l.mergeSort fun x y => decide (x ≤ y)).Pairwise (· ≤ ·) := by
  refine ⟨List.mergeSort_perm .., ?_⟩
  have := List.pairwise_mergeSort (le := fun x y : Int => decide (x ≤ y)) (fun a b c h1 h2 => by simp at h1 h2 ⊢; omega) (fun a b => by simp; omega) l
  exact this.imp fun h => by simpa using h
theorem leaver_ok {s : Nat} {l : List Int} (nd : l.Nodup) (h : s < l.length) : leaver s l ∈ l ∧ (l.filter fun y => decide (y < leaver s l)).length = s := by
  obtain ⟨p, so⟩ := sort_ok l
  generalize l.mergeSort (fun x y => decide (x ≤ y)) = m at p so
  have hm : s < m.length := by rw [p.length_eq]; exact h
  have fx := filter_sorted hm so (p.nodup_iff.mpr nd)
  rw [(p.filter _).length_eq] at fx
  unfold leaver
  cases e : l.find? fun x => decide ((l.filter fun y => decide (y < x)).length = s) with
  | none =>
    have := List.find?_eq_none.mp e m[s] (p.mem_iff.mp (List.getElem_mem hm))
    exact absurd (decide_eq_true fx) this
  | some z =>
    have q := List.find?_some (p := fun x => decide ((l.filter fun y => decide (y < x)).length = s)) e
    exact ⟨List.mem_of_find?_eq_some e, of_decide_eq_true q⟩
theorem zeros_count (h : Int) (l : List Int) : (sgn h l).count false = (l.filter fun y => decide (y < h)).length := by
  induction l with
  | nil => rfl
  | cons x l ih =>
    show (decide (h ≤ x) :: sgn h l).count false = _
    by_cases hx : h ≤ x
    · rw [List.filter_cons, decide_eq_true hx, decide_eq_false (by omega : ¬ x < h)]
      simpa using ih
    · rw [List.filter_cons, decide_eq_false hx, decide_eq_true (by omega : x < h)]
      simp [ih]
theorem below_or_at (x : Int) : ∀ l : List Int, (l.filter fun y => decide (y < x + 1)).length = (l.filter fun y => decide (y < x)).length + l.count x
  | [] => rfl
  | y :: l => by
    have ih := below_or_at x l
    rw [List.filter_cons, List.filter_cons, List.count_cons]
    by_cases h1 : y < x
    · rw [decide_eq_true h1, decide_eq_true (by omega : y < x + 1)]
      have : (y == x) = false := beq_eq_false_iff_ne.mpr (by omega)
      simp [this, ih]
      omega
    · by_cases h2 : y = x
      · subst h2
        rw [decide_eq_false h1, decide_eq_true (by omega : y < y + 1)]
        simp [ih]
        omega
      · rw [decide_eq_false h1, decide_eq_false (by omega : ¬ y < x + 1)]
        have : (y == x) = false := beq_eq_false_iff_ne.mpr h2
        simp [this, ih]
theorem below_mono {a b : Int} (h : a ≤ b) (l : List Int) : (l.filter fun y => decide (y < a)).length ≤ (l.filter fun y => decide (y < b)).length := by
  rw [← List.countP_eq_length_filter, ← List.countP_eq_length_filter]
  exact List.countP_mono_left fun x _ hx => by simp at hx ⊢; omega
theorem leaver_sgn {s : Nat} {l : List Int} (nd : l.Nodup) (h : s < l.length) (t : Int) : decide (t ≤ leaver s l) = decide ((sgn t l).count false ≤ s) := by
  obtain ⟨mem, cnt⟩ := leaver_ok nd h
  rw [zeros_count]
  by_cases ht : t ≤ leaver s l
  · rw [decide_eq_true ht]
    have := below_mono ht l
    exact (decide_eq_true (by omega)).symm
  · rw [decide_eq_false ht]
    have h1 := below_or_at (leaver s l) l
    have h2 : 1 ≤ l.count (leaver s l) := List.count_pos_iff.mpr mem
    have h3 := below_mono (by omega : leaver s l + 1 ≤ t) l
    exact (decide_eq_false (by omega)).symm
theorem sgn_erase {l : List Int} {x : Int} (h : x ∈ l) (t : Int) (b : Bool) : (sgn t l).count b = (sgn t (l.erase x)).count b + (if decide (t ≤ x) = b then 1 else 0) := by
  have p := sgn_perm (h := t) (List.perm_cons_erase h)
  rw [p.count_eq b]
  show (decide (t ≤ x) :: sgn t (l.erase x)).count b = _
  rw [List.count_cons]
  congr 1
  cases decide (t ≤ x) <;> cases b <;> rfl
theorem desk_sgn (s t : Nat) (u : Int) : ∀ (r d : List Int), (d ++ r).Nodup → d.length ≤ s + t → s + t ≤ d.length + r.length → sgn u (deskGo s t d r) = deskB s t ((sgn u d).count false) ((sgn u d).count true) (sgn u r)
  | [], d, _, h1, h2 => by
    obtain ⟨p, so⟩ := sort_ok d
    unfold deskGo
    generalize d.mergeSort (fun x y => decide (x ≤ y)) = m at p so
    have pc := sgn_perm (h := u) p
    have ss := sgn_sorted (t := u) so
    rw [pc.count_eq false, pc.count_eq true] at ss
    have e : sgn u ((m.take s).reverse ++ m.drop s) = ((sgn u m).take s).reverse ++ (sgn u m).drop s := by
      unfold sgn
      rw [List.map_append, List.map_reverse, List.map_take, List.map_drop]
    rw [e, ss]
    show _ = deskB s t _ _ []
    unfold deskB
    generalize (sgn u d).count false = a
    generalize (sgn u d).count true = b
    rw [List.take_append, List.drop_append, List.take_replicate, List.take_replicate, List.drop_replicate, List.drop_replicate, List.length_replicate, List.reverse_append, List.reverse_replicate, List.reverse_replicate, Nat.min_comm s a]
  | p :: r, d, nd, h1, h2 => by
    rw [List.length_cons] at h2
    have nd2 : ((d ++ [p]) ++ r).Nodup := by simpa using nd
    have nd3 : (d ++ [p]).Nodup := (List.nodup_append.mp nd2).1
    have cc := count_two (sgn u d)
    rw [sgn_len] at cc
    have sap : sgn u (d ++ [p]) = sgn u d ++ [decide (u ≤ p)] := List.map_append ..
    have a0 : (sgn u (d ++ [p])).count false = (sgn u d).count false + (if decide (u ≤ p) = false then 1 else 0) := by
      rw [sap, List.count_append]
      cases decide (u ≤ p) <;> rfl
    have a1 : (sgn u (d ++ [p])).count true = (sgn u d).count true + (if decide (u ≤ p) = true then 1 else 0) := by
      rw [sap, List.count_append]
      cases decide (u ≤ p) <;> rfl
    have hr : sgn u (p :: r) = decide (u ≤ p) :: sgn u r := rfl
    have len : (d ++ [p]).length = d.length + 1 := by simp
    rw [hr]
    unfold deskGo
    by_cases hf : s + t < d.length + 1
    · rw [if_pos hf]
      have lt : s < (d ++ [p]).length := by omega
      obtain ⟨mem, _⟩ := leaver_ok nd3 lt
      have ls := leaver_sgn nd3 lt u
      have er0 := sgn_erase mem u false
      have er1 := sgn_erase mem u true
      generalize hx : leaver s (d ++ [p]) = x at *
      have sub : ((d ++ [p]).erase x ++ r).Sublist (d ++ [p] ++ r) := List.Sublist.append (List.erase_sublist ..) (List.Sublist.refl _)
      have el : ((d ++ [p]).erase x).length = d.length := by rw [List.length_erase_of_mem mem, len]; rfl
      have ih := desk_sgn s t u r ((d ++ [p]).erase x) (sub.nodup nd2) (by omega) (by omega)
      show decide (u ≤ x) :: sgn u (deskGo s t ((d ++ [p]).erase x) r) = _
      rw [ih]
      generalize sgn u r = R
      generalize (sgn u d).count false = a at *
      generalize (sgn u d).count true = b at *
      cases hp : decide (u ≤ p)
      · rw [hp] at a0 a1
        simp only [if_true, Bool.false_eq_true, if_false, Nat.add_zero] at a0 a1
        rw [a0] at ls er0
        rw [a1] at er1
        show _ = deskB s t a b (false :: R)
        conv => rhs; unfold deskB
        rw [if_pos (by omega)]
        by_cases hs : s < a + 1
        · rw [decide_eq_false (by omega : ¬ a + 1 ≤ s)] at ls
          rw [ls] at er0 er1 ⊢
          simp at er0 er1
          rw [if_pos hs, ← er0, ← er1]
        · rw [decide_eq_true (by omega : a + 1 ≤ s)] at ls
          rw [ls] at er0 er1 ⊢
          simp at er0 er1
          rw [if_neg hs, ← er0, show b - 1 = (sgn u ((d ++ [p]).erase x)).count true by omega]
      · rw [hp] at a0 a1
        simp only [if_true, Bool.true_eq_false, if_false, Nat.add_zero] at a0 a1
        rw [a0] at ls er0
        rw [a1] at er1
        show _ = deskB s t a b (true :: R)
        conv => rhs; unfold deskB
        rw [if_pos (by omega)]
        by_cases hs : s < a
        · rw [decide_eq_false (by omega : ¬ a ≤ s)] at ls
          rw [ls] at er0 er1 ⊢
          simp at er0 er1
          rw [if_pos hs, ← er1, show a - 1 = (sgn u ((d ++ [p]).erase x)).count false by omega]
        · rw [decide_eq_true (by omega : a ≤ s)] at ls
          rw [ls] at er0 er1 ⊢
          simp at er0 er1
          rw [if_neg hs, ← er0, ← er1]
    · rw [if_neg hf, desk_sgn s t u r (d ++ [p]) nd2 (by omega) (by omega), a0, a1]
      cases hp : decide (u ≤ p)
      · show deskB s t ((sgn u d).count false + 1) ((sgn u d).count true) (sgn u r) = deskB s t _ _ (false :: sgn u r)
        conv => rhs; unfold deskB
        rw [if_neg (by omega)]
      · show deskB s t ((sgn u d).count false) ((sgn u d).count true + 1) (sgn u r) = deskB s t _ _ (true :: sgn u r)
        conv => rhs; unfold deskB
        rw [if_neg (by omega)]
/-- a desk is its passes -/
theorem desk_passes {s t : Nat} {ns : List Int} (nd : ns.Nodup) (h : s + t ≤ ns.length) : deskGo s t [] ns = afterL (List.replicate s false ++ List.replicate t true) ns := by
  by_cases hn : ns = []
  · subst hn
    rw [afterL_nil]
    have hs : s = 0 := by simp at h; omega
    subst hs
    unfold deskGo
    simp [List.mergeSort]
  have key : ∀ u, sgn u (deskGo s t [] ns) = sgn u (afterL (List.replicate s false ++ List.replicate t true) ns) := fun u => by
    rw [desk_sgn s t u ns [] (by simpa using nd) (Nat.zero_le _) (by simpa using h), after_sgn u _ ns hn]
    show deskB s t 0 0 (sgn u ns) = _
    rw [deskB_eq s t _ 0 0 (Nat.zero_le _) (by rw [sgn_len]; simpa using h)]
    have c0 : (List.replicate s false ++ List.replicate t true).count false = s := by simp [List.count_replicate]
    have c1 : (List.replicate s false ++ List.replicate t true).count true = t := by simp [List.count_replicate]
    rw [c0, c1, dropN_app, dropN_0x]
    unfold deskG
    simp only [Nat.zero_sub, List.replicate_zero, List.nil_append, Nat.sub_zero, Nat.zero_add]
    rw [show s - (s - (sgn u ns).count false) = min s ((sgn u ns).count false) by omega, show t - (t - (sgn u ns).count true) = min t ((sgn u ns).count true) by omega]
  refine sgn_inj ?_ key
  have := congrArg List.length (key 0)
  rwa [sgn_len, sgn_len] at this
end Lp
namespace Lp
open PySem PySem.Spec PyProof.Rows L2
/-! ### desks with the numbers of arrivals -/
theorem below_inj {l : List Int} {x y : Int} (hx : x ∈ l) (hy : y ∈ l) (h : (l.filter fun z => decide (z < x)).length = (l.filter fun z => decide (z < y)).length) : x = y := by
  have h1 := below_or_at x l
  have h2 := below_or_at y l
  have c1 : 1 ≤ l.count x := List.count_pos_iff.mpr hx
  have c2 : 1 ≤ l.count y := List.count_pos_iff.mpr hy
  rcases Int.lt_trichotomy x y with z | z | z
  · have := below_mono (by omega : x + 1 ≤ y) l
    omega
  · exact z
  · have := below_mono (by omega : y + 1 ≤ x) l
    omega
theorem leaver_at {s : Nat} {d ds : List Int} (p : ds.Perm d) (so : ds.Pairwise (· ≤ ·)) (nd : d.Nodup) (h : s < ds.length) : ds[s] = leaver s d := by
  have hd : s < d.length := by rw [← p.length_eq]; exact h
  obtain ⟨mem, cnt⟩ := leaver_ok nd hd
  refine below_inj (p.mem_iff.mp (List.getElem_mem h)) mem ?_
  rw [cnt, ← (p.filter _).length_eq]
  exact filter_sorted h so (p.nodup_iff.mpr nd)
theorem erase_at : ∀ {l : List Int} {k : Nat} (h : k < l.length), l.Nodup → l.eraseIdx k = l.erase l[k]
  | a :: l, 0, _, _ => by simp
  | a :: l, k + 1, h, nd => by
    rw [List.nodup_cons] at nd
    have hk : k < l.length := Nat.lt_of_succ_lt_succ h
    have ne : (a == (a :: l)[k + 1]) = false := by
      show (a == l[k]) = false
      exact beq_eq_false_iff_ne.mpr fun e => nd.1 (e ▸ List.getElem_mem hk)
    rw [List.erase_cons, ne]
    show a :: l.eraseIdx k = a :: l.erase l[k]
    rw [erase_at hk nd.2]
theorem sorted_uniq {a b : List Int} (p : a.Perm b) (ha : a.Pairwise (· ≤ ·)) (hb : b.Pairwise (· ≤ ·)) : a = b :=
  p.eq_of_pairwise (fun x y _ _ h1 h2 => by omega) ha hb
/-- the people of an ascending list as they leave at last -/
def lastGo (s : Nat) (ds : List Int) : List Int := (ds.take s).reverse ++ ds.drop s
def stepD (s t : Nat) (st : List (Int × Int) × List Int × Nat) (p : Int) : List (Int × Int) × List Int × Nat :=
  if s + t < st.2.1.length + 1 then (st.1 ++ [(((st.2.2 + 1 : Nat) : Int), leaver s (st.2.1 ++ [p]))], (st.2.1 ++ [p]).erase (leaver s (st.2.1 ++ [p])), st.2.2 + 1)
  else (st.1, st.2.1 ++ [p], st.2.2 + 1)
def runD (s t : Nat) (ns : List Int) : List (Int × Int) × List Int × Nat := ns.foldl (stepD s t) ([], [], 0)
def sortL (l : List Int) : List Int := l.mergeSort fun x y => decide (x ≤ y)
def depL (s t : Nat) (ns : List Int) : List (Int × Int) := (runD s t ns).1 ++ (lastGo s (sortL (runD s t ns).2.1)).map fun p => ((ns.length : Int), p)
theorem depGo (s t : Nat) : ∀ (r d : List Int) (l : List (Int × Int)) (k : Nat), ((r.foldl (stepD s t) (l, d, k)).1.map (·.2)) ++ lastGo s (sortL (r.foldl (stepD s t) (l, d, k)).2.1) = l.map (·.2) ++ deskGo s t d r
  | [], d, l, k => rfl
  | p :: r, d, l, k => by
    rw [List.foldl_cons, show stepD s t (l, d, k) p = (if s + t < d.length + 1 then (l ++ [(((k + 1 : Nat) : Int), leaver s (d ++ [p]))], (d ++ [p]).erase (leaver s (d ++ [p])), k + 1) else (l, d ++ [p], k + 1)) from rfl, deskGo]
    split
    · rw [depGo s t r, List.map_append, List.append_assoc]
      rfl
    · rw [depGo s t r]
theorem depL_desk (s t : Nat) (ns : List Int) : (depL s t ns).map (·.2) = deskGo s t [] ns := by
  have := depGo s t ns [] [] 0
  unfold depL runD
  rw [List.map_append, List.map_map, show ((fun x : Int × Int => x.2) ∘ fun p => ((ns.length : Int), p)) = id from rfl, List.map_id]
  exact this
theorem runD_take {s t : Nat} {ns : List Int} {i : Nat} (h : i < ns.length) : runD s t (ns.take (i + 1)) = stepD s t (runD s t (ns.take i)) ns[i] := fold_take (List.getElem?_eq_getElem h)
/-- who is at the desk, of those who came -/
theorem runD_desk (s t : Nat) : ∀ (r d : List Int) (l : List (Int × Int)) (k : Nat), (d ++ r).Nodup → d.length ≤ s + t → (r.foldl (stepD s t) (l, d, k)).2.1.Nodup ∧ (∀ x ∈ (r.foldl (stepD s t) (l, d, k)).2.1, x ∈ d ++ r) ∧ (r.foldl (stepD s t) (l, d, k)).2.1.length ≤ s + t ∧ (r.foldl (stepD s t) (l, d, k)).2.2 = k + r.length
  | [], d, l, k, nd, hd => by
    rw [List.append_nil] at nd ⊢
    exact ⟨nd, fun x hx => hx, hd, rfl⟩
  | p :: r, d, l, k, nd, hd => by
    have nd2 : ((d ++ [p]) ++ r).Nodup := by rw [List.append_assoc]; exact nd
    have ndp : (d ++ [p]).Nodup := (List.nodup_append.mp nd2).1
    rw [List.foldl_cons, show stepD s t (l, d, k) p = (if s + t < d.length + 1 then (l ++ [(((k + 1 : Nat) : Int), leaver s (d ++ [p]))], (d ++ [p]).erase (leaver s (d ++ [p])), k + 1) else (l, d ++ [p], k + 1)) from rfl]
    split
    · rename_i hlt
      have hs : s < (d ++ [p]).length := by
        rw [List.length_append]
        show s < d.length + 1
        omega
      obtain ⟨mem, _⟩ := leaver_ok ndp hs
      have sub : ((d ++ [p]).erase (leaver s (d ++ [p])) ++ r).Sublist ((d ++ [p]) ++ r) := (List.erase_sublist ..).append_right r
      obtain ⟨h1, h2, h3, h4⟩ := runD_desk s t r ((d ++ [p]).erase (leaver s (d ++ [p]))) (l ++ [(((k + 1 : Nat) : Int), leaver s (d ++ [p]))]) (k + 1) (nd2.sublist sub) (by
        rw [List.length_erase_of_mem mem, List.length_append]
        show d.length + 1 - 1 ≤ s + t
        omega)
      refine ⟨h1, fun x hx => ?_, h3, by rw [h4, List.length_cons]; omega⟩
      have := sub.mem (h2 x hx)
      rw [List.append_assoc] at this
      exact this
    · rename_i hlt
      obtain ⟨h1, h2, h3, h4⟩ := runD_desk s t r (d ++ [p]) l (k + 1) nd2 (by
        rw [List.length_append]
        show d.length + 1 ≤ s + t
        omega)
      refine ⟨h1, fun x hx => ?_, h3, by rw [h4, List.length_cons]; omega⟩
      have := h2 x hx
      rw [List.append_assoc] at this
      exact this
theorem runD_ok {s t : Nat} {ns : List Int} (nd : ns.Nodup) (i : Nat) : (runD s t (ns.take i)).2.1.Nodup ∧ (∀ x ∈ (runD s t (ns.take i)).2.1, x ∈ ns.take i) ∧ (runD s t (ns.take i)).2.1.length ≤ s + t ∧ (runD s t (ns.take i)).2.2 = (ns.take i).length := by
  obtain ⟨h1, h2, h3, h4⟩ := runD_desk s t (ns.take i) [] [] 0 (by rw [List.nil_append]; exact nd.sublist (List.take_sublist ..)) (Nat.zero_le _)
  exact ⟨h1, fun x hx => by simpa using h2 x hx, h3, by unfold runD; rw [h4]; omega⟩
/-- pairs of numbers in the heap -/
def PairsAt (H : Hp) : List Addr → List (Int × Int) → Prop
  | [], [] => True
  | r :: rs, p :: ps => H r = some (.tup [.int p.1, .int p.2]) ∧ PairsAt H rs ps
  | [], _ :: _ => False
  | _ :: _, [] => False
theorem PairsAt.keep {H H' : Hp} : ∀ {rs : List Addr} {ps : List (Int × Int)}, PairsAt H rs ps → (∀ r ∈ rs, ∀ o, H r = some o → H' r = some o) → PairsAt H' rs ps
  | [], [], _, _ => trivial
  | r :: rs, p :: ps, h, e => ⟨e r (List.mem_cons_self ..) _ h.1, PairsAt.keep h.2 fun x hx => e x (List.mem_cons_of_mem _ hx)⟩
theorem PairsAt.same {H H' : Hp} {rs : List Addr} {ps : List (Int × Int)} (h : PairsAt H rs ps) (e : Same H H') : PairsAt H' rs ps := h.keep fun _ _ o z => e _ o z
theorem PairsAt.snoc {H : Hp} {r : Addr} {p : Int × Int} : ∀ {rs : List Addr} {ps : List (Int × Int)}, PairsAt H rs ps → H r = some (.tup [.int p.1, .int p.2]) → PairsAt H (rs ++ [r]) (ps ++ [p])
  | [], [], _, e => ⟨e, trivial⟩
  | _ :: _, _ :: _, h, e => ⟨h.1, PairsAt.snoc h.2 e⟩
theorem PairsAt.len {H : Hp} : ∀ {rs : List Addr} {ps : List (Int × Int)}, PairsAt H rs ps → rs.length = ps.length
  | [], [], _ => rfl
  | _ :: _, _ :: _, h => by rw [List.length_cons, List.length_cons, PairsAt.len h.2]
theorem PairsAt.get {H : Hp} : ∀ {rs : List Addr} {ps : List (Int × Int)} {i : Nat} {r : Addr}, PairsAt H rs ps → rs[i]? = some r → ∃ p, ps[i]? = some p ∧ H r = some (.tup [.int p.1, .int p.2])
  | r :: rs, p :: ps, 0, r', h, e => ⟨p, rfl, by rw [← Option.some.inj e]; exact h.1⟩
  | r :: rs, p :: ps, i + 1, r', h, e => PairsAt.get (i := i) h.2 e
theorem PairsAt.app {H : Hp} : ∀ {rs qs : List Addr} {ps os : List (Int × Int)}, PairsAt H rs ps → PairsAt H qs os → PairsAt H (rs ++ qs) (ps ++ os)
  | [], _, [], _, _, h => h
  | _ :: _, _, _ :: _, _, h, g => ⟨h.1, PairsAt.app h.2 g⟩
theorem cutT (ns : List Int) (k : Nat) : cutV (ns.map V.int) none (some (k : Nat)) = (ns.take k).map V.int := by
  unfold cutV
  rw [HT.sIx_none, HT.sIx_nat, List.length_map]
  show ((ns.map V.int).take (min k ns.length - 0)) = _
  rw [Nat.sub_zero, List.map_take]
  by_cases h : k ≤ ns.length
  · rw [Nat.min_eq_left h]
  · rw [Nat.min_eq_right (by omega), List.take_of_length_le (by rw [List.length_map]; omega), List.take_of_length_le (by rw [List.length_map]; omega)]
theorem cutD (ns : List Int) (k : Nat) : cutV (ns.map V.int) (some (k : Nat)) none = (ns.drop k).map V.int := by
  unfold cutV
  rw [HT.sIx_none, HT.sIx_nat, List.length_map]
  show (((ns.map V.int).drop (min k ns.length)).take (ns.length - min k ns.length)) = _
  rw [List.map_drop]
  by_cases h : k ≤ ns.length
  · rw [Nat.min_eq_left h, List.take_of_length_le (by rw [List.length_drop, List.length_map]; omega)]
  · rw [Nat.min_eq_right (by omega), List.drop_of_length_le (by rw [List.length_map]; omega), List.drop_of_length_le (by rw [List.length_map]; omega)]
    exact List.take_nil
end Lp
namespace Lp
open PySem PySem.Spec PyProof.Rows L2
/-! ### the head's facts -/
def mkD (x : Str) (st : Stmt) : He.DefD := ⟨(x, none), x, x, defArgs st, defBody st, defScope st, [], []⟩
def obL (n : Nat) (fa : List He.Fa) (fn : List He.DefD) (ex : PySem.W.Frag → Bool) (g : Addr → Option Obj) : He.AlD × Bool := (He.obsDG n fa fn g, ex (He.frG g (He.asD g n)))
def hookL (n : Nat) (fa : List He.Fa) (fn : List He.DefD) (ex : PySem.W.Frag → Bool) : PySem.W.Hook where
  α := He.AlD × Bool
  obs := fun s => obL n fa fn ex s.heap.get?
  val := fun _ => (He.valD fn, true)
  says := fun _ h => ∃ K : PySem.W.Frag, K.In h ∧ He.SaysD fa fn K ∧ ex K = true
  of := fun _ s e => ⟨He.frG s.heap.get? (He.asD s.heap.get? n), He.frG_in, congrArg (fun z : He.AlD × Bool => z.1) e, congrArg (fun z : He.AlD × Bool => z.2) e⟩
  keeps := fun _ _ _ ⟨K, hK, c, x⟩ k => ⟨K, PySem.W.Frag.In.keeps hK k, c, x⟩
theorem obL_eq {n : Nat} {fa : List He.Fa} {fn : List He.DefD} {ex : PySem.W.Frag → Bool} {g : Addr → Option Obj} {s : Shared} (h : ∀ a, g a = s.heap.get? a) : obL n fa fn ex g = (hookL n fa fn ex).obs s := by
  have e : g = s.heap.get? := funext h
  rw [e]
  rfl
section
variable {P : Program} {w : World} {K : PySem.W.Frag} {mg : Str → Option Value} {h : Heap} {fa : List He.Fa} {fn : List He.DefD} {x : Str} {st : Stmt} {ps : List Str} {sp : Sp} {k : Nat} {f : Addr}
theorem Df.of (X : K.In h) (G : h.Ns mainGlobals mg) (c : He.SaysD fa fn K) (i : Nat) (hi : fn[i]? = some (mkD x st)) (hj : fa[i]? = some (.glo x)) : Df K mg x st := by
  obtain ⟨fd, F⟩ := c.def_ i hi
  exact ⟨_, fd, F, He.glo_ok X G (c.fact i hj)⟩
theorem Cl.last (D : Df K mg x st) (hf : mg x = some (.ref f)) (c : ∀ base, Cl P w K mg base k x st ps sp) : ∃ fd, FnP K x st f fd ∧ ∀ base, FnOk P w K mg base CX0 k f fd ps sp := by
  obtain ⟨f0, fd0, F0, m0⟩ := D.ex
  have e0 : f0 = f := Value.ref.inj (Option.some.inj (m0.symm.trans hf))
  subst e0
  refine ⟨fd0, F0, fun base => ?_⟩
  obtain ⟨f1, fd1, F1, G1, m1, _⟩ := (c base).ex
  have e1 : f1 = f0 := Value.ref.inj (Option.some.inj (m1.symm.trans hf))
  subst e1
  obtain ⟨_, _, _, _, _, _, _, _, _, _, _, l0, _⟩ := F0.ex
  obtain ⟨_, _, _, _, _, _, _, _, _, _, _, l1, _⟩ := F1.ex
  have e2 := l0.symm.trans l1
  simp only [Option.some.injEq, Obj.mk.injEq, Data.func.injEq] at e2
  rw [e2.2.2.1]
  exact G1
end
/-- a written tuple whose object has no dict -/
def tupN (K : PySem.W.Frag) (x : Str) : Bool := match K.lookup (He.ga K x) with
  | some o => decide (o.cls = .type "tuple") && o.dict.isNone
  | none => false
theorem tupN_ok {K : PySem.W.Frag} {x : Str} (h : tupN K x = true) : ∃ o, K.lookup (He.ga K x) = some o ∧ o.cls = .type "tuple" ∧ o.dict = none := by
  unfold tupN at h
  cases e : K.lookup (He.ga K x) with
  | none => rw [e] at h; cases h
  | some o =>
    rw [e] at h
    have h2 : (decide (o.cls = .type "tuple") && o.dict.isNone) = true := h
    rw [Bool.and_eq_true] at h2
    exact ⟨o, rfl, of_decide_eq_true h2.1, Option.isNone_iff_eq_none.mp h2.2⟩
end Lp
namespace Lp
open PySem PySem.Spec PyProof.Rows L2
/-! ### lists of texts as data -/
theorem strOk_wd (bs : List Bool) : PyData.strOk (wd bs) = true := by
  show ((bs.map code).toArray.all (· < 0x110000)) = true
  rw [List.all_toArray, List.all_eq_true]
  intro c hc
  obtain ⟨b, _, rfl⟩ := List.mem_map.mp hc
  cases b <;> decide
abbrev vW (bs : List Bool) : V := .str (wd bs)
abbrev dW (bs : List Bool) : PyData := .str (wd bs)
theorem Dp_wds {K : PySem.W.Frag} {H : Hp} : ∀ zs : List (List Bool), DpAll K H (zs.map vW) (zs.map dW)
  | [] => .nil
  | z :: zs => .cons (.str (wd z)) (Dp_wds zs)
theorem lay_wds : ∀ zs : List (List Bool), PyData.canLayAll0 (zs.map dW) = true
  | [] => by simp only [List.map_nil, PyData.canLayAll0]
  | n :: ns => by simp only [List.map_cons, PyData.canLayAll0, PyData.canLay0, strOk_wd, Bool.true_and, lay_wds ns]
theorem depth_wds : ∀ zs : List (List Bool), PyData.depthAll (zs.map dW) = 0
  | [] => by simp only [List.map_nil, PyData.depthAll]
  | n :: ns => by simp only [List.map_cons, PyData.depthAll, PyData.depth, depth_wds ns, Nat.max_self]
theorem shaped_wds (zs : List (List Bool)) : SeqAt.shaped (.list (zs.map dW)) = true := by
  unfold SeqAt.shaped
  simp only [PyData.canLay0, PyData.depth, lay_wds, depth_wds]
  decide
theorem eqv_wds (zs : List (List Bool)) : PyData.eqv (.list (zs.map dW)) (.list (zs.map dW)) = true := SeqAt.eqv_refl _ (by simp only [PyData.canLay0, lay_wds])
theorem Dp_texts {K : PySem.W.Frag} {H : Hp} {a : Addr} {zs : List (List Bool)} (h : SqL K H a (zs.map vW)) : Dp K H (.ref a) (.list (zs.map dW)) := .lst h (Dp_wds zs)
theorem neV (v : V) : (!decide (v = v)) = false := by rw [decide_eq_true rfl]; rfl
theorem Pool.row {H : Hp} {a p : Addr} {xs : List V} (x : Pool H a) (h : H p = some (.tup xs)) : p ≠ a := fun e => by
  obtain ⟨s, d, n, g, _⟩ := x
  subst e
  rw [h] at g
  cases g
theorem SqL.kp {K : PySem.W.Frag} {a b : Addr} {H H' : Hp} {xs : List V} (e : Kp a H H') (ne : b ≠ a) (h : SqL K H b xs) : SqL K H' b xs := by
  rcases h with (h | ⟨o, h⟩) | h
  · exact .inl (.inl (e _ _ h ne))
  · exact .inl (.inr ⟨o, e _ _ h ne⟩)
  · exact .inr h
theorem SqT.pool {K : PySem.W.Frag} {a b : Addr} {H H' : Hp} {xs : List V} (h : SqT K H b xs) (x : Pool H a) (e : Kp a H H') : SqT K H' b xs := by
  obtain ⟨_, _, _, g, _⟩ := x
  rcases h with (h | ⟨o, h⟩) | h
  · exact .inl (.inl (e _ _ h fun z => by subst z; rw [h] at g; cases g))
  · exact .inl (.inr ⟨o, e _ _ h fun z => by subst z; rw [h] at g; cases g⟩)
  · exact .inr h
theorem SqL.fresh {K : PySem.W.Frag} {a b : Addr} {H H' G : Hp} {xs : List V} (h : SqL K H a xs) (nb : H b = none) (s : Same H H') (k : Kp b H' G) : SqL K G a xs := by
  rcases h with (h | ⟨o, h⟩) | h
  · exact .inl (.inl (k _ _ (s _ _ h) (ne_of_none h nb)))
  · exact .inl (.inr ⟨o, k _ _ (s _ _ h) (ne_of_none h nb)⟩)
  · exact .inr h
theorem getN {M : List Nat} {i : Nat} (h : i < M.length) : (M.map fun m => V.int (m : Nat))[i]? = some (.int (M[i] : Nat)) := by
  rw [List.getElem?_map, List.getElem?_eq_getElem h]
  rfl
theorem atST (d : Int) (h0 : 0 ≤ d) (h1 : d < 2) : atI (Str.ofString "ST").cps.toList d = some (code (decide (d = 1))) := by
  have h : d = 0 ∨ d = 1 := by omega
  rcases h with rfl | rfl <;> decide +kernel
theorem cutS_drop (bs : List Bool) (k : Nat) : cutS (wd bs) (some (k : Nat)) none = wd (bs.drop k) := by
  unfold cutS
  rw [HT.sIx_none, HT.sIx_nat, wd_len]
  show (⟨(((bs.map code).drop (min k bs.length)).take (bs.length - min k bs.length)).toArray⟩ : Str) = ⟨((bs.drop k).map code).toArray⟩
  rw [List.map_drop]
  congr 2
  by_cases h : k ≤ bs.length
  · rw [Nat.min_eq_left h, List.take_of_length_le (by rw [List.length_drop, List.length_map]; omega)]
  · rw [Nat.min_eq_right (by omega), List.drop_of_length_le (by rw [List.length_map]; omega), List.drop_of_length_le (by rw [List.length_map]; omega)]
    exact List.take_nil
theorem cutS_mid (bs : List Bool) (i j : Nat) : cutS (wd bs) (some (i : Nat)) (some (j : Nat)) = wd ((bs.drop (min i bs.length)).take (min j bs.length - min i bs.length)) := by
  unfold cutS
  rw [HT.sIx_nat, HT.sIx_nat, wd_len]
  show (⟨(((bs.map code).drop (min i bs.length)).take (min j bs.length - min i bs.length)).toArray⟩ : Str) = ⟨(((bs.drop (min i bs.length)).take (min j bs.length - min i bs.length)).map code).toArray⟩
  rw [List.map_take, List.map_drop]
/-- the last m - 1 letters -/
def lastN (m : Nat) (bs : List Bool) : List Bool := bs.drop (bs.length + 1 - m)
theorem lastN_len (m : Nat) (bs : List Bool) : (lastN m bs).length = min bs.length (m - 1) := by
  unfold lastN
  rw [List.length_drop]
  omega
theorem lastN_lastN {m : Nat} (hm : 1 ≤ m) (bs : List Bool) : lastN m (lastN m bs) = lastN m bs := by
  have h : (lastN m bs).length + 1 - m = 0 := by
    rw [lastN_len]
    omega
  show (lastN m bs).drop ((lastN m bs).length + 1 - m) = _
  rw [h]
  rfl
theorem after_lastN {ns : List Int} {m : Nat} (h : ns.length = m) (bs : List Bool) : afterL (lastN m bs) ns = afterL bs ns := by
  rw [← h]
  exact after_drop
theorem wd_inj {a b : List Bool} (h : wd a = wd b) : a = b := by
  have h1 : (a.map code).toArray = (b.map code).toArray := congrArg Str.cps h
  have h2 : a.map code = b.map code := by simpa using congrArg Array.toList h1
  refine List.map_inj_right (fun x y e => ?_) |>.mp h2
  cases x <;> cases y <;> first | rfl | exact absurd e (by decide)
/-! ### list of a text -/
theorem letters_rel {bs : List Bool} {acc : Array Value} (items : ItemsOf (SignAt (wd bs)) acc (wd bs).cps.size) : Vals (bs.map fun b => V.str (ltr b)) acc.toList := by
  have sz : acc.toList.length = (bs.map fun b => V.str (ltr b)).length := by
    rw [List.length_map, Array.length_toList, items.1]
    exact wd_len bs
  refine vals_of_at sz.symm fun j x u hx hu => ?_
  obtain ⟨c, tk, hc, rfl⟩ := items.2 j u (by simpa using hu)
  obtain ⟨b, hb, rfl⟩ := wd_get hc
  rw [List.getElem?_map, hb] at hx
  rw [← Option.some.inj hx]
  exact ⟨tk, rfl⟩
def rListW : List V → Hp → VK → Prop := fun xs H Q => ∃ bs : List Bool, xs = [.str (wd bs)] ∧ bs.length ≤ 1000 ∧ ∀ l, H l = none → Q (.ref l) (upd H l (.lst (bs.map fun b => V.str (ltr b))))
theorem cr_listW {X : Cx} (calm : X.calm = true) : CallR X (.type "list") rListW := fun pins s σ H xs us Q I r h => by
  obtain ⟨bs, rfl, hl, q⟩ := h
  obtain ⟨u, rfl, tk0, rfl⟩ := vals1 r
  have fits : (wd bs).cps.size ≤ sizeLine := Nat.le_trans (Nat.le_of_eq (wd_len bs)) (Nat.le_of_lt (len_lt (by omega)))
  refine call_list_str (hn := fits) (I.ok.hd calm) (wd bs) tk0 fun h2 tk acc c keep at_ items => ?_
  have new : ObjOk X.prog X.w (upd H s.heap.objs.size (.lst (bs.map fun b => V.str (ltr b)))) h2 s.heap.objs.size (.lst (bs.map fun b => V.str (ltr b))) :=
    ⟨by rw [List.length_map]; exact Nat.le_of_lt (len_lt (by omega)), acc.toList, c, letters_rel items, by simpa using at_⟩
  exact ⟨.ref s.heap.objs.size, _, I.laid (t' := tk) keep (Nat.le_refl _) new, rfl, q _ (I.hok.fresh (Nat.le_refl _))⟩
/-! ### a letter times a number -/
theorem mul_ltr0 (b : Bool) (n : Nat) : Txt.mul (ltr b) ((n : Nat) : Int) = wd (List.replicate n b) := by
  cases n with
  | zero => rfl
  | succ n => exact mul_ltr b n
theorem op_mulL {X : Cx} : OpR X (binaryOp .Mult) (fun x y H Q => ∃ (b : Bool) (n : Nat), x = .str (ltr b) ∧ y = .int (n : Nat) ∧ n ≤ 1000 ∧ Q (.str (wd (List.replicate n b))) H) := by
  intro pins s σ H x y v u Q I rx ry h
  obtain ⟨b, n, rfl, rfl, h2, q⟩ := h
  obtain ⟨t, rfl⟩ := rx
  obtain ⟨t', rfl⟩ := ry
  rw [← mul_ltr0] at q
  refine SB.mul ⟨?_, fun h1 _ => ?_, fun h1 _ => ?_⟩ fun t2 k2 => ⟨.str _, H, I.tok k2, ⟨t2, rfl⟩, q⟩
  · rw [Bool.or_eq_false_iff]
    exact ⟨decide_eq_false (by omega), decide_eq_false (by omega)⟩
  · have e : (1000 : Int) ≤ (2 ^ 63 - 1) / (n : Nat) := Int.le_ediv_of_mul_le (by omega) (by omega)
    have e1 : (ltr b).length = 1 := rfl
    rw [e1]
    omega
  · have e1 : (ltr b).length = 1 := rfl
    rw [e1]
    unfold PySem.Builtin.Str.tooLong
    exact decide_eq_false (by rw [Nat.not_lt, Nat.one_mul]; exact Nat.le_trans (by omega : _ ≤ 1000) (by decide))
/-! ### three names in another order -/
def rev3 {α : Type} : List α → List α
  | [a, b, c] => [c, b, a]
  | l => l
def rotL3 {α : Type} : List α → List α
  | [a, b, c] => [b, c, a]
  | l => l
def rotR3 {α : Type} : List α → List α
  | [a, b, c] => [c, a, b]
  | l => l
theorem three_of {zs : List V} {ws : List Value} (r : Vals zs ws) : (∃ a b c x y z, zs = [a, b, c] ∧ ws = [x, y, z] ∧ RelV a x ∧ RelV b y ∧ RelV c z) ∨ (zs.length ≠ 3 ∧ ws.length ≠ 3) := by
  have l := r.length
  by_cases h : zs.length = 3
  · match zs, ws, r, h with
    | [a, b, c], [x, y, z], .cons p (.cons q (.cons s .nil)), _ => exact .inl ⟨a, b, c, x, y, z, rfl, rfl, p, q, s⟩
  · exact .inr ⟨h, by omega⟩
theorem rev3_id {α : Type} {l : List α} (h : l.length ≠ 3) : rev3 l = l := by
  match l, h with
  | [], _ | [_], _ | [_, _], _ => rfl
  | [_, _, _], h => exact absurd rfl h
  | _ :: _ :: _ :: _ :: _, _ => rfl
theorem rotL3_id {α : Type} {l : List α} (h : l.length ≠ 3) : rotL3 l = l := by
  match l, h with
  | [], _ | [_], _ | [_, _], _ => rfl
  | [_, _, _], h => exact absurd rfl h
  | _ :: _ :: _ :: _ :: _, _ => rfl
theorem rotR3_id {α : Type} {l : List α} (h : l.length ≠ 3) : rotR3 l = l := by
  match l, h with
  | [], _ | [_], _ | [_, _], _ => rfl
  | [_, _, _], h => exact absurd rfl h
  | _ :: _ :: _ :: _ :: _, _ => rfl
theorem rel_rev3 {zs : List V} {ws : List Value} (r : Vals zs ws) : Vals (rev3 zs) (rev3 ws) := by
  rcases three_of r with ⟨a, b, c, x, y, z, rfl, rfl, p, q, s⟩ | ⟨h1, h2⟩
  · exact .cons s (.cons q (.cons p .nil))
  · rw [rev3_id h1, rev3_id h2]
    exact r
theorem rel_rotL3 {zs : List V} {ws : List Value} (r : Vals zs ws) : Vals (rotL3 zs) (rotL3 ws) := by
  rcases three_of r with ⟨a, b, c, x, y, z, rfl, rfl, p, q, s⟩ | ⟨h1, h2⟩
  · exact .cons q (.cons s (.cons p .nil))
  · rw [rotL3_id h1, rotL3_id h2]
    exact r
theorem rel_rotR3 {zs : List V} {ws : List Value} (r : Vals zs ws) : Vals (rotR3 zs) (rotR3 ws) := by
  rcases three_of r with ⟨a, b, c, x, y, z, rfl, rfl, p, q, s⟩ | ⟨h1, h2⟩
  · exact .cons s (.cons p (.cons q .nil))
  · rw [rotR3_id h1, rotR3_id h2]
    exact r
/-! ### each of a list of places holds its own -/
def Each {β : Type} (R : Addr → β → Prop) : List Addr → List β → Prop
  | [], [] => True
  | r :: rs, p :: ps => R r p ∧ Each R rs ps
  | [], _ :: _ => False
  | _ :: _, [] => False
theorem Each.get {β : Type} {R : Addr → β → Prop} : ∀ {rs : List Addr} {ps : List β} {i : Nat} {r : Addr}, Each R rs ps → rs[i]? = some r → ∃ p, ps[i]? = some p ∧ R r p
  | r :: rs, p :: ps, 0, r', h, e => ⟨p, rfl, by rw [← Option.some.inj e]; exact h.1⟩
  | r :: rs, p :: ps, i + 1, r', h, e => Each.get (i := i) h.2 e
theorem Each.imp {β : Type} {R S : Addr → β → Prop} : ∀ {rs : List Addr} {ps : List β}, Each R rs ps → (∀ r ∈ rs, ∀ p, R r p → S r p) → Each S rs ps
  | [], [], _, _ => trivial
  | r :: rs, p :: ps, h, e => ⟨e r (List.mem_cons_self ..) _ h.1, Each.imp h.2 fun x hx => e x (List.mem_cons_of_mem _ hx)⟩
theorem Each.snoc {β : Type} {R : Addr → β → Prop} {r : Addr} {p : β} : ∀ {rs : List Addr} {ps : List β}, Each R rs ps → R r p → Each R (rs ++ [r]) (ps ++ [p])
  | [], [], _, e => ⟨e, trivial⟩
  | _ :: _, _ :: _, h, e => ⟨h.1, Each.snoc h.2 e⟩
theorem Each.len {β : Type} {R : Addr → β → Prop} : ∀ {rs : List Addr} {ps : List β}, Each R rs ps → rs.length = ps.length
  | [], [], _ => rfl
  | _ :: _, _ :: _, h => by rw [List.length_cons, List.length_cons, Each.len h.2]
theorem Each.app {β : Type} {R : Addr → β → Prop} : ∀ {rs qs : List Addr} {ps os : List β}, Each R rs ps → Each R qs os → Each R (rs ++ qs) (ps ++ os)
  | [], _, [], _, _, h => h
  | _ :: _, _, _ :: _, _, h, g => ⟨h.1, Each.app h.2 g⟩
theorem getR {rs : List Addr} {k : Nat} (h : k < rs.length) : (rs.map V.ref)[k]? = some (.ref rs[k]) := by
  rw [List.getElem?_map, List.getElem?_eq_getElem h]
  rfl
theorem lt_of_get {α β : Type} {f : α → β} {xs : List α} {i : Nat} {x : β} (h : (xs.map f)[i]? = some x) : i < xs.length := by
  have := (List.getElem?_eq_some_iff.mp h).1
  rw [List.length_map] at this
  exact this
theorem getB {l : List Bool} {k : Nat} (h : k < l.length) : (l.map fun b => V.str (ltr b))[k]? = some (.str (ltr l[k])) := by
  rw [List.getElem?_map, List.getElem?_eq_getElem h]
  rfl
end Lp
namespace Lp
open PySem PySem.Spec PyProof.Rows L2
/-! ### tuples of pairs as data -/
abbrev dP (p : Int × Int) : PyData := .tuple [.int p.1, .int p.2]
def Small (p : Int × Int) : Prop := (0 ≤ p.1 ∧ p.1 ≤ 999) ∧ 0 ≤ p.2 ∧ p.2 ≤ 999
theorem small_log0 {x : Int} (h : 0 ≤ x ∧ x ≤ 999) : x.natAbs.log2 < 1920 := by
  by_cases h0 : x = 0
  · subst h0
    decide
  · exact small_log ⟨by omega, h.2⟩
theorem Dp_pairs {K : PySem.W.Frag} {H : Hp} : ∀ {rs : List Addr} {ps : List (Int × Int)}, PairsAt H rs ps → DpAll K H (rs.map V.ref) (ps.map dP)
  | [], [], _ => .nil
  | _ :: _, p :: _, h => .cons (.tup (.inl (.inl h.1)) (Dp_ints [p.1, p.2])) (Dp_pairs h.2)
theorem lay_pairs : ∀ ps : List (Int × Int), PyData.canLayAll0 (ps.map dP) = true
  | [] => by simp only [List.map_nil, PyData.canLayAll0]
  | n :: ns => by simp only [List.map_cons, PyData.canLayAll0, PyData.canLay0, Bool.true_and, lay_pairs ns]
theorem depth_pairs : ∀ ps : List (Int × Int), PyData.depthAll (ps.map dP) ≤ 1
  | [] => by simp only [List.map_nil, PyData.depthAll]; decide
  | n :: ns => by
    have := depth_pairs ns
    simp only [List.map_cons, PyData.depthAll, PyData.depth]
    omega
theorem show_pairs : ∀ {ps : List (Int × Int)}, (∀ p ∈ ps, Small p) → PyData.showableAll (ps.map dP) = true
  | [], _ => by simp only [List.map_nil, PyData.showableAll]
  | n :: ns, h => by
    have hn := h n (List.mem_cons_self ..)
    have e1 := small_log0 hn.1
    have e2 := small_log0 hn.2
    simp only [List.map_cons, PyData.showableAll, PyData.showable, Bool.and_eq_true, Bool.and_true]
    exact ⟨⟨decide_eq_true e1, decide_eq_true e2⟩, show_pairs fun x hx => h x (List.mem_cons_of_mem _ hx)⟩
theorem pair_len {p : Int × Int} (h : Small p) : (dP p).shown.length ≤ 10000 := by
  have h1 := fmt_text (PyData.shownAll ([p.1, p.2].map PyData.int))
  have h2 := piled_ints (ns := [p.1, p.2]) fun x hx => by
    rcases List.mem_cons.mp hx with rfl | hx
    · exact small_log0 h.1
    · rw [List.mem_singleton.mp hx]
      exact small_log0 h.2
  have e : (dP p).shown = (PyData.tuple ([p.1, p.2].map PyData.int)).shown := rfl
  rw [e]
  simp only [PyData.shown]
  have l2 : [p.1, p.2].length = 2 := rfl
  rw [l2] at h2
  omega
theorem piled_pairs : ∀ {ps : List (Int × Int)}, (∀ p ∈ ps, Small p) → piled (PyData.shownAll (ps.map dP)) ≤ 10002 * ps.length
  | [], _ => by simp only [List.map_nil, PyData.shownAll, piled_nil, List.length_nil]; omega
  | n :: ns, h => by
    have h1 := pair_len (h n (List.mem_cons_self ..))
    have h2 := piled_pairs fun x hx => h x (List.mem_cons_of_mem _ hx)
    rw [List.map_cons, PyData.shownAll, piled_cons, List.length_cons]
    omega
abbrev pairS (ps : List (Int × Int)) : Str := (PyData.tuple (ps.map dP)).shown
theorem pairs_dep (ps : List (Int × Int)) : (PyData.tuple (ps.map dP)).depth ≤ 60 := by
  have := depth_pairs ps
  simp only [PyData.depth]
  omega
theorem pairs_lay (ps : List (Int × Int)) : (PyData.tuple (ps.map dP)).canLay0 = true := by simp only [PyData.canLay0, lay_pairs]
theorem pairs_show {ps : List (Int × Int)} (h : ∀ p ∈ ps, Small p) : (PyData.tuple (ps.map dP)).showable = true := by
  simp only [PyData.showable]
  exact show_pairs h
theorem pairs_len {ps : List (Int × Int)} (hl : ps.length ≤ 1000) (h : ∀ p ∈ ps, Small p) : (PyData.tuple (ps.map dP)).shown.length ≤ sizeLine := by
  simp only [PyData.shown]
  have h1 := fmt_text (PyData.shownAll (ps.map dP))
  have h2 := piled_pairs h
  rw [sizeLine_eq]
  omega
theorem pairs_shaped (ps : List (Int × Int)) : SeqAt.shaped (.tuple (ps.map dP)) = true := by
  have := depth_pairs ps
  unfold SeqAt.shaped
  simp only [PyData.canLay0, PyData.depth, lay_pairs]
  simp
  omega
theorem pairs_eqv (ps : List (Int × Int)) : PyData.eqv (.tuple (ps.map dP)) (.tuple (ps.map dP)) = true := SeqAt.eqv_refl _ (pairs_lay ps)
theorem Dp_prs {K : PySem.W.Frag} {H : Hp} {a : Addr} {rs : List Addr} {ps : List (Int × Int)} (h : SqT K H a (rs.map V.ref)) (e : PairsAt H rs ps) : Dp K H (.ref a) (.tuple (ps.map dP)) := .tup h (Dp_pairs e)
/-- what stands in the departures -/
theorem runD_fst (s t : Nat) : ∀ (r d : List Int) (l : List (Int × Int)) (k : Nat), (d ++ r).Nodup → d.length ≤ s + t → (∀ p ∈ l, 0 ≤ p.1 ∧ p.1 ≤ ((k + r.length : Nat) : Int)) → ∀ p ∈ (r.foldl (stepD s t) (l, d, k)).1, 0 ≤ p.1 ∧ p.1 ≤ ((k + r.length : Nat) : Int)
  | [], d, l, k, nd, hd, h => h
  | p :: r, d, l, k, nd, hd, h => by
    rw [List.foldl_cons, show stepD s t (l, d, k) p = (if s + t < d.length + 1 then (l ++ [(((k + 1 : Nat) : Int), leaver s (d ++ [p]))], (d ++ [p]).erase (leaver s (d ++ [p])), k + 1) else (l, d ++ [p], k + 1)) from rfl]
    have nd2 : ((d ++ [p]) ++ r).Nodup := by rw [List.append_assoc]; exact nd
    have ndp : (d ++ [p]).Nodup := (List.nodup_append.mp nd2).1
    have e : k + (p :: r).length = k + 1 + r.length := by rw [List.length_cons]; omega
    rw [e] at h ⊢
    split
    · rename_i hlt
      have hs : s < (d ++ [p]).length := by
        rw [List.length_append]
        show s < d.length + 1
        omega
      obtain ⟨mem, _⟩ := leaver_ok ndp hs
      refine runD_fst s t r _ _ (k + 1) (nd2.sublist ((List.erase_sublist ..).append_right r)) (by
        rw [List.length_erase_of_mem mem, List.length_append]
        show d.length + 1 - 1 ≤ s + t
        omega) fun x hx => ?_
      rcases List.mem_append.mp hx with z | z
      · exact h x z
      · rw [List.mem_singleton.mp z]
        show 0 ≤ ((k + 1 : Nat) : Int) ∧ ((k + 1 : Nat) : Int) ≤ ((k + 1 + r.length : Nat) : Int)
        omega
    · rename_i hlt
      exact runD_fst s t r _ _ (k + 1) nd2 (by
        rw [List.length_append]
        show d.length + 1 ≤ s + t
        omega) h
theorem depL_small {s t : Nat} {ns : List Int} (r : Row ns) (h : s + t ≤ ns.length) : (∀ p ∈ depL s t ns, Small p) ∧ (depL s t ns).length = ns.length := by
  have e := depL_desk s t ns
  rw [desk_passes r.nd h] at e
  have hl : (depL s t ns).length = ns.length := by
    rw [← List.length_map (f := (·.2)), e, afterL_len]
  have most := r.most
  refine ⟨fun p hp => ⟨?_, ?_⟩, hl⟩
  · unfold depL at hp
    rcases List.mem_append.mp hp with z | z
    · have := runD_fst s t ns [] [] 0 (by rw [List.nil_append]; exact r.nd) (Nat.zero_le _) (fun p hp => nomatch hp) p z
      omega
    · obtain ⟨x, _, rfl⟩ := List.mem_map.mp z
      show 0 ≤ ((ns.length : Nat) : Int) ∧ ((ns.length : Nat) : Int) ≤ 999
      omega
  · have m : p.2 ∈ (depL s t ns).map (·.2) := List.mem_map_of_mem hp
    rw [e] at m
    have := r.rng _ ((afterL_perm _ ns).mem_iff.mp m)
    omega
end Lp
namespace Lp
open PySem PySem.Spec PyProof.Rows L2
/-! ### only ranks matter -/
def Mono (f : Int → Int) (l : List Int) : Prop := ∀ u ∈ l, ∀ v ∈ l, (u < v ↔ f u < f v)
theorem takes_map {f : Int → Int} {b : Bool} {p x : Int} (h1 : p < x ↔ f p < f x) (h2 : x < p ↔ f x < f p) : takes b (f p) (f x) = takes b p x := by
  unfold takes
  cases b with
  | true => exact decide_eq_decide.mpr h2.symm
  | false => exact decide_eq_decide.mpr h1.symm
theorem run_map {f : Int → Int} (b : Bool) : ∀ (xs l s : List Int) (x : Int), Mono f (x :: xs) → (xs.map f).foldl (stepW b) (l.map f, s.map f, f x) = ((xs.foldl (stepW b) (l, s, x)).1.map f, (xs.foldl (stepW b) (l, s, x)).2.1.map f, f (xs.foldl (stepW b) (l, s, x)).2.2)
  | [], l, s, x, _ => rfl
  | p :: xs, l, s, x, m => by
    have mp : p ∈ x :: p :: xs := List.mem_cons_of_mem _ (List.mem_cons_self ..)
    have mx : x ∈ x :: p :: xs := List.mem_cons_self ..
    have e := takes_map (b := b) (m p mp x mx) (m x mx p mp)
    rw [List.map_cons, List.foldl_cons, List.foldl_cons]
    have s1 : stepW b (l.map f, s.map f, f x) (f p) = (if takes b (f p) (f x) = true then (l.map f ++ [f x], s.map f ++ [f x], f p) else (l.map f ++ [f p], s.map f, f x)) := rfl
    have s2 : stepW b (l, s, x) p = (if takes b p x = true then (l ++ [x], s ++ [x], p) else (l ++ [p], s, x)) := rfl
    rw [s1, s2, e]
    by_cases ht : takes b p x = true
    · rw [if_pos ht, if_pos ht]
      have ih := run_map b xs (l ++ [x]) (s ++ [x]) p fun u hu v hv => m u (List.mem_cons_of_mem _ hu) v (List.mem_cons_of_mem _ hv)
      rw [List.map_append, List.map_append] at ih
      exact ih
    · rw [if_neg ht, if_neg ht]
      have sub : ∀ u ∈ x :: xs, u ∈ x :: p :: xs := fun u hu => by
        rcases List.mem_cons.mp hu with rfl | hu
        · exact List.mem_cons_self ..
        · exact List.mem_cons_of_mem _ (List.mem_cons_of_mem _ hu)
      have ih := run_map b xs (l ++ [p]) s x fun u hu v hv => m u (sub u hu) v (sub v hv)
      rw [List.map_append] at ih
      exact ih
theorem pass_map {f : Int → Int} (b : Bool) : ∀ {ns : List Int}, Mono f ns → passL b (ns.map f) = (passL b ns).map f
  | [], _ => rfl
  | x :: xs, m => by
    have e := run_map b xs [] [] x m
    show (runW b (f x) (xs.map f)).1 ++ [(runW b (f x) (xs.map f)).2.2] = ((runW b x xs).1 ++ [(runW b x xs).2.2]).map f
    have e2 : runW b (f x) (xs.map f) = ((runW b x xs).1.map f, (runW b x xs).2.1.map f, f (runW b x xs).2.2) := e
    rw [e2, List.map_append]
    rfl
theorem after_map {f : Int → Int} : ∀ (bs : List Bool) {ns : List Int}, Mono f ns → afterL bs (ns.map f) = (afterL bs ns).map f
  | [], ns, _ => rfl
  | b :: bs, ns, m => by
    show afterL bs (passL b (ns.map f)) = (afterL bs (passL b ns)).map f
    rw [pass_map b m]
    exact after_map bs fun u hu v hv => m u ((passL_perm b ns).mem_iff.mp hu) v ((passL_perm b ns).mem_iff.mp hv)
theorem rk_lt {ns : List Int} {u v : Int} (hu : u ∈ ns) (h : u < v) : rk ns u < rk ns v := by
  have h1 := below_or_at u ns
  have h2 : 1 ≤ ns.count u := List.count_pos_iff.mpr hu
  have h3 := below_mono (by omega : u + 1 ≤ v) ns
  unfold rk
  omega
theorem rk_mono (ns : List Int) : Mono (rk ns) ns := fun u hu v hv => by
  refine ⟨rk_lt hu, fun h => ?_⟩
  rcases Int.lt_trichotomy u v with z | z | z
  · exact z
  · rw [z] at h
    omega
  · have := rk_lt (ns := ns) hv z
    omega
theorem rk_perm {ms ns : List Int} (p : ms.Perm ns) (x : Int) : rk ms x = rk ns x := by
  unfold rk
  rw [(p.filter _).length_eq]
theorem ranks_after (bs : List Bool) (ns : List Int) : afterL bs (ranksL ns) = (afterL bs ns).map (rk ns) := after_map bs (rk_mono ns)
theorem ranks_of_after (bs : List Bool) (ns : List Int) : ranksL (afterL bs ns) = (afterL bs ns).map (rk ns) := by
  unfold ranksL
  exact List.map_congr_left fun x _ => rk_perm (afterL_perm bs ns) x
theorem Row.ranks {ns : List Int} (r : Row ns) : Row (ranksL ns) := by
  have ln : (ranksL ns).length = ns.length := List.length_map ..
  refine ⟨by rw [ln]; exact r.pos, by rw [ln]; exact r.most, ?_, fun x hx => ?_⟩
  · unfold ranksL
    refine List.pairwise_map.mpr (List.Pairwise.imp_of_mem (R := (· ≠ ·)) (fun {a b} ha hb hne e => ?_) r.nd)
    rcases Int.lt_trichotomy a b with z | z | z
    · have := rk_lt ha z
      omega
    · exact hne z
    · have := rk_lt hb z
      omega
  · obtain ⟨y, _, rfl⟩ := List.mem_map.mp hx
    have h1 := List.length_filter_le (fun z => decide (z < y)) ns
    have h2 := r.most
    unfold rk
    omega
end Lp
namespace Lp
open PySem PySem.Spec PyProof.Rows L2
/-! ### the place of a number in a tuple -/
def rIndexT (K : PySem.W.Frag) : V → List V → Hp → VK → Prop := fun x xs H Q => ∃ (p : Addr) (ns : List Int) (j : Nat) (h : j < ns.length), x = .ref p ∧ xs = [.int ns[j]] ∧ SqT K H p (ns.map V.int) ∧ ns.Nodup ∧ Q (.int (j : Nat)) H
theorem mt_tupN {X : Cx} : MtR X "tuple.index" (rIndexT X.K) := fun pins s σ H x xs v us Q I rx rs h => by
  obtain ⟨p, ns, j, lt, rfl, rfl, hq, nd, good⟩ := h
  cases rx
  obtain ⟨u, rfl, tk, rfl⟩ := vals1 rs
  obtain ⟨its, r, pl, _⟩ := I.tuple hq
  obtain ⟨⟨cl, dd, dt, sl⟩, at_, c1, n, d1⟩ := pl
  simp only at c1 d1
  subst c1 d1
  have size : its.toArray.size = ns.length := by
    rw [List.size_toArray, ← r.length]
    exact List.length_map ..
  have item : ∀ (m : Nat) (hm : m < its.toArray.size), ∃ t2, its.toArray[m] = Value.int (ns[m]'(by rw [← size]; exact hm)) t2 := fun m hm => by
    have hm2 : m < ns.length := by rw [← size]; exact hm
    obtain ⟨w, hw, t2, e⟩ := r.get (i := m) (x := .int ns[m]) (getI hm2)
    have e2 := (List.getElem?_eq_some_iff.mp hw).2
    exact ⟨t2, by rw [← e, ← e2]; simp⟩
  have flat : (ns.map V.int).all flatV = true := by
    rw [List.all_map, List.all_eq_true]
    exact fun _ _ => rfl
  have lt2 : j < its.toArray.size := by rw [size]; exact lt
  have hit : eqU (.int ns[j]) its.toArray[j] = true := by
    obtain ⟨t2, e⟩ := item j lt2
    rw [e]
    show (ns[j] == ns[j]) = true
    exact beq_self_eq_true _
  have miss : ∀ m (hm : m < its.toArray.size), m < j → eqU (.int ns[j]) its.toArray[m] = false := fun m hm mj => by
    obtain ⟨t2, e⟩ := item m hm
    rw [e]
    show (_ == ns[j]) = false
    exact beq_eq_false_iff_ne.mpr fun z => by
      have := (List.getElem_inj nd).mp z
      omega
  refine call_meets PySem.F.slot_tuple_index ⟨_, at_, rfl⟩ PySem.F.entry_tuple_index (PySem.F.args_tuple_index_2 _ _) (TI.tuple_indexAt p its.toArray n dd sl (.int ns[j] tk) (eqU (.int ns[j])) j lt2 hit miss) ?_
  exact ⟨at_, fun w hw => mem_eqAt (x := .int ns[j]) ⟨tk, rfl⟩ rfl r flat w (by simpa using hw), ⟨.int (j : Nat), H, I.tok _, ⟨_, rfl⟩, good⟩⟩
/-! ### what is kept of what is kept -/
theorem dropN_dropN : ∀ (l : List Bool) (a b c d : Nat), dropN c d (dropN a b l) = dropN (a + c) (b + d) l
  | [], a, b, c, d => by
    have e : ∀ x y, dropN x y [] = [] := fun x y => by cases x <;> cases y <;> rfl
    rw [e, e, e]
  | false :: l, 0, b, 0, d => by
    show false :: dropN 0 d (dropN 0 b l) = false :: dropN 0 (b + d) l
    rw [dropN_dropN l 0 b 0 d]
  | false :: l, 0, b, c + 1, d => by
    rw [show 0 + (c + 1) = (0 + c) + 1 by omega]
    show dropN c d (dropN 0 b l) = dropN (0 + c) (b + d) l
    exact dropN_dropN l 0 b c d
  | false :: l, a + 1, b, c, d => by
    rw [show a + 1 + c = (a + c) + 1 by omega]
    show dropN c d (dropN a b l) = dropN (a + c) (b + d) l
    exact dropN_dropN l a b c d
  | true :: l, a, 0, c, 0 => by
    have e1 : dropN a 0 (true :: l) = true :: dropN a 0 l := by cases a <;> rfl
    have e2 : ∀ m, dropN c 0 (true :: m) = true :: dropN c 0 m := fun m => by cases c <;> rfl
    have e3 : dropN (a + c) (0 + 0) (true :: l) = true :: dropN (a + c) (0 + 0) l := by cases (a + c) <;> rfl
    rw [e1, e2, e3, dropN_dropN l a 0 c 0]
  | true :: l, a, 0, c, d + 1 => by
    have e1 : dropN a 0 (true :: l) = true :: dropN a 0 l := by cases a <;> rfl
    have e2 : ∀ m, dropN c (d + 1) (true :: m) = dropN c d m := fun m => by cases c <;> rfl
    have e3 : dropN (a + c) (0 + (d + 1)) (true :: l) = dropN (a + c) (0 + d) l := by
      rw [show 0 + (d + 1) = (0 + d) + 1 by omega]
      cases (a + c) <;> rfl
    rw [e1, e2, e3, dropN_dropN l a 0 c d]
  | true :: l, a, b + 1, c, d => by
    have e1 : dropN a (b + 1) (true :: l) = dropN a b l := by cases a <;> rfl
    have e3 : dropN (a + c) (b + 1 + d) (true :: l) = dropN (a + c) (b + d) l := by
      rw [show b + 1 + d = (b + d) + 1 by omega]
      cases (a + c) <;> rfl
    rw [e1, e3, dropN_dropN l a b c d]
theorem dropN_take {k m a b : Nat} {l : List Bool} (h : k + a + b ≤ m) (hm : m ≤ l.length) : (dropN a b (l.take m)).take k = (dropN a b l).take k := by
  have e : dropN a b l = dropN a b (l.take m) ++ dropN (a - (l.take m).count false) (b - (l.take m).count true) (l.drop m) := by
    rw [← dropN_app, List.take_append_drop]
  have le := dropN_len (l.take m) a b
  have two := count_two (l.take m)
  rw [List.length_take] at two
  rw [e, List.take_append_of_le_length (by omega)]
def keptL (s t : Nat) (ns : List Int) : List Int := (deskGo s t [] ns).take (ns.length - s - t)
theorem keptL_sgn {s t : Nat} {ns : List Int} (hrow : Row ns) (hst : s + t ≤ ns.length) (h : Int) : sgn h (keptL s t ns) = (dropN s t (sgn h ns)).take (ns.length - s - t) := by
  have ne : ns ≠ [] := fun z => by
    have := hrow.pos
    rw [z] at this
    cases this
  unfold keptL
  rw [desk_passes hrow.nd hst]
  show ((afterL _ ns).take _).map _ = _
  rw [List.map_take]
  show (sgn h (afterL _ ns)).take _ = _
  rw [after_sgn h _ ns ne]
  have c0 : (List.replicate s false ++ List.replicate t true).count false = s := by simp [List.count_append, List.count_replicate]
  have c1 : (List.replicate s false ++ List.replicate t true).count true = t := by simp [List.count_append, List.count_replicate]
  rw [c0, c1, dropN_app]
  have le := dropN_len (sgn h ns) s t
  have two := count_two (sgn h ns)
  rw [sgn_len] at two
  rw [List.take_append_of_le_length (by omega)]
theorem keptL_len {s t : Nat} {ns : List Int} (hrow : Row ns) (hst : s + t ≤ ns.length) : (keptL s t ns).length = ns.length - s - t := by
  unfold keptL
  rw [desk_passes hrow.nd hst, List.length_take, afterL_len]
  omega
theorem keptL_sub {s t : Nat} {ns : List Int} (hrow : Row ns) (hst : s + t ≤ ns.length) : ∃ m : List Int, keptL s t ns = m.take (ns.length - s - t) ∧ m.Perm ns := by
  unfold keptL
  rw [desk_passes hrow.nd hst]
  exact ⟨_, rfl, afterL_perm _ ns⟩
theorem keptL_row {s t : Nat} {ns : List Int} (hrow : Row ns) (hst : s + t < ns.length) : Row (keptL s t ns) := by
  have ln := keptL_len hrow (Nat.le_of_lt hst)
  obtain ⟨m, e, p⟩ := keptL_sub hrow (Nat.le_of_lt hst)
  have most := hrow.most
  refine ⟨by omega, by omega, ?_, fun x hx => ?_⟩
  · rw [e]
    exact (p.nodup_iff.mpr hrow.nd).sublist (List.take_sublist ..)
  · rw [e] at hx
    exact hrow.rng x (p.mem_iff.mp (List.mem_of_mem_take hx))
theorem keptL_keptL {s t a b : Nat} {ns : List Int} (hrow : Row ns) (hst : s + t < ns.length) (hab : a + b ≤ ns.length - s - t) : keptL a b (keptL s t ns) = keptL (s + a) (t + b) ns := by
  have r1 := keptL_row hrow hst
  have l1 := keptL_len hrow (Nat.le_of_lt hst)
  have l2 := keptL_len r1 (s := a) (t := b) (by omega)
  have l3 := keptL_len hrow (s := s + a) (t := t + b) (by omega)
  refine sgn_inj (by omega) fun h => ?_
  have le := dropN_len (sgn h ns) s t
  have two := count_two (sgn h ns)
  rw [sgn_len] at two
  rw [keptL_sgn r1 (by omega), keptL_sgn hrow (Nat.le_of_lt hst), keptL_sgn hrow (by omega), l1, dropN_take (by omega) (by omega), dropN_dropN, show ns.length - s - t - a - b = ns.length - (s + a) - (t + b) by omega]
/-- who is kept, in order -/
theorem below_sgn (h : Int) (l : List Int) : (l.filter fun y => decide (y < h)).length = (sgn h l).count false := (zeros_count h l).symm
theorem kept_below {s t : Nat} {ns : List Int} (hrow : Row ns) (hst : s + t ≤ ns.length) (h : Int) : (sgn h (keptL s t ns)).count false = min ((sgn h ns).count false - s) (ns.length - s - t) := by
  rw [keptL_sgn hrow hst]
  have two := count_two (sgn h ns)
  rw [sgn_len] at two
  by_cases h0 : (sgn h ns).count false ≤ s
  · rw [dropN_zeros _ _ _ h0, List.take_replicate, List.count_replicate]
    simp
    omega
  · by_cases h1 : (sgn h ns).count true ≤ t
    · rw [dropN_ones _ _ _ h1, List.take_replicate, List.count_replicate]
      simp
      omega
    · have le := dropN_len (sgn h ns) s t
      rw [List.take_of_length_le (by omega)]
      have c : ∀ (l : List Bool) (a b : Nat), (dropN a b l).count false = l.count false - a := fun l => by
        induction l with
        | nil =>
          intro a b
          have e : dropN a b [] = [] := by cases a <;> cases b <;> rfl
          rw [e]
          simp
        | cons x l ih =>
          intro a b
          cases x with
          | false =>
            cases a with
            | zero =>
              show (false :: dropN 0 b l).count false = _
              rw [List.count_cons_self, List.count_cons_self, ih]
              omega
            | succ a =>
              show (dropN a b l).count false = _
              rw [List.count_cons_self, ih]
              omega
          | true =>
            cases b with
            | zero =>
              have e : dropN a 0 (true :: l) = true :: dropN a 0 l := by cases a <;> rfl
              rw [e, List.count_cons_of_ne (by decide), List.count_cons_of_ne (by decide), ih]
            | succ b =>
              have e : dropN a (b + 1) (true :: l) = dropN a b l := by cases a <;> rfl
              rw [e, List.count_cons_of_ne (by decide), ih]
      rw [c]
      omega
theorem slice_below {es : List Int} (so : es.Pairwise (· ≤ ·)) (s k : Nat) (hk : s + k ≤ es.length) (h : Int) : (sgn h ((es.drop s).take k)).count false = min ((sgn h es).count false - s) k := by
  have two := count_two (sgn h es)
  rw [sgn_len] at two
  have e : sgn h ((es.drop s).take k) = ((sgn h es).drop s).take k := by
    show ((es.drop s).take k).map _ = ((es.map _).drop s).take k
    rw [List.map_take, List.map_drop]
  have ss := sgn_sorted (t := h) so
  generalize (sgn h es).count false = cf at ss two ⊢
  generalize (sgn h es).count true = ct at ss two
  rw [e, ss, List.drop_append, List.length_replicate, List.drop_replicate, List.drop_replicate, List.take_append, List.length_replicate, List.take_replicate, List.take_replicate, List.count_append, List.count_replicate, List.count_replicate]
  simp
  omega
theorem kept_slice {s t : Nat} {ns es : List Int} (hrow : Row ns) (hst : s + t ≤ ns.length) (p : es.Perm ns) (so : es.Pairwise (· ≤ ·)) : (keptL s t ns).Perm ((es.drop s).take (ns.length - s - t)) := by
  have el := p.length_eq
  have same : ∀ h, (sgn h (keptL s t ns)).count false = (sgn h ((es.drop s).take (ns.length - s - t))).count false := fun h => by
    rw [kept_below hrow hst, slice_below so s _ (by omega), (sgn_perm p).count_eq]
  refine List.perm_iff_count.mpr fun x => ?_
  have a1 := below_or_at x (keptL s t ns)
  have a2 := below_or_at x ((es.drop s).take (ns.length - s - t))
  have b1 := same x
  have b2 := same (x + 1)
  rw [zeros_count, zeros_count] at b1 b2
  omega
theorem kept_rank {s t : Nat} {ns : List Int} (hrow : Row ns) (hst : s + t ≤ ns.length) {x : Int} (hx : x ∈ keptL s t ns) : rk (keptL s t ns) x = rk ns x - s := by
  obtain ⟨p, so⟩ := sort_ok ns
  generalize ns.mergeSort (fun x y => decide (x ≤ y)) = es at p so
  have pk := kept_slice hrow hst p so
  obtain ⟨j, hj, ej⟩ := List.mem_iff_getElem.mp (pk.mem_iff.mp hx)
  have el := p.length_eq
  have hj2 : j < ns.length - s - t := by
    rw [List.length_take] at hj
    omega
  have hsj : s + j < es.length := by omega
  have ex : es[s + j] = x := by
    rw [← ej, List.getElem_take, List.getElem_drop]
  have nd : es.Nodup := p.nodup_iff.mpr hrow.nd
  have bx : (es.filter fun y => decide (y < x)).length = s + j := by
    rw [← ex]
    exact filter_sorted hsj so nd
  rw [(p.filter _).length_eq] at bx
  have kb := kept_below hrow hst x
  rw [zeros_count, zeros_count, bx] at kb
  unfold rk
  rw [kb, bx]
  omega
end Lp
namespace Lp
open PySem PySem.Spec PyProof.Rows L2
/-! ### a text backwards: z[::-1] -/
theorem back_places (n : Nat) : Builtin.Str.strSliceIndices none none (-1) n = (List.range n).reverse := by
  show sliceRange ((n : Int) - 1) (-1) (-1) = _
  rw [PySem.W.krv_sliceRange]
  exact PySem.W.krv_range n
theorem back_text (bs : List Bool) : (⟨((Builtin.Str.strSliceIndices none none (-1) (wd bs).length).filterMap ((wd bs).cps[·]?)).toArray⟩ : Str) = wd bs.reverse := by
  rw [back_places, List.filterMap_reverse]
  have all : (List.range (wd bs).length).filterMap ((wd bs).cps[·]?) = bs.map code := (PySem.W.krv_all (wd bs).cps).trans rfl
  rw [all, ← List.map_reverse]
  rfl
/-- e[::-1] of a word -/
def tBack (te : TE) : TE := fun σ H Q => te σ H fun x G => ∃ bs : List Bool, x = .str (wd bs) ∧ bs.length ≤ 1000 ∧ Q (.str (wd bs.reverse)) G
theorem minus_one {X : Cx} {j : Nat} {q1 q2 : Pos} : PO X (some (.UnaryOp .USub (.Constant (.int 1) j q1) q2)) (tPart (tUn (rU fun i => .int (-i)) (tC (.int 1)))) := po_some (pe_un un_neg pe_int)
theorem pe_back {X : Cx} {e : Expr} {te : TE} {j : Nat} {q1 q2 q3 q : Pos} (a : PE X e te) : PE X (.Subscript e (.Slice none none (some (.UnaryOp .USub (.Constant (.int 1) j q1) q2)) q3) q) (tBack te) := by
  constructor
  intro pins s σ H Q I h
  refine Subscript_ (thn (a.run pins s σ H _ I h) fun v s1 z => ?_)
  obtain ⟨x, H1, I1, r1, bs, rfl, hb, good⟩ := z
  obtain ⟨tk, rfl⟩ := r1
  refine wpAny_Slice (thn (po_none.run pins s1 σ H1 (fun o G => o = none ∧ G = H1) I1 ⟨rfl, rfl⟩) fun vl s2 z => ?_)
  obtain ⟨_, G2, I2, pl, rfl, rfl⟩ := z
  refine thn (po_none.run pins s2 σ _ (fun o G => o = none ∧ G = G2) I2 ⟨rfl, rfl⟩) fun vu s3 z => ?_
  obtain ⟨_, G3, I3, pu, rfl, rfl⟩ := z
  refine thn (minus_one.run pins s3 σ _ (fun o G => o = some (-1) ∧ G = G3) I3 ⟨1, rfl, -1, rfl, rfl, rfl⟩) fun vs s4 z => ?_
  obtain ⟨_, _, I4, ps, rfl, rfl⟩ := z
  have J := I4.kept (t' := s4.toks) (h' := s4.heap.push { cls := .type "slice", data := .fields #[vl, vu, vs] }) fun b ob w => Heap.get?_push_of_some _ w
  refine tail_any (ops := [.ref s4.heap.objs.size]) (typeIs_str _ _ _) F.slot_str_getitem.lookup ?_ (by with_unfolding_all rfl)
  obtain ⟨l, rfl, hl⟩ := IsPart.raw pl
  obtain ⟨u, rfl, hu⟩ := IsPart.raw pu
  obtain ⟨st, rfl, hst⟩ := IsPart.raw ps
  have l0 : l = none := by cases l <;> first | rfl | cases hl
  have u0 : u = none := by cases u <;> first | rfl | cases hu
  subst l0
  subst u0
  refine wpAny_getItem_str_slice (l := none) (u := none) (st := st) ⟨_, Heap.get?_push_size _ rfl, rfl, rfl⟩ (by rw [hst]; rfl) ?_
  have made : sliceMade (wd bs) tk none none st = .str (wd bs.reverse) := by
    unfold sliceMade slicePicked
    rw [hst]
    have := back_text bs
    have f : ((some (-1 : Int)).getD 1 == 1) = false := by decide
    rw [f, Bool.false_and, if_neg Bool.false_ne_true]
    exact congrArg Made.str this
  rw [made]
  exact ⟨by rw [wd_len, List.length_reverse]; exact Nat.le_of_lt (len_lt (by omega)), .str _, _, J.tok _, ⟨_, rfl⟩, good⟩
/-! ### reversed(z) of a word -/
theorem str_norev : typeLookup (.type "str") "__reversed__" = pure none := by
  rw [typeLookup_type]
  rw [builtinLookup_eq_fast]
  kernel_rfl
theorem str_get : typeLookup (.type "str") "__getitem__" = pure (some (.builtin "str.__getitem__")) := F.slot_str_getitem.lookup
/-- reversed(z) stands at a, the place j comes next -/
def Bw (h : Heap) (a : Addr) (z : Str) (tk : Tok) (j : Int) : Prop := ∃ ob, h.get? a = some ob ∧ ob.cls = .type "reversed" ∧ ob.data = .fields #[.str z tk, rawInt j]
theorem Bw.keep {h g : Heap} {a : Addr} {z : Str} {tk : Tok} {j : Int} (b : Bw h a z tk j) (e : ∀ ob, h.get? a = some ob → g.get? a = some ob) : Bw g a z tk j := by
  obtain ⟨ob, at_, r⟩ := b
  exact ⟨ob, e ob at_, r⟩
section
variable {prog : Program} {w : World} {A : Around} {E : Value → Shared → Prop} {s : Shared} {z : Str} {tk : Tok}
theorem Bw.ty {a : Addr} {j : Int} (b : Bw s.heap a z tk j) : s.TypeIs (.ref a) "reversed" := by
  obtain ⟨ob, at_, c, _⟩ := b
  exact ⟨ob, at_, c⟩
def bwObj (z : Str) (tk : Tok) (j : Int) : Obj := { cls := .type "reversed", data := .fields #[.str z tk, rawInt j] }
theorem bw_code {R : Value → Shared → Prop} (fit : ¬ (z.length : Int) ≥ 2 ^ 63) (good : R (.ref s.heap.objs.size) { s with heap := s.heap.push (bwObj z tk ((z.length : Int) - 1)), toks := s.toks + 1 + 1 }) :
    codeAny (model prog w) A (.call (.builtin "reversed.__new__") ⟨[.type "reversed", .str z tk], []⟩) (wants R E) s := by
  have ty := typeIs_str s z tk
  apply codeAny_of_tree
  show wpAny _ A.in1 (checkBuiltinCall "reversed.__new__" ⟨[.type "reversed", .str z tk], []⟩ >>= fun _ => again (.builtin "reversed.__new__" ⟨[.type "reversed", .str z tk], []⟩)) _ _ s
  apply wpAny_bind
  apply wpAny_of_eq (F.newCall_reversed_1 _)
  refine wpAny_pure ⟨plainId_quiet F.plain_reversed_new _, codeAny_builtin F.entry_reversed_new (?body)⟩
  case body =>
  rw [Around.under_plainId F.plain_reversed_new]
  unfold Builtin.«reversed.__new__»; apply wpAny_bind
  refine wpAny_of_eq (newClass_reversed (.str z tk)) (?_ : wpAny _ _ _ _ _ s)
  apply wpAny_bind
  apply wpAny_of_eq (a := ()) (by kernel_rfl)
  apply wpAny_bind
  apply wpAny_of_eq (a := ()) (by kernel_rfl)
  apply wpAny_bind
  apply wpAny_specialOf ty str_norev
  apply wpAny_bind
  wp_delta
  apply wpAny_bind
  refine wpAny_isInstance (T := "str") (U := "dict") (b := false) ty F.sub_str_dict (?_ : wpAny _ _ _ _ _ s)
  rw [if_neg Bool.false_ne_true]; apply wpAny_bind
  refine wpAny_specialOf ty str_get (?_ : wpAny _ _ _ _ _ s)
  dsimp only
  rw [if_pos (show (["tuple.__getitem__", "str.__getitem__", "bytes.__getitem__", "bytearray.__getitem__", "memoryview.__getitem__", "numpy.ndarray.__getitem__", "sqlite3.Row.__getitem__"].contains "str.__getitem__") = true by decide +kernel)]
  apply wpAny_pure
  rw [if_neg (show ¬ (!true) = true by decide)]
  apply wpAny_bind
  refine PySem.P.len_str fit (?_ : wpAny _ _ _ _ _ _)
  apply wpAny_bind
  refine wpAny_of_eq (a := some (z.length : Int)) rfl (?_ : wpAny _ _ _ _ _ _)
  apply wpAny_bind
  show wpAny _ _ (newObj (.type "reversed") (.fields #[.str z tk, rawInt ((z.length : Int) - 1)])) _ _ _
  exact wpAny_newObj_type (wpAny_pure good)
theorem bw_call {R : Value → Shared → Prop} (fit : ¬ (z.length : Int) ≥ 2 ^ 63) (good : R (.ref s.heap.objs.size) { s with heap := s.heap.push (bwObj z tk ((z.length : Int) - 1)), toks := s.toks + 1 + 1 }) :
    wpAny (model prog w) A (call (.type "reversed") [.str z tk]) R E s := by
  have made := bw_code (prog := prog) (w := w) (A := A.in1) (E := E) (s := s) (tk := tk) (R := fun v g => g.TypeIs v "reversed" ∧ R v g) fit ⟨⟨_, Heap.get?_push_size _ rfl, rfl⟩, good⟩
  refine callType_codes RT.called_rt (F.typeCall_reversed_1 _) F.entry_object_init made fun v g h => ?_
  exact ⟨h.1, F.args_object_init_2 v _, object_init_meets RT.called_rt.init.lookup RT.called_rt.made (by decide) prog w A.in1 _ g ⟨h.1, rfl, h.2⟩⟩
theorem bw_iter {a : Addr} {j : Int} {R : Value → Shared → Prop} (b : Bw s.heap a z tk j) (good : R (.ref a) s) : wpAny (model prog w) A (pyIter (.ref a)) R E s := by
  refine wpAny_pyIter_slot b.ty RT.slot_rt_iter (wpAny_call_entry RT.slot_rt_iter b.ty RT.entry_rt_iter (?_ : wpAny _ _ (ret (.ref a)) _ _ s) (RT.args_rt_iter _))
  exact wpAny_pure ⟨_, rfl, "reversed", _, b.ty, RT.slot_rt_next.lookup, good⟩
theorem bw_more {a : Addr} {j c : Nat} {R : Option Value → Shared → Prop} (b : Bw s.heap a z tk (j : Nat)) (hc : z.cps[j]? = some c) (few : z.length ≤ sizeLine)
    (good : ∀ h u, Bw h a z tk ((j : Int) - 1) → Heap.SameBut a s.heap h → R (some (.str ⟨#[c]⟩ u)) { s with heap := h, toks := u + 1 }) : wpAny (model prog w) A (pyNext (.ref a)) R E s := by
  obtain ⟨ob, at_, cl, dt⟩ := id b
  have lt : j < z.length := (Array.getElem?_eq_some_iff.mp hc).1
  have big := sizeLine_eq
  unfold pyNext
  apply wpAny_bind
  apply wpAny_attempt
  refine wpAny_callSpecial?_slot (name := Str.ofString "__next__") b.ty RT.slot_rt_next (wpAny_call_entry RT.slot_rt_next b.ty RT.entry_rt_next (?_ : wpAny _ _ _ _ _ s) (RT.args_rt_next _))
  unfold Builtin.«reversed.__next__»; apply wpAny_bind
  apply wpAny_of_eq (a := (Value.ref a, [])) rfl
  apply wpAny_bind
  refine wpAny_field at_ dt (x := .str z tk) rfl (?_ : wpAny _ _ _ _ _ s)
  apply wpAny_bind
  refine wpAny_field at_ dt (x := rawInt (j : Int)) rfl (?_ : wpAny _ _ (if (j : Int) < 0 then _ else _) _ _ s)
  rw [if_neg (show ¬ (j : Int) < 0 by omega)]
  apply wpAny_bind
  refine wpAny_specialOf (typeIs_str s z tk) str_get (?_ : wpAny _ _ _ _ _ s)
  rw [if_neg (show ¬ ((some (Value.builtin "str.__getitem__")).isNone = true) by decide)]
  apply wpAny_bind
  refine wpAny_mkInt (?_ : wpAny _ _ _ _ _ { s with toks := s.toks + 1 })
  apply wpAny_bind
  apply wpAny_attempt
  have ix : (seqIndex? (j : Int) z.length).bind (z.cps[·]?) = some c := by
    rw [seqIx (by omega) (by omega), Int.toNat_natCast]
    exact hc
  refine PySem.P.getItem_str (s := { s with toks := s.toks + 1 }) ?_ ix (?_ : wpAny _ _ _ _ _ { s with toks := s.toks + 1 + 1 })
  · rw [Bool.or_eq_false_iff]
    exact ⟨decide_eq_false (by omega), decide_eq_false (by omega)⟩
  apply wpAny_bind
  refine wpAny_field (s := { s with toks := s.toks + 1 + 1 }) at_ dt (x := rawInt (j : Int)) rfl (?_ : wpAny _ _ _ _ _ _)
  apply wpAny_bind
  refine wpAny_setField (s := { s with toks := s.toks + 1 + 1 }) at_ dt (by simp) (?_ : wpAny _ _ _ _ _ _)
  have bw2 : Bw (s.heap.update a (Obj.mapFields (·.setIfInBounds 1 (rawInt ((j : Int) - 1))))) a z tk ((j : Int) - 1) :=
    ⟨_, Heap.get?_update_self _ at_ (Obj.isFreed_of_fields (Obj.data_mapFields dt _)), (Obj.cls_mapFields ..).trans cl, by rw [Obj.data_mapFields dt]; simp⟩
  exact wpAny_pure ⟨_, rfl, wpAny_pure (good _ (s.toks + 1) bw2 (Heap.SameBut.update ..))⟩
theorem bw_end {a : Addr} {R : Option Value → Shared → Prop} (calm : A.handled = none) (b : Bw s.heap a z tk (-1)) (good : ∀ h, Heap.ExtBut a s.heap h → R none { s with heap := h }) : wpAny (model prog w) A (pyNext (.ref a)) R E s := by
  obtain ⟨ob, at_, cl, dt⟩ := id b
  unfold pyNext
  apply wpAny_bind
  apply wpAny_attempt
  refine wpAny_callSpecial?_slot (name := Str.ofString "__next__") b.ty RT.slot_rt_next (wpAny_call_entry RT.slot_rt_next b.ty RT.entry_rt_next (?_ : wpAny _ _ _ _ _ s) (RT.args_rt_next _))
  unfold Builtin.«reversed.__next__»; apply wpAny_bind
  apply wpAny_of_eq (a := (Value.ref a, [])) rfl
  apply wpAny_bind
  refine wpAny_field at_ dt (x := .str z tk) rfl (?_ : wpAny _ _ _ _ _ s)
  apply wpAny_bind
  refine wpAny_field at_ dt (x := rawInt (-1)) rfl (?_ : wpAny _ _ (if (-1 : Int) < 0 then _ else _) _ _ s)
  rw [if_pos (show (-1 : Int) < 0 by decide)]
  apply wpAny_bind
  apply wpAny_rule
  apply wpAny_bind
  wp_delta
  apply wpAny_bind
  refine wpAny_setField at_ dt (by simp) (?_ : wpAny _ _ _ _ _ _)
  have at2 := Heap.get?_update_self (Obj.mapFields (·.setIfInBounds 1 (rawInt (-1)))) at_ (Obj.isFreed_of_fields (Obj.data_mapFields dt _))
  refine wpAny_setField (s := { s with heap := s.heap.update a (Obj.mapFields (·.setIfInBounds 1 (rawInt (-1)))) }) at2 (Obj.data_mapFields dt _) (by simp) (?_ : wpAny _ _ _ _ _ _)
  apply wpAny_bind
  show wpAny _ _ (newExc (.type "StopIteration") [] >>= raiseNew) _ _ _
  apply wpAny_bind
  simp only [newExc, newTuple, raiseNew]
  apply wpAny_bind
  apply wpAny_newObj_type (h := ?_) (by size_fits)
  apply wpAny_bind (m := firstArgMember _ _)
  apply wpAny_of_eq (a := Value.none) (by simp only [firstArgMember]; rfl)
  apply wpAny_newObj_type (h := ?_) (by size_fits)
  apply wpAny_bind
  apply wpAny_handled
  rw [show A.in1.handled = none from calm]
  refine wpAny_bind (wpAny_pure (wpAny_throw (?_ : wpAny _ _ _ _ _ _)))
  apply wpAny_bind
  refine wpAny_isInstance (T := "StopIteration") (b := true) ⟨_, Heap.get?_push_size _ rfl, rfl⟩ isSubtype_stop (?_ : wpAny _ _ _ _ _ _)
  have ext : Heap.ExtBut a s.heap ((s.heap.update a (Obj.mapFields fun x => x.setIfInBounds 1 (rawInt (-1)))).update a (Obj.mapFields fun x => x.setIfInBounds 0 Value.none)) :=
    fun b ob hb e => (Heap.get?_update_other _ _ (Ne.symm hb)).trans ((Heap.get?_update_other _ _ (Ne.symm hb)).trans e)
  exact wpAny_pure (good _ ((ext.push _).push _))
end
/-- the letters of a word, the last one first -/
def ItB (bs : List Bool) : It where
  go := fun i _ => i < bs.length
  stop := fun i _ => bs.length ≤ i
  yld := fun i H v H' => H' = H ∧ ∃ b, bs.reverse[i]? = some b ∧ v = .str (ltr b)
theorem turnB {P : Program} {w : World} {K : PySem.W.Frag} {tg : Expr} {bs : List Bool} {tk : Tok} (few : bs.length ≤ 1000) (it : Addr) : Turn P w K tg (ItB bs) [it] it (fun i h => i ≤ bs.length ∧ Bw h it (wd bs) tk ((bs.length : Int) - 1 - (i : Nat))) where
  mem := by simp
  obj := by
    rintro i h ⟨_, ob, at_, c, d⟩ b hb
    rw [List.mem_singleton] at hb
    subst hb
    exact ⟨ob, at_, fun v e => by rw [d] at e; cases e⟩
  keep := fun i h g st k => ⟨st.1, st.2.keep fun ob e => k it (by simp) ob e⟩
  item := by
    rintro X rfl rfl rfl calm i pins s σ H E I fr ⟨le, b⟩ lt
    have lt2 : i < bs.length := lt
    obtain ⟨u0, u1, _, u3, u4, u5⟩ := fr it (by simp)
    have ej : (bs.length : Int) - 1 - ((i : Nat) : Int) = ((bs.length - 1 - i : Nat) : Int) := by omega
    rw [ej] at b
    have at_ : bs.length - 1 - i < bs.length := by omega
    have hc : (wd bs).cps[bs.length - 1 - i]? = some (code bs[bs.length - 1 - i]) := by
      show (bs.map code).toArray[bs.length - 1 - i]? = _
      rw [List.getElem?_toArray, List.getElem?_map, List.getElem?_eq_getElem at_]
      rfl
    refine bw_more b hc (by rw [wd_len]; exact Nat.le_of_lt (len_lt (by omega))) fun h u b2 same => ?_
    have eb : bs.reverse[i]? = some bs[bs.length - 1 - i] := by
      rw [List.getElem?_reverse lt2, List.getElem?_eq_getElem at_]
    have e2 : ((bs.length - 1 - i : Nat) : Int) - 1 = (bs.length : Int) - 1 - ((i + 1 : Nat) : Int) := by omega
    rw [e2] at b2
    have J : Inv X pins σ H { s with heap := h, toks := u + 1 } := I.turned (t' := u + 1) (fun c o nc q => (same.2 c nc).trans q) u0 u1 u3 u4 u5
    obtain ⟨o2, a2, c2, d2⟩ := id b2
    exact ⟨_, rfl, go_of (s := { s with heap := h, toks := u + 1 }) a2 c2 d2 (by decide) ⟨.str (ltr bs[bs.length - 1 - i]), H, J, ⟨u, rfl⟩, ⟨rfl, _, eb, rfl⟩, ⟨lt2, b2⟩, fun c hc => (fr c hc).1⟩⟩
  done := by
    rintro X rfl rfl rfl calm i pins s σ H E I fr ⟨le, b⟩ ge
    have ge2 : bs.length ≤ i := ge
    obtain ⟨u0, u1, _, u3, u4, u5⟩ := fr it (by simp)
    have ej : (bs.length : Int) - 1 - ((i : Nat) : Int) = -1 := by omega
    rw [ej] at b
    exact bw_end (I.ok.hd calm) b fun h ext => ⟨rfl, I.turned (t' := s.toks) (fun c o nc q => ext c o nc q) u0 u1 u3 u4 u5⟩
  self := fun _ _ _ _ _ st q => bw_iter st.2 q
def iBack (te : TE) : TI := fun σ H R => te σ H fun x G => ∃ bs : List Bool, x = .str (wd bs) ∧ bs.length ≤ 1000 ∧ R (ItB bs) G
theorem pi_back {X : Cx} {tg e : Expr} {te : TE} {p q : Pos} (hg : Gl X "reversed") (hm : X.mg "reversed" = none) (a : PE X e te) (one : starEach [e] X.env = (false, eval e X.env) :: starEach [] X.env := by rfl) :
    PI X tg (.Call (.Name "reversed" p) [e] [] q) (iBack te) := by
  constructor
  intro pins s σ H R I h
  refine Call_ (ld_blt I hg hm PyProof.Rows.boot_reversed (PyProof.Rows.callWith_type1 (args_cons (thn (a.run pins s σ H _ I h) fun u s1 z => args_nil ?_) one) one rfl))
  obtain ⟨x, G, J, r, bs, rfl, few, good⟩ := z
  obtain ⟨tk, rfl⟩ := r
  have fit : ¬ (((wd bs).length : Nat) : Int) ≥ 2 ^ 63 := by
    rw [wd_len]
    omega
  have e0 : (((wd bs).length : Nat) : Int) - 1 = (bs.length : Int) - 1 - ((0 : Nat) : Int) := by
    rw [wd_len]
    omega
  have here : Bw (s1.heap.push (bwObj (wd bs) tk (((wd bs).length : Int) - 1))) s1.heap.objs.size (wd bs) tk (((wd bs).length : Int) - 1) := ⟨_, Heap.get?_push_size _ rfl, rfl, rfl⟩
  refine bw_call fit (bw_iter (s := { s1 with heap := s1.heap.push (bwObj (wd bs) tk (((wd bs).length : Int) - 1)), toks := s1.toks + 1 + 1 }) here ?_)
  refine pi_one (tk := s1.toks + 1 + 1) J _ (turnB (tk := tk) few s1.heap.objs.size) ⟨Nat.zero_le _, ?_⟩ good
  rw [← e0]
  exact here
/-- for .. in reversed(word) -/
theorem walk_back {bs : List Bool} : Walk (ItB bs) bs.length (fun _ => True) (fun i H x H' => H' = H ∧ ∃ b, bs.reverse[i]? = some b ∧ x = .str (ltr b)) := ⟨fun _ _ lt _ => lt, fun _ _ => Nat.le_refl _, fun _ _ _ _ _ _ y => y⟩
end Lp
namespace Lp
open PySem PySem.Spec PyProof.Rows L2
/-! ### the greatest and the least of a tuple of numbers -/
theorem ints_read {h : Heap} : ∀ {us : List Value} {ns : List Int}, Vals (ns.map V.int) us → ReadsAll h us (ns.map PyData.int) []
  | [], [], _ => .nil
  | _ :: _, n :: ns, .cons ⟨t, e⟩ r => by
    subst e
    exact .cons (as := []) (.int n t) (ints_read r)
theorem ints_alike (ns : List Int) : PySem.W.AlikeAll (ns.map PyData.int) := by
  refine ⟨fun x hx y hy => ?_, fun x hx => ?_⟩
  · obtain ⟨a, _, rfl⟩ := List.mem_map.mp hx
    obtain ⟨b, _, rfl⟩ := List.mem_map.mp hy
    rfl
  · obtain ⟨a, _, rfl⟩ := List.mem_map.mp hx
    exact fun z => nomatch z
theorem fold_max : ∀ (ns : List Int) (n : Int), ns.foldl max n ∈ n :: ns ∧ ∀ y ∈ n :: ns, y ≤ ns.foldl max n
  | [], n => ⟨List.mem_cons_self .., fun y hy => by rw [List.mem_singleton.mp hy]; exact Int.le_refl _⟩
  | k :: ns, n => by
    obtain ⟨m, b⟩ := fold_max ns (max n k)
    rw [List.foldl_cons]
    refine ⟨?_, fun y hy => ?_⟩
    · rcases List.mem_cons.mp m with z | z
      · rw [z]
        rcases Int.le_total n k with w | w
        · rw [Int.max_eq_right w]
          exact List.mem_cons_of_mem _ (List.mem_cons_self ..)
        · rw [Int.max_eq_left w]
          exact List.mem_cons_self ..
      · exact List.mem_cons_of_mem _ (List.mem_cons_of_mem _ z)
    · have top := b (max n k) (List.mem_cons_self ..)
      rcases List.mem_cons.mp hy with rfl | hy
      · omega
      · rcases List.mem_cons.mp hy with rfl | hy
        · omega
        · exact b y (List.mem_cons_of_mem _ hy)
theorem fold_min : ∀ (ns : List Int) (n : Int), ns.foldl min n ∈ n :: ns ∧ ∀ y ∈ n :: ns, ns.foldl min n ≤ y
  | [], n => ⟨List.mem_cons_self .., fun y hy => by rw [List.mem_singleton.mp hy]; exact Int.le_refl _⟩
  | k :: ns, n => by
    obtain ⟨m, b⟩ := fold_min ns (min n k)
    rw [List.foldl_cons]
    refine ⟨?_, fun y hy => ?_⟩
    · rcases List.mem_cons.mp m with z | z
      · rw [z]
        rcases Int.le_total n k with w | w
        · rw [Int.min_eq_left w]
          exact List.mem_cons_self ..
        · rw [Int.min_eq_right w]
          exact List.mem_cons_of_mem _ (List.mem_cons_self ..)
      · exact List.mem_cons_of_mem _ (List.mem_cons_of_mem _ z)
    · have top := b (min n k) (List.mem_cons_self ..)
      rcases List.mem_cons.mp hy with rfl | hy
      · omega
      · rcases List.mem_cons.mp hy with rfl | hy
        · omega
        · exact b y (List.mem_cons_of_mem _ hy)
def rMaxT (K : PySem.W.Frag) : List V → Hp → VK → Prop := fun vs H Q => ∃ (a : Addr) (ns : List Int), vs = [V.ref a] ∧ SqT K H a (ns.map V.int) ∧ ns ≠ [] ∧ ∀ m, m ∈ ns → (∀ y ∈ ns, y ≤ m) → Q (.int m) H
def rMinT (K : PySem.W.Frag) : List V → Hp → VK → Prop := fun vs H Q => ∃ (a : Addr) (ns : List Int), vs = [V.ref a] ∧ SqT K H a (ns.map V.int) ∧ ns ≠ [] ∧ ∀ m, m ∈ ns → (∀ y ∈ ns, m ≤ y) → Q (.int m) H
theorem cr_maxT {X : Cx} (calm : X.calm = true) (room : X.A.units + 1 < cLine) : CallR X (.builtin "max") (rMaxT X.K) := fun pins s σ H vs us Q I r h => by
  obtain ⟨a, ns, rfl, hq, ne, good⟩ := h
  obtain ⟨its, rel, tup, _⟩ := I.tuple hq
  rw [Vals.ref1 r]
  cases ns with
  | nil => exact absurd rfl ne
  | cons n ns =>
    have reads : ReadsAll s.heap its.toArray.toList (.int n :: ns.map PyData.int) [] := ints_read (ns := n :: ns) (by simpa using rel)
    have dep : X.A.units + 1 + PyData.depthAll (.int n :: ns.map PyData.int) < cLine := by
      have := depth_ints (n :: ns)
      rw [List.map_cons] at this
      rw [this]
      exact room
    refine PySem.W.max_tuple_data (I.ok.hd calm) tup reads (ints_alike (n :: ns)) dep fun i v h2 tk bs _ rd keep => ?_
    rw [PySem.W.maxD_ints] at rd
    cases rd with
    | int _ t => exact ⟨.int _, H, I.kept keep, ⟨t, rfl⟩, good _ (fold_max ns n).1 (fold_max ns n).2⟩
theorem cr_minT {X : Cx} (calm : X.calm = true) (room : X.A.units + 1 < cLine) : CallR X (.builtin "min") (rMinT X.K) := fun pins s σ H vs us Q I r h => by
  obtain ⟨a, ns, rfl, hq, ne, good⟩ := h
  obtain ⟨its, rel, tup, _⟩ := I.tuple hq
  rw [Vals.ref1 r]
  cases ns with
  | nil => exact absurd rfl ne
  | cons n ns =>
    have reads : ReadsAll s.heap its.toArray.toList (.int n :: ns.map PyData.int) [] := ints_read (ns := n :: ns) (by simpa using rel)
    have dep : X.A.units + 1 + PyData.depthAll (.int n :: ns.map PyData.int) < cLine := by
      have := depth_ints (n :: ns)
      rw [List.map_cons] at this
      rw [this]
      exact room
    refine PySem.W.min_tuple_data (I.ok.hd calm) tup reads (ints_alike (n :: ns)) dep fun i v h2 tk bs _ rd keep => ?_
    rw [PySem.W.minD_ints] at rd
    cases rd with
    | int _ t => exact ⟨.int _, H, I.kept keep, ⟨t, rfl⟩, good _ (fold_min ns n).1 (fold_min ns n).2⟩
end Lp
namespace Lp
open PySem PySem.Spec PyProof.Rows L2
/-! ### the kinds of the people behind the front -/
def lk (l : List Int) (z : Int) : Option Bool := if (l.all fun y => decide (y ≤ z)) = true then some true else if (l.all fun y => decide (z ≤ y)) = true then some false else none
def kinds (ns : List Int) : List (Option Bool) := (List.range (ns.length - 1)).map fun i => lk (ns.take (i + 1)) (ns.getD (i + 1) 0)
def kV : Option Bool → V
  | some b => .str (ltr b)
  | none => .non
theorem kinds_len (ns : List Int) : (kinds ns).length = ns.length - 1 := by
  unfold kinds
  rw [List.length_map, List.length_range]
theorem kinds_get {ns : List Int} {i : Nat} (h : i + 1 < ns.length) : (kinds ns)[i]? = some (lk (ns.take (i + 1)) ns[i + 1]) := by
  unfold kinds
  rw [List.getElem?_map, List.getElem?_range (by omega)]
  show some (lk (ns.take (i + 1)) (ns.getD (i + 1) 0)) = _
  rw [List.getD_eq_getElem?_getD, List.getElem?_eq_getElem h]
  rfl
theorem kinds_snoc {l : List Int} (z : Int) (h : 1 ≤ l.length) : kinds (l ++ [z]) = kinds l ++ [lk l z] := by
  have e : (l ++ [z]).length - 1 = (l.length - 1) + 1 := by
    rw [List.length_append]
    show l.length + 1 - 1 = _
    omega
  unfold kinds
  rw [e, List.range_succ, List.map_append]
  congr 1
  · refine List.map_congr_left fun i hi => ?_
    have hi2 := List.mem_range.mp hi
    rw [List.take_append_of_le_length (by omega), List.getD_eq_getElem?_getD, List.getD_eq_getElem?_getD, List.getElem?_append_left (by omega)]
  · show [lk ((l ++ [z]).take (l.length - 1 + 1)) ((l ++ [z]).getD (l.length - 1 + 1) 0)] = _
    rw [show l.length - 1 + 1 = l.length by omega, List.take_append_of_le_length (Nat.le_refl _), List.take_length, List.getD_eq_getElem?_getD, List.getElem?_append_right (Nat.le_refl _), Nat.sub_self]
    rfl
theorem lk_max {l : List Int} {z : Int} (h : ∀ y ∈ l, y ≤ z) : lk l z = some true := by
  unfold lk
  rw [if_pos (List.all_eq_true.mpr fun y hy => decide_eq_true (h y hy))]
theorem lk_min {l : List Int} {z : Int} (h1 : l ≠ []) (h : ∀ y ∈ l, z < y) : lk l z = some false := by
  unfold lk
  rw [if_neg, if_pos (List.all_eq_true.mpr fun y hy => decide_eq_true (Int.le_of_lt (h y hy)))]
  intro w
  obtain ⟨y, hy⟩ := List.exists_mem_of_ne_nil l h1
  have a := of_decide_eq_true (List.all_eq_true.mp w y hy)
  have b := h y hy
  omega
theorem lk_inv {l : List Int} {z : Int} {b : Bool} (h : lk l z = some b) : if b then ∀ y ∈ l, y ≤ z else ∀ y ∈ l, z ≤ y := by
  unfold lk at h
  split at h
  · rename_i w
    have e := Option.some.inj h
    subst e
    exact fun y hy => of_decide_eq_true (List.all_eq_true.mp w y hy)
  · split at h
    · rename_i w
      have e := Option.some.inj h
      subst e
      exact fun y hy => of_decide_eq_true (List.all_eq_true.mp w y hy)
    · cases h
/-- a row of kinds is what its word leaves -/
theorem kinds_back : ∀ (n : Nat) (ns ms : List Int) (bs : List Bool), ns.length = n + 1 → ns.Nodup → ms.Perm ns → kinds ns = bs.map some → afterL bs ms = ns
  | 0, ns, ms, bs, hn, nd, pm, hk => by
    obtain ⟨x, rfl⟩ : ∃ x, ns = [x] := List.length_eq_one_iff.mp hn
    have e := List.perm_singleton.mp pm
    subst e
    exact after_one bs x
  | n + 1, ns, ms, bs, hn, nd, pm, hk => by
    have ne : ns ≠ [] := by
      intro z
      rw [z] at hn
      cases hn
    obtain ⟨l, z, rfl⟩ : ∃ l z, ns = l ++ [z] := ⟨ns.dropLast, ns.getLast ne, (List.dropLast_concat_getLast ne).symm⟩
    have ll : l.length = n + 1 := by
      rw [List.length_append] at hn
      have : l.length + 1 = n + 1 + 1 := hn
      omega
    rw [kinds_snoc z (by omega)] at hk
    have bl : bs.length = n + 1 := by
      have := congrArg List.length hk
      rw [List.length_append, kinds_len, List.length_map] at this
      have : l.length - 1 + 1 = bs.length := this
      omega
    have bne : bs ≠ [] := by
      intro w
      rw [w] at bl
      cases bl
    obtain ⟨w, b, rfl⟩ : ∃ w b, bs = w ++ [b] := ⟨bs.dropLast, bs.getLast bne, (List.dropLast_concat_getLast bne).symm⟩
    rw [List.map_append] at hk
    obtain ⟨h1, h2⟩ := List.append_inj' hk rfl
    have h2' : lk l z = some b := by
      have := List.cons.inj h2
      exact this.1
    have wl : w.length = n := by
      rw [List.length_append] at bl
      have : w.length + 1 = n + 1 := bl
      omega
    have mz : z ∈ ms := pm.mem_iff.mpr (List.mem_append_right _ (List.mem_singleton_self z))
    have nz : z ∉ l := fun hz => (List.nodup_append.mp nd).2.2 z hz z (List.mem_singleton_self z) rfl
    have pe : (ms.erase z).Perm l := by
      have := pm.erase z
      rw [List.erase_append_right _ nz] at this
      simpa using this
    have ih := kinds_back n l (ms.erase z) w ll (List.nodup_append.mp nd).1 pe h1
    have ml : ms.length ≤ w.length + 2 := by
      rw [pm.length_eq, hn, wl]
      exact Nat.le_refl _
    have inv := lk_inv h2'
    have mem : ∀ x ∈ ms, x ∈ l ∨ x = z := fun x hx => by
      rcases List.mem_append.mp (pm.mem_iff.mp hx) with q | q
      · exact .inl q
      · exact .inr (List.mem_singleton.mp q)
    cases b with
    | true =>
      rw [ends_max mz (fun x hx => by rcases mem x hx with q | q; exact inv x q; omega) ml, ih]
    | false =>
      rw [ends_min mz (fun x hx => by rcases mem x hx with q | q; exact inv x q; omega) ml, ih]
/-- the word of a final row -/
theorem kinds_fin : ∀ (r : List Bool) (hs : List Int), hs.Pairwise (· < ·) → 1 ≤ hs.length → hs.length ≤ r.length + 1 → kinds (finR r hs) = (r.take (hs.length - 1)).reverse.map some ∧ (finR r hs).Perm hs
  | r, [], _, h, _ => absurd h (by decide)
  | r, [x], _, _, _ => by
    have e : finR r [x] = [x] := by cases r <;> rfl
    rw [e]
    exact ⟨by rfl, .refl _⟩
  | [], x :: y :: l, _, _, h => absurd h (by simp)
  | true :: r, x :: y :: l, up, _, h => by
    have len : (x :: y :: l).dropLast.length = l.length + 1 := by rw [List.length_dropLast]; rfl
    have h' : (x :: y :: l).length ≤ (true :: r).length + 1 := h
    rw [List.length_cons, List.length_cons, List.length_cons] at h'
    have sub := List.dropLast_sublist (x :: y :: l)
    obtain ⟨i1, i2⟩ := kinds_fin r ((x :: y :: l).dropLast) (up.sublist sub) (by omega) (by omega)
    have dl := List.dropLast_concat_getLast (l := x :: y :: l) (by simp)
    have top : ∀ z ∈ finR r ((x :: y :: l).dropLast), z ≤ (x :: y :: l).getLast (by simp) := fun z hz => by
      have hz2 := i2.mem_iff.mp hz
      rw [← dl] at up
      exact Int.le_of_lt ((List.pairwise_append.mp up).2.2 z hz2 _ (List.mem_singleton_self _))
    have fl : 1 ≤ (finR r ((x :: y :: l).dropLast)).length := by rw [i2.length_eq, len]; omega
    refine ⟨?_, ?_⟩
    · rw [finR, kinds_snoc _ fl, i1, lk_max top, len]
      show _ = ((true :: r).take (l.length + 1 + 1 - 1)).reverse.map some
      rw [show l.length + 1 + 1 - 1 = (l.length + 1 - 1) + 1 by omega, List.take_succ_cons, List.reverse_cons, List.map_append]
      rfl
    · rw [finR]
      refine (i2.append_right _).trans ?_
      rw [dl]
  | false :: r, x :: y :: l, up, _, h => by
    have h' : (x :: y :: l).length ≤ (false :: r).length + 1 := h
    rw [List.length_cons, List.length_cons, List.length_cons] at h'
    rw [List.pairwise_cons] at up
    obtain ⟨i1, i2⟩ := kinds_fin r (y :: l) up.2 (by simp) (by rw [List.length_cons]; omega)
    have low : ∀ z ∈ finR r (y :: l), x < z := fun z hz => up.1 z (i2.mem_iff.mp hz)
    have fl : 1 ≤ (finR r (y :: l)).length := by rw [i2.length_eq]; simp
    have fne : finR r (y :: l) ≠ [] := fun z => by rw [z] at fl; cases fl
    refine ⟨?_, ?_⟩
    · rw [finR, kinds_snoc _ fl, i1, lk_min fne low]
      show _ = ((false :: r).take (l.length + 1 + 1 - 1)).reverse.map some
      rw [show l.length + 1 + 1 - 1 = ((y :: l).length - 1) + 1 by rw [List.length_cons]; omega, List.take_succ_cons, List.reverse_cons, List.map_append]
      rfl
    · rw [finR]
      refine (i2.append_right _).trans ?_
      exact List.perm_append_singleton x (y :: l)
end Lp
namespace Lp
open PySem PySem.Spec PyProof.Rows L2
/-! ### a tuple backwards: t[::-1] -/
theorem back_size (n : Nat) : Builtin.Slice.slicePlaces ((n : Int) - 1) (-1) (-1) = n := by
  unfold Builtin.Slice.slicePlaces; rw [if_neg (show ¬ (-1 : Int) > 0 by decide)]
  split
  · have e : ((n : Int) - 1 - -1 - 1) / (- -1) = (n : Int) - 1 := by
      rw [show (- -1 : Int) = 1 from rfl, Int.ediv_one]
      omega
    rw [e]
    omega
  · omega
theorem fm_congr {α β : Type} {f g : α → Option β} : ∀ {l : List α}, (∀ x ∈ l, f x = g x) → l.filterMap f = l.filterMap g
  | [], _ => rfl
  | x :: l, h => by
    rw [List.filterMap_cons, List.filterMap_cons, h x (List.mem_cons_self ..), fm_congr fun y hy => h y (List.mem_cons_of_mem _ hy)]
theorem back_items (xs : Array Value) : ((List.range xs.size).filterMap fun (k : Nat) => xs[((xs.size : Int) - 1 + (k : Int) * -1).toNat]?).toArray = xs.toList.reverse.toArray := by
  congr 1
  have e : (List.range xs.size).filterMap (fun (k : Nat) => xs[((xs.size : Int) - 1 + (k : Int) * -1).toNat]?) = ((List.range xs.size).map fun k => xs.size - 1 - k).filterMap (xs[·]?) := by
    rw [List.filterMap_map]
    refine fm_congr fun k hk => ?_
    have := List.mem_range.mp hk
    have z : ((xs.size : Int) - 1 + (k : Int) * -1).toNat = xs.size - 1 - k := by omega
    show xs[((xs.size : Int) - 1 + (k : Int) * -1).toNat]? = xs[xs.size - 1 - k]?
    rw [z]
  rw [e, PySem.W.krv_range, List.filterMap_reverse, PySem.W.krv_all]
section
variable {prog : Program} {w : World} {A : Around} {E : Value → Shared → Prop} {s : Shared}
theorem back_parts {sl : Addr} {n : Nat} {tk : Tok} {R : Int × Int × Nat → Shared → Prop} (h : s.heap.IsSliceOf sl .none .none (.int (-1) tk)) (good : R ((n : Int) - 1, -1, n) s) : wpAny (model prog w) A (Builtin.Slice.sliceApplied (.ref sl) (pure (n : Int))) R E s := by
  obtain ⟨ob, at_, cl, dt⟩ := id h
  unfold Builtin.Slice.sliceApplied Builtin.Slice.sliceFields; apply wpAny_bind
  refine wpAny_bind (wpAny_field at_ dt (x := .none) rfl (?_ : wpAny _ _ _ _ _ s))
  refine wpAny_bind (wpAny_field at_ dt (x := .none) rfl (?_ : wpAny _ _ _ _ _ s))
  refine wpAny_bind (wpAny_field at_ dt (x := .int (-1) tk) rfl (wpAny_pure (?_ : wpAny _ _ _ _ _ s)))
  refine wpAny_bind (HT.slicePart_ (.int (-1) tk) (?_ : wpAny _ _ (if ((-1 : Int) == 0) = true then _ else _) _ _ s))
  rw [if_neg (show ¬ ((-1 : Int) == 0) = true by decide)]
  refine wpAny_bind (HT.slicePart_ .none (wpAny_bind (HT.slicePart_ .none (wpAny_bind (wpAny_pure (?_ : wpAny _ _ _ _ _ s))))))
  show wpAny _ _ (pure ((n : Int) - 1, (-1 : Int), Builtin.Slice.slicePlaces ((n : Int) - 1) (-1) (-1))) _ _ s
  rw [back_size]
  exact wpAny_pure good
theorem back_item {t sl : Addr} {items : Array Value} {tk : Tok} {R : Value → Shared → Prop} (ht : IsTup s.heap t items) (hs : s.heap.IsSliceOf sl .none .none (.int (-1) tk)) (few : items.size ≤ sizeLine)
    (good : R (.ref s.heap.objs.size) { s with heap := s.heap.push { cls := .type "tuple", data := .seq items.toList.reverse.toArray } }) : wpAny (model prog w) A (getItem (.ref t) (.ref sl)) R E s := by
  obtain ⟨ob, at_, cl, dt⟩ := id hs
  have ty : s.TypeIs (.ref sl) "slice" := ⟨ob, at_, cl⟩
  have fit : sizeOk (.seq items.toList.reverse.toArray) := by
    show items.toList.reverse.toArray.size ≤ sizeLine
    rw [List.size_toArray, List.length_reverse, Array.length_toList]
    exact few
  unfold getItem
  refine wpAny_holding (?_ : wpAny _ _ _ _ _ s)
  refine wpAny_bind (wpAny_sequenceKey ht.typeIs (by decide) (?_ : wpAny _ _ _ _ _ s))
  refine wpAny_bind (wpAny_callSpecial?_slot (name := Str.ofString "__getitem__") ht.typeIs PyProof.Rows.slot_tuple_getitem (wpAny_call_entry PyProof.Rows.slot_tuple_getitem ht.typeIs PyProof.Rows.entry_tuple_getitem (?_ : wpAny _ _ (Builtin.Tuple.tupleItemsOf (.ref t) >>= _) _ _ s) (PyProof.Rows.args_tuple_getitem _ _)))
  refine wpAny_bind (PyProof.Rows.tupleItemsOf_ ht (?_ : wpAny _ _ _ _ _ s))
  refine wpAny_bind (wpAny_typeOf ty (?_ : wpAny _ _ _ _ _ s))
  rw [if_pos (show (Value.type "slice" == Value.type "slice") = true by decide)]
  refine wpAny_bind (back_parts hs (?_ : wpAny _ _ _ _ _ s))
  have off : ¬ ((((items.size : Int) - 1 == 0) && ((-1 : Int) == 1) && (items.size == items.size)) = true) := by
    rw [show ((-1 : Int) == 1) = false by decide, Bool.and_false, Bool.false_and]
    exact Bool.false_ne_true
  show wpAny _ _ (if (((items.size : Int) - 1 == 0) && ((-1 : Int) == 1) && (items.size == items.size)) = true then _ else _) _ _ s
  rw [if_neg off, back_items]
  exact wpAny_bind (m := Builtin.Tuple.tupleExact _) (wpAny_newObj_type (wpAny_pure ⟨_, rfl, wpAny_pure good⟩) fit)
end
def tBackT (K : PySem.W.Frag) (te : TE) : TE := fun σ H Q => te σ H fun x G => ∃ a xs, x = .ref a ∧ SqT K G a xs ∧ ∀ p, G p = none → Q (.ref p) (upd G p (.tup xs.reverse))
theorem pe_backT {X : Cx} {e : Expr} {te : TE} {j : Nat} {q1 q2 q3 q : Pos} (a : PE X e te) : PE X (.Subscript e (.Slice none none (some (.UnaryOp .USub (.Constant (.int 1) j q1) q2)) q3) q) (tBackT X.K te) := by
  constructor
  intro pins s σ H Q I h
  refine Subscript_ (thn (a.run pins s σ H _ I h) fun v s1 z => ?_)
  obtain ⟨x, H1, I1, r1, b, xs, rfl, hx, good⟩ := z
  cases r1
  refine wpAny_Slice (thn (po_none.run pins s1 σ H1 (fun o G => o = none ∧ G = H1) I1 ⟨rfl, rfl⟩) fun vl s2 z => ?_)
  obtain ⟨_, G2, I2, pl, rfl, rfl⟩ := z
  refine thn (po_none.run pins s2 σ _ (fun o G => o = none ∧ G = G2) I2 ⟨rfl, rfl⟩) fun vu s3 z => ?_
  obtain ⟨_, G3, I3, pu, rfl, rfl⟩ := z
  refine thn (minus_one.run pins s3 σ _ (fun o G => o = some (-1) ∧ G = G3) I3 ⟨1, rfl, -1, rfl, rfl, rfl⟩) fun vs s4 z => ?_
  obtain ⟨_, G4, I4, ps, rfl, rfl⟩ := z
  cases pl
  cases pu
  cases ps with
  | int _ tk =>
    have J := I4.kept (t' := s4.toks) (h' := s4.heap.push { cls := .type "slice", data := .fields #[.none, .none, .int (-1) tk] }) fun b ob w => Heap.get?_push_of_some _ w
    obtain ⟨its, r, ht, few⟩ := J.tuple hx
    have size : its.toArray.size ≤ sizeLine := by
      rw [List.size_toArray, ← r.length]
      exact few
    refine tail_any (ops := [.ref b, .ref s4.heap.objs.size]) ht.typeIs PyProof.Rows.slot_tuple_getitem.lookup ?_ (by with_unfolding_all rfl)
    refine back_item ht (Heap.IsSliceOf.new _ .none .none (.int (-1) tk)) size ?_
    have same : its.toArray.toList.reverse.toArray = its.reverse.toArray := by simp
    have new := J.laid (t' := s4.toks) (o := .tup xs.reverse) (h' := (s4.heap.push { cls := .type "slice", data := .fields #[.none, .none, .int (-1) tk] }).push { cls := .type "tuple", data := .seq its.toArray.toList.reverse.toArray }) (fun b ob w => Heap.get?_push_of_some _ w) (Nat.le_refl _) ⟨by rw [List.length_reverse]; exact few, its.reverse, r.reverse, by rw [← same]; exact IsTup.new _ _⟩
    exact ⟨.ref _, _, new, rfl, good _ (J.hok.fresh (Nat.le_refl _))⟩
/-! ### rows told apart -/
theorem eqv_all : ∀ a b : List Int, PyData.eqvAll (a.map PyData.int) (b.map PyData.int) = decide (a = b)
  | [], [] => by simp [PyData.eqvAll]
  | [], y :: b => by simp [PyData.eqvAll]
  | x :: a, [] => by simp [PyData.eqvAll]
  | x :: a, y :: b => by
    rw [List.map_cons, List.map_cons, PyData.eqvAll, eqv_all a b, PyData.eqv]
    by_cases h : x = y
    · by_cases h2 : a = b
      · simp [h, h2]
      · simp [h, h2]
    · simp [h]
theorem eqv_rows (a b : List Int) : PyData.eqv (.tuple (a.map PyData.int)) (.tuple (b.map PyData.int)) = decide (a = b) := by
  rw [PyData.eqv, eqv_all]
end Lp
namespace Lp
open PySem PySem.Spec PyProof.Rows L2
/-! ### tuples whose object is known: they have methods -/
structure TupO (o : Obj) : Prop where
  cls : o.cls = .type "tuple"
  nod : o.dict = none
def TupAt (H : Hp) (p : Addr) (xs : List V) : Prop := ∃ o, TupO o ∧ H p = some (.frz o (.tup xs))
theorem TupAt.sq {K : PySem.W.Frag} {H : Hp} {p : Addr} {xs : List V} (h : TupAt H p xs) : SqT K H p xs := by
  obtain ⟨o, _, e⟩ := h
  exact .inl (.inr ⟨o, e⟩)
theorem TupAt.same {H H' : Hp} {p : Addr} {xs : List V} (h : TupAt H p xs) (s : Same H H') : TupAt H' p xs := by
  obtain ⟨o, t, e⟩ := h
  exact ⟨o, t, s _ _ e⟩
theorem TupAt.kp {H H' : Hp} {p a : Addr} {xs : List V} (h : TupAt H p xs) (s : Kp a H H') (ne : p ≠ a) : TupAt H' p xs := by
  obtain ⟨o, t, e⟩ := h
  exact ⟨o, t, s _ _ e ne⟩
theorem TupAt.some_ {H : Hp} {p : Addr} {xs : List V} (h : TupAt H p xs) : H p ≠ none := by
  obtain ⟨o, _, e⟩ := h
  rw [e]
  exact fun z => nomatch z
/-- tuple(xs), xs a list: the new object is known -/
def rTupF (K : PySem.W.Frag) : List V → Hp → VK → Prop := fun xs H Q => ∃ p ys, xs = [.ref p] ∧ SqL K H p ys ∧ ∀ l o, TupO o → H l = none → Q (.ref l) (upd H l (.frz o (.tup ys)))
theorem call_tupF {X : Cx} : CallR X (.type "tuple") (rTupF X.K) := by
  intro pins s σ H xs us Q I r h
  obtain ⟨p, ys, rfl, hq, q⟩ := h
  obtain ⟨u, rfl, rx⟩ := vals1 r
  cases rx
  obtain ⟨its, r2, pl, hz⟩ := I.list hq
  have hlen := r2.length
  refine call_tuple_list pl.isList (fun h2 kp => ?_) (by have := line63; simp only [List.size_toArray]; omega)
  have J1 : Inv X pins σ H { s with heap := h2 } := I.kept (t' := s.toks) kp
  have at_ := Heap.get?_push_size h2 (o := { cls := .type "tuple", data := .seq its.toArray }) rfl
  have J2 : Inv X pins σ (upd H h2.objs.size (.frz { cls := .type "tuple", data := .seq its.toArray } (.tup ys))) { s with heap := h2.push { cls := .type "tuple", data := .seq its.toArray } } :=
    J1.laid (t' := s.toks) (fun b o e => Heap.get?_push_of_some _ e) (Nat.le_refl _) (show ObjOk X.prog X.w _ _ _ (.frz _ (.tup ys)) from ⟨at_, hz, its, r2, IsTup.new _ _⟩)
  exact ⟨.ref h2.objs.size, _, J2, rfl, q _ _ ⟨rfl, rfl⟩ (J1.hok.fresh (Nat.le_refl _))⟩
/-- o.index(e), o such a tuple -/
def tTix (r : V → List V → Hp → VK → Prop) (to : TE) (t : TA) : TE := fun σ H Q => to σ H fun x H1 => (∃ p xs, x = .ref p ∧ TupAt H1 p xs) ∧ t σ H1 fun vs H2 => r x vs H2 Q
section
variable {X : Cx} {o e : Expr} {es : List Expr} {to : TE} {t : TA} {apos cpos : Pos} {r : V → List V → Hp → VK → Prop}
theorem pe_tix (hm : MtR X "tuple.index" r) (ho : PE X o to) (ha : PA X (e :: es) t)
    (hbase : attributeBase o "index" X.env (eval o X.env) = eval o X.env := by rfl)
    (few : ((backTo cpos (starEach (e :: es) X.env)).all (fun x => !x.1) && (backToKw cpos (keywordEach [] X.env)).all (fun x => x.1.isSome) && decide ((e :: es).length + ([] : List Keyword).length + (if ([] : List Keyword).isEmpty then 0 else 1) < 30)) = true := by rfl)
    (line : (apos.endLine == cpos.line) = true := by rfl) (st : starEach (e :: es) X.env = (false, eval e X.env) :: starEach es X.env := by rfl) (plain : (backTo cpos (starEach es X.env)).any (·.1) = false := by rfl) :
    PE X (.Call (.Attribute o "index" apos) (e :: es) [] cpos) (tTix r to t) := ⟨fun pins s σ H Q I h => by
  refine wpAny_Call_method_late hbase few line rfl (thn (ho.run pins s σ H _ I h) fun v s1 y => ?_)
  obtain ⟨x, H1, J1, rx, ⟨p, xs, rfl, ob, tb, hp⟩, q1⟩ := y
  cases rx
  have at_ : s1.heap.get? p = some ob := (J1.hok p _ hp).1
  refine ⟨"tuple", "tuple.index", F.plainAttrs_tuple, F.slot_tuple_index, F.type_tuple_index, ⟨ob, at_, tb.cls⟩, fun a ea => ?_, ?_⟩
  · cases ea
    exact ⟨ob, at_, tb.nod⟩
  · have run := ha.run cpos pins s1 σ H1 _ J1 q1
    rw [st] at run ⊢
    refine Calls.callWith_builtin (by show (false || (backTo cpos (starEach es X.env)).any (·.1)) = false; rw [plain]; rfl) (Calls.evalArgs_plain ?_)
    exact thn run fun us s2 y2 => by
      obtain ⟨vs, H2, J2, rs, q2⟩ := y2
      exact hm pins s2 σ H2 (.ref p) vs (.ref p) us Q J2 rfl rs q2⟩
end
end Lp
namespace Lp
open PySem PySem.Spec PyProof.Rows L2
/-! ### the last people: each the tallest or the shortest up to there (bs: from the back) -/
def EndsR : List Bool → List Int → Prop
  | [], _ => True
  | b :: bs, r => ∃ l z, r = l ++ [z] ∧ (∀ y ∈ l, if b then y ≤ z else z ≤ y) ∧ EndsR bs l
def EndsB : List Bool → List Bool → Prop
  | [], _ => True
  | b :: bs, r => ∃ l c, r = l ++ [c] ∧ (c = !b → ∀ y ∈ l, y = !b) ∧ EndsB bs l
theorem snoc_of {α : Type} {l : List α} (h : 1 ≤ l.length) : ∃ m z, l = m ++ [z] := by
  have ne : l ≠ [] := fun e => by
    rw [e] at h
    exact absurd h (Nat.not_succ_le_zero 0)
  exact ⟨l.dropLast, l.getLast ne, (List.dropLast_concat_getLast ne).symm⟩
theorem endsB_const : ∀ (bs l : List Bool) (e : Bool), bs.length ≤ l.length → (∀ y ∈ l, y = e) → EndsB bs l
  | [], _, _, _, _ => trivial
  | b :: bs, l, e, hl, h => by
    rw [List.length_cons] at hl
    obtain ⟨m, z, rfl⟩ := snoc_of (show 1 ≤ l.length by omega)
    rw [List.length_append, List.length_singleton] at hl
    have hz : z = e := h z (by simp)
    refine ⟨m, z, rfl, fun ez y hy => ?_, endsB_const bs m e (by omega) fun y hy => h y (by simp [hy])⟩
    rw [← ez, hz]
    exact h y (by simp [hy])
theorem endsB_erase : ∀ (bs l : List Bool) (b : Bool), bs.length + 1 ≤ l.length → b ∈ l → EndsB bs l → EndsB bs (l.erase b)
  | [], _, _, _, _, _ => trivial
  | d :: bs, l, b, hl, hb, h => by
    rw [List.length_cons] at hl
    obtain ⟨m, c, rfl, h1, h2⟩ := h
    rw [List.length_append, List.length_singleton] at hl
    by_cases hm : b ∈ m
    · rw [List.erase_append_left _ hm]
      exact ⟨m.erase b, c, rfl, fun ec y hy => h1 ec y (List.mem_of_mem_erase hy), endsB_erase bs m b (by omega) hm h2⟩
    · have ec : c = b := by
        rcases List.mem_append.mp hb with z | z
        · exact absurd z hm
        · exact (List.mem_singleton.mp z).symm
      rw [List.erase_append_right _ hm, ec, List.erase_cons_head, List.append_nil]
      refine endsB_const (d :: bs) m (!b) (by rw [List.length_cons]; omega) fun y hy => ?_
      cases y <;> cases b <;> first | rfl | exact absurd hy hm
theorem endsB_pass {bs l : List Bool} {b : Bool} (hl : bs.length + 1 ≤ l.length) (h : EndsB bs l) : EndsB (b :: bs) ((l ++ [b]).erase b) := by
  by_cases hb : b ∈ l
  · rw [List.erase_append_left _ hb]
    exact ⟨l.erase b, b, rfl, (fun e => absurd e (by cases b <;> decide)), endsB_erase bs l b hl hb h⟩
  · rw [List.erase_append_right _ hb, List.erase_cons_head, List.append_nil]
    refine endsB_const (b :: bs) l (!b) (by rw [List.length_cons]; omega) fun y hy => ?_
    cases y <;> cases b <;> first | rfl | exact absurd hy hb
theorem endsB_after (h : Int) {ns : List Int} (ne : ns ≠ []) : ∀ r : List Bool, r.length ≤ ns.length → EndsB r (sgn h (afterL r.reverse ns))
  | [], _ => trivial
  | b :: r, hl => by
    rw [List.length_cons] at hl
    have ih := endsB_after h ne r (by omega)
    rw [List.reverse_cons, afterL_app]
    show EndsB (b :: r) (sgn h (passL b (afterL r.reverse ns)))
    have ln : (afterL r.reverse ns).length = ns.length := afterL_len ..
    have ne2 : afterL r.reverse ns ≠ [] := fun e => by
      rw [e] at ln
      exact ne (List.length_eq_zero_iff.mp ln.symm)
    rw [pass_sgn b h ne2]
    refine endsB_pass ?_ ih
    rw [sgn_len, ln]
    exact hl
theorem endsR_of : ∀ (bs : List Bool) (r : List Int), (∀ h, EndsB bs (sgn h r)) → EndsR bs r
  | [], _, _ => trivial
  | b :: bs, r, hB => by
    have pos : 1 ≤ r.length := by
      obtain ⟨l, c, e, _⟩ := hB 0
      have := congrArg List.length e
      rw [sgn_len, List.length_append, List.length_singleton] at this
      omega
    obtain ⟨m, z, rfl⟩ := snoc_of pos
    have split_ : ∀ h, (decide (h ≤ z) = !b → ∀ y ∈ sgn h m, y = !b) ∧ EndsB bs (sgn h m) := fun h => by
      obtain ⟨l, c, e, h1, h2⟩ := hB h
      have e2 : sgn h (m ++ [z]) = sgn h m ++ [decide (h ≤ z)] := List.map_append ..
      rw [e2] at e
      obtain ⟨e3, e4⟩ := List.append_inj' e rfl
      rw [e3]
      refine ⟨fun q => h1 ?_, h2⟩
      rw [← q]
      exact (List.cons.inj e4).1.symm
    refine ⟨m, z, rfl, fun y hy => ?_, endsR_of bs m fun h => (split_ h).2⟩
    cases b with
    | true =>
      show y ≤ z
      by_cases hlt : y ≤ z
      · exact hlt
      · have := (split_ y).1 (decide_eq_false hlt) (decide (y ≤ y)) (List.mem_map.mpr ⟨y, hy, rfl⟩)
        rw [decide_eq_true (Int.le_refl y)] at this
        cases this
    | false =>
      show z ≤ y
      have := (split_ z).1 (decide_eq_true (Int.le_refl z)) (decide (z ≤ y)) (List.mem_map.mpr ⟨y, hy, rfl⟩)
      exact of_decide_eq_true this
theorem endsR_after {ns : List Int} (ne : ns ≠ []) {r : List Bool} (hl : r.length ≤ ns.length) : EndsR r (afterL r.reverse ns) := endsR_of _ _ fun h => endsB_after h ne r hl
theorem endsR_uniq : ∀ (bs : List Bool) (r g : List Int), EndsR bs r → EndsR bs g → r.Perm g → r.take (r.length - bs.length) = g.take (r.length - bs.length) → r = g
  | [], r, g, _, _, p, e => by
    rw [List.length_nil, Nat.sub_zero, List.take_length, List.take_of_length_le (Nat.le_of_eq p.length_eq.symm)] at e
    exact e
  | b :: bs, r, g, hr, hg, p, e => by
    obtain ⟨l, z, rfl, h1, h2⟩ := hr
    obtain ⟨m, y, rfl, g1, g2⟩ := hg
    have ez : z = y := by
      have a1 : z ∈ m ++ [y] := p.mem_iff.mp (by simp)
      have a2 : y ∈ l ++ [z] := p.mem_iff.mpr (by simp)
      rcases List.mem_append.mp a1 with w1 | w1
      · rcases List.mem_append.mp a2 with w2 | w2
        · have q1 := g1 z w1
          have q2 := h1 y w2
          cases b <;> simp at q1 q2 <;> omega
        · exact (List.mem_singleton.mp w2).symm
      · exact List.mem_singleton.mp w1
    subst ez
    have pl : l.Perm m := (List.perm_append_right_iff [z]).mp p
    have ll := pl.length_eq
    rw [List.length_append, List.length_singleton, List.length_cons, show l.length + 1 - (bs.length + 1) = l.length - bs.length by omega, List.take_append_of_le_length (by omega), List.take_append_of_le_length (by omega)] at e
    rw [endsR_uniq bs l m h2 g2 pl e]
/-! ### the words that may have placed the last people -/
def endsW : List (Option Bool) → List Bool → List (List Bool)
  | some b :: ks, w => w :: endsW ks (b :: w)
  | _, w => [w]
def endsOf (gs : List Int) : List (List Bool) := endsW (kinds gs).reverse []
theorem endsW_nil (w : List Bool) : endsW [] w = [w] := rfl
theorem endsW_none (ks : List (Option Bool)) (w : List Bool) : endsW (none :: ks) w = [w] := rfl
theorem endsW_some (b : Bool) (ks : List (Option Bool)) (w : List Bool) : endsW (some b :: ks) w = w :: endsW ks (b :: w) := rfl
theorem endsW_get : ∀ (ks : List (Option Bool)) (v : List Bool) (j : Nat) (w : List Bool), (endsW ks v)[j]? = some w → j ≤ ks.length ∧ ∃ u : List Bool, u.length = j ∧ w = u.reverse ++ v ∧ ks.take j = u.map some
  | [], v, j, w, h => by
    rw [endsW_nil] at h
    cases j with
    | zero => exact ⟨Nat.le_refl _, [], rfl, (Option.some.inj h).symm, rfl⟩
    | succ j => cases h
  | none :: ks, v, j, w, h => by
    rw [endsW_none] at h
    cases j with
    | zero => exact ⟨Nat.zero_le _, [], rfl, (Option.some.inj h).symm, rfl⟩
    | succ j => cases h
  | some b :: ks, v, j, w, h => by
    rw [endsW_some] at h
    cases j with
    | zero => exact ⟨Nat.zero_le _, [], rfl, (Option.some.inj h).symm, rfl⟩
    | succ j =>
      rw [List.getElem?_cons_succ] at h
      obtain ⟨h1, u, h2, h3, h4⟩ := endsW_get ks (b :: v) j w h
      refine ⟨by rw [List.length_cons]; omega, b :: u, by rw [List.length_cons, h2], ?_, ?_⟩
      · rw [h3, List.reverse_cons, List.append_assoc]
        rfl
      · rw [List.take_succ_cons, h4]
        rfl
theorem kinds_ends : ∀ (u : List Bool) (gs : List Int), (kinds gs).reverse.take u.length = u.map some → u.length ≤ gs.length - 1 → EndsR u gs
  | [], _, _, _ => trivial
  | b :: u, gs, h, hl => by
    rw [List.length_cons] at hl
    obtain ⟨m, z, rfl⟩ := snoc_of (show 1 ≤ gs.length by omega)
    rw [List.length_append, List.length_singleton] at hl
    rw [kinds_snoc z (by omega), List.reverse_append, List.length_cons] at h
    have h2 : lk m z :: (kinds m).reverse.take u.length = some b :: u.map some := h
    obtain ⟨e1, e2⟩ := List.cons.inj h2
    have inv := lk_inv e1
    refine ⟨m, z, rfl, fun y hy => ?_, kinds_ends u m e2 (by omega)⟩
    cases b with
    | true => exact inv y hy
    | false => exact inv y hy
theorem ends_get {gs : List Int} {j : Nat} {w : List Bool} (h : (endsOf gs)[j]? = some w) : w.length = j ∧ j ≤ gs.length - 1 ∧ EndsR w.reverse gs := by
  obtain ⟨h1, u, h2, h3, h4⟩ := endsW_get _ _ _ _ h
  rw [List.length_reverse, kinds_len] at h1
  rw [List.append_nil] at h3
  subst h3
  rw [List.length_reverse, List.reverse_reverse]
  subst h2
  exact ⟨rfl, h1, kinds_ends u gs h4 h1⟩
theorem keptL_after {w : List Bool} {ns : List Int} (hrow : Row ns) (h : w.length ≤ ns.length) : keptL (w.count false) (w.count true) ns = (afterL w ns).take (ns.length - w.length) := by
  have two := count_two w
  unfold keptL
  rw [desk_passes hrow.nd (by omega), show ns.length - w.count false - w.count true = ns.length - w.length by omega]
  have c0 : (List.replicate (w.count false) false ++ List.replicate (w.count true) true).count false = w.count false := by simp [List.count_append, List.count_replicate]
  have c1 : (List.replicate (w.count false) false ++ List.replicate (w.count true) true).count true = w.count true := by simp [List.count_append, List.count_replicate]
  have ka := kept_any (ns := ns) c0 c1
  rw [List.length_append, List.length_replicate, List.length_replicate, two] at ka
  exact ka
/-- a possible end leads there just where the people kept are the first ones -/
theorem ends_lead {ns gs : List Int} {w : List Bool} (hrow : Row ns) (p : gs.Perm ns) (h : w ∈ endsOf gs) : afterL w ns = gs ↔ keptL (w.count false) (w.count true) ns = gs.take (ns.length - w.length) := by
  obtain ⟨j, hj⟩ := List.mem_iff_getElem?.mp h
  obtain ⟨h1, h2, h3⟩ := ends_get hj
  have lp := p.length_eq
  have pos := hrow.pos
  have ne : ns ≠ [] := fun e => by
    rw [e] at pos
    exact absurd pos (by decide)
  rw [keptL_after hrow (by omega)]
  constructor
  · intro e
    rw [e]
  · intro e
    have er := endsR_after ne (r := w.reverse) (by rw [List.length_reverse]; omega)
    rw [List.reverse_reverse] at er
    refine endsR_uniq w.reverse _ _ er h3 ((afterL_perm w ns).trans p.symm) ?_
    rw [afterL_len, List.length_reverse]
    exact e
/-! ### the first index at which two differ -/
def fmI : List Int → List Int → Option Nat
  | x :: xs, y :: ys => if x = y then (fmI xs ys).map (· + 1) else some 0
  | _, _ => none
theorem fmI_none : ∀ (xs ys : List Int), xs.length ≤ ys.length → (fmI xs ys = none ↔ xs = ys.take xs.length)
  | [], ys, _ => by cases ys <;> exact ⟨fun _ => rfl, fun _ => rfl⟩
  | x :: xs, [], h => absurd h (by simp)
  | x :: xs, y :: ys, h => by
    have ih := fmI_none xs ys (by simpa using h)
    rw [List.length_cons, List.take_succ_cons]
    show (if x = y then (fmI xs ys).map (· + 1) else some 0) = none ↔ _
    by_cases e : x = y
    · rw [if_pos e, Option.map_eq_none_iff, ih, e, List.cons.injEq]
      exact ⟨fun z => ⟨rfl, z⟩, fun z => z.2⟩
    · rw [if_neg e, List.cons.injEq]
      refine ⟨fun z => absurd z (by simp), fun z => absurd z.1 e⟩
/-- the search along xs -/
theorem fmI_at {xs ys : List Int} (h : xs.length ≤ ys.length) : ∀ i : Nat, (∀ j (hj : j < i) (hx : j < xs.length), xs[j] = ys[j]'(by omega)) → ∀ (hi : i < xs.length), xs[i] ≠ ys[i]'(by omega) → fmI xs ys = some i := by
  intro i
  induction i generalizing xs ys with
  | zero =>
    intro _ hi ne
    match xs, ys, h, hi, ne with
    | x :: xs, y :: ys, _, _, ne =>
      show (if x = y then _ else some 0) = some 0
      rw [if_neg (show ¬ x = y from ne)]
  | succ i ih =>
    intro before hi ne
    match xs, ys, h, hi, ne, before with
    | x :: xs, y :: ys, h, hi, ne, before =>
      have e : x = y := before 0 (by omega) (by simp)
      show (if x = y then (fmI xs ys).map (· + 1) else some 0) = some (i + 1)
      rw [if_pos e, ih (xs := xs) (ys := ys) (by simpa using h) (fun j hj hx => before (j + 1) (by omega) (by simpa using hx)) (by simpa using hi) ne]
      rfl
theorem fmI_all {xs ys : List Int} (h : xs.length ≤ ys.length) (all_ : ∀ j (hx : j < xs.length), xs[j] = ys[j]'(by omega)) : fmI xs ys = none := by
  refine (fmI_none xs ys h).mpr (List.ext_getElem (by rw [List.length_take]; omega) fun j h1 h2 => ?_)
  rw [List.getElem_take]
  exact all_ j h1
end Lp
namespace Lp
open PySem PySem.Spec PyProof.Rows L2
/-! ### names in any order -/
def pickL {α : Type} (is : List Nat) (l : List α) : List α := is.filterMap fun i => l[i]?
theorem rel_pick (is : List Nat) {zs : List V} {ws : List Value} (r : Vals zs ws) : Vals (pickL is zs) (pickL is ws) := by
  induction is with
  | nil => exact .nil
  | cons i is ih =>
    unfold pickL at ih ⊢
    rw [List.filterMap_cons, List.filterMap_cons]
    cases hz : zs[i]? with
    | none =>
      have hw : ws[i]? = none := by
        rw [List.getElem?_eq_none_iff] at hz ⊢
        rw [← r.length]
        exact hz
      rw [hw]
      exact ih
    | some x =>
      obtain ⟨u, hu, ru⟩ := r.get hz
      rw [hu]
      exact .cons ru ih
/-! ### a < b < c <= d -/
def tChain3 (r r' r'' : R2) (ta tb tc td : TE) : TE := fun σ H Q => ta σ H fun x H1 => tb σ H1 fun y H2 => r x y H2 fun z H3 => ∃ k, z = .bl k ∧
  (if k = true then tc σ H3 fun y' H4 => r' y y' H4 fun z' H5 => ∃ k', z' = .bl k' ∧ (if k' = true then td σ H5 fun y'' H6 => r'' y' y'' H6 Q else Q (.bl false) H5) else Q (.bl false) H3)
theorem pe_chain3 {X : Cx} {a b c d : Expr} {ta tb tc td : TE} {pos : Pos} {o1 o2 o3 : CmpOp} {r r' r'' : R2} (h1 : OpR X (compareOp o1) r) (h2 : OpR X (compareOp o2) r') (h3 : OpR X (compareOp o3) r'') (pa : PE X a ta) (pb : PE X b tb) (pc : PE X c tc) (pd : PE X d td)
    (hm : lastMarks [o1, o2, o3] [b, c, d] = false := by with_unfolding_all rfl) : PE X (.Compare a [o1, o2, o3] [b, c, d] pos) (tChain3 r r' r'' ta tb tc td) := ⟨fun pins s σ H Q I h => by
  refine Compare_chain (thn (pa.run pins s σ H _ I h) fun v s1 w1 => ?_) hm
  obtain ⟨x, H1, I1, r1, q1⟩ := w1
  refine chain_link (thn (pb.run pins s1 σ H1 _ I1 q1) fun u s2 w2 => ?_)
  obtain ⟨y, H2, I2, r2, q2⟩ := w2
  refine thn (h1 pins s2 σ H2 x y v u _ I2 r1 r2 q2) fun e s3 w3 => ?_
  obtain ⟨z, H3, I3, r3, k, ek, q3⟩ := w3
  subst ek
  cases r3
  refine wpAny_truthy_bool ?_
  cases k with
  | false => exact ite_ff ⟨.bl false, H3, I3, rfl, q3⟩
  | true =>
    refine ite_tt (chain_link (thn (pc.run pins s3 σ H3 _ I3 q3) fun u2 s4 w4 => ?_))
    obtain ⟨y2, H4, I4, r4, q4⟩ := w4
    refine thn (h2 pins s4 σ H4 y y2 u u2 _ I4 r2 r4 q4) fun e2 s5 w5 => ?_
    obtain ⟨z2, H5, I5, r5, k2, ek2, q5⟩ := w5
    subst ek2
    cases r5
    refine wpAny_truthy_bool ?_
    cases k2 with
    | false => exact ite_ff ⟨.bl false, H5, I5, rfl, q5⟩
    | true =>
      refine ite_tt (chain_last (thn (pd.run pins s5 σ H5 _ I5 q5) fun u3 s6 w6 => ?_))
      obtain ⟨y3, H6, I6, r6, q6⟩ := w6
      exact h3 pins s6 σ H6 y2 y3 u2 u3 Q I6 r4 r6 q6⟩
/-! ### powers and lowest terms -/
theorem pow_lt {x k m : Nat} (hx : x < 1024) (hk : k ≤ m) : x ^ k < 2 ^ (10 * m + 1) := by
  have h1 : x ^ k ≤ 1024 ^ k := Nat.pow_le_pow_left (by omega) k
  have h2 : (1024 : Nat) ^ k ≤ 1024 ^ m := Nat.pow_le_pow_right (by decide) hk
  have h3 : (1024 : Nat) ^ m = 2 ^ (10 * m) := by
    rw [show (1024 : Nat) = 2 ^ 10 by decide, ← Nat.pow_mul]
  have h4 : (2 : Nat) ^ (10 * m) < 2 ^ (10 * m + 1) := Nat.pow_lt_pow_right (by decide) (by omega)
  omega
theorem log_lt {n m : Nat} (h : n < 2 ^ m) (hm : 0 < m) : n.log2 < m := by
  by_cases h0 : n = 0
  · subst h0
    exact Nat.lt_of_le_of_lt (by decide) hm
  · exact (Nat.log2_lt h0).mpr h
theorem lowest {t w : Nat} (h : Nat.gcd t w = 1) (lt : t < w) (a b n : Nat) : Nat.gcd (t ^ a * (w - t) ^ b) (w ^ n) = 1 := by
  have c1 : Nat.Coprime t w := h
  have c2 : Nat.Coprime (w - t) w := by
    have d1 := Nat.gcd_dvd_left (w - t) w
    have d2 := Nat.gcd_dvd_right (w - t) w
    have d3 : Nat.gcd (w - t) w ∣ t := by
      have := Nat.dvd_sub d2 d1
      rw [show w - (w - t) = t by omega] at this
      exact this
    have d4 := Nat.dvd_gcd d3 d2
    rw [h] at d4
    exact Nat.eq_one_of_dvd_one d4
  exact (Nat.Coprime.pow a n c1).mul_left (Nat.Coprime.pow b n c2)
/-! ### tuples that stand in the heap: parts and sums stand there too -/
def rCatC : R2 := fun x y H Q => ∃ a b xs ys, x = .ref a ∧ y = .ref b ∧ H a = some (.tup xs) ∧ H b = some (.tup ys) ∧ xs.length + ys.length ≤ sizeLine ∧
  ∀ (p : Addr) (G : Hp), Same H G → G p = some (.tup (xs ++ ys)) → Q (.ref p) G
theorem op_catC {X : Cx} : OpR X (binaryOp .Add) rCatC := by
  intro pins s σ H x y v u Q I rx ry h
  obtain ⟨a, b, xs, ys, rfl, rfl, ha, hb, hz, q⟩ := h
  refine op_catA pins s σ H _ _ v u Q I rx ry ⟨a, b, xs, ys, rfl, rfl, .inl (.inl ha), .inl (.inl hb), hz, fun e => ?_, fun _ e => ?_, fun _ _ p np => ?_⟩
  · subst e
    exact q b H (Same.refl H) hb
  · subst e
    refine q a H (Same.refl H) ?_
    rw [List.append_nil]
    exact ha
  · exact q p _ (same_upd np) upd_same
def rSlC : V → Option Int → Option Int → Hp → VK → Prop := fun x lo hi H Q => ∃ a xs, x = .ref a ∧ H a = some (.tup xs) ∧ ∀ (p : Addr) (G : Hp), Same H G → G p = some (.tup (cutV xs lo hi)) → Q (.ref p) G
theorem sl_tupC {X : Cx} : SlR X rSlC := by
  intro pins s σ H x v vl vu lo hi sl Q I rx hs pl pu h
  obtain ⟨a, xs, rfl, ha, q⟩ := h
  refine sl_tupA pins s σ H _ v vl vu lo hi sl Q I rx hs pl pu ⟨a, xs, rfl, .inl (.inl ha), fun z => ?_, fun _ p np => ?_⟩
  · refine q a H (Same.refl H) ?_
    rw [cut_whole z]
    exact ha
  · exact q p _ (same_upd np) upd_same
end Lp
namespace Lp
open PySem PySem.Spec PyProof.Rows L2
open Builtin Builtin.Str Builtin.Int in
/-- sep.join of an iterator that goes backwards over a list of texts -/
theorem joinBack {prog : Program} {w : World} {A : Around} {E : Value → Shared → Prop} {s : Shared} {sep : Str} {t : Tok} {Q : Value → Shared → Prop} {it l : Addr} {vs : Array Value} (calm : A.handled = none)
    (h1 : s.heap.IsRevIter it l ((vs.size : Int) - 1)) (h2 : s.heap.IsList l vs) (ne : l ≠ it) (fits : vs.size ≤ sizeLine) (texts : ∀ v ∈ vs, ∃ y u, v = Value.str y u)
    (post : ∀ (g : Heap) (k : Nat) (ts : List (Str × Tok)), (∀ b o, b ≠ it → s.heap.get? b = some o → g.get? b = some o) → strValues ts = vs.toList.reverse →
      JoinOk sep (ts.map (·.1)) = true ∧ ∀ t2 k2, Q (.str (Txt.join sep (ts.map (·.1))) t2) { s with heap := g, toks := k2 }) :
    wpAny (model prog w) A (call (.builtin "str.join") [.str sep t, .ref it]) Q E s := by
  apply wpAny_call
  apply codeAny_call_builtin F.slot_str_join.plain F.entry_str_join
  apply F.slot_str_join.check _ _ _ _ _ _ _ _ (typeIs_str _ _ _) (F.args_str_join_2 _ _)
  rw [join_tree_other sep t it]
  apply wpAny_bind
  apply wpAny_typeOf h1.typeIs
  show wpAny _ A.in1 ((pyIter (.ref it)).tryCatch _ >>= fun z => collect z >>= fun us => joinTail sep us) _ _ s
  apply wpAny_bind
  apply wpAny_tryCatch
  apply wpAny_pyIter_revIter h1
  apply wpAny_bind
  apply RT.collect_rev (A := A.in1) calm h1 h2 ne fits
  intro g k acc keep got
  have back : acc.toList = vs.toList.reverse := by
    apply List.ext_getElem?
    intro j
    by_cases hj : j < vs.size
    · have ja : j < acc.size := by rw [got.1]; exact hj
      have e1 : acc[j]? = some acc[j] := Array.getElem?_eq_getElem ja
      have e2 := got.2 j _ e1
      rw [Array.getElem?_toList, e1, List.getElem?_reverse (by rw [Array.length_toList]; exact hj), Array.length_toList, Array.getElem?_toList, e2]
    · rw [List.getElem?_eq_none (by rw [Array.length_toList, got.1]; omega), List.getElem?_eq_none (by rw [List.length_reverse, Array.length_toList]; omega)]
  obtain ⟨ts, hts⟩ := exists_strValues acc.toList fun v hv => by
    rw [back] at hv
    exact texts v (by simpa using hv)
  rw [← hts]
  obtain ⟨ok, fin⟩ := post g k ts keep (hts.trans back)
  have ok2 := ok
  unfold JoinOk at ok2
  rw [Bool.not_eq_true'] at ok2
  have gv2 : Gives (joinTail sep (strValues ts)) (joinMade sep ts) := by
    clear fin ok post hts
    have gv := gives_joinTail sep ts ok2
    cases ts with
    | nil => exact gv
    | cons p r =>
      cases r with
      | nil => exact gv
      | cons p2 r2 => exact gv
  exact gv2 prog w A (wants Q E) { s with heap := g, toks := k } (post_join ts ⟨joinFit_length ok2, fin⟩)
/-- sep.join(reversed(xs)), xs a list of texts -/
def tJoinBack (K : PySem.W.Frag) (to te : TE) : TE := fun σ H Q => to σ H fun v H1 => ∃ sep : Str, v = .str sep ∧ te σ H1 fun u H2 => ∃ (a : Addr) (ws : List Str), u = .ref a ∧ SqL K H2 a (ws.map V.str) ∧ JoinOk sep ws.reverse = true ∧ Q (.str (Txt.join sep ws.reverse)) H2
section
variable {X : Cx} {o e : Expr} {to te : TE} {p pos apos cpos : Pos}
theorem pe_joinBack (calm : X.calm = true) (hg : Gl X "reversed") (hm : X.mg "reversed" = none) (ho : PE X o to) (he : PE X e te)
    (hbase : attributeBase o "join" X.env (eval o X.env) = eval o X.env := by rfl)
    (few : ((backTo cpos (starEach [.Call (.Name "reversed" p) [e] [] pos] X.env)).all (fun x => !x.1) && (backToKw cpos (keywordEach [] X.env)).all (fun x => x.1.isSome) && decide (([.Call (.Name "reversed" p) [e] [] pos] : List Expr).length + ([] : List Keyword).length + (if ([] : List Keyword).isEmpty then 0 else 1) < 30)) = true := by rfl)
    (line : (apos.endLine == cpos.line) = true := by rfl) (s1 : starEach [e] X.env = (false, eval e X.env) :: starEach [] X.env := by rfl)
    (s2 : starEach [.Call (.Name "reversed" p) [e] [] pos] X.env = (false, eval (.Call (.Name "reversed" p) [e] [] pos) X.env) :: starEach [] X.env := by rfl)
    (plain : (backTo cpos (starEach [] X.env)).any (·.1) = false := by rfl) :
    PE X (.Call (.Attribute o "join" apos) [.Call (.Name "reversed" p) [e] [] pos] [] cpos) (tJoinBack X.K to te) := ⟨fun pins s σ H Q I h => by
  refine wpAny_Call_method_late hbase few line rfl (thn (ho.run pins s σ H _ I h) fun v s1' y => ?_)
  obtain ⟨x, H1, J1, rx, sep, rfl, q1⟩ := y
  obtain ⟨tk, rfl⟩ : ∃ t, v = Value.str sep t := rx
  refine ⟨"str", _, PySem.F.plainAttrs_str, PySem.F.slot_str_join, PySem.F.type_str_join, typeIs_str _ _ _, fun _ z => (nomatch z), ?_⟩
  rw [s2]
  refine Calls.callWith_builtin (by show (false || (backTo cpos (starEach [] X.env)).any (·.1)) = false; rw [plain]; rfl) (Calls.evalArgs_plain ?_)
  show wpAny _ _ (spliced ((false, eval (.Call (.Name "reversed" p) [e] [] pos) X.env) :: backTo cpos (starEach [] X.env))) _ _ s1'
  refine Calls.spliced_cons (Call_ (ld_blt J1 hg hm PyProof.Rows.boot_reversed (PyProof.Rows.callWith_type1 (args_cons (thn (he.run pins s1' σ H1 _ J1 q1) fun u s2' y2 => args_nil ?_) s1) s1 rfl)))
  obtain ⟨z, H2, J2, rz, a, ws, rfl, hq, jok, fin⟩ := y2
  obtain rfl : u = Value.ref a := rz
  obtain ⟨its, rv, pl, hz⟩ := J2.list hq
  refine call_reversed_list pl.isList ?_
  have keep0 : ∀ b o2, s2'.heap.get? b = some o2 → (s2'.heap.push (revObj a ((its.toArray.size : Int) - 1))).get? b = some o2 := fun b o2 z => Heap.get?_push_of_some _ z
  have J3 : Inv X pins σ H2 { s2' with heap := s2'.heap.push (revObj a ((its.toArray.size : Int) - 1)) } := J2.kept (t' := s2'.toks) keep0
  obtain ⟨f0, f1, f2, f3, f4, f5⟩ := J2.fpOk (H' := H2) (b := s2'.heap.objs.size) (Nat.le_refl _) (J2.hok.fresh (Nat.le_refl _))
  have hl := pl.isList
  obtain ⟨ol, hol, _⟩ := id hl
  have ne : a ≠ s2'.heap.objs.size := Nat.ne_of_lt (Heap.lt_size hol)
  have fits : its.toArray.size ≤ sizeLine := by rw [List.size_toArray, ← rv.length]; exact hz
  have il := rv.length
  rw [List.length_map] at il
  refine Calls.spliced_nil (joinBack (s := { s2' with heap := s2'.heap.push (revObj a ((its.toArray.size : Int) - 1)) }) (J2.ok.hd calm) ⟨_, Heap.get?_push_size _ rfl, rfl, rfl⟩ (hl.push _) ne fits (fun v hv => ?_) fun g k ts keep hts => ?_)
  · obtain ⟨i, hi, rfl⟩ := Array.mem_iff_getElem.mp hv
    have hi2 : i < ws.length := by
      rw [List.size_toArray] at hi
      omega
    obtain ⟨w, hw, t2, ew⟩ := rv.get (i := i) (x := .str ws[i]) (by rw [List.getElem?_map, List.getElem?_eq_getElem hi2]; rfl)
    refine ⟨ws[i], t2, ?_⟩
    rw [← ew]
    have := (List.getElem?_eq_some_iff.mp hw).2
    rw [← this]
    simp
  · have et : ts.map (·.1) = ws.reverse := by
      have e1 : ts.length = ws.length := by
        have := congrArg List.length hts
        unfold strValues at this
        rw [List.length_map, List.length_reverse] at this
        rw [this, il]
      refine List.ext_getElem? fun j => ?_
      by_cases hj : j < ws.length
      · have hj2 : j < ts.length := by omega
        have hr : ws.length - 1 - j < ws.length := by omega
        rw [List.getElem?_map, List.getElem?_eq_getElem hj2, List.getElem?_reverse hj, List.getElem?_eq_getElem hr]
        have h4 : (strValues ts)[j]? = its.reverse[j]? := by rw [hts]
        unfold strValues at h4
        rw [List.getElem?_map, List.getElem?_eq_getElem hj2, List.getElem?_reverse (by omega), ← il] at h4
        obtain ⟨w, hw, t2, ew⟩ := rv.get (i := ws.length - 1 - j) (x := .str ws[ws.length - 1 - j]) (by rw [List.getElem?_map, List.getElem?_eq_getElem hr]; rfl)
        rw [hw, ew] at h4
        have h5 := Option.some.inj h4
        have h6 : ts[j].1 = ws[ws.length - 1 - j] := (Value.str.inj h5).1
        show some ts[j].1 = some _
        rw [h6]
      · rw [List.getElem?_eq_none (by rw [List.length_map]; omega), List.getElem?_eq_none (by rw [List.length_reverse]; omega)]
    rw [et]
    refine ⟨jok, fun t2 k2 => ?_⟩
    have J4 : Inv X pins σ H2 { s2' with heap := g, toks := k2 } := J3.turned (t' := k2) (fun b o2 hb z => keep b o2 hb z) f0 f1 f3 f4 f5
    exact ⟨.str _, H2, J4, ⟨_, rfl⟩, fin⟩⟩
end
end Lp
namespace Lp
open PySem PySem.Spec PyProof.Rows L2
/-! ### defs with parameters behind a star that have defaults -/
abbrev FnK (K : PySem.W.Frag) (x : Str) (st : Stmt) (kws : List (Str × V)) (f : Addr) (fd : FuncData) : Prop := FunD K x x (defArgs st) (defBody st) (defScope st) [] kws f fd
structure DfK (K : PySem.W.Frag) (mg : Str → Option Value) (x : Str) (st : Stmt) (kws : List (Str × V)) : Prop where
  ex : ∃ f fd, FnK K x st kws f fd ∧ mg x = some (.ref f)
structure ClK (P : Program) (w : World) (K : PySem.W.Frag) (mg : Str → Option Value) (base : Heap) (k : Nat) (x : Str) (st : Stmt) (ps : List Str) (kws : List (Str × V)) (sp : Sp) : Prop where
  ex : ∃ f fd, FnK K x st kws f fd ∧ FnOk P w K mg base CX0 k f fd ps sp ∧ mg x = some (.ref f) ∧ ∃ ds, Vals (kws.map (·.2)) ds ∧ Binds K fd ps ds
section
variable {P : Program} {w : World} {K : PySem.W.Frag} {mg : Str → Option Value} {base : Heap} {x : Str} {st : Stmt} {N ps : List Str} {k : Nat} {sp : Sp} {kws : List (Str × V)}
theorem DfK.ok (D : DfK K mg x st kws) (S : FnScope N ps (defScope st)) (n : Nat) (hk : kws ≠ []) (hn : n + kws.length = ps.length)
    (bd : ∀ (D : Addr) (doc pm : Value) (an : Option Addr) (cdv ct : Value) (us ks : List Value), us.length = n → ks.length = kws.length →
      KwChain D ((kws.map (·.1)).zip ks) (bindArgs (PySem.W.fnOf x x (defArgs st) (defBody st) (defScope st) .none (.ref D) doc pm an cdv ct) ⟨us, []⟩) (ps.zip (us ++ ks)))
    (len : ∀ vs H Q E, sp vs H Q E → vs.length = ps.length)
    (body : ∀ (f : Addr) (cdv : Value) (A : Around) (outer : List Env) (s : Shared) (H : Hp) (vs : List V) (Q : VK) (E : XK), Room k (A.deeper (envOfC x (defScope st) s.heap.objs.size f cdv)) → sp vs H Q E →
      ∃ t, PSs (cxOf CX0 P w K mg base N x (defScope st) f cdv A outer s H E).nox (defBody st) t ∧ t { nx := fun _ H' => Q .non H', rt := Q } (start N vs) H) : ClK P w K mg base (k + 1) x st ps kws sp := by
  obtain ⟨f, fd, F, hm⟩ := D.ex
  refine ⟨f, fd, F, F.ok S len fun cdv A outer s H vs Q E hr h => ?_, hm, F.binds0 n hk hn bd⟩
  obtain ⟨t, ht, hg⟩ := body f cdv A outer s H vs Q E hr h
  exact ⟨t, ht.nox, hg⟩
end
section
variable {X : Cx} {x : Str} {st : Stmt} {ps : List Str} {j k : Nat} {sp : Sp} {e : Expr} {es : List Expr} {t : TA} {p pos : Pos} {kws : List (Str × V)}
/-- f(e, ..), the others by their defaults -/
theorem pe_ud (c : ClK X.prog X.w X.K X.mg X.base k x st ps kws sp) (hr : Room j X.A) (hk : k ≤ j) (hg : Gl X x) (ha : PA X (e :: es) t)
    (hdb : (x == ("__debug__" : Str)) = false := by decide) (he : starEach (e :: es) X.env = (false, eval e X.env) :: starEach es X.env := by rfl) (hpl : (backTo pos (starEach es X.env)).any (·.1) = false := by rfl) :
    PE X (.Call (.Name x p) (e :: es) [] pos) (tCall sp (kws.map (·.2)) E0 t) := by
  obtain ⟨f, fd, F, G, hm, ds, rv, b⟩ := c.ex
  exact pe_call G (hr.mono hk) hg hm F.kp b rv pass0 ha hdb he hpl
end
/-! ### {key: value} with a tuple as its key -/
def tDisp1 (tk tv : TE) : TE := fun σ H Q => ∀ p, H p = none → tk σ (upd H p (.dT [])) fun kx H1 => tv σ H1 fun vx H2 => H2 p = some (.dT []) ∧ ∃ (b : Addr) (key : List L2.Key), kx = .ref b ∧ H2 b = some (.tup (key.map L2.kV)) ∧ Q (.ref p) (upd H2 p (.dT [(key, vx)]))
theorem pe_disp1 {X : Cx} {k v : Expr} {pos : Pos} {tk tv : TE} (hu : X.A.units + 1 < cLine) (hk : PE X k tk) (hv : PE X v tv) : PE X (.Dict [some k] [v] pos) (tDisp1 tk tv) := ⟨fun pins s σ H Q I q => by
  have new := I.hok.fresh (Nat.le_refl s.heap.objs.size)
  have J := I.laid (a := s.heap.objs.size) (o := .dT []) (h' := s.heap.push { cls := .type "dict", data := .dict #[] }) (t' := s.toks) (fun _ _ z => Heap.get?_push_of_some _ z) (Nat.le_refl _) (dt_empty s.heap I.big)
  refine wpAny_Dict_any rfl rfl (by simp) (show 1 ≤ 15 by decide) (pairTrees_cons_walk (thn (hk.run pins _ σ _ _ J (q _ new)) fun kv s1 y1 => ?_))
  obtain ⟨kx, H1, J1, rk, q1⟩ := y1
  refine thn (hv.run pins s1 σ H1 _ J1 q1) fun vv s2 y2 => ?_
  obtain ⟨vx, H2, J2, rv, e, b, key, rfl, hb, fin⟩ := y2
  obtain rfl : kv = Value.ref b := rk
  refine pairTrees_nil_walk ?_
  obtain ⟨z, hd, xs, rel, dd⟩ := dt_of J2.hok e
  have hx : xs = [] := List.length_eq_zero_iff.mp (by rw [← Paired.length rel]; rfl)
  subst hx
  unfold storeAll
  simp only [List.forIn_cons, List.forIn_nil]
  refine wpAny_bind (wpAny_bind (wpAny_dictSet_heap (hsz := by simp) (show X.A.units < cLine by omega) (key_of J2.hok hb) dd fun h' dd' hs => wpAny_pure (wpAny_pure ?_)))
  obtain ⟨q', es, ep, hq, h2, h3, h4, _, h5⟩ := dd'
  refine ⟨.ref s.heap.objs.size, upd H2 s.heap.objs.size (.dT [(key, vx)]), d_write J2 (by rw [e]; exact True.intro) hs ⟨q', hq⟩ ⟨show 1 ≤ sizeLine by decide, hd, _, (rel.put key hb rv).keeps fun c ys ec => ?_, q', es, ep, hq, h2, h3, h4, h5⟩, rfl, fin⟩
  rw [upd_ne (ne_of ec e (fun z => nomatch z))]
  exact ec⟩
end Lp
namespace Lp
open PySem PySem.Spec PyProof.Rows L2
/-! ### the rows that can be reached: mathematics -/
structure ReachI (ns : List Int) (i : Nat) (ls ms : List (List Int)) : Prop where
  sub : ∀ l ∈ ls, l ∈ ms
  frm : ∀ m ∈ ms, ∃ w : List Bool, w.length ≤ i ∧ afterL w ns = m
  all : ∀ w : List Bool, w.length ≤ i → afterL w ns ∈ ms
  cl : ∀ m ∈ ms, m ∈ ls ∨ ∀ b, passL b m ∈ ms
  nl : ls.length ≤ 2 ^ i
  nm : ms.length + 1 ≤ 2 ^ (i + 1)
structure ReachJ (ls ms fs : List (List Int)) (k : Nat) : Prop where
  src : ∀ f ∈ fs, ∃ l ∈ ls, ∃ b, f = passL b l
  done : ∀ (x : Nat) (b : Bool), 2 * x + b.toNat < k → ∀ l, ls[x]? = some l → passL b l ∈ ms ++ fs
  cnt : fs.length ≤ k
theorem after_snoc (w : List Bool) (b : Bool) (ns : List Int) : afterL (w ++ [b]) ns = passL b (afterL w ns) := by
  rw [afterL_app]
  rfl
theorem reachI_zero {ns : List Int} : ReachI ns 0 [ns] [ns] where
  sub := fun l h => h
  frm := fun m h => ⟨[], Nat.le_refl _, (List.mem_singleton.mp h).symm⟩
  all := fun w h => by
    rw [List.length_eq_zero_iff.mp (Nat.le_zero.mp h)]
    exact List.mem_singleton.mpr rfl
  cl := fun m h => .inl h
  nl := Nat.le_refl 1
  nm := Nat.le_refl 2
theorem reachJ_zero {ls ms : List (List Int)} : ReachJ ls ms [] 0 where
  src := fun f h => nomatch h
  done := fun x b h => absurd h (Nat.not_lt_zero _)
  cnt := Nat.le_refl _
theorem two_split {x j : Nat} {a b : Bool} (h : 2 * x + a.toNat < 2 * j + b.toNat + 1) : 2 * x + a.toNat < 2 * j + b.toNat ∨ (x = j ∧ a = b) := by
  cases a <;> cases b <;> simp at h ⊢ <;> omega
theorem ReachJ.old {ls ms fs : List (List Int)} {j : Nat} {b : Bool} (r : ReachJ ls ms fs (2 * j + b.toNat)) {l : List Int} (hl : ls[j]? = some l) (h : passL b l ∈ ms ++ fs) : ReachJ ls ms fs (2 * j + b.toNat + 1) where
  src := r.src
  done := fun x a hx l2 h2 => by
    rcases two_split hx with z | ⟨rfl, rfl⟩
    · exact r.done x a z l2 h2
    · rw [hl] at h2
      cases h2
      exact h
  cnt := Nat.le_succ_of_le r.cnt
theorem ReachJ.new {ls ms fs : List (List Int)} {j : Nat} {b : Bool} (r : ReachJ ls ms fs (2 * j + b.toNat)) {l : List Int} (hl : ls[j]? = some l) : ReachJ ls ms (fs ++ [passL b l]) (2 * j + b.toNat + 1) where
  src := fun f hf => by
    rcases List.mem_append.mp hf with z | z
    · exact r.src f z
    · rw [List.mem_singleton.mp z]
      exact ⟨l, List.mem_of_getElem? hl, b, rfl⟩
  done := fun x a hx l2 h2 => by
    rw [← List.append_assoc]
    rcases two_split hx with z | ⟨rfl, rfl⟩
    · exact List.mem_append_left _ (r.done x a z l2 h2)
    · rw [hl] at h2
      cases h2
      exact List.mem_append_right _ (List.mem_singleton.mpr rfl)
  cnt := by
    rw [List.length_append, List.length_singleton]
    exact Nat.succ_le_succ r.cnt
theorem ReachI.next {ns : List Int} {i : Nat} {ls ms fs : List (List Int)} (r : ReachI ns i ls ms) (t : ReachJ ls ms fs (2 * ls.length)) : ReachI ns (i + 1) fs (ms ++ fs) where
  sub := fun l h => List.mem_append_right _ h
  frm := fun m h => by
    rcases List.mem_append.mp h with z | z
    · obtain ⟨w, hw, e⟩ := r.frm m z
      exact ⟨w, by omega, e⟩
    · obtain ⟨l, hl, b, rfl⟩ := t.src m z
      obtain ⟨w, hw, e⟩ := r.frm l (r.sub l hl)
      exact ⟨w ++ [b], by rw [List.length_append, List.length_singleton]; omega, by rw [after_snoc, e]⟩
  all := fun w hw => by
    by_cases h : w.length ≤ i
    · exact List.mem_append_left _ (r.all w h)
    · obtain ⟨u, b, rfl⟩ := snoc_of (show 1 ≤ w.length by omega)
      rw [List.length_append, List.length_singleton] at hw
      rw [after_snoc]
      rcases r.cl _ (r.all u (by omega)) with z | z
      · obtain ⟨x, hx⟩ := List.mem_iff_getElem?.mp z
        have lt := (List.getElem?_eq_some_iff.mp hx).1
        exact t.done x b (by have := Bool.toNat_lt b; omega) _ hx
      · exact List.mem_append_left _ (z b)
  cl := fun m h => by
    rcases List.mem_append.mp h with z | z
    · rcases r.cl m z with y | y
      · obtain ⟨x, hx⟩ := List.mem_iff_getElem?.mp y
        have lt := (List.getElem?_eq_some_iff.mp hx).1
        exact .inr fun b => t.done x b (by have := Bool.toNat_lt b; omega) _ hx
      · exact .inr fun b => List.mem_append_left _ (y b)
    · exact .inl z
  nl := by
    have := t.cnt
    have := r.nl
    rw [Nat.pow_succ]
    omega
  nm := by
    have := t.cnt
    have := r.nl
    have := r.nm
    rw [List.length_append, Nat.pow_succ, Nat.pow_succ] at *
    omega
/-! ### its dict -/
abbrev kyI (l : List Int) : List L2.Key := l.map Sum.inl
theorem kyI_V (l : List Int) : (kyI l).map L2.kV = l.map V.int := by
  rw [List.map_map]
  rfl
theorem kyI_inj {a b : List Int} (h : kyI a = kyI b) : a = b := (List.map_inj_right fun x y z => Sum.inl.inj z).mp h
abbrev kvI (ms : List (List Int)) : List (List L2.Key × V) := ms.map fun m => (kyI m, V.bl true)
theorem kvI_has (ms : List (List Int)) (m : List Int) : (valV (kvI ms) (kyI m)).isSome = decide (m ∈ ms) := by
  rw [← valV_any, Bool.eq_iff_iff, List.any_eq_true, decide_eq_true_iff]
  constructor
  · rintro ⟨p, hp, e⟩
    obtain ⟨x, hx, rfl⟩ := List.mem_map.mp hp
    rw [← kyI_inj (of_decide_eq_true e)]
    exact hx
  · intro h
    exact ⟨(kyI m, V.bl true), List.mem_map.mpr ⟨m, h, rfl⟩, decide_eq_true rfl⟩
theorem kvI_keys {H : Hp} : ∀ {ms : List (List Int)} {bs : List Addr}, IsKeys H (kvI ms) bs → Each (fun b m => H b = some (.tup (m.map V.int))) bs ms
  | [], _, .nil => trivial
  | _ :: _, _, .cons h t => ⟨h.trans (by show some (HO.tup ((kyI _).map L2.kV)) = _; rw [kyI_V]), kvI_keys t⟩
theorem perm_map_of {α β : Type} {f : α → β} {ys zs : List β} (p : ys.Perm zs) : ∀ l : List α, zs = l.map f → ∃ us : List α, ys = us.map f ∧ us.Perm l := by
  induction p with
  | nil =>
    intro l e
    exact ⟨[], rfl, by rw [List.map_eq_nil_iff.mp e.symm]⟩
  | cons x _ ih =>
    intro l e
    match l, e with
    | a :: l, e =>
      obtain ⟨e1, e2⟩ := List.cons.inj e
      obtain ⟨us, h1, h2⟩ := ih l e2
      exact ⟨a :: us, by rw [List.map_cons, h1, e1], .cons a h2⟩
  | swap x y l0 =>
    intro l e
    match l, e with
    | a :: b :: l, e =>
      obtain ⟨e1, e2⟩ := List.cons.inj e
      obtain ⟨e3, e4⟩ := List.cons.inj e2
      exact ⟨b :: a :: l, by rw [List.map_cons, List.map_cons, e1, e3, e4], .swap ..⟩
  | trans _ _ ih1 ih2 =>
    intro l e
    obtain ⟨vs, h1, h2⟩ := ih2 l e
    obtain ⟨us, h3, h4⟩ := ih1 vs h1
    exact ⟨us, h3, h4.trans h2⟩
theorem each_perm {β : Type} {R : Addr → β → Prop} {rs bs : List Addr} (p : rs.Perm bs) : ∀ ms : List β, Each R bs ms → ∃ ks : List β, ks.Perm ms ∧ Each R rs ks := by
  induction p with
  | nil => exact fun ms h => ⟨ms, .refl _, h⟩
  | cons x _ ih =>
    intro ms h
    match ms, h with
    | m :: ms, ⟨h1, h2⟩ =>
      obtain ⟨ks, k1, k2⟩ := ih ms h2
      exact ⟨m :: ks, .cons m k1, h1, k2⟩
  | swap x y l =>
    intro ms h
    match ms, h with
    | m :: n :: ms, ⟨h1, h2, h3⟩ => exact ⟨n :: m :: ms, .swap .., h2, h1, h3⟩
  | trans _ _ ih1 ih2 =>
    intro ms h
    obtain ⟨ks, k1, k2⟩ := ih2 ms h
    obtain ⟨js, j1, j2⟩ := ih1 ks k2
    exact ⟨js, j1.trans k1, j2⟩
theorem each_mem {β : Type} {R : Addr → β → Prop} : ∀ {rs : List Addr} {ms : List β} {r : Addr}, Each R rs ms → r ∈ rs → ∃ m ∈ ms, R r m
  | _ :: _, _ :: _, _, ⟨h1, h2⟩, h => by
    rcases List.mem_cons.mp h with rfl | z
    · exact ⟨_, List.mem_cons_self .., h1⟩
    · obtain ⟨m, a, b⟩ := each_mem h2 z
      exact ⟨m, List.mem_cons_of_mem _ a, b⟩
end Lp
namespace Lp
open PySem PySem.Spec PyProof.Rows L2
/-! ### dicts whose keys are tuples, of numbers or of such tuples; each key's own tuple is named, so that more may be known of it -/
mutual
inductive KyV (H : Hp) : NestedKey → V → Prop
  | num (i : Int) : KyV H (.num i) (.int i)
  | tup {a : Addr} {xs : List V} {ks : List NestedKey} : Rd H a (.tup xs) → KyAll H ks xs → KyV H (.tup ks) (.ref a)
inductive KyAll (H : Hp) : List NestedKey → List V → Prop
  | nil : KyAll H [] []
  | cons {k : NestedKey} {v : V} {ks : List NestedKey} {vs : List V} : KyV H k v → KyAll H ks vs → KyAll H (k :: ks) (v :: vs)
end
section
variable {P : Program} {w : World} {H H' : Hp} {h : Heap}
mutual
theorem KyV.nested (ok : HOk P w H h) : ∀ (k : NestedKey) (v : V) (u : Value), KyV H k v → RelV v u → NestedIs h k u
  | .none, _, _, x, _ => by cases x
  | .text _, _, _, x, _ => by cases x
  | .num i, _, _, x, r => by
    cases x
    obtain ⟨t, rfl⟩ := r
    exact .int i t
  | .tup ks, _, u, x, r => by
    cases x with
    | @tup a xs _ hr ha =>
      obtain rfl : u = Value.ref a := r
      obtain ⟨_, its, rv, o, h1, h2, n, h3⟩ := (show ObjOk P w H h a (.tup xs) from hr.ok ok)
      exact .tup h1 h2 h3 (by simpa using KyAll.nested ok ks _ _ ha rv)
theorem KyAll.nested (ok : HOk P w H h) : ∀ (ks : List NestedKey) (vs : List V) (us : List Value), KyAll H ks vs → Vals vs us → NestedAll h ks us
  | [], _, _, x, r => by cases x; cases r; exact .nil
  | k :: ks, _, _, x, r => by
    cases x with
    | cons x1 x2 =>
      cases r with
      | cons r1 r2 => exact .cons (KyV.nested ok k _ _ x1 r1) (KyAll.nested ok ks _ _ x2 r2)
end
mutual
theorem KyV.mono (f : ∀ a xs, Rd H a (.tup xs) → Rd H' a (.tup xs)) : ∀ (k : NestedKey) (v : V), KyV H k v → KyV H' k v
  | .none, _, x => by cases x
  | .text _, _, x => by cases x
  | .num i, _, x => by cases x; exact .num i
  | .tup ks, _, x => by
    cases x with
    | tup hr ha => exact .tup (f _ _ hr) (KyAll.mono f ks _ ha)
theorem KyAll.mono (f : ∀ a xs, Rd H a (.tup xs) → Rd H' a (.tup xs)) : ∀ (ks : List NestedKey) (vs : List V), KyAll H ks vs → KyAll H' ks vs
  | [], _, x => by cases x; exact .nil
  | k :: ks, _, x => by
    cases x with
    | cons x1 x2 => exact .cons (KyV.mono f k _ x1) (KyAll.mono f ks _ x2)
end
end
abbrev NEnt := NestedKey × Addr × V
abbrev NRel : List NEnt → List (NestedKey × Addr × Value) → Prop := Paired fun p q => p.1 = q.1 ∧ p.2.1 = q.2.1 ∧ RelV p.2.2 q.2.2
def valN (L : List NEnt) (k : NestedKey) : Option V := (L.find? fun x => decide (x.1 = k)).map fun x => x.2.2
def newN (k : NestedKey) (v : V) (x : NEnt) : NEnt := if x.1 = k then (x.1, x.2.1, v) else x
def putN (L : List NEnt) (k : NestedKey) (q : Addr) (v : V) : List NEnt := if (valN L k).isSome then L.map (newN k v) else L ++ [(k, q, v)]
theorem valN_pos {x : NEnt} {L : List NEnt} {k : NestedKey} (e : x.1 = k) : valN (x :: L) k = some x.2.2 := by
  unfold valN
  rw [List.find?_cons_of_pos (by exact decide_eq_true e)]
  rfl
theorem valN_neg {x : NEnt} {L : List NEnt} {k : NestedKey} (e : ¬ x.1 = k) : valN (x :: L) k = valN L k := by
  unfold valN
  rw [List.find?_cons_of_neg (by rw [decide_eq_false e]; exact Bool.false_ne_true)]
theorem putN_len (L : List NEnt) (k : NestedKey) (q : Addr) (v : V) : (putN L k q v).length ≤ L.length + 1 := by
  unfold putN
  split
  · rw [List.length_map]
    exact Nat.le_succ _
  · rw [List.length_append]
    exact Nat.le_refl _
theorem NRel.val {L : List NEnt} {xs : List (NestedKey × Addr × Value)} (r : NRel L xs) (k : NestedKey) : RelO (valN L k) ((atKey xs k).map (·.2)) := by
  induction r with
  | nil => exact True.intro
  | @cons p q ps qs hpq t ih =>
    obtain ⟨e1, _, e3⟩ := hpq
    by_cases e : p.1 = k
    · have f : atKey (q :: qs) k = some q.2 := by
        unfold atKey
        rw [List.find?_cons_of_pos (by exact decide_eq_true (e1.symm.trans e))]
        rfl
      rw [valN_pos e, f]
      exact e3
    · have f : atKey (q :: qs) k = atKey qs k := by
        unfold atKey
        rw [List.find?_cons_of_neg (by rw [decide_eq_false fun z => e (e1.trans z)]; exact Bool.false_ne_true)]
      rw [valN_neg e, f]
      exact ih
theorem NRel.renew {L : List NEnt} {xs : List (NestedKey × Addr × Value)} (r : NRel L xs) (k : NestedKey) {y : V} {u : Value} (ry : RelV y u) : NRel (L.map (newN k y)) (xs.map (putAt k u)) := by
  induction r with
  | nil => exact .nil
  | @cons p q ps qs hpq t ih =>
    obtain ⟨e1, e2, e3⟩ := hpq
    refine .cons ?_ ih
    by_cases e : p.1 = k
    · rw [newN, putAt, if_pos e, if_pos (e1.symm.trans e)]
      exact ⟨e1, e2, ry⟩
    · rw [newN, putAt, if_neg e, if_neg fun z => e (e1.trans z)]
      exact ⟨e1, e2, e3⟩
theorem NRel.put {L : List NEnt} {xs : List (NestedKey × Addr × Value)} (r : NRel L xs) (k : NestedKey) (b : Addr) {y : V} {u : Value} (ry : RelV y u) : NRel (putN L k b y) (storedH xs k b u) := by
  have e : (valN L k).isSome = (atKey xs k).isSome := by
    rw [(r.val k).isSome_eq, Option.isSome_map]
  unfold putN storedH
  rw [e]
  by_cases q : (atKey xs k).isSome = true
  · rw [if_pos q, if_pos q]
    exact r.renew k ry
  · rw [if_neg q, if_neg q]
    exact Paired.snoc r ⟨rfl, rfl, ry⟩
theorem NRel.back {L : List NEnt} {xs : List (NestedKey × Addr × Value)} (r : NRel L xs) {x : NestedKey × Addr × Value} (hx : x ∈ xs) : ∃ p ∈ L, p.1 = x.1 ∧ p.2.1 = x.2.1 := by
  induction r with
  | nil => cases hx
  | @cons p q ps qs hpq t ih =>
    rcases List.mem_cons.mp hx with e | hx
    · rw [e]
      exact ⟨p, List.mem_cons_self, hpq.1, hpq.2.1⟩
    · obtain ⟨p', h1, h2⟩ := ih hx
      exact ⟨p', List.mem_cons_of_mem _ h1, h2⟩
theorem NRel.ahead {L : List NEnt} {xs : List (NestedKey × Addr × Value)} (r : NRel L xs) {i : Nat} {p : NEnt} (hp : L[i]? = some p) : ∃ x, xs[i]? = some x ∧ p.1 = x.1 ∧ p.2.1 = x.2.1 ∧ RelV p.2.2 x.2.2 := by
  obtain ⟨x, h1, h2⟩ := paired_get r hp
  exact ⟨x, h1, h2⟩
def NObj (P : Program) (w : World) (L : List NEnt) (o : Obj) : Prop := o.ExactDict ∧ ∃ xs es ep, o.data = .dict es ep ∧ NRel L xs ∧ es.toList = xs.map (entryOfKey (nestedKind P w)) ∧ (xs.map (·.1)).Nodup
/-- such a dict -/
def nD (P : Program) (w : World) (d : Addr) (L : List NEnt) : HO := .ext fun h => (d == sysModules) = false ∧ L.length ≤ sizeLine ∧ ∃ o, h.get? d = some o ∧ NObj P w L o
def NKeys (H : Hp) (L : List NEnt) : Prop := ∀ x ∈ L, KyV H x.1 (.ref x.2.1) ∧ x.1.depth ≤ 8
theorem NKeys.mono {H H' : Hp} {L : List NEnt} (n : NKeys H L) (f : ∀ a xs, Rd H a (.tup xs) → Rd H' a (.tup xs)) : NKeys H' L := fun x hx => ⟨KyV.mono f _ _ (n x hx).1, (n x hx).2⟩
theorem NKeys.put {H : Hp} {L : List NEnt} {k : NestedKey} {q : Addr} {v : V} (n : NKeys H L) (hk : KyV H k (.ref q)) (hd : k.depth ≤ 8) : NKeys H (putN L k q v) := fun x hx => by
  unfold putN at hx
  split at hx
  · obtain ⟨y, hy, rfl⟩ := List.mem_map.mp hx
    have e : (newN k v y).1 = y.1 ∧ (newN k v y).2.1 = y.2.1 := by
      unfold newN
      split <;> exact ⟨rfl, rfl⟩
    rw [e.1, e.2]
    exact n y hy
  · rcases List.mem_append.mp hx with h | h
    · exact n x h
    · rw [List.mem_singleton.mp h]
      exact ⟨hk, hd⟩
section
variable {P : Program} {w : World} {H : Hp} {h : Heap} {d : Addr} {L : List NEnt}
theorem nD_ok {o : Obj} (hs : (d == sysModules) = false) (hl : L.length ≤ sizeLine) (ho : h.get? d = some o) (hn : NObj P w L o) : ObjOk P w H h d (nD P w d L) :=
  ⟨⟨hs, hl, o, ho, hn⟩, ⟨o, ho⟩, fun _ _ ⟨a, b, o, e, n⟩ k => ⟨a, b, o, k o e, n⟩⟩
theorem nD_raw (ok : HOk P w H h) (e : Rd H d (nD P w d L)) : (d == sysModules) = false ∧ L.length ≤ sizeLine ∧ ∃ o, h.get? d = some o ∧ NObj P w L o := by
  obtain ⟨q, _⟩ := (show ObjOk P w H h d (nD P w d L) from e.ok ok)
  exact q
theorem nD_of (ok : HOk P w H h) (e : Rd H d (nD P w d L)) (hk : NKeys H L) : (d == sysModules) = false ∧ L.length ≤ sizeLine ∧ ∃ xs, NRel L xs ∧ h.DictOfH (nestedKind P w) d xs := by
  obtain ⟨hs, hl, o, ho, hx, xs, es, ep, hd, hr, he, hn⟩ := nD_raw ok e
  refine ⟨hs, hl, xs, hr, o, es, ep, ho, hx, hd, he, fun x hx => ?_, hn⟩
  obtain ⟨p, hp, e1, e2⟩ := hr.back hx
  obtain ⟨k1, k2⟩ := hk p hp
  rw [← e1, ← e2]
  exact ⟨KyV.nested ok _ _ _ k1 rfl, k2⟩
theorem nD_type (ok : HOk P w H h) (e : Rd H d (nD P w d L)) : (∃ o, h.get? d = some o ∧ o.cls = .type "dict") ∧ (∀ b, Value.ref d = .ref b → ∃ ob, h.get? b = some ob ∧ ob.dict = none) := by
  obtain ⟨_, _, o, ho, hx, _⟩ := nD_raw ok e
  exact ⟨⟨o, ho, hx.1⟩, fun b q => by cases q; exact ⟨o, ho, hx.2.1⟩⟩
theorem nky_of (ok : HOk P w H h) {k : NestedKey} {q : Addr} (hk : KyV H k (.ref q)) (hd : k.depth ≤ 8) : (nestedKind P w).is h k q := ⟨KyV.nested ok _ _ _ hk rfl, hd⟩
end
/-! ### their rules -/
def tNNew (P : Program) (w : World) : TE := fun _ H Q => ∀ p, H p = none → Q (.ref p) (upd H p (nD P w p []))
def tNDisp1 (P : Program) (w : World) (tk tv : TE) : TE := fun σ H Q => ∀ p, H p = none → tk σ (upd H p (nD P w p [])) fun kx H1 => tv σ H1 fun vx H2 => H2 p = some (nD P w p []) ∧ ∃ (b : Addr) (key : NestedKey), kx = .ref b ∧ KyV H2 key (.ref b) ∧ key.depth ≤ 8 ∧ Q (.ref p) (upd H2 p (nD P w p [(key, b, vx)]))
def tNGet (P : Program) (w : World) (td ty : TE) : TE := fun σ H Q => td σ H fun x H1 => ty σ H1 fun y H2 => ∃ (a q : Addr) (L : List NEnt) (k : NestedKey) (v : V), x = .ref a ∧ y = .ref q ∧ Rd H2 a (nD P w a L) ∧ NKeys H2 L ∧ KyV H2 k (.ref q) ∧ k.depth ≤ 8 ∧ valN L k = some v ∧ Q v H2
def tNGet2 (P : Program) (w : World) (td ty tx : TE) : TE := fun σ H Q => td σ H fun x H1 => ∃ (a : Addr) (L0 : List NEnt), x = .ref a ∧ Rd H1 a (nD P w a L0) ∧ ty σ H1 fun y H2 => tx σ H2 fun z H3 => ∃ (q : Addr) (L : List NEnt) (k : NestedKey), y = .ref q ∧ Rd H3 a (nD P w a L) ∧ NKeys H3 L ∧ KyV H3 k (.ref q) ∧ k.depth ≤ 8 ∧ Q ((valN L k).getD z) H3
def sNPut (P : Program) (w : World) (td ty tv : TE) : TS := fun D σ H => tv σ H fun v H1 => td σ H1 fun x H2 => ty σ H2 fun y H3 => ∃ (a q : Addr) (L : List NEnt) (k : NestedKey), x = .ref a ∧ y = .ref q ∧ H3 a = some (nD P w a L) ∧ NKeys H3 L ∧ KyV H3 k (.ref q) ∧ k.depth ≤ 8 ∧ L.length < sizeLine ∧ D.nx σ (upd H3 a (nD P w a (putN L k q v)))
section
variable {X : Cx} {o i e f value : Expr} {pos pos' : Pos} {td ty tv tx : TE}
theorem room_9 {k : Nat} {A : Around} (r : Room k A) : A.units + 9 < cLine := by
  have := r.un
  omega
theorem room9 {A : Around} {P : Program} {w : World} (hu : A.units + 9 < cLine) : (nestedKind P w).room A.in1 := hu
theorem nD_write {pins : List (Addr × Obj)} {σ : L2.St} {H : Hp} {s : Shared} {h' : Heap} {a : Addr} {L L' : List NEnt} {xs' : List (NestedKey × Addr × Value)} (t' : Nat) (I : Inv X pins σ H s) (e : H a = some (nD X.prog X.w a L)) (hl : L'.length ≤ sizeLine) (r : NRel L' xs') (dd : h'.DictOfH (nestedKind X.prog X.w) a xs') (hs : Heap.SameBut a s.heap h') :
    Inv X pins σ (upd H a (nD X.prog X.w a L')) { s with heap := h', toks := t' } := by
  obtain ⟨ne, _⟩ := nD_raw I.hok (.inl e)
  obtain ⟨q, es, ep, hq, h2, h3, h4, _, h5⟩ := dd
  exact d_write I (by rw [e]; exact True.intro) hs ⟨q, hq⟩ (nD_ok ne hl hq ⟨h2, xs', es, ep, h3, r, h4, h5⟩)
theorem pe_ndnew : PE X (.Dict [] [] pos) (tNNew X.prog X.w) := ⟨fun pins s σ H Q I h =>
  wpAny_Dict_empty ⟨.ref s.heap.objs.size, _, I.laid (a := s.heap.objs.size) (o := nD X.prog X.w s.heap.objs.size []) (t' := s.toks) (fun _ _ q => Heap.get?_push_of_some _ q) (Nat.le_refl _)
    (nD_ok (beq_eq_false_iff_ne.mpr (Ne.symm (Nat.ne_of_lt I.big))) (Nat.zero_le _) (Heap.get?_push_size _ rfl) ⟨⟨rfl, rfl, rfl⟩, [], #[], 0, rfl, .nil, rfl, List.nodup_nil⟩), rfl, h _ (I.hok.fresh (Nat.le_refl _))⟩⟩
theorem pe_ndisp1 {k v : Expr} {tk tv : TE} (hu : X.A.units + 9 < cLine) (hk : PE X k tk) (hv : PE X v tv) : PE X (.Dict [some k] [v] pos) (tNDisp1 X.prog X.w tk tv) := ⟨fun pins s σ H Q I q => by
  have new := I.hok.fresh (Nat.le_refl s.heap.objs.size)
  have J := I.laid (a := s.heap.objs.size) (o := nD X.prog X.w s.heap.objs.size []) (h' := s.heap.push { cls := .type "dict", data := .dict #[] }) (t' := s.toks) (fun _ _ z => Heap.get?_push_of_some _ z) (Nat.le_refl _)
    (nD_ok (beq_eq_false_iff_ne.mpr (Ne.symm (Nat.ne_of_lt I.big))) (Nat.zero_le _) (Heap.get?_push_size _ rfl) ⟨⟨rfl, rfl, rfl⟩, [], #[], 0, rfl, .nil, rfl, List.nodup_nil⟩)
  refine wpAny_Dict_any rfl rfl (by simp) (show 1 ≤ 15 by decide) (pairTrees_cons_walk (thn (hk.run pins _ σ _ _ J (q _ new)) fun kv s1 y1 => ?_))
  obtain ⟨kx, H1, J1, rk, q1⟩ := y1
  refine thn (hv.run pins s1 σ H1 _ J1 q1) fun vv s2 y2 => ?_
  obtain ⟨vx, H2, J2, rv, e, b, key, rfl, hb, hd, fin⟩ := y2
  obtain rfl : kv = Value.ref b := rk
  refine pairTrees_nil_walk ?_
  obtain ⟨_, _, xs, rel, dd⟩ := nD_of J2.hok (.inl e) (fun x hx => nomatch hx)
  cases rel
  unfold storeAll
  simp only [List.forIn_cons, List.forIn_nil]
  refine wpAny_bind (wpAny_bind (wpAny_dictSet_heap (hsz := by simp) (show X.A.units + 8 < cLine by omega) (nky_of J2.hok hb hd) dd fun h' dd' hs => wpAny_pure (wpAny_pure ?_)))
  exact ⟨.ref s.heap.objs.size, _, nD_write _ J2 e (by show 1 ≤ sizeLine; decide) (NRel.put (L := []) .nil key b rv) dd' hs, rfl, fin⟩⟩
theorem pe_nget (hu : X.A.units + 9 < cLine) (ho : PE X o td) (hi : PE X i ty) (hs : NoSl i) : PE X (.Subscript o i pos) (tNGet X.prog X.w td ty) := by
  refine ⟨fun pins s σ H Q I h => ?_⟩
  refine subD_of PySem.F.slot_dict_getitem.lookup hs (thn (ho.run pins s σ H _ I h) fun u s1 y1 => ?_)
  obtain ⟨x, H1, I1, rx, q1⟩ := y1
  refine thn (hi.run pins s1 σ H1 _ I1 q1) fun iv s2 y2 => ?_
  obtain ⟨y, H2, I2, ry, a, q, L, k, v, rfl, rfl, hd, hk, hq, dk, hv, fin⟩ := y2
  obtain rfl : u = Value.ref a := rx
  obtain rfl : iv = Value.ref q := ry
  refine ⟨(nD_type I2.hok hd).1, ?_⟩
  obtain ⟨_, _, xs, rel, dd⟩ := nD_of I2.hok hd hk
  obtain ⟨w', hw, rw'⟩ := RelO.some_of (v := v) (o := (atKey xs k).map (·.2)) (by rw [← hv]; exact rel.val k)
  obtain ⟨p, hp, hp2⟩ := Option.map_eq_some_iff.mp hw
  refine wpAny_getItem_heap (room9 hu) (nky_of I2.hok hq dk) dd hp ?_
  rw [hp2]
  exact ⟨v, H2, I2.tok _, rw', fin⟩
theorem ps_nput (hu : X.A.units + 9 < cLine) (ho : PE X o td) (hi : PE X i ty) (hv : PE X value tv) (hs : swapsWith value (some (.Subscript o i pos')) pos.line X.env = pure false) :
    PS X (.Assign [.Subscript o i pos'] value pos) (sNPut X.prog X.w td ty tv) := by
  refine ⟨fun pins s σ H D I h => ?_⟩
  refine wpAny_Assign_Subscript (thn (hv.run pins s σ H _ I h) fun r s1 y1 => ?_) hs
  obtain ⟨v, H1, I1, rv, q1⟩ := y1
  refine thn (ho.run pins s1 σ H1 _ I1 q1) fun u s2 y2 => ?_
  obtain ⟨x, H2, I2, rx, q2⟩ := y2
  refine thn (hi.run pins s2 σ H2 _ I2 q2) fun iv s3 y3 => ?_
  obtain ⟨y, H3, I3, ry, a, q, L, k, rfl, rfl, hd, hk, hq, dk, hl, fin⟩ := y3
  obtain rfl : u = Value.ref a := rx
  obtain rfl : iv = Value.ref q := ry
  obtain ⟨_, z, xs, rel, dd⟩ := nD_of I3.hok (.inl hd) hk
  have hz : xs.length ≤ sizeLine := by
    rw [← Paired.length rel]
    exact z
  refine wpAny_setItem_heap (hsz := hz) (room9 hu) (nky_of I3.hok hq dk) dd fun h' dd' sb => ?_
  exact ⟨σ, _, nD_write _ I3 hd (by have := putN_len L k q v; omega) (rel.put k q rv) dd' sb, fin⟩
theorem pe_nget2 {apos cpos : Pos} (hu : X.A.units + 9 < cLine) (ho : PE X o td) (he : PE X e ty) (hf : PE X f tx) (m : M2 X o "get" apos e f cpos) : PE X (.Call (.Attribute o "get" apos) [e, f] [] cpos) (tNGet2 X.prog X.w td ty tx) := by
  refine ⟨fun pins s σ H Q I h => ?_⟩
  refine wpAny_Call_method m.base m.few m.line PySem.F.plainAttrs_dict PySem.F.slot_dict_get PySem.F.type_dict_get (thn (ho.run pins s σ H _ I h) fun u s1 y1 => ?_)
  obtain ⟨x, H1, I1, rx, a, L0, rfl, hd0, q1⟩ := y1
  obtain rfl : u = Value.ref a := rx
  obtain ⟨t1, t2⟩ := nD_type I1.hok hd0
  refine ⟨t1, t2, ?_⟩
  rw [m.trees]
  refine Calls.callWith_builtin rfl (Calls.evalArgs_plain (Calls.spliced_cons (thn (he.run pins s1 σ H1 _ I1 q1) fun iv s2 y2 => ?_)))
  obtain ⟨y, H2, I2, ry, q2⟩ := y2
  refine Calls.spliced_cons (thn (hf.run pins s2 σ H2 _ I2 q2) fun fv s3 y3 => Calls.spliced_nil ?_)
  obtain ⟨z, H3, I3, rz, q, L, k, rfl, hd, hk, hq, dk, fin⟩ := y3
  obtain rfl : iv = Value.ref q := ry
  obtain ⟨ne, _, xs, rel, dd⟩ := nD_of I3.hok hd hk
  refine call_meetsIn PySem.F.slot_dict_get dd.typeIs PySem.F.entry_dict_get (PySem.F.args_dict_get_3 _ _ _) (meetsH_dict_get_default (nestedKind X.prog X.w) a q ne fv) ⟨room9 hu, k, xs, nky_of I3.hok hq dk, dd, ?_⟩
  exact ⟨_, H3, I3.tok _, (rel.val k).getD rz, fin⟩
end
/-! ### walked by keys, locked -/
def Itn (P : Program) (w : World) (d : Addr) (o : Obj) (L : List NEnt) : It :=
  ⟨fun i H => H d = some (.frz o (nD P w d L)) ∧ i < L.length, fun i H x H' => H' = H ∧ ∃ (k : NestedKey) (q : Addr) (v : V), L[i]? = some (k, q, v) ∧ x = .ref q, fun i H => H d = some (.frz o (nD P w d L)) ∧ L.length ≤ i⟩
theorem walk_nkeys {P : Program} {w : World} {d : Addr} {o : Obj} {L : List NEnt} : Walk (Itn P w d o L) L.length (fun H => H d = some (.frz o (nD P w d L))) (fun i H x H' => H' = H ∧ ∃ (k : NestedKey) (q : Addr) (v : V), L[i]? = some (k, q, v) ∧ x = .ref q) :=
  ⟨fun _ _ hi q => ⟨q, hi⟩, fun _ q => ⟨q, Nat.le_refl _⟩, fun _ _ _ _ _ _ y => y⟩
theorem nD_frz {X : Cx} {pins : List (Addr × Obj)} {σ : L2.St} {H : Hp} {s : Shared} {d : Addr} {o : Obj} {L : List NEnt} (I : Inv X pins σ H s) (h : H d = some (.frz o (nD X.prog X.w d L))) :
    (d == sysModules) = false ∧ s.heap.get? d = some o ∧ o.ExactDict ∧ ∃ (es : Array DictEntry) (ep : Nat), o.data = .dict es ep ∧ es.size = L.length ∧ ∀ (i : Nat) (k : NestedKey) (q : Addr) (v : V), L[i]? = some (k, q, v) → ∃ en : DictEntry, es[i]? = some en ∧ en.key = .ref q := by
  obtain ⟨e1, e2⟩ := (show ObjOk X.prog X.w H s.heap d (.frz o (nD X.prog X.w d L)) from I.hok d _ h)
  obtain ⟨⟨hs, _, o', ho, hx, xs, es, ep, hd, hr, he, _⟩, _⟩ := (show ObjOk X.prog X.w H s.heap d (nD X.prog X.w d L) from e2)
  rw [e1] at ho
  cases ho
  refine ⟨hs, e1, hx, es, ep, hd, ?_, fun i k q v hi => ?_⟩
  · have l1 : es.toList.length = xs.length := by rw [he, List.length_map]
    rw [Paired.length hr, ← l1, Array.length_toList]
  · obtain ⟨x, h1, _, h3, _⟩ := hr.ahead hi
    refine ⟨entryOfKey (nestedKind X.prog X.w) x, ?_, congrArg Value.ref h3.symm⟩
    rw [← Array.getElem?_toList, he, List.getElem?_map, h1]
    rfl
theorem turn_nkeys {P : Program} {w : World} {K : PySem.W.Frag} {tg : Expr} {d : Addr} {o : Obj} {es : Array DictEntry} {ep : Nat} {L : List NEnt} (it : Addr) (hod : o.data = .dict es ep) : Turn P w K tg (Itn P w d o L) [it] it (fun i h => h.IsKeyIter it d i L.length ep) := by
  have self_ : it ∈ [it] := List.mem_singleton.mpr rfl
  refine { mem := self_, obj := fun n h here b hb => ?_, keep := fun n h h' here k => here.at fun u e => k it self_ u e, item := ?_, done := ?_, self := fun A n t Q E here q => wpAny_pyIter_keyiter here q }
  · obtain ⟨u, at_, _, fl⟩ := here
    refine ⟨u, by rw [List.mem_singleton.mp hb]; exact at_, fun v z => ?_⟩
    rw [fl] at z
    cases z
  · rintro Y rfl rfl rfl - n pp t σ G E J own here ⟨lk, lt⟩
    obtain ⟨e0, e1, e2, e3, e4, e5⟩ := own it self_
    obtain ⟨_, raw, ex, es2, ep2, fl, len, ent⟩ := nD_frz J lk
    cases fl.symm.trans hod
    obtain ⟨en, hen, key⟩ := ent n _ _ _ (List.getElem?_eq_getElem lt)
    refine next_key_item here raw fl len hen fun g here2 rest => ?_
    have J2 : Inv Y pp σ G { t with heap := g } := J.turned (t' := t.toks) (fun b u ne e => (rest.2 b ne).trans e) e0 e1 e3 e4 e5
    obtain ⟨u, at_, cl, fl2⟩ := id here2
    exact ⟨en.key, rfl, go_of (s := { t with heap := g }) at_ cl fl2 (by decide) ⟨.ref L[n].2.1, G, J2, key, ⟨rfl, _, _, _, List.getElem?_eq_getElem lt, rfl⟩, here2, fun b hb => (own b hb).1⟩⟩
  · rintro Y rfl rfl rfl still n pp t σ G E J own here ⟨lk, ge⟩
    obtain ⟨e0, e1, e2, e3, e4, e5⟩ := own it self_
    obtain ⟨_, raw, ex, es2, ep2, fl, len, _⟩ := nD_frz J lk
    cases fl.symm.trans hod
    exact next_key_end (J.ok.hd still) here raw fl len ge fun g rest => ⟨rfl, J.turned (t' := t.toks) (fun b u ne e => rest b u ne e) e0 e1 e3 e4 e5⟩
def iNKeys (P : Program) (w : World) (td : TE) : TI := fun σ H R => td σ H fun x H1 => ∃ (d : Addr) (o : Obj) (L : List NEnt), x = .ref d ∧ H1 d = some (.frz o (nD P w d L)) ∧ R (Itn P w d o L) H1
theorem pi_nkeys {X : Cx} {tg e : Expr} {td : TE} (he : PE X e td) : PI X tg e (iNKeys X.prog X.w td) := by
  refine ⟨fun pins s σ H R I h => ?_⟩
  refine thn (he.run pins s σ H _ I h) fun u s1 y1 => ?_
  obtain ⟨x, H1, I1, rx, d, o, L, rfl, hd, q⟩ := y1
  obtain rfl : u = Value.ref d := rx
  obtain ⟨hs, hgd, hx, es, ep, hdt, hsz, ent⟩ := nD_frz I1 hd
  refine iter_keys hs hgd hx hdt (pi_one (tk := s1.toks) I1 _ (turn_nkeys _ hdt) ⟨_, Heap.get?_push_size _ rfl, rfl, ?_⟩ q)
  rw [hsz] <;> rfl
end Lp
namespace Lp
open PySem PySem.Spec PyProof.Rows L2
section
variable {P : Program} {w : World} {K : PySem.W.Frag} {mg : Str → Option Value} {base : Heap}
/-! ### all words -/
def allW : Nat → List (List Bool)
  | 0 => [[]]
  | m + 1 => (allW m).map (· ++ [false]) ++ (allW m).map (· ++ [true])
theorem allW_len : ∀ m : Nat, (allW m).length = 2 ^ m
  | 0 => rfl
  | m + 1 => by
    show ((allW m).map _ ++ (allW m).map _).length = _
    rw [List.length_append, List.length_map, List.length_map, allW_len m, Nat.pow_succ]
    omega
theorem allW_mem : ∀ (m : Nat) (u : List Bool), u ∈ allW m → u.length = m
  | 0, u, h => by rw [List.mem_singleton.mp h]; rfl
  | m + 1, u, h => by
    rcases List.mem_append.mp h with z | z
    · obtain ⟨v, hv, rfl⟩ := List.mem_map.mp z
      rw [List.length_append, List.length_singleton, allW_mem m v hv]
    · obtain ⟨v, hv, rfl⟩ := List.mem_map.mp z
      rw [List.length_append, List.length_singleton, allW_mem m v hv]
def wt (t w : Nat) (u : List Bool) : Nat := t ^ u.count true * (w - t) ^ u.count false
theorem wt_snoc (t w : Nat) (u : List Bool) (b : Bool) : wt t w (u ++ [b]) = wt t w u * (if b then t else w - t) := by
  unfold wt
  rw [List.count_append, List.count_append]
  cases b with
  | true =>
    rw [show [true].count true = 1 from rfl, show [true].count false = 0 from rfl, Nat.pow_succ, Nat.add_zero, if_pos rfl, Nat.mul_right_comm]
  | false =>
    rw [show [false].count true = 0 from rfl, show [false].count false = 1 from rfl, Nat.pow_succ, Nat.add_zero, if_neg (by decide), Nat.mul_assoc]
/-- the weights of the words of m letters that end with e (read from the back) -/
def sumE (t w : Nat) (m : Nat) (f : List Bool → Bool) : Nat := ((allW m).map fun u => if f u = true then wt t w u else 0).sum
theorem sum_mul (c : Nat) : ∀ l : List Nat, (l.map (· * c)).sum = l.sum * c
  | [] => by simp
  | a :: l => by rw [List.map_cons, List.sum_cons, List.sum_cons, sum_mul c l, Nat.add_mul]
theorem sumE_succ (t w m : Nat) (f : List Bool → Bool) : sumE t w (m + 1) f = sumE t w m (fun u => f (u ++ [false])) * (w - t) + sumE t w m (fun u => f (u ++ [true])) * t := by
  have one : ∀ b : Bool, (((allW m).map (· ++ [b])).map fun u => if f u = true then wt t w u else 0).sum = sumE t w m (fun u => f (u ++ [b])) * (if b then t else w - t) := fun b => by
    unfold sumE
    rw [← sum_mul, List.map_map, List.map_map]
    congr 2
    funext u
    show (if f (u ++ [b]) = true then wt t w (u ++ [b]) else 0) = (if f (u ++ [b]) = true then wt t w u else 0) * _
    rw [wt_snoc]
    split
    · rfl
    · rw [Nat.zero_mul]
  show (((allW m).map (· ++ [false]) ++ (allW m).map (· ++ [true])).map fun u => if f u = true then wt t w u else 0).sum = _
  rw [List.map_append, List.sum_append, one false, one true]
  rfl
theorem sumE_none (t w : Nat) : ∀ m : Nat, sumE t w m (fun _ => false) = 0
  | 0 => rfl
  | m + 1 => by rw [sumE_succ, sumE_none t w m]; simp
theorem sumE_all {t w : Nat} (h : t ≤ w) : ∀ m : Nat, sumE t w m (fun _ => true) = w ^ m
  | 0 => by
    show (if true = true then wt t w [] else 0) + 0 = 1
    rw [if_pos rfl]
    unfold wt
    simp
  | m + 1 => by
    rw [sumE_succ, sumE_all h m, ← Nat.mul_add, show w - t + t = w by omega, Nat.pow_succ]
theorem sumE_ends {t w : Nat} (h : t ≤ w) : ∀ (r : List Bool) (m : Nat), r.length ≤ m → sumE t w m (fun u => decide (u.drop (u.length - r.length) = r.reverse)) = w ^ (m - r.length) * wt t w r.reverse
  | [], m, _ => by
    have e : (fun u : List Bool => decide (u.drop (u.length - ([] : List Bool).length) = ([] : List Bool).reverse)) = fun _ => true := by
      funext u
      rw [List.length_nil, Nat.sub_zero, List.drop_length]
      exact decide_eq_true rfl
    rw [e, sumE_all h m, List.length_nil, Nat.sub_zero]
    show w ^ m = w ^ m * wt t w []
    unfold wt
    simp
  | b :: r, 0, hl => absurd hl (by simp)
  | b :: r, m + 1, hl => by
    rw [List.length_cons] at hl
    have ih := sumE_ends h r m (by omega)
    have ef : ∀ c : Bool, (sumE t w m fun u => decide ((u ++ [c]).drop ((u ++ [c]).length - (b :: r).length) = (b :: r).reverse)) = if c = b then sumE t w m (fun u => decide (u.drop (u.length - r.length) = r.reverse)) else 0 := fun c => by
      have big : ∀ u ∈ allW m, decide ((u ++ [c]).drop ((u ++ [c]).length - (b :: r).length) = (b :: r).reverse) = (decide (u.drop (u.length - r.length) = r.reverse) && decide (c = b)) := fun u hu => by
        have ul := allW_mem m u hu
        rw [List.length_append, List.length_singleton, List.length_cons, show u.length + 1 - (r.length + 1) = u.length - r.length by omega, List.drop_append_of_le_length (by omega), List.reverse_cons]
        by_cases e1 : u.drop (u.length - r.length) = r.reverse
        · by_cases e2 : c = b
          · rw [e1, e2, decide_eq_true rfl, decide_eq_true rfl, decide_eq_true rfl]
            rfl
          · rw [decide_eq_false e2, Bool.and_false]
            refine decide_eq_false fun z => e2 ?_
            obtain ⟨_, z2⟩ := List.append_inj' z rfl
            exact (List.cons.inj z2).1
        · rw [decide_eq_false e1, Bool.false_and]
          refine decide_eq_false fun z => e1 ?_
          exact (List.append_inj' z rfl).1
      unfold sumE
      rw [List.map_congr_left (g := fun u => if (decide (u.drop (u.length - r.length) = r.reverse) && decide (c = b)) = true then wt t w u else 0) fun u hu => congrArg (fun z : Bool => if z = true then wt t w u else 0) (big u hu)]
      by_cases e2 : c = b
      · rw [if_pos e2, decide_eq_true e2]
        simp only [Bool.and_true]
      · rw [if_neg e2, decide_eq_false e2]
        simp only [Bool.and_false]
        exact sumE_none t w m
    rw [sumE_succ, ef false, ef true, List.length_cons, show m + 1 - (r.length + 1) = m - r.length by omega, List.reverse_cons, wt_snoc]
    cases b with
    | true =>
      rw [if_neg (by decide), if_pos rfl, ih, if_pos rfl, Nat.zero_mul, Nat.zero_add, Nat.mul_assoc]
    | false =>
      rw [if_pos rfl, if_neg (by decide), ih, if_neg (by decide), Nat.zero_mul, Nat.add_zero, Nat.mul_assoc]
end
section
/-! ### means -/
def meanF (t w : Nat) (f : List Int → Nat) : List Int → Nat := fun m => (w - t) * f (passL false m) + t * f (passL true m)
def meanN (t w : Nat) : Nat → (List Int → Nat) → List Int → Nat
  | 0, f => f
  | j + 1, f => meanN t w j (meanF t w f)
theorem meanN_in (t w : Nat) : ∀ (j : Nat) (f : List Int → Nat), meanN t w j (meanF t w f) = meanF t w (meanN t w j f)
  | 0, _ => rfl
  | j + 1, f => meanN_in t w j (meanF t w f)
theorem sum_two {α : Type} (f g : α → Nat) : ∀ l : List α, (l.map fun u => f u + g u).sum = (l.map f).sum + (l.map g).sum
  | [] => rfl
  | x :: l => by
    rw [List.map_cons, List.sum_cons, sum_two f g l, List.map_cons, List.sum_cons, List.map_cons, List.sum_cons]
    omega
theorem meanN_words (t w : Nat) : ∀ (m : Nat) (f : List Int → Nat) (row : List Int), meanN t w m f row = ((allW m).map fun u => wt t w u * f (afterL u row)).sum
  | 0, f, row => by
    show f row = wt t w [] * f row + 0
    rw [show wt t w [] = 1 from by simp [wt], Nat.one_mul, Nat.add_zero]
  | m + 1, f, row => by
    have one : ∀ b : Bool, (((allW m).map (· ++ [b])).map fun u => wt t w u * f (afterL u row)).sum = ((allW m).map fun u => wt t w u * ((if b then t else w - t) * f (passL b (afterL u row)))).sum := fun b => by
      rw [List.map_map]
      congr 2
      funext u
      show wt t w (u ++ [b]) * f (afterL (u ++ [b]) row) = _
      rw [wt_snoc, after_snoc, Nat.mul_assoc]
    show meanN t w m (meanF t w f) row = (((allW m).map (· ++ [false]) ++ (allW m).map (· ++ [true])).map fun u => wt t w u * f (afterL u row)).sum
    rw [List.map_append, List.sum_append, one false, one true, ← sum_two, meanN_words t w m]
    congr 2
    funext u
    unfold meanF
    rw [Nat.mul_add]
    rfl
theorem step_one {t w p : Nat} {f : List Int → Nat} {m : List Int} (h : t ≤ w) (hl : m.length ≤ p + 1) : meanN t w (p + 1) f m = w * meanN t w p f m := by
  have go : ∀ b : Bool, meanN t w p f (passL b m) = meanN t w p f m := fun b => by
    rw [meanN_words, meanN_words]
    congr 1
    refine List.map_congr_left fun u hu => ?_
    rw [after_forget (passL_perm b m) (by rw [allW_mem p u hu]; exact hl)]
  show meanN t w p (meanF t w f) m = _
  rw [meanN_in]
  unfold meanF
  rw [go, go, ← Nat.add_mul, show w - t + t = w by omega]
theorem step_far {t w p : Nat} {f : List Int → Nat} {m : List Int} (h : t ≤ w) (hl : m.length ≤ p + 1) : ∀ k : Nat, meanN t w (p + k) f m = w ^ k * meanN t w p f m
  | 0 => by rw [Nat.add_zero, Nat.pow_zero, Nat.one_mul]
  | k + 1 => by
    rw [← Nat.add_assoc, step_one h (by omega), step_far h hl k, Nat.pow_succ, ← Nat.mul_assoc, Nat.mul_comm w]
theorem low_same {x y c : Nat} (hc : 1 ≤ c) : c * x / Nat.gcd (c * x) (c * y) = x / Nat.gcd x y ∧ c * y / Nat.gcd (c * x) (c * y) = y / Nat.gcd x y := by
  rw [Nat.gcd_mul_left]
  exact ⟨Nat.mul_div_mul_left _ _ hc, Nat.mul_div_mul_left _ _ hc⟩
/-! ### dicts with rows as keys -/
abbrev kvR (d : List (List Int × Nat)) : List (List L2.Key × V) := d.map fun x => (kyI x.1, V.int ((x.2 : Nat) : Int))
def lookR : List (List Int × Nat) → List Int → Nat
  | [], _ => 0
  | (k, v) :: d, m => if k = m then v else lookR d m
def addR (y : Nat) : List (List Int × Nat) → List Int → List (List Int × Nat)
  | [], m => [(m, y)]
  | (k, v) :: d, m => if k = m then (k, v + y) :: d else (k, v) :: addR y d m
theorem val_kvR : ∀ (d : List (List Int × Nat)) (m : List Int), (valV (kvR d) (kyI m)).getD (.int 0) = .int ((lookR d m : Nat) : Int)
  | [], _ => rfl
  | (k, v) :: d, m => by
    show (valV ((kyI k, V.int ((v : Nat) : Int)) :: kvR d) _).getD _ = _
    unfold lookR
    by_cases e : k = m
    · rw [if_pos e, e, valV_pos rfl]
      rfl
    · rw [if_neg e, valV_neg fun z => e (kyI_inj z), val_kvR d m]
theorem get_kvR : ∀ {d : List (List Int × Nat)} (nd : (d.map (·.1)).Nodup) {i : Nat} {m : List Int} {v : Nat}, d[i]? = some (m, v) → valV (kvR d) (kyI m) = some (.int ((v : Nat) : Int))
  | [], _, _, _, _, h => nomatch h
  | (k, u) :: d, nd, i, m, v, h => by
    replace nd := List.nodup_cons.mp (show (k :: d.map (·.1)).Nodup from nd)
    show valV ((kyI k, V.int ((u : Nat) : Int)) :: kvR d) _ = _
    match i, h with
    | 0, h =>
      obtain ⟨rfl, rfl⟩ := Prod.mk.inj (Option.some.inj h)
      exact valV_pos rfl
    | i + 1, h =>
      have h2 : d[i]? = some (m, v) := h
      have ne : ¬ k = m := fun z => nd.1 (by rw [z]; exact List.mem_map.mpr ⟨_, List.mem_of_getElem? h2, rfl⟩)
      rw [valV_neg fun z => ne (kyI_inj z)]
      exact get_kvR nd.2 h2
theorem none_kvR : ∀ {d : List (List Int × Nat)} {m : List Int}, m ∉ d.map (·.1) → lookR d m = 0
  | [], _, _ => rfl
  | (k, v) :: d, m, h => by
    rw [List.map_cons, List.mem_cons, not_or] at h
    unfold lookR
    rw [if_neg fun z => h.1 z.symm, none_kvR h.2]
theorem same_kvR (y : V) (m : List Int) : ∀ d : List (List Int × Nat), m ∉ d.map (·.1) → (kvR d).map (fun kv => if kv.1 = kyI m then (kv.1, y) else kv) = kvR d
  | [], _ => rfl
  | (k, v) :: d, h => by
    rw [List.map_cons, List.mem_cons, not_or] at h
    show (if kyI k = kyI m then _ else _) :: (kvR d).map _ = _
    rw [if_neg fun z => h.1 (kyI_inj z).symm, same_kvR y m d h.2]
    rfl
theorem put_kvR (y : Nat) : ∀ (d : List (List Int × Nat)) (m : List Int), (d.map (·.1)).Nodup → putK (kvR d) (kyI m) (.int (((lookR d m + y : Nat)) : Int)) = kvR (addR y d m)
  | [], m, _ => by
    show putK [] (kyI m) (.int (((0 + y : Nat)) : Int)) = [(kyI m, V.int ((y : Nat) : Int))]
    rw [Nat.zero_add]
    rfl
  | (k, v) :: d, m, nd => by
    replace nd := List.nodup_cons.mp (show (k :: d.map (·.1)).Nodup from nd)
    have ih := put_kvR y d m nd.2
    unfold lookR addR
    by_cases e : k = m
    · subst e
      rw [if_pos rfl, if_pos rfl]
      show putK ((kyI k, V.int ((v : Nat) : Int)) :: kvR d) _ _ = _
      unfold putK
      rw [if_pos (by simp), List.map_cons, if_pos rfl, same_kvR _ k d nd.1]
      rfl
    · rw [if_neg e, if_neg e]
      have ne : ¬ kyI k = kyI m := fun z => e (kyI_inj z)
      show putK ((kyI k, V.int ((v : Nat) : Int)) :: kvR d) _ _ = (kyI k, V.int ((v : Nat) : Int)) :: kvR (addR y d m)
      rw [← ih]
      unfold putK
      have ea : ((kyI k, V.int ((v : Nat) : Int)) :: kvR d).any (fun kv : List L2.Key × V => decide (kv.1 = kyI m)) = (kvR d).any (fun kv : List L2.Key × V => decide (kv.1 = kyI m)) := by
        rw [List.any_cons, decide_eq_false ne, Bool.false_or]
      rw [ea]
      split
      · rw [List.map_cons, if_neg ne]
      · rfl
theorem addR_keys (y : Nat) : ∀ (d : List (List Int × Nat)) (m : List Int), (addR y d m).map (·.1) = if m ∈ d.map (·.1) then d.map (·.1) else d.map (·.1) ++ [m]
  | [], m => by simp [addR]
  | (k, v) :: d, m => by
    unfold addR
    by_cases e : k = m
    · rw [if_pos e, e]
      simp
    · rw [if_neg e, List.map_cons, addR_keys y d m, List.map_cons]
      by_cases h : m ∈ d.map (·.1)
      · rw [if_pos h, if_pos (List.mem_cons_of_mem _ h)]
      · rw [if_neg h, if_neg (fun z => (List.mem_cons.mp z).elim (fun y => e y.symm) h)]
        rfl
theorem addR_nodup {y : Nat} {d : List (List Int × Nat)} {m : List Int} (nd : (d.map (·.1)).Nodup) : ((addR y d m).map (·.1)).Nodup := by
  rw [addR_keys]
  split
  · exact nd
  · rename_i h
    rw [List.nodup_append]
    refine ⟨nd, by simp, fun x hx y hy e => h ?_⟩
    rw [← List.mem_singleton.mp hy, ← e]
    exact hx
theorem addR_key {y : Nat} {d : List (List Int × Nat)} {m k : List Int} (h : k ∈ (addR y d m).map (·.1)) : k ∈ d.map (·.1) ∨ k = m := by
  rw [addR_keys] at h
  split at h
  · exact .inl h
  · rcases List.mem_append.mp h with z | z
    · exact .inl z
    · exact .inr (List.mem_singleton.mp z)
theorem addR_len (y : Nat) (d : List (List Int × Nat)) (m : List Int) : (addR y d m).length ≤ d.length + 1 := by
  have e := congrArg List.length (addR_keys y d m)
  rw [List.length_map] at e
  rw [e]
  split <;> simp
def sumR (f : List Int → Nat) (d : List (List Int × Nat)) : Nat := (d.map fun x => x.2 * f x.1).sum
theorem sumR_add (f : List Int → Nat) (y : Nat) : ∀ (d : List (List Int × Nat)) (m : List Int), sumR f (addR y d m) = sumR f d + y * f m
  | [], m => by simp [addR, sumR]
  | (k, v) :: d, m => by
    have ih := sumR_add f y d m
    unfold sumR at ih
    unfold addR
    by_cases e : k = m
    · rw [if_pos e]
      unfold sumR
      rw [List.map_cons, List.sum_cons, List.map_cons, List.sum_cons, e]
      show (v + y) * f m + _ = v * f m + _ + _
      rw [Nat.add_mul]
      omega
    · rw [if_neg e]
      unfold sumR
      rw [List.map_cons, List.sum_cons, ih, List.map_cons, List.sum_cons]
      omega
theorem sumR_take (f : List Int → Nat) {d : List (List Int × Nat)} {j n : Nat} {m : List Int} (h : d[j]? = some (m, n)) : sumR f (d.take (j + 1)) = sumR f (d.take j) + n * f m := by
  unfold sumR
  rw [List.take_add_one, h, List.map_append, List.sum_append]
  simp
end
section
/-! ### dicts of rows, the rows' own tuples known -/
def kyN (m : List Int) : NestedKey := .tup (m.map .num)
theorem num_inj : ∀ {a b : List Int}, a.map NestedKey.num = b.map NestedKey.num → a = b
  | [], [], _ => rfl
  | [], _ :: _, h => nomatch h
  | _ :: _, [], h => nomatch h
  | x :: a, y :: b, h => by
    have e := List.cons.inj (show NestedKey.num x :: a.map NestedKey.num = NestedKey.num y :: b.map NestedKey.num from h)
    rw [NestedKey.num.inj e.1, num_inj e.2]
theorem kyN_inj {a b : List Int} (h : kyN a = kyN b) : a = b := num_inj (NestedKey.tup.inj h)
theorem flat_depth : ∀ m : List Int, NestedKey.depthAll (m.map NestedKey.num) = 0
  | [] => by simp [NestedKey.depthAll]
  | x :: m => by
    rw [List.map_cons, NestedKey.depthAll, flat_depth m, NestedKey.depth]
    rfl
theorem kyN_depth (m : List Int) : (kyN m).depth ≤ 8 := by
  rw [kyN, NestedKey.depth, flat_depth]
  decide
theorem KyAll.ints (H : Hp) : ∀ m : List Int, KyAll H (m.map .num) (m.map V.int)
  | [] => .nil
  | x :: m => .cons (.num x) (KyAll.ints H m)
theorem kyN_at {H : Hp} {q : Addr} {m : List Int} (h : TupAt H q (m.map V.int)) : KyV H (kyN m) (.ref q) := by
  obtain ⟨o, _, e⟩ := h
  exact .tup (.inr ⟨o, e⟩) (KyAll.ints H m)
abbrev LF (H : Hp) : List NEnt → List (List Int × Nat) → Prop := Paired fun l d => l.1 = kyN d.1 ∧ l.2.2 = V.int ((d.2 : Nat) : Int) ∧ TupAt H l.2.1 (d.1.map V.int)
section
variable {H H' : Hp} {L : List NEnt} {D : List (List Int × Nat)} {m : List Int}
theorem LF.mono (h : LF H L D) (f : ∀ p xs, TupAt H p xs → TupAt H' p xs) : LF H' L D := Paired.mapP h fun _ _ z => ⟨z.1, z.2.1, f _ _ z.2.2⟩
theorem LF.keys (h : LF H L D) : NKeys H L := by
  unfold LF at h
  induction h with
  | nil => exact fun x hx => nomatch hx
  | @cons l d L D e t ih =>
    intro x hx
    rcases List.mem_cons.mp hx with z | z
    · rw [z, e.1]
      exact ⟨kyN_at e.2.2, kyN_depth _⟩
    · exact ih x z
theorem LF.absent (h : LF H L D) (hm : m ∉ D.map (·.1)) (v : V) : valN L (kyN m) = none ∧ L.map (newN (kyN m) v) = L := by
  unfold LF at h
  induction h with
  | nil => exact ⟨rfl, rfl⟩
  | @cons l d L D e t ih =>
    rw [List.map_cons, List.mem_cons, not_or] at hm
    have ne : ¬ l.1 = kyN m := fun z => hm.1 (kyN_inj (e.1.symm.trans z)).symm
    obtain ⟨i1, i2⟩ := ih hm.2
    refine ⟨by rw [valN_neg ne, i1], ?_⟩
    rw [List.map_cons, i2, newN, if_neg ne]
theorem LF.val (h : LF H L D) (m : List Int) : (valN L (kyN m)).getD (.int 0) = .int ((lookR D m : Nat) : Int) := by
  unfold LF at h
  induction h with
  | nil => rfl
  | @cons l d L D e t ih =>
    by_cases z : d.1 = m
    · rw [valN_pos (e.1.trans (congrArg kyN z)), Option.getD_some, e.2.1]
      obtain ⟨k, v⟩ := d
      unfold lookR
      rw [if_pos z]
    · rw [valN_neg fun y => z (kyN_inj (e.1.symm.trans y)), ih]
      obtain ⟨k, v⟩ := d
      rw [show lookR ((k, v) :: D) m = lookR D m from by rw [lookR, if_neg z]]
theorem LF.get (h : LF H L D) (nd : (D.map (·.1)).Nodup) {i : Nat} {x : Nat} (hi : D[i]? = some (m, x)) : valN L (kyN m) = some (.int ((x : Nat) : Int)) := by
  unfold LF at h
  induction h generalizing i with
  | nil => exact nomatch hi
  | @cons l d L D e t ih =>
    replace nd := List.nodup_cons.mp (show (d.1 :: D.map (·.1)).Nodup from nd)
    match i, hi with
    | 0, hi =>
      have ed : d = (m, x) := Option.some.inj hi
      rw [valN_pos (e.1.trans (congrArg (fun z : List Int × Nat => kyN z.1) ed)), e.2.1, ed]
    | i + 1, hi =>
      have hi2 : D[i]? = some (m, x) := hi
      have ne : ¬ d.1 = m := fun z => nd.1 (by rw [z]; exact List.mem_map.mpr ⟨_, List.mem_of_getElem? hi2, rfl⟩)
      rw [valN_neg fun y => ne (kyN_inj (e.1.symm.trans y))]
      exact ih nd.2 hi2
theorem LF.at_ (h : LF H L D) {i : Nat} {k : NestedKey} {q : Addr} {v : V} (hi : L[i]? = some (k, q, v)) : ∃ m x, D[i]? = some (m, x) ∧ k = kyN m ∧ v = .int ((x : Nat) : Int) ∧ TupAt H q (m.map V.int) := by
  obtain ⟨d, h1, h2, h3, h4⟩ := paired_get h hi
  exact ⟨d.1, d.2, h1, h2, h3, h4⟩
theorem addR_new (y : Nat) : ∀ {D : List (List Int × Nat)} {m : List Int}, m ∉ D.map (·.1) → addR y D m = D ++ [(m, y)] ∧ lookR D m = 0
  | [], _, _ => ⟨rfl, rfl⟩
  | (k, v) :: D, m, h => by
    rw [List.map_cons, List.mem_cons, not_or] at h
    obtain ⟨i1, i2⟩ := addR_new y h.2
    have ne : ¬ k = m := fun z => h.1 z.symm
    rw [addR, lookR, if_neg ne, if_neg ne, i1, i2]
    exact ⟨rfl, rfl⟩
theorem LF.renew (h : LF H L D) (nd : (D.map (·.1)).Nodup) (hm : m ∈ D.map (·.1)) (y : Nat) : (valN L (kyN m)).isSome = true ∧ LF H (L.map (newN (kyN m) (.int ((lookR D m + y : Nat) : Int)))) (addR y D m) := by
  unfold LF at h
  induction h with
  | nil => exact nomatch hm
  | @cons l d L D e t ih =>
    replace nd := List.nodup_cons.mp (show (d.1 :: D.map (·.1)).Nodup from nd)
    obtain ⟨k, v⟩ := d
    by_cases z : k = m
    · subst z
      refine ⟨by rw [valN_pos e.1]; rfl, ?_⟩
      rw [lookR, if_pos rfl, addR, if_pos rfl, List.map_cons, (LF.absent t nd.1 _).2, newN, if_pos e.1]
      exact .cons ⟨e.1, rfl, e.2.2⟩ t
    · have hm2 : m ∈ D.map (·.1) := by
        rcases List.mem_cons.mp hm with w | w
        · exact absurd w.symm z
        · exact w
      obtain ⟨i1, i2⟩ := ih nd.2 hm2
      have ne : ¬ l.1 = kyN m := fun w => z (kyN_inj (e.1.symm.trans w))
      refine ⟨by rw [valN_neg ne]; exact i1, ?_⟩
      rw [lookR, if_neg z, addR, if_neg z, List.map_cons, newN, if_neg ne]
      exact .cons e i2
theorem LF.put (h : LF H L D) (nd : (D.map (·.1)).Nodup) {q : Addr} (hq : TupAt H q (m.map V.int)) (y : Nat) : LF H (putN L (kyN m) q (.int ((lookR D m + y : Nat) : Int))) (addR y D m) := by
  by_cases hm : m ∈ D.map (·.1)
  · obtain ⟨i1, i2⟩ := h.renew nd hm y
    rw [putN, if_pos i1]
    exact i2
  · obtain ⟨a1, a2⟩ := addR_new y hm
    rw [putN, (h.absent hm (.int 0)).1, if_neg (by decide), a1, a2, Nat.zero_add]
    exact Paired.snoc h ⟨rfl, rfl, hq⟩
theorem LF.len (h : LF H L D) : L.length = D.length := Paired.length h
end
end
section
/-! ### what is known of tuples stays when such a dict is written, locked, unlocked -/
variable {H : Hp} {p a : Addr} {xs : List V} {P : Program} {w : World} {L : List NEnt} {od : Obj} {u : HO}
theorem TupAt.ne_nd (h : TupAt H p xs) (e : H a = some (nD P w a L)) : p ≠ a := fun z => by
  obtain ⟨o, _, h⟩ := h
  rw [z, e] at h
  cases h
theorem TupAt.ne_fz (h : TupAt H p xs) (e : H a = some (.frz od (nD P w a L))) : p ≠ a := fun z => by
  obtain ⟨o, _, h⟩ := h
  rw [z, e] at h
  cases h
theorem TupAt.upd_ (h : TupAt H p xs) (ne : p ≠ a) : TupAt (upd H a u) p xs := by
  obtain ⟨o, t, h⟩ := h
  exact ⟨o, t, (upd_ne ne).trans h⟩
end
def top (i : Nat) : Stmt := PySem.Challenge.pw_lastpasses_k72_mean_index_by_all_words.main.body.getD i (.Pass ⟨0, 0, 0, 0⟩)
section
variable {P : Program} {w : World} {K : PySem.W.Frag} {mg : Str → Option Value} {base : Heap}
/-! ### the cells of the script -/
abbrev s__law_cell : Stmt := top 35
abbrev N__law_cell : List Str := ["_law_script", "_law_k", "_law_state", "_law_cell_here"]
theorem sc__law_cell : FnScope N__law_cell ["_law_script", "_law_k"] (defScope s__law_cell) := ⟨rfl, rfl, rfl, by decide +kernel, rfl, by decide +kernel, by decide +kernel⟩
def spCell (K : PySem.W.Frag) : Sp := fun vs H Q _ => ∃ (l : Addr) (ns : List Int) (k : Nat), vs = [.ref l, .int (k : Nat)] ∧ SqL K H l (ns.map V.int) ∧ k ≤ 1000 ∧ ∀ (i : Int) (H' : Hp), Same H H' → Q (.int i) H'
theorem ok_cell (D : Df K mg "_law_cell" s__law_cell) (m_len : mg "len" = none) : Cl P w K mg base 1 "_law_cell" s__law_cell ["_law_script", "_law_k"] (spCell K) := by
  refine D.ok sc__law_cell (fun _ _ _ _ _ _ us hl => match us, hl with | [_, _], _ => rfl) (fun vs H Q E h => ?_) (fun f cdv A outer s H vs Q E hr h => ?_)
  · obtain ⟨l, ns, k, rfl, _⟩ := h
    rfl
  · obtain ⟨l, ns, k, rfl, hS, hk, q⟩ := h
    refine ⟨_, 
      (pss_cons (ps_if (pt_cmpR op_lt (pv 1) (pe_callB call_lenS (by rfl) m_len (by decide +kernel) (pa_cons (pv 0) pa_nil)) (nomark _)) (pss_one (ps_ret (pe_ix ix_list (pv 0) (pv 1) (fun _ _ => rfl)))) pss_nil) 
      (pss_cons (ps_set (i := 2) sc__law_cell.nd rfl (Or.inl rfl) (pe_op op_mod (pe_op op_mul pe_int (pe_op op_add (pe_op op_add (pe_op op_mul (pv 1) (pv 1)) (pe_op op_mul pe_int (pv 1))) pe_int)) pe_int)) 
      (pss_cons (ps_for PassesOwn.never rfl (pi_list (pe_slice sl_list (pv 0) po_none (po_some pe_int))) (pg_name (i := 3) sc__law_cell.nd rfl (Or.inl rfl)) (pss_one (ps_set (i := 2) sc__law_cell.nd rfl (Or.inl rfl) (pe_op op_mod (pe_op op_add (pe_op op_mul (pv 2) pe_int) (pv 3)) pe_int)))) 
      (pss_one (ps_ret (pv 2)))))), ?_⟩
    refine ⟨_, rfl, _, rfl, l, ns.map V.int, rfl, .inl hS, _, _, rfl, rfl, _, rfl, ite2 (fun e => ?_) (fun e => ?_)⟩
    · have lt : k < ns.length := by
        have e2 := of_decide_eq_true e
        rw [List.length_map] at e2
        omega
      have g : (ns.map V.int)[k]? = some (.int ns[k]) := by
        rw [List.getElem?_map, List.getElem?_eq_getElem lt]
        rfl
      exact ⟨_, rfl, _, rfl, l, _, _, _, rfl, rfl, hS, atI_nat g, q _ _ (Same.refl H)⟩
    · refine ⟨_, rfl, _, rfl, _, _, rfl, rfl, .inl ⟨by omega, by omega⟩, _, rfl, _, _, rfl, rfl, .inl ⟨by decide, by decide⟩, _, _, rfl, rfl, _, _, rfl, rfl, _, _, rfl, rfl, .inl ⟨by decide, by decide⟩, _, _, rfl, rfl, (by show (0 : Int) < 2147483399; decide), ?_⟩
      refine ⟨_, rfl, 3, rfl, l, ns.map V.int, rfl, hS, fun c nc => ?_⟩
      have sm : Same H (upd H c (.lst (cutV (ns.map V.int) none (some 3)))) := same_upd nc
      refine ⟨c, rfl, ⟨_, .inl (.inl upd_same)⟩, ?_⟩
      refine for_list (xs := cutV (ns.map V.int) none (some 3)) (fun i σ H2 => ∃ (z : Int) (y : Option V), σ = [some (.ref l), some (.int (k : Nat)), some (.int z), y] ∧ -(2 ^ 64) < z ∧ z < 2 ^ 64 ∧ H2 = upd H c (.lst (cutV (ns.map V.int) none (some 3))))
        ⟨_, none, rfl, ?_, ?_, rfl⟩ (fun i σ H2 _ h2 => ?_) (fun i x σ H2 hx h2 => ?_) (fun σ H2 h2 => ?_)
      · exact Int.lt_of_lt_of_le (by decide) (Int.emod_nonneg _ (by decide))
      · exact Int.lt_trans (Int.emod_lt_of_pos _ (by decide)) (by decide)
      · obtain ⟨z, y, _, _, _, rfl⟩ := h2
        exact .inl (.inl upd_same)
      · obtain ⟨z, y, rfl, h3, h4, rfl⟩ := h2
        have hm : x ∈ ns.map V.int := List.mem_of_mem_drop (List.mem_of_mem_take (List.mem_of_getElem? hx))
        obtain ⟨n, _, rfl⟩ := List.mem_map.mp hm
        refine ⟨_, rfl, _, _, rfl, rfl, .inl ⟨h3, h4⟩, _, rfl, _, _, rfl, rfl, _, _, rfl, rfl, (by show (0 : Int) < 2147483399; decide), ?_⟩
        refine ⟨_, some (.int n), rfl, ?_, ?_, rfl⟩
        · exact Int.lt_of_lt_of_le (by decide) (Int.emod_nonneg _ (by decide))
        · exact Int.lt_trans (Int.emod_lt_of_pos _ (by decide)) (by decide)
      · obtain ⟨z, y, rfl, h3, h4, rfl⟩ := h2
        exact ⟨_, rfl, q _ _ sm⟩
/-! ### the pool -/
abbrev s__law_pool : Stmt := top 36
abbrev N__law_pool : List Str := ["_law_cell_here", "_law_digits"]
theorem sc__law_pool : FnScope N__law_pool ["_law_cell_here"] (defScope s__law_pool) := ⟨rfl, rfl, rfl, by decide +kernel, rfl, by decide +kernel, by decide +kernel⟩
def spPool : Sp := fun vs H Q _ => ∃ n : Int, vs = [.int n] ∧ ∀ p H', Same H H' → H p = none → Pool H' p → Q (.ref p) H'
theorem ok_pool (D : Df K mg "_law_pool" s__law_pool) (m_abs : mg "abs" = none) : Cl P w K mg base 1 "_law_pool" s__law_pool ["_law_cell_here"] spPool := by
  refine D.ok sc__law_pool (fun _ _ _ _ _ _ us hl => match us, hl with | [_], _ => rfl) (fun vs H Q E h => ?_) (fun f cdv A outer s H vs Q E hr h => ?_)
  · obtain ⟨n, rfl, _⟩ := h
    rfl
  · obtain ⟨n, rfl, q⟩ := h
    have fin : ∀ d : Int, 0 ≤ d → ∀ p, H p = none → Q (.ref p) (upd H p (.lst [.int (n % 2147483399), .int d, .int 0])) := fun d hd p np =>
      q p _ (same_upd np) np ⟨_, d, 0, upd_same, Int.emod_nonneg _ (by decide), Int.emod_lt_of_pos _ (by decide), hd⟩
    refine ⟨_, 
      (pss_cons (ps_set (i := 1) sc__law_pool.nd rfl (Or.inl rfl) (pe_ifExp (PW.pt (pw_or (pt_cmpR op_lt (pv 0) pe_int (nomark _)) (pw_or1 (pt_cmpR op_ge (pv 0) (pe_op op_pow pe_int pe_int) (nomark _))))) (pe_callB call_abs (by rfl) m_abs (by decide +kernel) (pa_cons (pv 0) pa_nil)) pe_int)) 
      (pss_one (ps_ret (pe_lst (pa_cons (pe_op op_mod (pv 0) pe_int) (pa_cons (pv 1) (pa_cons pe_int pa_nil))))))), ?_⟩
    refine ⟨_, rfl, _, _, rfl, rfl, _, rfl, ?_⟩
    have three : ∀ d : Int, ([V.int (n % 2147483399), V.int d, V.int 0] : List V).length ≤ sizeLine := fun d => by
      show 3 ≤ sizeLine
      decide
    by_cases h0 : n < 0
    · rw [decide_eq_true h0]
      refine iteT (iteT ⟨_, rfl, _, rfl, _, rfl, _, _, rfl, rfl, (by show (0 : Int) < 2147483399; decide), _, rfl, three _, fun p np => fin _ ?_ p np⟩)
      rw [if_pos h0]
      omega
    · rw [decide_eq_false h0]
      refine iteF ⟨_, rfl, _, _, rfl, rfl, ⟨by decide, by decide, by decide⟩, _, _, rfl, rfl, _, rfl, ?_⟩
      refine ite2 (fun e => ?_) (fun e => ?_)
      · refine ⟨_, rfl, _, rfl, _, rfl, _, _, rfl, rfl, (by show (0 : Int) < 2147483399; decide), _, rfl, three _, fun p np => fin _ ?_ p np⟩
        rw [if_neg h0]
        omega
      · exact ⟨_, rfl, _, _, rfl, rfl, (by show (0 : Int) < 2147483399; decide), _, rfl, three _, fun p np => fin _ (Int.le_refl _) p np⟩
/-! ### a draw -/
abbrev s__law_draw : Stmt := top 37
abbrev N__law_draw : List Str := ["_law_pool_here", "_law_upto", "_law_state", "_law_digit"]
theorem sc__law_draw : FnScope N__law_draw ["_law_pool_here", "_law_upto"] (defScope s__law_draw) := ⟨rfl, rfl, rfl, by decide +kernel, rfl, by decide +kernel, by decide +kernel⟩
def spDraw : Sp := fun vs H Q _ => ∃ (a : Addr) (c : Int), vs = [.ref a, .int c] ∧ 1 ≤ c ∧ c ≤ 1000000 ∧ Pool H a ∧ ∀ (d : Int) (H' : Hp), 0 ≤ d → d < c → Kp a H H' → Pool H' a → Q (.int d) H'
theorem ok_draw (D : Df K mg "_law_draw" s__law_draw) (m_divmod : mg "divmod" = none) : Cl P w K mg base 1 "_law_draw" s__law_draw ["_law_pool_here", "_law_upto"] spDraw := by
  refine D.ok sc__law_draw (fun _ _ _ _ _ _ us hl => match us, hl with | [_, _], _ => rfl) (fun vs H Q E h => ?_) (fun f cdv A outer s H vs Q E hr h => ?_)
  · obtain ⟨a, c, rfl, _⟩ := h
    rfl
  · obtain ⟨a, c, rfl, c1, c2, ⟨st, dg, n, ha, s0, s1, d0⟩, q⟩ := h
    refine ⟨_, 
      (pss_cons (ps_asg (pe_op op_add (pe_ix ix_list (pv 0) pe_int (fun _ _ => rfl)) pe_int) (pg_sub (pv 0) pe_int set_list)) 
      (pss_cons (ps_set (i := 2) sc__law_draw.nd rfl (Or.inl rfl) (pe_ix ix_list (pv 0) pe_int (fun _ _ => rfl))) 
      (pss_cons (ps_asg (pe_op op_mod (pe_op op_add (pe_op op_mul (pv 2) (pe_op op_add (pe_op op_mod (pv 2) pe_int) pe_int)) (pe_op op_mul pe_int (pe_ix ix_list (pv 0) pe_int (fun _ _ => rfl)))) pe_int) (pg_sub (pv 0) pe_int set_list)) 
      (pss_cons (ps_if (pt_cmpR op_gt (pe_ix ix_list (pv 0) pe_int (fun _ _ => rfl)) pe_int (nomark _)) (pss_cons (ps_asg (pe_callB call_divmodW (by rfl) m_divmod (by decide +kernel) (pa_cons (pe_ix ix_list (pv 0) pe_int (fun _ _ => rfl)) (pa_cons (pv 1) pa_nil))) (pg_tup (by rfl) (pgs_cons (pg_sub (pv 0) pe_int set_list) (pgs_cons (pg_name (i := 3) sc__law_draw.nd rfl (Or.inl rfl)) pgs_nil)))) (pss_one (ps_ret (pv 3)))) pss_nil) 
      (pss_one (ps_ret (pe_op op_mod (pe_op op_fdiv (pe_ix ix_list (pv 0) pe_int (fun _ _ => rfl)) pe_int) (pv 1)))))))), ?_⟩
    have at0 : ∀ x y z : V, atI [x, y, z] (0 : Int) = some x := fun _ _ _ => rfl
    have at1 : ∀ x y z : V, atI [x, y, z] (1 : Int) = some y := fun _ _ _ => rfl
    have at2 : ∀ x y z : V, atI [x, y, z] (2 : Int) = some z := fun _ _ _ => rfl
    refine ⟨_, rfl, a, _, 2, _, rfl, rfl, .inl (.inl ha), at2 _ _ _, _, _, rfl, rfl, ?_⟩
    refine ⟨_, rfl, a, _, 2, 2, rfl, rfl, ha, rfl, ?_⟩
    refine ⟨_, rfl, a, _, 0, _, rfl, rfl, .inl (.inl upd_same), at0 _ _ _, ?_⟩
    have b1 : 0 ≤ st % 40961 := Int.emod_nonneg _ (by decide)
    have b2 : st % 40961 < 40961 := Int.emod_lt_of_pos _ (by decide)
    refine ⟨_, rfl, _, rfl, _, _, rfl, rfl, (by show (0 : Int) < 40961; decide), _, _, rfl, rfl, _, _, rfl, rfl, .inl ⟨by omega, by omega⟩, ?_⟩
    refine ⟨_, rfl, a, _, 2, _, rfl, rfl, .inl (.inl upd_same), at2 _ _ _, _, _, rfl, rfl, .inl ⟨by decide, by decide⟩, _, _, rfl, rfl, _, _, rfl, rfl, (by show (0 : Int) < 2147483399; decide), ?_⟩
    refine ⟨_, rfl, a, _, 0, 0, rfl, rfl, upd_same, rfl, ?_⟩
    rw [upd_upd]
    refine ⟨_, rfl, a, _, 1, _, rfl, rfl, .inl (.inl upd_same), at1 _ _ _, _, _, rfl, rfl, _, rfl, ?_⟩
    have kp : ∀ xs, Kp a H (upd H a (.lst xs)) := fun xs b o e ne => by
      rw [upd_ne ne]
      exact e
    refine ite2 (fun e => ?_) (fun e => ?_)
    · refine ⟨_, rfl, a, _, 1, _, rfl, rfl, .inl (.inl upd_same), at1 _ _ _, _, rfl, dg, c, rfl, ⟨by omega, ?_⟩, fun p np => ?_⟩
      · exact small_div (by omega) (by omega)
      · have pa : p ≠ a := fun z => by
          subst z
          rw [upd_same] at np
          cases np
        refine ⟨p, _, rfl, .inl (.inl upd_same), rfl, _, _, rfl, _, rfl, a, _, 1, 1, rfl, rfl, (upd_ne pa.symm).trans upd_same, rfl, _, _, rfl, rfl, ?_⟩
        refine ⟨_, rfl, q _ _ (Int.emod_nonneg _ (by omega)) (Int.emod_lt_of_pos _ (by omega)) (fun b o eb ne => ?_) ⟨_, dg / c, n + 1, upd_same, Int.emod_nonneg _ (by decide), Int.emod_lt_of_pos _ (by decide), Int.ediv_nonneg d0 (by omega)⟩⟩
        have bp : b ≠ p := fun zz => by
          subst zz
          rw [upd_ne ne, eb] at np
          cases np
        rw [upd_ne ne, upd_ne bp, upd_ne ne]
        exact eb
    · refine ⟨_, rfl, a, _, 0, _, rfl, rfl, .inl (.inl upd_same), at0 _ _ _, _, _, rfl, rfl, ⟨by decide, by decide⟩, _, rfl, _, _, rfl, rfl, (by show 0 < c; omega), ?_⟩
      exact q _ _ (Int.emod_nonneg _ (by omega)) (Int.emod_lt_of_pos _ (by omega)) (kp _) ⟨_, dg, n + 1, upd_same, Int.emod_nonneg _ (by decide), Int.emod_lt_of_pos _ (by decide), d0⟩
end
section
variable {P : Program} {w : World} {K : PySem.W.Frag} {mg : Str → Option Value} {base : Heap}
/-! ### heights -/
abbrev s__law_heights : Stmt := top 38
abbrev N__law_heights : List Str := ["_law_pool_here", "_law_many", "_law_mode", "_law_left", "_law_k"]
theorem sc__law_heights : FnScope N__law_heights ["_law_pool_here", "_law_many"] (defScope s__law_heights) := ⟨rfl, rfl, rfl, by decide +kernel, rfl, by decide +kernel, by decide +kernel⟩
def spHeights : Sp := fun vs H Q _ => ∃ (a : Addr) (n : Int), vs = [.ref a, .int n] ∧ 1 ≤ n ∧ n ≤ 12 ∧ Pool H a ∧
  ∀ (p : Addr) (ns : List Int) (H' : Hp), Kp a H H' → Pool H' a → H p = none → H' p = some (.lst (ns.map V.int)) → (ns.length : Int) = n → Row ns → Q (.ref p) H'
theorem ok_heights (D : Df K mg "_law_heights" s__law_heights) (c__law_draw : Cl P w K mg base 1 "_law_draw" s__law_draw ["_law_pool_here", "_law_upto"] spDraw) (m_len : mg "len" = none) (m_list : mg "list" = none) (m_range : mg "range" = none) (m_sorted : mg "sorted" = none) :
    Cl P w K mg base 2 "_law_heights" s__law_heights ["_law_pool_here", "_law_many"] spHeights := by
  refine D.ok sc__law_heights (fun _ _ _ _ _ _ us hl => match us, hl with | [_, _], _ => rfl) (fun vs H Q E h => ?_) (fun f cdv A outer s H vs Q E hr h => ?_)
  · obtain ⟨a, n, rfl, _⟩ := h
    rfl
  · obtain ⟨a, n, rfl, n1, n2, hp, q⟩ := h
    refine ⟨_, 
      (pss_cons (ps_set (i := 2) sc__law_heights.nd rfl (Or.inl rfl) (pe_u c__law_draw hr (by omega) (by rfl) (pa_cons (pv 0) (pa_cons pe_int pa_nil)))) 
      (pss_cons (ps_if (pt_cmpR op_eq (pv 2) pe_int (nomark _)) (pss_one (ps_ret (pe_listRg rfl (by rfl) m_list (prg_2 (by rfl) m_range pe_int (pe_op op_add (pv 1) pe_int))))) pss_nil) 
      (pss_cons (ps_if (pt_cmpR op_eq (pv 2) pe_int (nomark _)) (pss_one (ps_ret (pe_listRg rfl (by rfl) m_list (prg_2 (by rfl) m_range (pe_op op_sub pe_int (pv 1)) pe_int)))) pss_nil) 
      (pss_cons (ps_set (i := 3) sc__law_heights.nd rfl (Or.inr rfl) (pe_listRg rfl (by rfl) m_list (prg_2 (by rfl) m_range pe_int pe_int))) 
      (pss_one (ps_ret (pe_callB cr_sorted (by rfl) m_sorted (by decide +kernel) (pa_cons (pe_lc (own := [("_law_k", 4)]) (g := gName 4) (te := (tBM K "list" rPopAt (tVar 3) (tCons (tCall spDraw [] E0 (tCons (tVar 0) (tCons (tCB (rLenS K) (tCons (tVar 3) tNil)) tNil))) tNil))) rfl sc__law_heights.nd (pi_range1 (by rfl) m_range (pa_cons (pv 1) pa_nil)) (blkOk_by (own := [("_law_k", 4)]) (N := N__law_heights) (sc := (defScope s__law_heights)) (by decide +kernel)) (fun _ _ _ _ _ => (pg_name (i := 4) sc__law_heights.nd rfl (Or.inl rfl))) (fun _ _ _ _ _ => pts_nil) (fun _ _ _ _ _ => (pe_bm PySem.F.plainAttrs_list PySem.F.slot_list_pop PySem.F.type_list_pop mt_popAt (pv 3) (pa_cons (pe_u c__law_draw hr (by omega) (by rfl) (pa_cons (pv 0) (pa_cons (pe_callB call_lenS (by rfl) m_len (by decide +kernel) (pa_cons (pv 3) pa_nil)) pa_nil))) pa_nil)))) pa_nil)))))))), ?_⟩
    refine ⟨_, rfl, a, 4, rfl, by decide, by decide, hp, fun d H1 d0 d1 k1 p1 => ?_⟩
    have whole : ∀ (lo hi : Int), 1 ≤ lo → hi ≤ 1000 → hi - lo = n → ∀ p, H1 p = none → Q (.ref p) (upd H1 p (.lst (rgV lo hi))) := fun lo hi h1 h2 h3 p np => by
      have pa : p ≠ a := p1.ne np
      refine q p (rg lo hi) _ (k1.upd (k1.free np pa)) (p1.upd pa.symm) (k1.free np pa) ?_ ?_ ⟨?_, ?_, rg_nodup lo hi, fun x hx => ?_⟩
      · rw [upd_same, rgV_rg]
      · rw [rg_len]; omega
      · rw [rg_len]; omega
      · rw [rg_len]; omega
      · have := rg_mem hx
        omega
    refine ⟨_, rfl, rfl, _, rfl, ite2 (fun e => ?_) (fun e => ?_)⟩
    · exact ⟨_, rfl, _, _, rfl, rfl, 1, n + 1, rfl, rfl, .of_le (by decide) (by omega) (by decide) (by omega), whole 1 (n + 1) (by decide) (by omega) (by omega)⟩
    · refine ⟨_, rfl, rfl, _, rfl, ite2 (fun e => ?_) (fun e => ?_)⟩
      · exact ⟨_, rfl, _, _, rfl, rfl, 1000 - n, 1000, rfl, rfl, .of_le (by omega) (by decide) (by omega) (by decide), whole (1000 - n) 1000 (by omega) (by decide) (by omega)⟩
      · refine ⟨1, 1000, rfl, rfl, .of_le (by decide) (by decide) (by decide) (by decide), fun l nl => ?_⟩
        have la : l ≠ a := p1.ne nl
        refine ⟨_, rfl, n, rfl, by omega, by omega, fun D nD => ?_⟩
        have Dl : D ≠ l := fun z => by
          subst z
          rw [upd_same] at nD
          cases nD
        rw [upd_ne Dl] at nD
        have Da : D ≠ a := p1.ne nD
        refine lc_range (lo := 0) (n := n.toNat) (fun i H2 => ∃ taken left : List Int, H2 l = some (.lst (left.map V.int)) ∧ H2 D = some (.lst (taken.map V.int)) ∧ taken.length = i ∧ (taken ++ left).Perm (rg 1 1000) ∧ Pool H2 a ∧ Kp a H H2)
          ⟨[], rg 1 1000, ?_, upd_same, rfl, .refl _, (p1.upd la.symm).upd Da.symm, (k1.upd (k1.free nl la)).upd (k1.free nD Da)⟩ (fun i H2 hi hI => ?_) (fun H2 hI => ?_)
        · rw [upd_ne Dl.symm, upd_same, rgV_rg]
        · obtain ⟨taken, left, hl, hD, ht, hpm, p2, k2⟩ := hI
          have hlen : taken.length + left.length = 999 := by
            have := hpm.length_eq
            rw [List.length_append, rg_len] at this
            exact this
          refine ⟨rfl, _, rfl, .inl ⟨rfl, _, .inl (.inl hl)⟩, _, rfl, _, rfl, l, _, rfl, .inl (.inl (.inl hl)), a, _, rfl, ?_, ?_, p2, fun j H3 j0 j1 k3 p3 => ?_⟩
          · rw [List.length_map]; omega
          · rw [List.length_map]; omega
          · rw [List.length_map] at j1
            have lt : j.toNat < left.length := by omega
            have hl3 : H3 l = some (.lst (left.map V.int)) := k3 l _ hl la
            have hD3 : H3 D = some (.lst (taken.map V.int)) := k3 D _ hD Da
            refine ⟨l, left.map V.int, j, j.toNat, .int left[j.toNat], rfl, rfl, hl3, by omega, by omega, seqIx j0 (by rw [List.length_map]; exact j1), getI lt, taken.map V.int, ?_, ?_, ?_⟩
            · rw [upd_ne Dl]
              exact hD3
            · rw [List.length_map]
              exact len_lt (by omega)
            · refine ⟨taken ++ [left[j.toNat]], left.eraseIdx j.toNat, ?_, ?_, ?_, (take_perm lt).trans hpm, (p3.upd la.symm).upd Da.symm, ?_⟩
              · rw [upd_ne Dl.symm, upd_same, eraseI]
              · rw [upd_same, List.map_append]
                rfl
              · rw [List.length_append, ht]
                rfl
              · exact ((k2.trans k3).upd (k1.free nl la)).upd (k1.free nD Da)
        · obtain ⟨taken, left, hl, hD, ht, hpm, p2, k2⟩ := hI
          have nd : (taken ++ left).Nodup := hpm.nodup_iff.mpr (rg_nodup 1 1000)
          have mem : ∀ x ∈ taken, 1 ≤ x ∧ x ≤ 999 := fun x hx => by
            have := rg_mem (hpm.mem_iff.mp (List.mem_append_left left hx))
            omega
          refine ⟨D, taken, rfl, .inl (.inl hD), by omega, fun ns p pm _ np => ?_⟩
          have pa : p ≠ a := p2.ne np
          have pf : H p = none := k2.free np pa
          refine q p ns _ (k2.upd pf) (p2.upd pa.symm) pf upd_same ?_ ⟨?_, ?_, ?_, fun x hx => mem x (pm.mem_iff.mp hx)⟩
          · rw [pm.length_eq]; omega
          · rw [pm.length_eq]; omega
          · rw [pm.length_eq]; omega
          · exact pm.nodup_iff.mpr (List.nodup_append.mp nd).1
end
section
variable {P : Program} {w : World} {K : PySem.W.Frag} {mg : Str → Option Value} {base : Heap}
/-! ### people in a drawn order -/
abbrev s__law_mixed : Stmt := top 39
abbrev N__law_mixed : List Str := ["_law_pool_here", "_law_some", "_law_left", "_law_found", "_law_k"]
theorem sc__law_mixed : FnScope N__law_mixed ["_law_pool_here", "_law_some"] (defScope s__law_mixed) := ⟨rfl, rfl, rfl, by decide +kernel, rfl, by decide +kernel, by decide +kernel⟩
def spShuf (K : PySem.W.Frag) : Sp := fun vs H Q _ => ∃ (a t : Addr) (ns : List Int), vs = [.ref a, .ref t] ∧ t ≠ a ∧ (SqL K H t (ns.map V.int) ∨ SqT K H t (ns.map V.int)) ∧ ns.length ≤ 12 ∧ Pool H a ∧
  ∀ (p : Addr) (ms : List Int) (H' : Hp), Kp a H H' → Pool H' a → H p = none → TupAt H' p (ms.map V.int) → ms.Perm ns → Q (.ref p) H'
theorem ok_shuf (D : Df K mg "_law_mixed" s__law_mixed) (c__law_draw : Cl P w K mg base 1 "_law_draw" s__law_draw ["_law_pool_here", "_law_upto"] spDraw)
    (m_len : mg "len" = none) (m_tuple : mg "tuple" = none) (m_list : mg "list" = none) (m_range : mg "range" = none) : Cl P w K mg base 2 "_law_mixed" s__law_mixed ["_law_pool_here", "_law_some"] (spShuf K) := by
  refine D.ok sc__law_mixed (fun _ _ _ _ _ _ us hl => match us, hl with | [_, _], _ => rfl) (fun vs H Q E h => ?_) (fun f cdv A outer s H vs Q E hr h => ?_)
  · obtain ⟨a, t, ns, rfl, _⟩ := h
    rfl
  · obtain ⟨a, t, all, rfl, ta, hS, most, hp, q⟩ := h
    refine ⟨_, 
      (pss_cons (ps_par (i := 2) (j := 3) (by rfl) sc__law_mixed.nd rfl rfl (by decide) rfl rfl (pa_cons (pe_callTy call_list_of (by rfl) m_list (by decide +kernel) (pa_cons (pv 1) pa_nil)) (pa_cons (pe_lst pa_nil) pa_nil)) (by rfl)) 
      (pss_cons (ps_for PassesOwn.never rfl (pi_range1 (by rfl) m_range (pa_cons (pe_callB call_lenS (by rfl) m_len (by decide +kernel) (pa_cons (pv 1) pa_nil)) pa_nil)) (pg_name (i := 4) sc__law_mixed.nd rfl (Or.inl rfl)) (pss_one (ps_expr (pe_bm PySem.F.plainAttrs_list PySem.F.slot_list_append PySem.F.type_list_append mt_append (pv 3) (pa_cons (pe_bm PySem.F.plainAttrs_list PySem.F.slot_list_pop PySem.F.type_list_pop mt_popAt (pv 2) (pa_cons (pe_u c__law_draw hr (by omega) (by rfl) (pa_cons (pv 0) (pa_cons (pe_callB call_lenS (by rfl) m_len (by decide +kernel) (pa_cons (pv 2) pa_nil)) pa_nil))) pa_nil)) pa_nil))))) 
      (pss_one (ps_ret (pe_callTy call_tupF (by rfl) m_tuple (by decide +kernel) (pa_cons (pv 3) pa_nil)))))), ?_⟩
    refine ⟨_, rfl, t, _, rfl, hS, fun l nl => ⟨Nat.zero_le _, fun D nD => ⟨_, _, rfl, ?_⟩⟩⟩
    have la : l ≠ a := hp.ne nl
    have Dl : D ≠ l := fun z => by
      subst z
      rw [upd_same] at nD
      cases nD
    rw [upd_ne Dl] at nD
    have Da : D ≠ a := hp.ne nD
    have s2 : Same H (upd (upd H l (.lst (all.map V.int))) D (.lst [])) := (same_upd nl).trans (same_upd ((upd_ne Dl).trans nD))
    refine ⟨_, rfl, t, all.map V.int, rfl, hS.elim (fun z => .inl (s2.seq z)) (fun z => .inr (SqT.same s2 z)), ?_⟩
    refine ⟨((all.map V.int).length : Nat), rfl, by omega, ?_, ?_⟩
    · rw [List.length_map]
      omega
    refine for_range (lo := 0) (n := (((all.map V.int).length : Nat) : Int).toNat) (fun i σ H3 => ∃ (y : Option V) (taken left : List Int), σ = [some (.ref a), some (.ref t), some (.ref l), some (.ref D), y] ∧ H3 l = some (.lst (left.map V.int)) ∧ H3 D = some (.lst (taken.map V.int)) ∧ taken.length = i ∧ (taken ++ left).Perm all ∧ Pool H3 a ∧ Kp a H H3)
      ⟨none, [], all, rfl, ?_, upd_same, rfl, .refl _, (hp.upd la.symm).upd Da.symm, .of_same s2⟩ (fun i σ H3 hi hI => ?_) (fun σ H3 hI => ?_)
    · rw [upd_ne Dl.symm, upd_same]
    · obtain ⟨y, taken, left, rfl, hl3, hD3, ht, hpm, p3, k3⟩ := hI
      have ln : taken.length + left.length = all.length := by
        rw [← List.length_append]
        exact hpm.length_eq
      rw [List.length_map] at hi
      refine ⟨_, rfl, .inl ⟨rfl, _, .inl (.inl hD3)⟩, _, rfl, .inl ⟨rfl, _, .inl (.inl hl3)⟩, _, rfl, _, rfl, l, _, rfl, .inl (.inl (.inl hl3)), a, _, rfl, ?_, ?_, p3, fun j H4 j0 j1 k4 p4 => ?_⟩
      · rw [List.length_map]; omega
      · rw [List.length_map]; omega
      · rw [List.length_map] at j1
        have lt : j.toNat < left.length := by omega
        have hl4 : H4 l = some (.lst (left.map V.int)) := k4 l _ hl3 la
        have hD4 : H4 D = some (.lst (taken.map V.int)) := k4 D _ hD3 Da
        refine ⟨l, left.map V.int, j, j.toNat, .int left[j.toNat], rfl, rfl, hl4, by omega, by omega, seqIx j0 (by rw [List.length_map]; exact j1), getI lt, D, taken.map V.int, _, rfl, rfl, ?_, ?_, ?_⟩
        · rw [upd_ne Dl]
          exact hD4
        · rw [List.length_map]
          exact len_lt (by omega)
        · refine ⟨_, taken ++ [left[j.toNat]], left.eraseIdx j.toNat, rfl, ?_, ?_, ?_, (take_perm lt).trans hpm, (p4.upd la.symm).upd Da.symm, ((k3.trans k4).upd nl).upd nD⟩
          · rw [upd_ne Dl.symm, upd_same, eraseI]
          · rw [upd_same, List.map_append]
            rfl
          · rw [List.length_append, ht]
            rfl
    · obtain ⟨y, taken, left, rfl, hl3, hD3, ht, hpm, p3, k3⟩ := hI
      have ln : taken.length + left.length = all.length := by
        rw [← List.length_append]
        exact hpm.length_eq
      have l0 : left = [] := List.length_eq_zero_iff.mp (by
        rw [List.length_map] at ht
        omega)
      subst l0
      rw [List.append_nil] at hpm
      refine ⟨_, rfl, D, taken.map V.int, rfl, .inl (.inl hD3), fun p ob tb np => ?_⟩
      have pa : p ≠ a := p3.ne np
      have pf : H p = none := k3.free np pa
      exact q p taken _ (k3.upd pf) (p3.upd pa.symm) pf ⟨ob, tb, upd_same⟩ hpm
end
section
variable {P : Program} {w : World} {K : PySem.W.Frag} {mg : Str → Option Value} {base : Heap}
/-! ### people in a drawn order -/
abbrev s__law_people : Stmt := top 40
abbrev N__law_people : List Str := ["_law_pool_here", "_law_least", "_law_most"]
theorem sc__law_people : FnScope N__law_people ["_law_pool_here", "_law_least", "_law_most"] (defScope s__law_people) := ⟨rfl, rfl, rfl, by decide +kernel, rfl, by decide +kernel, by decide +kernel⟩
def spPeople : Sp := fun vs H Q _ => ∃ (a : Addr) (lo hi : Int), vs = [.ref a, .int lo, .int hi] ∧ 1 ≤ lo ∧ lo ≤ hi ∧ hi ≤ 12 ∧ Pool H a ∧
  ∀ (p : Addr) (ns : List Int) (H' : Hp), Kp a H H' → Pool H' a → H p = none → TupAt H' p (ns.map V.int) → lo ≤ ns.length → ns.length ≤ hi → Row ns → Q (.ref p) H'
theorem ok_people (D : Df K mg "_law_people" s__law_people) (c__law_draw : Cl P w K mg base 1 "_law_draw" s__law_draw ["_law_pool_here", "_law_upto"] spDraw) (c__law_heights : Cl P w K mg base 2 "_law_heights" s__law_heights ["_law_pool_here", "_law_many"] spHeights) (c__law_mixed : Cl P w K mg base 2 "_law_mixed" s__law_mixed ["_law_pool_here", "_law_some"] (spShuf K)) :
    Cl P w K mg base 3 "_law_people" s__law_people ["_law_pool_here", "_law_least", "_law_most"] spPeople := by
  refine D.ok sc__law_people (fun _ _ _ _ _ _ us hl => match us, hl with | [_, _, _], _ => rfl) (fun vs H Q E h => ?_) (fun f cdv A outer s H vs Q E hr h => ?_)
  · obtain ⟨a, lo, hi, rfl, _⟩ := h
    rfl
  · obtain ⟨a, lo, hi, rfl, h1, h2, h3, hp, q⟩ := h
    refine ⟨_, 
      (pss_one (ps_ret (pe_u c__law_mixed hr (by omega) (by rfl) (pa_cons (pv 0) (pa_cons (pe_u c__law_heights hr (by omega) (by rfl) (pa_cons (pv 0) (pa_cons (pe_op op_add (pv 1) (pe_u c__law_draw hr (by omega) (by rfl) (pa_cons (pv 0) (pa_cons (pe_op op_add (pe_op op_sub (pv 2) (pv 1)) pe_int) pa_nil)))) pa_nil))) pa_nil))))), ?_⟩
    refine ⟨_, rfl, _, rfl, _, rfl, _, rfl, _, rfl, _, rfl, _, _, rfl, rfl, _, _, rfl, rfl, a, _, rfl, by omega, by omega, hp, fun d H1 d0 d1 k1 p1 => ?_⟩
    refine ⟨_, _, rfl, rfl, a, _, rfl, by omega, by omega, p1, fun l all H2 k2 p2 nl hl hlen hrow => ?_⟩
    have la : l ≠ a := p1.ne nl
    refine ⟨a, l, all, rfl, la, .inl (.inl (.inl hl)), hrow.most, p2, fun p ms H3 k3 p3 np hp3 pm => ?_⟩
    have pa : p ≠ a := p2.ne np
    have ml := pm.length_eq
    exact q p ms H3 ((k1.trans k2).trans k3) p3 ((k1.trans k2).free np pa) hp3 (by omega) (by omega) (hrow.perm pm)
end
section
variable {P : Program} {w : World} {K : PySem.W.Frag} {mg : Str → Option Value} {base : Heap}
/-! ### rows -/
abbrev s_is_whole : Stmt := top 12
abbrev N_is_whole : List Str := ["value"]
theorem sc_is_whole : FnScope N_is_whole ["value"] (defScope s_is_whole) := ⟨rfl, rfl, rfl, by decide +kernel, rfl, by decide +kernel, by decide +kernel⟩
def spWhole (K : PySem.W.Frag) : Sp := fun vs H Q _ => ∃ (v : V) (T : String), vs = [v] ∧ Tv K H v T ∧ Q (.bl (decide (T = "int"))) H
theorem ok_whole (D : Df K mg "is_whole" s_is_whole) (m_isinstance : mg "isinstance" = none) (m_int : mg "int" = none) (m_bool : mg "bool" = none) : Cl P w K mg base 1 "is_whole" s_is_whole ["value"] (spWhole K) := by
  refine D.ok sc_is_whole (fun _ _ _ _ _ _ us hl => match us, hl with | [_], _ => rfl) (fun vs H Q E h => ?_) (fun f cdv A outer s H vs Q E hr h => ?_)
  · obtain ⟨v, T, rfl, _⟩ := h
    rfl
  · obtain ⟨v, T, rfl, t, q⟩ := h
    refine ⟨_, 
      (pss_one (ps_ret (pe_and (pe_callB call_isi (by rfl) m_isinstance (by decide +kernel) (pa_cons (pv 0) (pa_cons (pe_bltn (v := .ty "int") (by rfl) m_int (by decide +kernel) rfl) pa_nil))) (pe_one (pe_not (pe_callB call_isi (by rfl) m_isinstance (by decide +kernel) (pa_cons (pv 0) (pa_cons (pe_bltn (v := .ty "bool") (by rfl) m_bool (by decide +kernel) rfl) pa_nil)))))))), ?_⟩
    refine ⟨_, rfl, v, .ty "int", .type T, .type "int", _, rfl, .ty _, t.ty, kit_int t.mem, _, rfl, ?_⟩
    by_cases h1 : T = "int"
    · rw [decide_eq_true h1, Bool.true_or]
      refine iteT ⟨_, rfl, v, .ty "bool", .type T, .type "bool", _, rfl, .ty _, t.ty, kit_bool t.mem, _, rfl, ?_⟩
      rw [decide_eq_true h1] at q
      rw [decide_eq_false (show ¬ T = "bool" by rw [h1]; decide)]
      exact q
    · rw [decide_eq_false h1] at q
      rw [decide_eq_false h1, Bool.false_or]
      by_cases h2 : T = "bool"
      · rw [decide_eq_true h2]
        refine iteT ⟨_, rfl, v, .ty "bool", .type T, .type "bool", _, rfl, .ty _, t.ty, kit_bool t.mem, _, rfl, ?_⟩
        rw [decide_eq_true h2]
        exact q
      · rw [decide_eq_false h2]
        exact iteF q
abbrev s_is_whole_from : Stmt := top 13
abbrev N_is_whole_from : List Str := ["value", "least", "greatest"]
theorem sc_is_whole_from : FnScope N_is_whole_from ["value", "least", "greatest"] (defScope s_is_whole_from) := ⟨rfl, rfl, rfl, by decide +kernel, rfl, by decide +kernel, by decide +kernel⟩
def wholeB (v : V) (lo hi : Int) : Bool := match v with
  | .int i => decide (lo ≤ i) && decide (i ≤ hi)
  | _ => false
def spFrom (K : PySem.W.Frag) : Sp := fun vs H Q _ => ∃ (v : V) (T : String) (lo hi : Int), vs = [v, .int lo, .int hi] ∧ Tv K H v T ∧ Q (.bl (wholeB v lo hi)) H
theorem ok_from (D : Df K mg "is_whole_from" s_is_whole_from) (c_is_whole : Cl P w K mg base 1 "is_whole" s_is_whole ["value"] (spWhole K)) :
    Cl P w K mg base 2 "is_whole_from" s_is_whole_from ["value", "least", "greatest"] (spFrom K) := by
  refine D.ok sc_is_whole_from (fun _ _ _ _ _ _ us hl => match us, hl with | [_, _, _], _ => rfl) (fun vs H Q E h => ?_) (fun f cdv A outer s H vs Q E hr h => ?_)
  · obtain ⟨v, T, lo, hi, rfl, _⟩ := h
    rfl
  · obtain ⟨v, T, lo, hi, rfl, t, q⟩ := h
    refine ⟨_, 
      (pss_one (ps_ret (pe_and (pe_u c_is_whole hr (by omega) (by rfl) (pa_cons (pv 0) pa_nil)) (pe_one (pe_chain op_le op_le (pv 1) (pv 0) (pv 2)))))), ?_⟩
    refine ⟨_, rfl, v, T, rfl, t, _, rfl, ?_⟩
    by_cases h1 : T = "int"
    · rw [decide_eq_true h1]
      subst h1
      obtain ⟨i, rfl⟩ := t.int_of
      refine iteT ⟨_, rfl, _, rfl, _, _, rfl, rfl, _, rfl, ?_⟩
      have q2 : Q (.bl (decide (lo ≤ i) && decide (i ≤ hi))) H := q
      by_cases h2 : lo ≤ i
      · rw [decide_eq_true h2] at q2 ⊢
        exact iteT ⟨_, rfl, _, _, rfl, rfl, q2⟩
      · rw [decide_eq_false h2] at q2 ⊢
        exact iteF q2
    · rw [decide_eq_false h1]
      refine iteF ?_
      have e : wholeB v lo hi = false := by
        cases v with
        | int i => exact absurd t.of_int h1
        | _ => rfl
      rw [e] at q
      exact q
end
section
variable {P : Program} {w : World} {K : PySem.W.Frag} {mg : Str → Option Value} {base : Heap}
abbrev s_is_height : Stmt := top 14
abbrev N_is_height : List Str := ["value"]
theorem sc_is_height : FnScope N_is_height ["value"] (defScope s_is_height) := ⟨rfl, rfl, rfl, by decide +kernel, rfl, by decide +kernel, by decide +kernel⟩
def spHeight (K : PySem.W.Frag) : Sp := fun vs H Q _ => ∃ (v : V) (T : String), vs = [v] ∧ Tv K H v T ∧ Q (.bl (heightB v)) H
theorem ok_height (D : Df K mg "is_height" s_is_height) (c_is_whole_from : Cl P w K mg base 2 "is_whole_from" s_is_whole_from ["value", "least", "greatest"] (spFrom K)) {tg : Tok} (g_GREATEST_HEIGHT : mg "GREATEST_HEIGHT" = some (.int 999 tg)) :
    Cl P w K mg base 3 "is_height" s_is_height ["value"] (spHeight K) := by
  refine D.ok sc_is_height (fun _ _ _ _ _ _ us hl => match us, hl with | [_], _ => rfl) (fun vs H Q E h => ?_) (fun f cdv A outer s H vs Q E hr h => ?_)
  · obtain ⟨v, T, rfl, _⟩ := h
    rfl
  · obtain ⟨v, T, rfl, t, q⟩ := h
    refine ⟨_, 
      (pss_one (ps_ret (pe_u c_is_whole_from hr (by omega) (by rfl) (pa_cons (pv 0) (pa_cons pe_int (pa_cons (pe_glob (v := .int 999) (by rfl) g_GREATEST_HEIGHT ⟨_, rfl⟩) pa_nil)))))), ?_⟩
    have e : wholeB v 1 999 = heightB v := by cases v <;> rfl
    rw [← e] at q
    exact ⟨_, rfl, v, T, 1, 999, rfl, t, q⟩
abbrev s_may_be_row : Stmt := top 15
abbrev N_may_be_row : List Str := ["value"]
theorem sc_may_be_row : FnScope N_may_be_row ["value"] (defScope s_may_be_row) := ⟨rfl, rfl, rfl, by decide +kernel, rfl, by decide +kernel, by decide +kernel⟩
def spMay (K : PySem.W.Frag) : Sp := fun vs H Q _ => (∃ (v : V) (T : String), vs = [v] ∧ Tv K H v T ∧ T ≠ "tuple" ∧ Q (.bl false) H) ∨
  ∃ (a : Addr) (xs : List V), vs = [.ref a] ∧ SqT K H a xs ∧ Q (.bl (decide (1 ≤ xs.length) && decide (xs.length ≤ 12))) H
theorem ok_may (D : Df K mg "may_be_row" s_may_be_row) (m_isinstance : mg "isinstance" = none) (m_tuple : mg "tuple" = none) (m_len : mg "len" = none) {tg : Tok} (g_MOST_PEOPLE : mg "MOST_PEOPLE" = some (.int 12 tg)) :
    Cl P w K mg base 1 "may_be_row" s_may_be_row ["value"] (spMay K) := by
  refine D.ok sc_may_be_row (fun _ _ _ _ _ _ us hl => match us, hl with | [_], _ => rfl) (fun vs H Q E h => ?_) (fun f cdv A outer s H vs Q E hr h => ?_)
  · rcases h with ⟨v, T, rfl, _⟩ | ⟨a, xs, rfl, _⟩ <;> rfl
  · refine ⟨_, 
      (pss_one (ps_ret (pe_and (pe_callB call_isi (by rfl) m_isinstance (by decide +kernel) (pa_cons (pv 0) (pa_cons (pe_bltn (v := .ty "tuple") (by rfl) m_tuple (by decide +kernel) rfl) pa_nil))) (pe_one (pe_chain op_le op_le pe_int (pe_callB call_lenS (by rfl) m_len (by decide +kernel) (pa_cons (pv 0) pa_nil)) (pe_glob (v := .int 12) (by rfl) g_MOST_PEOPLE ⟨_, rfl⟩)))))), ?_⟩
    rcases h with ⟨v, T, rfl, t, h1, q⟩ | ⟨a, xs, rfl, hS, q⟩
    · refine ⟨_, rfl, v, .ty "tuple", .type T, .type "tuple", _, rfl, .ty _, t.ty, kit_tuple t.mem, _, rfl, ?_⟩
      rw [decide_eq_false h1]
      exact iteF q
    · refine ⟨_, rfl, .ref a, .ty "tuple", .type "tuple", .type "tuple", _, rfl, .ty _, (Tv.tup hS).ty, kit_tuple (Tv.tup hS).mem, _, rfl, iteT ?_⟩
      refine ⟨_, rfl, a, xs, rfl, .inr hS, _, _, rfl, rfl, _, rfl, ?_⟩
      have c1 : ((1 : Int) ≤ (xs.length : Int)) ↔ 1 ≤ xs.length := by omega
      have c2 : ((xs.length : Int) ≤ 12) ↔ xs.length ≤ 12 := by omega
      rw [show decide ((1 : Int) ≤ (xs.length : Int)) = decide (1 ≤ xs.length) from decide_eq_decide.mpr c1]
      by_cases h2 : 1 ≤ xs.length
      · rw [decide_eq_true h2] at q ⊢
        refine iteT ⟨_, _, rfl, rfl, ?_⟩
        show Q (.bl (decide ((xs.length : Int) ≤ 12))) H
        rw [show decide ((xs.length : Int) ≤ 12) = decide (xs.length ≤ 12) from decide_eq_decide.mpr c2]
        exact q
      · rw [decide_eq_false h2] at q ⊢
        exact iteF q
abbrev s_wrong_person : Stmt := top 16
abbrev N_wrong_person : List Str := ["row", "index", "person"]
theorem sc_wrong_person : FnScope N_wrong_person ["row"] (defScope s_wrong_person) := ⟨rfl, rfl, rfl, by decide +kernel, rfl, by decide +kernel, by decide +kernel⟩
def spWrong (K : PySem.W.Frag) : Sp := fun vs H Q _ => ∃ (a : Addr) (xs : List V), vs = [.ref a] ∧ SqT K H a xs ∧ xs.length ≤ 1000 ∧ (∀ x ∈ xs, ∃ T, Tv K H x T) ∧
  (∀ i : Nat, i < xs.length → okAt xs i = false → (∀ j < i, okAt xs j = true) → ∀ H', Same H H' → Q (.int (i : Nat)) H') ∧ ((∀ i, i < xs.length → okAt xs i = true) → ∀ H', Same H H' → Q .non H')
theorem ok_wrong (D : Df K mg "wrong_person" s_wrong_person) (c_is_height : Cl P w K mg base 3 "is_height" s_is_height ["value"] (spHeight K)) (m_enumerate : mg "enumerate" = none) :
    Cl P w K mg base 4 "wrong_person" s_wrong_person ["row"] (spWrong K) := by
  refine D.ok sc_wrong_person (fun _ _ _ _ _ _ us hl => match us, hl with | [_], _ => rfl) (fun vs H Q E h => ?_) (fun f cdv A outer s H vs Q E hr h => ?_)
  · obtain ⟨a, xs, rfl, _⟩ := h
    rfl
  · obtain ⟨a, xs, rfl, hS, hlen, hT, q1, q2⟩ := h
    refine ⟨_, 
      (pss_cons (ps_for PassesOwn.never rfl (pi_enumT (by rfl) m_enumerate (pa_cons (pv 0) pa_nil)) (pg_tup (by rfl) (pgs_cons (pg_name (i := 1) sc_wrong_person.nd rfl (Or.inl rfl)) (pgs_cons (pg_name (i := 2) sc_wrong_person.nd rfl (Or.inl rfl)) pgs_nil))) (pss_one (ps_if (PW.pt (pw_or (pt_not (pt_val (pe_u c_is_height hr (by omega) (by rfl) (pa_cons (pv 2) pa_nil)))) (pw_or1 (pt_cmpR op_in_seq (pv 2) (pe_slice sl_tup (pv 0) po_none (po_some (pv 1))) (by rfl))))) (pss_one (ps_ret (pv 1))) pss_nil))) 
      (pss_one (ps_ret pe_non))), ?_⟩
    refine ⟨_, rfl, a, xs, rfl, hS, ?_⟩
    refine walk_enumT (xs := xs) (fun i σ H2 => ∃ y1 y2 : Option V, σ = [some (.ref a), y1, y2] ∧ Same H H2 ∧ ∀ j < i, okAt xs j = true) ⟨none, none, rfl, Same.refl H, fun j hj => absurd hj (Nat.not_lt_zero j)⟩ (fun i σ H2 _ hI => ?_) (fun i x T σ H2 hx hI nT => ?_) (fun σ H2 hI => ?_)
    · obtain ⟨_, _, _, sm, _⟩ := hI
      exact SqT.same sm hS
    · obtain ⟨y1, y2, rfl, sm, oks⟩ := hI
      have lt : i < xs.length := (List.getElem?_eq_some_iff.mp hx).1
      have smT : Same H (upd H2 T (.tup [.int (i : Nat), x])) := sm.trans (same_upd nT)
      refine ⟨T, _, rfl, .inl (.inl upd_same), rfl, _, _, rfl, _, _, rfl, rfl, ?_⟩
      obtain ⟨Ty, tv⟩ := hT x (List.mem_of_getElem? hx)
      refine ⟨_, rfl, x, Ty, rfl, tv.same smT, _, rfl, ?_⟩
      have okE : okAt xs i = (heightB x && !inV x (xs.take i)) := by
        unfold okAt
        rw [hx]
      by_cases hB : heightB x = true
      · rw [hB]
        refine iteF ⟨_, rfl, _, rfl, _, rfl, _, rfl, a, xs, rfl, SqT.same smT hS, ?_, fun p np => ?_⟩
        · rintro ⟨_, e2⟩
          rw [HT.sIx_nat, Nat.min_eq_left (Nat.le_of_lt lt)] at e2
          omega
        · have ec : cutV xs none (some ((i : Nat) : Int)) = xs.take i := by
            unfold cutV
            rw [HT.sIx_none, HT.sIx_nat, Nat.min_eq_left (Nat.le_of_lt lt)]
            rfl
          obtain ⟨n, rfl, _⟩ := heightB_int hB
          rw [ec]
          refine ⟨p, xs.take i, rfl, .inr (.inl (.inl upd_same)), rfl, flat_of_ok (Nat.le_of_lt lt) oks, _, rfl, ?_⟩
          have smP : Same H (upd (upd H2 T (.tup [.int (i : Nat), .int n])) p (.tup (xs.take i))) := smT.trans (same_upd np)
          rw [hB, Bool.true_and] at okE
          show if inV (.int n) (xs.take i) = true then _ else _
          cases hin : inV (.int n) (xs.take i) with
          | true =>
            rw [hin] at okE
            exact iteT ⟨_, rfl, q1 i lt okE oks _ smP⟩
          | false =>
            rw [hin] at okE
            refine iteF ⟨_, _, rfl, smP, fun j hj => ?_⟩
            rcases Nat.lt_succ_iff_lt_or_eq.mp hj with z | z
            · exact oks j z
            · rw [z]
              exact okE
      · have hB2 : heightB x = false := Bool.eq_false_iff.mpr hB
        rw [hB2] at okE ⊢
        exact iteT (iteT ⟨_, rfl, q1 i lt okE oks _ smT⟩)
    · obtain ⟨y1, y2, rfl, sm, oks⟩ := hI
      exact q2 oks _ sm
end
section
variable {P : Program} {w : World} {K : PySem.W.Frag} {mg : Str → Option Value} {base : Heap}
abbrev s_check_row : Stmt := top 17
abbrev N_check_row : List Str := ["row", "index"]
theorem sc_check_row : FnScope N_check_row ["row"] (defScope s_check_row) := ⟨rfl, rfl, rfl, by decide +kernel, rfl, by decide +kernel, by decide +kernel⟩
def spCheckRow (K : PySem.W.Frag) : Sp := fun vs H Q _ => ∃ (a : Addr) (ns : List Int), vs = [.ref a] ∧ SqT K H a (ns.map V.int) ∧ Row ns ∧ ∀ H', Same H H' → Q .non H'
theorem ok_check_row (D : Df K mg "check_row" s_check_row) (c_may_be_row : Cl P w K mg base 1 "may_be_row" s_may_be_row ["value"] (spMay K)) (c_wrong_person : Cl P w K mg base 4 "wrong_person" s_wrong_person ["row"] (spWrong K)) :
    Cl P w K mg base 5 "check_row" s_check_row ["row"] (spCheckRow K) := by
  refine D.ok sc_check_row (fun _ _ _ _ _ _ us hl => match us, hl with | [_], _ => rfl) (fun vs H Q E h => ?_) (fun f cdv A outer s H vs Q E hr h => ?_)
  · obtain ⟨a, ns, rfl, _⟩ := h
    rfl
  · obtain ⟨a, ns, rfl, hS, hrow, q⟩ := h
    have l1 : 1 ≤ (ns.map V.int).length := by rw [List.length_map]; exact hrow.pos
    have l2 : (ns.map V.int).length ≤ 12 := by rw [List.length_map]; exact hrow.most
    refine ⟨_, 
      (pss_cons (ps_if (pt_not (pt_val (pe_u c_may_be_row hr (by omega) (by rfl) (pa_cons (pv 0) pa_nil)))) (pss_one ps_never) pss_nil) 
      (pss_cons (ps_set (i := 1) sc_check_row.nd rfl (Or.inl rfl) (pe_u c_wrong_person hr (by omega) (by rfl) (pa_cons (pv 0) pa_nil))) 
      (pss_one (ps_if (pt_cmpR op_notN (pv 1) pe_non (nomark _)) (pss_one ps_never) pss_nil)))), ?_⟩
    refine ⟨_, rfl, .inr ⟨a, _, rfl, hS, _, rfl, ?_⟩⟩
    rw [decide_eq_true l1, decide_eq_true l2]
    refine iteF ⟨_, rfl, a, _, rfl, hS, by omega, fun x hx => ?_, fun i _ ho => ?_, fun _ H' sm => ?_⟩
    · obtain ⟨n, _, rfl⟩ := List.mem_map.mp hx
      exact ⟨_, Tv.int n⟩
    · rw [hrow.ok i] at ho
      cases ho
    · refine ⟨_, rfl, rfl, _, rfl, ?_⟩
      rw [decide_eq_true rfl]
      exact iteF (q H' sm)
abbrev s_is_kind : Stmt := top 21
abbrev N_is_kind : List Str := ["value"]
theorem sc_is_kind : FnScope N_is_kind ["value"] (defScope s_is_kind) := ⟨rfl, rfl, rfl, by decide +kernel, rfl, by decide +kernel, by decide +kernel⟩
def spIsKind (K : PySem.W.Frag) : Sp := fun vs H Q _ => (∃ (v : V) (T : String), vs = [v] ∧ Tv K H v T ∧ T ≠ "str" ∧ Q (.bl false) H) ∨ ∃ z : Str, vs = [.str z] ∧ Q (.bl (kindB z)) H
theorem ok_is_kind (D : Df K mg "is_kind" s_is_kind) (m_isinstance : mg "isinstance" = none) (m_str : mg "str" = none) {a_KINDS : Addr} (g_KINDS : mg "KINDS" = some (.ref a_KINDS)) (hK : ∀ H : Hp, SqT K H a_KINDS [.str (ltr false), .str (ltr true)]) :
    Cl P w K mg base 1 "is_kind" s_is_kind ["value"] (spIsKind K) := by
  refine D.ok sc_is_kind (fun _ _ _ _ _ _ us hl => match us, hl with | [_], _ => rfl) (fun vs H Q E h => ?_) (fun f cdv A outer s H vs Q E hr h => ?_)
  · rcases h with ⟨v, T, rfl, _⟩ | ⟨z, rfl, _⟩ <;> rfl
  · refine ⟨_, 
      (pss_one (ps_ret (pe_and (pe_callB call_isi (by rfl) m_isinstance (by decide +kernel) (pa_cons (pv 0) (pa_cons (pe_bltn (v := .ty "str") (by rfl) m_str (by decide +kernel) rfl) pa_nil))) (pe_one (pe_cmpR op_in_seq (pv 0) (pe_glob (v := .ref a_KINDS) (by rfl) g_KINDS rfl) (by rfl)))))), ?_⟩
    rcases h with ⟨v, T, rfl, t, h1, q⟩ | ⟨z, rfl, q⟩
    · refine ⟨_, rfl, v, .ty "str", .type T, .type "str", _, rfl, .ty _, t.ty, kit_str t.mem, _, rfl, ?_⟩
      rw [decide_eq_false h1]
      exact iteF q
    · refine ⟨_, rfl, .str z, .ty "str", .type "str", .type "str", _, rfl, .ty _, .base (.str z), kit_str (T := "str") (by decide), _, rfl, iteT ?_⟩
      refine ⟨_, rfl, a_KINDS, _, rfl, .inr (hK H), rfl, rfl, ?_⟩
      show Q (.bl (inV (.str z) [.str (ltr false), .str (ltr true)])) H
      rw [inV_kinds]
      exact q
abbrev s_check_kind : Stmt := top 22
abbrev N_check_kind : List Str := ["kind"]
theorem sc_check_kind : FnScope N_check_kind ["kind"] (defScope s_check_kind) := ⟨rfl, rfl, rfl, by decide +kernel, rfl, by decide +kernel, by decide +kernel⟩
def spCheckKind : Sp := fun vs H Q _ => ∃ b : Bool, vs = [.str (ltr b)] ∧ Q .non H
theorem ok_check_kind (D : Df K mg "check_kind" s_check_kind) (c_is_kind : Cl P w K mg base 1 "is_kind" s_is_kind ["value"] (spIsKind K)) : Cl P w K mg base 2 "check_kind" s_check_kind ["kind"] spCheckKind := by
  refine D.ok sc_check_kind (fun _ _ _ _ _ _ us hl => match us, hl with | [_], _ => rfl) (fun vs H Q E h => ?_) (fun f cdv A outer s H vs Q E hr h => ?_)
  · obtain ⟨b, rfl, _⟩ := h
    rfl
  · obtain ⟨b, rfl, q⟩ := h
    refine ⟨_, 
      (pss_one (ps_if (pt_not (pt_val (pe_u c_is_kind hr (by omega) (by rfl) (pa_cons (pv 0) pa_nil)))) (pss_one ps_never) pss_nil)), ?_⟩
    refine ⟨_, rfl, .inr ⟨_, rfl, _, rfl, ?_⟩⟩
    rw [kindB_ltr]
    exact iteF q
abbrev s_takes_chair : Stmt := top 23
abbrev N_takes_chair : List Str := ["person", "sitter", "kind"]
theorem sc_takes_chair : FnScope N_takes_chair ["person", "sitter", "kind"] (defScope s_takes_chair) := ⟨rfl, rfl, rfl, by decide +kernel, rfl, by decide +kernel, by decide +kernel⟩
def spTakes : Sp := fun vs H Q _ => ∃ (p s : Int) (b : Bool), vs = [.int p, .int s, .str (ltr b)] ∧ Q (.bl (takes b p s)) H
theorem ok_takes (D : Df K mg "takes_chair" s_takes_chair) : Cl P w K mg base 1 "takes_chair" s_takes_chair ["person", "sitter", "kind"] spTakes := by
  refine D.ok sc_takes_chair (fun _ _ _ _ _ _ us hl => match us, hl with | [_, _, _], _ => rfl) (fun vs H Q E h => ?_) (fun f cdv A outer s H vs Q E hr h => ?_)
  · obtain ⟨p, s, b, rfl, _⟩ := h
    rfl
  · obtain ⟨p, s, b, rfl, q⟩ := h
    refine ⟨_, 
      (pss_cons (ps_if (pt_cmpR op_eq (pv 2) pe_str (nomark _)) (pss_one (ps_ret (pe_cmpR op_gt (pv 0) (pv 1) (nomark _)))) pss_nil) 
      (pss_one (ps_ret (pe_cmpR op_lt (pv 0) (pv 1) (nomark _))))), ?_⟩
    refine ⟨_, rfl, rfl, _, rfl, ?_⟩
    rw [ltrT]
    cases b with
    | true =>
      rw [decide_eq_true rfl]
      exact iteT ⟨_, rfl, _, rfl, _, _, rfl, rfl, q⟩
    | false =>
      rw [decide_eq_false (show ¬ V.str (ltr false) = V.str (ltr true) from fun z => absurd (ltr_inj (V.str.inj z)) (by decide))]
      exact iteF ⟨_, rfl, _, rfl, _, _, rfl, rfl, q⟩
/-! ### a walk past the chair -/
abbrev s_walk : Stmt := top 24
abbrev N_walk : List Str := ["people", "kind", "left", "seated", "person"]
theorem sc_walk : FnScope N_walk ["people", "kind"] (defScope s_walk) := ⟨rfl, rfl, rfl, by decide +kernel, rfl, by decide +kernel, by decide +kernel⟩
/-- what a walk leaves: a new pair of new lists -/
def WalkR (Q : VK) (H : Hp) (b : Bool) (ns : List Int) : Prop := ∀ (t l e : Addr) (H' : Hp), Same H H' → H t = none → H l = none → H e = none → t ≠ l → t ≠ e → l ≠ e → H' t = some (.tup [.ref l, .ref e]) → H' l = some (.lst ((passL b ns).map V.int)) → H' e = some (.lst ((seatL b ns).map V.int)) → Q (.ref t) H'
def spWalkL (K : PySem.W.Frag) : Sp := fun vs H Q _ => ∃ (a : Addr) (ns : List Int) (b : Bool), vs = [.ref a, .str (ltr b)] ∧ SqL K H a (ns.map V.int) ∧ 1 ≤ ns.length ∧ ns.length ≤ 12 ∧ WalkR Q H b ns
theorem ok_walkL (D : Df K mg "walk" s_walk) (c_takes_chair : Cl P w K mg base 1 "takes_chair" s_takes_chair ["person", "sitter", "kind"] spTakes) : Cl P w K mg base 2 "walk" s_walk ["people", "kind"] (spWalkL K) := by
  refine D.ok sc_walk (fun _ _ _ _ _ _ us hl => match us, hl with | [_, _], _ => rfl) (fun vs H Q E h => ?_) (fun f cdv A outer s H vs Q E hr h => ?_)
  · obtain ⟨a, ns, b, rfl, _⟩ := h
    rfl
  · obtain ⟨a, ns, b, rfl, hS, h1, h2, q⟩ := h
    obtain ⟨x, xs, rfl⟩ : ∃ x xs, ns = x :: xs := by
      cases ns with
      | nil => exact absurd h1 (by decide)
      | cons x xs => exact ⟨x, xs, rfl⟩
    rw [List.length_cons] at h2
    refine ⟨_, 
      (pss_cons (ps_set (i := 2) sc_walk.nd rfl (Or.inl rfl) (pe_lst pa_nil)) 
      (pss_cons (ps_set (i := 3) sc_walk.nd rfl (Or.inl rfl) (pe_lst (pa_cons (pe_ix ix_list (pv 0) pe_int (fun _ _ => rfl)) pa_nil))) 
      (pss_cons (ps_for PassesOwn.never rfl (pi_list (pe_slice sl_list (pv 0) (po_some pe_int) po_none)) (pg_name (i := 4) sc_walk.nd rfl (Or.inl rfl)) (pss_one (ps_if (pt_val (pe_u c_takes_chair hr (by omega) (by rfl) (pa_cons (pv 4) (pa_cons (pe_ix ix_list (pv 3) (pe_un un_neg pe_int) (fun _ _ => rfl)) (pa_cons (pv 1) pa_nil))))) (pss_cons (ps_expr (pe_bm PySem.F.plainAttrs_list PySem.F.slot_list_append PySem.F.type_list_append mt_append (pv 2) (pa_cons (pe_ix ix_list (pv 3) (pe_un un_neg pe_int) (fun _ _ => rfl)) pa_nil))) (pss_one (ps_expr (pe_bm PySem.F.plainAttrs_list PySem.F.slot_list_append PySem.F.type_list_append mt_append (pv 3) (pa_cons (pv 4) pa_nil))))) (pss_one (ps_expr (pe_bm PySem.F.plainAttrs_list PySem.F.slot_list_append PySem.F.type_list_append mt_append (pv 2) (pa_cons (pv 4) pa_nil))))))) 
      (pss_cons (ps_expr (pe_bm PySem.F.plainAttrs_list PySem.F.slot_list_append PySem.F.type_list_append mt_append (pv 2) (pa_cons (pe_ix ix_list (pv 3) (pe_un un_neg pe_int) (fun _ _ => rfl)) pa_nil))) 
      (pss_one (ps_ret (pe_tup (pa_cons (pv 2) (pa_cons (pv 3) pa_nil))))))))), ?_⟩
    refine ⟨Nat.zero_le _, fun l nl => ?_⟩
    have s1 : Same H (upd H l (.lst [])) := same_upd nl
    refine ⟨_, rfl, a, _, 0, .int x, rfl, rfl, s1.seq hS, atI_nat (j := 0) rfl, (by show 1 ≤ sizeLine; decide), fun e ne => ?_⟩
    have el : e ≠ l := fun z => by
      subst z
      rw [upd_same] at ne
      cases ne
    have ne0 : H e = none := by
      rw [upd_ne el] at ne
      exact ne
    have s2 : Same H (upd (upd H l (.lst [])) e (.lst [.int x])) := s1.trans (same_upd ne)
    refine ⟨_, rfl, 1, rfl, a, _, rfl, s2.seq hS, fun c nc => ?_⟩
    have s3 : Same H (upd (upd (upd H l (.lst [])) e (.lst [.int x])) c (.lst (cutV ((x :: xs).map V.int) (some 1) none))) := s2.trans (same_upd nc)
    have ec : cutV ((x :: xs).map V.int) (some 1) none = xs.map V.int := cut1
    have hl0 : (upd (upd H l (.lst [])) e (.lst [.int x])) l = some (.lst []) := by
      rw [upd_ne el.symm, upd_same]
    have lc : l ≠ c := ne_of_none hl0 nc
    have hc : e ≠ c := ne_of_none upd_same nc
    rw [ec] at s3 ⊢
    refine ⟨c, rfl, ⟨_, .inl (.inl upd_same)⟩, ?_⟩
    refine for_list (xs := xs.map V.int) (fun i σ H2 => ∃ y : Option V, σ = [some (.ref a), some (.str (ltr b)), some (.ref l), some (.ref e), y] ∧ Same H H2 ∧ H2 c = some (.lst (xs.map V.int)) ∧
        H2 l = some (.lst (((xs.take i).foldl (stepW b) ([], [], x)).1.map V.int)) ∧ H2 e = some (.lst (((xs.take i).foldl (stepW b) ([], [], x)).2.1.map V.int ++ [.int ((xs.take i).foldl (stepW b) ([], [], x)).2.2])))
      ⟨none, rfl, s3, upd_same, ?_, ?_⟩ (fun i σ H2 _ hI => ?_) (fun i v σ H2 hv hI => ?_) (fun σ H2 hI => ?_)
    · rw [upd_ne lc]
      exact hl0
    · rw [upd_ne hc, upd_same]
      rfl
    · obtain ⟨_, _, _, h3, _⟩ := hI
      exact .inl (.inl h3)
    · obtain ⟨y, rfl, sm, hC, hl, he⟩ := hI
      have lt : i < xs.length := by
        have := (List.getElem?_eq_some_iff.mp hv).1
        rw [List.length_map] at this
        exact this
      have ev : v = .int xs[i] := Option.some.inj (hv.symm.trans (getI lt))
      subst ev
      have ft := fold_take (f := stepW b) (z := (([], [], x) : List Int × List Int × Int)) (List.getElem?_eq_getElem lt)
      have ln := runW_len b (xs.take i) [] [] x
      generalize (xs.take i).foldl (stepW b) ([], [], x) = r at hl he ft ln
      rw [List.length_take, Nat.min_eq_left (Nat.le_of_lt lt), List.length_nil] at ln
      refine ⟨_, rfl, _, rfl, 1, rfl, e, _, -1, _, rfl, rfl, .inl (.inl he), atI_last _ _, _, rfl, xs[i], r.2.2, b, rfl, _, rfl, ?_⟩
      have lne : l ≠ e := el.symm
      have step : stepW b r xs[i] = (if takes b xs[i] r.2.2 = true then (r.1 ++ [r.2.2], r.2.1 ++ [r.2.2], xs[i]) else (r.1 ++ [xs[i]], r.2.1, r.2.2)) := rfl
      cases ht : takes b xs[i] r.2.2 with
      | true =>
        rw [ht, if_pos rfl] at step
        refine iteT ⟨_, rfl, .inl ⟨rfl, _, .inl (.inl hl)⟩, _, rfl, 1, rfl, e, _, -1, _, rfl, rfl, .inl (.inl he), atI_last _ _, l, _, _, rfl, rfl, hl, ?_, ?_⟩
        · rw [List.length_map]
          exact len_lt (by omega)
        · have he2 : (upd H2 l (.lst (r.1.map V.int ++ [.int r.2.2]))) e = some (.lst (r.2.1.map V.int ++ [.int r.2.2])) := by
            rw [upd_ne el]
            exact he
          refine ⟨_, rfl, .inl ⟨rfl, _, .inl (.inl he2)⟩, _, rfl, e, _, _, rfl, rfl, he2, ?_, _, rfl, fun u o eu => ?_, ?_, ?_, ?_⟩
          · rw [List.length_append, List.length_map]
            exact len_lt (by show _ + 1 ≤ _; omega)
          · rw [upd_ne (ne_of_none eu ne0), upd_ne (ne_of_none eu nl)]
            exact sm u o eu
          · rw [upd_ne hc.symm, upd_ne lc.symm]
            exact hC
          · rw [upd_ne lne, upd_same, ft, step, List.map_append]
            rfl
          · rw [upd_same, ft, step, List.map_append]
            rfl
      | false =>
        rw [ht, if_neg (by decide)] at step
        refine iteF ⟨_, rfl, .inl ⟨rfl, _, .inl (.inl hl)⟩, _, rfl, l, _, _, rfl, rfl, hl, ?_, _, rfl, fun u o eu => ?_, ?_, ?_, ?_⟩
        · rw [List.length_map]
          exact len_lt (by omega)
        · rw [upd_ne (ne_of_none eu nl)]
          exact sm u o eu
        · rw [upd_ne lc.symm]
          exact hC
        · rw [upd_same, ft, step, List.map_append]
          rfl
        · rw [upd_ne el, ft, step]
          exact he
    · obtain ⟨y, rfl, sm, hC, hl, he⟩ := hI
      rw [List.length_map, List.take_length] at hl he
      have ln := runW_len b xs [] [] x
      have eP : passL b (x :: xs) = (xs.foldl (stepW b) ([], [], x)).1 ++ [(xs.foldl (stepW b) ([], [], x)).2.2] := rfl
      have eS : seatL b (x :: xs) = (xs.foldl (stepW b) ([], [], x)).2.1 ++ [(xs.foldl (stepW b) ([], [], x)).2.2] := rfl
      unfold WalkR at q
      rw [eP, eS] at q
      generalize xs.foldl (stepW b) ([], [], x) = r at hl he q ln
      rw [List.length_nil] at ln
      refine ⟨_, rfl, .inl ⟨rfl, _, .inl (.inl hl)⟩, _, rfl, 1, rfl, e, _, -1, _, rfl, rfl, .inl (.inl he), atI_last _ _, l, _, _, rfl, rfl, hl, ?_, ?_⟩
      · rw [List.length_map]
        exact len_lt (by omega)
      · refine ⟨_, rfl, _, rfl, (by show 2 ≤ sizeLine; decide), fun t nt => ?_⟩
        have tl : t ≠ l := fun z => by
          subst z
          rw [upd_same] at nt
          cases nt
        rw [upd_ne tl] at nt
        have te : t ≠ e := fun z => by
          subst z
          rw [he] at nt
          cases nt
        refine q t l e _ (fun u o eu => ?_) (sm.free nt) nl ne0 tl te el.symm upd_same ?_ ?_
        · rw [upd_ne (ne_of_none eu (sm.free nt)), upd_ne (ne_of_none eu nl)]
          exact sm u o eu
        · rw [upd_ne tl.symm, upd_same, List.map_append]
          rfl
        · rw [upd_ne te.symm, upd_ne el, List.map_append]
          exact he
def spWalkT (K : PySem.W.Frag) : Sp := fun vs H Q _ => ∃ (a : Addr) (ns : List Int) (b : Bool), vs = [.ref a, .str (ltr b)] ∧ SqT K H a (ns.map V.int) ∧ 1 ≤ ns.length ∧ ns.length ≤ 12 ∧ WalkR Q H b ns
theorem ok_walkT (D : Df K mg "walk" s_walk) (c_takes_chair : Cl P w K mg base 1 "takes_chair" s_takes_chair ["person", "sitter", "kind"] spTakes) : Cl P w K mg base 2 "walk" s_walk ["people", "kind"] (spWalkT K) := by
  refine D.ok sc_walk (fun _ _ _ _ _ _ us hl => match us, hl with | [_, _], _ => rfl) (fun vs H Q E h => ?_) (fun f cdv A outer s H vs Q E hr h => ?_)
  · obtain ⟨a, ns, b, rfl, _⟩ := h
    rfl
  · obtain ⟨a, ns, b, rfl, hS, h1, h2, q⟩ := h
    obtain ⟨x, xs, rfl⟩ : ∃ x xs, ns = x :: xs := by
      cases ns with
      | nil => exact absurd h1 (by decide)
      | cons x xs => exact ⟨x, xs, rfl⟩
    rw [List.length_cons] at h2
    refine ⟨_, 
      (pss_cons (ps_set (i := 2) sc_walk.nd rfl (Or.inl rfl) (pe_lst pa_nil)) 
      (pss_cons (ps_set (i := 3) sc_walk.nd rfl (Or.inl rfl) (pe_lst (pa_cons (pe_ix ix_tup (pv 0) pe_int (fun _ _ => rfl)) pa_nil))) 
      (pss_cons (ps_for PassesOwn.never rfl (pi_tup (pe_slice sl_tup (pv 0) (po_some pe_int) po_none)) (pg_name (i := 4) sc_walk.nd rfl (Or.inl rfl)) (pss_one (ps_if (pt_val (pe_u c_takes_chair hr (by omega) (by rfl) (pa_cons (pv 4) (pa_cons (pe_ix ix_list (pv 3) (pe_un un_neg pe_int) (fun _ _ => rfl)) (pa_cons (pv 1) pa_nil))))) (pss_cons (ps_expr (pe_bm PySem.F.plainAttrs_list PySem.F.slot_list_append PySem.F.type_list_append mt_append (pv 2) (pa_cons (pe_ix ix_list (pv 3) (pe_un un_neg pe_int) (fun _ _ => rfl)) pa_nil))) (pss_one (ps_expr (pe_bm PySem.F.plainAttrs_list PySem.F.slot_list_append PySem.F.type_list_append mt_append (pv 3) (pa_cons (pv 4) pa_nil))))) (pss_one (ps_expr (pe_bm PySem.F.plainAttrs_list PySem.F.slot_list_append PySem.F.type_list_append mt_append (pv 2) (pa_cons (pv 4) pa_nil))))))) 
      (pss_cons (ps_expr (pe_bm PySem.F.plainAttrs_list PySem.F.slot_list_append PySem.F.type_list_append mt_append (pv 2) (pa_cons (pe_ix ix_list (pv 3) (pe_un un_neg pe_int) (fun _ _ => rfl)) pa_nil))) 
      (pss_one (ps_ret (pe_tup (pa_cons (pv 2) (pa_cons (pv 3) pa_nil))))))))), ?_⟩
    refine ⟨Nat.zero_le _, fun l nl => ?_⟩
    have s1 : Same H (upd H l (.lst [])) := same_upd nl
    refine ⟨_, rfl, a, _, 0, .int x, rfl, rfl, SqT.same s1 hS, atI_nat (j := 0) rfl, (by show 1 ≤ sizeLine; decide), fun e ne => ?_⟩
    have el : e ≠ l := fun z => by
      subst z
      rw [upd_same] at ne
      cases ne
    have ne0 : H e = none := by
      rw [upd_ne el] at ne
      exact ne
    have s2 : Same H (upd (upd H l (.lst [])) e (.lst [.int x])) := s1.trans (same_upd ne)
    refine ⟨_, rfl, 1, rfl, a, _, rfl, SqT.same s2 hS, (fun z => absurd z.1 (nw1 (by rw [List.length_map]; exact h1))), fun c nc => ?_⟩
    have s3 : Same H (upd (upd (upd H l (.lst [])) e (.lst [.int x])) c (.tup (cutV ((x :: xs).map V.int) (some 1) none))) := s2.trans (same_upd nc)
    have ec : cutV ((x :: xs).map V.int) (some 1) none = xs.map V.int := cut1
    have hl0 : (upd (upd H l (.lst [])) e (.lst [.int x])) l = some (.lst []) := by
      rw [upd_ne el.symm, upd_same]
    have lc : l ≠ c := ne_of_none hl0 nc
    have hc : e ≠ c := ne_of_none upd_same nc
    rw [ec] at s3 ⊢
    refine ⟨c, rfl, ⟨_, .inl (.inl upd_same)⟩, ?_⟩
    refine for_tup (xs := xs.map V.int) (fun i σ H2 => ∃ y : Option V, σ = [some (.ref a), some (.str (ltr b)), some (.ref l), some (.ref e), y] ∧ Same H H2 ∧ H2 c = some (.tup (xs.map V.int)) ∧
        H2 l = some (.lst (((xs.take i).foldl (stepW b) ([], [], x)).1.map V.int)) ∧ H2 e = some (.lst (((xs.take i).foldl (stepW b) ([], [], x)).2.1.map V.int ++ [.int ((xs.take i).foldl (stepW b) ([], [], x)).2.2])))
      ⟨none, rfl, s3, upd_same, ?_, ?_⟩ (fun i σ H2 _ hI => ?_) (fun i v σ H2 hv hI => ?_) (fun σ H2 hI => ?_)
    · rw [upd_ne lc]
      exact hl0
    · rw [upd_ne hc, upd_same]
      rfl
    · obtain ⟨_, _, _, h3, _⟩ := hI
      exact .inl (.inl h3)
    · obtain ⟨y, rfl, sm, hC, hl, he⟩ := hI
      have lt : i < xs.length := by
        have := (List.getElem?_eq_some_iff.mp hv).1
        rw [List.length_map] at this
        exact this
      have ev : v = .int xs[i] := Option.some.inj (hv.symm.trans (getI lt))
      subst ev
      have ft := fold_take (f := stepW b) (z := (([], [], x) : List Int × List Int × Int)) (List.getElem?_eq_getElem lt)
      have ln := runW_len b (xs.take i) [] [] x
      generalize (xs.take i).foldl (stepW b) ([], [], x) = r at hl he ft ln
      rw [List.length_take, Nat.min_eq_left (Nat.le_of_lt lt), List.length_nil] at ln
      refine ⟨_, rfl, _, rfl, 1, rfl, e, _, -1, _, rfl, rfl, .inl (.inl he), atI_last _ _, _, rfl, xs[i], r.2.2, b, rfl, _, rfl, ?_⟩
      have lne : l ≠ e := el.symm
      have step : stepW b r xs[i] = (if takes b xs[i] r.2.2 = true then (r.1 ++ [r.2.2], r.2.1 ++ [r.2.2], xs[i]) else (r.1 ++ [xs[i]], r.2.1, r.2.2)) := rfl
      cases ht : takes b xs[i] r.2.2 with
      | true =>
        rw [ht, if_pos rfl] at step
        refine iteT ⟨_, rfl, .inl ⟨rfl, _, .inl (.inl hl)⟩, _, rfl, 1, rfl, e, _, -1, _, rfl, rfl, .inl (.inl he), atI_last _ _, l, _, _, rfl, rfl, hl, ?_, ?_⟩
        · rw [List.length_map]
          exact len_lt (by omega)
        · have he2 : (upd H2 l (.lst (r.1.map V.int ++ [.int r.2.2]))) e = some (.lst (r.2.1.map V.int ++ [.int r.2.2])) := by
            rw [upd_ne el]
            exact he
          refine ⟨_, rfl, .inl ⟨rfl, _, .inl (.inl he2)⟩, _, rfl, e, _, _, rfl, rfl, he2, ?_, _, rfl, fun u o eu => ?_, ?_, ?_, ?_⟩
          · rw [List.length_append, List.length_map]
            exact len_lt (by show _ + 1 ≤ _; omega)
          · rw [upd_ne (ne_of_none eu ne0), upd_ne (ne_of_none eu nl)]
            exact sm u o eu
          · rw [upd_ne hc.symm, upd_ne lc.symm]
            exact hC
          · rw [upd_ne lne, upd_same, ft, step, List.map_append]
            rfl
          · rw [upd_same, ft, step, List.map_append]
            rfl
      | false =>
        rw [ht, if_neg (by decide)] at step
        refine iteF ⟨_, rfl, .inl ⟨rfl, _, .inl (.inl hl)⟩, _, rfl, l, _, _, rfl, rfl, hl, ?_, _, rfl, fun u o eu => ?_, ?_, ?_, ?_⟩
        · rw [List.length_map]
          exact len_lt (by omega)
        · rw [upd_ne (ne_of_none eu nl)]
          exact sm u o eu
        · rw [upd_ne lc.symm]
          exact hC
        · rw [upd_same, ft, step, List.map_append]
          rfl
        · rw [upd_ne el, ft, step]
          exact he
    · obtain ⟨y, rfl, sm, hC, hl, he⟩ := hI
      rw [List.length_map, List.take_length] at hl he
      have ln := runW_len b xs [] [] x
      have eP : passL b (x :: xs) = (xs.foldl (stepW b) ([], [], x)).1 ++ [(xs.foldl (stepW b) ([], [], x)).2.2] := rfl
      have eS : seatL b (x :: xs) = (xs.foldl (stepW b) ([], [], x)).2.1 ++ [(xs.foldl (stepW b) ([], [], x)).2.2] := rfl
      unfold WalkR at q
      rw [eP, eS] at q
      generalize xs.foldl (stepW b) ([], [], x) = r at hl he q ln
      rw [List.length_nil] at ln
      refine ⟨_, rfl, .inl ⟨rfl, _, .inl (.inl hl)⟩, _, rfl, 1, rfl, e, _, -1, _, rfl, rfl, .inl (.inl he), atI_last _ _, l, _, _, rfl, rfl, hl, ?_, ?_⟩
      · rw [List.length_map]
        exact len_lt (by omega)
      · refine ⟨_, rfl, _, rfl, (by show 2 ≤ sizeLine; decide), fun t nt => ?_⟩
        have tl : t ≠ l := fun z => by
          subst z
          rw [upd_same] at nt
          cases nt
        rw [upd_ne tl] at nt
        have te : t ≠ e := fun z => by
          subst z
          rw [he] at nt
          cases nt
        refine q t l e _ (fun u o eu => ?_) (sm.free nt) nl ne0 tl te el.symm upd_same ?_ ?_
        · rw [upd_ne (ne_of_none eu (sm.free nt)), upd_ne (ne_of_none eu nl)]
          exact sm u o eu
        · rw [upd_ne tl.symm, upd_same, List.map_append]
          rfl
        · rw [upd_ne te.symm, upd_ne el, List.map_append]
          exact he
/-! ### one pass -/
abbrev s_single_pass : Stmt := top 25
abbrev N_single_pass : List Str := ["row", "kind", "left", "seated"]
theorem sc_single_pass : FnScope N_single_pass ["row", "kind"] (defScope s_single_pass) := ⟨rfl, rfl, rfl, by decide +kernel, rfl, by decide +kernel, by decide +kernel⟩
def spSingle (K : PySem.W.Frag) : Sp := fun vs H Q _ => ∃ (a : Addr) (ns : List Int) (b : Bool), vs = [.ref a, .str (ltr b)] ∧ SqT K H a (ns.map V.int) ∧ Row ns ∧
  ∀ (p : Addr) (H' : Hp), Same H H' → H p = none → H' p = some (.tup ((passL b ns).map V.int)) → Q (.ref p) H'
def spSingleF (K : PySem.W.Frag) : Sp := fun vs H Q _ => ∃ (a : Addr) (ns : List Int) (b : Bool), vs = [.ref a, .str (ltr b)] ∧ SqT K H a (ns.map V.int) ∧ Row ns ∧
  ∀ (p : Addr) (H' : Hp), Same H H' → H p = none → TupAt H' p ((passL b ns).map V.int) → Q (.ref p) H'
theorem ok_single (D : Df K mg "single_pass" s_single_pass) (c_check_row : Cl P w K mg base 5 "check_row" s_check_row ["row"] (spCheckRow K)) (c_check_kind : Cl P w K mg base 2 "check_kind" s_check_kind ["kind"] spCheckKind)
    (c_walkT : Cl P w K mg base 2 "walk" s_walk ["people", "kind"] (spWalkT K)) (m_tuple : mg "tuple" = none) : Cl P w K mg base 6 "single_pass" s_single_pass ["row", "kind"] (spSingleF K) := by
  refine D.ok sc_single_pass (fun _ _ _ _ _ _ us hl => match us, hl with | [_, _], _ => rfl) (fun vs H Q E h => ?_) (fun f cdv A outer s H vs Q E hr h => ?_)
  · obtain ⟨a, ns, b, rfl, _⟩ := h
    rfl
  · obtain ⟨a, ns, b, rfl, hS, hrow, q⟩ := h
    refine ⟨_, 
      (pss_cons (ps_expr (pe_u c_check_row hr (by omega) (by rfl) (pa_cons (pv 0) pa_nil))) 
      (pss_cons (ps_expr (pe_u c_check_kind hr (by omega) (by rfl) (pa_cons (pv 1) pa_nil))) 
      (pss_cons (ps_asg (pe_u c_walkT hr (by omega) (by rfl) (pa_cons (pv 0) (pa_cons (pv 1) pa_nil))) (pg_tup (by rfl) (pgs_cons (pg_name (i := 2) sc_single_pass.nd rfl (Or.inl rfl)) (pgs_cons (pg_name (i := 3) sc_single_pass.nd rfl (Or.inl rfl)) pgs_nil)))) 
      (pss_one (ps_ret (pe_callTy call_tupF (by rfl) m_tuple (by decide +kernel) (pa_cons (pv 2) pa_nil))))))), ?_⟩
    refine ⟨_, rfl, a, ns, rfl, hS, hrow, fun H1 s1 => ?_⟩
    refine ⟨_, rfl, b, rfl, _, rfl, _, rfl, a, ns, b, rfl, SqT.same s1 hS, hrow.pos, hrow.most, fun t l e H2 s2 nt nl ne tl te le ht hl he => ?_⟩
    refine ⟨t, _, rfl, .inl (.inl ht), rfl, _, _, rfl, _, _, rfl, rfl, _, rfl, l, _, rfl, .inl (.inl hl), fun p ob tb np => ?_⟩
    exact q p _ ((s1.trans s2).trans (same_upd np)) ((s1.trans s2).free np) ⟨ob, tb, upd_same⟩
end
section
variable {P : Program} {w : World} {K : PySem.W.Frag} {mg : Str → Option Value} {base : Heap}
/-! ### desks: what is checked -/
abbrev s_check_number : Stmt := top 18
abbrev N_check_number : List Str := ["number", "least", "greatest"]
theorem sc_check_number : FnScope N_check_number ["number", "least", "greatest"] (defScope s_check_number) := ⟨rfl, rfl, rfl, by decide +kernel, rfl, by decide +kernel, by decide +kernel⟩
def spNum : Sp := fun vs H Q _ => ∃ n lo hi : Int, vs = [.int n, .int lo, .int hi] ∧ lo ≤ n ∧ n ≤ hi ∧ Q .non H
theorem ok_num (D : Df K mg "check_number" s_check_number) (c_is_whole_from : Cl P w K mg base 2 "is_whole_from" s_is_whole_from ["value", "least", "greatest"] (spFrom K)) :
    Cl P w K mg base 3 "check_number" s_check_number ["number", "least", "greatest"] spNum := by
  refine D.ok sc_check_number (fun _ _ _ _ _ _ us hl => match us, hl with | [_, _, _], _ => rfl) (fun vs H Q E h => ?_) (fun f cdv A outer s H vs Q E hr h => ?_)
  · obtain ⟨n, lo, hi, rfl, _⟩ := h
    rfl
  · obtain ⟨n, lo, hi, rfl, h0, h1, q⟩ := h
    refine ⟨_, 
      (pss_one (ps_if (pt_not (pt_val (pe_u c_is_whole_from hr (by omega) (by rfl) (pa_cons (pv 0) (pa_cons (pv 1) (pa_cons (pv 2) pa_nil)))))) (pss_one ps_never) pss_nil)), ?_⟩
    refine ⟨_, rfl, _, rfl, _, rfl, .int n, "int", lo, hi, rfl, Tv.int n, _, rfl, ?_⟩
    have e : wholeB (.int n) lo hi = true := by
      show (decide (lo ≤ n) && decide (n ≤ hi)) = true
      rw [decide_eq_true h0, decide_eq_true h1]
      rfl
    rw [e]
    exact iteF q
end
section
variable {P : Program} {w : World} {K : PySem.W.Frag} {mg : Str → Option Value} {base : Heap}
/-! ### shares -/
abbrev s_greatest_divisor : Stmt := top 28
abbrev N_greatest_divisor : List Str := ["one", "other"]
theorem sc_greatest_divisor : FnScope N_greatest_divisor ["one", "other"] (defScope s_greatest_divisor) := ⟨rfl, rfl, rfl, by decide +kernel, rfl, by decide +kernel, by decide +kernel⟩
def spGcd : Sp := fun vs H Q _ => ∃ a b : Nat, vs = [.int (a : Nat), .int (b : Nat)] ∧ Q (.int ((Nat.gcd a b : Nat) : Int)) H
theorem ok_gcd (D : Df K mg "greatest_divisor" s_greatest_divisor) : Cl P w K mg base 1 "greatest_divisor" s_greatest_divisor ["one", "other"] spGcd := by
  refine D.ok sc_greatest_divisor (fun _ _ _ _ _ _ us hl => match us, hl with | [_, _], _ => rfl) (fun vs H Q E h => ?_) (fun f cdv A outer s H vs Q E hr h => ?_)
  · obtain ⟨a, b, rfl, _⟩ := h
    rfl
  · obtain ⟨a, b, rfl, q⟩ := h
    refine ⟨_, 
      (pss_cons (ps_while PassesOwn.never (pt_cmpR op_gt (pv 1) pe_int (nomark _)) (pss_one (ps_par (i := 0) (j := 1) (by rfl) sc_greatest_divisor.nd rfl rfl (by decide) rfl rfl (pa_cons (pv 1) (pa_cons (pe_op op_mod (pv 0) (pv 1)) pa_nil)) (by rfl)))) 
      (pss_one (ps_ret (pv 0)))), ?_⟩
    refine while_by (fun σ G => ∃ x y : Nat, σ = [some (.int (x : Nat)), some (.int (y : Nat))] ∧ Nat.gcd x y = Nat.gcd a b ∧ G = H)
      (fun σ _ => match σ with | [_, some (.int i)] => i.toNat | _ => 0) ⟨a, b, rfl, rfl, rfl⟩ (fun σ G hI => ?_) (fun σ G Q1 Q2 hq hc => ?_)
    · obtain ⟨x, y, rfl, e, rfl⟩ := hI
      refine ⟨_, rfl, _, _, rfl, rfl, _, rfl, ?_⟩
      by_cases hy : 0 < y
      · rw [decide_eq_true (by omega)]
        refine iteT ⟨_, rfl, _, rfl, _, rfl, _, _, rfl, rfl, (by show (0 : Int) < (y : Nat); omega), _, _, rfl, ?_⟩
        refine ⟨⟨y, x % y, rfl, ?_, rfl⟩, ?_⟩
        · rw [← e, Nat.gcd_comm x y, Nat.gcd_rec y x, Nat.gcd_comm]
        · show ((x : Int) % (y : Nat)).toNat < ((y : Nat) : Int).toNat
          have := Nat.mod_lt x hy
          omega
      · rw [decide_eq_false (by omega)]
        have y0 : y = 0 := by omega
        subst y0
        rw [Nat.gcd_zero_right] at e
        subst e
        exact iteF ⟨_, rfl, q⟩
    · obtain ⟨v, hv, i, j, e1, e2, k, ek, r⟩ := hc
      exact ⟨v, hv, i, j, e1, e2, k, ek, hq _ _ r⟩
structure Share (t w : Nat) : Prop where
  pos : 1 ≤ t
  lt : t < w
  most : w ≤ 1000
  low : Nat.gcd t w = 1
abbrev s_is_share : Stmt := top 29
abbrev N_is_share : List Str := ["value", "top", "bottom"]
theorem sc_is_share : FnScope N_is_share ["value"] (defScope s_is_share) := ⟨rfl, rfl, rfl, by decide +kernel, rfl, by decide +kernel, by decide +kernel⟩
def spShare (K : PySem.W.Frag) : Sp := fun vs H Q _ => ∃ (p : Addr) (t w : Nat), vs = [.ref p] ∧ SqT K H p [.int (t : Nat), .int (w : Nat)] ∧ Share t w ∧ Q (.bl true) H
theorem ok_share (D : Df K mg "is_share" s_is_share) (c_is_whole : Cl P w K mg base 1 "is_whole" s_is_whole ["value"] (spWhole K)) (c_greatest_divisor : Cl P w K mg base 1 "greatest_divisor" s_greatest_divisor ["one", "other"] spGcd)
    (m_isinstance : mg "isinstance" = none) (m_tuple : mg "tuple" = none) (m_len : mg "len" = none) {tg : Tok} (g_GREATEST_BOTTOM : mg "GREATEST_BOTTOM" = some (.int 1000 tg)) : Cl P w K mg base 2 "is_share" s_is_share ["value"] (spShare K) := by
  refine D.ok sc_is_share (fun _ _ _ _ _ _ us hl => match us, hl with | [_], _ => rfl) (fun vs H Q E h => ?_) (fun f cdv A outer s H vs Q E hr h => ?_)
  · obtain ⟨p, t, w, rfl, _⟩ := h
    rfl
  · obtain ⟨p, t, w, rfl, hS, sh, q⟩ := h
    have h1 := sh.pos
    have h2 := sh.lt
    have h3 := sh.most
    refine ⟨_, 
      (pss_cons (ps_if (PW.pt (pw_or (pt_not (pt_val (pe_callB call_isi (by rfl) m_isinstance (by decide +kernel) (pa_cons (pv 0) (pa_cons (pe_bltn (v := .ty "tuple") (by rfl) m_tuple (by decide +kernel) rfl) pa_nil))))) (pw_or1 (pt_cmpR op_ne (pe_callB call_lenS (by rfl) m_len (by decide +kernel) (pa_cons (pv 0) pa_nil)) pe_int (nomark _))))) (pss_one (ps_ret pe_bl)) pss_nil) 
      (pss_cons (ps_asg (pv 0) (pg_tup (by rfl) (pgs_cons (pg_name (i := 1) sc_is_share.nd rfl (Or.inl rfl)) (pgs_cons (pg_name (i := 2) sc_is_share.nd rfl (Or.inl rfl)) pgs_nil)))) 
      (pss_cons (ps_if (PW.pt (pw_or (pt_not (pt_val (pe_u c_is_whole hr (by omega) (by rfl) (pa_cons (pv 1) pa_nil)))) (pw_or1 (pt_not (pt_val (pe_u c_is_whole hr (by omega) (by rfl) (pa_cons (pv 2) pa_nil))))))) (pss_one (ps_ret pe_bl)) pss_nil) 
      (pss_one (ps_ret (pe_and (pe_chain3 op_lt op_lt op_le pe_int (pv 1) (pv 2) (pe_glob (v := .int 1000) (by rfl) g_GREATEST_BOTTOM ⟨_, rfl⟩)) (pe_one (pe_cmpR op_eq (pe_u c_greatest_divisor hr (by omega) (by rfl) (pa_cons (pv 1) (pa_cons (pv 2) pa_nil))) pe_int (nomark _))))))))), ?_⟩
    refine ⟨_, rfl, .ref p, .ty "tuple", .type "tuple", .type "tuple", _, rfl, .ty _, (Tv.tup hS).ty, kit_tuple (Tv.tup hS).mem, _, rfl, iteF ?_⟩
    refine ⟨_, rfl, p, _, rfl, .inr hS, rfl, _, rfl, ?_⟩
    rw [decide_eq_true (show V.int (([V.int (t : Nat), V.int (w : Nat)] : List V).length : Nat) = V.int 2 from rfl)]
    refine iteF ⟨_, rfl, p, _, rfl, hS, rfl, _, _, rfl, _, _, rfl, rfl, ?_⟩
    refine ⟨_, rfl, .int (t : Nat), "int", rfl, Tv.int _, _, rfl, iteF ?_⟩
    refine ⟨_, rfl, .int (w : Nat), "int", rfl, Tv.int _, _, rfl, iteF ?_⟩
    refine ⟨_, rfl, _, _, rfl, rfl, _, rfl, ?_⟩
    rw [decide_eq_true (by omega)]
    refine iteT ⟨_, rfl, _, _, rfl, rfl, _, rfl, ?_⟩
    rw [decide_eq_true (by omega)]
    refine iteT ⟨_, _, rfl, rfl, _, rfl, ?_⟩
    rw [decide_eq_true (by omega)]
    refine iteT ⟨_, rfl, _, rfl, t, w, rfl, rfl, ?_⟩
    rw [sh.low]
    exact q
abbrev s_check_random_passes : Stmt := top 30
abbrev N_check_random_passes : List Str := ["row", "share", "steps"]
theorem sc_check_random_passes : FnScope N_check_random_passes ["row", "share", "steps"] (defScope s_check_random_passes) := ⟨rfl, rfl, rfl, by decide +kernel, rfl, by decide +kernel, by decide +kernel⟩
def spCrp (K : PySem.W.Frag) : Sp := fun vs H Q _ => ∃ (a p : Addr) (ns : List Int) (t w : Nat) (n : Int), vs = [.ref a, .ref p, .int n] ∧ SqT K H a (ns.map V.int) ∧ Row ns ∧ SqT K H p [.int (t : Nat), .int (w : Nat)] ∧ Share t w ∧ 0 ≤ n ∧ n ≤ 1000000000000000000000000000000 ∧ ∀ H', Same H H' → Q .non H'
theorem ok_crp (D : Df K mg "check_random_passes" s_check_random_passes) (c_check_row : Cl P w K mg base 5 "check_row" s_check_row ["row"] (spCheckRow K)) (c_is_share : Cl P w K mg base 2 "is_share" s_is_share ["value"] (spShare K)) (c_check_number : Cl P w K mg base 3 "check_number" s_check_number ["number", "least", "greatest"] spNum)
    {tg : Tok} (g_MOST_TIMES : mg "MOST_TIMES" = some (.int 1000000000000000000000000000000 tg)) : Cl P w K mg base 6 "check_random_passes" s_check_random_passes ["row", "share", "steps"] (spCrp K) := by
  refine D.ok sc_check_random_passes (fun _ _ _ _ _ _ us hl => match us, hl with | [_, _, _], _ => rfl) (fun vs H Q E h => ?_) (fun f cdv A outer s H vs Q E hr h => ?_)
  · obtain ⟨a, p, ns, t, w, n, rfl, _⟩ := h
    rfl
  · obtain ⟨a, p, ns, t, w, n, rfl, hS, hrow, hp, sh, n0, n1, q⟩ := h
    refine ⟨_, 
      (pss_cons (ps_expr (pe_u c_check_row hr (by omega) (by rfl) (pa_cons (pv 0) pa_nil))) 
      (pss_cons (ps_if (pt_not (pt_val (pe_u c_is_share hr (by omega) (by rfl) (pa_cons (pv 1) pa_nil)))) (pss_one ps_never) pss_nil) 
      (pss_one (ps_expr (pe_u c_check_number hr (by omega) (by rfl) (pa_cons (pv 2) (pa_cons pe_int (pa_cons (pe_glob (v := .int (1000000000000000000000000000000)) (by rfl) g_MOST_TIMES ⟨_, rfl⟩) pa_nil)))))))), ?_⟩
    refine ⟨_, rfl, a, ns, rfl, hS, hrow, fun H1 s1 => ?_⟩
    refine ⟨_, rfl, p, t, w, rfl, SqT.same s1 hp, sh, _, rfl, iteF ?_⟩
    exact ⟨_, rfl, n, 0, 1000000000000000000000000000000, rfl, n0, n1, q _ s1⟩
abbrev s_telling_passes : Stmt := top 31
abbrev N_telling_passes : List Str := ["row", "steps"]
theorem sc_telling_passes : FnScope N_telling_passes ["row", "steps"] (defScope s_telling_passes) := ⟨rfl, rfl, rfl, by decide +kernel, rfl, by decide +kernel, by decide +kernel⟩
def spTell (K : PySem.W.Frag) : Sp := fun vs H Q _ => ∃ (a : Addr) (ns : List Int) (n : Int), vs = [.ref a, .int n] ∧ SqT K H a (ns.map V.int) ∧ Row ns ∧ 0 ≤ n ∧ Q (.int ((min n.toNat (ns.length - 1) : Nat) : Int)) H
theorem ok_tell (D : Df K mg "telling_passes" s_telling_passes) (m_min : mg "min" = none) (m_len : mg "len" = none) : Cl P w K mg base 1 "telling_passes" s_telling_passes ["row", "steps"] (spTell K) := by
  refine D.ok sc_telling_passes (fun _ _ _ _ _ _ us hl => match us, hl with | [_, _], _ => rfl) (fun vs H Q E h => ?_) (fun f cdv A outer s H vs Q E hr h => ?_)
  · obtain ⟨a, ns, n, rfl, _⟩ := h
    rfl
  · obtain ⟨a, ns, n, rfl, hS, hrow, n0, q⟩ := h
    have pos := hrow.pos
    refine ⟨_, 
      (pss_one (ps_ret (pe_callB (call_min2 rfl) (by rfl) m_min (by decide +kernel) (pa_cons (pv 1) (pa_cons (pe_op op_sub (pe_callB call_lenS (by rfl) m_len (by decide +kernel) (pa_cons (pv 0) pa_nil)) pe_int) pa_nil))))), ?_⟩
    refine ⟨_, rfl, _, rfl, a, _, rfl, .inr hS, _, _, rfl, rfl, _, _, rfl, ?_⟩
    rw [List.length_map]
    have e : (if ((ns.length : Nat) : Int) - 1 < n then ((ns.length : Nat) : Int) - 1 else n) = ((min n.toNat (ns.length - 1) : Nat) : Int) := by
      split <;> omega
    rw [e]
    exact q
end
section
variable {P : Program} {w : World} {K : PySem.W.Frag} {mg : Str → Option Value} {base : Heap}
/-! ### weighted rows, their tuples known -/
/-- what the first z of the two passes out of a row add -/
def addZ (t w : Nat) (g : List Int → Nat) (m : List Int) (z : Nat) : Nat := (if 1 ≤ z then (w - t) * g (passL false m) else 0) + (if 2 ≤ z then t * g (passL true m) else 0)
abbrev s_weighted_rows : Stmt := top 32
abbrev N_weighted_rows : List Str := ["row", "share", "passes", "talls", "whole", "weights", "total", "number", "following", "people", "kind", "weight", "reached"]
theorem sc_weighted_rows : FnScope N_weighted_rows ["row", "share", "passes"] (defScope s_weighted_rows) := ⟨rfl, rfl, rfl, by decide +kernel, rfl, by decide +kernel, by decide +kernel⟩
def spWeigh (P : Program) (ww : World) (K : PySem.W.Frag) : Sp := fun vs H Q _ => ∃ (a p : Addr) (ns : List Int) (t wh n : Nat), vs = [.ref a, .ref p, .int (n : Nat)] ∧ TupAt H a (ns.map V.int) ∧ Row ns ∧ SqT K H p [.int (t : Nat), .int (wh : Nat)] ∧ Share t wh ∧ n ≤ 11 ∧
  ∀ (r d : Addr) (L : List NEnt) (D : List (List Int × Nat)) (H' : Hp), Same H H' → H' r = some (.tup [.ref d, .int ((wh ^ n : Nat) : Int)]) → H' d = some (nD P ww d L) → LF H' L D → (D.map (·.1)).Nodup → (∀ m ∈ D.map (·.1), m.Perm ns) → D.length ≤ 2 ^ n → (∀ f, sumR f D = meanN t wh n f ns) → Q (.ref r) H'
theorem ok_weigh (D : Df K mg "weighted_rows" s_weighted_rows) (c_single_pass : Cl P w K mg base 6 "single_pass" s_single_pass ["row", "kind"] (spSingleF K)) (m_range : mg "range" = none) : Cl P w K mg base 7 "weighted_rows" s_weighted_rows ["row", "share", "passes"] (spWeigh P w K) := by
  refine D.ok sc_weighted_rows (fun _ _ _ _ _ _ us hl => match us, hl with | [_, _, _], _ => rfl) (fun vs H Q E h => ?_) (fun f cdv A outer s H vs Q E hr h => ?_)
  · obtain ⟨a, p, ns, t, wh, n, rfl, _⟩ := h
    rfl
  · obtain ⟨a, p, ns, t, wh, n, rfl, hS, row, hp, sh, n11, q⟩ := h
    have hu9 := room_9 hr
    refine ⟨_, 
      (pss_cons (ps_asg (pv 1) (pg_tup (by rfl) (pgs_cons (pg_name (i := 3) sc_weighted_rows.nd rfl (Or.inl rfl)) (pgs_cons (pg_name (i := 4) sc_weighted_rows.nd rfl (Or.inl rfl)) pgs_nil)))) 
      (pss_cons (ps_set (i := 5) sc_weighted_rows.nd rfl (Or.inl rfl) (pe_ndisp1 hu9 (pv 0) pe_int)) 
      (pss_cons (ps_set (i := 6) sc_weighted_rows.nd rfl (Or.inl rfl) pe_int) 
      (pss_cons (ps_for PassesOwn.never rfl (pi_range1 (by rfl) m_range (pa_cons (pv 2) pa_nil)) (pg_name (i := 7) sc_weighted_rows.nd rfl (Or.inl rfl)) (pss_cons (ps_set (i := 8) sc_weighted_rows.nd rfl (Or.inl rfl) pe_ndnew) (pss_cons (ps_lock (ps_for PassesOwn.never rfl (pi_nkeys (pv 5)) (pg_name (i := 9) sc_weighted_rows.nd rfl (Or.inl rfl)) (pss_one (ps_for PassesOwn.never rfl (pi_tup (pe_tup (pa_cons (pe_tup (pa_cons pe_str (pa_cons (pe_op op_sub (pv 4) (pv 3)) pa_nil))) (pa_cons (pe_tup (pa_cons pe_str (pa_cons (pv 3) pa_nil))) pa_nil)))) (pg_tup (by rfl) (pgs_cons (pg_name (i := 10) sc_weighted_rows.nd rfl (Or.inl rfl)) (pgs_cons (pg_name (i := 11) sc_weighted_rows.nd rfl (Or.inl rfl)) pgs_nil))) (pss_cons (ps_set (i := 12) sc_weighted_rows.nd rfl (Or.inl rfl) (pe_u c_single_pass hr (by omega) (by rfl) (pa_cons (pv 9) (pa_cons (pv 10) pa_nil)))) (pss_one (ps_nput hu9 (pv 8) (pv 12) (pe_op op_add (pe_nget2 hu9 (pv 8) (pv 12) pe_int ⟨rfl, rfl, rfl, rfl⟩) (pe_op op_mul (pv 11) (pe_nget hu9 (pv 5) (pv 9) (fun _ _ => rfl)))) (by rfl)))))))) (pss_cons (ps_set (i := 5) sc_weighted_rows.nd rfl (Or.inl rfl) (pv 8)) (pss_one (ps_aug (i := 6) sc_weighted_rows.nd rfl (Or.inl rfl) (pv 4) iop_mul)))))) 
      (pss_one (ps_ret (pe_tup (pa_cons (pv 5) (pa_cons (pv 6) pa_nil))))))))), ?_⟩
    have h2 := sh.lt
    have h3 := sh.most
    refine ⟨_, rfl, p, _, rfl, hp, rfl, _, _, rfl, _, _, rfl, rfl, ?_⟩
    refine fun wy nw => ⟨_, rfl, upd_same, a, kyN ns, rfl, kyN_at (hS.same (same_upd nw)), kyN_depth _, ?_⟩
    rw [upd_upd]
    refine ⟨_, rfl, _, rfl, by omega, by omega, ?_⟩
    rw [Int.toNat_natCast]
    refine for_range (lo := 0) (n := n) (fun i σ G => ∃ (wy : Addr) (L : List NEnt) (d : List (List Int × Nat)) (y7 y8 y9 y10 y11 y12 : Option V), σ = [some (.ref a), some (.ref p), some (.int (n : Nat)), some (.int (t : Nat)), some (.int (wh : Nat)), some (.ref wy), some (.int ((wh ^ i : Nat) : Int)), y7, y8, y9, y10, y11, y12] ∧ Same H G ∧ H wy = none ∧ G wy = some (nD P w wy L) ∧ LF G L d ∧ (d.map (·.1)).Nodup ∧ (∀ m ∈ d.map (·.1), m.Perm ns) ∧ d.length ≤ 2 ^ i ∧ ∀ g, sumR g d = meanN t wh i g ns)
      ⟨wy, [(kyN ns, a, .int 1)], [(ns, 1)], none, none, none, none, none, none, rfl, same_upd nw, nw, upd_same, .cons ⟨rfl, rfl, hS.same (same_upd nw)⟩ .nil, by simp, by simp, Nat.le_refl _, fun g => by simp [sumR, meanN]⟩ (fun i σ G hi hI => ?_) (fun σ G hI => ?_)
    · obtain ⟨wy, L, d, y7, y8, y9, y10, y11, y12, rfl, sm, nw, hw, lf, nd, pm, dl, sd⟩ := hI
      have ap : 2 ^ i ≤ 2 ^ 11 := Nat.pow_le_pow_right (by decide) (by omega)
      have ll := lf.len
      refine fun fy nf => ?_
      have wf : wy ≠ fy := ne_of_none hw nf
      have nf0 : H fy = none := sm.free nf
      refine ⟨wy, _, (upd_ne wf).trans hw, trivial, fun od => ?_⟩
      refine ⟨_, rfl, wy, od, L, rfl, upd_same, ?_⟩
      have lf0 : LF (upd (upd G fy (nD P w fy [])) wy (.frz od (nD P w wy L))) L d := lf.mono fun p xs h => (h.same (same_upd nf)).upd_ (h.ne_nd hw)
      refine for_it walk_nkeys (fun j σ F => ∃ (Lf : List NEnt) (f : List (List Int × Nat)) (y9 y10 y11 y12 : Option V), σ = [some (.ref a), some (.ref p), some (.int (n : Nat)), some (.int (t : Nat)), some (.int (wh : Nat)), some (.ref wy), some (.int ((wh ^ i : Nat) : Int)), some (.int (0 + (i : Nat))), some (.ref fy), y9, y10, y11, y12] ∧ Same H F ∧ F wy = some (.frz od (nD P w wy L)) ∧ F fy = some (nD P w fy Lf) ∧ LF F Lf f ∧ LF F L d ∧ (f.map (·.1)).Nodup ∧ (∀ m ∈ f.map (·.1), m.Perm ns) ∧ f.length ≤ 2 * j ∧ ∀ g, sumR g f = sumR (meanF t wh g) (d.take j))
        ⟨[], [], _, _, _, _, rfl, ?_, upd_same, (upd_ne wf.symm).trans upd_same, .nil, lf0, List.nodup_nil, (fun k hk => nomatch hk), Nat.zero_le _, fun g => rfl⟩ (fun j σ F _ hK => ?_) (fun j x σ F F' hj hK hY => ?_) (fun σ F hK => ?_)
      · intro c o e
        rw [upd_ne (ne_of_none e nw), upd_ne (ne_of_none e nf0)]
        exact sm c o e
      · obtain ⟨Lf, f, y9, y10, y11, y12, rfl, _, hw2, _⟩ := hK
        exact hw2
      · obtain ⟨Lf, f, y9, y10, y11, y12, rfl, sF, hw2, hf2, lff, lfd, ndf, pmf, fl, sf⟩ := hK
        obtain ⟨rfl, k, qa, v, hkv, rfl⟩ := hY
        obtain ⟨m, x, hd, rfl, rfl, hq⟩ := lfd.at_ hkv
        have pmm : m.Perm ns := pm m (List.mem_map.mpr ⟨_, List.mem_of_getElem? hd, rfl⟩)
        have rowm : Row m := row.perm pmm
        have jl : j < d.length := (List.getElem?_eq_some_iff.mp hd).1
        refine ⟨_, rfl, _, rfl, _, _, rfl, rfl, (by show 2 ≤ sizeLine; decide), fun u1 nu1 => ⟨_, rfl, (by show 2 ≤ sizeLine; decide), fun u2 nu2 => ⟨(by show 2 ≤ sizeLine; decide), fun u3 nu3 => ⟨u3, rfl, ⟨_, .inl (.inl upd_same)⟩, ?_⟩⟩⟩⟩
        have e1 : (fun i j : Int => V.int (i - j)) ((wh : Nat) : Int) ((t : Nat) : Int) = V.int ((wh - t : Nat) : Int) := congrArg V.int (by omega)
        rw [e1] at nu2 nu3 ⊢
        have z1 := same_upd (o := .tup [.str (Str.ofString "S"), .int ((wh - t : Nat) : Int)]) nu1
        have z2 := same_upd (o := .tup [.str (Str.ofString "T"), .int ((t : Nat) : Int)]) nu2
        have z3 := same_upd (o := .tup [.ref u1, .ref u2]) nu3
        have hu1 := z3 _ _ (z2 _ _ (show upd F' u1 (.tup [.str (Str.ofString "S"), .int ((wh - t : Nat) : Int)]) u1 = _ from upd_same))
        have hu2 := z3 _ _ (show upd (upd F' u1 (.tup [.str (Str.ofString "S"), .int ((wh - t : Nat) : Int)])) u2 (.tup [.str (Str.ofString "T"), .int ((t : Nat) : Int)]) u2 = _ from upd_same)
        have hu3 : upd (upd (upd F' u1 (.tup [.str (Str.ofString "S"), .int ((wh - t : Nat) : Int)])) u2 (.tup [.str (Str.ofString "T"), .int ((t : Nat) : Int)])) u3 (.tup [.ref u1, .ref u2]) u3 = some (.tup [.ref u1, .ref u2]) := upd_same
        have z := (z1.trans z2).trans z3
        generalize upd (upd (upd F' u1 (.tup [.str (Str.ofString "S"), .int ((wh - t : Nat) : Int)])) u2 (.tup [.str (Str.ofString "T"), .int ((t : Nat) : Int)])) u3 (.tup [.ref u1, .ref u2]) = B at hu1 hu2 hu3 z ⊢
        clear z1 z2 z3
        have hwB := z _ _ hw2
        have hfB := z _ _ hf2
        have hqB := hq.same z
        have lffB := lff.mono fun p xs h => h.same z
        have lfdB := lfd.mono fun p xs h => h.same z
        have sB := sF.trans z
        have tf : ∀ {r : Addr} {ys : List V}, B r = some (.tup ys) → r ≠ fy := fun {r ys} e zz => by
          rw [zz, hfB] at e
          cases e
        refine for_tup (xs := [.ref u1, .ref u2]) (fun zi σ F2 => ∃ (L2 : List NEnt) (f2 : List (List Int × Nat)) (y10 y11 y12 : Option V), σ = [some (.ref a), some (.ref p), some (.int (n : Nat)), some (.int (t : Nat)), some (.int (wh : Nat)), some (.ref wy), some (.int ((wh ^ i : Nat) : Int)), some (.int (0 + (i : Nat))), some (.ref fy), some (.ref qa), y10, y11, y12] ∧ Kp fy B F2 ∧ F2 fy = some (nD P w fy L2) ∧ LF F2 L2 f2 ∧ (f2.map (·.1)).Nodup ∧ (∀ m ∈ f2.map (·.1), m.Perm ns) ∧ f2.length ≤ 2 * j + zi ∧ ∀ g, sumR g f2 = sumR g f + x * addZ t wh g m zi)
          ⟨Lf, f, _, _, _, rfl, Kp.refl fy B, hfB, lffB, ndf, pmf, fl, fun g => by simp [addZ]⟩ (fun zi σ F2 _ hL => ?_) (fun zi e σ F2 hx hL => ?_) (fun σ F2 hL => ?_)
        · obtain ⟨_, _, _, _, _, _, kB, _⟩ := hL
          exact .inl (.inl (kB _ _ hu3 (tf hu3)))
        · obtain ⟨L2, f2, y10, y11, y12, rfl, kB, hf3, lf3, nd3, pm3, fl3, sf3⟩ := hL
          have zl : zi < 2 := (List.getElem?_eq_some_iff.mp hx).1
          obtain ⟨b, u, c, rfl, hu, hc, hadd⟩ : ∃ (b : Bool) (u : Addr) (c : Nat), e = .ref u ∧ B u = some (.tup [.str (ltr b), .int ((c : Nat) : Int)]) ∧ c ≤ 1000 ∧ ∀ g, addZ t wh g m (zi + 1) = addZ t wh g m zi + c * g (passL b m) := by
            match zi, zl with
            | 0, _ => exact ⟨false, u1, wh - t, (Option.some.inj hx).symm, by rw [hu1, ltrS], by omega, fun g => by simp [addZ]⟩
            | 1, _ => exact ⟨true, u2, t, (Option.some.inj hx).symm, by rw [hu2, ltrT], by omega, fun g => by simp [addZ]⟩
          refine ⟨u, _, rfl, .inl (.inl (kB _ _ hu (tf hu))), rfl, _, _, rfl, _, _, rfl, rfl, ?_⟩
          have hq3 := hqB.kp kB (hqB.ne_nd hfB)
          have lfd3 : LF F2 L d := lfdB.mono fun p xs h => h.kp kB (h.ne_nd hfB)
          refine ⟨_, rfl, _, rfl, qa, m, b, rfl, hq3.sq, rowm, fun rc F4 s4 nrc hrc => ?_⟩
          have hf4 := s4 _ _ hf3
          have hw4 := s4 _ _ (kB _ _ hwB wf)
          have hq4 := hq3.same s4
          have lf4 : LF F4 L2 f2 := lf3.mono fun p xs h => h.same s4
          have lfd4 : LF F4 L d := lfd3.mono fun p xs h => h.same s4
          have kl : L2.length < sizeLine := by
            rw [lf4.len]
            exact len_lt (by omega)
          have e3 : (fun i j : Int => V.int (i + j)) ((lookR f2 (passL b m) : Nat) : Int) (((c : Nat) : Int) * ((x : Nat) : Int)) = V.int ((lookR f2 (passL b m) + c * x : Nat) : Int) := congrArg V.int (by rw [Int.natCast_add, Int.natCast_mul])
          refine ⟨_, rfl, fy, L2, rfl, .inl hf4, _, rfl, rc, L2, kyN (passL b m), rfl, .inl hf4, lf4.keys, kyN_at hrc, kyN_depth _, _, rfl, _, rfl, _, rfl, wy, qa, L, kyN m, _, rfl, rfl, .inr ⟨od, hw4⟩, lfd4.keys, kyN_at hq4, kyN_depth _, lfd4.get nd hd, _, _, rfl, rfl, .inl ⟨by omega, by omega⟩, _, _, lf4.val _, rfl, ?_⟩
          rw [e3]
          refine ⟨_, rfl, _, rfl, fy, rc, L2, kyN (passL b m), rfl, rfl, hf4, lf4.keys, kyN_at hrc, kyN_depth _, kl, ?_⟩
          refine ⟨_, addR (c * x) f2 (passL b m), _, _, _, rfl, fun b2 o e ne => ?_, upd_same, (lf4.put nd3 hrc (c * x)).mono fun p xs h => h.upd_ (h.ne_nd hf4), addR_nodup nd3, fun k hk => ?_, ?_, fun g => ?_⟩
          · rw [upd_ne ne]
            exact s4 _ _ (kB b2 o e ne)
          · rcases addR_key hk with y | y
            · exact pm3 k y
            · rw [y]
              exact (passL_perm b m).trans pmm
          · have := addR_len (c * x) f2 (passL b m)
            omega
          · rw [sumR_add, sf3, hadd, Nat.mul_add, Nat.mul_comm c x, Nat.mul_assoc, Nat.add_assoc]
        · obtain ⟨L2, f2, y10, y11, y12, rfl, kB, hf3, lf3, nd3, pm3, fl3, sf3⟩ := hL
          refine ⟨L2, f2, _, _, _, _, rfl, fun b2 o e => ?_, kB _ _ hwB wf, hf3, lf3, lfdB.mono fun p xs h => h.kp kB (h.ne_nd hfB), nd3, pm3, fl3, fun g => ?_⟩
          · exact kB b2 o (sB b2 o e) (ne_of_none e nf0)
          · rw [sf3, sf, sumR_take _ hd]
            simp only [List.length_cons, List.length_nil, addZ, meanF]
            simp
      · obtain ⟨Lf, f, y9, y10, y11, y12, rfl, sF, hw2, hf2, lff, lfd, ndf, pmf, fl, sf⟩ := hK
        rw [ll] at fl sf
        rw [List.take_length] at sf
        refine ⟨hw2, _, rfl, _, rfl, _, rfl, _, _, rfl, rfl, .inr ⟨by omega, by omega⟩, ?_⟩
        refine ⟨fy, Lf, f, some (.int (0 + (i : Nat))), some (.ref fy), y9, y10, y11, y12, ?_, fun b2 o e => ?_, nf0, (upd_ne wf.symm).trans hf2, lff.mono fun p xs h => h.upd_ (h.ne_fz hw2), ndf, pmf, ?_, fun g => ?_⟩
        · have e4 : ((wh ^ i : Nat) : Int) * ((wh : Nat) : Int) = ((wh ^ (i + 1) : Nat) : Int) := by
            rw [Nat.pow_succ]
            exact (Int.natCast_mul _ _).symm
          rw [← e4]
          rfl
        · rw [upd_ne (ne_of_none e nw)]
          exact sF b2 o e
        · rw [Nat.pow_succ]
          omega
        · rw [sf, sd]
          rfl
    · obtain ⟨wy, L, d, y7, y8, y9, y10, y11, y12, rfl, sm, nw, hw, lf, nd, pm, dl, sd⟩ := hI
      refine ⟨_, rfl, _, rfl, (by show 2 ≤ sizeLine; decide), fun r nr => ?_⟩
      exact q r wy L d _ (sm.trans (same_upd nr)) upd_same ((upd_ne (ne_of_none hw nr)).trans hw) (lf.mono fun p xs h => h.same (same_upd nr)) nd pm dl sd
end
section
variable {P : Program} {w : World} {K : PySem.W.Frag} {mg : Str → Option Value} {base : Heap}
abbrev wV (w : List Bool) : V := .str (wd w)
theorem getW {l : List (List Bool)} {i : Nat} {v : V} (h : (l.map wV)[i]? = some v) : ∃ w, l[i]? = some w ∧ v = wV w := by
  rw [List.getElem?_map] at h
  obtain ⟨w, h1, h2⟩ := Option.map_eq_some_iff.mp h
  exact ⟨w, h1, h2.symm⟩
theorem take_map_succ {α β : Type} {f : α → β} {l : List α} {i : Nat} {x : α} (h : l[i]? = some x) : (l.take (i + 1)).map f = (l.take i).map f ++ [f x] := by
  rw [List.take_succ, h, List.map_append]
  rfl
abbrev s__law_all_words : Stmt := top 46
abbrev N__law_all_words : List Str := ["_law_many", "_law_found", "_law_turn", "_law_one"]
theorem sc__law_all_words : FnScope N__law_all_words ["_law_many"] (defScope s__law_all_words) := ⟨rfl, rfl, rfl, by decide +kernel, rfl, by decide +kernel, by decide +kernel⟩
def spAllW : Sp := fun vs H Q _ => ∃ m : Nat, vs = [.int (m : Nat)] ∧ m ≤ 12 ∧ ∀ (p : Addr) (H' : Hp), Same H H' → H p = none → H' p = some (.lst ((allW m).map wV)) → Q (.ref p) H'
theorem pow12 {m : Nat} (h : m ≤ 12) : 2 ^ m ≤ 4096 := Nat.pow_le_pow_right (by decide) h
theorem ok_allw (D : Df K mg "_law_all_words" s__law_all_words) (m_range : mg "range" = none) : Cl P w K mg base 1 "_law_all_words" s__law_all_words ["_law_many"] spAllW := by
  refine D.ok sc__law_all_words (fun _ _ _ _ _ _ us hl => match us, hl with | [_], _ => rfl) (fun vs H Q E h => ?_) (fun f cdv A outer s H vs Q E hr h => ?_)
  · obtain ⟨m, rfl, _⟩ := h
    rfl
  · obtain ⟨m, rfl, hm, q⟩ := h
    refine ⟨_, 
      (pss_cons (ps_set (i := 1) sc__law_all_words.nd rfl (Or.inl rfl) (pe_lst (pa_cons pe_str pa_nil))) 
      (pss_cons (ps_for PassesOwn.never rfl (pi_range1 (by rfl) m_range (pa_cons (pv 0) pa_nil)) (pg_name (i := 2) sc__law_all_words.nd rfl (Or.inl rfl)) (pss_one (ps_set (i := 1) sc__law_all_words.nd rfl (Or.inl rfl) (pe_op op_cat (pe_lc (own := [("_law_one", 3)]) (g := gName 3) rfl sc__law_all_words.nd (pi_list (pv 1)) (blkOk_by (own := [("_law_one", 3)]) (N := N__law_all_words) (sc := (defScope s__law_all_words)) (by decide +kernel)) (fun _ _ _ _ _ => (pg_name (i := 3) sc__law_all_words.nd rfl (Or.inl rfl))) (fun _ _ _ _ _ => pts_nil) (fun _ _ _ _ _ => (pe_op op_add_str (pv 3) pe_str))) (pe_lc (own := [("_law_one", 3)]) (g := gName 3) rfl sc__law_all_words.nd (pi_list (pv 1)) (blkOk_by (own := [("_law_one", 3)]) (N := N__law_all_words) (sc := (defScope s__law_all_words)) (by decide +kernel)) (fun _ _ _ _ _ => (pg_name (i := 3) sc__law_all_words.nd rfl (Or.inl rfl))) (fun _ _ _ _ _ => pts_nil) (fun _ _ _ _ _ => (pe_op op_add_str (pv 3) pe_str))))))) 
      (pss_one (ps_ret (pv 1))))), ?_⟩
    refine ⟨(by show 1 ≤ sizeLine; decide), fun l nl => ?_⟩
    refine ⟨_, rfl, _, rfl, by omega, by omega, ?_⟩
    refine for_range (lo := 0) (n := ((m : Nat) : Int).toNat) (fun i σ G => ∃ (y1 y2 : Option V) (r : Addr), σ = [some (.int (m : Nat)), some (.ref r), y1, y2] ∧ Same H G ∧ H r = none ∧ G r = some (.lst ((allW i).map wV)))
      ⟨none, none, l, rfl, same_upd nl, nl, upd_same⟩ (fun i σ G hi hI => ?_) (fun σ G hI => ?_)
    · obtain ⟨y1, y2, r, rfl, sm, nr, hr1⟩ := hI
      have al := allW_len i
      have ap := pow12 (m := i) (by omega)
      refine ⟨_, rfl, r, rfl, ⟨_, .inl (.inl hr1)⟩, fun D nD => ?_⟩
      have wl : ∀ u ∈ allW i, (wd u).length + 1 ≤ sizeLine := fun u hu => by
        rw [wd_len, allW_mem i u hu]
        exact Nat.le_of_lt (len_lt (by omega))
      refine lc_list (xs := (allW i).map wV) (fun j F => F D = some (.lst ((((allW i).take j).map (· ++ [false])).map wV)) ∧ Same G F) ⟨upd_same, same_upd nD⟩ (fun j F _ hK => .inl (.inl (hK.2 r _ hr1))) (fun j x F hx hK => ?_) (fun F hK => ?_)
      · obtain ⟨hD, sF⟩ := hK
        obtain ⟨u, hu, rfl⟩ := getW hx
        refine ⟨rfl, _, rfl, _, _, rfl, rfl, wl u (List.mem_of_getElem? hu), _, hD, ?_, ?_, fun x o ex => ?_⟩
        · rw [List.length_map, List.length_map, List.length_take]
          exact len_lt (by omega)
        · have ew : wd u ++ Str.ofString "S" = wd (u ++ [false]) := by
            rw [ltrS]
            exact wd_app u [false]
          rw [upd_same, take_map_succ hu, List.map_append, ew]
          rfl
        · rw [upd_ne (ne_of_none ex nD)]
          exact sF x o ex
      · obtain ⟨hD, sF⟩ := hK
        rw [List.length_map, List.take_length] at hD
        have hr2 := sF r _ hr1
        refine ⟨_, rfl, r, rfl, ⟨_, .inl (.inl hr2)⟩, fun D2 nD2 => ?_⟩
        have DD : D ≠ D2 := ne_of_none hD nD2
        refine lc_list (xs := (allW i).map wV) (fun j F2 => F2 D2 = some (.lst ((((allW i).take j).map (· ++ [true])).map wV)) ∧ Same F F2) ⟨upd_same, same_upd nD2⟩ (fun j F2 _ hK => .inl (.inl (hK.2 r _ hr2))) (fun j x F2 hx hK => ?_) (fun F2 hK => ?_)
        · obtain ⟨hD2, sF2⟩ := hK
          obtain ⟨u, hu, rfl⟩ := getW hx
          refine ⟨rfl, _, rfl, _, _, rfl, rfl, wl u (List.mem_of_getElem? hu), _, hD2, ?_, ?_, fun x o ex => ?_⟩
          · rw [List.length_map, List.length_map, List.length_take]
            exact len_lt (by omega)
          · have ew : wd u ++ Str.ofString "T" = wd (u ++ [true]) := by
              rw [ltrT]
              exact wd_app u [true]
            rw [upd_same, take_map_succ hu, List.map_append, ew]
            rfl
          · rw [upd_ne (ne_of_none ex nD2)]
            exact sF2 x o ex
        · obtain ⟨hD2, sF2⟩ := hK
          rw [List.length_map, List.take_length] at hD2
          have sA := (sm.trans sF).trans sF2
          refine ⟨D, D2, _, _, rfl, rfl, sF2 D _ hD, hD2, ?_, fun e ne => ?_⟩
          · rw [List.length_map, List.length_map, List.length_map, List.length_map]
            exact Nat.le_of_lt (len_lt (by omega))
          · refine ⟨_, _, e, rfl, sA.trans (same_upd ne), sA.free ne, ?_⟩
            rw [upd_same, ← List.map_append]
            rfl
    · obtain ⟨y1, y2, r, rfl, sm, nr, hr1⟩ := hI
      rw [Int.toNat_natCast] at hr1
      exact ⟨_, rfl, q r _ sm nr hr1⟩
end
section
variable {P : Program} {w : World} {K : PySem.W.Frag} {mg : Str → Option Value} {base : Heap}
/-! ### mean indexes -/
/-- the index of a person in a row -/
abbrev idxF (h : Int) : List Int → Nat := fun m => m.idxOf h
abbrev s_mean_index : Stmt := top 33
abbrev N_mean_index : List Str := ["row", "share", "steps", "height", "weights", "total", "top", "divisor", "people"]
theorem sc_mean_index : FnScope N_mean_index ["row", "share", "steps", "height"] (defScope s_mean_index) := ⟨rfl, rfl, rfl, by decide +kernel, rfl, by decide +kernel, by decide +kernel⟩
theorem height_in {ns : List Int} {h : Int} (row : Row ns) (hin : h ∈ ns) : heightB (.int h) = true := by
  have := row.rng h hin
  show (decide (1 ≤ h) && decide (h ≤ 999)) = true
  rw [decide_eq_true (by omega), decide_eq_true (by omega)]
  rfl
theorem sum_casts : ∀ l : List Nat, (l.map fun k : Nat => ((k : Nat) : Int)).sum = ((l.sum : Nat) : Int)
  | [] => rfl
  | x :: l => by
    rw [List.map_cons, List.sum_cons, List.sum_cons, sum_casts l]
    omega
def spMean (K : PySem.W.Frag) : Sp := fun vs H Q _ => ∃ (a p : Addr) (ns : List Int) (t wh n : Nat) (h : Int), vs = [.ref a, .ref p, .int (n : Nat), .int h] ∧ TupAt H a (ns.map V.int) ∧ Row ns ∧ SqT K H p [.int (t : Nat), .int (wh : Nat)] ∧ Share t wh ∧ n ≤ 400 ∧ h ∈ ns ∧
  ∀ (r : Addr) (H' : Hp), Same H H' → H r = none → H' r = some (.tup [.int ((meanN t wh n (idxF h) ns / Nat.gcd (meanN t wh n (idxF h) ns) (wh ^ n) : Nat) : Int), .int ((wh ^ n / Nat.gcd (meanN t wh n (idxF h) ns) (wh ^ n) : Nat) : Int)]) → Q (.ref r) H'
theorem ok_mean (D : Df K mg "mean_index" s_mean_index) (c_check_random_passes : Cl P w K mg base 6 "check_random_passes" s_check_random_passes ["row", "share", "steps"] (spCrp K)) (c_is_height : Cl P w K mg base 3 "is_height" s_is_height ["value"] (spHeight K)) (c_weighted_rows : Cl P w K mg base 7 "weighted_rows" s_weighted_rows ["row", "share", "passes"] (spWeigh P w K)) (c_telling_passes : Cl P w K mg base 1 "telling_passes" s_telling_passes ["row", "steps"] (spTell K)) (c_greatest_divisor : Cl P w K mg base 1 "greatest_divisor" s_greatest_divisor ["one", "other"] spGcd)
    (m_sum : mg "sum" = none) : Cl P w K mg base 8 "mean_index" s_mean_index ["row", "share", "steps", "height"] (spMean K) := by
  refine D.ok sc_mean_index (fun _ _ _ _ _ _ us hl => match us, hl with | [_, _, _, _], _ => rfl) (fun vs H Q E h => ?_) (fun f cdv A outer s H vs Q E hr h => ?_)
  · obtain ⟨a, p, ns, t, wh, n, h, rfl, _⟩ := h
    rfl
  · obtain ⟨a, p, ns, t, wh, n, h, rfl, hS, row, hp, sh, n4, hin, q⟩ := h
    have hu9 := room_9 hr
    refine ⟨_, 
      (pss_cons (ps_expr (pe_u c_check_random_passes hr (by omega) (by rfl) (pa_cons (pv 0) (pa_cons (pv 1) (pa_cons (pv 2) pa_nil))))) 
      (pss_cons (ps_if (PW.pt (pw_or (pt_not (pt_val (pe_u c_is_height hr (by omega) (by rfl) (pa_cons (pv 3) pa_nil)))) (pw_or1 (pt_cmpR op_notIn_seq (pv 3) (pv 0) (by rfl))))) (pss_one ps_never) pss_nil) 
      (pss_cons (ps_asg (pe_u c_weighted_rows hr (by omega) (by rfl) (pa_cons (pv 0) (pa_cons (pv 1) (pa_cons (pe_u c_telling_passes hr (by omega) (by rfl) (pa_cons (pv 0) (pa_cons (pv 2) pa_nil))) pa_nil)))) (pg_tup (by rfl) (pgs_cons (pg_name (i := 4) sc_mean_index.nd rfl (Or.inr rfl)) (pgs_cons (pg_name (i := 5) sc_mean_index.nd rfl (Or.inl rfl)) pgs_nil)))) 
      (pss_cons (ps_set (i := 6) sc_mean_index.nd rfl (Or.inl rfl) (pe_callB (cr_sum rfl) (by rfl) m_sum (by decide +kernel) (pa_cons (pe_lock (pe_lc (own := [("people", 8)]) (g := gName 8) (te := (tOp _ (tNGet P w (tVar 4) (tVar 8)) (tTix (rIndexT K) (tVar 8) (tCons (tVar 3) tNil)))) rfl sc_mean_index.nd (pi_nkeys (pv 4)) (blkOk_by (own := [("people", 8)]) (N := N_mean_index) (sc := (defScope s_mean_index)) (by decide +kernel)) (fun _ _ _ _ _ => (pg_name (i := 8) sc_mean_index.nd rfl (Or.inl rfl))) (fun _ _ _ _ _ => pts_nil) (fun _ _ _ _ _ => (pe_op op_mul (pe_nget hu9 (pv 4) (pv 8) (fun _ _ => rfl)) (pe_tix mt_tupN (pv 8) (pa_cons (pv 3) pa_nil)))))) pa_nil))) 
      (pss_cons (ps_set (i := 7) sc_mean_index.nd rfl (Or.inl rfl) (pe_u c_greatest_divisor hr (by omega) (by rfl) (pa_cons (pv 6) (pa_cons (pv 5) pa_nil)))) 
      (pss_one (ps_ret (pe_tup (pa_cons (pe_op op_fdivW (pv 6) (pv 7)) (pa_cons (pe_op op_fdivW (pv 5) (pv 7)) pa_nil)))))))))), ?_⟩
    refine ⟨_, rfl, _, rfl, _, rfl, a, p, ns, t, wh, _, rfl, hS.sq, row, hp, sh, by omega, by omega, fun H1 s1 => ?_⟩
    refine ⟨_, rfl, .int h, "int", rfl, Tv.int h, ?_⟩
    refine ⟨_, rfl, ?_⟩
    rw [show heightB (.int h) = true from height_in row hin]
    have flat : (ns.map V.int).all flatV = true := by
      rw [List.all_map, List.all_eq_true]
      exact fun _ _ => rfl
    refine iteF ⟨_, rfl, _, rfl, a, ns.map V.int, rfl, .inr (hS.same s1).sq, rfl, flat, ?_⟩
    rw [inV_ints, decide_eq_true hin]
    refine ⟨_, rfl, iteF ?_⟩
    refine ⟨_, rfl, _, rfl, _, rfl, _, rfl, a, ns, _, rfl, (hS.same s1).sq, row, by omega, ?_⟩
    have pos := row.pos
    have most := row.most
    have h3 := sh.most
    refine ⟨a, p, ns, t, wh, _, rfl, hS.same s1, row, SqT.same s1 hp, sh, ?_, fun r dd L D H2 s2 hr2 hd lf nd pm dl sd => ?_⟩
    · show min ((n : Nat) : Int).toNat (ns.length - 1) ≤ 11
      omega
    generalize hm : min ((n : Nat) : Int).toNat (ns.length - 1) = m at hr2 dl sd
    have s12 := s1.trans s2
    refine ⟨r, _, rfl, .inl (.inl hr2), rfl, _, _, rfl, _, _, rfl, rfl, ?_⟩
    refine ⟨dd, _, hd, trivial, fun od => ?_⟩
    refine ⟨_, rfl, dd, od, L, rfl, upd_same, fun C nC => ?_⟩
    have hB : upd H2 dd (.frz od (nD P w dd L)) dd = some (.frz od (nD P w dd L)) := upd_same
    have lfB : LF (upd H2 dd (.frz od (nD P w dd L))) L D := lf.mono fun p xs h => h.upd_ (h.ne_nd hd)
    have dl11 : 2 ^ m ≤ 2 ^ 11 := Nat.pow_le_pow_right (by decide) (by omega)
    generalize hBe : upd H2 dd (.frz od (nD P w dd L)) = B at hB lfB nC ⊢
    refine lc_it walk_nkeys (fun j F => F C = some (.lst (((D.take j).map fun x => x.2 * idxF h x.1).map fun k => V.int ((k : Nat) : Int))) ∧ Same B F) ⟨upd_same, same_upd nC⟩ (fun j F _ hK => hK.2 _ _ hB) (fun j x F F' hj hK hY => ?_) (fun F hK => ?_)
    · obtain ⟨hC, sF⟩ := hK
      obtain ⟨rfl, k, qa, v, hkv, rfl⟩ := hY
      have lfF : LF F' L D := lfB.mono fun p xs h => h.same sF
      obtain ⟨mm, x, hD, rfl, rfl, hq⟩ := lfF.at_ hkv
      have pmm : mm.Perm ns := pm mm (List.mem_map.mpr ⟨_, List.mem_of_getElem? hD, rfl⟩)
      have hm2 : h ∈ mm := pmm.mem_iff.mpr hin
      have lt : mm.idxOf h < mm.length := List.idxOf_lt_length_of_mem hm2
      have l12 := (row.perm pmm).most
      have jl : j < D.length := (List.getElem?_eq_some_iff.mp hD).1
      refine ⟨rfl, _, rfl, _, rfl, dd, qa, L, kyN mm, _, rfl, rfl, .inr ⟨od, sF _ _ hB⟩, lfF.keys, kyN_at hq, kyN_depth _, lfF.get nd hD, ?_⟩
      refine ⟨_, rfl, ⟨qa, _, rfl, hq⟩, _, rfl, qa, mm, mm.idxOf h, lt, rfl, ?_, hq.sq, (row.perm pmm).nd, _, _, rfl, rfl, .inr ⟨by omega, by omega⟩, _, hC, ?_, ?_, fun c o e => ?_⟩
      · rw [List.getElem_idxOf]
      · rw [List.length_map, List.length_map, List.length_take]
        exact len_lt (by omega)
      · have ev : (fun i j : Int => V.int (i * j)) ((x : Nat) : Int) ((mm.idxOf h : Nat) : Int) = V.int ((x * mm.idxOf h : Nat) : Int) := congrArg V.int (Int.natCast_mul _ _).symm
        rw [upd_same, take_map_succ hD, List.map_append, ev]
        rfl
      · rw [upd_ne (ne_of_none e nC)]
        exact sF _ _ e
    · obtain ⟨hC, sF⟩ := hK
      rw [lf.len, List.take_length] at hC
      have CD : C ≠ dd := fun z => by
        rw [z, hB] at nC
        cases nC
      refine ⟨sF _ _ hB, C, ((D.map fun x => x.2 * idxF h x.1).map fun k : Nat => ((k : Nat) : Int)), rfl, .inl (.inl ((upd_ne CD).trans ?_)), ?_⟩
      · rw [hC]
        simp only [List.map_map]
        rfl
      have es : ((D.map fun x => x.2 * idxF h x.1).map fun k : Nat => ((k : Nat) : Int)).sum = ((sumR (idxF h) D : Nat) : Int) := sum_casts _
      rw [es, sd]
      have big : (wh ^ m).log2 < 8000 := by
        have h5 : wh ^ m ≤ (2 ^ 10) ^ m := Nat.pow_le_pow_left (by omega) m
        have h6 : (2 ^ 10) ^ m ≤ (2 ^ 10) ^ 11 := Nat.pow_le_pow_right (by decide) (by omega)
        have h7 : (2 ^ 10) ^ 11 < 2 ^ 120 := by decide
        have := log_lt (n := wh ^ m) (m := 120) (by omega) (by decide)
        omega
      have wpos : 1 ≤ wh ^ m := Nat.one_le_pow _ _ (by have := sh.lt; omega)
      refine ⟨_, rfl, _, rfl, _, wh ^ m, rfl, ?_⟩
      generalize hM : meanN t wh m (idxF h) ns = M
      have gp : 0 < Nat.gcd M (wh ^ m) := Nat.gcd_pos_of_pos_right M (by omega)
      have gl : Nat.gcd M (wh ^ m) ≤ wh ^ m := Nat.gcd_le_right M (by omega)
      have cd : ∀ z : Int, CDivW z ((Nat.gcd M (wh ^ m) : Nat) : Int) := fun z => by
        refine ⟨by omega, ?_⟩
        show (Nat.gcd M (wh ^ m)).log2 < 9000
        have h2 : wh ^ m < 2 ^ 8000 := (Nat.log2_lt (by omega)).mp big
        have := log_lt (Nat.lt_of_le_of_lt gl h2) (by decide)
        omega
      refine ⟨_, rfl, _, rfl, _, _, rfl, rfl, cd _, _, rfl, _, rfl, _, _, rfl, rfl, cd _, (by show 2 ≤ sizeLine; decide), fun rr nr => ?_⟩
      have sE : Same H2 (upd F dd (nD P w dd L)) := fun c o e => by
        by_cases z : c = dd
        · rw [z] at e ⊢
          rw [upd_same, ← e, hd]
        · rw [upd_ne z]
          refine sF _ _ ?_
          rw [← hBe, upd_ne z]
          exact e
      have sA := s12.trans sE
      have far : meanN t wh n (idxF h) ns / Nat.gcd (meanN t wh n (idxF h) ns) (wh ^ n) = M / Nat.gcd M (wh ^ m) ∧ wh ^ n / Nat.gcd (meanN t wh n (idxF h) ns) (wh ^ n) = wh ^ m / Nat.gcd M (wh ^ m) := by
        obtain ⟨k, rfl⟩ : ∃ k, n = m + k := ⟨n - m, by omega⟩
        by_cases hk : k = 0
        · subst hk
          rw [Nat.add_zero, hM]
          exact ⟨rfl, rfl⟩
        · rw [step_far (by have := sh.lt; omega) (by omega) k, hM, show wh ^ (m + k) = wh ^ k * wh ^ m from by rw [Nat.pow_add, Nat.mul_comm]]
          exact low_same (Nat.one_le_pow _ _ (by have := sh.lt; omega))
      refine q rr _ (sA.trans (same_upd nr)) (sA.free nr) ?_
      rw [far.1, far.2, upd_same]
      rfl
end
section
variable {P : Program} {w : World} {K : PySem.W.Frag} {mg : Str → Option Value} {base : Heap}
/-! ### letters counted -/
theorem count_wdL (bs : List Bool) (b : Bool) : Txt.count (wd bs) (ltr b) = (bs.count b : Nat) := by
  rw [show (ltr b) = ⟨#[code b]⟩ from rfl, PyProof.Rows.count_cnt]
  show PyProof.Rows.cnt (code b) (bs.map code).toArray.toList = _
  rw [List.toList_toArray]
  induction bs with
  | nil => rfl
  | cons a l ih =>
    rw [List.map_cons, PyProof.Rows.cnt_cons, ih, List.count_cons]
    cases a <;> cases b <;> simp [code] <;> omega
theorem count_S (bs : List Bool) : Txt.count (wd bs) (Str.ofString "S") = (bs.count false : Nat) := by
  rw [ltrS]
  exact count_wdL bs false
theorem count_T (bs : List Bool) : Txt.count (wd bs) (Str.ofString "T") = (bs.count true : Nat) := by
  rw [ltrT]
  exact count_wdL bs true
end
section
variable {P : Program} {w : World} {K : PySem.W.Frag} {mg : Str → Option Value} {base : Heap}
/-! ### the law's own walk -/
abbrev s__law_single : Stmt := top 41
abbrev N__law_single : List Str := ["_law_line", "_law_mark", "_law_sitter", "_law_found", "_law_person"]
theorem sc__law_single : FnScope N__law_single ["_law_line", "_law_mark"] (defScope s__law_single) := ⟨rfl, rfl, rfl, by decide +kernel, rfl, by decide +kernel, by decide +kernel⟩
theorem ok_lsingle (D : Df K mg "_law_single" s__law_single) (m_tuple : mg "tuple" = none) : Cl P w K mg base 1 "_law_single" s__law_single ["_law_line", "_law_mark"] (spSingle K) := by
  refine D.ok sc__law_single (fun _ _ _ _ _ _ us hl => match us, hl with | [_, _], _ => rfl) (fun vs H Q E h => ?_) (fun f cdv A outer s H vs Q E hr h => ?_)
  · obtain ⟨a, ns, b, rfl, _⟩ := h
    rfl
  · obtain ⟨a, ns, b, rfl, hS, hrow, q⟩ := h
    obtain ⟨x, xs, rfl⟩ : ∃ x xs, ns = x :: xs := by
      cases ns with
      | nil => exact absurd hrow.pos (by decide)
      | cons x xs => exact ⟨x, xs, rfl⟩
    have most := hrow.most
    rw [List.length_cons] at most
    have nd := hrow.nd
    refine ⟨_, 
      (pss_cons (ps_par (i := 2) (j := 3) (by rfl) sc__law_single.nd rfl rfl (by decide) rfl rfl (pa_cons (pe_ix ix_tup (pv 0) pe_int (fun _ _ => rfl)) (pa_cons (pe_lst pa_nil) pa_nil)) (by rfl)) 
      (pss_cons (ps_for PassesOwn.never rfl (pi_tup (pe_slice sl_tup (pv 0) (po_some pe_int) po_none)) (pg_name (i := 4) sc__law_single.nd rfl (Or.inl rfl)) (pss_one (ps_if (pt_cmpR op_eq (pe_cmpR op_gt (pv 4) (pv 2) (nomark _)) (pe_cmpR op_eq (pv 1) pe_str (nomark _)) (nomark _)) (pss_cons (ps_expr (pe_bm PySem.F.plainAttrs_list PySem.F.slot_list_append PySem.F.type_list_append mt_append (pv 3) (pa_cons (pv 2) pa_nil))) (pss_one (ps_set (i := 2) sc__law_single.nd rfl (Or.inl rfl) (pv 4)))) (pss_one (ps_expr (pe_bm PySem.F.plainAttrs_list PySem.F.slot_list_append PySem.F.type_list_append mt_append (pv 3) (pa_cons (pv 4) pa_nil))))))) 
      (pss_one (ps_ret (pe_callTy call_tuple_of (by rfl) m_tuple (by decide +kernel) (pa_cons (pe_op op_cat (pv 3) (pe_lst (pa_cons (pv 2) pa_nil))) pa_nil)))))), ?_⟩
    refine ⟨_, rfl, a, _, 0, .int x, rfl, rfl, hS, atI_nat (j := 0) rfl, Nat.zero_le _, fun l nl => ⟨_, _, rfl, ?_⟩⟩
    have s1 : Same H (upd H l (.lst [])) := same_upd nl
    refine ⟨_, rfl, 1, rfl, a, _, rfl, SqT.same s1 hS, (fun z => absurd z.1 (nw1 (by rw [List.length_map]; exact hrow.pos))), fun c nc => ?_⟩
    have ec : cutV ((x :: xs).map V.int) (some 1) none = xs.map V.int := cut1
    rw [ec]
    have s2 : Same H (upd (upd H l (.lst [])) c (.tup (xs.map V.int))) := s1.trans (same_upd nc)
    have lc : l ≠ c := ne_of_none upd_same nc
    refine ⟨c, rfl, ⟨_, .inl (.inl upd_same)⟩, ?_⟩
    refine for_tup (xs := xs.map V.int) (fun i σ H2 => ∃ y : Option V, σ = [some (.ref a), some (.str (ltr b)), some (.int ((xs.take i).foldl (stepW b) ([], [], x)).2.2), some (.ref l), y] ∧ Same H H2 ∧ H2 c = some (.tup (xs.map V.int)) ∧
        H2 l = some (.lst (((xs.take i).foldl (stepW b) ([], [], x)).1.map V.int)))
      ⟨none, rfl, s2, upd_same, (upd_ne lc).trans upd_same⟩ (fun i σ H2 _ hI => ?_) (fun i v σ H2 hv hI => ?_) (fun σ H2 hI => ?_)
    · obtain ⟨_, _, _, h3, _⟩ := hI
      exact .inl (.inl h3)
    · obtain ⟨y, rfl, sm, hC, hl⟩ := hI
      have lt : i < xs.length := by
        have := (List.getElem?_eq_some_iff.mp hv).1
        rw [List.length_map] at this
        exact this
      have ev : v = .int xs[i] := Option.some.inj (hv.symm.trans (getI lt))
      subst ev
      have ft := fold_take (f := stepW b) (z := (([], [], x) : List Int × List Int × Int)) (List.getElem?_eq_getElem lt)
      have ln := runW_len b (xs.take i) [] [] x
      have hm := run_mem b (xs.take i) [] [] x
      have ne : xs[i] ≠ ((xs.take i).foldl (stepW b) ([], [], x)).2.2 := fun z => by
        rw [← z] at hm
        rw [List.nodup_cons] at nd
        rcases List.mem_cons.mp hm with w1 | w1
        · rw [← w1] at nd
          exact nd.1 (List.getElem_mem lt)
        · obtain ⟨j, hj, e⟩ := List.mem_take_iff_getElem.mp w1
          have := (List.getElem_inj nd.2).mp e
          omega
      generalize (xs.take i).foldl (stepW b) ([], [], x) = r at hl ft ln ne
      rw [List.length_take, Nat.min_eq_left (Nat.le_of_lt lt), List.length_nil] at ln
      refine ⟨_, rfl, _, rfl, _, _, rfl, rfl, _, rfl, rfl, rfl, _, rfl, ?_⟩
      rw [kindT, bl_eq, ← takes_eq ne]
      have step : stepW b r xs[i] = (if takes b xs[i] r.2.2 = true then (r.1 ++ [r.2.2], r.2.1 ++ [r.2.2], xs[i]) else (r.1 ++ [xs[i]], r.2.1, r.2.2)) := rfl
      cases ht : takes b xs[i] r.2.2 with
      | true =>
        rw [ht, if_pos rfl] at step
        refine iteT ⟨_, rfl, .inl ⟨rfl, _, .inl (.inl hl)⟩, _, rfl, l, _, _, rfl, rfl, hl, ?_, _, rfl, some (.int xs[i]), ?_, fun u o eu => ?_, ?_, ?_⟩
        · rw [List.length_map]
          exact len_lt (by omega)
        · rw [ft, step]
          rfl
        · rw [upd_ne (ne_of_none eu nl)]
          exact sm u o eu
        · rw [upd_ne lc.symm]
          exact hC
        · rw [upd_same, ft, step, List.map_append]
          rfl
      | false =>
        rw [ht, if_neg (by decide)] at step
        refine iteF ⟨_, rfl, .inl ⟨rfl, _, .inl (.inl hl)⟩, _, rfl, l, _, _, rfl, rfl, hl, ?_, some (.int xs[i]), ?_, fun u o eu => ?_, ?_, ?_⟩
        · rw [List.length_map]
          exact len_lt (by omega)
        · rw [ft, step]
          rfl
        · rw [upd_ne (ne_of_none eu nl)]
          exact sm u o eu
        · rw [upd_ne lc.symm]
          exact hC
        · rw [upd_same, ft, step, List.map_append]
          rfl
    · obtain ⟨y, rfl, sm, hC, hl⟩ := hI
      rw [List.length_map, List.take_length] at hl ⊢
      have ln := runW_len b xs [] [] x
      have eP : passL b (x :: xs) = (xs.foldl (stepW b) ([], [], x)).1 ++ [(xs.foldl (stepW b) ([], [], x)).2.2] := rfl
      rw [eP] at q
      generalize xs.foldl (stepW b) ([], [], x) = r at hl q ln
      rw [List.length_nil] at ln
      refine ⟨_, rfl, _, rfl, (by show 1 ≤ sizeLine; decide), fun t nt => ?_⟩
      have hl2 := same_upd (o := .lst [.int r.2.2]) nt l _ hl
      refine ⟨l, t, _, _, rfl, rfl, hl2, upd_same, ?_, fun u nu => ?_⟩
      · rw [List.length_map]
        exact Nat.le_of_lt (len_lt (by show _ + 1 ≤ _; omega))
      · refine ⟨u, _, rfl, .inl ⟨.inl (.inl upd_same), fun p np => ?_⟩⟩
        have sH : Same H (upd (upd (upd H2 t (.lst [.int r.2.2])) u (.lst (r.1.map V.int ++ [.int r.2.2]))) p (.tup (r.1.map V.int ++ [.int r.2.2]))) := ((sm.trans (same_upd nt)).trans (same_upd nu)).trans (same_upd np)
        refine q p _ sH ((sm.trans ((same_upd nt).trans (same_upd nu))).free np) ?_
        rw [upd_same, List.map_append]
        rfl
end
section
variable {P : Program} {w : World} {K : PySem.W.Frag} {mg : Str → Option Value} {base : Heap}
/-! ### the law's own passes -/
abbrev s__law_walk : Stmt := top 42
abbrev N__law_walk : List Str := ["_law_line", "_law_marks", "_law_mark"]
theorem sc__law_walk : FnScope N__law_walk ["_law_line", "_law_marks"] (defScope s__law_walk) := ⟨rfl, rfl, rfl, by decide +kernel, rfl, by decide +kernel, by decide +kernel⟩
def spLAfter (K : PySem.W.Frag) : Sp := fun vs H Q _ => ∃ (a : Addr) (ns : List Int) (bs : List Bool), vs = [.ref a, .str (wd bs)] ∧ SqT K H a (ns.map V.int) ∧ Row ns ∧
  ∀ (p : Addr) (H' : Hp), Same H H' → SqT K H' p ((afterL bs ns).map V.int) → Q (.ref p) H'
theorem ok_lafter (D : Df K mg "_law_walk" s__law_walk) (c__law_single : Cl P w K mg base 1 "_law_single" s__law_single ["_law_line", "_law_mark"] (spSingle K)) : Cl P w K mg base 2 "_law_walk" s__law_walk ["_law_line", "_law_marks"] (spLAfter K) := by
  refine D.ok sc__law_walk (fun _ _ _ _ _ _ us hl => match us, hl with | [_, _], _ => rfl) (fun vs H Q E h => ?_) (fun f cdv A outer s H vs Q E hr h => ?_)
  · obtain ⟨a, ns, bs, rfl, _⟩ := h
    rfl
  · obtain ⟨a, ns, bs, rfl, hS, hrow, q⟩ := h
    refine ⟨_, 
      (pss_cons (ps_for PassesOwn.never rfl (pi_str (pv 1)) (pg_name (i := 2) sc__law_walk.nd rfl (Or.inl rfl)) (pss_one (ps_set (i := 0) sc__law_walk.nd rfl (Or.inl rfl) (pe_u c__law_single hr (by omega) (by rfl) (pa_cons (pv 0) (pa_cons (pv 2) pa_nil)))))) 
      (pss_one (ps_ret (pv 0)))), ?_⟩
    refine ⟨_, rfl, _, rfl, ?_⟩
    refine for_it walk_str (fun i σ H3 => ∃ (y : Option V) (p : Addr), σ = [some (.ref p), some (.str (wd bs)), y] ∧ Same H H3 ∧ SqT K H3 p ((afterL (bs.take i) ns).map V.int))
      ⟨none, a, rfl, Same.refl H, hS⟩ (fun _ _ _ _ _ => trivial) (fun i v σ H3 H4 hi hI hv => ?_) (fun σ H3 hI => ?_)
    · obtain ⟨y, p, rfl, sm, hp⟩ := hI
      obtain ⟨rfl, c, hc, rfl⟩ := hv
      obtain ⟨b, hb, rfl⟩ := wd_get hc
      refine ⟨_, rfl, _, rfl, p, _, b, rfl, hp, hrow.after _, fun r H5 s5 n5 h5 => ⟨_, r, rfl, sm.trans s5, ?_⟩⟩
      rw [afterL_take hb]
      exact .inl (.inl h5)
    · obtain ⟨y, p, rfl, sm, hp⟩ := hI
      have et : bs.take (wd bs).cps.size = bs := List.take_of_length_le (Nat.le_of_eq (wd_len bs).symm)
      rw [et] at hp
      exact ⟨_, rfl, q p _ sm hp⟩
end
set_option exponentiation.threshold 100000
section
variable {P : Program} {w : World} {K : PySem.W.Frag} {mg : Str → Option Value} {base : Heap}
/-! ### the law's own fractions -/
abbrev s__law_low : Stmt := top 43
abbrev N__law_low : List Str := ["_law_top", "_law_bottom", "_law_one", "_law_two"]
theorem sc__law_low : FnScope N__law_low ["_law_top", "_law_bottom"] (defScope s__law_low) := ⟨rfl, rfl, rfl, by decide +kernel, rfl, by decide +kernel, by decide +kernel⟩
def spLow : Sp := fun vs H Q _ => ∃ x y : Nat, vs = [.int (x : Nat), .int (y : Nat)] ∧ 1 ≤ y ∧ y.log2 < 8000 ∧ ∀ (r : Addr) (H' : Hp), Same H H' → H r = none → H' r = some (.tup [.int ((x / Nat.gcd x y : Nat) : Int), .int ((y / Nat.gcd x y : Nat) : Int)]) → Q (.ref r) H'
theorem ok_low (D : Df K mg "_law_low" s__law_low) (m_abs : mg "abs" = none) : Cl P w K mg base 1 "_law_low" s__law_low ["_law_top", "_law_bottom"] spLow := by
  refine D.ok sc__law_low (fun _ _ _ _ _ _ us hl => match us, hl with | [_, _], _ => rfl) (fun vs H Q E h => ?_) (fun f cdv A outer s H vs Q E hr h => ?_)
  · obtain ⟨a, b, rfl, _⟩ := h
    rfl
  · obtain ⟨a, b, rfl, b1, bl, q⟩ := h
    refine ⟨_, 
      (pss_cons (ps_par (i := 2) (j := 3) (by rfl) sc__law_low.nd rfl rfl (by decide) rfl rfl (pa_cons (pe_callB call_abs (by rfl) m_abs (by decide +kernel) (pa_cons (pv 0) pa_nil)) (pa_cons (pv 1) pa_nil)) (by rfl)) 
      (pss_cons (ps_while PassesOwn.never (pt_cmpR op_gt (pv 3) pe_int (nomark _)) (pss_one (ps_par (i := 2) (j := 3) (by rfl) sc__law_low.nd rfl rfl (by decide) rfl rfl (pa_cons (pv 3) (pa_cons (pe_op op_mod (pv 2) (pv 3)) pa_nil)) (by rfl)))) 
      (pss_one (ps_ret (pe_tup (pa_cons (pe_op op_fdivW (pv 0) (pv 2)) (pa_cons (pe_op op_fdivW (pv 1) (pv 2)) pa_nil))))))), ?_⟩
    refine ⟨_, rfl, _, rfl, _, rfl, _, _, rfl, ?_⟩
    rw [show (if ((a : Nat) : Int) < 0 then -((a : Nat) : Int) else (a : Nat)) = (a : Nat) from if_neg (by omega)]
    refine while_by (fun σ G => ∃ x y : Nat, σ = [some (.int (a : Nat)), some (.int (b : Nat)), some (.int (x : Nat)), some (.int (y : Nat))] ∧ Nat.gcd x y = Nat.gcd a b ∧ G = H)
      (fun σ _ => match σ with | [_, _, _, some (.int i)] => i.toNat | _ => 0) ⟨a, b, rfl, rfl, rfl⟩ (fun σ G hI => ?_) (fun σ G Q1 Q2 hq hc => ?_)
    · obtain ⟨x, y, rfl, e, rfl⟩ := hI
      refine ⟨_, rfl, _, _, rfl, rfl, _, rfl, ?_⟩
      by_cases hy : 0 < y
      · rw [decide_eq_true (by omega)]
        refine iteT ⟨_, rfl, _, rfl, _, rfl, _, _, rfl, rfl, (by show (0 : Int) < (y : Nat); omega), _, _, rfl, ?_⟩
        refine ⟨⟨y, x % y, rfl, ?_, rfl⟩, ?_⟩
        · rw [← e, Nat.gcd_comm x y, Nat.gcd_rec y x, Nat.gcd_comm]
        · show ((x : Int) % (y : Nat)).toNat < ((y : Nat) : Int).toNat
          have := Nat.mod_lt x hy
          omega
      · rw [decide_eq_false (by omega)]
        have y0 : y = 0 := by omega
        subst y0
        rw [Nat.gcd_zero_right] at e
        subst e
        have gp : 0 < Nat.gcd a b := Nat.gcd_pos_of_pos_right a (by omega)
        have gl : Nat.gcd a b ≤ b := Nat.gcd_le_right a (by omega)
        have cd : ∀ z : Int, CDivW z ((Nat.gcd a b : Nat) : Int) := fun z => by
          refine ⟨by omega, ?_⟩
          show (Nat.gcd a b).log2 < 9000
          have h2 : b < 2 ^ 8000 := (Nat.log2_lt (by omega)).mp bl
          have := log_lt (Nat.lt_of_le_of_lt gl h2) (by decide)
          omega
        refine iteF ⟨_, rfl, _, rfl, _, _, rfl, rfl, cd _, _, rfl, _, rfl, _, _, rfl, rfl, cd _, (by show 2 ≤ sizeLine; decide), fun r nr => ?_⟩
        exact q r _ (same_upd nr) nr upd_same
    · obtain ⟨v, hv, i, j, e1, e2, k, ek, r⟩ := hc
      exact ⟨v, hv, i, j, e1, e2, k, ek, hq _ _ r⟩
abbrev s__law_power : Stmt := top 44
abbrev N__law_power : List Str := ["_law_base", "_law_times", "_law_found", "_law_turn"]
theorem sc__law_power : FnScope N__law_power ["_law_base", "_law_times"] (defScope s__law_power) := ⟨rfl, rfl, rfl, by decide +kernel, rfl, by decide +kernel, by decide +kernel⟩
def spPower : Sp := fun vs H Q _ => ∃ x k : Nat, vs = [.int (x : Nat), .int (k : Nat)] ∧ x ≤ 1000 ∧ k ≤ 1000 ∧ Q (.int ((x ^ k : Nat) : Int)) H
theorem ok_power (D : Df K mg "_law_power" s__law_power) (m_range : mg "range" = none) : Cl P w K mg base 1 "_law_power" s__law_power ["_law_base", "_law_times"] spPower := by
  refine D.ok sc__law_power (fun _ _ _ _ _ _ us hl => match us, hl with | [_, _], _ => rfl) (fun vs H Q E h => ?_) (fun f cdv A outer s H vs Q E hr h => ?_)
  · obtain ⟨x, k, rfl, _⟩ := h
    rfl
  · obtain ⟨x, k, rfl, hx, hk, q⟩ := h
    refine ⟨_, 
      (pss_cons (ps_set (i := 2) sc__law_power.nd rfl (Or.inl rfl) pe_int) 
      (pss_cons (ps_for PassesOwn.never rfl (pi_range1 (by rfl) m_range (pa_cons (pv 1) pa_nil)) (pg_name (i := 3) sc__law_power.nd rfl (Or.inl rfl)) (pss_one (ps_set (i := 2) sc__law_power.nd rfl (Or.inl rfl) (pe_op op_mul (pv 2) (pv 0))))) 
      (pss_one (ps_ret (pv 2))))), ?_⟩
    refine ⟨_, rfl, _, rfl, by omega, by omega, ?_⟩
    refine for_range (lo := 0) (n := ((k : Nat) : Int).toNat) (fun i σ G => ∃ y : Option V, σ = [some (.int (x : Nat)), some (.int (k : Nat)), some (.int ((x ^ i : Nat) : Int)), y] ∧ G = H) ⟨none, rfl, rfl⟩ (fun i σ G hi hI => ?_) (fun σ G hI => ?_)
    · obtain ⟨y, rfl, rfl⟩ := hI
      refine ⟨_, rfl, _, rfl, _, _, rfl, rfl, .inr ⟨by omega, by omega⟩, some (.int (0 + (i : Nat))), ?_, rfl⟩
      have eb : ((x ^ i : Nat) : Int) * (x : Nat) = ((x ^ (i + 1) : Nat) : Int) := by
        rw [Nat.pow_succ]
        exact (Int.natCast_mul _ _).symm
      exact congrArg (fun z : Int => [some (V.int (x : Nat)), some (V.int (k : Nat)), some (V.int z), some (V.int (0 + (i : Nat)))]) eb
    · obtain ⟨y, rfl, rfl⟩ := hI
      rw [Int.toNat_natCast]
      exact ⟨_, rfl, q⟩
abbrev s__law_chosen : Stmt := top 45
abbrev N__law_chosen : List Str := ["_law_pool_here", "_law_mode", "_law_bottom"]
theorem sc__law_chosen : FnScope N__law_chosen ["_law_pool_here"] (defScope s__law_chosen) := ⟨rfl, rfl, rfl, by decide +kernel, rfl, by decide +kernel, by decide +kernel⟩
def spChosen : Sp := fun vs H Q _ => ∃ a : Addr, vs = [.ref a] ∧ Pool H a ∧ ∀ (p : Addr) (t w : Nat) (H' : Hp), Kp a H H' → Pool H' a → p ≠ a → H' p = some (.tup [.int (t : Nat), .int (w : Nat)]) → Share t w → Q (.ref p) H'
theorem share_low {x y : Nat} (h1 : 1 ≤ x) (h2 : x < y) (h3 : y ≤ 1000) : Share (x / Nat.gcd x y) (y / Nat.gcd x y) := by
  have gp : 0 < Nat.gcd x y := Nat.gcd_pos_of_pos_left y (by omega)
  have d1 := Nat.gcd_dvd_left x y
  have d2 := Nat.gcd_dvd_right x y
  have e1 := Nat.div_mul_cancel d1
  have e2 := Nat.div_mul_cancel d2
  refine ⟨Nat.div_pos (Nat.le_of_dvd (by omega) d1) gp, ?_, Nat.le_trans (Nat.div_le_self _ _) h3, ?_⟩
  · rw [Nat.div_lt_iff_lt_mul gp, e2]
    exact h2
  · rw [Nat.gcd_div d1 d2, Nat.div_self gp]
theorem ok_chosen (D : Df K mg "_law_chosen" s__law_chosen) (c__law_draw : Cl P w K mg base 1 "_law_draw" s__law_draw ["_law_pool_here", "_law_upto"] spDraw) (c__law_low : Cl P w K mg base 1 "_law_low" s__law_low ["_law_top", "_law_bottom"] spLow) : Cl P w K mg base 2 "_law_chosen" s__law_chosen ["_law_pool_here"] spChosen := by
  refine D.ok sc__law_chosen (fun _ _ _ _ _ _ us hl => match us, hl with | [_], _ => rfl) (fun vs H Q E h => ?_) (fun f cdv A outer s H vs Q E hr h => ?_)
  · obtain ⟨a, rfl, _⟩ := h
    rfl
  · obtain ⟨a, rfl, hp, q⟩ := h
    refine ⟨_, 
      (pss_cons (ps_set (i := 1) sc__law_chosen.nd rfl (Or.inl rfl) (pe_u c__law_draw hr (by omega) (by rfl) (pa_cons (pv 0) (pa_cons pe_int pa_nil)))) 
      (pss_cons (ps_set (i := 2) sc__law_chosen.nd rfl (Or.inl rfl) (pe_ix ix_list (pe_lst (pa_cons pe_int (pa_cons pe_int (pa_cons pe_int (pa_cons pe_int (pa_cons (pe_op op_add pe_int (pe_u c__law_draw hr (by omega) (by rfl) (pa_cons (pv 0) (pa_cons pe_int pa_nil)))) pa_nil)))))) (pv 1) (fun _ _ => rfl))) 
      (pss_one (ps_ret (pe_u c__law_low hr (by omega) (by rfl) (pa_cons (pe_op op_add pe_int (pe_u c__law_draw hr (by omega) (by rfl) (pa_cons (pv 0) (pa_cons (pe_op op_sub (pv 2) pe_int) pa_nil)))) (pa_cons (pv 2) pa_nil))))))), ?_⟩
    refine ⟨_, rfl, a, 5, rfl, by decide, by decide, hp, fun d H1 d0 d1 k1 p1 => ?_⟩
    refine ⟨_, rfl, a, 999, rfl, by decide, by decide, p1, fun e H2 e0 e1 k2 p2 => ⟨_, _, rfl, rfl, (by show 5 ≤ sizeLine; decide), fun l nl => ?_⟩⟩
    have la : l ≠ a := p2.ne nl
    obtain ⟨y, hy, y2, y3⟩ : ∃ y : Nat, atI [V.int 2, V.int 3, V.int 1000, V.int 7, V.int (2 + e)] d = some (V.int (y : Nat)) ∧ 2 ≤ y ∧ y ≤ 1000 := by
      have c : d = 0 ∨ d = 1 ∨ d = 2 ∨ d = 3 ∨ d = 4 := by omega
      rcases c with rfl | rfl | rfl | rfl | rfl
      · exact ⟨2, rfl, by decide, by decide⟩
      · exact ⟨3, rfl, by decide, by decide⟩
      · exact ⟨1000, rfl, by decide, by decide⟩
      · exact ⟨7, rfl, by decide, by decide⟩
      · refine ⟨(2 + e).toNat, ?_, by omega, by omega⟩
        rw [show ((2 + e).toNat : Int) = 2 + e by omega]
        rfl
    refine ⟨_, rfl, l, _, d, _, rfl, rfl, .inl (.inl upd_same), hy, ?_⟩
    have k3 : Kp a H (upd H2 l (.lst [.int 2, .int 3, .int 1000, .int 7, .int (2 + e)])) := (k1.trans k2).trans (.of_same (same_upd nl))
    refine ⟨_, rfl, _, rfl, _, _, rfl, rfl, a, _, rfl, by omega, by omega, p2.upd la.symm, fun g H3 g0 g1 k4 p4 => ⟨_, _, rfl, rfl, _, rfl, ?_⟩⟩
    obtain ⟨x, hx⟩ : ∃ x : Nat, 1 + g = (x : Nat) := ⟨(1 + g).toNat, by omega⟩
    have yl : y.log2 < 8000 := by
      have := log_lt (n := y) (m := 10) (by omega) (by decide)
      omega
    refine ⟨x, y, congrArg (fun z : Int => [V.int z, V.int (y : Nat)]) hx, by omega, yl, fun r G s5 nr hr5 => ?_⟩
    exact q r _ _ G ((k3.trans k4).trans (.of_same s5)) (p4.of fun o e => s5 a o e) (p4.ne nr) hr5 (share_low (by omega) (by omega) y3)
end
section
/-! ### a dict with a number for each person -/
abbrev kvS (ns : List Int) (F : Int → Nat) : List (L2.Key × V) := ns.map fun h => ((Sum.inl h : L2.Key), V.int ((F h : Nat) : Int))
theorem inl_ne {x y : Int} (h : ¬ x = y) : ¬ (Sum.inl x : L2.Key) = Sum.inl y := fun z => h (Sum.inl.inj z)
theorem val_kvS {F : Int → Nat} : ∀ {ns : List Int} {x : Int}, x ∈ ns → valV (kvS ns F) (Sum.inl x) = some (.int ((F x : Nat) : Int))
  | y :: ns, x, h => by
    show valV (((Sum.inl y : L2.Key), V.int ((F y : Nat) : Int)) :: kvS ns F) _ = _
    by_cases e : y = x
    · rw [e]
      exact valV_pos rfl
    · rw [valV_neg (inl_ne e)]
      rcases List.mem_cons.mp h with z | z
      · exact absurd z.symm e
      · exact val_kvS z
theorem any_kvS {F : Int → Nat} : ∀ {ns : List Int} {x : Int}, ((kvS ns F).any fun kv => decide (kv.1 = (Sum.inl x : L2.Key))) = decide (x ∈ ns)
  | [], x => by simp
  | y :: ns, x => by
    show (decide ((Sum.inl y : L2.Key) = Sum.inl x) || (kvS ns F).any _) = _
    rw [any_kvS]
    by_cases e : y = x
    · rw [e]
      simp
    · rw [decide_eq_false (inl_ne e), Bool.false_or]
      exact decide_eq_decide.mpr ⟨fun z => List.mem_cons_of_mem _ z, fun z => (List.mem_cons.mp z).elim (fun w => absurd w.symm e) id⟩
theorem put_kvS {F : Int → Nat} {ns : List Int} {x : Int} {n : Nat} (h : x ∈ ns) : putK (kvS ns F) (Sum.inl x) (.int ((n : Nat) : Int)) = kvS ns fun y => if y = x then n else F y := by
  unfold putK
  rw [any_kvS, if_pos (decide_eq_true h), List.map_map]
  refine List.map_congr_left fun y _ => ?_
  show (if (Sum.inl y : L2.Key) = Sum.inl x then ((Sum.inl y : L2.Key), V.int ((n : Nat) : Int)) else ((Sum.inl y : L2.Key), V.int ((F y : Nat) : Int))) = ((Sum.inl y : L2.Key), V.int (((if y = x then n else F y) : Nat) : Int))
  by_cases e : y = x
  · rw [if_pos (congrArg _ e), if_pos e]
  · rw [if_neg (inl_ne e), if_neg e]
theorem merge_new : ∀ (more acc : List (L2.Key × V)), (acc.map (·.1) ++ more.map (·.1)).Nodup → mergeK acc more = acc ++ more
  | [], acc, _ => by
    rw [List.append_nil]
    rfl
  | p :: more, acc, nd => by
    have no : (acc.any fun kv => decide (kv.1 = p.1)) = false := by
      rw [List.any_eq_false]
      intro kv hk e
      have e := of_decide_eq_true e
      rw [List.map_cons, List.nodup_append] at nd
      exact nd.2.2 kv.1 (List.mem_map_of_mem hk) p.1 List.mem_cons_self e
    have e : putK acc p.1 p.2 = acc ++ [p] := by
      unfold putK
      rw [no, if_neg Bool.false_ne_true]
    show mergeK (putK acc p.1 p.2) more = _
    rw [e, merge_new more (acc ++ [p]), List.append_assoc]
    · rfl
    · rw [List.map_append, List.append_assoc]
      exact nd
theorem merge_kvS {F : Int → Nat} {ns : List Int} (nd : ns.Nodup) : mergeK [] (kvS ns F) = kvS ns F := by
  rw [merge_new (kvS ns F) [] ?_]
  · rfl
  · rw [List.map_map]
    exact List.pairwise_map.mpr (List.Pairwise.imp (fun h z => h (Sum.inl.inj z)) nd)
end
section
variable {P : Program} {w : World} {K : PySem.W.Frag} {mg : Str → Option Value} {base : Heap}
/-! ### the law's own sums -/
/-- what the first i words of m letters add for a person -/
def partS (t wh m : Nat) (ns : List Int) (i : Nat) (h : Int) : Nat := (((allW m).take i).map fun u => wt t wh u * (afterL u ns).idxOf h).sum
theorem partS_all (t wh m : Nat) (ns : List Int) (h : Int) : partS t wh m ns (allW m).length h = meanN t wh m (fun r => r.idxOf h) ns := by
  unfold partS
  rw [List.take_length, meanN_words]
theorem SqT.kpD {K : PySem.W.Frag} {H F : Hp} {g v : Addr} {xs : List V} {kvs : List (L2.Key × V)} (h : SqT K H v xs) (e : H g = some (.dK kvs)) (k : Kp g H F) : SqT K F v xs := by
  rcases h with (h | ⟨o, h⟩) | h
  · exact .inl (.inl (k _ _ h fun z => by rw [z, e] at h; cases h))
  · exact .inl (.inr ⟨o, k _ _ h fun z => by rw [z, e] at h; cases h⟩)
  · exact .inr h
abbrev s__law_sums : Stmt := top 47
abbrev N__law_sums : List Str := ["_law_line", "_law_part", "_law_many", "_law_person", "_law_sums_here", "_law_marks", "_law_tall", "_law_weight", "_law_at"]
theorem sc__law_sums : FnScope N__law_sums ["_law_line", "_law_part", "_law_many"] (defScope s__law_sums) := ⟨rfl, rfl, rfl, by decide +kernel, rfl, by decide +kernel, by decide +kernel⟩
def spSums (K : PySem.W.Frag) : Sp := fun vs H Q _ => ∃ (a p : Addr) (ns : List Int) (t wh m : Nat), vs = [.ref a, .ref p, .int (m : Nat)] ∧ SqT K H a (ns.map V.int) ∧ Row ns ∧ SqT K H p [.int (t : Nat), .int (wh : Nat)] ∧ Share t wh ∧ m ≤ 12 ∧
  ∀ (r : Addr) (H' : Hp), Same H H' → H r = none → H' r = some (.dK (kvS ns fun h => meanN t wh m (fun r => r.idxOf h) ns)) → Q (.ref r) H'
theorem ok_sums (D : Df K mg "_law_sums" s__law_sums) (c__law_all_words : Cl P w K mg base 1 "_law_all_words" s__law_all_words ["_law_many"] spAllW) (c__law_walk : Cl P w K mg base 2 "_law_walk" s__law_walk ["_law_line", "_law_marks"] (spLAfter K)) (c__law_power : Cl P w K mg base 1 "_law_power" s__law_power ["_law_base", "_law_times"] spPower)
    (m_dict : mg "dict" = none) (m_enumerate : mg "enumerate" = none) : Cl P w K mg base 3 "_law_sums" s__law_sums ["_law_line", "_law_part", "_law_many"] (spSums K) := by
  refine D.ok sc__law_sums (fun _ _ _ _ _ _ us hl => match us, hl with | [_, _, _], _ => rfl) (fun vs H Q E h => ?_) (fun f cdv A outer s H vs Q E hr h => ?_)
  · obtain ⟨a, p, ns, t, wh, m, rfl, _⟩ := h
    rfl
  · obtain ⟨a, p, ns, t, wh, m, rfl, hS, row, hp, sh, hm, q⟩ := h
    refine ⟨_, 
      (pss_cons (ps_set (i := 4) sc__law_sums.nd rfl (Or.inl rfl) (pe_callTy (call_dictP rfl) (by rfl) m_dict (by decide +kernel) (pa_cons (pe_lc (own := [("_law_person", 3)]) (g := gName 3) rfl sc__law_sums.nd (pi_tup (pv 0)) (blkOk_by (own := [("_law_person", 3)]) (N := N__law_sums) (sc := (defScope s__law_sums)) (by decide +kernel)) (fun _ _ _ _ _ => (pg_name (i := 3) sc__law_sums.nd rfl (Or.inl rfl))) (fun _ _ _ _ _ => pts_nil) (fun _ _ _ _ _ => (pe_tup (pa_cons (pv 3) (pa_cons pe_int pa_nil))))) pa_nil))) 
      (pss_cons (ps_for PassesOwn.never rfl (pi_list (pe_u c__law_all_words hr (by omega) (by rfl) (pa_cons (pv 2) pa_nil))) (pg_name (i := 5) sc__law_sums.nd rfl (Or.inl rfl)) (pss_cons (ps_set (i := 6) sc__law_sums.nd rfl (Or.inl rfl) (pe_m1 PySem.F.slot_str_count PySem.F.type_str_count mt_count (pv 5) pe_str)) (pss_cons (ps_set (i := 7) sc__law_sums.nd rfl (Or.inl rfl) (pe_op op_mulW (pe_u c__law_power hr (by omega) (by rfl) (pa_cons (pe_ix ix_tup (pv 1) pe_int (fun _ _ => rfl)) (pa_cons (pv 6) pa_nil))) (pe_u c__law_power hr (by omega) (by rfl) (pa_cons (pe_op op_sub (pe_ix ix_tup (pv 1) pe_int (fun _ _ => rfl)) (pe_ix ix_tup (pv 1) pe_int (fun _ _ => rfl))) (pa_cons (pe_op op_sub (pv 2) (pv 6)) pa_nil))))) (pss_one (ps_for PassesOwn.never rfl (pi_enumT (by rfl) m_enumerate (pa_cons (pe_u c__law_walk hr (by omega) (by rfl) (pa_cons (pv 0) (pa_cons (pv 5) pa_nil))) pa_nil)) (pg_tup (by rfl) (pgs_cons (pg_name (i := 8) sc__law_sums.nd rfl (Or.inl rfl)) (pgs_cons (pg_name (i := 3) sc__law_sums.nd rfl (Or.inl rfl)) pgs_nil))) (pss_one (ps_dput (uni hr) (pv 4) (pv 3) (pe_op op_add (pe_dget (uni hr) (pv 4) (pv 3) (fun _ _ => rfl)) (pe_op op_mul (pv 8) (pv 7))) (by rfl)))))))) 
      (pss_one (ps_ret (pv 4))))), ?_⟩
    have h1 := sh.pos
    have h2 := sh.lt
    have h3 := sh.most
    have most := row.most
    refine ⟨_, rfl, a, rfl, ⟨_, hS⟩, fun C nC => ?_⟩
    refine lc_tup (xs := ns.map V.int) (fun j F => ∃ ps : List Addr, F C = some (.lst (ps.map V.ref)) ∧ Same H F ∧ ps.length = j ∧ Paired (fun p kv => p ≠ C ∧ SqT K F p [L2.kV kv.1, kv.2]) ps ((kvS ns fun _ => 0).take j)) ⟨[], upd_same, same_upd nC, rfl, .nil⟩ (fun j F _ hK => ?_) (fun j x F hx hK => ?_) (fun F hK => ?_)
    · obtain ⟨_, _, sF, _⟩ := hK
      exact SqT.same sF hS
    · obtain ⟨ps, hC, sF, ln, pr⟩ := hK
      obtain ⟨h, hh, rfl⟩ : ∃ h, ns[j]? = some h ∧ x = .int h := by
        rw [List.getElem?_map] at hx
        obtain ⟨h, h1, h2⟩ := Option.map_eq_some_iff.mp hx
        exact ⟨h, h1, h2.symm⟩
      have jl : j < ns.length := (List.getElem?_eq_some_iff.mp hh).1
      refine ⟨rfl, _, rfl, (by show 2 ≤ sizeLine; decide), fun t nt => ?_⟩
      have st := same_upd (o := .tup [.int h, .int 0]) nt
      have tC : t ≠ C := fun z => by
        rw [z, hC] at nt
        cases nt
      refine ⟨_, st _ _ hC, ?_, ps ++ [t], ?_, fun c o e => ?_, by rw [List.length_append, ln]; rfl, ?_⟩
      · rw [List.length_map, ln]
        exact len_lt (by omega)
      · rw [upd_same, List.map_append]
        rfl
      · rw [upd_ne (ne_of_none e nC)]
        exact st _ _ (sF _ _ e)
      · have kC : Kp C F (upd (upd F t (.tup [.int h, .int 0])) C (.lst (ps.map V.ref ++ [.ref t]))) := fun c u ec ne => by
          rw [upd_ne ne]
          exact st _ _ ec
        have tk : (kvS ns fun _ => 0).take (j + 1) = (kvS ns fun _ => 0).take j ++ [((Sum.inl h : L2.Key), V.int ((0 : Nat) : Int))] := by
          rw [List.take_succ, List.getElem?_map, hh]
          rfl
        rw [tk]
        refine Paired.snoc (Paired.mapP pr fun _ _ z => ⟨z.1, SqT.kp kC z.1 z.2⟩) ⟨tC, .inl (.inl ?_)⟩
        rw [upd_ne tC]
        exact upd_same
    · obtain ⟨ps, hC, sF, ln, pr⟩ := hK
      rw [List.take_of_length_le (by rw [List.length_map, List.length_map]; exact Nat.le_refl _)] at pr
      refine ⟨C, ps, kvS ns fun _ => 0, rfl, .inl (.inl hC), Paired.mapP pr fun _ _ z => z.2, fun g ng => ?_⟩
      rw [merge_kvS row.nd]
      have fg : H g = none := sF.free ng
      have sg := sF.trans (same_upd (o := .dK (kvS ns fun _ => 0)) ng)
      have hg : upd F g (.dK (kvS ns fun _ => 0)) g = some (.dK (kvS ns fun _ => 0)) := upd_same
      generalize upd F g (.dK (kvS ns fun _ => 0)) = G0 at sg hg ⊢
      refine ⟨_, rfl, m, rfl, hm, fun l H1 s1 nl hl => ?_⟩
      have hg1 := s1 _ _ hg
      have lg : l ≠ g := fun z => by
        rw [z, hg] at nl
        cases nl
      have s01 := sg.trans s1
      refine ⟨l, rfl, ⟨_, .inl (.inl hl)⟩, ?_⟩
      refine for_list (xs := (allW m).map wV) (fun i σ G => ∃ (y1 y2 y3 y4 y5 : Option V), σ = [some (.ref a), some (.ref p), some (.int (m : Nat)), y1, some (.ref g), y2, y3, y4, y5] ∧ Kp g H1 G ∧ G g = some (.dK (kvS ns (partS t wh m ns i))))
        ⟨none, none, none, none, none, rfl, Kp.refl g H1, hg1⟩ (fun i σ G _ hI => ?_) (fun i x σ G hx hI => ?_) (fun σ G hI => ?_)
      · obtain ⟨_, _, _, _, _, _, kG, _⟩ := hI
        exact .inl (.inl (kG _ _ hl lg))
      · obtain ⟨y1, y2, y3, y4, y5, rfl, kG, hgG⟩ := hI
        obtain ⟨u, hu, rfl⟩ := getW hx
        have ul := allW_mem m u (List.mem_of_getElem? hu)
        have two := count_two u
        have b1 := pow_lt (x := t) (k := u.count true) (m := 12) (by omega) (by omega)
        have b2 := pow_lt (x := wh - t) (k := u.count false) (m := 12) (by omega) (by omega)
        have l1 := log_lt b1 (by decide)
        have l2 := log_lt b2 (by decide)
        have keep : ∀ {c : Addr} {o : HO}, H c = some o → G c = some o := fun {c o} e => kG _ _ (s01 _ _ e) (ne_of_none e fg)
        have sHG : Same H G := fun c o e => keep e
        have hpG := SqT.same sHG hp
        have hSG := SqT.same sHG hS
        refine ⟨_, rfl, ⟨_, rfl⟩, _, _, rfl, rfl, ?_⟩
        rw [count_T]
        refine ⟨_, rfl, p, _, 0, _, rfl, rfl, hpG, atI_nat (j := 0) rfl, _, rfl, t, u.count true, rfl, by omega, by omega, ?_⟩
        refine ⟨_, rfl, p, _, 1, _, rfl, rfl, hpG, atI_nat (j := 1) rfl, _, rfl, p, _, 0, _, rfl, rfl, hpG, atI_nat (j := 0) rfl, _, _, rfl, rfl, _, rfl, _, rfl, _, _, rfl, rfl, wh - t, u.count false, ?_, by omega, by omega, ?_⟩
        · have x1 : ((wh : Nat) : Int) - (t : Nat) = ((wh - t : Nat) : Int) := by omega
          have x2 : ((m : Nat) : Int) - ((u.count true : Nat) : Int) = ((u.count false : Nat) : Int) := by omega
          show [V.int (((wh : Nat) : Int) - (t : Nat)), V.int (((m : Nat) : Int) - ((u.count true : Nat) : Int))] = _
          rw [x1, x2]
        refine ⟨_, _, rfl, rfl, (show (t ^ u.count true).log2 + ((wh - t) ^ u.count false).log2 < 1000000 by omega), ?_⟩
        have ew : (fun i j : Int => V.int (i * j)) ((t ^ u.count true : Nat) : Int) (((wh - t) ^ u.count false : Nat) : Int) = V.int ((wt t wh u : Nat) : Int) := congrArg V.int (Int.natCast_mul _ _).symm
        rw [ew]
        have hr := row.after u
        have rl := hr.most
        have pmr : (afterL u ns).Perm ns := afterL_perm u ns
        have mem : ∀ h ∈ ns, h ∈ afterL u ns := fun h hh => pmr.mem_iff.mpr hh
        refine ⟨_, rfl, _, rfl, a, ns, u, rfl, hSG, row, fun v G2 s2 hv => ?_⟩
        have hg2 := s2 _ _ hgG
        have step : partS t wh m ns (i + 1) = fun h => partS t wh m ns i h + wt t wh u * (afterL u ns).idxOf h := by
          funext h
          unfold partS
          rw [take_map_succ hu, List.sum_append, List.sum_cons, List.sum_nil, Nat.add_zero]
        generalize hrr : afterL u ns = r at hv hr rl pmr mem step
        refine ⟨v, _, rfl, hv, ?_⟩
        refine walk_enumT (xs := r.map V.int) (fun j σ F => ∃ y1 y2 y3 y4 : Option V, σ = [some (.ref a), some (.ref p), some (.int (m : Nat)), y1, some (.ref g), y2, y3, some (.int ((wt t wh u : Nat) : Int)), y4] ∧ Kp g G2 F ∧ F g = some (.dK (kvS ns fun h => partS t wh m ns i h + if r.idxOf h < j then wt t wh u * r.idxOf h else 0))) ⟨_, _, _, _, rfl, Kp.refl g G2, ?_⟩ (fun j σ F _ hJ => ?_) (fun j x T σ F hx hJ nT => ?_) (fun σ F hJ => ?_)
        · rw [hg2]
          congr 3
        · obtain ⟨_, _, _, _, _, kF, _⟩ := hJ
          exact SqT.kpD hv hg2 kF
        · obtain ⟨y1, y2, y3, y4, rfl, kF, hgF⟩ := hJ
          obtain ⟨h, hh, rfl⟩ : ∃ h, r[j]? = some h ∧ x = .int h := by
            rw [List.getElem?_map] at hx
            obtain ⟨h, h1, h2⟩ := Option.map_eq_some_iff.mp hx
            exact ⟨h, h1, h2.symm⟩
          have jl : j < r.length := (List.getElem?_eq_some_iff.mp hh).1
          have ej : r[j] = h := (List.getElem?_eq_some_iff.mp hh).2
          have hn : h ∈ ns := pmr.mem_iff.mp (List.mem_of_getElem? hh)
          have ix : r.idxOf h = j := by rw [← ej]; exact hr.nd.idxOf_getElem j jl
          have gT : g ≠ T := ne_of_none hgF nT
          have hgT : upd F T (.tup [.int (j : Nat), .int h]) g = some (.dK (kvS ns fun h => partS t wh m ns i h + if r.idxOf h < j then wt t wh u * r.idxOf h else 0)) := (upd_ne gT).trans hgF
          refine ⟨T, _, rfl, .inl (.inl upd_same), rfl, _, _, rfl, _, _, rfl, rfl, ?_⟩
          refine ⟨_, rfl, _, rfl, g, _, rfl, .inl ⟨_, .inl h, .inl hgT, rfl, (val_kvS hn).symm⟩, _, rfl, _, rfl, _, _, rfl, rfl, .inl ⟨by omega, by omega⟩, _, _, rfl, rfl, ?_⟩
          have ev : (fun i j : Int => V.int (i + j)) ((partS t wh m ns i h + (if r.idxOf h < j then wt t wh u * r.idxOf h else 0) : Nat) : Int) (((j : Nat) : Int) * ((wt t wh u : Nat) : Int)) = V.int ((partS t wh m ns i h + wt t wh u * j : Nat) : Int) := by
            rw [ix, if_neg (Nat.lt_irrefl j), Nat.add_zero]
            refine congrArg V.int ?_
            rw [Int.natCast_add, Int.natCast_mul, Int.mul_comm]
          rw [ev]
          refine ⟨_, rfl, _, rfl, g, _, rfl, DPut.k (k := .inl h) hgT ?_, ?_⟩
          · rw [List.length_map]
            exact len_lt (by omega)
          rw [put_kvS hn]
          refine ⟨_, _, _, _, rfl, fun c o e ne => ?_, ?_⟩
          · rw [upd_ne ne]
            exact same_upd nT _ _ (kF _ _ e ne)
          · rw [upd_same]
            refine congrArg (fun z => some (HO.dK z)) (List.map_congr_left fun y hy => ?_)
            refine congrArg (fun z : Nat => ((Sum.inl y : L2.Key), V.int ((z : Nat) : Int))) ?_
            dsimp only
            by_cases e : y = h
            · rw [if_pos e, e, ix, if_pos (Nat.lt_succ_self j)]
            · rw [if_neg e]
              have nj : r.idxOf y ≠ j := fun z => e (by
                have hy2 := mem y hy
                have lt := List.idxOf_lt_length_of_mem hy2
                have g1 := List.getElem_idxOf lt
                rw [← g1, ← ej]
                congr 1)
              by_cases lt : r.idxOf y < j
              · rw [if_pos lt, if_pos (by omega)]
              · rw [if_neg lt, if_neg (by omega)]
        · obtain ⟨y1, y2, y3, y4, rfl, kF, hgF⟩ := hJ
          refine ⟨_, _, _, _, _, rfl, fun c o e ne => kF _ _ (s2 _ _ (kG _ _ e ne)) ne, ?_⟩
          rw [hgF, step]
          refine congrArg (fun z => some (HO.dK z)) (List.map_congr_left fun y hy => ?_)
          refine congrArg (fun z : Nat => ((Sum.inl y : L2.Key), V.int ((z : Nat) : Int))) ?_
          have lt := List.idxOf_lt_length_of_mem (mem y hy)
          rw [List.length_map]
          dsimp only
          rw [if_pos lt]
      · obtain ⟨y1, y2, y3, y4, y5, rfl, kG, hgG⟩ := hI
        rw [List.length_map] at hgG
        rw [show (fun h => meanN t wh m (fun r => r.idxOf h) ns) = partS t wh m ns (allW m).length from funext fun h => (partS_all t wh m ns h).symm] at q
        exact ⟨_, rfl, q g G (fun c o e => kG _ _ (s01 _ _ e) (ne_of_none e fg)) fg hgG⟩
end
section
variable {P : Program} {w : World} {K : PySem.W.Frag} {mg : Str → Option Value} {base : Heap}
/-! ### a pool is right -/
theorem dp_prs {F : Hp} {ps : List Addr} {L : List (Int × Int)} (h : Paired (fun (p : Addr) (d : Int × Int) => SqT K F p [.int d.1, .int d.2]) ps L) : DpAll K F (ps.map V.ref) (L.map dP) := by
  induction h with
  | nil => exact .nil
  | @cons p d ps L h t ih => exact .cons (.tup h (.cons (.int _) (.cons (.int _) .nil))) ih
theorem pairs_layL (ps : List (Int × Int)) : (PyData.list (ps.map dP)).canLay0 = true := by simp only [PyData.canLay0, lay_pairs]
theorem pairs_shapedL (ps : List (Int × Int)) : SeqAt.shaped (.list (ps.map dP)) = true := by
  have := depth_pairs ps
  unfold SeqAt.shaped
  simp only [PyData.canLay0, PyData.depth, lay_pairs]
  simp
  omega
theorem pairs_eqvL (ps : List (Int × Int)) : PyData.eqv (.list (ps.map dP)) (.list (ps.map dP)) = true := SeqAt.eqv_refl _ (pairs_layL ps)
/-- a mean is small -/
theorem meanN_le {t wh B : Nat} (h : t ≤ wh) {ns : List Int} : ∀ (j : Nat) (f : List Int → Nat), (∀ m, m.Perm ns → f m ≤ B) → ∀ m, m.Perm ns → meanN t wh j f m ≤ wh ^ j * B
  | 0, f, hf, m, pm => by
    rw [Nat.pow_zero, Nat.one_mul]
    exact hf m pm
  | j + 1, f, hf, m, pm => by
    have go := meanN_le h j f hf
    have a1 := go (passL false m) ((passL_perm false m).trans pm)
    have a2 := go (passL true m) ((passL_perm true m).trans pm)
    show meanN t wh j (meanF t wh f) m ≤ _
    rw [meanN_in]
    unfold meanF
    have b1 := Nat.mul_le_mul_left (wh - t) a1
    have b2 := Nat.mul_le_mul_left t a2
    have e : (wh - t) * (wh ^ j * B) + t * (wh ^ j * B) = wh ^ (j + 1) * B := by
      rw [← Nat.add_mul, show wh - t + t = wh by omega, Nat.pow_succ, Nat.mul_comm (wh ^ j) wh, Nat.mul_assoc]
    omega
theorem mean_log {t wh : Nat} (sh : Share t wh) {ns : List Int} (row : Row ns) {m : Nat} (hm : m ≤ 12) {h : Int} :
    ∀ x ∈ [((meanN t wh m (idxF h) ns / Nat.gcd (meanN t wh m (idxF h) ns) (wh ^ m) : Nat) : Int), ((wh ^ m / Nat.gcd (meanN t wh m (idxF h) ns) (wh ^ m) : Nat) : Int)], x.natAbs.log2 < 1920 := by
  have h2 := sh.lt
  have h3 := sh.most
  have most := row.most
  have b0 := pow_lt (x := wh) (k := m) (m := 12) (by omega) hm
  have b1 : meanN t wh m (idxF h) ns ≤ wh ^ m * 12 := meanN_le (by omega) m (idxF h) (fun r pr => by
    have := List.idxOf_le_length (a := h) (l := r)
    have := pr.length_eq
    show r.idxOf h ≤ 12
    omega) ns (.refl _)
  have c1 := Nat.div_le_self (meanN t wh m (idxF h) ns) (Nat.gcd (meanN t wh m (idxF h) ns) (wh ^ m))
  have c2 := Nat.div_le_self (wh ^ m) (Nat.gcd (meanN t wh m (idxF h) ns) (wh ^ m))
  intro x hx
  rcases List.mem_cons.mp hx with rfl | hx
  · rw [Int.natAbs_natCast]
    have : meanN t wh m (idxF h) ns / Nat.gcd (meanN t wh m (idxF h) ns) (wh ^ m) < 2 ^ 130 := by
      have : (2 : Nat) ^ (10 * 12 + 1) * 12 < 2 ^ 130 := by decide
      omega
    have := log_lt this (by decide)
    omega
  · rw [List.mem_singleton.mp hx, Int.natAbs_natCast]
    have : wh ^ m / Nat.gcd (meanN t wh m (idxF h) ns) (wh ^ m) < 2 ^ (10 * 12 + 1) := by omega
    have := log_lt this (by decide)
    omega
theorem mean_zero {t wh : Nat} {ns : List Int} (nd : ns.Nodup) {j : Nat} {h : Int} (hj : ns[j]? = some h) : meanN t wh 0 (idxF h) ns / Nat.gcd (meanN t wh 0 (idxF h) ns) (wh ^ 0) = j ∧ wh ^ 0 / Nat.gcd (meanN t wh 0 (idxF h) ns) (wh ^ 0) = 1 := by
  have lt := (List.getElem?_eq_some_iff.mp hj).1
  have e : idxF h ns = j := by
    rw [← (List.getElem?_eq_some_iff.mp hj).2]
    exact nd.idxOf_getElem j lt
  rw [show meanN t wh 0 (idxF h) ns = j from e, Nat.pow_zero, Nat.gcd_one_right, Nat.div_one]
  exact ⟨rfl, rfl⟩
abbrev s__law_right : Stmt := top 48
abbrev N__law_right : List Str := ["_law_pool_here", "_law_large", "_law_line", "_law_part", "_law_many", "_law_sums_here", "_law_bottom", "_law_person", "_law_due", "_law_at"]
theorem sc__law_right : FnScope N__law_right ["_law_pool_here"] (defScope s__law_right) := ⟨rfl, rfl, rfl, by decide +kernel, rfl, by decide +kernel, by decide +kernel⟩
def spRight : Sp := fun vs H Q _ => ∃ a : Addr, vs = [.ref a] ∧ Pool H a ∧ ∀ H', Kp a H H' → Q (.bl true) H'
theorem ok_right (D : Df K mg "_law_right" s__law_right) (c__law_draw : Cl P w K mg base 1 "_law_draw" s__law_draw ["_law_pool_here", "_law_upto"] spDraw) (c__law_people : Cl P w K mg base 3 "_law_people" s__law_people ["_law_pool_here", "_law_least", "_law_most"] spPeople) (c__law_chosen : Cl P w K mg base 2 "_law_chosen" s__law_chosen ["_law_pool_here"] spChosen)
    (c__law_sums : Cl P w K mg base 3 "_law_sums" s__law_sums ["_law_line", "_law_part", "_law_many"] (spSums K)) (c__law_power : Cl P w K mg base 1 "_law_power" s__law_power ["_law_base", "_law_times"] spPower) (c__law_low : Cl P w K mg base 1 "_law_low" s__law_low ["_law_top", "_law_bottom"] spLow) (c_mean_index : Cl P w K mg base 8 "mean_index" s_mean_index ["row", "share", "steps", "height"] (spMean K))
    (m_int : mg "int" = none) (m_range : mg "range" = none) (m_len : mg "len" = none) (m_repr : mg "repr" = none) : ClG P w K mg base 9 "_law_right" s__law_right ["_law_pool_here"] spRight := by
  refine D.okG sc__law_right (fun _ _ _ _ _ _ us hl => match us, hl with | [_], _ => rfl) (fun vs H Q E h => ?_) (fun f cdv A outer s H vs Q E hr hgd h => ?_)
  · obtain ⟨a, rfl, _⟩ := h
    rfl
  · obtain ⟨a, rfl, hp, q⟩ := h
    refine ⟨_, 
      (pss_cons (ps_set (i := 1) sc__law_right.nd rfl (Or.inl rfl) (pe_callTy call_int1 (by rfl) m_int (by decide +kernel) (pa_cons (pe_cmpR op_eq (pe_u c__law_draw hr (by omega) (by rfl) (pa_cons (pv 0) (pa_cons pe_int pa_nil))) pe_int (nomark _)) pa_nil))) 
      (pss_cons (ps_asg (pe_tup (pa_cons (pe_u c__law_people hr (by omega) (by rfl) (pa_cons (pv 0) (pa_cons (pe_ix ix_list (pe_lst (pa_cons pe_int (pa_cons pe_int pa_nil))) (pv 1) (fun _ _ => rfl)) (pa_cons (pe_ix ix_list (pe_lst (pa_cons pe_int (pa_cons pe_int pa_nil))) (pv 1) (fun _ _ => rfl)) pa_nil)))) (pa_cons (pe_u c__law_chosen hr (by omega) (by rfl) (pa_cons (pv 0) pa_nil)) pa_nil))) (pg_tup (by rfl) (pgs_cons (pg_name (i := 2) sc__law_right.nd rfl (Or.inr rfl)) (pgs_cons (pg_name (i := 3) sc__law_right.nd rfl (Or.inr rfl)) pgs_nil)))) 
      (pss_cons (ps_for PassesOwn.never rfl (pi_list (pe_ix ix_list (pe_lst (pa_cons (pe_lst (pa_cons (pe_u c__law_draw hr (by omega) (by rfl) (pa_cons (pv 0) (pa_cons pe_int pa_nil))) (pa_cons (pe_op op_sub (pe_callB call_lenS (by rfl) m_len (by decide +kernel) (pa_cons (pv 2) pa_nil)) pe_int) (pa_cons pe_int pa_nil)))) (pa_cons (pe_lst (pa_cons pe_int (pa_cons (pe_op op_add pe_int (pe_u c__law_draw hr (by omega) (by rfl) (pa_cons (pv 0) (pa_cons pe_int pa_nil)))) (pa_cons (pe_op op_add pe_int (pe_u c__law_draw hr (by omega) (by rfl) (pa_cons (pv 0) (pa_cons pe_int pa_nil)))) pa_nil)))) pa_nil))) (pv 1) (fun _ _ => rfl))) (pg_name (i := 4) sc__law_right.nd rfl (Or.inl rfl)) (pss_cons (ps_par (i := 5) (j := 6) (by rfl) sc__law_right.nd rfl rfl (by decide) rfl rfl (pa_cons (pe_u c__law_sums hr (by omega) (by rfl) (pa_cons (pv 2) (pa_cons (pv 3) (pa_cons (pv 4) pa_nil)))) (pa_cons (pe_u c__law_power hr (by omega) (by rfl) (pa_cons (pe_ix ix_tup (pv 3) pe_int (fun _ _ => rfl)) (pa_cons (pv 4) pa_nil))) pa_nil)) (by rfl)) (pss_one (ps_for PassesOwn.never rfl (pi_tup (pv 2)) (pg_name (i := 7) sc__law_right.nd rfl (Or.inl rfl)) (pss_cons (ps_set (i := 8) sc__law_right.nd rfl (Or.inl rfl) (pe_callB (call_reprD hr hgd) (by rfl) m_repr (by decide +kernel) (pa_cons (pe_u c__law_low hr (by omega) (by rfl) (pa_cons (pe_dget (uni hr) (pv 5) (pv 7) (fun _ _ => rfl)) (pa_cons (pv 6) pa_nil))) pa_nil))) (pss_cons (ps_if (pt_cmpR op_ne (pe_callB (call_reprD hr hgd) (by rfl) m_repr (by decide +kernel) (pa_cons (pe_u c_mean_index hr (by omega) (by rfl) (pa_cons (pv 2) (pa_cons (pv 3) (pa_cons (pv 4) (pa_cons (pv 7) pa_nil))))) pa_nil)) (pv 8) (nomark _)) (pss_one (ps_ret pe_bl)) pss_nil) (pss_one (ps_if (pt_cmpR op_ne (pe_callB (call_reprD hr hgd) (by rfl) m_repr (by decide +kernel) (pa_cons (pe_uk (ks := ["height", "share", "steps", "row"]) (fun l => pickL [3, 1, 2, 0] l) c_mean_index hr (by omega) (by rfl) (fun _ _ _ _ _ _ ws hl => match ws, hl with | [_, _, _, _], _ => rfl) (rel_pick [3, 1, 2, 0]) (pk_cons (pv 7) (pk_cons (pv 3) (pk_cons (pv 4) (pk_cons (pv 2) pk_nil))))) pa_nil)) (pv 8) (nomark _)) (pss_one (ps_ret pe_bl)) pss_nil)))))))) 
      (pss_one (ps_ret (pe_cmpR (op_eqD hr.units) (pe_lc (own := [("_law_person", 7)]) (g := gName 7) (te := (tCall (spMean K) [] E0 (tCons (tVar 2) (tCons (tVar 3) (tCons (tC _) (tCons (tVar 7) tNil)))))) rfl sc__law_right.nd (pi_tup (pv 2)) (blkOk_by (own := [("_law_person", 7)]) (N := N__law_right) (sc := (defScope s__law_right)) (by decide +kernel)) (fun _ _ _ _ _ => (pg_name (i := 7) sc__law_right.nd rfl (Or.inl rfl))) (fun _ _ _ _ _ => pts_nil) (fun _ _ _ _ _ => (pe_u c_mean_index hr (by omega) (by rfl) (pa_cons (pv 2) (pa_cons (pv 3) (pa_cons pe_int (pa_cons (pv 7) pa_nil))))))) (pe_lc (own := [("_law_at", 9)]) (g := gName 9) rfl sc__law_right.nd (pi_range1 (by rfl) m_range (pa_cons (pe_callB call_lenS (by rfl) m_len (by decide +kernel) (pa_cons (pv 2) pa_nil)) pa_nil)) (blkOk_by (own := [("_law_at", 9)]) (N := N__law_right) (sc := (defScope s__law_right)) (by decide +kernel)) (fun _ _ _ _ _ => (pg_name (i := 9) sc__law_right.nd rfl (Or.inl rfl))) (fun _ _ _ _ _ => pts_nil) (fun _ _ _ _ _ => (pe_tup (pa_cons (pv 9) (pa_cons pe_int pa_nil))))) (nomark _))))))), ?_⟩
    refine ⟨_, rfl, a, 8, rfl, by decide, by decide, hp, fun d H1 d0 d1 k1 p1 => ?_⟩
    refine ⟨rfl, .inr ⟨_, rfl, ?_⟩⟩
    generalize hb : decide (V.int d = V.int 3) = b
    have two : ∀ x y : V, atI [x, y] (if b = true then 1 else 0) = some (if b = true then y else x) := fun x y => by cases b <;> rfl
    refine ⟨_, rfl, (by show 2 ≤ sizeLine; decide), fun l1 n1 => ?_⟩
    have s1 := same_upd (o := .lst [.int 1, .int 8]) n1
    have a1 := p1.ne n1
    refine ⟨_, rfl, l1, _, _, _, rfl, rfl, .inl (.inl upd_same), two _ _, (by show 2 ≤ sizeLine; decide), fun l2 n2 => ?_⟩
    have s2 := same_upd (o := .lst [.int 7, .int 12]) n2
    have p2 : Pool (upd (upd H1 l1 (.lst [.int 1, .int 8])) l2 (.lst [.int 7, .int 12])) a := p1.of fun u e => s2 _ _ (s1 a u e)
    have k2 : Kp a H (upd (upd H1 l1 (.lst [.int 1, .int 8])) l2 (.lst [.int 7, .int 12])) := k1.trans (.of_same (s1.trans s2))
    have hl2 : upd (upd H1 l1 (.lst [.int 1, .int 8])) l2 (.lst [.int 7, .int 12]) l2 = some (.lst [.int 7, .int 12]) := upd_same
    generalize upd (upd H1 l1 (.lst [.int 1, .int 8])) l2 (.lst [.int 7, .int 12]) = H2 at p2 k2 hl2 ⊢
    refine ⟨_, rfl, l2, _, _, _, rfl, rfl, .inl (.inl hl2), two _ _, a, (if b = true then 8 else 1), (if b = true then 12 else 7), ?_, by cases b <;> decide, by cases b <;> decide, by cases b <;> decide, p2, fun l ns H3 k3 p3 nl hl n1' n2' row => ?_⟩
    · cases b <;> rfl
    have la : l ≠ a := p2.ne nl
    refine ⟨_, rfl, a, rfl, p3, fun c t wh H4 k4 p4 ca hc sh => ?_⟩
    refine ⟨(by show 2 ≤ sizeLine; decide), fun tt ntt => ⟨tt, _, rfl, .inl (.inl upd_same), rfl, _, _, rfl, _, _, rfl, rfl, ?_⟩⟩
    have st := same_upd (o := .tup [.ref l, .ref c]) ntt
    have hl4 := (hl.kp k4 la).same st
    have hc4 := st _ _ hc
    have p5 : Pool (upd H4 tt (.tup [.ref l, .ref c])) a := p4.of fun u e => st a u e
    have k5 : Kp a H (upd H4 tt (.tup [.ref l, .ref c])) := ((k2.trans k3).trans k4).trans (.of_same st)
    generalize upd H4 tt (.tup [.ref l, .ref c]) = H5 at hl4 hc4 p5 k5 ⊢
    have most := row.most
    have pos := row.pos
    refine ⟨_, rfl, a, 8, rfl, by decide, by decide, p5, fun m0 H6 m00 m01 k6 p6 => ?_⟩
    have hl6 := hl4.kp k6 la
    have hc6 := k6 _ _ hc4 ca
    refine ⟨_, rfl, l, _, rfl, .inr hl6.sq, _, _, rfl, rfl, (by show 3 ≤ sizeLine; decide), fun q1 nq1 => ?_⟩
    have sq1 := same_upd (o := .lst [.int m0, .int (((ns.map V.int).length : Nat) - 1), .int 1]) nq1
    have aq1 := p6.ne nq1
    have hq1 : upd H6 q1 (.lst [.int m0, .int (((ns.map V.int).length : Nat) - 1), .int 1]) q1 = some (.lst [.int m0, .int (((ns.map V.int).length : Nat) - 1), .int 1]) := upd_same
    have p7 : Pool (upd H6 q1 (.lst [.int m0, .int (((ns.map V.int).length : Nat) - 1), .int 1])) a := p6.of fun u e => sq1 a u e
    have k7 : Kp a H (upd H6 q1 (.lst [.int m0, .int (((ns.map V.int).length : Nat) - 1), .int 1])) := (k5.trans k6).trans (.of_same sq1)
    have hl7 := hl6.same sq1
    have hc7 := sq1 _ _ hc6
    generalize upd H6 q1 (.lst [.int m0, .int (((ns.map V.int).length : Nat) - 1), .int 1]) = H7 at hq1 p7 k7 hl7 hc7 ⊢
    refine ⟨_, rfl, a, 2, rfl, by decide, by decide, p7, fun e H8 e0 e1 k8 p8 => ⟨_, _, rfl, rfl, _, rfl, a, 4, rfl, by decide, by decide, p8, fun g H9 g0 g1 k9 p9 => ⟨_, _, rfl, rfl, (by show 3 ≤ sizeLine; decide), fun q2 nq2 => ?_⟩⟩⟩
    have hq19 := k9 _ _ (k8 _ _ hq1 aq1) aq1
    have hl9 := (hl7.kp k8 la).kp k9 la
    have hc9 := k9 _ _ (k8 _ _ hc7 ca) ca
    have aq2 := p9.ne nq2
    have sq2 := same_upd (o := .lst [.int 1, .int (2 + e), .int (4 + g)]) nq2
    have hq2 : upd H9 q2 (.lst [.int 1, .int (2 + e), .int (4 + g)]) q2 = some (.lst [.int 1, .int (2 + e), .int (4 + g)]) := upd_same
    refine ⟨(by show 2 ≤ sizeLine; decide), fun q3 nq3 => ?_⟩
    have sq3 := same_upd (o := .lst [.ref q1, .ref q2]) nq3
    have s23 := sq2.trans sq3
    have kA : Kp a H (upd (upd H9 q2 (.lst [.int 1, .int (2 + e), .int (4 + g)])) q3 (.lst [.ref q1, .ref q2])) := ((k7.trans k8).trans k9).trans (.of_same s23)
    have hq3 : upd (upd H9 q2 (.lst [.int 1, .int (2 + e), .int (4 + g)])) q3 (.lst [.ref q1, .ref q2]) q3 = some (.lst [.ref q1, .ref q2]) := upd_same
    have hqA := s23 _ _ hq19
    have hqB := sq3 _ _ hq2
    have hlA := hl9.same s23
    have hcA := s23 _ _ hc9
    generalize upd (upd H9 q2 (.lst [.int 1, .int (2 + e), .int (4 + g)])) q3 (.lst [.ref q1, .ref q2]) = A0 at kA hq3 hqA hqB hlA hcA ⊢
    refine ⟨_, rfl, q3, _, _, _, rfl, rfl, .inl (.inl hq3), two _ _, ?_⟩
    obtain ⟨qq, ms, eqq, hqq, rng⟩ : ∃ (qq : Addr) (ms : List Nat), (if b = true then V.ref q2 else V.ref q1) = V.ref qq ∧ A0 qq = some (.lst (ms.map fun m : Nat => V.int ((m : Nat) : Int))) ∧ ∀ m ∈ ms, m ≤ 12 := by
      cases b with
      | true =>
        refine ⟨q2, [1, (2 + e).toNat, (4 + g).toNat], rfl, ?_, fun m hm => ?_⟩
        · rw [hqB]
          show _ = some (HO.lst [V.int ((1 : Nat) : Int), V.int (((2 + e).toNat : Nat) : Int), V.int (((4 + g).toNat : Nat) : Int)])
          rw [Int.toNat_of_nonneg (by omega), Int.toNat_of_nonneg (by omega)]
          rfl
        · have cs : m = 1 ∨ m = (2 + e).toNat ∨ m = (4 + g).toNat := by simpa using hm
          omega
      | false =>
        refine ⟨q1, [m0.toNat, ns.length - 1, 1], rfl, ?_, fun m hm => ?_⟩
        · rw [hqA]
          show _ = some (HO.lst [V.int ((m0.toNat : Nat) : Int), V.int ((ns.length - 1 : Nat) : Int), V.int ((1 : Nat) : Int)])
          rw [Int.toNat_of_nonneg (by omega), List.length_map, show ((ns.length - 1 : Nat) : Int) = (ns.length : Nat) - 1 by omega]
          rfl
        · have cs : m = m0.toNat ∨ m = ns.length - 1 ∨ m = 1 := by simpa using hm
          omega
    refine ⟨qq, eqq, ⟨_, .inl (.inl hqq)⟩, ?_⟩
    refine for_list (xs := ms.map fun m : Nat => V.int ((m : Nat) : Int)) (fun i σ G => ∃ y4 y5 y6 y7 y8 : Option V, σ = [some (.ref a), some (.int (if b = true then 1 else 0)), some (.ref l), some (.ref c), y4, y5, y6, y7, y8, none] ∧ Same A0 G) ⟨none, none, none, none, none, rfl, Same.refl A0⟩ (fun i σ G _ hI => ?_) (fun i x σ G hx hI => ?_) (fun σ G hI => ?_)
    · obtain ⟨_, _, _, _, _, _, sG⟩ := hI
      exact .inl (.inl (sG _ _ hqq))
    · obtain ⟨y4, y5, y6, y7, y8, rfl, sG⟩ := hI
      obtain ⟨m, hm, rfl⟩ := List.mem_map.mp (List.mem_of_getElem? hx)
      have m12 := rng m hm
      have hlG := hlA.same sG
      have hcG : SqT K G c [.int (t : Nat), .int (wh : Nat)] := .inl (.inl (sG _ _ hcA))
      have h3 := sh.most
      have h2 := sh.lt
      refine ⟨_, rfl, _, rfl, _, rfl, l, c, ns, t, wh, m, rfl, hlG.sq, row, hcG, sh, m12, fun sd G1 t1 nsd hsd => ?_⟩
      refine ⟨_, rfl, c, _, 1, _, rfl, rfl, SqT.same t1 hcG, atI_nat (j := 1) rfl, _, rfl, wh, m, rfl, by omega, by omega, ⟨_, _, rfl, ?_⟩⟩
      refine ⟨_, rfl, l, rfl, ⟨_, (hlG.same t1).sq⟩, ?_⟩
      refine for_tup (xs := ns.map V.int) (fun j σ F => ∃ y7 y8 : Option V, σ = [some (.ref a), some (.int (if b = true then 1 else 0)), some (.ref l), some (.ref c), some (.int (m : Nat)), some (.ref sd), some (.int ((wh ^ m : Nat) : Int)), y7, y8, none] ∧ Same G1 F) ⟨y7, y8, rfl, Same.refl G1⟩ (fun j σ F _ hJ => ?_) (fun j x σ F hx hJ => ?_) (fun σ F hJ => ?_)
      · obtain ⟨_, _, _, sF⟩ := hJ
        exact ((hlG.same t1).same sF).sq
      · obtain ⟨y7, y8, rfl, sF⟩ := hJ
        obtain ⟨h, hh, rfl⟩ : ∃ h, ns[j]? = some h ∧ x = .int h := by
          rw [List.getElem?_map] at hx
          obtain ⟨h, h1, h2⟩ := Option.map_eq_some_iff.mp hx
          exact ⟨h, h1, h2.symm⟩
        have hn := List.mem_of_getElem? hh
        have lg := mean_log sh row m12 (h := h)
        have wpos : 1 ≤ wh ^ m := Nat.one_le_pow _ _ (by omega)
        have big : (wh ^ m).log2 < 8000 := by
          have := log_lt (pow_lt (x := wh) (k := m) (m := 12) (by omega) m12) (by decide)
          omega
        have hlF := (hlG.same t1).same sF
        have hcF := SqT.same sF (SqT.same t1 hcG)
        refine ⟨_, rfl, _, rfl, sd, _, rfl, .inl ⟨_, .inl h, .inl (sF _ _ hsd), rfl, (val_kvS hn).symm⟩, _, rfl, meanN t wh m (idxF h) ns, wh ^ m, rfl, wpos, big, fun r1 F1 u1 nr1 hr1 => ?_⟩
        have sh_ := row_showI lg
        have ln_ := row_lenI (ns := [_, _]) (show 2 ≤ 1000 by decide) lg
        refine ⟨_, _, rfl, Dp_row (ns := [_, _]) (.inl (.inl hr1)), lay_row _, row_dep _, sh_, ln_, ?_⟩
        refine ⟨_, rfl, _, rfl, _, rfl, _, rfl, l, c, ns, t, wh, m, h, rfl, hlF.same u1, row, SqT.same u1 hcF, sh, by omega, hn, fun r2 F2 u2 nr2 hr2 => ?_⟩
        refine ⟨_, _, rfl, Dp_row (ns := [_, _]) (.inl (.inl hr2)), lay_row _, row_dep _, sh_, ln_, _, rfl, rfl, ?_⟩
        refine ⟨_, rfl, ?_⟩
        rw [decide_eq_true rfl]
        refine iteF ?_
        have u12 := u1.trans u2
        refine ⟨_, rfl, _, rfl, _, rfl, _, rfl, rfl, l, c, ns, t, wh, m, h, rfl, hlF.same u12, row, SqT.same u12 hcF, sh, by omega, hn, fun r3 F3 u3 nr3 hr3 => ?_⟩
        refine ⟨_, _, rfl, Dp_row (ns := [_, _]) (.inl (.inl hr3)), lay_row _, row_dep _, sh_, ln_, _, rfl, rfl, ?_⟩
        refine ⟨_, rfl, ?_⟩
        rw [decide_eq_true rfl]
        refine iteF ?_
        exact ⟨_, _, rfl, (sF.trans u12).trans u3⟩
      · obtain ⟨y7, y8, rfl, sF⟩ := hJ
        exact ⟨_, _, _, _, _, rfl, (sG.trans t1).trans sF⟩
    · obtain ⟨y4, y5, y6, y7, y8, rfl, sG⟩ := hI
      have hlG := hlA.same sG
      have hcG : SqT K G c [.int (t : Nat), .int (wh : Nat)] := .inl (.inl (sG _ _ hcA))
      refine ⟨_, rfl, l, rfl, ⟨_, hlG.sq⟩, fun C nC => ?_⟩
      refine lc_tup (xs := ns.map V.int) (fun j F => ∃ rs : List Addr, F C = some (.lst (rs.map V.ref)) ∧ Same G F ∧ rs.length = j ∧ Paired (fun (p : Addr) (d : Int × Int) => p ≠ C ∧ SqT K F p [.int d.1, .int d.2]) rs ((List.range j).map fun i => (((i : Nat) : Int), (1 : Int)))) ⟨[], upd_same, same_upd nC, rfl, .nil⟩ (fun j F _ hK => ?_) (fun j x F hx hK => ?_) (fun F hK => ?_)
      · obtain ⟨_, _, sF, _⟩ := hK
        exact (hlG.same sF).sq
      · obtain ⟨rs, hC, sF, ln, pr⟩ := hK
        obtain ⟨h, hh, rfl⟩ : ∃ h, ns[j]? = some h ∧ x = .int h := by
          rw [List.getElem?_map] at hx
          obtain ⟨h, h1, h2⟩ := Option.map_eq_some_iff.mp hx
          exact ⟨h, h1, h2.symm⟩
        have jl : j < ns.length := (List.getElem?_eq_some_iff.mp hh).1
        obtain ⟨z1, z2⟩ := mean_zero (t := t) (wh := wh) row.nd hh
        refine ⟨rfl, _, rfl, _, rfl, _, rfl, l, c, ns, t, wh, 0, h, rfl, hlG.same sF, row, SqT.same sF hcG, sh, by omega, List.mem_of_getElem? hh, fun r F1 s1 nr hr => ?_⟩
        rw [z1, z2] at hr
        have hC1 := s1 _ _ hC
        have rC : r ≠ C := fun z => by
          rw [z, hC] at nr
          cases nr
        refine ⟨_, hC1, ?_, rs ++ [r], ?_, fun x o e => ?_, by rw [List.length_append, ln]; rfl, ?_⟩
        · rw [List.length_map, ln]
          exact len_lt (by omega)
        · rw [upd_same, List.map_append]
          rfl
        · rw [upd_ne (ne_of_none e nC)]
          exact s1 _ _ (sF _ _ e)
        · have kC : Kp C F (upd F1 C (.lst (rs.map V.ref ++ [.ref r]))) := fun c u ec ne => by
            rw [upd_ne ne]
            exact s1 _ _ ec
          rw [List.range_succ, List.map_append]
          refine Paired.snoc (Paired.mapP pr fun _ _ z => ⟨z.1, SqT.kp kC z.1 z.2⟩) ⟨rC, .inl (.inl ?_)⟩
          rw [upd_ne rC]
          exact hr
      · obtain ⟨rs, hC, sF, ln, pr⟩ := hK
        rw [List.length_map] at pr ln
        refine ⟨_, rfl, l, _, rfl, .inr (hlG.same sF).sq, _, rfl, ?_, ?_, fun B nB => ?_⟩
        · rw [List.length_map]; omega
        · rw [List.length_map]; omega
        rw [List.length_map, Int.toNat_natCast]
        have BC : C ≠ B := ne_of_none hC nB
        refine lc_range (lo := 0) (n := ns.length) (fun j F2 => ∃ qs : List Addr, F2 B = some (.lst (qs.map V.ref)) ∧ Same F F2 ∧ qs.length = j ∧ Paired (fun (p : Addr) (d : Int × Int) => p ≠ B ∧ SqT K F2 p [.int d.1, .int d.2]) qs ((List.range j).map fun i => (((i : Nat) : Int), (1 : Int)))) ⟨[], upd_same, same_upd nB, rfl, .nil⟩ (fun j F2 hj hK => ?_) (fun F2 hK => ?_)
        · obtain ⟨qs, hB, s2, l2, pr2⟩ := hK
          refine ⟨rfl, _, rfl, (by show 2 ≤ sizeLine; decide), fun r nr => ?_⟩
          have sr := same_upd (o := .tup [.int (0 + ((j : Nat) : Int)), .int 1]) nr
          have rB : r ≠ B := fun z => by
            rw [z, hB] at nr
            cases nr
          refine ⟨_, sr _ _ hB, ?_, qs ++ [r], ?_, fun x o e => ?_, by rw [List.length_append, l2]; rfl, ?_⟩
          · rw [List.length_map, l2]
            exact len_lt (by omega)
          · rw [upd_same, List.map_append]
            rfl
          · rw [upd_ne (ne_of_none e nB)]
            exact sr _ _ (s2 _ _ e)
          · have kB : Kp B F2 (upd (upd F2 r (.tup [.int (0 + ((j : Nat) : Int)), .int 1])) B (.lst (qs.map V.ref ++ [.ref r]))) := fun c u ec ne => by
              rw [upd_ne ne]
              exact sr _ _ ec
            rw [List.range_succ, List.map_append]
            refine Paired.snoc (Paired.mapP pr2 fun _ _ z => ⟨z.1, SqT.kp kB z.1 z.2⟩) ⟨rB, .inl (.inl ?_)⟩
            rw [upd_ne rB, upd_same, Int.zero_add]
        · obtain ⟨qs, hB, s2, l2, pr2⟩ := hK
          have d1 := dp_prs (K := K) (Paired.mapP pr fun _ _ z => SqT.same s2 z.2)
          have d2 := dp_prs (K := K) (Paired.mapP pr2 fun _ _ z => z.2)
          refine ⟨.list (((List.range ns.length).map fun i => (((i : Nat) : Int), (1 : Int))).map dP), .list (((List.range ns.length).map fun i => (((i : Nat) : Int), (1 : Int))).map dP), .lst (.inl (.inl (s2 _ _ hC))) d1, .lst (.inl (.inl hB)) d2, pairs_shapedL _, pairs_shapedL _, ?_⟩
          rw [pairs_eqvL]
          exact q _ (kA.trans (.of_same ((sG.trans sF).trans s2)))
end
section
variable {P : Program} {w : World} {K : PySem.W.Frag} {mg : Str → Option Value} {base : Heap}
/-! ### the law -/
abbrev s_law : Stmt := top 49
abbrev N_law : List Str := ["_law_script", "_law_k"]
theorem sc_law : FnScope N_law ["_law_script"] (defScope s_law) := ⟨rfl, rfl, rfl, by decide +kernel, rfl, by decide +kernel, by decide +kernel⟩
def spLaw (K : PySem.W.Frag) : Sp := fun vs H Q _ => ∃ (a : Addr) (ns : List Int), vs = [.ref a] ∧ SqL K H a (ns.map V.int) ∧ ns.length ≤ 63 ∧ ∀ H', Q (.bl true) H'
theorem ok_law {j : Nat} (hj : 2 ≤ j) (D : Df K mg "law" s_law) (c__law_right : ClG P w K mg base j "_law_right" s__law_right ["_law_pool_here"] spRight) (c__law_pool : Cl P w K mg base 1 "_law_pool" s__law_pool ["_law_cell_here"] spPool)
    (c__law_cell : Cl P w K mg base 1 "_law_cell" s__law_cell ["_law_script", "_law_k"] (spCell K))
    (m_len : mg "len" = none) (m_all : mg "all" = none) (m_range : mg "range" = none) (m_max : mg "max" = none) (m_min : mg "min" = none) :
    ClG P w K mg base (j + 1) "law" s_law ["_law_script"] (spLaw K) := by
  refine D.okG sc_law (fun _ _ _ _ _ _ us hl => match us, hl with | [_], _ => rfl) (fun vs H Q E h => ?_) (fun f cdv A outer s H vs Q E hr hgd h => ?_)
  · obtain ⟨a, ns, rfl, _⟩ := h
    rfl
  · obtain ⟨a, ns, rfl, hS, hlen, q⟩ := h
    refine ⟨_, 
      (pss_one (ps_ret (pe_callB (cr_all rfl) (by rfl) m_all (by decide +kernel) (pa_cons (pe_lc (own := [("_law_k", 1)]) (g := gName 1) (te := (tCall spRight [] E0 (tCons (tCall spPool [] E0 (tCons (tCall (spCell K) [] E0 (tCons (tVar 0) (tCons (tVar 1) tNil))) tNil)) tNil))) rfl sc_law.nd (pi_range1 (by rfl) m_range (pa_cons (pe_callB (call_max2 rfl) (by rfl) m_max (by decide +kernel) (pa_cons pe_int (pa_cons (pe_callB (call_min2 rfl) (by rfl) m_min (by decide +kernel) (pa_cons pe_int (pa_cons (pe_callB call_lenS (by rfl) m_len (by decide +kernel) (pa_cons (pv 0) pa_nil)) pa_nil))) pa_nil))) pa_nil)) (blkOk_by (own := [("_law_k", 1)]) (N := N_law) (sc := (defScope s_law)) (by decide +kernel)) (fun _ _ _ _ _ => (pg_name (i := 1) sc_law.nd rfl (Or.inl rfl))) (fun _ _ _ _ _ => pts_nil) (fun _ _ _ _ _ => (pe_ug c__law_right hr hgd (by omega) (by rfl) (pa_cons (pe_u c__law_pool hr (by omega) (by rfl) (pa_cons (pe_u c__law_cell hr (by omega) (by rfl) (pa_cons (pv 0) (pa_cons (pv 1) pa_nil))) pa_nil)) pa_nil)))) pa_nil)))), ?_⟩
    refine ⟨_, rfl, a, _, rfl, .inl hS, _, _, rfl, _, _, rfl, _, rfl, ?_, ?_, fun D nD => ?_⟩
    · rw [List.length_map]
      split <;> split <;> omega
    · rw [List.length_map]
      split <;> split <;> omega
    · generalize hn : (if (if (((ns.map V.int).length : Nat) : Int) < (6 : Int) then (((ns.map V.int).length : Nat) : Int) else (6 : Int)) > 2 then (if (((ns.map V.int).length : Nat) : Int) < (6 : Int) then (((ns.map V.int).length : Nat) : Int) else (6 : Int)) else 2) = n
      have n1 : n ≤ 100 := by
        rw [← hn, List.length_map]
        split <;> split <;> omega
      refine lc_range (lo := 0) (n := n.toNat) (fun i H2 => H2 D = some (.lst ((List.replicate i true).map V.bl)) ∧ Same H H2) ⟨upd_same, same_upd nD⟩ (fun i H2 hi hI => ?_) (fun H2 hI => ?_)
      · obtain ⟨hD, sm⟩ := hI
        refine ⟨rfl, _, rfl, _, rfl, a, ns, i, ?_, sm.seq hS, by omega, fun c H3 s3 => ?_⟩
        · exact congrArg (fun t : Int => [V.ref a, V.int t]) (Int.zero_add _)
        refine ⟨c, rfl, fun p H4 s4 np hp => ⟨p, rfl, hp, fun H5 k5 => ?_⟩⟩
        have hD4 := s4 D _ (s3 D _ hD)
        have pD : p ≠ D := fun z => by
          subst z
          rw [s3 p _ hD] at np
          cases np
        refine ⟨_, k5 D _ hD4 pD.symm, ?_, ?_, fun b o e => ?_⟩
        · rw [List.length_map, List.length_replicate]
          exact len_lt (by omega)
        · rw [upd_same, List.replicate_succ', List.map_append]
          rfl
        · have bD : b ≠ D := ne_of_none e nD
          rw [upd_ne bD]
          have eb := s3 b _ (sm b o e)
          exact k5 b o (s4 b o eb) (ne_of_none eb np)
      · obtain ⟨hD, sm⟩ := hI
        refine ⟨D, List.replicate n.toNat true, rfl, .inl (.inl hD), ?_⟩
        rw [all_true]
        exact q _
end
/-! ### what the top has left; the head -/
def fnL : List He.DefD := [mkD "is_whole" s_is_whole, mkD "is_whole_from" s_is_whole_from, mkD "is_height" s_is_height, mkD "may_be_row" s_may_be_row, mkD "wrong_person" s_wrong_person, mkD "check_row" s_check_row, mkD "check_number" s_check_number, mkD "is_kind" s_is_kind, mkD "check_kind" s_check_kind, mkD "takes_chair" s_takes_chair, mkD "walk" s_walk, mkD "single_pass" s_single_pass, mkD "greatest_divisor" s_greatest_divisor, mkD "is_share" s_is_share, mkD "check_random_passes" s_check_random_passes, mkD "telling_passes" s_telling_passes, mkD "weighted_rows" s_weighted_rows, mkD "mean_index" s_mean_index, mkD "_law_cell" s__law_cell, mkD "_law_pool" s__law_pool, mkD "_law_draw" s__law_draw, mkD "_law_heights" s__law_heights, mkD "_law_mixed" s__law_mixed, mkD "_law_people" s__law_people, mkD "_law_single" s__law_single, mkD "_law_walk" s__law_walk, mkD "_law_low" s__law_low, mkD "_law_power" s__law_power, mkD "_law_chosen" s__law_chosen, mkD "_law_all_words" s__law_all_words, mkD "_law_sums" s__law_sums, mkD "_law_right" s__law_right, mkD "law" s_law]
def faL : List He.Fa := [.glo "is_whole", .glo "is_whole_from", .glo "is_height", .glo "may_be_row", .glo "wrong_person", .glo "check_row", .glo "check_number", .glo "is_kind", .glo "check_kind", .glo "takes_chair", .glo "walk", .glo "single_pass", .glo "greatest_divisor", .glo "is_share", .glo "check_random_passes", .glo "telling_passes", .glo "weighted_rows", .glo "mean_index", .glo "_law_cell", .glo "_law_pool", .glo "_law_draw", .glo "_law_heights", .glo "_law_mixed", .glo "_law_people", .glo "_law_single", .glo "_law_walk", .glo "_law_low", .glo "_law_power", .glo "_law_chosen", .glo "_law_all_words", .glo "_law_sums", .glo "_law_right", .glo "law", .free "isinstance", .free "int", .free "bool", .free "tuple", .free "len", .free "enumerate", .free "str", .free "min", .free "range", .free "sum", .free "abs", .free "divmod", .free "list", .free "sorted", .free "dict", .free "repr", .free "all", .free "max", .int "GREATEST_HEIGHT" 999, .int "MOST_PEOPLE" 12, .glo "KINDS", .int "GREATEST_BOTTOM" 1000, .int "MOST_TIMES" 1000000000000000000000000000000]
def exL : PySem.W.Frag → Bool := fun K => He.tupB K "KINDS" [.str "S", .str "T"]
def loose0 : List PySem.Str := ["PassError", "InvalidRow", "InvalidNumber", "InvalidKind", "InvalidShare", "FindError", "UnknownHeight", "MOST_PEOPLE", "MOST_TIMES", "GREATEST_HEIGHT", "is_whole", "is_whole_from", "is_height", "may_be_row", "wrong_person", "check_row", "check_number", "KINDS", "is_kind", "check_kind"]
def loose1 : List PySem.Str := ["takes_chair", "walk", "single_pass", "GREATEST_BOTTOM", "greatest_divisor", "is_share", "check_random_passes", "telling_passes", "weighted_rows", "mean_index", "_law_cell", "_law_pool", "_law_draw", "_law_heights", "_law_mixed", "_law_people", "_law_single", "_law_walk", "_law_low", "_law_power"]
def loose2 : List PySem.Str := ["_law_chosen", "_law_all_words", "_law_sums", "_law_right"]
def loose : List PySem.Str := loose0 ++ loose1 ++ loose2

def lawLevel : Nat := 10
theorem law_facts {P : Program} {w : World} {K : PySem.W.Frag} {h : Heap} {mg : Str → Option Value} {f : Addr} (X : K.In h) (G : h.Ns mainGlobals mg) (hfa : mg ("law" : Str) = some (.ref f)) (c : He.SaysD faL fnL K) (ex : exL K = true) :
    ∃ fd : FuncData, (∀ (s : Shared) (v : Value), BindsTo s fd ⟨[v], []⟩ [("_law_script", v)]) ∧ ∀ base : Heap, FnG P w K mg base lawLevel f fd ["_law_script"] (spLaw K) := by
  have D_is_whole : Df K mg "is_whole" s_is_whole := Df.of X G c 0 rfl rfl
  have D_is_whole_from : Df K mg "is_whole_from" s_is_whole_from := Df.of X G c 1 rfl rfl
  have D_is_height : Df K mg "is_height" s_is_height := Df.of X G c 2 rfl rfl
  have D_may_be_row : Df K mg "may_be_row" s_may_be_row := Df.of X G c 3 rfl rfl
  have D_wrong_person : Df K mg "wrong_person" s_wrong_person := Df.of X G c 4 rfl rfl
  have D_check_row : Df K mg "check_row" s_check_row := Df.of X G c 5 rfl rfl
  have D_check_number : Df K mg "check_number" s_check_number := Df.of X G c 6 rfl rfl
  have D_is_kind : Df K mg "is_kind" s_is_kind := Df.of X G c 7 rfl rfl
  have D_check_kind : Df K mg "check_kind" s_check_kind := Df.of X G c 8 rfl rfl
  have D_takes_chair : Df K mg "takes_chair" s_takes_chair := Df.of X G c 9 rfl rfl
  have D_walk : Df K mg "walk" s_walk := Df.of X G c 10 rfl rfl
  have D_single_pass : Df K mg "single_pass" s_single_pass := Df.of X G c 11 rfl rfl
  have D_greatest_divisor : Df K mg "greatest_divisor" s_greatest_divisor := Df.of X G c 12 rfl rfl
  have D_is_share : Df K mg "is_share" s_is_share := Df.of X G c 13 rfl rfl
  have D_check_random_passes : Df K mg "check_random_passes" s_check_random_passes := Df.of X G c 14 rfl rfl
  have D_telling_passes : Df K mg "telling_passes" s_telling_passes := Df.of X G c 15 rfl rfl
  have D_weighted_rows : Df K mg "weighted_rows" s_weighted_rows := Df.of X G c 16 rfl rfl
  have D_mean_index : Df K mg "mean_index" s_mean_index := Df.of X G c 17 rfl rfl
  have D__law_cell : Df K mg "_law_cell" s__law_cell := Df.of X G c 18 rfl rfl
  have D__law_pool : Df K mg "_law_pool" s__law_pool := Df.of X G c 19 rfl rfl
  have D__law_draw : Df K mg "_law_draw" s__law_draw := Df.of X G c 20 rfl rfl
  have D__law_heights : Df K mg "_law_heights" s__law_heights := Df.of X G c 21 rfl rfl
  have D__law_mixed : Df K mg "_law_mixed" s__law_mixed := Df.of X G c 22 rfl rfl
  have D__law_people : Df K mg "_law_people" s__law_people := Df.of X G c 23 rfl rfl
  have D__law_single : Df K mg "_law_single" s__law_single := Df.of X G c 24 rfl rfl
  have D__law_walk : Df K mg "_law_walk" s__law_walk := Df.of X G c 25 rfl rfl
  have D__law_low : Df K mg "_law_low" s__law_low := Df.of X G c 26 rfl rfl
  have D__law_power : Df K mg "_law_power" s__law_power := Df.of X G c 27 rfl rfl
  have D__law_chosen : Df K mg "_law_chosen" s__law_chosen := Df.of X G c 28 rfl rfl
  have D__law_all_words : Df K mg "_law_all_words" s__law_all_words := Df.of X G c 29 rfl rfl
  have D__law_sums : Df K mg "_law_sums" s__law_sums := Df.of X G c 30 rfl rfl
  have D__law_right : Df K mg "_law_right" s__law_right := Df.of X G c 31 rfl rfl
  have D_law : Df K mg "law" s_law := Df.of X G c 32 rfl rfl
  have m_isinstance : mg "isinstance" = none := He.free_ok X G (c.fact 33 (f := .free "isinstance") rfl)
  have m_int : mg "int" = none := He.free_ok X G (c.fact 34 (f := .free "int") rfl)
  have m_bool : mg "bool" = none := He.free_ok X G (c.fact 35 (f := .free "bool") rfl)
  have m_tuple : mg "tuple" = none := He.free_ok X G (c.fact 36 (f := .free "tuple") rfl)
  have m_len : mg "len" = none := He.free_ok X G (c.fact 37 (f := .free "len") rfl)
  have m_enumerate : mg "enumerate" = none := He.free_ok X G (c.fact 38 (f := .free "enumerate") rfl)
  have m_str : mg "str" = none := He.free_ok X G (c.fact 39 (f := .free "str") rfl)
  have m_min : mg "min" = none := He.free_ok X G (c.fact 40 (f := .free "min") rfl)
  have m_range : mg "range" = none := He.free_ok X G (c.fact 41 (f := .free "range") rfl)
  have m_sum : mg "sum" = none := He.free_ok X G (c.fact 42 (f := .free "sum") rfl)
  have m_abs : mg "abs" = none := He.free_ok X G (c.fact 43 (f := .free "abs") rfl)
  have m_divmod : mg "divmod" = none := He.free_ok X G (c.fact 44 (f := .free "divmod") rfl)
  have m_list : mg "list" = none := He.free_ok X G (c.fact 45 (f := .free "list") rfl)
  have m_sorted : mg "sorted" = none := He.free_ok X G (c.fact 46 (f := .free "sorted") rfl)
  have m_dict : mg "dict" = none := He.free_ok X G (c.fact 47 (f := .free "dict") rfl)
  have m_repr : mg "repr" = none := He.free_ok X G (c.fact 48 (f := .free "repr") rfl)
  have m_all : mg "all" = none := He.free_ok X G (c.fact 49 (f := .free "all") rfl)
  have m_max : mg "max" = none := He.free_ok X G (c.fact 50 (f := .free "max") rfl)
  obtain ⟨t_GREATEST_HEIGHT, g_GREATEST_HEIGHT⟩ := He.int_ok X G (c.fact 51 (f := .int "GREATEST_HEIGHT" 999) rfl)
  obtain ⟨t_MOST_PEOPLE, g_MOST_PEOPLE⟩ := He.int_ok X G (c.fact 52 (f := .int "MOST_PEOPLE" 12) rfl)
  have g_KINDS : mg "KINDS" = some (.ref (He.ga K "KINDS")) := He.glo_ok X G (c.fact 53 (f := .glo "KINDS") rfl)
  have hT_KINDS : ∀ H : Hp, SqT K H (He.ga K "KINDS") [.str (ltr false), .str (ltr true)] := fun H => by
    have z := He.tupB_ok (show He.tupB K "KINDS" [.str "S", .str "T"] = true from ex) H
    rw [show ([.str "S", .str "T"] : List He.Dv).map (He.Dv.v K) = [V.str (ltr false), V.str (ltr true)] from rfl] at z
    exact z
  obtain ⟨t_GREATEST_BOTTOM, g_GREATEST_BOTTOM⟩ := He.int_ok X G (c.fact 54 (f := .int "GREATEST_BOTTOM" 1000) rfl)
  obtain ⟨t_MOST_TIMES, g_MOST_TIMES⟩ := He.int_ok X G (c.fact 55 (f := .int "MOST_TIMES" 1000000000000000000000000000000) rfl)
  obtain ⟨fd, F, hF⟩ := ClG.last (P := P) (w := w) (k := 10) (ps := ["_law_script"]) (sp := spLaw K) D_law hfa fun base => by
    have c_draw := ok_draw (P := P) (w := w) (base := base) D__law_draw m_divmod
    have c_heights := ok_heights D__law_heights c_draw m_len m_list m_range m_sorted
    have c_mixed := ok_shuf (K := K) D__law_mixed c_draw m_len m_tuple m_list m_range
    have c_people := ok_people D__law_people c_draw c_heights c_mixed
    have c_lsingle := ok_lsingle (P := P) (w := w) (base := base) D__law_single m_tuple
    have c_lwalk := ok_lafter D__law_walk c_lsingle
    have c_whole := ok_whole (P := P) (w := w) (base := base) D_is_whole m_isinstance m_int m_bool
    have c_from := ok_from D_is_whole_from c_whole
    have c_height := ok_height D_is_height c_from g_GREATEST_HEIGHT
    have c_may := ok_may (P := P) (w := w) (base := base) D_may_be_row m_isinstance m_tuple m_len g_MOST_PEOPLE
    have c_wrong := ok_wrong D_wrong_person c_height m_enumerate
    have c_check := ok_check_row D_check_row c_may c_wrong
    have c_num := ok_num D_check_number c_from
    have c_kind := ok_is_kind (P := P) (w := w) (base := base) D_is_kind m_isinstance m_str g_KINDS hT_KINDS
    have c_ckind := ok_check_kind D_check_kind c_kind
    have c_takes := ok_takes (P := P) (w := w) (base := base) D_takes_chair
    have c_walkT := ok_walkT D_walk c_takes
    have c_walkL := ok_walkL D_walk c_takes
    have c_single := ok_single D_single_pass c_check c_ckind c_walkT m_tuple
    have c_gcd := ok_gcd (P := P) (w := w) (base := base) D_greatest_divisor
    have c_share := ok_share D_is_share c_whole c_gcd m_isinstance m_tuple m_len g_GREATEST_BOTTOM
    have c_crp := ok_crp D_check_random_passes c_check c_share c_num g_MOST_TIMES
    have c_tell := ok_tell (K := K) (P := P) (w := w) (base := base) D_telling_passes m_min m_len
    have c_low := ok_low (P := P) (w := w) (base := base) D__law_low m_abs
    have c_power := ok_power (P := P) (w := w) (base := base) D__law_power m_range
    have c_chosen := ok_chosen D__law_chosen c_draw c_low
    have c_allw := ok_allw (P := P) (w := w) (base := base) D__law_all_words m_range
    exact ok_law (j := 9) (by decide) D_law (ok_right D__law_right c_draw c_people c_chosen (ok_sums D__law_sums c_allw c_lwalk c_power m_dict m_enumerate) c_power c_low (ok_mean D_mean_index c_crp c_height (ok_weigh D_weighted_rows c_single m_range) c_tell c_gcd m_sum) m_int m_range m_len m_repr) (ok_pool D__law_pool m_abs) (ok_cell D__law_cell m_len) m_len m_all m_range m_max m_min
  exact ⟨fd, fun s v => FunD.bindsA (ps := ["_law_script"]) F (fun _ _ _ _ _ _ us hl => match us, hl with | [_], _ => rfl) s [v] rfl, hF⟩
abbrev R : PySem.W.OpenRow := PySem.W.OpenLaw.row PySem.Challenge.rw_lastpasses_k72_mean_index_by_all_words
abbrev hk : PySem.W.Hook := hookL 3 faL fnL exL
def ob (s : PySem.W.SharedT) : He.AlD × Bool := obL 3 faL fnL exL (HandSHeadRun.getT s)
theorem ob_eq (s : PySem.W.SharedT) : ob s = hk.obs s.abs := obL_eq (HandSHeadRun.getT_eq s)
theorem run (w : World) : HandSHeadRun.RunEq R (PySem.W.view R.prog [49]) hk ob 20000 loose w := by
  intro os
  kernel_rfl
end Lp
open PySem PySem.W PySem.Calls PyProof.Rows
theorem PySem.Challenge.cw_lastpasses_k72_mean_index_by_all_words_holds : PySem.Challenge.rw_lastpasses_k72_mean_index_by_all_words.Holds := by
  w_on; o_law
  refine HandSHeadRun.head_any (r := OpenLaw.row PySem.Challenge.rw_lastpasses_k72_mean_index_by_all_words) (q := view (OpenLaw.row PySem.Challenge.rw_lastpasses_k72_mean_index_by_all_words).prog [49]) (H := Lp.hk) (ob := Lp.ob) (M := 20000) (loose := Lp.loose) (d := HandSHeadRun.topDef (OpenLaw.row PySem.Challenge.rw_lastpasses_k72_mean_index_by_all_words).prog 49) (kwd := []) Lp.ob_eq
    (by kernel_rfl) (fun s => by kernel_rfl) Lp.run (by kernel_rfl) (by kernel_rfl) (by kernel_rfl) (by rfl) (by first | assumption | decide +kernel) (by decide +kernel) ⟨rfl, rfl, rfl, rfl, rfl, by decide +kernel⟩ ?hw ?hc
  case hw => w_witness2
  case hc =>
    refine Lp.walkG (l := PySem.Challenge.rw_lastpasses_k72_mean_index_by_all_words) (n := 63) (k := Lp.lawLevel) (x := "_law_script") rfl (by decide) (by kernel_rfl) ⟨rfl, by decide, by decide⟩ ?F
    intro w mg fa h Y G hmg0
    obtain ⟨K, KX, c, ex⟩ := Y
    have hmg : mg ("law" : PySem.Str) = some (.ref fa) := by
      have e : (HandSHeadRun.topDef (OpenLaw.row PySem.Challenge.rw_lastpasses_k72_mean_index_by_all_words).prog 49).name = ("law" : PySem.Str) := by kernel_rfl
      rw [← e]
      exact hmg0
    obtain ⟨fd, hb, hF⟩ := Lp.law_facts (P := (PySem.Challenge.rw_lastpasses_k72_mean_index_by_all_words).prog) (w := w) KX G hmg c ex
    exact ⟨K, fd, Lp.spLaw K, KX, hb, fun H a ns hl hS => ⟨a, ns, rfl, hS, hl, fun _ => rfl⟩, hF⟩
