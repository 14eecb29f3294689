import PyProof.Rows.All
import Wide.All
import OpenK.AllK
import Wide.FinOn
import KE.GoesEnum
import HandS.ForMost
import HandS.Conv
import HandS.Defaults
import HandS.Walk
import HandS.WideBits
import HandS.IsInst
import HandS.TupAny
import HandS.Style
import HandS.TupLe
import HandS.Head0
import HandS.Head1
import HandS.Head2
import HandS.HeadEnd
import HandS.HeadHook1
import HandS.HeadHook2
import HandS.Exc
import HandS.ExcInit
import HandS.ExcOwn
import HandS.ExcIs
import HandS.ExcField
import KE.KTryMore
import HandS.FStrTup
import HandS.Codes
import HandS.TupMul
import HandS.ReplaceLit
import HandS.ReplaceList
import HandS.Strs
import KE.KRevSl
import HandS.Rev
import KE.DataMinMax
import HandS.Wide
import HandS.SetFor
import HandS.TupLen
import HandS.RevTup
import PyProof.JoinWalk
import KE.BitLaws
import PyProof.Rows.TupDisplay
import HandS.TupSets
import HandS.Deep
import HandS.MakeKwOnly
import KE.SortData
import HandS.SortKw
import KE.DatumOrd
import HandS.Zip
import KE.GoesZip
import KE.GoesMore
import HandS.HotCalls
import KE.KExcIs
import PySem.Challenge.RW_lastpasses_k33_words_sizes_and_numbers_r
set_option Elab.async false
set_option linter.all false
set_option maxRecDepth 100000
set_option maxHeartbeats 4000000
namespace Lp
open PySem PySem.Spec PyProof.Rows L2
/-! ### enumerate of a tuple -/
theorem meetsEnum1 {v : Value} {o : Obj} {C : Heap → Prop} (B : Begins v o C) :
    Meets (Builtin.«enumerate.__new__» ⟨[.type "enumerate", v], []⟩) (fun _ R s => C s.heap ∧
      R (.ok (.ret (.ref (s.heap.push o).objs.size)))
        { s with heap := (s.heap.push o).push { cls := .type "enumerate", data := .fields #[.none, .bool false, .ref s.heap.objs.size, rawInt 0, .none, .none] } }) :=
  .of_wp fun prog w A R s hc => by
    obtain ⟨hp, gn, dn, tk, os⟩ := s
    obtain ⟨c1, hc⟩ := hc
    have hsub := sub_enumerate
    have qi : ∀ {A2 : Around} {E2 : Value → Shared → Prop} {Q2 : Value → Shared → Prop}, Q2 (.ref hp.objs.size) ⟨hp.push o, gn, dn, tk, os⟩ → wpAny (model prog w) A2 (pyIter v) Q2 E2 ⟨hp, gn, dn, tk, os⟩ :=
      fun q => B.iter prog w _ _ ⟨hp, gn, dn, tk, os⟩ _ c1 q
    wp_walk using qi
    refine wpAny_stack_any fun stk => wpAny_pure ?_
    split
    · rename_i cc _ _ _ _ _
      cases (cc == Value.type "enumerate")
      · wp_walk using qi
        exact ⟨_, rfl, hc⟩
      · wp_walk using qi
        exact ⟨_, rfl, hc⟩
    · wp_walk using qi
      exact ⟨_, rfl, hc⟩
section
variable {prog : Program} {w : World} {A : Around} {E : Value → Shared → Prop} {s : Shared}
theorem callEnum1 {v : Value} {o : Obj} {C : Heap → Prop} {Q : Value → Shared → Prop} (B : Begins v o C) (c1 : C s.heap)
    (hq : ∀ h2, IsEnum h2 (s.heap.objs.size + 1) s.heap.objs.size 0 .none → h2.get? s.heap.objs.size = some o → h2.objs.size = s.heap.objs.size + 2 →
      (∀ b u, s.heap.get? b = some u → h2.get? b = some u) → Q (.ref (s.heap.objs.size + 1)) { s with heap := h2 }) :
    wpAny (model prog w) A (call (.type "enumerate") [v]) Q E s := by
  refine callType_new F.called_enumerate (by decide) (F.typeCall_enumerate_1 _) (F.newCall_enumerate_1 _) (fun ob => F.args_object_init_2 ob _) F.entry_enumerate_new (meetsEnum1 B) ⟨c1, ?_⟩
  have sz : (s.heap.push o).objs.size = s.heap.objs.size + 1 := Heap.size_push ..
  show _ ∧ _
  rw [sz]
  have en : IsEnum ((s.heap.push o).push { cls := .type "enumerate", data := .fields #[.none, .bool false, .ref s.heap.objs.size, rawInt 0, .none, .none] }) (s.heap.objs.size + 1) s.heap.objs.size 0 .none := by
    have z := Heap.get?_push_size (s.heap.push o) (o := { cls := .type "enumerate", data := .fields #[.none, .bool false, .ref s.heap.objs.size, rawInt 0, .none, .none] }) rfl
    rw [sz] at z
    exact z
  refine ⟨⟨_, en, rfl⟩, hq _ en (Heap.get?_push_of_some _ (Heap.get?_push_size _ B.free)) (by rw [Heap.size_push, sz]) fun b u x => Heap.get?_push_of_some _ (Heap.get?_push_of_some _ x)⟩
end
/-- what is fed at each place, each in a new pair with its number -/
def ItE (go stop : Nat → Hp → Prop) (is : Nat → Hp → V → Prop) : It where
  go := go
  stop := stop
  yld := fun i H v H' => ∃ T x, v = .ref T ∧ H T = none ∧ is i H x ∧ H' = upd H T (.tup [.int (i : Nat), x])
/-- the iterator at `it` (its state at place i: st i) feeds the enumerate at e -/
structure Feed (P : Program) (w : World) (K : PySem.W.Frag) (e it : Addr) (st : Nat → Heap → Prop) (go stop : Nat → Hp → Prop) (is : Nat → Hp → V → Prop) : Prop where
  apart : e ≠ it
  lives : ∀ i h, st i h → ∃ o, h.get? it = some o ∧ ∀ v, o.data ≠ .cell v
  stays : ∀ i h g, st i h → (∀ o, h.get? it = some o → g.get? it = some o) → st i g
  more : ∀ X : Cx, X.prog = P → X.w = w → X.K = K → X.calm = true → ∀ i pins s σ H, Inv X pins σ H s → st i s.heap → go i H →
    ∃ n fp Y S, Draws P w X.A.in1 it fp n Y S ∧ i < n ∧ S i s.heap ∧ e ∉ fp ∧ (∀ h, S (i + 1) h → st (i + 1) h) ∧ ∀ v, Y i v → ∃ x, RelV x v ∧ is i H x
  ends : ∀ X : Cx, X.prog = P → X.w = w → X.K = K → X.calm = true → ∀ i pins s σ H, Inv X pins σ H s → st i s.heap → stop i H →
    ∃ fp Y S, Draws P w X.A.in1 it fp i Y S ∧ S i s.heap
theorem turnE {P : Program} {w : World} {K : PySem.W.Frag} {e it : Addr} {st : Nat → Heap → Prop} {go stop : Nat → Hp → Prop} {is : Nat → Hp → V → Prop} (F : Feed P w K e it st go stop is) {l : List Expr} {c : Nat} {q : Pos} :
    Turn P w K (.Tuple l c q) (ItE go stop is) [e, it] e (fun i h => (∃ last, IsEnum h e it ((i : Nat) : Int) last) ∧ st i h) where
  mem := by simp
  obj := by
    rintro i h ⟨⟨last, en⟩, b⟩ x hx
    have two : x = e ∨ x = it := by simpa using hx
    rcases two with rfl | rfl
    · exact ⟨_, en, fun _ z => nomatch z⟩
    · exact F.lives i h b
  keep := by
    rintro i h g ⟨⟨last, en⟩, b⟩ k
    exact ⟨⟨last, k e (by simp) _ en⟩, F.stays i h g b (k it (by simp))⟩
  item := by
    rintro X rfl rfl rfl calm i pins s σ H _ I fr ⟨⟨last, en⟩, b⟩ g
    obtain ⟨n, fp, Y, S, D, lt, at_, out, nxt, val⟩ := F.more X rfl rfl rfl calm i pins s σ H I b g
    refine wpAny_pyNext_enum_itemD D en at_ lt F.apart out fun u h1 tk hu eo at1 pair size old => ⟨_, rfl, ?_⟩
    obtain ⟨x, rx, ix⟩ := val u hu
    have inOld : ∀ {b : Addr} {o : Obj}, s.heap.get? b = some o → b ≠ s.heap.objs.size := fun q z => Nat.lt_irrefl _ (z ▸ Heap.lt_size q)
    have eOld := inOld en
    obtain ⟨oi, hi, _⟩ := F.lives i s.heap b
    have iOld := inOld hi
    refine wpAny_letOwnedTupleGo_enum (s := { s with heap := h1, toks := tk + 1 }) eo fun h2 en2 same => ?_
    have pair2 : h2.get? s.heap.objs.size = some { cls := .type "tuple", data := .seq #[.int i tk, u] } := (same.2 _ eOld.symm).trans pair
    have rest : ∀ b o, b ∉ [e, it] → s.heap.get? b = some o → h2.get? b = some o := fun b o nb q => by
      have hb : b ≠ e ∧ b ≠ it := by simpa using nb
      rw [same.2 b hb.1]
      exact old b o hb.1 hb.2 q
    have J := I.turnedNew (t' := tk + 1) (h' := h2) (ob := .tup [.int (i : Nat), x]) rest fr (Nat.le_refl s.heap.objs.size) ⟨(by decide : 2 ≤ sizeLine), [.int i tk, u], .cons ⟨tk, rfl⟩ (.cons rx .nil), _, pair2, rfl, _, rfl⟩
    refine ⟨.ref s.heap.objs.size, _, J, rfl, ⟨_, x, rfl, I.hok.fresh (Nat.le_refl _), ix, rfl⟩, ⟨⟨u, by push_cast; exact en2⟩, F.stays _ h1 h2 (nxt h1 at1) fun o q => (same.2 it F.apart.symm).trans q⟩, fun y hy => ?_⟩
    have two : y = e ∨ y = it := by simpa using hy
    have yo : y ≠ s.heap.objs.size := by rcases two with rfl | rfl <;> assumption
    rw [upd_ne yo]
    exact (fr y hy).1
  done := by
    rintro X rfl rfl rfl calm i pins s σ H _ I fr ⟨⟨last, en⟩, b⟩ g
    obtain ⟨fp, Y, S, D, at_⟩ := F.ends X rfl rfl rfl calm i pins s σ H I b g
    obtain ⟨u0, u1, _, u3, u4, u5⟩ := fr it (by simp)
    exact wpAny_pyNext_enum_endD D en at_ fun h1 same => ⟨rfl, I.turned (t' := s.toks) (fun b o nb q => same b o nb q) u0 u1 u3 u4 u5⟩
  self := fun _ _ _ _ _ z q => let ⟨⟨_, en⟩, _⟩ := z; wpAny_pyIter_enum en q
/-- for i, x in enumerate(..): n things are fed, Pv holds between the turns -/
theorem walkE {go stop : Nat → Hp → Prop} {is : Nat → Hp → V → Prop} {g : TG} {tb : TS} {D : Ends} {σ : L2.St} {H : Hp} (n : Nat) (Pv : Nat → L2.St → Hp → Prop) (first : Pv 0 σ H) (on : ∀ i σ H, i < n → Pv i σ H → go i H) (off : ∀ σ H, Pv n σ H → stop n H)
    (turn : ∀ i x T σ H, i < n → is i H x → Pv i σ H → H T = none → g (.ref T) σ (upd H T (.tup [.int (i : Nat), x])) fun σ2 H2 => tb { D with nx := Pv (i + 1), ct := Pv (i + 1), bk := D.nx } σ2 H2) (last : ∀ σ H, Pv n σ H → D.nx σ H) :
    tFor (fun _ H R => R (ItE go stop is) H) g tb D σ H := by
  refine ⟨fun i m σ H => i + m = n ∧ Pv i σ H, ⟨n, Nat.zero_add n, first⟩, fun i m σ H z => ?_⟩
  obtain ⟨e, p⟩ := z
  cases m with
  | zero =>
    have : i = n := e
    subst this
    exact .inl ⟨off σ H p, last σ H p⟩
  | succ m =>
    have lt : i < n := by omega
    refine .inr ⟨on i σ H lt p, Pv (i + 1), fun _ _ p2 => ⟨m, Nat.lt_succ_self m, by omega, p2⟩, fun v H2 y => ?_⟩
    obtain ⟨T, x, rfl, new, ix, rfl⟩ := y
    exact turn i x T σ H lt ix p new
/-! #### .. of a tuple -/
def goT (K : PySem.W.Frag) (a : Addr) : Nat → Hp → Prop := fun i H => ∃ (xs : List V) (x : V), SqT K H a xs ∧ xs[i]? = some x
def stopT (K : PySem.W.Frag) (a : Addr) : Nat → Hp → Prop := fun i H => ∃ xs : List V, SqT K H a xs ∧ xs.length ≤ i
def isT (K : PySem.W.Frag) (a : Addr) : Nat → Hp → V → Prop := fun i H x => ∀ xs, SqT K H a xs → xs[i]? = some x
theorem feedT {P : Program} {w : World} {K : PySem.W.Frag} {a e it : Addr} (n1 : e ≠ it) (n2 : a ≠ it) (n3 : a ≠ e) : Feed P w K e it (fun i h => h.IsTupleIter it a i) (goT K a) (stopT K a) (isT K a) where
  apart := n1
  lives := fun i h z => let ⟨o, ho, _, hd⟩ := z; ⟨o, ho, fun v q => by rw [hd] at q; cases q⟩
  stays := fun i h g z k => z.at k
  more := by
    rintro X rfl rfl rfl calm i pins s σ H I at_ ⟨xs, x, hq, hx⟩
    obtain ⟨us, rs, tup, _⟩ := I.tuple hq
    obtain ⟨u, hu, ru⟩ := rs.get hx
    have hu2 : us.toArray[i]? = some u := by simpa using hu
    refine ⟨_, _, _, _, Draws.tuple (A := X.A.in1) (I.ok.hd calm) it a n2 us.toArray, (Array.getElem?_eq_some_iff.mp hu2).1, ⟨at_, tup⟩, by simp [n1, n3.symm], fun h z => z.1, fun v hv => ⟨x, ?_, fun ys hy => ?_⟩⟩
    · rw [Option.some.inj (hv.symm.trans hu2)]
      exact ru
    · rw [I.tuple_inj hy hq]
      exact hx
  ends := by
    rintro X rfl rfl rfl calm i pins s σ H I at_ ⟨xs, hq, hx⟩
    obtain ⟨us, rs, tup, _⟩ := I.tuple hq
    have none_ : us.toArray[i]? = none := by
      rw [Array.getElem?_eq_none_iff, List.size_toArray, ← rs.length]
      exact hx
    exact ⟨[it, a], fun _ _ => False, fun j h => j = i ∧ h.IsTupleIter it a i ∧ h.IsTuple a us.toArray,
      { live := fun _ _ z => let ⟨o, ho, _⟩ := z.2.1; ⟨o, ho⟩
        frame := fun _ _ _ z k => ⟨z.1, z.2.1.at (k it (by simp)), z.2.2.at (k a (by simp))⟩
        item := fun j _ _ _ lt z _ => absurd z.1 (Nat.ne_of_lt lt)
        done := fun _ _ _ z q => wpAny_nextOf_tuple_end (A := X.A.in1) (I.ok.hd calm) z.2.1 z.2.2 none_ q }, rfl, at_, tup⟩
def iEnumT (K : PySem.W.Frag) (ta : TA) : TI := fun σ H R => ta σ H fun vs H1 => ∃ a xs, vs = [.ref a] ∧ SqT K H1 a xs ∧ R (ItE (goT K a) (stopT K a) (isT K a)) H1
theorem pi_enumT {X : Cx} {x : Expr} {ta : TA} {p pos q : Pos} {l : List Expr} {c : Nat} (hg : Gl X "enumerate") (hm : X.mg "enumerate" = none) (ha : PA X [x] ta)
    (hs : starEach [x] X.env = [(false, eval x X.env)] := by rfl) : PI X (.Tuple l c q) (.Call (.Name "enumerate" p) [x] [] pos) (iEnumT X.K ta) := ⟨fun pins s σ H R I h => by
  refine Call_ (ld_blt I hg hm boot_enumerate (PyProof.Rows.callWith_type1 (wpAny_mono (ha.run pos pins s σ H _ I h) (fun us s1 z => ?_) fun _ _ z => z) hs rfl))
  obtain ⟨vs, H1, I1, rs, a, xs, rfl, hq, r⟩ := z
  rw [Vals.ref1 rs]
  obtain ⟨us', _, tup, _⟩ := I1.tuple hq
  have al := tup.lt
  refine callEnum1 (begins_tuple a us'.toArray) tup fun h2 en fed size old => wpAny_pyIter_enum en ?_
  have new : ∀ b ∈ [s1.heap.objs.size + 1, s1.heap.objs.size], s1.heap.objs.size ≤ b := fun b hb => by
    have two : b = s1.heap.objs.size + 1 ∨ b = s1.heap.objs.size := by simpa using hb
    omega
  exact ⟨_, _, _, _, H1, rfl, I1.kept (h' := h2) (t' := s1.toks) old, turnE (feedT (a := a) (e := s1.heap.objs.size + 1) (it := s1.heap.objs.size) (Nat.succ_ne_self _) (Nat.ne_of_lt al) (Nat.ne_of_lt (Nat.lt_succ_of_lt al))), ⟨⟨.none, en⟩, ⟨_, fed, rfl, rfl⟩⟩, fun b hb => I1.fpOk (new b hb) (I1.hok.fresh (new b hb)), r⟩⟩
theorem walk_enumT {K : PySem.W.Frag} {a : Addr} {xs : List V} {g : TG} {tb : TS} {D : Ends} {σ : L2.St} {H : Hp} (Pv : Nat → L2.St → Hp → Prop) (h0 : Pv 0 σ H) (hq : ∀ i σ H, i ≤ xs.length → Pv i σ H → SqT K H a xs)
    (hs : ∀ i x T σ H, xs[i]? = some x → Pv i σ H → H T = none → g (.ref T) σ (upd H T (.tup [.int (i : Nat), x])) fun σ2 H2 => tb { D with nx := Pv (i + 1), ct := Pv (i + 1), bk := D.nx } σ2 H2) (hd : ∀ σ H, Pv xs.length σ H → D.nx σ H) :
    tFor (fun _ H R => R (ItE (goT K a) (stopT K a) (isT K a)) H) g tb D σ H :=
  walkE xs.length Pv h0 (fun i σ H lt p => ⟨xs, xs[i], hq i σ H (Nat.le_of_lt lt) p, List.getElem?_eq_getElem lt⟩) (fun σ H p => ⟨xs, hq _ σ H (Nat.le_refl _) p, Nat.le_refl _⟩)
    (fun i x T σ H lt ix p n => hs i x T σ H (ix xs (hq i σ H (Nat.le_of_lt lt) p)) p n) hd
/-! ### defs by their names -/
abbrev FnP (K : PySem.W.Frag) (x : Str) (st : Stmt) (f : Addr) (fd : FuncData) : Prop := FunD K x x (defArgs st) (defBody st) (defScope st) [] [] f fd
/-- the def st stands under its name x -/
structure Df (K : PySem.W.Frag) (mg : Str → Option Value) (x : Str) (st : Stmt) : Prop where
  ex : ∃ f fd, FnP K x st f fd ∧ mg x = some (.ref f)
/-- what is called by the name x keeps sp -/
structure Cl (P : Program) (w : World) (K : PySem.W.Frag) (mg : Str → Option Value) (base : Heap) (k : Nat) (x : Str) (st : Stmt) (ps : List Str) (sp : Sp) : Prop where
  ex : ∃ f fd, FnP K x st f fd ∧ FnOk P w K mg base CX0 k f fd ps sp ∧ mg x = some (.ref f) ∧ Binds K fd ps []
section
variable {P : Program} {w : World} {K : PySem.W.Frag} {mg : Str → Option Value} {base : Heap} {x : Str} {st : Stmt} {N ps ks : List Str} {k : Nat} {sp : Sp}
theorem Df.ok (D : Df K mg x st) (S : FnScope N ps (defScope st))
    (bd : ∀ (kV doc pm : Value) (an : Option Addr) (cdv ct : Value) (us : List Value), us.length = ps.length → bindArgs (PySem.W.fnOf x x (defArgs st) (defBody st) (defScope st) .none kV doc pm an cdv ct) ⟨us, []⟩ = pure (ps.zip us))
    (len : ∀ vs H Q E, sp vs H Q E → vs.length = ps.length)
    (body : ∀ (f : Addr) (cdv : Value) (A : Around) (outer : List Env) (s : Shared) (H : Hp) (vs : List V) (Q : VK) (E : XK), Room k (A.deeper (envOfC x (defScope st) s.heap.objs.size f cdv)) → sp vs H Q E →
      ∃ t, PSs (cxOf CX0 P w K mg base N x (defScope st) f cdv A outer s H E).nox (defBody st) t ∧ t { nx := fun _ H' => Q .non H', rt := Q } (start N vs) H) : Cl P w K mg base (k + 1) x st ps sp := by
  obtain ⟨f, fd, F, hm⟩ := D.ex
  refine ⟨f, fd, F, F.ok S len fun cdv A outer s H vs Q E hr h => ?_, hm, F.bindsN bd⟩
  obtain ⟨t, h1, h2⟩ := body f cdv A outer s H vs Q E hr h
  exact ⟨t, h1.nox, h2⟩
theorem Cl.imp {sp' : Sp} (c : Cl P w K mg base k x st ps sp) (h : ∀ vs H Q E, sp' vs H Q E → sp vs H Q E) : Cl P w K mg base k x st ps sp' := by
  obtain ⟨f, fd, F, G, hm, b⟩ := c.ex
  exact ⟨f, fd, F, G.imp h, hm, b⟩
end
section
variable {X : Cx} {x : Str} {st : Stmt} {ps ks : List Str} {j k : Nat} {sp : Sp} {e : Expr} {es : List Expr} {kws : List Keyword} {t tk : TA} {p pos : Pos}
/-- f(e, ..) -/
theorem pe_u (c : Cl X.prog X.w X.K X.mg X.base k x st ps sp) (hr : Room j X.A) (hk : k ≤ j) (hg : Gl X x) (ha : PA X (e :: es) t)
    (hdb : (x == ("__debug__" : Str)) = false := by decide) (he : starEach (e :: es) X.env = (false, eval e X.env) :: starEach es X.env := by rfl) (hpl : (backTo pos (starEach es X.env)).any (·.1) = false := by rfl) :
    PE X (.Call (.Name x p) (e :: es) [] pos) (tCall sp [] E0 t) := by
  obtain ⟨f, fd, F, G, hm, b⟩ := c.ex
  exact pe_call G (hr.mono hk) hg hm F.kp b .nil pass0 ha hdb he hpl
def tKw (n : Nat) (sp : Sp) (g : List V → List V) (tk : TA) : TE := fun σ H Q => tk σ H fun zs H2 => zs.length = n ∧ sp (g zs) H2 Q E0
/-- f(k = e, ..) -/
theorem pe_uk (g : {α : Type} → List α → List α) (c : Cl X.prog X.w X.K X.mg X.base k x st ps sp) (hr : Room j X.A) (hk : k ≤ j) (hg : Gl X x)
    (bd : ∀ (kV doc pm : Value) (an : Option Addr) (cdv ct : Value) (ws : List Value), ws.length = ks.length → bindArgs (PySem.W.fnOf x x (defArgs st) (defBody st) (defScope st) .none kV doc pm an cdv ct) ⟨[], ks.zip ws⟩ = pure (ps.zip (g ws)))
    (rel : ∀ {zs : List V} {ws : List Value}, Vals zs ws → Vals (g zs) (g ws)) (hkw : PK X kws tk)
    (hall : (backToKw pos (keywordEach kws X.env)).all (·.1.isSome) = true := by rfl) (hks : (backToKw pos (keywordEach kws X.env)).filterMap (·.1) = ks := by rfl)
    (hdb : (x == ("__debug__" : Str)) = false := by decide) (hpl : ((backTo pos (starEach [] X.env)).any (·.1) || (backToKw pos (keywordEach kws X.env)).any (·.1.isNone)) = false := by rfl) :
    PE X (.Call (.Name x p) [] kws pos) (tKw ks.length sp g tk) := by
  obtain ⟨f, fd, F, G, hm, b⟩ := c.ex
  have kb : KBn X.K fd ps 0 ks (fun _ ws => g ws) (fun _ zs => g zs) := by
    obtain ⟨oc, od, dV, kV, doc, pm, an, cdv, ct, osl, rfl, lk, hcd, hD, hK⟩ := F.ex
    rcases hD with ⟨_, rfl⟩ | ⟨z, _⟩
    · refine ⟨fun s us ws X1 l1 l2 => ?_, fun _ r => rel r⟩
      have e0 : us = [] := List.length_eq_zero_iff.mp l1
      subst e0
      exact .of_eq (bd kV doc pm an cdv ct ws l2)
    · exact absurd rfl z
  refine ⟨fun pins s σ H Q I h => ?_⟩
  refine wpAny_Call_Name_kw (ld_glob I hg hm ?_ hdb)
  refine PySem.W.callWith_KW0 (h₀ := X.base) I.ok.mod.kin F.kp hall (thn (hkw.run pos pins s σ H _ I h) fun ws s2 ⟨zs, H2, I2, rz, l2, q2⟩ => ⟨I2.kIn, ?_⟩) hpl
  rw [hks]
  exact run_fnN G (hr.mono hk) kb pass0 I2 .nil rz rfl l2 q2
end
def swap2 {α : Type} : List α → List α
  | [a, b] => [b, a]
  | l => l
theorem rel_swap2 {zs : List V} {ws : List Value} (r : Vals zs ws) : Vals (swap2 zs) (swap2 ws) := by
  cases r with
  | nil => exact .nil
  | cons a r =>
    cases r with
    | nil => exact .cons a .nil
    | cons b r =>
      cases r with
      | nil => exact .cons b (.cons a .nil)
      | cons c r => exact .cons a (.cons b (.cons c r))
/-! ### rules whose readings name K alone (for the elements of comprehensions) -/
abbrev rLenS (K : PySem.W.Frag) : List V → Hp → VK → Prop := fun xs H Q => ∃ p ys, xs = [.ref p] ∧ (SqL K H p ys ∨ SqT K H p ys) ∧ Q (.int ys.length) H
theorem call_lenS {X : Cx} : CallR X (.builtin "len") (rLenS X.K) := call_len_seq
/-! ### a text times a number -/
theorem op_mul_str {X : Cx} : OpR X (binaryOp .Mult) (fun x y H Q => ∃ (z : Str) (n : Int), x = .str z ∧ y = .int n ∧ 1 ≤ n ∧ n ≤ 1000 ∧ z.length ≤ 1000 ∧ Q (.str (Txt.mul z n)) H) := by
  intro pins s σ H x y v u Q I rx ry h
  obtain ⟨z, n, rfl, rfl, h1, h2, h3, q⟩ := h
  obtain ⟨t, rfl⟩ := rx
  obtain ⟨t', rfl⟩ := ry
  refine SB.mul ⟨?_, fun _ _ => ?_, fun _ _ => ?_⟩ fun t2 k2 => ⟨.str (Txt.mul z n), H, I.tok k2, ⟨t2, rfl⟩, q⟩
  · rw [Bool.or_eq_false_iff]
    exact ⟨decide_eq_false (by omega), decide_eq_false (by omega)⟩
  · have e : (1000 : Int) ≤ (2 ^ 63 - 1) / n := Int.le_ediv_of_mul_le (by omega) (by omega)
    omega
  · unfold PySem.Builtin.Str.tooLong
    have e : z.length * n.toNat ≤ 1000 * 1000 := Nat.mul_le_mul h3 (by omega)
    exact decide_eq_false (by rw [Nat.not_lt]; exact Nat.le_trans e (by decide))
/-! ### heaps, pools, rows -/
theorem same_upd {H : Hp} {p : Addr} {o : HO} (h : H p = none) : Same H (upd H p o) := fun b x e => by
  rw [upd_ne (ne_of_none e h)]
  exact e
/-- all but a is as it was -/
def Kp (a : Addr) (H H' : Hp) : Prop := ∀ b o, H b = some o → b ≠ a → H' b = some o
theorem Kp.refl (a : Addr) (H : Hp) : Kp a H H := fun _ _ e _ => e
theorem Kp.trans {a : Addr} {H H1 H2 : Hp} (x : Kp a H H1) (y : Kp a H1 H2) : Kp a H H2 := fun b o e ne => y b o (x b o e ne) ne
theorem Kp.of_same {a : Addr} {H H1 : Hp} (x : Same H H1) : Kp a H H1 := fun b o e _ => x b o e
theorem Kp.upd {a p : Addr} {H H1 : Hp} {o : HO} (x : Kp a H H1) (h : H p = none) : Kp a H (L2.upd H1 p o) := fun b u e ne => by
  rw [upd_ne (ne_of_none e h)]
  exact x b u e ne
theorem Kp.free {a p : Addr} {H H1 : Hp} (x : Kp a H H1) (h : H1 p = none) (ne : p ≠ a) : H p = none := by
  cases e : H p with
  | none => rfl
  | some o =>
    rw [x p o e ne] at h
    cases h
/-- the pool at a -/
def Pool (H : Hp) (a : Addr) : Prop := ∃ s d n : Int, H a = some (.lst [.int s, .int d, .int n]) ∧ 0 ≤ s ∧ s < 2147483399 ∧ 0 ≤ d
theorem Pool.of {H H' : Hp} {a : Addr} (p : Pool H a) (e : ∀ o, H a = some o → H' a = some o) : Pool H' a := by
  obtain ⟨s, d, n, h, r⟩ := p
  exact ⟨s, d, n, e _ h, r⟩
theorem Pool.ne {H : Hp} {a p : Addr} (x : Pool H a) (h : H p = none) : p ≠ a := fun e => by
  obtain ⟨s, d, n, g, _⟩ := x
  subst e
  rw [h] at g
  cases g
theorem Pool.upd {H : Hp} {a p : Addr} {o : HO} (x : Pool H a) (ne : a ≠ p) : Pool (L2.upd H p o) a := x.of fun u e => by
  rw [upd_ne ne]
  exact e
/-- a row of people -/
structure Row (ns : List Int) : Prop where
  pos : 1 ≤ ns.length
  most : ns.length ≤ 12
  nd : ns.Nodup
  rng : ∀ x ∈ ns, 1 ≤ x ∧ x ≤ 999
theorem small_div {i j : Int} (h1 : 0 < j) (h2 : j ≤ 1000000) : Builtin.divisionGoesByPylong i j = false := by
  have hj : j.natAbs.log2 ≤ 20 := by
    have : j.natAbs < 2 ^ 21 := by omega
    have h3 := (Nat.log2_lt (by omega)).mpr this
    omega
  have h0 : ¬ (j == 0) = true := by simpa using (show j ≠ 0 by omega)
  show (decide ((if j == 0 then 0 else j.natAbs.log2 / 30 + 1) > 300) && _) = false
  rw [if_neg h0]
  have h4 : ¬ (j.natAbs.log2 / 30 + 1 > 300) := by omega
  rw [decide_eq_false h4]
  rfl
/-! ### ranges as lists of ints -/
def rg (a b : Int) : List Int := (List.range (b - a).toNat).map fun i => a + (i : Nat)
theorem rgV_rg (a b : Int) : rgV a b = (rg a b).map V.int := by
  unfold rgV rg
  rw [List.map_map]
  rfl
theorem rg_len (a b : Int) : (rg a b).length = (b - a).toNat := by
  unfold rg
  rw [List.length_map, List.length_range]
theorem rg_mem {a b x : Int} (h : x ∈ rg a b) : a ≤ x ∧ x < b := by
  unfold rg at h
  obtain ⟨i, hi, rfl⟩ := List.mem_map.mp h
  have := List.mem_range.mp hi
  omega
theorem nodup_map_inj {α β : Type} {f : α → β} (hf : ∀ x y, f x = f y → x = y) : ∀ {l : List α}, l.Nodup → (l.map f).Nodup
  | [], _ => List.nodup_nil
  | a :: l, h => by
    rw [List.map_cons, List.nodup_cons]
    rw [List.nodup_cons] at h
    refine ⟨fun hm => ?_, nodup_map_inj hf h.2⟩
    obtain ⟨y, hy, e⟩ := List.mem_map.mp hm
    rw [hf y a e] at hy
    exact h.1 hy
theorem rg_nodup (a b : Int) : (rg a b).Nodup := nodup_map_inj (fun x y e => by omega) List.nodup_range
theorem erase_perm : ∀ (l : List Int) (k : Nat) (h : k < l.length), (l[k] :: l.eraseIdx k).Perm l
  | a :: l, 0, _ => .refl _
  | a :: l, k + 1, h => by
    show (l[k]'(Nat.lt_of_succ_lt_succ h) :: a :: l.eraseIdx k).Perm (a :: l)
    exact (List.Perm.swap ..).trans (.cons a (erase_perm l k (Nat.lt_of_succ_lt_succ h)))
theorem eraseI : ∀ {l : List Int} {k : Nat}, (l.map V.int).eraseIdx k = (l.eraseIdx k).map V.int
  | [], _ => rfl
  | _ :: _, 0 => rfl
  | a :: l, k + 1 => by
    show V.int a :: (l.map V.int).eraseIdx k = V.int a :: (l.eraseIdx k).map V.int
    rw [eraseI]
/-- one is taken out of the left ones -/
theorem take_perm {taken left : List Int} {k : Nat} (h : k < left.length) : ((taken ++ [left[k]]) ++ left.eraseIdx k).Perm (taken ++ left) := by
  rw [List.append_assoc]
  exact (erase_perm left k h).append_left taken
theorem getI {l : List Int} {k : Nat} (h : k < l.length) : (l.map V.int)[k]? = some (.int l[k]) := by
  rw [List.getElem?_map, List.getElem?_eq_getElem h]
  rfl
theorem len_lt {n : Nat} (h : n ≤ 100000) : n < sizeLine := Nat.lt_of_le_of_lt h (by decide)
theorem seqIx {i : Int} {n : Nat} (h0 : 0 ≤ i) (h1 : i < n) : seqIndex? i n = some i.toNat := PySem.seqIndex_of h0 h1
/-! ### enumerate of a text -/
def goS (z : Str) : Nat → Hp → Prop := fun i _ => i < z.cps.size
def stopS (z : Str) : Nat → Hp → Prop := fun i _ => z.cps.size ≤ i
def isS (z : Str) : Nat → Hp → V → Prop := fun i _ x => ∃ c, z.cps[i]? = some c ∧ x = .str ⟨#[c]⟩
theorem feedS {P : Program} {w : World} {K : PySem.W.Frag} {z : Str} {t : Tok} {e it : Addr} (ne : e ≠ it) : Feed P w K e it (fun i h => h.IsStrIter it (strIterType z) z t i) (goS z) (stopS z) (isS z) where
  apart := ne
  lives := fun i h y => let ⟨o, ho, _, hd⟩ := y; ⟨o, ho, fun v q => by rw [hd] at q; cases q⟩
  stays := fun i h g y k => let ⟨o, ho, r⟩ := y; ⟨o, k o ho, r⟩
  more := by
    rintro X rfl rfl rfl calm i pins s σ H I at_ lt
    exact ⟨_, _, _, _, Draws.text (A := X.A.in1) (I.ok.hd calm) it z t, lt, at_, by simp [ne], fun h y => y, fun v ⟨c, u, hc, ev⟩ => ⟨.str ⟨#[c]⟩, ⟨u, ev⟩, c, hc, rfl⟩⟩
  ends := by
    rintro X rfl rfl rfl calm i pins s σ H I at_ le
    have none_ : z.cps[i]? = none := Array.getElem?_eq_none_iff.mpr le
    exact ⟨[it], fun _ _ => False, fun j h => j = i ∧ h.IsStrIter it (strIterType z) z t i,
      { live := fun _ _ y => let ⟨o, ho, _⟩ := y.2; ⟨o, ho⟩
        frame := fun _ _ _ y k => ⟨y.1, let ⟨o, ho, r⟩ := y.2; ⟨o, k it (by simp) o ho, r⟩⟩
        item := fun j _ _ _ lt y _ => absurd y.1 (Nat.ne_of_lt lt)
        done := fun _ _ _ y q => by
          have it2 := y.2
          unfold strIterType at it2
          split at it2
          · exact wpAny_nextOf_ascii_end (A := X.A.in1) (I.ok.hd calm) it2 none_ q
          · exact wpAny_nextOf_wide_end (A := X.A.in1) (I.ok.hd calm) it2 none_ q }, rfl, at_⟩
def iEnumS (ta : TA) : TI := fun σ H R => ta σ H fun vs H1 => ∃ z, vs = [.str z] ∧ R (ItE (goS z) (stopS z) (isS z)) H1
theorem pi_enumS {X : Cx} {x : Expr} {ta : TA} {p pos q : Pos} {l : List Expr} {c : Nat} (hg : Gl X "enumerate") (hm : X.mg "enumerate" = none) (ha : PA X [x] ta)
    (hs : starEach [x] X.env = [(false, eval x X.env)] := by rfl) : PI X (.Tuple l c q) (.Call (.Name "enumerate" p) [x] [] pos) (iEnumS ta) := ⟨fun pins s σ H R I h => by
  refine Call_ (ld_blt I hg hm boot_enumerate (PyProof.Rows.callWith_type1 (wpAny_mono (ha.run pos pins s σ H _ I h) (fun us s1 y => ?_) fun _ _ y => y) hs rfl))
  obtain ⟨vs, H1, I1, rs, z, rfl, r⟩ := y
  obtain ⟨t, rfl⟩ : ∃ t, us = [.str z t] := by
    match us, rs with
    | [_], .cons ⟨t, rfl⟩ .nil => exact ⟨t, rfl⟩
  refine callEnum1 (begins_text z t) trivial fun h2 en fed size old => wpAny_pyIter_enum en ?_
  have new : ∀ b ∈ [s1.heap.objs.size + 1, s1.heap.objs.size], s1.heap.objs.size ≤ b := fun b hb => by
    have two : b = s1.heap.objs.size + 1 ∨ b = s1.heap.objs.size := by simpa using hb
    omega
  exact ⟨_, _, _, _, H1, rfl, I1.kept (h' := h2) (t' := s1.toks) old, turnE (feedS (z := z) (t := t) (e := s1.heap.objs.size + 1) (it := s1.heap.objs.size) (Nat.succ_ne_self _)), ⟨⟨.none, en⟩, ⟨_, fed, rfl, rfl⟩⟩, fun b hb => I1.fpOk (new b hb) (I1.hok.fresh (new b hb)), r⟩⟩
theorem walk_enumS {z : Str} {g : TG} {tb : TS} {D : Ends} {σ : L2.St} {H : Hp} (Pv : Nat → L2.St → Hp → Prop) (h0 : Pv 0 σ H)
    (hs : ∀ i c T σ H, z.cps[i]? = some c → Pv i σ H → H T = none → g (.ref T) σ (upd H T (.tup [.int (i : Nat), .str ⟨#[c]⟩])) fun σ2 H2 => tb { D with nx := Pv (i + 1), ct := Pv (i + 1), bk := D.nx } σ2 H2) (hd : ∀ σ H, Pv z.cps.size σ H → D.nx σ H) :
    tFor (fun _ H R => R (ItE (goS z) (stopS z) (isS z)) H) g tb D σ H :=
  walkE z.cps.size Pv h0 (fun i σ H lt _ => lt) (fun σ H _ => Nat.le_refl _) (fun i x T σ H _ ix p n => by
    obtain ⟨c, hc, rfl⟩ := ix
    exact hs i c T σ H hc p n) hd
/-! ### kinds of values -/
def Tys : List String := ["NoneType", "int", "bool", "str", "list", "tuple", "dict"]
/-- v is of the built-in type T -/
structure Tv (K : PySem.W.Frag) (H : Hp) (v : V) (T : String) : Prop where
  ty : TyX K H v (.type T)
  mem : T ∈ Tys
theorem Tv.same {K : PySem.W.Frag} {H H' : Hp} {v : V} {T : String} (t : Tv K H v T) (e : Same H H') : Tv K H' v T := by
  refine ⟨?_, t.mem⟩
  cases t.ty with
  | base b =>
    cases b with
    | non => exact .base .non
    | bl x => exact .base (.bl x)
    | int i => exact .base (.int i)
    | str x => exact .base (.str x)
    | flt x => exact .base (.flt x)
    | lst h => exact .base (.lst (e _ _ h))
    | frz h => exact .base (.frz (e _ _ h))
    | tup h => exact .base (.tup (e _ _ h))
    | dK h => exact .base (.dK (e _ _ h))
    | dT h => exact .base (.dT (e _ _ h))
  | byt b => exact .byt b
  | set h => exact .set (e _ _ h)
  | kList h c => exact .kList h c
  | kTuple h c => exact .kTuple h c
  | kDict h c => exact .kDict h c
  | fTuple h => exact .fTuple (e _ _ h)
  | fDict h => exact .fDict (e _ _ h)
theorem Tv.int {K : PySem.W.Frag} {H : Hp} (i : Int) : Tv K H (.int i) "int" := ⟨.base (.int i), by decide⟩
theorem Tv.int_of {K : PySem.W.Frag} {H : Hp} {v : V} (t : Tv K H v "int") : ∃ i, v = .int i := by
  generalize hT : Value.type "int" = u at *
  have ty := t.ty
  rw [hT] at ty
  cases ty with
  | base b =>
    cases b with
    | int i => exact ⟨i, rfl⟩
    | _ => first | exact absurd (Value.type.inj hT) (by decide) | exact nomatch hT
  | _ => exact absurd (Value.type.inj hT) (by decide)
theorem Tv.of_int {K : PySem.W.Frag} {H : Hp} {i : Int} {T : String} (t : Tv K H (.int i) T) : T = "int" := by
  cases t.ty with
  | base b =>
    cases b with
    | int i => rfl
theorem SqT.same {K : PySem.W.Frag} {H H' : Hp} {a : Addr} {xs : List V} (e : Same H H') (h : SqT K H a xs) : SqT K H' a xs := by
  rcases h with (h | ⟨o, h⟩) | h
  · exact .inl (.inl (e _ _ h))
  · exact .inl (.inr ⟨o, e _ _ h⟩)
  · exact .inr h
theorem Tv.tup {K : PySem.W.Frag} {H : Hp} {a : Addr} {xs : List V} (h : SqT K H a xs) : Tv K H (.ref a) "tuple" := by
  refine ⟨?_, by decide⟩
  rcases h with (h | ⟨o, h⟩) | ⟨o, its, n, h, c, _⟩
  · exact .base (.tup h)
  · exact .fTuple h
  · exact .kTuple h c
theorem kit_int {K : PySem.W.Frag} {T : String} (h : T ∈ Tys) : PySem.W.kitOne K (.type T) (.type "int") = some (decide (T = "int") || decide (T = "bool")) := by
  have hs : ∀ S ∈ Tys, kitB S "int" = some (decide (S = "int") || decide (S = "bool")) := by decide +kernel
  exact kit_ty (hs T h)
theorem kit_bool {K : PySem.W.Frag} {T : String} (h : T ∈ Tys) : PySem.W.kitOne K (.type T) (.type "bool") = some (decide (T = "bool")) := by
  have hs : ∀ S ∈ Tys, kitB S "bool" = some (decide (S = "bool")) := by decide +kernel
  exact kit_ty (hs T h)
theorem kit_tuple {K : PySem.W.Frag} {T : String} (h : T ∈ Tys) : PySem.W.kitOne K (.type T) (.type "tuple") = some (decide (T = "tuple")) := by
  have hs : ∀ S ∈ Tys, kitB S "tuple" = some (decide (S = "tuple")) := by decide +kernel
  exact kit_ty (hs T h)
theorem kit_str {K : PySem.W.Frag} {T : String} (h : T ∈ Tys) : PySem.W.kitOne K (.type T) (.type "str") = some (decide (T = "str")) := by
  have hs : ∀ S ∈ Tys, kitB S "str" = some (decide (S = "str")) := by decide +kernel
  exact kit_ty (hs T h)
def heightB : V → Bool
  | .int i => decide (1 ≤ i) && decide (i ≤ 999)
  | _ => false
/-- the i-th is a height that stands not earlier -/
def okAt (xs : List V) (i : Nat) : Bool := match xs[i]? with
  | some x => heightB x && !inV x (xs.take i)
  | none => true
theorem heightB_int {x : V} (h : heightB x = true) : ∃ i, x = .int i ∧ 1 ≤ i ∧ i ≤ 999 := by
  cases x with
  | int i =>
    have h2 : (decide (1 ≤ i) && decide (i ≤ 999)) = true := h
    rw [Bool.and_eq_true] at h2
    exact ⟨i, rfl, of_decide_eq_true h2.1, of_decide_eq_true h2.2⟩
  | _ => cases h
theorem flat_of_ok {xs : List V} {i : Nat} (hi : i ≤ xs.length) (h : ∀ j < i, okAt xs j = true) : (xs.take i).all flatV = true := by
  rw [List.all_eq_true]
  intro x hx
  obtain ⟨j, hj, e⟩ := List.mem_take_iff_getElem.mp hx
  have hj2 : j < i := by omega
  have o := h j hj2
  unfold okAt at o
  rw [List.getElem?_eq_getElem (by omega)] at o
  have o2 := (Bool.and_eq_true_iff.mp o).1
  rw [e] at o2
  obtain ⟨n, rfl, _⟩ := heightB_int o2
  rfl
theorem inV_ints {n : Int} {ms : List Int} : inV (.int n) (ms.map V.int) = decide (n ∈ ms) := by
  unfold inV
  rw [List.any_map]
  by_cases h : n ∈ ms
  · rw [decide_eq_true h, List.any_eq_true]
    exact ⟨n, h, by show (n == n) = true; exact beq_self_eq_true n⟩
  · rw [decide_eq_false h, List.any_eq_false]
    intro x hx e
    have e2 : (x == n) = true := e
    rw [eq_of_beq e2] at hx
    exact h hx
theorem Row.ok {ns : List Int} (r : Row ns) (i : Nat) : okAt (ns.map V.int) i = true := by
  unfold okAt
  by_cases h : i < ns.length
  · rw [getI h]
    show (heightB (.int ns[i]) && !inV (.int ns[i]) ((ns.map V.int).take i)) = true
    have g := r.rng ns[i] (List.getElem_mem h)
    have e1 : heightB (.int ns[i]) = true := by
      show (decide (1 ≤ ns[i]) && decide (ns[i] ≤ 999)) = true
      rw [decide_eq_true g.1, decide_eq_true g.2]
      rfl
    rw [e1, ← List.map_take, inV_ints]
    have hn : ns[i] ∉ ns.take i := fun hm => by
      obtain ⟨j, hj, e⟩ := List.mem_take_iff_getElem.mp hm
      have := (List.getElem_inj r.nd).mp e
      omega
    rw [decide_eq_false hn]
    rfl
  · rw [List.getElem?_eq_none_iff.mpr (by rw [List.length_map]; omega)]
end Lp
namespace Lp
open PySem PySem.Spec PyProof.Rows L2
/-! ### the mathematics of passes -/
def code : Bool → Nat
  | true => 84
  | false => 83
/-- the text of a word -/
def wd (bs : List Bool) : Str := ⟨(bs.map code).toArray⟩
abbrev ltr (b : Bool) : Str := ⟨#[code b]⟩
theorem ltrT : Str.ofString "T" = ltr true := by decide +kernel
theorem ltrS : Str.ofString "S" = ltr false := by decide +kernel
theorem ltr_inj {a b : Bool} (h : ltr a = ltr b) : a = b := by
  cases a <;> cases b <;> first | rfl | exact absurd h (by decide +kernel)
theorem wd_len (bs : List Bool) : (wd bs).length = bs.length := by
  show (bs.map code).toArray.size = _
  rw [List.size_toArray, List.length_map]
theorem wd_get {bs : List Bool} {i c : Nat} (h : (wd bs).cps[i]? = some c) : ∃ b, bs[i]? = some b ∧ c = code b := by
  have h2 : (bs.map code)[i]? = some c := by
    rw [← List.getElem?_toArray]
    exact h
  rw [List.getElem?_map] at h2
  obtain ⟨b, e1, e2⟩ := Option.map_eq_some_iff.mp h2
  exact ⟨b, e1, e2.symm⟩
theorem wd_app (a b : List Bool) : wd a ++ wd b = wd (a ++ b) := by
  show (⟨(a.map code).toArray ++ (b.map code).toArray⟩ : Str) = ⟨((a ++ b).map code).toArray⟩
  rw [List.map_append, List.append_toArray]
def takes (b : Bool) (p s : Int) : Bool := if b then decide (s < p) else decide (p < s)
def stepW (b : Bool) (st : List Int × List Int × Int) (p : Int) : List Int × List Int × Int :=
  if takes b p st.2.2 = true then (st.1 ++ [st.2.2], st.2.1 ++ [st.2.2], p) else (st.1 ++ [p], st.2.1, st.2.2)
def runW (b : Bool) (x : Int) (xs : List Int) : List Int × List Int × Int := xs.foldl (stepW b) ([], [], x)
def passL (b : Bool) : List Int → List Int
  | [] => []
  | x :: xs => (runW b x xs).1 ++ [(runW b x xs).2.2]
def seatL (b : Bool) : List Int → List Int
  | [] => []
  | x :: xs => (runW b x xs).2.1 ++ [(runW b x xs).2.2]
def afterL (bs : List Bool) (ns : List Int) : List Int := bs.foldl (fun acc b => passL b acc) ns
theorem runW_perm (b : Bool) : ∀ (xs l s : List Int) (x : Int), ((xs.foldl (stepW b) (l, s, x)).1 ++ [(xs.foldl (stepW b) (l, s, x)).2.2]).Perm (l ++ x :: xs)
  | [], l, s, x => .refl _
  | p :: xs, l, s, x => by
    rw [List.foldl_cons, show stepW b (l, s, x) p = (if takes b p x = true then (l ++ [x], s ++ [x], p) else (l ++ [p], s, x)) from rfl]
    split
    · refine (runW_perm b xs _ _ _).trans ?_
      rw [List.append_assoc]
      exact .refl _
    · refine (runW_perm b xs _ _ _).trans ?_
      rw [List.append_assoc]
      exact (List.Perm.swap x p xs).append_left l
theorem passL_perm (b : Bool) : ∀ ns : List Int, (passL b ns).Perm ns
  | [] => .refl _
  | x :: xs => runW_perm b xs [] [] x
theorem Row.perm {ns ms : List Int} (r : Row ns) (h : ms.Perm ns) : Row ms :=
  ⟨by rw [h.length_eq]; exact r.pos, by rw [h.length_eq]; exact r.most, h.nodup_iff.mpr r.nd, fun x hx => r.rng x (h.mem_iff.mp hx)⟩
theorem Row.pass {ns : List Int} (r : Row ns) (b : Bool) : Row (passL b ns) := r.perm (passL_perm b ns)
theorem afterL_perm : ∀ (bs : List Bool) (ns : List Int), (afterL bs ns).Perm ns
  | [], ns => .refl _
  | b :: bs, ns => (afterL_perm bs (passL b ns)).trans (passL_perm b ns)
theorem Row.after {ns : List Int} (r : Row ns) (bs : List Bool) : Row (afterL bs ns) := r.perm (afterL_perm bs ns)
theorem afterL_app (a b : List Bool) (ns : List Int) : afterL (a ++ b) ns = afterL b (afterL a ns) := List.foldl_append ..
theorem afterL_take {bs : List Bool} {i : Nat} {b : Bool} (h : bs[i]? = some b) (ns : List Int) : afterL (bs.take (i + 1)) ns = passL b (afterL (bs.take i) ns) := by
  rw [List.take_add_one, h, afterL_app]
  rfl
theorem seatL_ne {b : Bool} {ns : List Int} (h : ns ≠ []) : seatL b ns ≠ [] := by
  cases ns with
  | nil => exact absurd rfl h
  | cons x xs =>
    unfold seatL
    simp
theorem runW_len (b : Bool) : ∀ (xs l s : List Int) (x : Int), (xs.foldl (stepW b) (l, s, x)).1.length = l.length + xs.length ∧ (xs.foldl (stepW b) (l, s, x)).2.1.length ≤ s.length + xs.length
  | [], l, s, x => ⟨rfl, Nat.le_refl _⟩
  | p :: xs, l, s, x => by
    rw [List.foldl_cons, show stepW b (l, s, x) p = (if takes b p x = true then (l ++ [x], s ++ [x], p) else (l ++ [p], s, x)) from rfl]
    split
    · have := runW_len b xs (l ++ [x]) (s ++ [x]) p
      simp only [List.length_append, List.length_cons, List.length_nil] at this ⊢
      omega
    · have := runW_len b xs (l ++ [p]) s x
      simp only [List.length_append, List.length_cons, List.length_nil] at this ⊢
      omega
theorem fold_take {α β : Type} {f : α → β → α} {xs : List β} {i : Nat} {x : β} {z : α} (h : xs[i]? = some x) : (xs.take (i + 1)).foldl f z = f ((xs.take i).foldl f z) x := by
  rw [List.take_add_one, h, List.foldl_append]
  rfl
theorem cut1 {x : V} {xs : List V} : cutV (x :: xs) (some 1) none = xs := by
  unfold cutV
  rw [show HT.sIx (x :: xs).length 0 (some 1) = min 1 (x :: xs).length from HT.sIx_nat (x :: xs).length 0 1, HT.sIx_none, List.length_cons, Nat.min_eq_left (by omega)]
  show (xs.take (xs.length + 1 - 1)) = xs
  rw [Nat.add_sub_cancel]
  exact List.take_length
def kindB (z : Str) : Bool := decide (z = ltr false) || decide (z = ltr true)
theorem kindB_ltr (b : Bool) : kindB (ltr b) = true := by cases b <;> decide +kernel
theorem inV_kinds (z : Str) : inV (.str z) [.str (ltr false), .str (ltr true)] = kindB z := by
  show ((ltr false == z) || ((ltr true == z) || false)) = kindB z
  unfold kindB
  rw [Bool.or_false]
  have h : ∀ a : Str, (a == z) = decide (z = a) := fun a => by
    by_cases e : z = a
    · subst e
      rw [decide_eq_true rfl, beq_self_eq_true]
    · rw [decide_eq_false e]
      exact beq_eq_false_iff_ne.mpr (Ne.symm e)
  rw [h, h]
theorem nw1 {n : Nat} (h : 1 ≤ n) : HT.sIx n 0 (some 1) ≠ 0 := by
  rw [show HT.sIx n 0 (some 1) = min 1 n from HT.sIx_nat n 0 1]
  omega
theorem cutS_take (bs : List Bool) (k : Nat) : cutS (wd bs) none (some (k : Nat)) = wd (bs.take k) := by
  unfold cutS
  rw [HT.sIx_none, HT.sIx_nat, wd_len]
  show (⟨((bs.map code).take (min k bs.length - 0)).toArray⟩ : Str) = ⟨((bs.take k).map code).toArray⟩
  rw [Nat.sub_zero, List.map_take]
  congr 2
  by_cases h : k ≤ bs.length
  · rw [Nat.min_eq_left h]
  · rw [Nat.min_eq_right (by omega), List.take_of_length_le (by rw [List.length_map]; omega), List.take_of_length_le (by rw [List.length_map]; omega)]
theorem foldl_single (c : Nat) : ∀ (n : Nat) (acc : Array Nat), (List.replicate n #[c]).foldl (· ++ ·) acc = acc ++ (List.replicate n c).toArray
  | 0, acc => by simp
  | n + 1, acc => by
    rw [List.replicate_succ, List.foldl_cons, foldl_single c n, List.replicate_succ]
    apply Array.ext'
    simp
theorem mul_ltr (b : Bool) (n : Nat) : Txt.mul (ltr b) ((n + 1 : Nat) : Int) = wd (List.replicate (n + 1) b) := by
  unfold Txt.mul
  rw [if_neg (by omega)]
  have e2 : wd (List.replicate (n + 1) b) = ⟨(List.replicate (n + 1) (code b)).toArray⟩ := by
    unfold wd
    rw [List.map_replicate]
  rw [e2]
  split
  · rename_i h
    rcases Bool.or_eq_true_iff.mp h with z | z
    · have := eq_of_beq z
      have hn : n = 0 := by omega
      subst hn
      rfl
    · have : (1 == 0) = true := z
      cases this
  · rw [Int.toNat_natCast]
    congr 1
    rw [foldl_single]
    simp
theorem Dp_ints {K : PySem.W.Frag} {H : Hp} : ∀ ns : List Int, DpAll K H (ns.map V.int) (ns.map PyData.int)
  | [] => .nil
  | n :: ns => .cons (.int n) (Dp_ints ns)
theorem Dp_row {K : PySem.W.Frag} {H : Hp} {a : Addr} {ns : List Int} (h : SqT K H a (ns.map V.int)) : Dp K H (.ref a) (.tuple (ns.map PyData.int)) := .tup h (Dp_ints ns)
theorem Dp_list {K : PySem.W.Frag} {H : Hp} {a : Addr} {ns : List Int} (h : SqL K H a (ns.map V.int)) : Dp K H (.ref a) (.list (ns.map PyData.int)) := .lst h (Dp_ints ns)
theorem lay_ints : ∀ ns : List Int, PyData.canLayAll0 (ns.map PyData.int) = true
  | [] => by simp only [List.map_nil, PyData.canLayAll0]
  | n :: ns => by simp only [List.map_cons, PyData.canLayAll0, PyData.canLay0, Bool.true_and, lay_ints ns]
theorem depth_ints : ∀ ns : List Int, PyData.depthAll (ns.map PyData.int) = 0
  | [] => by simp only [List.map_nil, PyData.depthAll]
  | n :: ns => by simp only [List.map_cons, PyData.depthAll, PyData.depth, depth_ints ns, Nat.max_self]
theorem lay_row (ns : List Int) : (PyData.tuple (ns.map PyData.int)).canLay0 = true := by simp only [PyData.canLay0, lay_ints]
theorem shaped_row (ns : List Int) : SeqAt.shaped (.tuple (ns.map PyData.int)) = true := by
  unfold SeqAt.shaped
  simp only [PyData.canLay0, PyData.depth, lay_ints, depth_ints]
  decide
theorem lay_list (ns : List Int) : (PyData.list (ns.map PyData.int)).canLay0 = true := by simp only [PyData.canLay0, lay_ints]
theorem shaped_list (ns : List Int) : SeqAt.shaped (.list (ns.map PyData.int)) = true := by
  unfold SeqAt.shaped
  simp only [PyData.canLay0, PyData.depth, lay_ints, depth_ints]
  decide
theorem eqv_row (ns : List Int) : PyData.eqv (.tuple (ns.map PyData.int)) (.tuple (ns.map PyData.int)) = true := SeqAt.eqv_refl _ (lay_row ns)
theorem eqv_list (ns : List Int) : PyData.eqv (.list (ns.map PyData.int)) (.list (ns.map PyData.int)) = true := SeqAt.eqv_refl _ (lay_list ns)
theorem all_true (n : Nat) : (List.replicate n true).all id = true := by
  rw [List.all_eq_true]
  intro x hx
  rw [(List.mem_replicate.mp hx).2]
  rfl
end Lp
namespace Lp
open PySem PySem.Spec PyProof.Rows L2
/-! ### the head's facts -/
def mkD (x : Str) (st : Stmt) : He.DefD := ⟨(x, none), x, x, defArgs st, defBody st, defScope st, [], []⟩
def obL (n : Nat) (fa : List He.Fa) (fn : List He.DefD) (ex : PySem.W.Frag → Bool) (g : Addr → Option Obj) : He.AlD × Bool := (He.obsDG n fa fn g, ex (He.frG g (He.asD g n)))
def hookL (n : Nat) (fa : List He.Fa) (fn : List He.DefD) (ex : PySem.W.Frag → Bool) : PySem.W.Hook where
  α := He.AlD × Bool
  obs := fun s => obL n fa fn ex s.heap.get?
  val := fun _ => (He.valD fn, true)
  says := fun _ h => ∃ K : PySem.W.Frag, K.In h ∧ He.SaysD fa fn K ∧ ex K = true
  of := fun _ s e => ⟨He.frG s.heap.get? (He.asD s.heap.get? n), He.frG_in, congrArg (fun z : He.AlD × Bool => z.1) e, congrArg (fun z : He.AlD × Bool => z.2) e⟩
  keeps := fun _ _ _ ⟨K, hK, c, x⟩ k => ⟨K, PySem.W.Frag.In.keeps hK k, c, x⟩
theorem obL_eq {n : Nat} {fa : List He.Fa} {fn : List He.DefD} {ex : PySem.W.Frag → Bool} {g : Addr → Option Obj} {s : Shared} (h : ∀ a, g a = s.heap.get? a) : obL n fa fn ex g = (hookL n fa fn ex).obs s := by
  have e : g = s.heap.get? := funext h
  rw [e]
  rfl
section
variable {P : Program} {w : World} {K : PySem.W.Frag} {mg : Str → Option Value} {h : Heap} {fa : List He.Fa} {fn : List He.DefD} {x : Str} {st : Stmt} {ps : List Str} {sp : Sp} {k : Nat} {f : Addr}
theorem Df.of (X : K.In h) (G : h.Ns mainGlobals mg) (c : He.SaysD fa fn K) (i : Nat) (hi : fn[i]? = some (mkD x st)) (hj : fa[i]? = some (.glo x)) : Df K mg x st := by
  obtain ⟨fd, F⟩ := c.def_ i hi
  exact ⟨_, fd, F, He.glo_ok X G (c.fact i hj)⟩
theorem Cl.last (D : Df K mg x st) (hf : mg x = some (.ref f)) (c : ∀ base, Cl P w K mg base k x st ps sp) : ∃ fd, FnP K x st f fd ∧ ∀ base, FnOk P w K mg base CX0 k f fd ps sp := by
  obtain ⟨f0, fd0, F0, m0⟩ := D.ex
  have e0 : f0 = f := Value.ref.inj (Option.some.inj (m0.symm.trans hf))
  subst e0
  refine ⟨fd0, F0, fun base => ?_⟩
  obtain ⟨f1, fd1, F1, G1, m1, _⟩ := (c base).ex
  have e1 : f1 = f0 := Value.ref.inj (Option.some.inj (m1.symm.trans hf))
  subst e1
  obtain ⟨_, _, _, _, _, _, _, _, _, _, _, l0, _⟩ := F0.ex
  obtain ⟨_, _, _, _, _, _, _, _, _, _, _, l1, _⟩ := F1.ex
  have e2 := l0.symm.trans l1
  simp only [Option.some.injEq, Obj.mk.injEq, Data.func.injEq] at e2
  rw [e2.2.2.1]
  exact G1
end
/-- a written tuple whose object has no dict -/
def tupN (K : PySem.W.Frag) (x : Str) : Bool := match K.lookup (He.ga K x) with
  | some o => decide (o.cls = .type "tuple") && o.dict.isNone
  | none => false
theorem tupN_ok {K : PySem.W.Frag} {x : Str} (h : tupN K x = true) : ∃ o, K.lookup (He.ga K x) = some o ∧ o.cls = .type "tuple" ∧ o.dict = none := by
  unfold tupN at h
  cases e : K.lookup (He.ga K x) with
  | none => rw [e] at h; cases h
  | some o =>
    rw [e] at h
    have h2 : (decide (o.cls = .type "tuple") && o.dict.isNone) = true := h
    rw [Bool.and_eq_true] at h2
    exact ⟨o, rfl, of_decide_eq_true h2.1, Option.isNone_iff_eq_none.mp h2.2⟩
end Lp
namespace Lp
open PySem PySem.Spec PyProof.Rows L2
/-! ### what the head has left of the error classes: what is asked of them -/
/-- the __init__ of a class -/
def initOf (s : Stmt) : Stmt := match s with
  | .ClassDef _ _ _ (.FunctionDef n a b dl r tp sc ts bi po :: _) _ _ _ _ _ _ _ => .FunctionDef n a b dl r tp sc ts bi po
  | _ => .Pass ⟨0, 0, 0, 0⟩
def mkI (x : Str) (q : Str) (st : Stmt) : He.DefD := ⟨(x, some "__init__"), "__init__", q, defArgs (initOf st), defBody (initOf st), defScope (initOf st), [], []⟩
/-- what a class over ValueError is made of: its row of bases begins with itself, its slots end with ValueError's maker and one more -/
def vErrC (C : Addr) (c : ClassData) : Bool := c.hasDict && (!c.hasDel && (match c.mro with
  | top :: up => decide (top = .ref C) && PySem.HandSPX.refsVE up
  | [] => false))
def vErrS (sl : Array (Option Value)) : Bool := match sl.toList with
  | [_, _, _, _, y, _] => decide (y = some (.builtin "ValueError.__new__"))
  | _ => false
def vErrO (C : Addr) (o : Obj) : Bool := decide (o.cls = .type "type") && (vErrS o.slots && (match o.data with
  | .cls c => vErrC C c
  | _ => false))
def oexB (K : PySem.W.Frag) (C : Addr) : Bool := (match K.lookup C with
  | some o => vErrO C o
  | none => false) && (decide (PySem.W.findIn K (.ref C) "__setattr__" = some (some (.builtin "object.__setattr__"))) && (decide (PySem.W.subIn K (.ref C) (.type "BaseException") = some true) && (decide (PySem.W.typeIn K (.ref C) = some (.type "type")) && PySem.W.keepIn K (.ref C))))
def ecB (K : PySem.W.Frag) (x f : Str) : Bool := oexB K (He.ga K x) && (xfB K (He.ga K x) && (decide (PySem.W.findIn K (.ref (He.ga K x)) f = some none) && (decide (PySem.W.findIn K (.ref (He.ga K x)) "__init__" = some (some (.ref (He.ma K (He.ga K x) "__init__")))) && decide (PySem.W.typeIn K (.ref (He.ma K (He.ga K x) "__init__")) = some (.type "function")))))
def errL : List Str := ["InvalidRow", "InvalidNumber", "InvalidKind", "InvalidWord", "InvalidSize", "InvalidProgram", "InvalidText", "InvalidHeights", "InvalidWishes", "InvalidRecord", "InvalidPattern", "InvalidShare", "InvalidPeople", "InvalidName", "InvalidHeight", "InvalidDeed", "InvalidCommand", "NotFinal", "OtherPersons", "UnknownName", "UnknownHeight", "NoOrder", "NameTaken", "HeightTaken", "NothingToUndo", "TooManySeats", "TooManyPeople", "WordTooShort", "TooManyDeeds", "LastPerson"]
def excCB (K : PySem.W.Frag) (D : Addr) : Bool := decide (PySem.W.findIn K (.ref D) "__getattribute__" = some (some (.builtin "BaseException.__getattribute__"))) && (decide (PySem.W.findIn K (.ref D) "__getattr__" = some none) && (decide (PySem.W.subIn K (.ref D) (.type "BaseException") = some true) && (PySem.W.hasDictIn K D && (decide (PySem.W.findIn K (.ref D) "__class__" = some (some (.builtin "object.__class__"))) && (decide (PySem.W.specialIn K (.builtin "object.__class__") "__get__" = some (some (.builtin "getset_descriptor.__get__"))) && (decide (PySem.W.takesIn K (.builtin "object.__class__") = some true) && decide (PySem.W.mroIn K D (.type "object") = some true)))))))
def sortB (K : PySem.W.Frag) (x : Str) (i : Nat) : Bool := excCB K (He.ga K x) && (decide (i < 30) && (((List.range 30).all fun j => decide (PySem.W.kitOne K (.ref (He.ga K x)) (.ref (He.ga K (errL.getD j x))) = some (decide (i = j)))) &&
  (decide (PySem.W.kitOne K (.ref (He.ga K x)) (.ref (He.ga K "PassError")) = some (decide (i < 17))) && (decide (PySem.W.kitOne K (.ref (He.ga K x)) (.ref (He.ga K "FindError")) = some (decide (16 < i) && decide (i < 25))) && (decide (PySem.W.kitOne K (.ref (He.ga K x)) (.ref (He.ga K "LimitError")) = some (decide (24 < i))) &&
  (decide (PySem.W.kitOne K (.ref (He.ga K x)) (.type "ValueError") = some (decide (i < 17))) && (decide (PySem.W.kitOne K (.ref (He.ga K x)) (.type "LookupError") = some (decide (16 < i) && decide (i < 25))) && decide (PySem.W.kitOne K (.ref (He.ga K x)) (.type "ArithmeticError") = some (decide (24 < i))))))))))
/-- the classes' part of what the top has left -/
def clB (K : PySem.W.Frag) (x f : Str) (i : Nat) : Bool := ecB K x f && (sortB K x i && decide (PySem.W.exmAny K (.ref (He.ga K x)) [.ref (He.ga K "PassError"), .ref (He.ga K "FindError"), .ref (He.ga K "LimitError")] = some true))
end Lp
namespace Lp
open PySem PySem.Spec PyProof.Rows L2
def top (i : Nat) : Stmt := PySem.Challenge.pw_lastpasses_k33_words_sizes_and_numbers_r.main.body.getD i (.Pass ⟨0, 0, 0, 0⟩)
/-! ### what the top has left; the head -/
def fnL : List He.DefD := [mkD "is_whole" (top 37), mkD "is_whole_from" (top 38), mkD "check_size" (top 39), mkD "check_number" (top 40), mkD "is_kind" (top 43), mkD "may_be_word" (top 44), mkD "wrong_letter" (top 45), mkD "check_word" (top 46), mkD "last_letters" (top 47), mkD "shortest" (top 49), mkD "check_words" (top 50), mkD "same" (top 51), mkD "common_end" (top 52), mkD "telling_row" (top 53), mkD "difference" (top 54), mkD "is_constant" (top 55), mkD "word_count" (top 56), mkD "word_at" (top 57), mkD "number_of" (top 58), mkD "_law_cell" (top 60), mkD "_law_pool" (top 61), mkD "_law_draw" (top 62), mkD "_law_letters" (top 63), mkD "_law_length" (top 64), mkD "_law_sort" (top 65), mkD "_law_odd_code" (top 66), mkD "_law_index_of" (top 67), mkD "_law_odd_many" (top 68), mkD "_law_odd_place" (top 69), mkD "_law_asked" (top 70), mkD "_law_caught" (top 71), mkD "_law_due" (top 72), mkD "_law_call_right" (top 73), mkD "law" (top 74), mkI "InvalidSize" "InvalidSize.__init__" (top 6), mkI "InvalidNumber" "InvalidNumber.__init__" (top 3), mkI "InvalidWord" "InvalidWord.__init__" (top 5)]
def faL : List He.Fa := [.glo "is_whole", .glo "is_whole_from", .glo "check_size", .glo "check_number", .glo "is_kind", .glo "may_be_word", .glo "wrong_letter", .glo "check_word", .glo "last_letters", .glo "shortest", .glo "check_words", .glo "same", .glo "common_end", .glo "telling_row", .glo "difference", .glo "is_constant", .glo "word_count", .glo "word_at", .glo "number_of", .glo "_law_cell", .glo "_law_pool", .glo "_law_draw", .glo "_law_letters", .glo "_law_length", .glo "_law_sort", .glo "_law_odd_code", .glo "_law_index_of", .glo "_law_odd_many", .glo "_law_odd_place", .glo "_law_asked", .glo "_law_caught", .glo "_law_due", .glo "_law_call_right", .glo "law", .free "isinstance", .free "int", .free "bool", .free "str", .free "len", .free "enumerate", .free "max", .free "min", .free "list", .free "range", .free "tuple", .free "reversed", .free "abs", .free "divmod", .free "ValueError", .free "LookupError", .free "ArithmeticError", .free "repr", .free "dict", .int "MOST_PEOPLE" 12, .glo "KINDS", .int "MOST_LETTERS" 400] ++ (errL ++ (["PassError", "FindError", "LimitError"] : List Str)).map He.Fa.glo
def exL : PySem.W.Frag → Bool := fun K => He.tupB K "KINDS" [.str "S", .str "T"] && tupN K "KINDS" && clB K "InvalidSize" "size" 4 && clB K "InvalidNumber" "number" 1 && clB K "InvalidWord" "index" 3
def loose0 : List PySem.Str := ["PassError", "InvalidRow", "InvalidNumber", "InvalidKind", "InvalidWord", "InvalidSize", "InvalidProgram", "InvalidText", "InvalidHeights", "InvalidWishes", "InvalidRecord", "InvalidPattern", "InvalidShare", "InvalidPeople", "InvalidName", "InvalidHeight", "InvalidDeed", "InvalidCommand", "FindError", "NotFinal"]
def loose1 : List PySem.Str := ["OtherPersons", "UnknownName", "UnknownHeight", "NoOrder", "NameTaken", "HeightTaken", "NothingToUndo", "LimitError", "TooManySeats", "TooManyPeople", "WordTooShort", "TooManyDeeds", "LastPerson", "MOST_PEOPLE", "MOST_LETTERS", "is_whole", "is_whole_from", "check_size", "check_number", "KINDS"]
def loose2 : List PySem.Str := ["is_kind", "may_be_word", "wrong_letter", "check_word", "last_letters", "shortest", "check_words", "same", "common_end", "telling_row", "difference", "is_constant", "word_count", "word_at", "number_of", "_law_cell", "_law_pool", "_law_draw", "_law_letters", "_law_length"]
def loose3 : List PySem.Str := ["_law_sort", "_law_odd_code", "_law_index_of", "_law_odd_many", "_law_odd_place", "_law_asked", "_law_caught", "_law_due", "_law_call_right"]
def loose : List PySem.Str := loose0 ++ loose1 ++ loose2 ++ loose3

abbrev R : PySem.W.OpenRow := PySem.W.OpenLaw.row PySem.Challenge.rw_lastpasses_k33_words_sizes_and_numbers_r
abbrev hk : PySem.W.Hook := hookL 4 faL fnL exL
def ob (s : PySem.W.SharedT) : He.AlD × Bool := obL 4 faL fnL exL (HandSHeadRun.getT s)
theorem ob_eq (s : PySem.W.SharedT) : ob s = hk.obs s.abs := obL_eq (HandSHeadRun.getT_eq s)
theorem run (w : World) : HandSHeadRun.RunEq R (PySem.W.view R.prog [74]) hk ob 20000 loose w := by
  intro os
  kernel_rfl
end Lp
/-! ### sorted of a tuple of ints -/
namespace Lp
open PySem PySem.Spec PyProof.Rows L2
section
variable {prog : Program} {w : World} {A : Around} {E : Value → Shared → Prop} {s : Shared}
/-- sorted(t): the items are gathered (the heap grows to some g), laid into a new list, and that list is put in order -/
theorem sortedT {t : Addr} {us : List Value} {ns : List Int} {Q : Value → Shared → Prop} (tup : s.heap.IsTuple t us.toArray) (nums : IntsAre us ns) (few : us.length < 64)
    (q : ∀ (g : Heap) (out : Array Value) (ms : List Int), (∀ b o, s.heap.get? b = some o → g.get? b = some o) → IntsAre out.toList ms → ms.Perm ns → ms.Pairwise (· ≤ ·) →
      Q (.ref g.objs.size) { s with heap := sortedHeap (g.push (seqObj "list" us.toArray 0)) g.objs.size us out }) :
    wpAny (model prog w) A (call (.builtin "sorted") [.ref t]) Q E s := by
  obtain ⟨o, ho, cls, m, dat⟩ := tup
  have small : us.toArray.size ≤ sizeLine := by
    rw [List.size_toArray]
    exact Nat.le_of_lt (len_lt (Nat.le_trans (Nat.le_of_lt few) (by decide)))
  refine Calls.call_function_entry kind_sorted plain_sorted entry_sorted (args_sorted1 (.ref t)) ?_
  unfold Builtin.«sorted»
  refine wpAny_bind (m := checkCount "sorted" 1 1 1) (wpAny_pure (wpAny_bind (wpAny_collect_seq t (.inr rfl) ho cls dat (fun g old => ?_) small)))
  refine wpAny_bind (wpAny_newList ?_ (by rw [← List.size_toArray]; exact small))
  have new : (g.push (seqObj "list" us.toArray 0)).get? g.objs.size = some (seqObj "list" us.toArray 0) := Heap.get?_push_size g rfl
  exact wpAny_bind (wpAny_holding (wpAny_call_entry slot_list_sort ⟨_, new, rfl⟩ entry_list_sort (list_sort_tree new nums few fun out ms i1 i2 i3 => ⟨_, rfl, wpAny_pure ⟨_, rfl, q g out ms old i1 i2 i3⟩⟩) (args_list_sort (.ref g.objs.size))))
end
def rSortedTp (K : PySem.W.Frag) : List V → Hp → VK → Prop := fun vs H Q => ∃ (a : Addr) (ns : List Int), vs = [V.ref a] ∧ SqT K H a (ns.map V.int) ∧ ns.length < 64 ∧
  ∀ (ms : List Int) (p : Addr), ms.Perm ns → ms.Pairwise (· ≤ ·) → H p = none → Q (.ref p) (upd H p (.lst (ms.map V.int)))
theorem cr_sortedTp {X : Cx} : CallR X (.builtin "sorted") (rSortedTp X.K) := fun pins s σ H vs us Q I r h => by
  obtain ⟨a, ns, rfl, sq, few, q⟩ := h
  obtain ⟨its, rv, tup, _⟩ := I.tuple sq
  rw [Vals.ref1 r]
  have nums := rv.ints
  refine sortedT tup nums (nums.length ▸ few) fun g out ms old i1 i2 i3 => ?_
  have I1 : Inv X pins σ H { s with heap := g } := I.kept (t' := s.toks) old
  have size : (ms.map V.int).length ≤ sizeLine := by
    rw [List.length_map, i2.length_eq]
    exact Nat.le_of_lt (len_lt (by omega))
  obtain ⟨ep, there⟩ := PyProof.Rows.sortedHeap_at (vs := its) (out := out) (Heap.get?_push_size g rfl : (g.push (seqObj "list" its.toArray 0)).get? g.objs.size = some (seqObj "list" its.toArray 0))
  have J := I1.laid (t' := s.toks) (a := g.objs.size) (o := .lst (ms.map V.int)) (h' := sortedHeap (g.push (seqObj "list" its.toArray 0)) g.objs.size its out) (fun b u z => by
    have lt := Heap.lt_size z
    rw [PyProof.Rows.sortedHeap_old (Nat.ne_of_lt lt) (by rw [size_push']; exact Nat.lt_succ_of_lt lt)]
    exact Heap.get?_push_of_some _ z) (Nat.le_refl _) ⟨size, out.toList, ep, vals_of_ints i1, there⟩
  exact ⟨.ref g.objs.size, _, J, rfl, q ms _ i2 i3 (I1.hok.fresh (Nat.le_refl _))⟩
end Lp
/-! ### promises of defs that are called where no repr is under way -/
namespace Lp
open PySem PySem.Spec PyProof.Rows L2
structure FnG (P : Program) (w : World) (K : PySem.W.Frag) (mg : Str → Option Value) (base : Heap) (k : Nat) (f : Addr) (fd : FuncData) (ps : List Str) (sp : Sp) : Prop where
  len : ∀ vs H Q E, sp vs H Q E → vs.length = ps.length
  run : ∀ (A : Around) (outer : List Env) (s : Shared) (H : Hp) (args : Args) (us : List Value) (vs : List V) (Q : VK) (E : XK), Room k A → A.guards = some [] → Env0 P w K mg base A outer s H →
    BindsTo s fd args (ps.zip us) → Vals vs us → sp vs H Q E → codeAny (model P w) A (.call (.ref f) args) (CR CX0 outer P w H s Q E) s
structure ClG (P : Program) (w : World) (K : PySem.W.Frag) (mg : Str → Option Value) (base : Heap) (k : Nat) (x : Str) (st : Stmt) (ps : List Str) (sp : Sp) : Prop where
  ex : ∃ f fd, FnP K x st f fd ∧ FnG P w K mg base k f fd ps sp ∧ mg x = some (.ref f) ∧ Binds K fd ps []
section
variable {P : Program} {w : World} {K : PySem.W.Frag} {mg : Str → Option Value} {base : Heap} {x : Str} {st : Stmt} {N ps : List Str} {k : Nat} {sp : Sp} {f : Addr}
theorem Df.okG (D : Df K mg x st) (S : FnScope N ps (defScope st))
    (bd : ∀ (kV doc pm : Value) (an : Option Addr) (cdv ct : Value) (us : List Value), us.length = ps.length → bindArgs (PySem.W.fnOf x x (defArgs st) (defBody st) (defScope st) .none kV doc pm an cdv ct) ⟨us, []⟩ = pure (ps.zip us))
    (len : ∀ vs H Q E, sp vs H Q E → vs.length = ps.length)
    (body : ∀ (f : Addr) (cdv : Value) (A : Around) (outer : List Env) (s : Shared) (H : Hp) (vs : List V) (Q : VK) (E : XK), Room k (A.deeper (envOfC x (defScope st) s.heap.objs.size f cdv)) → A.guards = some [] → sp vs H Q E →
      ∃ t, PSs (cxOf CX0 P w K mg base N x (defScope st) f cdv A outer s H E).nox (defBody st) t ∧ t { nx := fun _ H' => Q .non H', rt := Q } (start N vs) H) : ClG P w K mg base (k + 1) x st ps sp := by
  obtain ⟨f, fd, F, hm⟩ := D.ex
  refine ⟨f, fd, F, ?_, hm, F.bindsN bd⟩
  obtain ⟨oc, od, dV, kV, doc, pm, an, cdv, ct, osl, rfl, lk, hcd, _, _⟩ := F.ex
  refine ⟨len, fun A outer s H args us vs Q E hr hgd e0 hb rel hsp => ?_⟩
  have ln := len _ _ _ _ hsp
  have kx : K.In s.heap := e0.mod.kin.keeps fun b o e => (e0.bs b o e).1
  have nl : s.heap.NoLimit := e0.mod.nolimit.keeps fun b o e => (e0.bs b o e).1
  have kinds : ∀ y ∈ ps.zip us, (defScope st).names.lookup y.1 = some .local ∨ ((defScope st).names.lookup y.1 = some .cell ∧ ((cellsFrom (s.heap.objs.size + 1) (defScope st).names []).lookup y.1).isSome = true) := fun y hy => by
    obtain ⟨nm, vl⟩ := y
    rcases S.par nm (List.of_mem_zip hy).1 with z | z
    · exact Or.inl z
    · exact Or.inr ⟨z, PySem.W.cellsFrom_some _ _ _ (Or.inl z)⟩
  refine codeAny_call_function hr.depth (kx _ _ lk) rfl S.co S.gen rfl (PySem.W.codeRec_of kx hcd) (hb _ _ _ _ ?_)
  refine wpAny_newFunctionEnv_cells S.kind kinds fun env henv s1 xc => ?_
  subst henv
  refine ⟨nl.keeps xc.toInCall.keep, codeAny_func ?_⟩
  obtain ⟨t, ht, hq⟩ := body f cdv A outer s H vs Q E (hr.deeper _) hgd hsp
  have ini : L2.Inv (cxOf CX0 P w K mg base N x (defScope st) f cdv A outer s H E) [] (start N vs) H s1 := inv_start S hr.hd e0 ln rel xc
  refine wpAny_mono (ht.nox.run [] s1 (start N vs) H _ ini hq) (fun fl s2 hs => ?_) fun e s2 hs => hs
  have back : ∀ {σ2 : L2.St} {H2 : Hp} {v : V} {u : Value}, L2.Inv (cxOf CX0 P w K mg base N x (defScope st) f cdv A outer s H E) [] σ2 H2 s2 → RelV v u → Q v H2 → CE outer P w H s Q u s2 :=
    fun {σ2 H2 v u} J rv q => ⟨v, H2, J.os, J.bare, J.base, J.hok, rv, q⟩
  cases fl with
  | ret u =>
    obtain ⟨v, σ2, H2, J, rv, q⟩ := hs
    exact back J rv q
  | next =>
    obtain ⟨σ2, H2, J, q⟩ := hs
    exact back (v := V.non) (u := Value.none) J rfl q
  | brk =>
    obtain ⟨_, _, _, q⟩ := hs
    exact q.elim
  | cont =>
    obtain ⟨_, _, _, q⟩ := hs
    exact q.elim
theorem ClG.last (D : Df K mg x st) (hf : mg x = some (.ref f)) (c : ∀ base, ClG P w K mg base k x st ps sp) : ∃ fd, FnP K x st f fd ∧ ∀ base, FnG P w K mg base k f fd ps sp := by
  obtain ⟨f0, fd0, F0, m0⟩ := D.ex
  have e0 : f0 = f := Value.ref.inj (Option.some.inj (m0.symm.trans hf))
  subst e0
  refine ⟨fd0, F0, fun base => ?_⟩
  obtain ⟨f1, fd1, F1, G1, m1, _⟩ := (c base).ex
  have e1 : f1 = f0 := Value.ref.inj (Option.some.inj (m1.symm.trans hf))
  subst e1
  obtain ⟨_, _, _, _, _, _, _, _, _, _, _, l0, _⟩ := F0.ex
  obtain ⟨_, _, _, _, _, _, _, _, _, _, _, l1, _⟩ := F1.ex
  have e2 := l0.symm.trans l1
  simp only [Option.some.injEq, Obj.mk.injEq, Data.func.injEq] at e2
  rw [e2.2.2.1]
  exact G1
end
section
variable {X : Cx} {x : Str} {st : Stmt} {ps ks : List Str} {j k : Nat} {sp : Sp} {e : Expr} {es : List Expr} {t : TA} {p pos : Pos}
theorem pe_ug (c : ClG X.prog X.w X.K X.mg X.base k x st ps sp) (hr : Room j X.A) (hgd : X.A.guards = some []) (hk : k ≤ j) (hg : Gl X x) (ha : PA X (e :: es) t)
    (hdb : (x == ("__debug__" : Str)) = false := by decide) (he : starEach (e :: es) X.env = (false, eval e X.env) :: starEach es X.env := by rfl) (hpl : (backTo pos (starEach es X.env)).any (·.1) = false := by rfl) :
    PE X (.Call (.Name x p) (e :: es) [] pos) (tCall sp [] E0 t) := by
  obtain ⟨f, fd, F, G, hm, b⟩ := c.ex
  refine ⟨fun pins s σ H Q I h => wpAny_Call_Name_kw (ld_glob I hg hm ?_ hdb)⟩
  refine PySem.W.callWith_K (h₀ := X.base) I.ok.mod.kin F.kp (thn (ha.run pos pins s σ H _ I h) fun us s1 ⟨vs, H1, I1, rel, q⟩ => ⟨I1.kIn, ?_⟩) he hpl
  have q1 : sp vs H1 Q E0 := by
    have z : sp (vs ++ []) H1 Q E0 := q
    rw [List.append_nil] at z
    exact z
  have ln : (us ++ []).length = ps.length := by
    rw [List.append_nil, ← rel.length]
    exact G.len _ _ _ _ q1
  have bd := b s1 us I1.kIn ln
  rw [List.append_nil] at bd
  refine wpAny_call (codeAny_mono (G.run X.A X.stack s1 H1 ⟨us, []⟩ us vs Q E0 (hr.mono hk) hgd I1.env0 bd rel q1) fun res s2 hq => ?_)
  cases res with
  | error er => exact hq.elim
  | ok fl =>
    cases fl with
    | ret u => exact I1.after hq
    | next => exact hq.elim
    | brk => exact hq.elim
    | cont => exact hq.elim
end
/-- the law's own call, no repr under way -/
theorem lawCallG {P : Program} {w : World} {K : PySem.W.Frag} {mg mb : Str → Option Value} {k : Nat} {fa a : Addr} {fd : FuncData} {x : Str} {sp : Sp} {s1 : Shared} {vs : List Value} {ns : List Int}
    (kx : K.In s1.heap) (gns : s1.heap.Ns mainGlobals mg) (bns : s1.heap.Ns builtinsNs mb) (bbt : ∀ x : Str, x ≠ "__name__" → mb x = bootBuiltins x) (nlim : s1.heap.NoLimit) (gen0 : s1.gens = #[])
    (hob : s1.heap.get? a = some { cls := .type "list", data := .seq vs.toArray }) (hint : IntsAre vs ns) (hlen : ns.length ≤ sizeLine) (hr : Room k callerA)
    (F : ∀ base : Heap, FnG P w K mg base k fa fd [x] sp) (hbind : ∀ (s : Shared) (u : Value), BindsTo s fd ⟨[u], []⟩ [(x, u)])
    (hsp : ∀ H : Hp, SqL K H a (ns.map V.int) → sp [.ref a] H (fun v _ => v = .bl true) fun _ _ _ => False) :
    codeAny (model P w) callerA (.call (.ref fa) ⟨[.ref a], []⟩) (fun r s' => r = .ok (.ret (.bool true)) ∧ OldK s1.heap s'.heap ∧ s'.os = s1.os ∧ AllBare s'.gens) s1 := by
  have rel := vals_ints hint
  have lv := hint.length
  have main : ∀ H : Hp, SqL K H a (ns.map V.int) → HOk P w H s1.heap → (∀ b u, H b = some u → b = a ∧ K.lookup a = none ∧ ∃ xs, u = .frz { cls := .type "list", data := .seq vs.toArray } (.lst xs)) →
      codeAny (model P w) callerA (.call (.ref fa) ⟨[.ref a], []⟩) (fun r s' => r = .ok (.ret (.bool true)) ∧ OldK s1.heap s'.heap ∧ s'.os = s1.os ∧ AllBare s'.gens) s1 := by
    intro H hS hok only
    have free : ∀ {b : Addr} {o : Obj}, s1.heap.get? b = some o → o ≠ { cls := .type "list", data := .seq vs.toArray } → H b = none := fun {b o} e ne => by
      cases hb : H b with
      | none => rfl
      | some u =>
        obtain ⟨rfl, _, _⟩ := only b u hb
        rw [hob] at e
        exact absurd (Option.some.inj e).symm ne
    have nsk : ∀ {b : Addr} {m : Str → Option Value}, s1.heap.Ns b m → (hidT s1.heap H).Ns b m := fun {b m} z => by
      obtain ⟨o, es, ep, e, d, r⟩ := z
      exact ⟨o, es, ep, hidT_get e (free e fun q => by rw [q] at d; cases d), d, r⟩
    have kb : K.In (hidT s1.heap H) := fun b o e => hidT_get (kx b o e) (by
      cases hb : H b with
      | none => rfl
      | some u =>
        obtain ⟨rfl, z, _⟩ := only b u hb
        rw [z] at e
        cases e)
    obtain ⟨mc, c1, c2⟩ := nlim
    have md : Mod K mg (hidT s1.heap H) := ⟨kb, nsk gns, ⟨mb, nsk bns, bbt⟩, ⟨mc, nsk c1, c2⟩⟩
    have en : Env0 P w K mg (hidT s1.heap H) callerA [] s1 H := ⟨rfl, md, fun b o e => of_hidT e, Nat.le_of_eq (hidT_size _ _), trivial, fun b hb => absurd (show b ∈ ([] : List Addr) from hb) List.not_mem_nil, hok, .of_eq gen0⟩
    refine codeAny_mono ((F _).run callerA [] s1 H ⟨[.ref a], []⟩ [.ref a] [.ref a] _ _ hr rfl en (hbind s1 (.ref a)) (.cons rfl .nil) (hsp H hS)) fun r s2 h => ?_
    cases r with
    | error e => exact h.elim
    | ok fl =>
      cases fl with
      | next => exact h.elim
      | brk => exact h.elim
      | cont => exact h.elim
      | ret u =>
        obtain ⟨v, H2, os, bare, un, hok2, rv, q⟩ := h
        have q2 : v = .bl true := q
        subst q2
        obtain rfl : u = Value.bool true := rv
        refine ⟨rfl, OldK.of_keep fun b o e => ?_, os, bare⟩
        cases hb : H b with
        | none => exact un.keep b o e hb (fun z => absurd (show b ∈ ([] : List Addr) from z) List.not_mem_nil) List.not_mem_nil
        | some u =>
          obtain ⟨_, _, xs, rfl⟩ := only b u hb
          obtain ⟨z1, _⟩ := hok b _ hb
          obtain ⟨z2, _⟩ := hok2 b _ (un.frzs b _ _ hb)
          rw [z1] at e
          cases e
          exact z2
  cases hk : K.lookup a with
  | some o =>
    have e := kx a o hk
    rw [hob] at e
    cases e
    refine main (fun _ => none) (.inr ⟨_, vs.toArray, _, hk, rfl, rfl, rfl, by rw [List.size_toArray, lv]; exact hlen, by simpa using rel⟩) (fun b u z => nomatch z) fun b u z => nomatch z
  | none =>
    refine main (fun b => if b = a then some (.frz { cls := .type "list", data := .seq vs.toArray } (.lst (ns.map V.int))) else none) (.inl (.inr ⟨_, if_pos rfl⟩)) (fun b u z => ?_) fun b u z => ?_
    · by_cases hb : b = a
      · have z2 := (if_pos hb).symm.trans z
        cases z2
        subst hb
        exact ⟨hob, by rw [List.length_map]; exact hlen, vs, _, rel, hob⟩
      · have z2 := (if_neg hb).symm.trans z
        cases z2
    · by_cases hb : b = a
      · have z2 := (if_pos hb).symm.trans z
        cases z2
        exact ⟨hb, hk, _, rfl⟩
      · have z2 := (if_neg hb).symm.trans z
        cases z2
theorem walkG {l : PySem.W.OpenLaw} {n k : Nat} {q : Program} {loose : List Str} {XP : (Str → Option Value) → Heap → Prop} {YP : World → Heap → Prop} {d : DefRec} {x : Str}
    (hn : l.most = some n) (hn2 : n ≤ sizeLine) (hdf : d.params.defaults = []) (hr : Room k callerA)
    (F : ∀ (w : World) (mg : Str → Option Value) (fa : Addr) (h : Heap), YP w h → h.Ns mainGlobals mg → mg d.name = some (.ref fa) →
      ∃ (K : PySem.W.Frag) (fd : FuncData) (sp : Sp), K.In h ∧ (∀ (s : Shared) (u : Value), BindsTo s fd ⟨[u], []⟩ [(x, u)]) ∧
        (∀ (H : Hp) (a : Addr) (ns : List Int), ns.length ≤ n → SqL K H a (ns.map V.int) → sp [.ref a] H (fun v _ => v = .bl true) fun _ _ _ => False) ∧ ∀ base : Heap, FnG l.prog w K mg base k fa fd [x] sp) :
    PySem.W.WalkO q loose XP YP l.row.toRowW d [] (fun f vs => PySem.call f vs) := by
  refine Att.attach_call hn hdf fun w s0 s1 mg mb fa o pm cd doc a vs ns G Y ho hd hcd hmg hobj hints hlen hg => ?_
  obtain ⟨K, fd, sp, kx, hb, hsp, hF⟩ := F w mg fa _ Y G.T.g hmg
  exact lawCallG kx G.T.g G.T.b G.T.builtins G.T.nolimit hg hobj hints (Nat.le_trans hlen hn2) hr hF hb fun H hS => hsp H a ns hlen hS
/-! ### repr of data -/
def rReprD (K : PySem.W.Frag) : List V → Hp → VK → Prop := fun xs H Q => ∃ (v : V) (d : PyData), xs = [v] ∧ Dp K H v d ∧ d.canLay0 = true ∧ d.depth ≤ 60 ∧ d.showable = true ∧ d.shown.length ≤ sizeLine ∧ Q (.str d.shown) H
theorem call_reprD {X : Cx} {k : Nat} (hr : Room k X.A) (hgd : X.A.guards = some []) : CallR X (.builtin "repr") (rReprD X.K) := by
  intro pins s σ H xs us Q I r h
  obtain ⟨v, d, rfl, hd, hl, hdp, hs, hz, q⟩ := h
  obtain ⟨u, rfl, rv⟩ := vals1 r
  have fin : ∀ (h' : Heap) (t : Tok) (tk : Tok), (∀ b o, s.heap.get? b = some o → h'.get? b = some o) → EP X pins σ Q (.str d.shown t) { s with heap := h', toks := tk } := fun h' t tk hk =>
    ⟨.str d.shown, H, I.kept (t' := tk) hk, ⟨t, rfl⟩, q⟩
  have fin0 : ∀ (t tk : Tok), EP X pins σ Q (.str d.shown t) { s with toks := tk } := fun t tk => fin s.heap t tk fun _ _ e => e
  have hu := hr.un
  obtain ⟨as, rd⟩ := Dp.reads I d v u hd rv
  cases hd with
  | non =>
    cases rv
    exact PySem.P.repr_of_none (fin0 _ _)
  | bl b =>
    cases rv
    have z := fin0 s.toks (s.toks + 1)
    cases b <;> exact PySem.P.repr_of_bool z
  | int i =>
    obtain ⟨t, rfl⟩ := rv
    have hs2 : i.natAbs.log2 < 1920 := of_decide_eq_true hs
    exact PySem.P.repr_of_int hs2 (fin0 _ _)
  | str x =>
    obtain ⟨t, rfl⟩ := rv
    exact PySem.P.repr_of_str (fin0 _ _) hz
  | lst _ _ =>
    cases rv
    exact repr_of_reads' rd hs (PyData.noDict_hsm (PyData.hasDict_of_canLay _ hl)) hgd (by omega) (fun _ _ e => e) (fun h' t tk hk => fin h' t tk hk) hz
  | tup _ _ =>
    cases rv
    exact repr_of_reads' rd hs (PyData.noDict_hsm (PyData.hasDict_of_canLay _ hl)) hgd (by omega) (fun _ _ e => e) (fun h' t tk hk => fin h' t tk hk) hz
end Lp
namespace Lp
open PySem PySem.Spec PyProof.Rows L2
/-! ### parts of a text -/
def lcScope : Expr → Scope
  | .ListComp _ _ sc _ => sc
  | _ => { kind := .function, names := [], isGenerator := false, isCoroutine := false }
def asgVal : Stmt → Expr
  | .Assign _ v _ => v
  | _ => .Constant .none 0 ⟨0, 0, 0, 0⟩
/-! ### ranks and signs -/
def rk (ns : List Int) (x : Int) : Int := 1 + ((ns.filter fun y => decide (y < x)).length : Nat)
def ranksL (ns : List Int) : List Int := ns.map (rk ns)
theorem filter_lt_none : ∀ {l : List Int} {x : Int}, (∀ y ∈ l, x ≤ y) → (l.filter fun y => decide (y < x)) = []
  | [], _, _ => rfl
  | a :: l, x, h => by
    rw [List.filter_cons, decide_eq_false (by have := h a (List.mem_cons_self ..); omega)]
    exact filter_lt_none fun y hy => h y (List.mem_cons_of_mem _ hy)
theorem filter_sorted : ∀ {l : List Int} {j : Nat} (h : j < l.length), l.Pairwise (· ≤ ·) → l.Nodup → (l.filter fun y => decide (y < l[j])).length = j
  | a :: l, 0, _, hp, _ => by
    rw [List.pairwise_cons] at hp
    show ((a :: l).filter fun y => decide (y < a)).length = 0
    rw [filter_lt_none fun y hy => ?_]
    · rfl
    · rcases List.mem_cons.mp hy with z | z
      · omega
      · exact hp.1 y z
  | a :: l, j + 1, h, hp, hn => by
    rw [List.pairwise_cons] at hp
    rw [List.nodup_cons] at hn
    have h2 : j < l.length := Nat.lt_of_succ_lt_succ h
    show ((a :: l).filter fun y => decide (y < l[j])).length = j + 1
    have hm : l[j] ∈ l := List.getElem_mem h2
    have lt : a < l[j] := by
      have := hp.1 _ hm
      rcases Int.lt_or_eq_of_le this with z | z
      · exact z
      · rw [z] at hn
        exact absurd hm hn.1
    rw [List.filter_cons, decide_eq_true lt]
    show ((l.filter fun y => decide (y < l[j])).length) + 1 = j + 1
    rw [filter_sorted h2 hp.2 hn.2]
theorem rk_sorted {ns ms : List Int} (hp : ms.Perm ns) (hs : ms.Pairwise (· ≤ ·)) (hn : ms.Nodup) {j : Nat} (h : j < ms.length) : rk ns ms[j] = 1 + (j : Nat) := by
  unfold rk
  rw [← (hp.filter fun y => decide (y < ms[j])).length_eq, filter_sorted h hs hn]
def sg (b : Bool) : Str := if b then Str.ofString "1" else Str.ofString "0"
def sgL (ns : List Int) (h : Int) : List Str := ns.map fun x => sg (decide (h ≤ x))
def signS (ns : List Int) (h : Int) : Str := Txt.join (Str.ofString "") (sgL ns h)
theorem sgL_len (ns : List Int) (h : Int) : ((sgL ns h).map (·.length)).sum + (sgL ns h).length * (Str.ofString "").length ≤ ns.length := by
  have e0 : (Str.ofString "").length = 0 := by decide +kernel
  rw [e0, Nat.mul_zero, Nat.add_zero]
  unfold sgL
  induction ns with
  | nil => exact Nat.le_refl _
  | cons a l ih =>
    rw [List.map_cons, List.map_cons, List.sum_cons, List.length_cons]
    have e1 : (sg (decide (h ≤ a))).length = 1 := by
      unfold sg
      split <;> decide +kernel
    rw [e1]
    omega
theorem take_succ_map {α β : Type} {f : α → β} {l : List α} {i : Nat} (h : i < l.length) : ((l.take (i + 1)).map f) = (l.take i).map f ++ [f l[i]] := by
  rw [List.take_add_one, List.getElem?_eq_getElem h, List.map_append]
  rfl
theorem take_succ_filter {p : Int → Bool} {l : List Int} {i : Nat} (h : i < l.length) : ((l.take (i + 1)).filter p) = if p l[i] = true then (l.take i).filter p ++ [l[i]] else (l.take i).filter p := by
  rw [List.take_add_one, List.getElem?_eq_getElem h, List.filter_append]
  show _ ++ ([l[i]].filter p) = _
  cases hp : p l[i] with
  | true => rw [if_pos rfl]; simp [hp]
  | false => rw [if_neg (by decide)]; simp [hp]
end Lp
namespace Lp
open PySem PySem.Spec PyProof.Rows L2
/-! ### repr of rows -/
abbrev rowS (ns : List Int) : Str := (PyData.tuple (ns.map PyData.int)).shown
theorem small_log {x : Int} (h : 1 ≤ x ∧ x ≤ 999) : x.natAbs.log2 < 1920 := by
  have h1 : x.natAbs < 2 ^ 10 := by omega
  have h2 := (Nat.log2_lt (by omega)).mpr h1
  omega
theorem showable_ints : ∀ {ns : List Int}, (∀ x ∈ ns, x.natAbs.log2 < 1920) → PyData.showableAll (ns.map PyData.int) = true
  | [], _ => by simp only [List.map_nil, PyData.showableAll]
  | n :: ns, h => by
    simp only [List.map_cons, PyData.showableAll, PyData.showable, Bool.and_eq_true]
    exact ⟨decide_eq_true (h n (List.mem_cons_self ..)), showable_ints fun x hx => h x (List.mem_cons_of_mem _ hx)⟩
theorem piled_ints : ∀ {ns : List Int}, (∀ x ∈ ns, x.natAbs.log2 < 1920) → piled (PyData.shownAll (ns.map PyData.int)) ≤ 1923 * ns.length
  | [], _ => by simp only [List.map_nil, PyData.shownAll, piled_nil, List.length_nil]; omega
  | n :: ns, h => by
    simp only [List.map_cons, PyData.shownAll, PyData.shown, piled_cons, List.length_cons]
    have h1 := int_text_len_1921 (h n (List.mem_cons_self ..))
    have h2 := piled_ints fun x hx => h x (List.mem_cons_of_mem _ hx)
    have h3 : (toString n : Str).length ≤ 1921 := h1
    omega
theorem row_dep (ns : List Int) : (PyData.tuple (ns.map PyData.int)).depth ≤ 60 := by
  simp only [PyData.depth, depth_ints]
  decide
theorem row_showI {ns : List Int} (hx : ∀ x ∈ ns, x.natAbs.log2 < 1920) : (PyData.tuple (ns.map PyData.int)).showable = true := by
  simp only [PyData.showable]
  exact showable_ints hx
theorem row_lenI {ns : List Int} (hl : ns.length ≤ 1000) (hx : ∀ x ∈ ns, x.natAbs.log2 < 1920) : (PyData.tuple (ns.map PyData.int)).shown.length ≤ sizeLine := by
  simp only [PyData.shown]
  have h1 := fmt_text (PyData.shownAll (ns.map PyData.int))
  have h2 := piled_ints hx
  rw [sizeLine_eq]
  omega
theorem row_show {ns : List Int} (r : Row ns) : (PyData.tuple (ns.map PyData.int)).showable = true := row_showI fun x hx => small_log (r.rng x hx)
theorem row_len {ns : List Int} (r : Row ns) : (PyData.tuple (ns.map PyData.int)).shown.length ≤ sizeLine := row_lenI (Nat.le_trans r.most (by decide)) fun x hx => small_log (r.rng x hx)
theorem run_mem (b : Bool) : ∀ (xs l s : List Int) (x : Int), (xs.foldl (stepW b) (l, s, x)).2.2 ∈ x :: xs
  | [], l, s, x => List.mem_cons_self ..
  | p :: xs, l, s, x => by
    rw [List.foldl_cons, show stepW b (l, s, x) p = (if takes b p x = true then (l ++ [x], s ++ [x], p) else (l ++ [p], s, x)) from rfl]
    split
    · exact List.mem_cons_of_mem _ (run_mem b xs _ _ p)
    · rcases List.mem_cons.mp (run_mem b xs (l ++ [p]) s x) with z | z
      · rw [z]
        exact List.mem_cons_self ..
      · exact List.mem_cons_of_mem _ (List.mem_cons_of_mem _ z)
theorem takes_eq {b : Bool} {p s : Int} (h : p ≠ s) : takes b p s = (decide (s < p) == b) := by
  unfold takes
  cases b with
  | true =>
    rw [if_pos rfl]
    cases decide (s < p) <;> rfl
  | false =>
    rw [if_neg (by decide)]
    by_cases z : s < p
    · rw [decide_eq_true z, decide_eq_false (by omega)]
      rfl
    · rw [decide_eq_false z, decide_eq_true (by omega)]
      rfl
theorem kindT (b : Bool) : decide (V.str (ltr b) = V.str (Str.ofString "T")) = b := by
  rw [ltrT]
  cases b with
  | true => exact decide_eq_true rfl
  | false => exact decide_eq_false fun z => absurd (ltr_inj (V.str.inj z)) (by decide)
theorem bl_eq (x y : Bool) : decide (V.bl x = V.bl y) = (x == y) := by
  cases x <;> cases y <;> rfl
end Lp
namespace Lp
open PySem PySem.Spec PyProof.Rows L2
/-! ### who sits down -/
def recB (b : Bool) (E : List Int) (p : Int) : Bool := E.all fun o => decide (o < p) == b
def dueUp (b : Bool) (ns : List Int) : Nat → List Int
  | 0 => []
  | i + 1 => if recB b (ns.take i) (ns.getD i 0) = true then dueUp b ns i ++ [ns.getD i 0] else dueUp b ns i
/-- s is the greatest (the least) so far -/
def Ext (b : Bool) (s : Int) (E : List Int) : Prop := s ∈ E ∧ ∀ o ∈ E, if b then o ≤ s else s ≤ o
theorem recB_takes {b : Bool} {s p : Int} {E : List Int} (h : Ext b s E) (hp : p ∉ E) : recB b E p = takes b p s := by
  obtain ⟨hs, he⟩ := h
  unfold recB takes
  cases b with
  | true =>
    rw [if_pos rfl]
    by_cases z : s < p
    · rw [decide_eq_true z, List.all_eq_true]
      intro o ho
      have h1 : o ≤ s := he o ho
      rw [decide_eq_true (by omega)]
      rfl
    · rw [decide_eq_false z, List.all_eq_false]
      refine ⟨s, hs, ?_⟩
      rw [decide_eq_false z]
      decide
  | false =>
    rw [if_neg (by decide)]
    have ne : p ≠ s := fun e => hp (e ▸ hs)
    by_cases z : p < s
    · rw [decide_eq_true z, List.all_eq_true]
      intro o ho
      have h1 : s ≤ o := he o ho
      rw [decide_eq_false (by omega)]
      rfl
    · rw [decide_eq_false z, List.all_eq_false]
      refine ⟨s, hs, ?_⟩
      rw [decide_eq_true (by omega)]
      decide
theorem run_ext (b : Bool) (x : Int) (xs : List Int) : ∀ i, i ≤ xs.length → Ext b ((xs.take i).foldl (stepW b) ([], [], x)).2.2 (x :: xs.take i)
  | 0, _ => ⟨List.mem_cons_self .., fun o ho => by
      rw [List.take_zero] at ho
      rw [List.mem_singleton.mp ho]
      show if b then x ≤ x else x ≤ x
      split <;> exact Int.le_refl _⟩
  | i + 1, h => by
    have lt : i < xs.length := h
    obtain ⟨hs, he⟩ := run_ext b x xs i (Nat.le_of_lt lt)
    rw [fold_take (List.getElem?_eq_getElem lt)]
    have tk : x :: xs.take (i + 1) = (x :: xs.take i) ++ [xs[i]] := by
      rw [List.take_add_one, List.getElem?_eq_getElem lt]
      rfl
    rw [tk]
    generalize (xs.take i).foldl (stepW b) ([], [], x) = r at hs he
    rw [show stepW b r xs[i] = (if takes b xs[i] r.2.2 = true then (r.1 ++ [r.2.2], r.2.1 ++ [r.2.2], xs[i]) else (r.1 ++ [xs[i]], r.2.1, r.2.2)) from rfl]
    by_cases ht : takes b xs[i] r.2.2 = true
    · rw [if_pos ht]
      refine ⟨List.mem_append_right _ (List.mem_singleton_self _), fun o ho => ?_⟩
      show if b then o ≤ xs[i] else xs[i] ≤ o
      unfold takes at ht
      cases b with
      | true =>
        rw [if_pos rfl] at ht ⊢
        have h1 := of_decide_eq_true ht
        rcases List.mem_append.mp ho with z | z
        · have h2 : o ≤ r.2.2 := he o z
          omega
        · rw [List.mem_singleton.mp z]
          omega
      | false =>
        rw [if_neg (by decide)] at ht ⊢
        have h1 := of_decide_eq_true ht
        rcases List.mem_append.mp ho with z | z
        · have h2 : r.2.2 ≤ o := he o z
          omega
        · rw [List.mem_singleton.mp z]
          omega
    · rw [if_neg ht]
      refine ⟨List.mem_append_left _ hs, fun o ho => ?_⟩
      show if b then o ≤ r.2.2 else r.2.2 ≤ o
      unfold takes at ht
      cases b with
      | true =>
        rw [if_pos rfl] at ht ⊢
        have h1 : ¬ r.2.2 < xs[i] := fun z => ht (decide_eq_true z)
        rcases List.mem_append.mp ho with z | z
        · exact he o z
        · rw [List.mem_singleton.mp z]
          omega
      | false =>
        rw [if_neg (by decide)] at ht ⊢
        have h1 : ¬ xs[i] < r.2.2 := fun z => ht (decide_eq_true z)
        rcases List.mem_append.mp ho with z | z
        · exact he o z
        · rw [List.mem_singleton.mp z]
          omega
theorem dueUp_run (b : Bool) {x : Int} {xs : List Int} (nd : (x :: xs).Nodup) : ∀ i, i ≤ xs.length → dueUp b (x :: xs) (i + 1) = ((xs.take i).foldl (stepW b) ([], [], x)).2.1 ++ [((xs.take i).foldl (stepW b) ([], [], x)).2.2]
  | 0, _ => rfl
  | i + 1, h => by
    have lt : i < xs.length := h
    have ih := dueUp_run b nd i (Nat.le_of_lt lt)
    have ex := run_ext b x xs i (Nat.le_of_lt lt)
    have gd : (x :: xs).getD (i + 1) 0 = xs[i] := by
      rw [List.getD_cons_succ, List.getD_eq_getElem?_getD, List.getElem?_eq_getElem lt]
      rfl
    have hp : xs[i] ∉ x :: xs.take i := fun hm => by
      rw [List.nodup_cons] at nd
      rcases List.mem_cons.mp hm with z | z
      · rw [← z] at nd
        exact nd.1 (List.getElem_mem lt)
      · obtain ⟨j, hj, e⟩ := List.mem_take_iff_getElem.mp z
        have := (List.getElem_inj nd.2).mp e
        omega
    show (if recB b ((x :: xs).take (i + 1)) ((x :: xs).getD (i + 1) 0) = true then dueUp b (x :: xs) (i + 1) ++ [(x :: xs).getD (i + 1) 0] else dueUp b (x :: xs) (i + 1)) = _
    rw [gd, show (x :: xs).take (i + 1) = x :: xs.take i from rfl, recB_takes ex hp, ih, fold_take (List.getElem?_eq_getElem lt)]
    generalize (xs.take i).foldl (stepW b) ([], [], x) = r
    rw [show stepW b r xs[i] = (if takes b xs[i] r.2.2 = true then (r.1 ++ [r.2.2], r.2.1 ++ [r.2.2], xs[i]) else (r.1 ++ [xs[i]], r.2.1, r.2.2)) from rfl]
    split <;> rfl
theorem dueUp_seat (b : Bool) {ns : List Int} (r : Row ns) : dueUp b ns ns.length = seatL b ns := by
  cases ns with
  | nil => exact absurd r.pos (by decide)
  | cons x xs =>
    have z := dueUp_run b r.nd xs.length (Nat.le_refl _)
    rw [List.take_length] at z
    exact z
theorem dueUp_len (b : Bool) (ns : List Int) : ∀ i, (dueUp b ns i).length ≤ i
  | 0 => Nat.le_refl _
  | i + 1 => by
    have := dueUp_len b ns i
    unfold dueUp
    split
    · rw [List.length_append]
      show _ + 1 ≤ _
      omega
    · omega
theorem dueUp_succ (b : Bool) {ns : List Int} {i : Nat} (h : i < ns.length) : dueUp b ns (i + 1) = if recB b (ns.take i) ns[i] = true then dueUp b ns i ++ [ns[i]] else dueUp b ns i := by
  have gd : ns.getD i 0 = ns[i] := by
    rw [List.getD_eq_getElem?_getD, List.getElem?_eq_getElem h]
    rfl
  show (if recB b (ns.take i) (ns.getD i 0) = true then dueUp b ns i ++ [ns.getD i 0] else dueUp b ns i) = _
  rw [gd]
/-- the last of the row behind a pass is the last who sat -/
theorem lasts (b : Bool) {ns : List Int} (h : 1 ≤ ns.length) : ∃ (z : Int) (ps ss : List Int), passL b ns = ps ++ [z] ∧ seatL b ns = ss ++ [z] := by
  cases ns with
  | nil => exact absurd h (by decide)
  | cons x xs => exact ⟨_, _, _, rfl, rfl⟩
theorem seat_mem (b : Bool) {ns : List Int} (r : Row ns) : ∀ x ∈ seatL b ns, x ∈ ns := by
  rw [← dueUp_seat b r]
  have go : ∀ i, i ≤ ns.length → ∀ x ∈ dueUp b ns i, x ∈ ns := by
    intro i
    induction i with
    | zero => intro _ x hx; cases hx
    | succ i ih =>
      intro h x hx
      rw [dueUp_succ b h] at hx
      split at hx
      · rcases List.mem_append.mp hx with z | z
        · exact ih (Nat.le_of_succ_le h) x z
        · rw [List.mem_singleton.mp z]
          exact List.getElem_mem _
      · exact ih (Nat.le_of_succ_le h) x hx
  exact go _ (Nat.le_refl _)
theorem seat_log (b : Bool) {ns : List Int} (r : Row ns) : ∀ x ∈ seatL b ns, x.natAbs.log2 < 1920 := fun x hx => small_log (r.rng x (seat_mem b r x hx))
theorem seat_le (b : Bool) {ns : List Int} (r : Row ns) : (seatL b ns).length ≤ 1000 := by
  rw [← dueUp_seat b r]
  have h1 := dueUp_len b ns ns.length
  have h2 := r.most
  omega
theorem all_recB (b : Bool) (E : List Int) (p : Int) : (E.map fun o => decide (o < p) == b).all id = recB b E p := by
  rw [List.all_map]
  rfl
end Lp
namespace Lp
open PySem PySem.Spec PyProof.Rows L2
/-! ### texts of words -/
theorem fold_ltr : ∀ (bs : List Bool) (acc : Array Nat), (bs.map ltr).foldl (fun acc p => acc ++ (Str.ofString "").cps ++ p.cps) acc = acc ++ (bs.map code).toArray
  | [], acc => by simp
  | b :: bs, acc => by
    rw [List.map_cons, List.foldl_cons, fold_ltr bs]
    have e0 : (Str.ofString "").cps = #[] := by decide +kernel
    rw [e0]
    apply Array.ext'
    simp
theorem join_wd : ∀ bs : List Bool, Txt.join (Str.ofString "") (bs.map ltr) = wd bs
  | [] => by decide +kernel
  | b :: bs => by
    show (⟨(bs.map ltr).foldl (fun acc p => acc ++ (Str.ofString "").cps ++ p.cps) (ltr b).cps⟩ : Str) = wd (b :: bs)
    rw [fold_ltr]
    show (⟨#[code b] ++ (bs.map code).toArray⟩ : Str) = ⟨((b :: bs).map code).toArray⟩
    congr 1
    apply Array.ext'
    simp
theorem fold_wd (bs : List Bool) : ∀ (n : Nat) (acc : Array Nat), (List.replicate n (wd bs).cps).foldl (· ++ ·) acc = acc ++ ((List.replicate n bs).flatten.map code).toArray
  | 0, acc => by simp
  | n + 1, acc => by
    rw [List.replicate_succ, List.foldl_cons, fold_wd bs n, List.replicate_succ]
    apply Array.ext'
    simp [wd]
theorem mul_wd {bs : List Bool} {n : Nat} (hn : 2 ≤ n) (hb : bs ≠ []) : Txt.mul (wd bs) ((n : Nat) : Int) = wd (List.replicate n bs).flatten := by
  unfold Txt.mul
  rw [if_neg (by omega)]
  have e1 : ((((n : Nat) : Int) == 1) || ((wd bs).length == 0)) = false := by
    rw [Bool.or_eq_false_iff]
    refine ⟨beq_eq_false_iff_ne.mpr (by omega), beq_eq_false_iff_ne.mpr ?_⟩
    rw [wd_len]
    intro z
    exact hb (List.length_eq_zero_iff.mp z)
  rw [if_neg (by rw [e1]; decide), Int.toNat_natCast, fold_wd]
  unfold wd
  congr 1
  simp
theorem sumlen_ltr (bs : List Bool) : ((bs.map ltr).map (·.length)).sum + (bs.map ltr).length * (Str.ofString "").length = bs.length := by
  have e0 : (Str.ofString "").length = 0 := by decide +kernel
  rw [e0, Nat.mul_zero, Nat.add_zero]
  induction bs with
  | nil => rfl
  | cons b bs ih =>
    rw [List.map_cons, List.map_cons, List.sum_cons, ih, List.length_cons]
    show 1 + bs.length = bs.length + 1
    omega
theorem flat_len (n : Nat) (bs : List Bool) : (List.replicate n bs).flatten.length = n * bs.length := by
  induction n with
  | zero => simp
  | succ n ih =>
    rw [List.replicate_succ, List.flatten_cons, List.length_append, ih, Nat.succ_mul]
    omega
theorem wdTTSTS : Str.ofString "TTSTS" = wd [true, true, false, true, false] := by decide +kernel
theorem wdS : Str.ofString "S" = wd [false] := by decide +kernel
theorem wdNil : Str.ofString "" = wd [] := by decide +kernel
theorem ltr_wd (b : Bool) : ltr b = wd [b] := rfl
end Lp
namespace Lp
open PySem PySem.Spec PyProof.Rows L2
/-! ### rows told -/
def rowB (xs : List V) : Bool := decide (1 ≤ xs.length) && (decide (xs.length ≤ 12) && (List.range xs.length).all (okAt xs))
theorem rowB_true {xs : List V} (h1 : 1 ≤ xs.length) (h2 : xs.length ≤ 12) (h : ∀ i, i < xs.length → okAt xs i = true) : rowB xs = true := by
  unfold rowB
  rw [decide_eq_true h1, decide_eq_true h2, Bool.true_and, Bool.true_and, List.all_eq_true]
  exact fun i hi => h i (List.mem_range.mp hi)
theorem rowB_bad {xs : List V} {i : Nat} (hi : i < xs.length) (h : okAt xs i = false) : rowB xs = false := by
  unfold rowB
  have e : (List.range xs.length).all (okAt xs) = false := by
    rw [List.all_eq_false]
    exact ⟨i, List.mem_range.mpr hi, by rw [h]; decide⟩
  rw [e, Bool.and_false, Bool.and_false]
theorem rowB_len {xs : List V} (h : ¬ (1 ≤ xs.length ∧ xs.length ≤ 12)) : rowB xs = false := by
  unfold rowB
  by_cases h1 : 1 ≤ xs.length
  · rw [decide_eq_false (fun z => h ⟨h1, z⟩), Bool.false_and, Bool.and_false]
  · rw [decide_eq_false h1, Bool.false_and]
theorem Row.rowB {ns : List Int} (r : Row ns) : rowB (ns.map V.int) = true :=
  rowB_true (by rw [List.length_map]; exact r.pos) (by rw [List.length_map]; exact r.most) fun i _ => r.ok i
/-! ### odd values -/
theorem Tv.kp {K : PySem.W.Frag} {a : Addr} {H H' : Hp} {v : V} {T : String} (t : Tv K H v T) (ne : v ≠ .ref a) (e : Kp a H H') : Tv K H' v T := by
  refine ⟨?_, t.mem⟩
  have go : ∀ {b : Addr} {o : HO}, v = .ref b → H b = some o → H' b = some o := fun {b o} ev h => e b o h fun z => ne (by rw [ev, z])
  cases t.ty with
  | base b =>
    cases b with
    | non => exact .base .non
    | bl x => exact .base (.bl x)
    | int i => exact .base (.int i)
    | str x => exact .base (.str x)
    | flt x => exact .base (.flt x)
    | lst h => exact .base (.lst (go rfl h))
    | frz h => exact .base (.frz (go rfl h))
    | tup h => exact .base (.tup (go rfl h))
    | dK h => exact .base (.dK (go rfl h))
    | dT h => exact .base (.dT (go rfl h))
  | byt b => exact .byt b
  | set h => exact .set (go rfl h)
  | kList h c => exact .kList h c
  | kTuple h c => exact .kTuple h c
  | kDict h c => exact .kDict h c
  | fTuple h => exact .fTuple (go rfl h)
  | fDict h => exact .fDict (go rfl h)
/-- typed, and not the pool itself -/
structure Od (K : PySem.W.Frag) (a : Addr) (H : Hp) (v : V) : Prop where
  ty : ∃ T, Tv K H v T
  ne : v ≠ .ref a
theorem Od.kp {K : PySem.W.Frag} {a : Addr} {H H' : Hp} {v : V} (o : Od K a H v) (e : Kp a H H') : Od K a H' v := by
  obtain ⟨⟨T, t⟩, ne⟩ := o
  exact ⟨⟨T, t.kp ne e⟩, ne⟩
theorem Od.int {K : PySem.W.Frag} {a : Addr} {H : Hp} (i : Int) : Od K a H (.int i) := ⟨⟨_, Tv.int i⟩, fun z => nomatch z⟩
theorem Od.bl {K : PySem.W.Frag} {a : Addr} {H : Hp} (b : Bool) : Od K a H (.bl b) := ⟨⟨"bool", .base (.bl b), by decide⟩, fun z => nomatch z⟩
theorem Od.non {K : PySem.W.Frag} {a : Addr} {H : Hp} : Od K a H .non := ⟨⟨"NoneType", .base .non, by decide⟩, fun z => nomatch z⟩
theorem Od.str {K : PySem.W.Frag} {a : Addr} {H : Hp} (x : Str) : Od K a H (.str x) := ⟨⟨"str", .base (.str x), by decide⟩, fun z => nomatch z⟩
theorem Od.ref {K : PySem.W.Frag} {a b : Addr} {H : Hp} {T : String} (t : Tv K H (.ref b) T) (ne : b ≠ a) : Od K a H (.ref b) := ⟨⟨T, t⟩, fun z => ne (V.ref.inj z)⟩
theorem Tv.lst {K : PySem.W.Frag} {b : Addr} {H : Hp} {xs : List V} (h : H b = some (.lst xs)) : Tv K H (.ref b) "list" := ⟨.base (.lst h), by decide⟩
theorem Tv.dct {K : PySem.W.Frag} {b : Addr} {H : Hp} {kvs : List (Key × V)} (h : H b = some (.dK kvs)) : Tv K H (.ref b) "dict" := ⟨.base (.dK h), by decide⟩
/-- what may be asked: no tuple, or a tuple of such -/
def Askd (K : PySem.W.Frag) (a : Addr) (H : Hp) (v : V) : Prop := (∃ T, Tv K H v T ∧ T ≠ "tuple" ∧ v ≠ .ref a) ∨ ∃ (b : Addr) (xs : List V), v = .ref b ∧ b ≠ a ∧ SqT K H b xs ∧ xs.length ≤ 1000 ∧ ∀ x ∈ xs, Od K a H x
theorem Askd.tup {K : PySem.W.Frag} {a b : Addr} {H : Hp} {xs : List V} (h : H b = some (.tup xs)) (ne : b ≠ a) (hl : xs.length ≤ 1000) (hx : ∀ x ∈ xs, Od K a H x) : Askd K a H (.ref b) := .inr ⟨b, xs, rfl, ne, .inl (.inl h), hl, hx⟩
theorem od_upd {K : PySem.W.Frag} {a p : Addr} {H : Hp} {o : HO} {v : V} (h : Od K a H v) (np : H p = none) : Od K a (upd H p o) v := h.kp (.of_same (same_upd np))
theorem od_ints {K : PySem.W.Frag} {a : Addr} {H : Hp} {ns : List Int} : ∀ x ∈ ns.map V.int, Od K a H x := fun x hx => by
  obtain ⟨n, _, rfl⟩ := List.mem_map.mp hx
  exact Od.int n
/-- a draw's place in a list -/
theorem pick {xs : List V} {d : Int} {n : Nat} (h0 : 0 ≤ d) (h1 : d < n) (hn : xs.length = n) : ∃ v, atI xs d = some v ∧ v ∈ xs := by
  have lt : d.toNat < xs.length := by omega
  obtain ⟨k, rfl⟩ : ∃ k : Nat, d = (k : Nat) := ⟨d.toNat, by omega⟩
  have lk : k < xs.length := by omega
  exact ⟨xs[k], atI_nat (List.getElem?_eq_getElem lk), List.getElem_mem lk⟩
theorem cut_mem {xs : List V} {lo hi : Option Int} {x : V} (h : x ∈ cutV xs lo hi) : x ∈ xs := List.mem_of_mem_drop (List.mem_of_mem_take h)
theorem cut_len (xs : List V) (lo hi : Option Int) : (cutV xs lo hi).length ≤ xs.length := by
  unfold cutV
  rw [List.length_take, List.length_drop]
  omega
theorem notwhole_hi {n k : Nat} (h : k < n) (lo : Option Int) : ¬ (HT.sIx n 0 lo = 0 ∧ HT.sIx n n (some (k : Nat)) = n) := fun z => by
  have e := z.2
  rw [HT.sIx_nat] at e
  omega
theorem SqT.kp {K : PySem.W.Frag} {a b : Addr} {H H' : Hp} {xs : List V} (e : Kp a H H') (ne : b ≠ a) (h : SqT K H b xs) : SqT K H' b xs := by
  rcases h with (h | ⟨o, h⟩) | h
  · exact .inl (.inl (e _ _ h ne))
  · exact .inl (.inr ⟨o, e _ _ h ne⟩)
  · exact .inr h
theorem Askd.kp {K : PySem.W.Frag} {a : Addr} {H H' : Hp} {v : V} (h : Askd K a H v) (e : Kp a H H') : Askd K a H' v := by
  rcases h with ⟨T, t, nt, ne⟩ | ⟨b, xs, rfl, ne, hS, hl, hx⟩
  · exact .inl ⟨T, t.kp ne e, nt, ne⟩
  · exact .inr ⟨b, xs, rfl, ne, SqT.kp e ne hS, hl, fun x hm => (hx x hm).kp e⟩
section
variable {X : Cx}
def rCatB (K : PySem.W.Frag) : R2 := fun x y H Q => ∃ a b xs ys, x = .ref a ∧ y = .ref b ∧ SqT K H a xs ∧ SqT K H b ys ∧ xs.length + ys.length ≤ sizeLine ∧
  ∀ (p : Addr) (G : Hp), Same H G → SqT K G p (xs ++ ys) → (p = a ∨ p = b ∨ H p = none) → Q (.ref p) G
theorem op_catB : OpR X (binaryOp .Add) (rCatB X.K) := by
  intro pins s σ H x y v u Q I rx ry h
  obtain ⟨a, b, xs, ys, rfl, rfl, ha, hb, hz, q⟩ := h
  refine op_catA pins s σ H _ _ v u Q I rx ry ⟨a, b, xs, ys, rfl, rfl, ha, hb, hz, fun e => ?_, fun _ e => ?_, fun _ _ p np => ?_⟩
  · subst e
    exact q b H (Same.refl H) hb (.inr (.inl rfl))
  · subst e
    refine q a H (Same.refl H) ?_ (.inl rfl)
    rw [List.append_nil]
    exact ha
  · exact q p _ (same_upd np) (.inl (.inl upd_same)) (.inr (.inr np))
def rSlB' (K : PySem.W.Frag) : V → Option Int → Option Int → Hp → VK → Prop := fun x lo hi H Q => ∃ a xs, x = .ref a ∧ SqT K H a xs ∧
  ∀ (p : Addr) (G : Hp), Same H G → SqT K G p (cutV xs lo hi) → (p = a ∨ H p = none) → Q (.ref p) G
theorem cut_whole {xs : List V} {lo hi : Option Int} (h : HT.sIx xs.length 0 lo = 0 ∧ HT.sIx xs.length xs.length hi = xs.length) : cutV xs lo hi = xs := by
  unfold cutV
  rw [h.1, h.2, Nat.sub_zero]
  show xs.take xs.length = xs
  exact List.take_length
theorem sl_tupB : SlR X (rSlB' X.K) := by
  intro pins s σ H x v vl vu lo hi sl Q I rx hs pl pu h
  obtain ⟨a, xs, rfl, ha, q⟩ := h
  refine sl_tupA pins s σ H _ v vl vu lo hi sl Q I rx hs pl pu ⟨a, xs, rfl, ha, fun z => ?_, fun _ p np => ?_⟩
  · refine q a H (Same.refl H) ?_ (.inl rfl)
    rw [cut_whole z]
    exact ha
  · exact q p _ (same_upd np) (.inl (.inl upd_same)) (.inr np)
end
end Lp
namespace Lp
open PySem PySem.Spec PyProof.Rows L2
/-! ### behind a written number a token is out
PR, PRs, PRS: as the library's readings of an expression, of arguments, of a statement, and the end says besides that some token is out. -/
section
variable {X : Cx} {e o i : Expr} {es : List Expr} {te ti : TE} {ta : TA} {pos p : Pos}
abbrev out1 (s : Shared) : Prop := 1 ≤ s.toks
def PR (X : Cx) (e : Expr) (t : TE) : Prop :=
  ∀ pins s σ H (Q : VK), Inv X pins σ H s → t σ H Q → wpAny (model X.prog X.w) X.A (eval e X.env) (fun u s' => out1 s' ∧ EP X pins σ Q u s') X.xe s
def PRs (X : Cx) (es : List Expr) (t : TA) : Prop :=
  ∀ at_ pins s σ H (Q : List V → Hp → Prop), Inv X pins σ H s → t σ H Q → wpAny (model X.prog X.w) X.A (spliced (backTo at_ (starEach es X.env))) (fun us s' => out1 s' ∧ AP X pins σ Q us s') X.xe s
def PRS (X : Cx) (st : Stmt) (t : TS) : Prop :=
  ∀ pins s σ H (D : Ends), Inv X pins σ H s → t D σ H → wpAny (model X.prog X.w) X.A (exec st X.env) (fun f s' => out1 s' ∧ SP X pins D f s') X.xe s
/-- once out, a token stays out -/
theorem stays {α : Type} {t : Sem α} {Q : α → Shared → Prop} {E : Value → Shared → Prop} {s : Shared} (k : out1 s) (h : wpAny (model X.prog X.w) X.A t Q E s) : wpAny (model X.prog X.w) X.A t (fun a s' => out1 s' ∧ Q a s') E s :=
  wpAny_mono (PySem.wpAny_toks_of k h) (fun _ _ z => z) fun _ _ z => z.2
theorem pr_int {n : Int} {j : Nat} : PR X (.Constant (.int n) j pos) (tC (.int n)) := fun _ s _ H _ I q => wpAny_Constant_int ⟨(Nat.succ_le_succ (Nat.zero_le s.toks) : 1 ≤ s.toks + 1), .int n, H, I.tok _, ⟨_, rfl⟩, q⟩
theorem prs_here (a : PR X e te) (r : PA X es ta) (hs : starEach (e :: es) X.env = (false, eval e X.env) :: starEach es X.env := by rfl) : PRs X (e :: es) (tCons te ta) := fun at_ pins s σ H Q I h => by
  rw [hs]
  refine Calls.spliced_cons (wpAny_mono (a pins s σ H _ I h) (fun u s1 z => ?_) fun _ _ z => z)
  obtain ⟨k, x, H1, I1, rx, q⟩ := z
  refine wpAny_mono (stays k (r.run at_ pins s1 σ H1 _ I1 q)) (fun us s2 z2 => ?_) fun _ _ z2 => z2
  exact ⟨z2.1, let ⟨xs, H2, I2, rs, q2⟩ := z2.2; ⟨x :: xs, H2, I2, .cons rx rs, q2⟩⟩
theorem prs_later (a : PE X e te) (r : PRs X es ta) (hs : starEach (e :: es) X.env = (false, eval e X.env) :: starEach es X.env := by rfl) : PRs X (e :: es) (tCons te ta) := fun at_ pins s σ H Q I h => by
  rw [hs]
  refine Calls.spliced_cons (wpAny_mono (a.run pins s σ H _ I h) (fun u s1 z => ?_) fun _ _ z => z)
  obtain ⟨x, H1, I1, rx, q⟩ := z
  refine wpAny_mono (r at_ pins s1 σ H1 _ I1 q) (fun us s2 z2 => ?_) fun _ _ z2 => z2
  exact ⟨z2.1, let ⟨xs, H2, I2, rs, q2⟩ := z2.2; ⟨x :: xs, H2, I2, .cons rx rs, q2⟩⟩
/-- f(..), one of its arguments with a written number -/
theorem pr_call {k j : Nat} {x : Str} {st : Stmt} {ps : List Str} {sp : Sp} (c : Cl X.prog X.w X.K X.mg X.base k x st ps sp) (hr : Room j X.A) (hk : k ≤ j) (hg : Gl X x) (a : PRs X (e :: es) ta)
    (hdb : (x == ("__debug__" : Str)) = false := by decide) (h1 : starEach (e :: es) X.env = (false, eval e X.env) :: starEach es X.env := by rfl) (h2 : (backTo pos (starEach es X.env)).any (·.1) = false := by rfl) :
    PR X (.Call (.Name x p) (e :: es) [] pos) (tCall sp [] E0 ta) := fun pins s σ H Q I h => by
  obtain ⟨f, fd, F, G, hm, b⟩ := c.ex
  have args := wpAny_mono (a pos pins s σ H _ I h) (E' := X.xe) (Q' := fun us s1 => X.K.In s1.heap ∧ wpAny (model X.prog X.w) X.A (call (.ref f) us) (fun u s' => out1 s' ∧ EP X pins σ Q u s') X.xe s1) (fun us s1 z => by
    obtain ⟨k1, vs, H1, I1, rs, q⟩ := z
    exact ⟨I1.kIn, stays k1 (run_fn G (hr.mono hk) b .nil pass0 I1 rs q)⟩) fun _ _ z => z
  exact wpAny_Call_Name_kw (ld_glob I hg hm (PySem.W.callWith_K (h₀ := X.base) I.ok.mod.kin F.kp args h1 h2) hdb)
/-- x = e -/
theorem pr_set {n : Nat} {x : Str} {pos' : Pos} (hN : X.N.Nodup) (hi : X.N[n]? = some x) (hx : Loc X.env.scope x) (a : PR X e te) (hs : swapsWith e (some (.Name x pos')) pos.line X.env = pure false := by rfl)
    (hf : X.fn x = true ∨ X.env.scope.names.lookup x = some .local := by first | exact .inl rfl | exact .inr rfl) : PRS X (.Assign [.Name x pos'] e pos) (tAsg te (gName n)) := fun pins s σ H D I h =>
  wpAny_Assign_Name (wpAny_mono (a pins s σ H _ I h) (fun u s1 z => by
    obtain ⟨k, y, H1, I1, ry, q⟩ := z
    exact stays k (store_ok I1 hN hi hx ry (fun s2 I2 => ⟨_, H1, I2, q⟩) hf)) fun _ _ z => z) hs
theorem pss_out {st : Stmt} {rest : List Stmt} {t u : TS} (a : PRS X st t) (r : PSsT X rest u) : PSs X (st :: rest) (tSeq t u) := ⟨fun pins s σ H D I h => by
  refine wpAny_execs_cons (wpAny_mono (a pins s σ H { D with nx := u D } I h) (fun f s1 z => ?_) fun _ _ z => z)
  obtain ⟨k, z⟩ := z
  cases f
  case next =>
    obtain ⟨σ1, H1, I1, q⟩ := z
    exact r pins s1 σ1 H1 D k I1 q
  all_goals exact z⟩
/-- o[i], o with a written number -/
theorem pr_ix {r : V → V → Hp → VK → Prop} (hr : IxR X r) (a : PR X o te) (b : PE X i ti) (hs : PlainIx i) : PR X (.Subscript o i pos) (tOp r te ti) := fun pins s σ H Q I h =>
  Subscript_ (wpAny_mono (a pins s σ H _ I h) (fun v s1 z => by
    obtain ⟨k, x, H1, I1, rx, q⟩ := z
    refine wpAny_mono (stays k (b.run pins s1 σ H1 _ I1 q)) (fun u s2 z2 => ?_) fun _ _ z2 => z2
    obtain ⟨k2, y, H2, I2, ry, q2⟩ := z2
    exact stays k2 (hr o i pins s2 σ H2 x y v u Q I2 rx ry q2 (hs _ _))) fun _ _ z => z)
/-- [e, ..] -/
theorem pr_lst (a : PRs X es ta) : PR X (.List es pos) (tLst ta) := fun pins s σ H Q I h =>
  wpAny_List_spliced (wpAny_mono (a pos pins s σ H _ I h) (fun us s1 z => by
    obtain ⟨k, vs, H1, I1, rs, small, q⟩ := z
    have len : us.length ≤ sizeLine := rs.length ▸ small
    have new := I1.hok.fresh (Nat.le_refl s1.heap.objs.size)
    have J := I1.laid (t' := s1.toks) (o := .lst vs) (h' := s1.heap.push { cls := .type "list", data := .seq us.toArray 0 }) (fun _ _ z => Heap.get?_push_of_some _ z) (Nat.le_refl _) ⟨small, us, 0, rs, Heap.get?_push_size _ rfl⟩
    exact ⟨len, k, .ref s1.heap.objs.size, upd H1 s1.heap.objs.size (.lst vs), J, rfl, q _ new⟩) fun _ _ z => z)
end
/-! ### a, b = x, y, one token out -/
theorem two_of {v w : V} {us : List Value} (r : Vals [v, w] us) : ∃ u1 u2, us = [u1, u2] ∧ RelV v u1 ∧ RelV w u2 := by
  match us, r with
  | [u1, u2], .cons p (.cons q .nil) => exact ⟨u1, u2, rfl, p, q⟩
theorem pst_par {X : Cx} {n m : Nat} {x y : Str} {e1 e2 : Expr} {ta : TA} {p1 p2 p3 p4 pos : Pos} {c1 c2} (calm : X.calm = true) (nd : X.N.Nodup) (hn : X.N[n]? = some x) (hm : X.N[m]? = some y) (ne : n ≠ m)
    (lx : X.env.scope.names.lookup x = some .local) (ly : X.env.scope.names.lookup y = some .local) (a : PAT X [e1, e2] ta)
    (sw : swappedStores [.Tuple [.Name x p1, .Name y p2] c1 p3] (.Tuple [e1, e2] c2 p4) X.env = pure (some [x, y])) (so : swapsWithSole [.Tuple [.Name x p1, .Name y p2] c1 p3] (.Tuple [e1, e2] c2 p4) pos.line X.env = pure false := by rfl) :
    PST X (.Assign [.Tuple [.Name x p1, .Name y p2] c1 p3] (.Tuple [e1, e2] c2 p4) pos) (tPar n m ta) := fun pins s σ H D k I h => by
  -- what is stored, once both values stand
  have stores : ∀ (u1 u2 : Value) (s1 : Shared) (v w : V) (H1 : Hp), Inv X pins σ H1 s1 → RelV v u1 → RelV w u2 → D.nx ((σ.set n (some v)).set m (some w)) H1 →
      wpAny (model X.prog X.w) X.A (assignInOrder [fun z => bindName X.env y z, fun z => bindName X.env x z] [u2, u1] >>= fun _ => pure Flow.next) (SP X pins D) X.xe s1 := fun u1 u2 s1 v w H1 I1 r1 r2 q =>
    wpAny_bind (assignInOrder_cons (wpAny_bindName (store_ok I1 nd hm (.inl ly) r2 (fun s2 I2 => assignInOrder_cons (wpAny_bindName (store_ok I2 nd hn (.inl lx) r1 (fun s3 I3 => assignInOrder_nil (wpAny_pure
      ⟨_, H1, by rw [List.set_comm _ _ ne]; exact I3, q⟩)) (.inr lx)))) (.inr ly))))
  -- the pair is made and taken apart
  have made : ∀ (u1 u2 : Value) (s1 : Shared) (v w : V) (H1 : Hp), Inv X pins σ H1 s1 → RelV v u1 → RelV w u2 → D.nx ((σ.set n (some v)).set m (some w)) H1 →
      wpAny (model X.prog X.w) X.A (do rule "assign.swapped-stores"; let its ← unpackItems (.ref s1.heap.objs.size) 2 none; assignInOrder [fun z => bindName X.env y z, fun z => bindName X.env x z] its.reverse; pure Flow.next) (SP X pins D) X.xe
        { s1 with heap := s1.heap.push { cls := .type "tuple", data := .seq [u1, u2].toArray } } := fun u1 u2 s1 v w H1 I1 r1 r2 q => by
    have I2 := I1.kept (h' := s1.heap.push { cls := .type "tuple", data := .seq [u1, u2].toArray }) (t' := s1.toks) fun _ _ z => Heap.get?_push_of_some _ z
    refine wpAny_bind (wpAny_rule (wpAny_bind (unpackItems_tuple (items := #[u1, u2]) (I1.ok.hd calm) (IsTup.new s1.heap _) fun h2 same => ?_)))
    exact stores u1 u2 _ v w H1 (I2.kept (h' := h2) (t' := s1.toks) fun b o z => same b o (Nat.ne_of_lt (Heap.lt_size z)) z) r1 r2 q
  rw [exec_Assign_arm]
  refine wpAny_bind (wpAny_standAt ?_)
  rw [so]
  refine wpAny_bind (wpAny_pure ?_)
  simp only [Bool.false_eq_true, if_false]
  refine wpAny_bind (Tuple_ (wpAny_mono (a _ pins s σ H _ k I h) (fun us s1 z => ?_) fun _ _ z => z))
  obtain ⟨vs, H1, I1, rs, v, w, ev, q⟩ := z
  subst ev
  obtain ⟨u1, u2, eu, r1, r2⟩ := two_of rs
  subst eu
  refine wpAny_newObj_type ?_ (show [u1, u2].length ≤ sizeLine by show 2 ≤ sizeLine; decide)
  rw [sw]
  exact wpAny_bind (wpAny_pure (made u1 u2 s1 v w H1 I1 r1 r2 q))
theorem uni {k : Nat} {A : Around} (hr : Room k A) : A.units + 1 < cLine := by have := hr.un; omega
/-! ### texts of signs -/
def sgc : Bool → Nat
  | true => 49
  | false => 48
def sw (bs : List Bool) : Str := ⟨(bs.map sgc).toArray⟩
abbrev sl (b : Bool) : Str := ⟨#[sgc b]⟩
theorem sl1 : Str.ofString "1" = sl true := by decide +kernel
theorem sl0 : Str.ofString "0" = sl false := by decide +kernel
theorem sl_inj {a b : Bool} (h : sl a = sl b) : a = b := by
  cases a <;> cases b <;> first | rfl | exact absurd h (by decide +kernel)
theorem sw_len (bs : List Bool) : (sw bs).length = bs.length := by
  show (bs.map sgc).toArray.size = _
  rw [List.size_toArray, List.length_map]
theorem sw_get {bs : List Bool} {i c : Nat} (h : (sw bs).cps[i]? = some c) : ∃ b, bs[i]? = some b ∧ c = sgc b := by
  have h2 : (bs.map sgc)[i]? = some c := by
    rw [← List.getElem?_toArray]
    exact h
  rw [List.getElem?_map] at h2
  obtain ⟨b, e1, e2⟩ := Option.map_eq_some_iff.mp h2
  exact ⟨b, e1, e2.symm⟩
theorem sw_app (a b : List Bool) : sw a ++ sw b = sw (a ++ b) := by
  show (⟨(a.map sgc).toArray ++ (b.map sgc).toArray⟩ : Str) = ⟨((a ++ b).map sgc).toArray⟩
  rw [List.map_append, List.append_toArray]
theorem sw_nil : Str.ofString "" = sw [] := by decide +kernel
theorem sw_one (b : Bool) : sl b = sw [b] := by cases b <;> rfl
/-- the text behind replace of S, then of T -/
theorem repl1 (c d : Nat) : ∀ l : List Nat, StrLaws.replL [c] [d] l = l.map fun x => if x = c then d else x
  | [] => StrLaws.replL_nil
  | x :: l => by
    by_cases e : x = c
    · subst e
      rw [StrLaws.replL_hit (by simp) (by rfl), List.map_cons, if_pos rfl]
      exact congrArg (d :: ·) (repl1 x d l)
    · rw [StrLaws.replL_miss (y := [c]) (fun h => e (by have h2 : [x] = [c] := h; exact List.head_eq_of_cons_eq h2)), List.map_cons, if_neg e, repl1 c d l]
theorem repl_bits (bs : List Bool) : Txt.replace (Txt.replace (wd bs) (Str.ofString "S") (Str.ofString "0")) (Str.ofString "T") (Str.ofString "1") = sw bs := by
  have eS : Str.ofString "S" = ⟨#[83]⟩ := by decide +kernel
  have eT : Str.ofString "T" = ⟨#[84]⟩ := by decide +kernel
  have e0 : Str.ofString "0" = ⟨#[48]⟩ := by decide +kernel
  have e1 : Str.ofString "1" = ⟨#[49]⟩ := by decide +kernel
  have ext : ∀ {a b : Str}, a.cps.toList = b.cps.toList → a = b := fun {a b} h => by
    cases a; cases b
    exact congrArg Str.mk (Array.ext' h)
  apply ext
  rw [eS, eT, e0, e1, StrLaws.replace_list (by show 1 ≤ 1; decide), StrLaws.replace_list (by show 1 ≤ 1; decide)]
  show StrLaws.replL [84] [49] (StrLaws.replL [83] [48] (bs.map code).toArray.toList) = (bs.map sgc).toArray.toList
  rw [repl1, repl1, List.map_map, List.toList_toArray, List.toList_toArray, List.map_map]
  apply List.map_congr_left
  intro b _
  cases b <;> rfl
theorem repl_len (bs : List Bool) : (Txt.replace (wd bs) (Str.ofString "S") (Str.ofString "0")).length = bs.length := by
  have eS : Str.ofString "S" = ⟨#[83]⟩ := by decide +kernel
  have e0 : Str.ofString "0" = ⟨#[48]⟩ := by decide +kernel
  rw [eS, e0]
  show (Txt.replace (wd bs) ⟨#[83]⟩ ⟨#[48]⟩).cps.size = _
  rw [← Array.length_toList, StrLaws.replace_list (by show 1 ≤ 1; decide)]
  show (StrLaws.replL [83] [48] (bs.map code).toArray.toList).length = _
  rw [repl1, List.length_map, List.toList_toArray, List.length_map]
theorem count_sw (bs : List Bool) (b : Bool) : Txt.count (sw bs) (sl b) = (bs.count b : Nat) := by
  rw [show (sl b) = ⟨#[sgc b]⟩ from rfl, PyProof.Rows.count_cnt]
  show PyProof.Rows.cnt (sgc b) (bs.map sgc).toArray.toList = _
  rw [List.toList_toArray]
  induction bs with
  | nil => rfl
  | cons a l ih =>
    rw [List.map_cons, PyProof.Rows.cnt_cons, ih, List.count_cons]
    cases a <;> cases b <;> simp [sgc] <;> omega
/-! ### the signs of a row -/
def sgn (h : Int) (ns : List Int) : List Bool := ns.map fun x => decide (h ≤ x)
theorem fold_sl : ∀ (l : List Bool) (acc : Array Nat), (l.map sl).foldl (fun acc p => acc ++ (Str.ofString "").cps ++ p.cps) acc = acc ++ (l.map sgc).toArray
  | [], acc => by simp
  | b :: l, acc => by
    rw [List.map_cons, List.foldl_cons, fold_sl l, show (Str.ofString "").cps = #[] by decide +kernel]
    apply Array.ext'
    simp
theorem join_sl : ∀ l : List Bool, Txt.join (Str.ofString "") (l.map sl) = sw l
  | [] => by decide +kernel
  | b :: l => by
    show (⟨(l.map sl).foldl (fun acc p => acc ++ (Str.ofString "").cps ++ p.cps) (sl b).cps⟩ : Str) = sw (b :: l)
    rw [fold_sl]
    show (⟨#[sgc b] ++ (l.map sgc).toArray⟩ : Str) = ⟨((b :: l).map sgc).toArray⟩
    congr 1
    apply Array.ext'
    simp
theorem signS_sw (ns : List Int) (h : Int) : signS ns h = sw (sgn h ns) := by
  unfold signS sgL sgn
  rw [← join_sl, List.map_map]
  congr 1
  apply List.map_congr_left
  intro x _
  show sg (decide (h ≤ x)) = sl (decide (h ≤ x))
  cases decide (h ≤ x) <;> decide +kernel
theorem seat_sgn (b : Bool) (h : Int) : ∀ (xs l s : List Int) (x : Int), sgn h ((xs.foldl (stepW b) (l, s, x)).1 ++ [(xs.foldl (stepW b) (l, s, x)).2.2]) = sgn h l ++ (sgn h (x :: xs) ++ [b]).erase b
  | [], l, s, x => by
    show sgn h (l ++ [x]) = sgn h l ++ (decide (h ≤ x) :: [b]).erase b
    unfold sgn
    rw [List.map_append]
    congr 1
    by_cases hx : h ≤ x <;> cases b <;> simp [hx]
  | p :: xs, l, s, x => by
    rw [List.foldl_cons, show stepW b (l, s, x) p = (if takes b p x = true then (l ++ [x], s ++ [x], p) else (l ++ [p], s, x)) from rfl]
    have key : ∀ (a c : Int), sgn h (l ++ [a]) ++ (sgn h (c :: xs) ++ [b]).erase b = sgn h l ++ (decide (h ≤ a) :: (decide (h ≤ c) :: (sgn h xs ++ [b])).erase b) := fun a c => by
      unfold sgn
      rw [List.map_append, List.append_assoc]
      rfl
    split
    · rename_i ht
      rw [seat_sgn b h xs, key]
      congr 1
      show _ = (decide (h ≤ x) :: decide (h ≤ p) :: (sgn h xs ++ [b])).erase b
      generalize sgn h xs ++ [b] = R
      unfold takes at ht
      cases b
      · have : p < x := by simpa using ht
        by_cases h1 : h ≤ x <;> by_cases h2 : h ≤ p <;> simp [h1, h2] <;> omega
      · have : x < p := by simpa using ht
        by_cases h1 : h ≤ x <;> by_cases h2 : h ≤ p <;> simp [h1, h2] <;> omega
    · rename_i ht
      rw [seat_sgn b h xs, key]
      congr 1
      show _ = (decide (h ≤ x) :: decide (h ≤ p) :: (sgn h xs ++ [b])).erase b
      generalize sgn h xs ++ [b] = R
      unfold takes at ht
      cases b
      · have : x ≤ p := by simpa using ht
        by_cases h1 : h ≤ x <;> by_cases h2 : h ≤ p <;> simp [h1, h2] <;> omega
      · have : p ≤ x := by simpa using ht
        by_cases h1 : h ≤ x <;> by_cases h2 : h ≤ p <;> simp [h1, h2] <;> omega
theorem pass_sgn (b : Bool) (h : Int) {ns : List Int} (hn : ns ≠ []) : sgn h (passL b ns) = (sgn h ns ++ [b]).erase b := by
  cases ns with
  | nil => exact absurd rfl hn
  | cons x xs => exact (seat_sgn b h xs [] [] x).trans (List.nil_append _)
/-- the first z zeros and the first o ones left out -/
def dropN : Nat → Nat → List Bool → List Bool
  | _, _, [] => []
  | 0, o, false :: r => false :: dropN 0 o r
  | z + 1, o, false :: r => dropN z o r
  | z, 0, true :: r => true :: dropN z 0 r
  | z, o + 1, true :: r => dropN z o r
theorem dropN_f : ∀ (z o : Nat) (l : List Bool), dropN (z + 1) o l = dropN z o (l.erase false)
  | z, o, [] => by simp [dropN]
  | z, o, false :: r => by simp [dropN]
  | z, 0, true :: r => by
    rw [show (true :: r).erase false = true :: r.erase false by simp]
    rw [dropN, dropN, dropN_f z 0 r]
  | z, o + 1, true :: r => by
    rw [show (true :: r).erase false = true :: r.erase false by simp]
    rw [dropN, dropN, dropN_f z o r]
theorem dropN_t : ∀ (z o : Nat) (l : List Bool), dropN z (o + 1) l = dropN z o (l.erase true)
  | z, o, [] => by simp [dropN]
  | z, o, true :: r => by
    rw [show (true :: r).erase true = r by simp, dropN]
  | 0, o, false :: r => by
    rw [show (false :: r).erase true = false :: r.erase true by simp]
    rw [dropN, dropN, dropN_t 0 o r]
  | z + 1, o, false :: r => by
    rw [show (false :: r).erase true = false :: r.erase true by simp]
    rw [dropN, dropN, dropN_t z o r]
theorem dropN_0 : ∀ l : List Bool, dropN 0 0 l = l
  | [] => rfl
  | false :: r => by rw [dropN, dropN_0 r]
  | true :: r => by rw [dropN, dropN_0 r]
theorem after_sgn (h : Int) : ∀ (bs : List Bool) (ns : List Int), ns ≠ [] → sgn h (afterL bs ns) = dropN (bs.count false) (bs.count true) (sgn h ns ++ bs)
  | [], ns, _ => by
    rw [List.append_nil]
    exact (dropN_0 _).symm
  | b :: bs, ns, hn => by
    have hn2 : passL b ns ≠ [] := fun z => hn (by
      have := (passL_perm b ns).length_eq
      rw [z] at this
      exact List.length_eq_zero_iff.mp this.symm)
    rw [show afterL (b :: bs) ns = afterL bs (passL b ns) from rfl, after_sgn h bs _ hn2, pass_sgn b h hn]
    have ea : (sgn h ns ++ [b]).erase b ++ bs = (sgn h ns ++ b :: bs).erase b := by
      rw [← List.erase_append_left _ (by simp), List.append_assoc]
      rfl
    rw [ea]
    cases b
    · rw [← dropN_f]
      congr 1 <;> simp
    · rw [← dropN_t]
      congr 1 <;> simp
/-- the loop's state after i signs: how many of each are still to be left out, and what was kept -/
def stepN (st : Nat × Nat × List Bool) : Bool → Nat × Nat × List Bool
  | false => if 0 < st.1 then (st.1 - 1, st.2.1, st.2.2) else (st.1, st.2.1, st.2.2 ++ [false])
  | true => if 0 < st.2.1 then (st.1, st.2.1 - 1, st.2.2) else (st.1, st.2.1, st.2.2 ++ [true])
theorem fold_dropN : ∀ (l : List Bool) (z o : Nat) (acc : List Bool), (l.foldl stepN (z, o, acc)).2.2 = acc ++ dropN z o l
  | [], z, o, acc => (List.append_nil _).symm
  | false :: r, 0, o, acc => by
    rw [List.foldl_cons, show stepN (0, o, acc) false = (0, o, acc ++ [false]) from rfl, fold_dropN r, dropN, List.append_assoc]
    rfl
  | false :: r, z + 1, o, acc => by
    rw [List.foldl_cons, show stepN (z + 1, o, acc) false = (z, o, acc) from rfl, fold_dropN r, dropN]
  | true :: r, z, 0, acc => by
    rw [List.foldl_cons, show stepN (z, 0, acc) true = (z, 0, acc ++ [true]) from rfl, fold_dropN r, dropN, List.append_assoc]
    rfl
  | true :: r, z, o + 1, acc => by
    rw [List.foldl_cons, show stepN (z, o + 1, acc) true = (z, o, acc) from rfl, fold_dropN r, dropN]
theorem fold_len : ∀ (l : List Bool) (st : Nat × Nat × List Bool), (l.foldl stepN st).2.2.length ≤ st.2.2.length + l.length
  | [], _ => Nat.le_refl _
  | b :: r, st => by
    rw [List.foldl_cons]
    have := fold_len r (stepN st b)
    have h1 : (stepN st b).2.2.length ≤ st.2.2.length + 1 := by
      cases b
      · show (if 0 < st.1 then (st.1 - 1, st.2.1, st.2.2) else (st.1, st.2.1, st.2.2 ++ [false])).2.2.length ≤ _
        split <;> simp
      · show (if 0 < st.2.1 then (st.1, st.2.1 - 1, st.2.2) else (st.1, st.2.1, st.2.2 ++ [true])).2.2.length ≤ _
        split <;> simp
    rw [List.length_cons]
    omega
/-- the table of two counts -/
def dk (z o : Int) : List (Key × V) := [(.inr (sl false), .int z), (.inr (sl true), .int o)]
theorem mk2 (z o : Int) : mergeK [] [(.inr (Str.ofString "0"), .int z), (.inr (Str.ofString "1"), .int o)] = dk z o := by
  rw [sl0, sl1]
  rfl
theorem dk_get (z o : Int) (b : Bool) : valV (dk z o) (.inr (sl b)) = some (.int (if b then o else z)) := by
  cases b <;> rfl
theorem dk_put0 (z o v : Int) : putK (dk z o) (.inr (sl false)) (.int v) = dk v o := rfl
theorem dk_put1 (z o v : Int) : putK (dk z o) (.inr (sl true)) (.int v) = dk z v := rfl
theorem one0 : (Str.ofString "0").length = 1 := by decide +kernel
theorem one1 : (Str.ofString "1").length = 1 := by decide +kernel
end Lp
/-! ### the mathematics of words: the row is forgotten, the last letters tell (no program is spoken of) -/
namespace Lp
open PySem PySem.Spec PyProof.Rows L2
theorem dropN_app : ∀ (l m : List Bool) (a b : Nat), dropN a b (l ++ m) = dropN a b l ++ dropN (a - l.count false) (b - l.count true) m
  | [], m, a, b => by simp [dropN]
  | false :: l, m, 0, b => by
    rw [List.cons_append, dropN, dropN, dropN_app l m 0 b]
    simp
  | false :: l, m, a + 1, b => by
    rw [List.cons_append, dropN, dropN, dropN_app l m a b]
    simp
  | true :: l, m, a, 0 => by
    rw [List.cons_append, dropN, dropN, dropN_app l m a 0]
    simp
  | true :: l, m, a, b + 1 => by
    rw [List.cons_append, dropN, dropN, dropN_app l m a b]
    simp
theorem dropN_zeros : ∀ (l : List Bool) (a b : Nat), l.count false ≤ a → dropN a b l = List.replicate (l.count true - b) true
  | [], a, b, _ => by simp [dropN]
  | false :: l, 0, b, h => by simp at h
  | false :: l, a + 1, b, h => by
    rw [dropN, dropN_zeros l a b (by simpa using h)]
    simp
  | true :: l, a, 0, h => by
    rw [dropN, dropN_zeros l a 0 (by simpa using h)]
    simp [List.replicate_succ]
  | true :: l, a, b + 1, h => by
    rw [dropN, dropN_zeros l a b (by simpa using h)]
    simp
theorem dropN_ones : ∀ (l : List Bool) (a b : Nat), l.count true ≤ b → dropN a b l = List.replicate (l.count false - a) false
  | [], a, b, _ => by simp [dropN]
  | true :: l, a, 0, h => by simp at h
  | true :: l, a, b + 1, h => by
    rw [dropN, dropN_ones l a b (by simpa using h)]
    simp
  | false :: l, 0, b, h => by
    rw [dropN, dropN_ones l 0 b (by simpa using h)]
    simp [List.replicate_succ]
  | false :: l, a + 1, b, h => by
    rw [dropN, dropN_ones l a b (by simpa using h)]
    simp
/-- as many letters as people less one: the signs ahead of them are forgotten -/
theorem forget {l m : List Bool} {a b : Nat} (e0 : l.count false = m.count false) (e1 : l.count true = m.count true) (h : l.count false + l.count true ≤ a + b + 1) : dropN a b l = dropN a b m := by
  by_cases h0 : l.count false ≤ a
  · rw [dropN_zeros l a b h0, dropN_zeros m a b (by omega), e1]
  · have h1 : l.count true ≤ b := by omega
    rw [dropN_ones l a b h1, dropN_ones m a b (by omega), e0]
theorem count_two (l : List Bool) : l.count false + l.count true = l.length := by
  induction l with
  | nil => rfl
  | cons b l ih => cases b <;> simp <;> omega
theorem sgn_len (h : Int) (ns : List Int) : (sgn h ns).length = ns.length := List.length_map ..
theorem sgn_perm {h : Int} {ms ns : List Int} (p : ms.Perm ns) : (sgn h ms).Perm (sgn h ns) := p.map _
theorem sgn_inj : ∀ {xs ys : List Int}, xs.length = ys.length → (∀ h, sgn h xs = sgn h ys) → xs = ys
  | [], [], _, _ => rfl
  | x :: xs, y :: ys, hl, hs => by
    have hd : ∀ h, decide (h ≤ x) = decide (h ≤ y) ∧ sgn h xs = sgn h ys := fun h => by
      have := hs h
      simp only [sgn, List.map_cons, List.cons.injEq] at this
      exact this
    have e1 := (hd x).1
    have e2 := (hd y).1
    have hxy : x = y := by
      simp at e1 e2
      omega
    rw [hxy, sgn_inj (Nat.succ.inj hl) fun h => (hd h).2]
theorem afterL_len (bs : List Bool) (ns : List Int) : (afterL bs ns).length = ns.length := (afterL_perm bs ns).length_eq
theorem afterL_nil : ∀ bs : List Bool, afterL bs [] = []
  | [] => rfl
  | b :: bs => afterL_nil bs
/-- behind n - 1 passes the order ahead of them is forgotten -/
theorem after_forget {bs : List Bool} {ms ns : List Int} (p : ms.Perm ns) (h : ns.length ≤ bs.length + 1) : afterL bs ms = afterL bs ns := by
  by_cases hn : ns = []
  · subst hn
    rw [List.perm_nil.mp p]
  have hm : ms ≠ [] := fun z => hn (List.perm_nil.mp (z ▸ p.symm))
  refine sgn_inj (by rw [afterL_len, afterL_len, p.length_eq]) fun t => ?_
  rw [after_sgn t bs ms hm, after_sgn t bs ns hn, dropN_app, dropN_app]
  have c0 : (sgn t ms).count false = (sgn t ns).count false := (sgn_perm p).count_eq false
  have c1 : (sgn t ms).count true = (sgn t ns).count true := (sgn_perm p).count_eq true
  rw [c0, c1]
  congr 1
  refine forget c0 c1 ?_
  have l1 := count_two (sgn t ms)
  rw [sgn_len, p.length_eq] at l1
  have l2 := count_two bs
  omega
/-- the last n - 1 letters tell -/
theorem after_last {a b : List Bool} {ns : List Int} (h : ns.length ≤ b.length + 1) : afterL (a ++ b) ns = afterL b ns := by
  rw [afterL_app]
  exact after_forget (afterL_perm a ns) h
theorem after_drop {bs : List Bool} {ns : List Int} : afterL (bs.drop (bs.length + 1 - ns.length)) ns = afterL bs ns := by
  by_cases h : bs.length + 1 ≤ ns.length
  · rw [show bs.length + 1 - ns.length = 0 by omega, List.drop_zero]
  · by_cases hn : ns = []
    · subst hn
      rw [afterL_nil, afterL_nil]
    · have n1 : 0 < ns.length := List.length_pos_iff.mpr hn
      conv => rhs; rw [← List.take_append_drop (bs.length + 1 - ns.length) bs]
      rw [after_last]
      rw [List.length_drop]
      omega
theorem dropN_0x (o : Nat) : ∀ z c0 c1 : Nat, dropN c0 c1 (List.replicate z false ++ List.replicate o true) = List.replicate (z - c0) false ++ List.replicate (o - c1) true := fun z c0 c1 => by
  rw [dropN_app]
  have k0 : (List.replicate z false).count true = 0 := by simp [List.count_replicate]
  have k1 : (List.replicate o true).count false = 0 := by simp [List.count_replicate]
  rw [dropN_ones _ c0 c1 (by omega), dropN_zeros _ _ _ (by omega)]
  simp [List.count_replicate]
theorem dropN_1x (o : Nat) : ∀ z c0 c1 : Nat, dropN c0 c1 (List.replicate o true ++ List.replicate z false) = List.replicate (o - c1) true ++ List.replicate (z - c0) false := fun z c0 c1 => by
  rw [dropN_app]
  have k0 : (List.replicate o true).count false = 0 := by simp [List.count_replicate]
  have k1 : (List.replicate z false).count true = 0 := by simp [List.count_replicate]
  rw [dropN_zeros _ c0 c1 (by omega), dropN_ones _ _ _ (by omega)]
  simp [List.count_replicate]
theorem sgn_all {t : Int} : ∀ {l : List Int} (b : Bool), (∀ x ∈ l, decide (t ≤ x) = b) → sgn t l = List.replicate l.length b
  | [], b, _ => rfl
  | x :: l, b, h => by
    show decide (t ≤ x) :: sgn t l = _
    rw [h x (List.mem_cons_self ..), sgn_all b fun y hy => h y (List.mem_cons_of_mem _ hy)]
    rfl
/-- fewer letters: the ascending row and the descending one stay apart -/
theorem after_apart {bs : List Bool} {ns : List Int} (hs : ns.Pairwise (· < ·)) (h : bs.length + 2 ≤ ns.length) : afterL bs ns ≠ afterL bs ns.reverse := by
  intro e
  have cb := count_two bs
  have hz : bs.count false + 1 < ns.length := by omega
  generalize hzz : bs.count false + 1 = z at hz
  have hn : ns ≠ [] := fun q => by
    rw [q] at hz
    exact absurd hz (Nat.not_lt_zero _)
  have hr : ns.reverse ≠ [] := fun q => hn (List.reverse_eq_nil_iff.mp q)
  have e2 := congrArg (sgn ns[z]) e
  rw [after_sgn _ bs ns hn, after_sgn _ bs ns.reverse hr] at e2
  have s1 : sgn ns[z] ns = List.replicate z false ++ List.replicate (ns.length - z) true := by
    have hsp : ns = ns.take z ++ ns.drop z := (List.take_append_drop z ns).symm
    have g := List.pairwise_iff_getElem.mp hs
    have f1 : sgn ns[z] (ns.take z) = List.replicate z false := by
      have := sgn_all (t := ns[z]) (l := ns.take z) false fun x hx => by
        obtain ⟨i, hi, ex⟩ := List.mem_iff_getElem.mp hx
        rw [List.length_take] at hi
        rw [← ex, List.getElem_take]
        have := g i z (by omega) hz (by omega)
        exact decide_eq_false (by omega)
      rw [this, List.length_take, Nat.min_eq_left (by omega)]
    have f2 : sgn ns[z] (ns.drop z) = List.replicate (ns.length - z) true := by
      have := sgn_all (t := ns[z]) (l := ns.drop z) true fun x hx => by
        obtain ⟨i, hi, ex⟩ := List.mem_iff_getElem.mp hx
        rw [List.length_drop] at hi
        rw [← ex, List.getElem_drop]
        by_cases h0 : i = 0
        · subst h0
          simp
        · have := g z (z + i) hz (by omega) (by omega)
          exact decide_eq_true (by omega)
      rw [this, List.length_drop]
    have f3 : sgn ns[z] (ns.take z ++ ns.drop z) = sgn ns[z] (ns.take z) ++ sgn ns[z] (ns.drop z) := List.map_append ..
    rw [List.take_append_drop] at f3
    rw [f3, f1, f2]
  have s2 : sgn ns[z] ns.reverse = List.replicate (ns.length - z) true ++ List.replicate z false := by
    have : sgn ns[z] ns.reverse = (sgn ns[z] ns).reverse := List.map_reverse ..
    rw [this, s1, List.reverse_append, List.reverse_replicate, List.reverse_replicate]
  rw [dropN_app, dropN_app, s1, s2, dropN_0x, dropN_1x] at e2
  have z1 : z - bs.count false = 1 := by omega
  obtain ⟨k, hk⟩ : ∃ k, ns.length - z - bs.count true = k + 1 := ⟨ns.length - z - bs.count true - 1, by omega⟩
  rw [z1, hk, List.replicate_succ] at e2
  simp [List.replicate_succ] at e2
/-! ### the last pass, read backwards -/
theorem ends_max {w : List Bool} {ns : List Int} {M : Int} (hM : M ∈ ns) (top : ∀ x ∈ ns, x ≤ M) (h : ns.length ≤ w.length + 2) : afterL (w ++ [true]) ns = afterL w (ns.erase M) ++ [M] := by
  have hn : ns ≠ [] := List.ne_nil_of_mem hM
  have pe : (M :: ns.erase M).Perm ns := (List.perm_cons_erase hM).symm
  have le := pe.length_eq
  rw [List.length_cons] at le
  refine sgn_inj (by rw [afterL_len, List.length_append, afterL_len, ← le]; rfl) fun t => ?_
  rw [after_sgn t _ ns hn]
  have app : sgn t (afterL w (ns.erase M) ++ [M]) = sgn t (afterL w (ns.erase M)) ++ [decide (t ≤ M)] := List.map_append ..
  have rest : sgn t (afterL w (ns.erase M)) = dropN (w.count false) (w.count true) (sgn t (ns.erase M) ++ w) := by
    by_cases hr : ns.erase M = []
    · rw [hr, afterL_nil]
      have : dropN (w.count false) (w.count true) w = [] := by rw [dropN_zeros _ _ _ (Nat.le_refl _), Nat.sub_self]; rfl
      exact this.symm
    · exact after_sgn t w _ hr
  rw [app, rest]
  have k0 : (w ++ [true]).count false = w.count false := by simp
  have k1 : (w ++ [true]).count true = w.count true + 1 := by simp
  rw [k0, k1]
  have c0 : (sgn t ns).count false = ((decide (t ≤ M)) :: sgn t (ns.erase M)).count false := ((sgn_perm pe).count_eq false).symm
  have c1 : (sgn t ns).count true = ((decide (t ≤ M)) :: sgn t (ns.erase M)).count true := ((sgn_perm pe).count_eq true).symm
  have cl := count_two (sgn t (ns.erase M))
  rw [sgn_len] at cl
  have cw := count_two w
  by_cases hd : t ≤ M
  · rw [decide_eq_true hd] at c0 c1 ⊢
    have d0 : (sgn t ns).count false = (sgn t (ns.erase M)).count false := by rw [c0]; simp
    have d1 : (sgn t ns).count true = (sgn t (ns.erase M)).count true + 1 := by rw [c1]; simp
    have mem : true ∈ sgn t ns := List.count_pos_iff.mp (by omega)
    rw [dropN_t, List.erase_append_left _ mem, dropN_app, dropN_app (sgn t (ns.erase M)) w]
    have f0 : ((sgn t ns).erase true).count false = (sgn t (ns.erase M)).count false := by rw [List.count_erase_of_ne (by decide), d0]
    have f1 : ((sgn t ns).erase true).count true = (sgn t (ns.erase M)).count true := by rw [List.count_erase_self, d1]; omega
    rw [f0, f1, forget f0 f1 (by omega), dropN_app w [true]]
    have z0 : w.count false - (sgn t (ns.erase M)).count false - w.count false = 0 := by omega
    have z1 : w.count true - (sgn t (ns.erase M)).count true - w.count true = 0 := by omega
    rw [z0, z1, ← List.append_assoc]
    rfl
  · rw [decide_eq_false hd] at c0 c1 ⊢
    have d0 : (sgn t ns).count false = (sgn t (ns.erase M)).count false + 1 := by rw [c0]; simp
    have d1 : (sgn t ns).count true = 0 := by
      rw [List.count_eq_zero]
      intro z
      obtain ⟨x, hx, ex⟩ := List.mem_map.mp z
      have := top x hx
      have : t ≤ x := of_decide_eq_true ex
      omega
    have d2 : (sgn t (ns.erase M)).count true = 0 := by
      have : (sgn t ns).count true = (sgn t (ns.erase M)).count true := by rw [c1]; simp
      omega
    rw [dropN_ones _ _ _ (by simp [d1]), dropN_ones _ _ _ (by simp [d2])]
    have e1 : (sgn t ns ++ (w ++ [true])).count false - w.count false = (sgn t (ns.erase M)).count false + 1 := by simp [d0]
    have e2 : (sgn t (ns.erase M) ++ w).count false - w.count false = (sgn t (ns.erase M)).count false := by simp
    rw [e1, e2, List.replicate_succ']
theorem ends_min {w : List Bool} {ns : List Int} {m : Int} (hm : m ∈ ns) (low : ∀ x ∈ ns, m ≤ x) (h : ns.length ≤ w.length + 2) : afterL (w ++ [false]) ns = afterL w (ns.erase m) ++ [m] := by
  have hn : ns ≠ [] := List.ne_nil_of_mem hm
  have pe : (m :: ns.erase m).Perm ns := (List.perm_cons_erase hm).symm
  have le := pe.length_eq
  rw [List.length_cons] at le
  refine sgn_inj (by rw [afterL_len, List.length_append, afterL_len, ← le]; rfl) fun t => ?_
  rw [after_sgn t _ ns hn]
  have app : sgn t (afterL w (ns.erase m) ++ [m]) = sgn t (afterL w (ns.erase m)) ++ [decide (t ≤ m)] := List.map_append ..
  have rest : sgn t (afterL w (ns.erase m)) = dropN (w.count false) (w.count true) (sgn t (ns.erase m) ++ w) := by
    by_cases hr : ns.erase m = []
    · rw [hr, afterL_nil]
      have : dropN (w.count false) (w.count true) w = [] := by rw [dropN_zeros _ _ _ (Nat.le_refl _), Nat.sub_self]; rfl
      exact this.symm
    · exact after_sgn t w _ hr
  rw [app, rest]
  have k0 : (w ++ [false]).count false = w.count false + 1 := by simp
  have k1 : (w ++ [false]).count true = w.count true := by simp
  rw [k0, k1]
  have c0 : (sgn t ns).count false = ((decide (t ≤ m)) :: sgn t (ns.erase m)).count false := ((sgn_perm pe).count_eq false).symm
  have c1 : (sgn t ns).count true = ((decide (t ≤ m)) :: sgn t (ns.erase m)).count true := ((sgn_perm pe).count_eq true).symm
  have cl := count_two (sgn t (ns.erase m))
  rw [sgn_len] at cl
  have cw := count_two w
  by_cases hd : t ≤ m
  · rw [decide_eq_true hd] at c0 c1 ⊢
    have d0 : (sgn t ns).count false = 0 := by
      rw [List.count_eq_zero]
      intro z
      obtain ⟨x, hx, ex⟩ := List.mem_map.mp z
      have := low x hx
      have : ¬ t ≤ x := of_decide_eq_false ex
      omega
    have d1 : (sgn t ns).count true = (sgn t (ns.erase m)).count true + 1 := by rw [c1]; simp
    have d2 : (sgn t (ns.erase m)).count false = 0 := by
      have : (sgn t ns).count false = (sgn t (ns.erase m)).count false := by rw [c0]; simp
      omega
    rw [dropN_zeros _ _ _ (by simp [d0]), dropN_zeros _ _ _ (by simp [d2])]
    have e1 : (sgn t ns ++ (w ++ [false])).count true - w.count true = (sgn t (ns.erase m)).count true + 1 := by simp [d1]
    have e2 : (sgn t (ns.erase m) ++ w).count true - w.count true = (sgn t (ns.erase m)).count true := by simp
    rw [e1, e2, List.replicate_succ']
  · rw [decide_eq_false hd] at c0 c1 ⊢
    have d0 : (sgn t ns).count false = (sgn t (ns.erase m)).count false + 1 := by rw [c0]; simp
    have d1 : (sgn t ns).count true = (sgn t (ns.erase m)).count true := by rw [c1]; simp
    have mem : false ∈ sgn t ns := List.count_pos_iff.mp (by omega)
    rw [dropN_f, List.erase_append_left _ mem, dropN_app, dropN_app (sgn t (ns.erase m)) w]
    have f0 : ((sgn t ns).erase false).count false = (sgn t (ns.erase m)).count false := by rw [List.count_erase_self, d0]; omega
    have f1 : ((sgn t ns).erase false).count true = (sgn t (ns.erase m)).count true := by rw [List.count_erase_of_ne (by decide), d1]
    rw [f0, f1, forget f0 f1 (by omega), dropN_app w [false]]
    have z0 : w.count false - (sgn t (ns.erase m)).count false - w.count false = 0 := by omega
    have z1 : w.count true - (sgn t (ns.erase m)).count true - w.count true = 0 := by omega
    rw [z0, z1, ← List.append_assoc]
    rfl
/-! ### how many of each kind, not their order, tells who stays in front -/
theorem dropN_len : ∀ (l : List Bool) (a b : Nat), (dropN a b l).length = (l.count false - a) + (l.count true - b)
  | [], a, b => by simp [dropN]
  | false :: l, 0, b => by rw [dropN, List.length_cons, dropN_len l 0 b]; simp; omega
  | false :: l, a + 1, b => by rw [dropN, dropN_len l a b]; simp
  | true :: l, a, 0 => by rw [dropN, List.length_cons, dropN_len l a 0]; simp; omega
  | true :: l, a, b + 1 => by rw [dropN, dropN_len l a b]; simp
theorem kept_any {v w : List Bool} {ns : List Int} (e0 : v.count false = w.count false) (e1 : v.count true = w.count true) : (afterL v ns).take (ns.length - v.length) = (afterL w ns).take (ns.length - v.length) := by
  by_cases hn : ns = []
  · subst hn
    rw [afterL_nil, afterL_nil]
  refine sgn_inj (by rw [List.length_take, List.length_take, afterL_len, afterL_len]) fun t => ?_
  have tk : ∀ (k : Nat) (l : List Int), sgn t (l.take k) = (sgn t l).take k := fun k l => List.map_take ..
  rw [tk, tk, after_sgn t v ns hn, after_sgn t w ns hn, dropN_app, dropN_app, e0, e1]
  have ln := dropN_len (sgn t ns) (w.count false) (w.count true)
  have c1 := count_two (sgn t ns)
  have c2 := count_two v
  rw [sgn_len] at c1
  have le : ns.length - v.length ≤ (dropN (w.count false) (w.count true) (sgn t ns)).length := by omega
  rw [List.take_append_of_le_length le, List.take_append_of_le_length le]
/-! ### final rows, read from the last letter on -/
/-- the word backwards, the heights ascending -/
def finR : List Bool → List Int → List Int
  | _, [] => []
  | _, [x] => [x]
  | [], hs => hs
  | true :: r, x :: y :: l => finR r ((x :: y :: l).dropLast) ++ [(x :: y :: l).getLast (by simp)]
  | false :: r, x :: y :: l => finR r (y :: l) ++ [x]
theorem after_one (w : List Bool) (x : Int) : afterL w [x] = [x] := List.perm_singleton.mp (afterL_perm w [x])
theorem after_fin : ∀ (r : List Bool) (hs ns : List Int), hs.Pairwise (· < ·) → ns.Perm hs → hs.length ≤ r.length + 1 → afterL r.reverse ns = finR r hs
  | r, [], ns, _, p, _ => by
    rw [List.perm_nil.mp p, afterL_nil]
    cases r with
    | nil => rfl
    | cons b r => cases b <;> rfl
  | r, [x], ns, _, p, _ => by
    rw [List.perm_singleton.mp p, after_one]
    cases r with
    | nil => rfl
    | cons b r => cases b <;> rfl
  | [], x :: y :: l, ns, _, _, h => by simp at h
  | true :: r, x :: y :: l, ns, hs, p, h => by
    rw [List.reverse_cons]
    have ne : x :: y :: l ≠ [] := by simp
    generalize hM : (x :: y :: l).getLast ne = M
    have sp : (x :: y :: l).dropLast ++ [M] = x :: y :: l := by rw [← hM]; exact List.dropLast_concat_getLast ne
    have pw : ((x :: y :: l).dropLast ++ [M]).Pairwise (· < ·) := by rw [sp]; exact hs
    rw [List.pairwise_append] at pw
    have memM : M ∈ ns := p.mem_iff.mpr (by rw [← sp]; simp)
    have top : ∀ z ∈ ns, z ≤ M := fun z hz => by
      have := p.mem_iff.mp hz
      rw [← sp] at this
      rcases List.mem_append.mp this with q | q
      · exact Int.le_of_lt (pw.2.2 z q M (by simp))
      · rw [List.mem_singleton.mp q]
        exact Int.le_refl _
    have hl : ns.length ≤ r.reverse.length + 2 := by rw [p.length_eq, List.length_reverse]; simpa using h
    have pe : (ns.erase M).Perm (x :: y :: l).dropLast := by
      have := p.erase M
      rw [← sp] at this
      refine this.trans ?_
      have nm : M ∉ (x :: y :: l).dropLast := fun z => by
        have := pw.2.2 M z M (by simp)
        omega
      rw [List.erase_append_right _ nm]
      simp
    rw [ends_max memM top hl]
    show _ = finR r ((x :: y :: l).dropLast) ++ [(x :: y :: l).getLast ne]
    rw [hM, after_fin r _ _ pw.1 pe (by simp at h ⊢; omega)]
  | false :: r, x :: y :: l, ns, hs, p, h => by
    rw [List.reverse_cons]
    have pw := hs
    rw [List.pairwise_cons] at pw
    have memx : x ∈ ns := p.mem_iff.mpr (by simp)
    have low : ∀ z ∈ ns, x ≤ z := fun z hz => by
      rcases List.mem_cons.mp (p.mem_iff.mp hz) with q | q
      · omega
      · exact Int.le_of_lt (pw.1 z q)
    have hl : ns.length ≤ r.reverse.length + 2 := by rw [p.length_eq, List.length_reverse]; simpa using h
    have pe : (ns.erase x).Perm (y :: l) := by
      have := p.erase x
      simpa using this
    rw [ends_min memx low hl, after_fin r _ _ pw.2 pe (by simp at h ⊢; omega)]
    rfl
/-! ### desks -/
theorem sgn_sorted {t : Int} : ∀ {l : List Int}, l.Pairwise (· ≤ ·) → sgn t l = List.replicate ((sgn t l).count false) false ++ List.replicate ((sgn t l).count true) true
  | [], _ => rfl
  | x :: l, h => by
    rw [List.pairwise_cons] at h
    have ih := sgn_sorted (t := t) h.2
    by_cases hx : t ≤ x
    · have al : sgn t (x :: l) = List.replicate (x :: l).length true := sgn_all true fun y hy => by
        rcases List.mem_cons.mp hy with q | q
        · rw [q]; exact decide_eq_true hx
        · have := h.1 y q
          exact decide_eq_true (by omega)
      rw [al]
      simp [List.count_replicate]
    · have e : sgn t (x :: l) = false :: sgn t l := by
        show decide (t ≤ x) :: sgn t l = _
        rw [decide_eq_false hx]
      rw [e]
      have c0 : (false :: sgn t l).count false = (sgn t l).count false + 1 := by simp
      have c1 : (false :: sgn t l).count true = (sgn t l).count true := by simp
      rw [c0, c1, List.replicate_succ, List.cons_append, ← ih]
/-- signs of people who come to a desk with s short seats and t tall ones, a zeros and b ones there -/
def deskB (s t : Nat) : Nat → Nat → List Bool → List Bool
  | a, b, [] => List.replicate (min (s - a) b) true ++ List.replicate (min a s) false ++ (List.replicate (a - s) false ++ List.replicate (b - (s - a)) true)
  | a, b, false :: r => if s + t < a + 1 + b then (if s < a + 1 then false :: deskB s t a b r else true :: deskB s t (a + 1) (b - 1) r) else deskB s t (a + 1) b r
  | a, b, true :: r => if s + t < a + (b + 1) then (if s < a then false :: deskB s t (a - 1) (b + 1) r else true :: deskB s t a b r) else deskB s t a (b + 1) r
def deskG (s t a b : Nat) (l : List Bool) : List Bool :=
  List.replicate (a - s) false ++ (List.replicate (b - t) true ++ (dropN (s - a) (t - b) l ++ (List.replicate (min s (a + l.count false)) false ++ List.replicate (min t (b + l.count true)) true)))
theorem rep_glue {α : Type} (x : α) (m n : Nat) (l : List α) : List.replicate m x ++ (List.replicate n x ++ l) = List.replicate (m + n) x ++ l := by
  rw [← List.append_assoc, List.replicate_append_replicate]
theorem deskB_eq (s t : Nat) : ∀ (l : List Bool) (a b : Nat), a + b ≤ s + t → s + t ≤ a + b + l.length → deskB s t a b l = deskG s t a b l
  | [], a, b, h1, h2 => by
    have e : a + b = s + t := by simp at h2; omega
    unfold deskB deskG
    rw [dropN, List.nil_append]
    by_cases ha : a ≤ s
    · rw [show min (s - a) b = s - a by omega, show min a s = a by omega, show a - s = 0 by omega, show b - (s - a) = t by omega, show b - t = s - a by omega]
      simp [List.append_assoc, show min s a = a by omega, show min t b = t by omega]
    · rw [show s - a = 0 by omega, show min a s = s by omega, show b - t = 0 by omega]
      simp only [Nat.zero_min, List.replicate_zero, List.nil_append, Nat.sub_zero, List.count_nil, Nat.add_zero]
      rw [show min s a = s by omega, show min t b = b by omega, rep_glue, rep_glue, Nat.add_comm]
  | false :: r, a, b, h1, h2 => by
    rw [List.length_cons] at h2
    unfold deskB
    by_cases hf : s + t < a + 1 + b
    · rw [if_pos hf]
      by_cases ha : s < a + 1
      · rw [if_pos ha, deskB_eq s t r a b h1 (by omega)]
        unfold deskG
        have m0 : min s (a + (false :: r).count false) = min s (a + r.count false) := by simp; omega
        have m1 : (false :: r).count true = r.count true := by simp
        rw [m0, m1, show s - a = 0 by omega, show b - t = 0 by omega, dropN]
        simp only [List.replicate_zero, List.nil_append, List.cons_append]
        rw [← List.cons_append, ← List.replicate_succ, List.replicate_succ', List.append_assoc]
        rfl
      · rw [if_neg ha, deskB_eq s t r (a + 1) (b - 1) (by omega) (by omega)]
        unfold deskG
        have m0 : a + (false :: r).count false = a + 1 + r.count false := by simp; omega
        have m1 : (false :: r).count true = r.count true := by simp
        obtain ⟨k, hk⟩ : ∃ k, s - a = k + 1 := ⟨s - a - 1, by omega⟩
        rw [m0, m1, hk, dropN, show a + 1 - s = 0 by omega, show a - s = 0 by omega, show t - (b - 1) = 0 by omega, show t - b = 0 by omega, show s - (a + 1) = k by omega, show b - t = (b - 1 - t) + 1 by omega, List.replicate_succ,
          show min t (b - 1 + r.count true) = min t (b + r.count true) by omega]
        rfl
    · rw [if_neg hf, deskB_eq s t r (a + 1) b (by omega) (by omega)]
      unfold deskG
      have m0 : a + (false :: r).count false = a + 1 + r.count false := by simp; omega
      have m1 : (false :: r).count true = r.count true := by simp
      rw [m0, m1]
      by_cases ha : a < s
      · obtain ⟨k, hk⟩ : ∃ k, s - a = k + 1 := ⟨s - a - 1, by omega⟩
        rw [hk, dropN, show a + 1 - s = 0 by omega, show a - s = 0 by omega, show s - (a + 1) = k by omega]
      · rw [show s - a = 0 by omega, show s - (a + 1) = 0 by omega, dropN, show b - t = 0 by omega, show a + 1 - s = (a - s) + 1 by omega, List.replicate_succ', List.append_assoc]
        rfl
  | true :: r, a, b, h1, h2 => by
    rw [List.length_cons] at h2
    unfold deskB
    have m0 : (true :: r).count false = r.count false := by simp
    by_cases hf : s + t < a + (b + 1)
    · rw [if_pos hf]
      by_cases ha : s < a
      · rw [if_pos ha, deskB_eq s t r (a - 1) (b + 1) (by omega) (by omega)]
        unfold deskG
        have m1 : b + (true :: r).count true = b + 1 + r.count true := by simp; omega
        obtain ⟨k, hk⟩ : ∃ k, t - b = k + 1 := ⟨t - b - 1, by omega⟩
        rw [m0, m1, hk, dropN, show s - a = 0 by omega, show s - (a - 1) = 0 by omega, show b + 1 - t = 0 by omega, show b - t = 0 by omega, show t - (b + 1) = k by omega, show a - s = (a - 1 - s) + 1 by omega, List.replicate_succ,
          show min s (a - 1 + r.count false) = min s (a + r.count false) by omega]
        rfl
      · rw [if_neg ha, deskB_eq s t r a b h1 (by omega)]
        unfold deskG
        have m1 : min t (b + (true :: r).count true) = min t (b + r.count true) := by simp; omega
        rw [m0, m1, show a - s = 0 by omega, show t - b = 0 by omega, dropN]
        simp only [List.replicate_zero, List.nil_append, List.cons_append]
        rw [← List.cons_append, ← List.replicate_succ, List.replicate_succ', List.append_assoc]
        rfl
    · rw [if_neg hf, deskB_eq s t r a (b + 1) (by omega) (by omega)]
      unfold deskG
      have m1 : b + (true :: r).count true = b + 1 + r.count true := by simp; omega
      rw [m0, m1]
      by_cases hb : b < t
      · obtain ⟨k, hk⟩ : ∃ k, t - b = k + 1 := ⟨t - b - 1, by omega⟩
        rw [hk, dropN, show b + 1 - t = 0 by omega, show b - t = 0 by omega, show t - (b + 1) = k by omega]
      · rw [show t - b = 0 by omega, show t - (b + 1) = 0 by omega, dropN, show a - s = 0 by omega, show b + 1 - t = (b - t) + 1 by omega, List.replicate_succ', List.append_assoc]
        rfl
/-- who leaves when one too many is there: exactly s are shorter -/
def leaver (s : Nat) (l : List Int) : Int := (l.find? fun x => decide ((l.filter fun y => decide (y < x)).length = s)).getD 0
/-- d are at the desk, the others come -/
def deskGo (s t : Nat) : List Int → List Int → List Int
  | d, [] => ((d.mergeSort fun x y => decide (x ≤ y)).take s).reverse ++ (d.mergeSort fun x y => decide (x ≤ y)).drop s
  | d, p :: r => if s + t < d.length + 1 then leaver s (d ++ [p]) :: deskGo s t ((d ++ [p]).erase (leaver s (d ++ [p]))) r else deskGo s t (d ++ [p]) r
theorem sort_ok (l : List Int) : (l.mergeSort fun x y => decide (x ≤ y)).Perm l ∧ (l.mergeSort fun x y => decide (x ≤ y)).Pairwise (· ≤ ·) := by
  refine ⟨List.mergeSort_perm .., ?_⟩
  have := List.pairwise_mergeSort (le := fun x y : Int => decide (x ≤ y)) (fun a b c h1 h2 => by simp at h1 h2 ⊢; omega) (fun a b => by simp; omega) l
  exact this.imp fun h => by simpa using h
theorem leaver_ok {s : Nat} {l : List Int} (nd : l.Nodup) (h : s < l.length) : leaver s l ∈ l ∧ (l.filter fun y => decide (y < leaver s l)).length = s := by
  obtain ⟨p, so⟩ := sort_ok l
  generalize l.mergeSort (fun x y => decide (x ≤ y)) = m at p so
  have hm : s < m.length := by rw [p.length_eq]; exact h
  have fx := filter_sorted hm so (p.nodup_iff.mpr nd)
  rw [(p.filter _).length_eq] at fx
  unfold leaver
  cases e : l.find? fun x => decide ((l.filter fun y => decide (y < x)).length = s) with
  | none =>
    have := List.find?_eq_none.mp e m[s] (p.mem_iff.mp (List.getElem_mem hm))
    exact absurd (decide_eq_true fx) this
  | some z =>
    have q := List.find?_some (p := fun x => decide ((l.filter fun y => decide (y < x)).length = s)) e
    exact ⟨List.mem_of_find?_eq_some e, of_decide_eq_true q⟩
theorem zeros_count (h : Int) (l : List Int) : (sgn h l).count false = (l.filter fun y => decide (y < h)).length := by
  induction l with
  | nil => rfl
  | cons x l ih =>
    show (decide (h ≤ x) :: sgn h l).count false = _
    by_cases hx : h ≤ x
    · rw [List.filter_cons, decide_eq_true hx, decide_eq_false (by omega : ¬ x < h)]
      simpa using ih
    · rw [List.filter_cons, decide_eq_false hx, decide_eq_true (by omega : x < h)]
      simp [ih]
theorem below_or_at (x : Int) : ∀ l : List Int, (l.filter fun y => decide (y < x + 1)).length = (l.filter fun y => decide (y < x)).length + l.count x
  | [] => rfl
  | y :: l => by
    have ih := below_or_at x l
    rw [List.filter_cons, List.filter_cons, List.count_cons]
    by_cases h1 : y < x
    · rw [decide_eq_true h1, decide_eq_true (by omega : y < x + 1)]
      have : (y == x) = false := beq_eq_false_iff_ne.mpr (by omega)
      simp [this, ih]
      omega
    · by_cases h2 : y = x
      · subst h2
        rw [decide_eq_false h1, decide_eq_true (by omega : y < y + 1)]
        simp [ih]
        omega
      · rw [decide_eq_false h1, decide_eq_false (by omega : ¬ y < x + 1)]
        have : (y == x) = false := beq_eq_false_iff_ne.mpr h2
        simp [this, ih]
theorem below_mono {a b : Int} (h : a ≤ b) (l : List Int) : (l.filter fun y => decide (y < a)).length ≤ (l.filter fun y => decide (y < b)).length := by
  rw [← List.countP_eq_length_filter, ← List.countP_eq_length_filter]
  exact List.countP_mono_left fun x _ hx => by simp at hx ⊢; omega
theorem leaver_sgn {s : Nat} {l : List Int} (nd : l.Nodup) (h : s < l.length) (t : Int) : decide (t ≤ leaver s l) = decide ((sgn t l).count false ≤ s) := by
  obtain ⟨mem, cnt⟩ := leaver_ok nd h
  rw [zeros_count]
  by_cases ht : t ≤ leaver s l
  · rw [decide_eq_true ht]
    have := below_mono ht l
    exact (decide_eq_true (by omega)).symm
  · rw [decide_eq_false ht]
    have h1 := below_or_at (leaver s l) l
    have h2 : 1 ≤ l.count (leaver s l) := List.count_pos_iff.mpr mem
    have h3 := below_mono (by omega : leaver s l + 1 ≤ t) l
    exact (decide_eq_false (by omega)).symm
theorem sgn_erase {l : List Int} {x : Int} (h : x ∈ l) (t : Int) (b : Bool) : (sgn t l).count b = (sgn t (l.erase x)).count b + (if decide (t ≤ x) = b then 1 else 0) := by
  have p := sgn_perm (h := t) (List.perm_cons_erase h)
  rw [p.count_eq b]
  show (decide (t ≤ x) :: sgn t (l.erase x)).count b = _
  rw [List.count_cons]
  congr 1
  cases decide (t ≤ x) <;> cases b <;> rfl
theorem desk_sgn (s t : Nat) (u : Int) : ∀ (r d : List Int), (d ++ r).Nodup → d.length ≤ s + t → s + t ≤ d.length + r.length → sgn u (deskGo s t d r) = deskB s t ((sgn u d).count false) ((sgn u d).count true) (sgn u r)
  | [], d, _, h1, h2 => by
    obtain ⟨p, so⟩ := sort_ok d
    unfold deskGo
    generalize d.mergeSort (fun x y => decide (x ≤ y)) = m at p so
    have pc := sgn_perm (h := u) p
    have ss := sgn_sorted (t := u) so
    rw [pc.count_eq false, pc.count_eq true] at ss
    have e : sgn u ((m.take s).reverse ++ m.drop s) = ((sgn u m).take s).reverse ++ (sgn u m).drop s := by
      unfold sgn
      rw [List.map_append, List.map_reverse, List.map_take, List.map_drop]
    rw [e, ss]
    show _ = deskB s t _ _ []
    unfold deskB
    generalize (sgn u d).count false = a
    generalize (sgn u d).count true = b
    rw [List.take_append, List.drop_append, List.take_replicate, List.take_replicate, List.drop_replicate, List.drop_replicate, List.length_replicate, List.reverse_append, List.reverse_replicate, List.reverse_replicate, Nat.min_comm s a]
  | p :: r, d, nd, h1, h2 => by
    rw [List.length_cons] at h2
    have nd2 : ((d ++ [p]) ++ r).Nodup := by simpa using nd
    have nd3 : (d ++ [p]).Nodup := (List.nodup_append.mp nd2).1
    have cc := count_two (sgn u d)
    rw [sgn_len] at cc
    have sap : sgn u (d ++ [p]) = sgn u d ++ [decide (u ≤ p)] := List.map_append ..
    have a0 : (sgn u (d ++ [p])).count false = (sgn u d).count false + (if decide (u ≤ p) = false then 1 else 0) := by
      rw [sap, List.count_append]
      cases decide (u ≤ p) <;> rfl
    have a1 : (sgn u (d ++ [p])).count true = (sgn u d).count true + (if decide (u ≤ p) = true then 1 else 0) := by
      rw [sap, List.count_append]
      cases decide (u ≤ p) <;> rfl
    have hr : sgn u (p :: r) = decide (u ≤ p) :: sgn u r := rfl
    have len : (d ++ [p]).length = d.length + 1 := by simp
    rw [hr]
    unfold deskGo
    by_cases hf : s + t < d.length + 1
    · rw [if_pos hf]
      have lt : s < (d ++ [p]).length := by omega
      obtain ⟨mem, _⟩ := leaver_ok nd3 lt
      have ls := leaver_sgn nd3 lt u
      have er0 := sgn_erase mem u false
      have er1 := sgn_erase mem u true
      generalize hx : leaver s (d ++ [p]) = x at *
      have sub : ((d ++ [p]).erase x ++ r).Sublist (d ++ [p] ++ r) := List.Sublist.append (List.erase_sublist ..) (List.Sublist.refl _)
      have el : ((d ++ [p]).erase x).length = d.length := by rw [List.length_erase_of_mem mem, len]; rfl
      have ih := desk_sgn s t u r ((d ++ [p]).erase x) (sub.nodup nd2) (by omega) (by omega)
      show decide (u ≤ x) :: sgn u (deskGo s t ((d ++ [p]).erase x) r) = _
      rw [ih]
      generalize sgn u r = R
      generalize (sgn u d).count false = a at *
      generalize (sgn u d).count true = b at *
      cases hp : decide (u ≤ p)
      · rw [hp] at a0 a1
        simp only [if_true, Bool.false_eq_true, if_false, Nat.add_zero] at a0 a1
        rw [a0] at ls er0
        rw [a1] at er1
        show _ = deskB s t a b (false :: R)
        conv => rhs; unfold deskB
        rw [if_pos (by omega)]
        by_cases hs : s < a + 1
        · rw [decide_eq_false (by omega : ¬ a + 1 ≤ s)] at ls
          rw [ls] at er0 er1 ⊢
          simp at er0 er1
          rw [if_pos hs, ← er0, ← er1]
        · rw [decide_eq_true (by omega : a + 1 ≤ s)] at ls
          rw [ls] at er0 er1 ⊢
          simp at er0 er1
          rw [if_neg hs, ← er0, show b - 1 = (sgn u ((d ++ [p]).erase x)).count true by omega]
      · rw [hp] at a0 a1
        simp only [if_true, Bool.true_eq_false, if_false, Nat.add_zero] at a0 a1
        rw [a0] at ls er0
        rw [a1] at er1
        show _ = deskB s t a b (true :: R)
        conv => rhs; unfold deskB
        rw [if_pos (by omega)]
        by_cases hs : s < a
        · rw [decide_eq_false (by omega : ¬ a ≤ s)] at ls
          rw [ls] at er0 er1 ⊢
          simp at er0 er1
          rw [if_pos hs, ← er1, show a - 1 = (sgn u ((d ++ [p]).erase x)).count false by omega]
        · rw [decide_eq_true (by omega : a ≤ s)] at ls
          rw [ls] at er0 er1 ⊢
          simp at er0 er1
          rw [if_neg hs, ← er0, ← er1]
    · rw [if_neg hf, desk_sgn s t u r (d ++ [p]) nd2 (by omega) (by omega), a0, a1]
      cases hp : decide (u ≤ p)
      · show deskB s t ((sgn u d).count false + 1) ((sgn u d).count true) (sgn u r) = deskB s t _ _ (false :: sgn u r)
        conv => rhs; unfold deskB
        rw [if_neg (by omega)]
      · show deskB s t ((sgn u d).count false) ((sgn u d).count true + 1) (sgn u r) = deskB s t _ _ (true :: sgn u r)
        conv => rhs; unfold deskB
        rw [if_neg (by omega)]
/-- a desk is its passes -/
theorem desk_passes {s t : Nat} {ns : List Int} (nd : ns.Nodup) (h : s + t ≤ ns.length) : deskGo s t [] ns = afterL (List.replicate s false ++ List.replicate t true) ns := by
  by_cases hn : ns = []
  · subst hn
    rw [afterL_nil]
    have hs : s = 0 := by simp at h; omega
    subst hs
    unfold deskGo
    simp [List.mergeSort]
  have key : ∀ u, sgn u (deskGo s t [] ns) = sgn u (afterL (List.replicate s false ++ List.replicate t true) ns) := fun u => by
    rw [desk_sgn s t u ns [] (by simpa using nd) (Nat.zero_le _) (by simpa using h), after_sgn u _ ns hn]
    show deskB s t 0 0 (sgn u ns) = _
    rw [deskB_eq s t _ 0 0 (Nat.zero_le _) (by rw [sgn_len]; simpa using h)]
    have c0 : (List.replicate s false ++ List.replicate t true).count false = s := by simp [List.count_replicate]
    have c1 : (List.replicate s false ++ List.replicate t true).count true = t := by simp [List.count_replicate]
    rw [c0, c1, dropN_app, dropN_0x]
    unfold deskG
    simp only [Nat.zero_sub, List.replicate_zero, List.nil_append, Nat.sub_zero, Nat.zero_add]
    rw [show s - (s - (sgn u ns).count false) = min s ((sgn u ns).count false) by omega, show t - (t - (sgn u ns).count true) = min t ((sgn u ns).count true) by omega]
  refine sgn_inj ?_ key
  have := congrArg List.length (key 0)
  rwa [sgn_len, sgn_len] at this
end Lp
namespace Lp
open PySem PySem.Spec PyProof.Rows L2
/-! ### desks with the numbers of arrivals -/
theorem below_inj {l : List Int} {x y : Int} (hx : x ∈ l) (hy : y ∈ l) (h : (l.filter fun z => decide (z < x)).length = (l.filter fun z => decide (z < y)).length) : x = y := by
  have h1 := below_or_at x l
  have h2 := below_or_at y l
  have c1 : 1 ≤ l.count x := List.count_pos_iff.mpr hx
  have c2 : 1 ≤ l.count y := List.count_pos_iff.mpr hy
  rcases Int.lt_trichotomy x y with z | z | z
  · have := below_mono (by omega : x + 1 ≤ y) l
    omega
  · exact z
  · have := below_mono (by omega : y + 1 ≤ x) l
    omega
theorem leaver_at {s : Nat} {d ds : List Int} (p : ds.Perm d) (so : ds.Pairwise (· ≤ ·)) (nd : d.Nodup) (h : s < ds.length) : ds[s] = leaver s d := by
  have hd : s < d.length := by rw [← p.length_eq]; exact h
  obtain ⟨mem, cnt⟩ := leaver_ok nd hd
  refine below_inj (p.mem_iff.mp (List.getElem_mem h)) mem ?_
  rw [cnt, ← (p.filter _).length_eq]
  exact filter_sorted h so (p.nodup_iff.mpr nd)
theorem erase_at : ∀ {l : List Int} {k : Nat} (h : k < l.length), l.Nodup → l.eraseIdx k = l.erase l[k]
  | a :: l, 0, _, _ => by simp
  | a :: l, k + 1, h, nd => by
    rw [List.nodup_cons] at nd
    have hk : k < l.length := Nat.lt_of_succ_lt_succ h
    have ne : (a == (a :: l)[k + 1]) = false := by
      show (a == l[k]) = false
      exact beq_eq_false_iff_ne.mpr fun e => nd.1 (e ▸ List.getElem_mem hk)
    rw [List.erase_cons, ne]
    show a :: l.eraseIdx k = a :: l.erase l[k]
    rw [erase_at hk nd.2]
theorem sorted_uniq {a b : List Int} (p : a.Perm b) (ha : a.Pairwise (· ≤ ·)) (hb : b.Pairwise (· ≤ ·)) : a = b :=
  p.eq_of_pairwise (fun x y _ _ h1 h2 => by omega) ha hb
/-- the people of an ascending list as they leave at last -/
def lastGo (s : Nat) (ds : List Int) : List Int := (ds.take s).reverse ++ ds.drop s
def stepD (s t : Nat) (st : List (Int × Int) × List Int × Nat) (p : Int) : List (Int × Int) × List Int × Nat :=
  if s + t < st.2.1.length + 1 then (st.1 ++ [(((st.2.2 + 1 : Nat) : Int), leaver s (st.2.1 ++ [p]))], (st.2.1 ++ [p]).erase (leaver s (st.2.1 ++ [p])), st.2.2 + 1)
  else (st.1, st.2.1 ++ [p], st.2.2 + 1)
def runD (s t : Nat) (ns : List Int) : List (Int × Int) × List Int × Nat := ns.foldl (stepD s t) ([], [], 0)
def sortL (l : List Int) : List Int := l.mergeSort fun x y => decide (x ≤ y)
def depL (s t : Nat) (ns : List Int) : List (Int × Int) := (runD s t ns).1 ++ (lastGo s (sortL (runD s t ns).2.1)).map fun p => ((ns.length : Int), p)
theorem depGo (s t : Nat) : ∀ (r d : List Int) (l : List (Int × Int)) (k : Nat), ((r.foldl (stepD s t) (l, d, k)).1.map (·.2)) ++ lastGo s (sortL (r.foldl (stepD s t) (l, d, k)).2.1) = l.map (·.2) ++ deskGo s t d r
  | [], d, l, k => rfl
  | p :: r, d, l, k => by
    rw [List.foldl_cons, show stepD s t (l, d, k) p = (if s + t < d.length + 1 then (l ++ [(((k + 1 : Nat) : Int), leaver s (d ++ [p]))], (d ++ [p]).erase (leaver s (d ++ [p])), k + 1) else (l, d ++ [p], k + 1)) from rfl, deskGo]
    split
    · rw [depGo s t r, List.map_append, List.append_assoc]
      rfl
    · rw [depGo s t r]
theorem depL_desk (s t : Nat) (ns : List Int) : (depL s t ns).map (·.2) = deskGo s t [] ns := by
  have := depGo s t ns [] [] 0
  unfold depL runD
  rw [List.map_append, List.map_map, show ((fun x : Int × Int => x.2) ∘ fun p => ((ns.length : Int), p)) = id from rfl, List.map_id]
  exact this
theorem runD_take {s t : Nat} {ns : List Int} {i : Nat} (h : i < ns.length) : runD s t (ns.take (i + 1)) = stepD s t (runD s t (ns.take i)) ns[i] := fold_take (List.getElem?_eq_getElem h)
/-- who is at the desk, of those who came -/
theorem runD_desk (s t : Nat) : ∀ (r d : List Int) (l : List (Int × Int)) (k : Nat), (d ++ r).Nodup → d.length ≤ s + t → (r.foldl (stepD s t) (l, d, k)).2.1.Nodup ∧ (∀ x ∈ (r.foldl (stepD s t) (l, d, k)).2.1, x ∈ d ++ r) ∧ (r.foldl (stepD s t) (l, d, k)).2.1.length ≤ s + t ∧ (r.foldl (stepD s t) (l, d, k)).2.2 = k + r.length
  | [], d, l, k, nd, hd => by
    rw [List.append_nil] at nd ⊢
    exact ⟨nd, fun x hx => hx, hd, rfl⟩
  | p :: r, d, l, k, nd, hd => by
    have nd2 : ((d ++ [p]) ++ r).Nodup := by rw [List.append_assoc]; exact nd
    have ndp : (d ++ [p]).Nodup := (List.nodup_append.mp nd2).1
    rw [List.foldl_cons, show stepD s t (l, d, k) p = (if s + t < d.length + 1 then (l ++ [(((k + 1 : Nat) : Int), leaver s (d ++ [p]))], (d ++ [p]).erase (leaver s (d ++ [p])), k + 1) else (l, d ++ [p], k + 1)) from rfl]
    split
    · rename_i hlt
      have hs : s < (d ++ [p]).length := by
        rw [List.length_append]
        show s < d.length + 1
        omega
      obtain ⟨mem, _⟩ := leaver_ok ndp hs
      have sub : ((d ++ [p]).erase (leaver s (d ++ [p])) ++ r).Sublist ((d ++ [p]) ++ r) := (List.erase_sublist ..).append_right r
      obtain ⟨h1, h2, h3, h4⟩ := runD_desk s t r ((d ++ [p]).erase (leaver s (d ++ [p]))) (l ++ [(((k + 1 : Nat) : Int), leaver s (d ++ [p]))]) (k + 1) (nd2.sublist sub) (by
        rw [List.length_erase_of_mem mem, List.length_append]
        show d.length + 1 - 1 ≤ s + t
        omega)
      refine ⟨h1, fun x hx => ?_, h3, by rw [h4, List.length_cons]; omega⟩
      have := sub.mem (h2 x hx)
      rw [List.append_assoc] at this
      exact this
    · rename_i hlt
      obtain ⟨h1, h2, h3, h4⟩ := runD_desk s t r (d ++ [p]) l (k + 1) nd2 (by
        rw [List.length_append]
        show d.length + 1 ≤ s + t
        omega)
      refine ⟨h1, fun x hx => ?_, h3, by rw [h4, List.length_cons]; omega⟩
      have := h2 x hx
      rw [List.append_assoc] at this
      exact this
theorem runD_ok {s t : Nat} {ns : List Int} (nd : ns.Nodup) (i : Nat) : (runD s t (ns.take i)).2.1.Nodup ∧ (∀ x ∈ (runD s t (ns.take i)).2.1, x ∈ ns.take i) ∧ (runD s t (ns.take i)).2.1.length ≤ s + t ∧ (runD s t (ns.take i)).2.2 = (ns.take i).length := by
  obtain ⟨h1, h2, h3, h4⟩ := runD_desk s t (ns.take i) [] [] 0 (by rw [List.nil_append]; exact nd.sublist (List.take_sublist ..)) (Nat.zero_le _)
  exact ⟨h1, fun x hx => by simpa using h2 x hx, h3, by unfold runD; rw [h4]; omega⟩
/-- pairs of numbers in the heap -/
def PairsAt (H : Hp) : List Addr → List (Int × Int) → Prop
  | [], [] => True
  | r :: rs, p :: ps => H r = some (.tup [.int p.1, .int p.2]) ∧ PairsAt H rs ps
  | [], _ :: _ => False
  | _ :: _, [] => False
theorem PairsAt.keep {H H' : Hp} : ∀ {rs : List Addr} {ps : List (Int × Int)}, PairsAt H rs ps → (∀ r ∈ rs, ∀ o, H r = some o → H' r = some o) → PairsAt H' rs ps
  | [], [], _, _ => trivial
  | r :: rs, p :: ps, h, e => ⟨e r (List.mem_cons_self ..) _ h.1, PairsAt.keep h.2 fun x hx => e x (List.mem_cons_of_mem _ hx)⟩
theorem PairsAt.same {H H' : Hp} {rs : List Addr} {ps : List (Int × Int)} (h : PairsAt H rs ps) (e : Same H H') : PairsAt H' rs ps := h.keep fun _ _ o z => e _ o z
theorem PairsAt.snoc {H : Hp} {r : Addr} {p : Int × Int} : ∀ {rs : List Addr} {ps : List (Int × Int)}, PairsAt H rs ps → H r = some (.tup [.int p.1, .int p.2]) → PairsAt H (rs ++ [r]) (ps ++ [p])
  | [], [], _, e => ⟨e, trivial⟩
  | _ :: _, _ :: _, h, e => ⟨h.1, PairsAt.snoc h.2 e⟩
theorem PairsAt.len {H : Hp} : ∀ {rs : List Addr} {ps : List (Int × Int)}, PairsAt H rs ps → rs.length = ps.length
  | [], [], _ => rfl
  | _ :: _, _ :: _, h => by rw [List.length_cons, List.length_cons, PairsAt.len h.2]
theorem PairsAt.get {H : Hp} : ∀ {rs : List Addr} {ps : List (Int × Int)} {i : Nat} {r : Addr}, PairsAt H rs ps → rs[i]? = some r → ∃ p, ps[i]? = some p ∧ H r = some (.tup [.int p.1, .int p.2])
  | r :: rs, p :: ps, 0, r', h, e => ⟨p, rfl, by rw [← Option.some.inj e]; exact h.1⟩
  | r :: rs, p :: ps, i + 1, r', h, e => PairsAt.get (i := i) h.2 e
theorem PairsAt.app {H : Hp} : ∀ {rs qs : List Addr} {ps os : List (Int × Int)}, PairsAt H rs ps → PairsAt H qs os → PairsAt H (rs ++ qs) (ps ++ os)
  | [], _, [], _, _, h => h
  | _ :: _, _, _ :: _, _, h, g => ⟨h.1, PairsAt.app h.2 g⟩
theorem cutT (ns : List Int) (k : Nat) : cutV (ns.map V.int) none (some (k : Nat)) = (ns.take k).map V.int := by
  unfold cutV
  rw [HT.sIx_none, HT.sIx_nat, List.length_map]
  show ((ns.map V.int).take (min k ns.length - 0)) = _
  rw [Nat.sub_zero, List.map_take]
  by_cases h : k ≤ ns.length
  · rw [Nat.min_eq_left h]
  · rw [Nat.min_eq_right (by omega), List.take_of_length_le (by rw [List.length_map]; omega), List.take_of_length_le (by rw [List.length_map]; omega)]
theorem cutD (ns : List Int) (k : Nat) : cutV (ns.map V.int) (some (k : Nat)) none = (ns.drop k).map V.int := by
  unfold cutV
  rw [HT.sIx_none, HT.sIx_nat, List.length_map]
  show (((ns.map V.int).drop (min k ns.length)).take (ns.length - min k ns.length)) = _
  rw [List.map_drop]
  by_cases h : k ≤ ns.length
  · rw [Nat.min_eq_left h, List.take_of_length_le (by rw [List.length_drop, List.length_map]; omega)]
  · rw [Nat.min_eq_right (by omega), List.drop_of_length_le (by rw [List.length_map]; omega), List.drop_of_length_le (by rw [List.length_map]; omega)]
    exact List.take_nil
end Lp
namespace Lp
open PySem PySem.Spec PyProof.Rows L2
/-! ### lists of texts as data -/
theorem strOk_wd (bs : List Bool) : PyData.strOk (wd bs) = true := by
  show ((bs.map code).toArray.all (· < 0x110000)) = true
  rw [List.all_toArray, List.all_eq_true]
  intro c hc
  obtain ⟨b, _, rfl⟩ := List.mem_map.mp hc
  cases b <;> decide
abbrev vW (bs : List Bool) : V := .str (wd bs)
abbrev dW (bs : List Bool) : PyData := .str (wd bs)
theorem Dp_wds {K : PySem.W.Frag} {H : Hp} : ∀ zs : List (List Bool), DpAll K H (zs.map vW) (zs.map dW)
  | [] => .nil
  | z :: zs => .cons (.str (wd z)) (Dp_wds zs)
theorem lay_wds : ∀ zs : List (List Bool), PyData.canLayAll0 (zs.map dW) = true
  | [] => by simp only [List.map_nil, PyData.canLayAll0]
  | n :: ns => by simp only [List.map_cons, PyData.canLayAll0, PyData.canLay0, strOk_wd, Bool.true_and, lay_wds ns]
theorem depth_wds : ∀ zs : List (List Bool), PyData.depthAll (zs.map dW) = 0
  | [] => by simp only [List.map_nil, PyData.depthAll]
  | n :: ns => by simp only [List.map_cons, PyData.depthAll, PyData.depth, depth_wds ns, Nat.max_self]
theorem shaped_wds (zs : List (List Bool)) : SeqAt.shaped (.list (zs.map dW)) = true := by
  unfold SeqAt.shaped
  simp only [PyData.canLay0, PyData.depth, lay_wds, depth_wds]
  decide
theorem eqv_wds (zs : List (List Bool)) : PyData.eqv (.list (zs.map dW)) (.list (zs.map dW)) = true := SeqAt.eqv_refl _ (by simp only [PyData.canLay0, lay_wds])
theorem Dp_texts {K : PySem.W.Frag} {H : Hp} {a : Addr} {zs : List (List Bool)} (h : SqL K H a (zs.map vW)) : Dp K H (.ref a) (.list (zs.map dW)) := .lst h (Dp_wds zs)
theorem neV (v : V) : (!decide (v = v)) = false := by rw [decide_eq_true rfl]; rfl
theorem Pool.row {H : Hp} {a p : Addr} {xs : List V} (x : Pool H a) (h : H p = some (.tup xs)) : p ≠ a := fun e => by
  obtain ⟨s, d, n, g, _⟩ := x
  subst e
  rw [h] at g
  cases g
theorem SqL.kp {K : PySem.W.Frag} {a b : Addr} {H H' : Hp} {xs : List V} (e : Kp a H H') (ne : b ≠ a) (h : SqL K H b xs) : SqL K H' b xs := by
  rcases h with (h | ⟨o, h⟩) | h
  · exact .inl (.inl (e _ _ h ne))
  · exact .inl (.inr ⟨o, e _ _ h ne⟩)
  · exact .inr h
theorem SqT.pool {K : PySem.W.Frag} {a b : Addr} {H H' : Hp} {xs : List V} (h : SqT K H b xs) (x : Pool H a) (e : Kp a H H') : SqT K H' b xs := by
  obtain ⟨_, _, _, g, _⟩ := x
  rcases h with (h | ⟨o, h⟩) | h
  · exact .inl (.inl (e _ _ h fun z => by subst z; rw [h] at g; cases g))
  · exact .inl (.inr ⟨o, e _ _ h fun z => by subst z; rw [h] at g; cases g⟩)
  · exact .inr h
theorem SqL.fresh {K : PySem.W.Frag} {a b : Addr} {H H' G : Hp} {xs : List V} (h : SqL K H a xs) (nb : H b = none) (s : Same H H') (k : Kp b H' G) : SqL K G a xs := by
  rcases h with (h | ⟨o, h⟩) | h
  · exact .inl (.inl (k _ _ (s _ _ h) (ne_of_none h nb)))
  · exact .inl (.inr ⟨o, k _ _ (s _ _ h) (ne_of_none h nb)⟩)
  · exact .inr h
theorem getN {M : List Nat} {i : Nat} (h : i < M.length) : (M.map fun m => V.int (m : Nat))[i]? = some (.int (M[i] : Nat)) := by
  rw [List.getElem?_map, List.getElem?_eq_getElem h]
  rfl
theorem atST (d : Int) (h0 : 0 ≤ d) (h1 : d < 2) : atI (Str.ofString "ST").cps.toList d = some (code (decide (d = 1))) := by
  have h : d = 0 ∨ d = 1 := by omega
  rcases h with rfl | rfl <;> decide +kernel
theorem cutS_drop (bs : List Bool) (k : Nat) : cutS (wd bs) (some (k : Nat)) none = wd (bs.drop k) := by
  unfold cutS
  rw [HT.sIx_none, HT.sIx_nat, wd_len]
  show (⟨(((bs.map code).drop (min k bs.length)).take (bs.length - min k bs.length)).toArray⟩ : Str) = ⟨((bs.drop k).map code).toArray⟩
  rw [List.map_drop]
  congr 2
  by_cases h : k ≤ bs.length
  · rw [Nat.min_eq_left h, List.take_of_length_le (by rw [List.length_drop, List.length_map]; omega)]
  · rw [Nat.min_eq_right (by omega), List.drop_of_length_le (by rw [List.length_map]; omega), List.drop_of_length_le (by rw [List.length_map]; omega)]
    exact List.take_nil
theorem cutS_mid (bs : List Bool) (i j : Nat) : cutS (wd bs) (some (i : Nat)) (some (j : Nat)) = wd ((bs.drop (min i bs.length)).take (min j bs.length - min i bs.length)) := by
  unfold cutS
  rw [HT.sIx_nat, HT.sIx_nat, wd_len]
  show (⟨(((bs.map code).drop (min i bs.length)).take (min j bs.length - min i bs.length)).toArray⟩ : Str) = ⟨(((bs.drop (min i bs.length)).take (min j bs.length - min i bs.length)).map code).toArray⟩
  rw [List.map_take, List.map_drop]
/-- the last m - 1 letters -/
def lastN (m : Nat) (bs : List Bool) : List Bool := bs.drop (bs.length + 1 - m)
theorem lastN_len (m : Nat) (bs : List Bool) : (lastN m bs).length = min bs.length (m - 1) := by
  unfold lastN
  rw [List.length_drop]
  omega
theorem lastN_lastN {m : Nat} (hm : 1 ≤ m) (bs : List Bool) : lastN m (lastN m bs) = lastN m bs := by
  have h : (lastN m bs).length + 1 - m = 0 := by
    rw [lastN_len]
    omega
  show (lastN m bs).drop ((lastN m bs).length + 1 - m) = _
  rw [h]
  rfl
theorem after_lastN {ns : List Int} {m : Nat} (h : ns.length = m) (bs : List Bool) : afterL (lastN m bs) ns = afterL bs ns := by
  rw [← h]
  exact after_drop
theorem wd_inj {a b : List Bool} (h : wd a = wd b) : a = b := by
  have h1 : (a.map code).toArray = (b.map code).toArray := congrArg Str.cps h
  have h2 : a.map code = b.map code := by simpa using congrArg Array.toList h1
  refine List.map_inj_right (fun x y e => ?_) |>.mp h2
  cases x <;> cases y <;> first | rfl | exact absurd e (by decide)
/-! ### list of a text -/
theorem letters_rel {bs : List Bool} {acc : Array Value} (items : ItemsOf (SignAt (wd bs)) acc (wd bs).cps.size) : Vals (bs.map fun b => V.str (ltr b)) acc.toList := by
  have sz : acc.toList.length = (bs.map fun b => V.str (ltr b)).length := by
    rw [List.length_map, Array.length_toList, items.1]
    exact wd_len bs
  refine vals_of_at sz.symm fun j x u hx hu => ?_
  obtain ⟨c, tk, hc, rfl⟩ := items.2 j u (by simpa using hu)
  obtain ⟨b, hb, rfl⟩ := wd_get hc
  rw [List.getElem?_map, hb] at hx
  rw [← Option.some.inj hx]
  exact ⟨tk, rfl⟩
def rListW : List V → Hp → VK → Prop := fun xs H Q => ∃ bs : List Bool, xs = [.str (wd bs)] ∧ bs.length ≤ 1000 ∧ ∀ l, H l = none → Q (.ref l) (upd H l (.lst (bs.map fun b => V.str (ltr b))))
theorem cr_listW {X : Cx} (calm : X.calm = true) : CallR X (.type "list") rListW := fun pins s σ H xs us Q I r h => by
  obtain ⟨bs, rfl, hl, q⟩ := h
  obtain ⟨u, rfl, tk0, rfl⟩ := vals1 r
  have fits : (wd bs).cps.size ≤ sizeLine := Nat.le_trans (Nat.le_of_eq (wd_len bs)) (Nat.le_of_lt (len_lt (by omega)))
  refine call_list_str (hn := fits) (I.ok.hd calm) (wd bs) tk0 fun h2 tk acc c keep at_ items => ?_
  have new : ObjOk X.prog X.w (upd H s.heap.objs.size (.lst (bs.map fun b => V.str (ltr b)))) h2 s.heap.objs.size (.lst (bs.map fun b => V.str (ltr b))) :=
    ⟨by rw [List.length_map]; exact Nat.le_of_lt (len_lt (by omega)), acc.toList, c, letters_rel items, by simpa using at_⟩
  exact ⟨.ref s.heap.objs.size, _, I.laid (t' := tk) keep (Nat.le_refl _) new, rfl, q _ (I.hok.fresh (Nat.le_refl _))⟩
/-! ### a letter times a number -/
theorem mul_ltr0 (b : Bool) (n : Nat) : Txt.mul (ltr b) ((n : Nat) : Int) = wd (List.replicate n b) := by
  cases n with
  | zero => rfl
  | succ n => exact mul_ltr b n
theorem op_mulL {X : Cx} : OpR X (binaryOp .Mult) (fun x y H Q => ∃ (b : Bool) (n : Nat), x = .str (ltr b) ∧ y = .int (n : Nat) ∧ n ≤ 1000 ∧ Q (.str (wd (List.replicate n b))) H) := by
  intro pins s σ H x y v u Q I rx ry h
  obtain ⟨b, n, rfl, rfl, h2, q⟩ := h
  obtain ⟨t, rfl⟩ := rx
  obtain ⟨t', rfl⟩ := ry
  rw [← mul_ltr0] at q
  refine SB.mul ⟨?_, fun h1 _ => ?_, fun h1 _ => ?_⟩ fun t2 k2 => ⟨.str _, H, I.tok k2, ⟨t2, rfl⟩, q⟩
  · rw [Bool.or_eq_false_iff]
    exact ⟨decide_eq_false (by omega), decide_eq_false (by omega)⟩
  · have e : (1000 : Int) ≤ (2 ^ 63 - 1) / (n : Nat) := Int.le_ediv_of_mul_le (by omega) (by omega)
    have e1 : (ltr b).length = 1 := rfl
    rw [e1]
    omega
  · have e1 : (ltr b).length = 1 := rfl
    rw [e1]
    unfold PySem.Builtin.Str.tooLong
    exact decide_eq_false (by rw [Nat.not_lt, Nat.one_mul]; exact Nat.le_trans (by omega : _ ≤ 1000) (by decide))
/-! ### three names in another order -/
def rev3 {α : Type} : List α → List α
  | [a, b, c] => [c, b, a]
  | l => l
def rotL3 {α : Type} : List α → List α
  | [a, b, c] => [b, c, a]
  | l => l
def rotR3 {α : Type} : List α → List α
  | [a, b, c] => [c, a, b]
  | l => l
theorem three_of {zs : List V} {ws : List Value} (r : Vals zs ws) : (∃ a b c x y z, zs = [a, b, c] ∧ ws = [x, y, z] ∧ RelV a x ∧ RelV b y ∧ RelV c z) ∨ (zs.length ≠ 3 ∧ ws.length ≠ 3) := by
  have l := r.length
  by_cases h : zs.length = 3
  · match zs, ws, r, h with
    | [a, b, c], [x, y, z], .cons p (.cons q (.cons s .nil)), _ => exact .inl ⟨a, b, c, x, y, z, rfl, rfl, p, q, s⟩
  · exact .inr ⟨h, by omega⟩
theorem rev3_id {α : Type} {l : List α} (h : l.length ≠ 3) : rev3 l = l := by
  match l, h with
  | [], _ | [_], _ | [_, _], _ => rfl
  | [_, _, _], h => exact absurd rfl h
  | _ :: _ :: _ :: _ :: _, _ => rfl
theorem rotL3_id {α : Type} {l : List α} (h : l.length ≠ 3) : rotL3 l = l := by
  match l, h with
  | [], _ | [_], _ | [_, _], _ => rfl
  | [_, _, _], h => exact absurd rfl h
  | _ :: _ :: _ :: _ :: _, _ => rfl
theorem rotR3_id {α : Type} {l : List α} (h : l.length ≠ 3) : rotR3 l = l := by
  match l, h with
  | [], _ | [_], _ | [_, _], _ => rfl
  | [_, _, _], h => exact absurd rfl h
  | _ :: _ :: _ :: _ :: _, _ => rfl
theorem rel_rev3 {zs : List V} {ws : List Value} (r : Vals zs ws) : Vals (rev3 zs) (rev3 ws) := by
  rcases three_of r with ⟨a, b, c, x, y, z, rfl, rfl, p, q, s⟩ | ⟨h1, h2⟩
  · exact .cons s (.cons q (.cons p .nil))
  · rw [rev3_id h1, rev3_id h2]
    exact r
theorem rel_rotL3 {zs : List V} {ws : List Value} (r : Vals zs ws) : Vals (rotL3 zs) (rotL3 ws) := by
  rcases three_of r with ⟨a, b, c, x, y, z, rfl, rfl, p, q, s⟩ | ⟨h1, h2⟩
  · exact .cons q (.cons s (.cons p .nil))
  · rw [rotL3_id h1, rotL3_id h2]
    exact r
theorem rel_rotR3 {zs : List V} {ws : List Value} (r : Vals zs ws) : Vals (rotR3 zs) (rotR3 ws) := by
  rcases three_of r with ⟨a, b, c, x, y, z, rfl, rfl, p, q, s⟩ | ⟨h1, h2⟩
  · exact .cons s (.cons p (.cons q .nil))
  · rw [rotR3_id h1, rotR3_id h2]
    exact r
/-! ### each of a list of places holds its own -/
def Each {β : Type} (R : Addr → β → Prop) : List Addr → List β → Prop
  | [], [] => True
  | r :: rs, p :: ps => R r p ∧ Each R rs ps
  | [], _ :: _ => False
  | _ :: _, [] => False
theorem Each.get {β : Type} {R : Addr → β → Prop} : ∀ {rs : List Addr} {ps : List β} {i : Nat} {r : Addr}, Each R rs ps → rs[i]? = some r → ∃ p, ps[i]? = some p ∧ R r p
  | r :: rs, p :: ps, 0, r', h, e => ⟨p, rfl, by rw [← Option.some.inj e]; exact h.1⟩
  | r :: rs, p :: ps, i + 1, r', h, e => Each.get (i := i) h.2 e
theorem Each.imp {β : Type} {R S : Addr → β → Prop} : ∀ {rs : List Addr} {ps : List β}, Each R rs ps → (∀ r ∈ rs, ∀ p, R r p → S r p) → Each S rs ps
  | [], [], _, _ => trivial
  | r :: rs, p :: ps, h, e => ⟨e r (List.mem_cons_self ..) _ h.1, Each.imp h.2 fun x hx => e x (List.mem_cons_of_mem _ hx)⟩
theorem Each.snoc {β : Type} {R : Addr → β → Prop} {r : Addr} {p : β} : ∀ {rs : List Addr} {ps : List β}, Each R rs ps → R r p → Each R (rs ++ [r]) (ps ++ [p])
  | [], [], _, e => ⟨e, trivial⟩
  | _ :: _, _ :: _, h, e => ⟨h.1, Each.snoc h.2 e⟩
theorem Each.len {β : Type} {R : Addr → β → Prop} : ∀ {rs : List Addr} {ps : List β}, Each R rs ps → rs.length = ps.length
  | [], [], _ => rfl
  | _ :: _, _ :: _, h => by rw [List.length_cons, List.length_cons, Each.len h.2]
theorem Each.app {β : Type} {R : Addr → β → Prop} : ∀ {rs qs : List Addr} {ps os : List β}, Each R rs ps → Each R qs os → Each R (rs ++ qs) (ps ++ os)
  | [], _, [], _, _, h => h
  | _ :: _, _, _ :: _, _, h, g => ⟨h.1, Each.app h.2 g⟩
theorem getR {rs : List Addr} {k : Nat} (h : k < rs.length) : (rs.map V.ref)[k]? = some (.ref rs[k]) := by
  rw [List.getElem?_map, List.getElem?_eq_getElem h]
  rfl
theorem lt_of_get {α β : Type} {f : α → β} {xs : List α} {i : Nat} {x : β} (h : (xs.map f)[i]? = some x) : i < xs.length := by
  have := (List.getElem?_eq_some_iff.mp h).1
  rw [List.length_map] at this
  exact this
theorem getB {l : List Bool} {k : Nat} (h : k < l.length) : (l.map fun b => V.str (ltr b))[k]? = some (.str (ltr l[k])) := by
  rw [List.getElem?_map, List.getElem?_eq_getElem h]
  rfl
end Lp
namespace Lp
open PySem PySem.Spec PyProof.Rows L2
/-! ### tuples of pairs as data -/
abbrev dP (p : Int × Int) : PyData := .tuple [.int p.1, .int p.2]
def Small (p : Int × Int) : Prop := (0 ≤ p.1 ∧ p.1 ≤ 999) ∧ 0 ≤ p.2 ∧ p.2 ≤ 999
theorem small_log0 {x : Int} (h : 0 ≤ x ∧ x ≤ 999) : x.natAbs.log2 < 1920 := by
  by_cases h0 : x = 0
  · subst h0
    decide
  · exact small_log ⟨by omega, h.2⟩
theorem Dp_pairs {K : PySem.W.Frag} {H : Hp} : ∀ {rs : List Addr} {ps : List (Int × Int)}, PairsAt H rs ps → DpAll K H (rs.map V.ref) (ps.map dP)
  | [], [], _ => .nil
  | _ :: _, p :: _, h => .cons (.tup (.inl (.inl h.1)) (Dp_ints [p.1, p.2])) (Dp_pairs h.2)
theorem lay_pairs : ∀ ps : List (Int × Int), PyData.canLayAll0 (ps.map dP) = true
  | [] => by simp only [List.map_nil, PyData.canLayAll0]
  | n :: ns => by simp only [List.map_cons, PyData.canLayAll0, PyData.canLay0, Bool.true_and, lay_pairs ns]
theorem depth_pairs : ∀ ps : List (Int × Int), PyData.depthAll (ps.map dP) ≤ 1
  | [] => by simp only [List.map_nil, PyData.depthAll]; decide
  | n :: ns => by
    have := depth_pairs ns
    simp only [List.map_cons, PyData.depthAll, PyData.depth]
    omega
theorem show_pairs : ∀ {ps : List (Int × Int)}, (∀ p ∈ ps, Small p) → PyData.showableAll (ps.map dP) = true
  | [], _ => by simp only [List.map_nil, PyData.showableAll]
  | n :: ns, h => by
    have hn := h n (List.mem_cons_self ..)
    have e1 := small_log0 hn.1
    have e2 := small_log0 hn.2
    simp only [List.map_cons, PyData.showableAll, PyData.showable, Bool.and_eq_true, Bool.and_true]
    exact ⟨⟨decide_eq_true e1, decide_eq_true e2⟩, show_pairs fun x hx => h x (List.mem_cons_of_mem _ hx)⟩
theorem pair_len {p : Int × Int} (h : Small p) : (dP p).shown.length ≤ 10000 := by
  have h1 := fmt_text (PyData.shownAll ([p.1, p.2].map PyData.int))
  have h2 := piled_ints (ns := [p.1, p.2]) fun x hx => by
    rcases List.mem_cons.mp hx with rfl | hx
    · exact small_log0 h.1
    · rw [List.mem_singleton.mp hx]
      exact small_log0 h.2
  have e : (dP p).shown = (PyData.tuple ([p.1, p.2].map PyData.int)).shown := rfl
  rw [e]
  simp only [PyData.shown]
  have l2 : [p.1, p.2].length = 2 := rfl
  rw [l2] at h2
  omega
theorem piled_pairs : ∀ {ps : List (Int × Int)}, (∀ p ∈ ps, Small p) → piled (PyData.shownAll (ps.map dP)) ≤ 10002 * ps.length
  | [], _ => by simp only [List.map_nil, PyData.shownAll, piled_nil, List.length_nil]; omega
  | n :: ns, h => by
    have h1 := pair_len (h n (List.mem_cons_self ..))
    have h2 := piled_pairs fun x hx => h x (List.mem_cons_of_mem _ hx)
    rw [List.map_cons, PyData.shownAll, piled_cons, List.length_cons]
    omega
abbrev pairS (ps : List (Int × Int)) : Str := (PyData.tuple (ps.map dP)).shown
theorem pairs_dep (ps : List (Int × Int)) : (PyData.tuple (ps.map dP)).depth ≤ 60 := by
  have := depth_pairs ps
  simp only [PyData.depth]
  omega
theorem pairs_lay (ps : List (Int × Int)) : (PyData.tuple (ps.map dP)).canLay0 = true := by simp only [PyData.canLay0, lay_pairs]
theorem pairs_show {ps : List (Int × Int)} (h : ∀ p ∈ ps, Small p) : (PyData.tuple (ps.map dP)).showable = true := by
  simp only [PyData.showable]
  exact show_pairs h
theorem pairs_len {ps : List (Int × Int)} (hl : ps.length ≤ 1000) (h : ∀ p ∈ ps, Small p) : (PyData.tuple (ps.map dP)).shown.length ≤ sizeLine := by
  simp only [PyData.shown]
  have h1 := fmt_text (PyData.shownAll (ps.map dP))
  have h2 := piled_pairs h
  rw [sizeLine_eq]
  omega
theorem pairs_shaped (ps : List (Int × Int)) : SeqAt.shaped (.tuple (ps.map dP)) = true := by
  have := depth_pairs ps
  unfold SeqAt.shaped
  simp only [PyData.canLay0, PyData.depth, lay_pairs]
  simp
  omega
theorem pairs_eqv (ps : List (Int × Int)) : PyData.eqv (.tuple (ps.map dP)) (.tuple (ps.map dP)) = true := SeqAt.eqv_refl _ (pairs_lay ps)
theorem Dp_prs {K : PySem.W.Frag} {H : Hp} {a : Addr} {rs : List Addr} {ps : List (Int × Int)} (h : SqT K H a (rs.map V.ref)) (e : PairsAt H rs ps) : Dp K H (.ref a) (.tuple (ps.map dP)) := .tup h (Dp_pairs e)
/-- what stands in the departures -/
theorem runD_fst (s t : Nat) : ∀ (r d : List Int) (l : List (Int × Int)) (k : Nat), (d ++ r).Nodup → d.length ≤ s + t → (∀ p ∈ l, 0 ≤ p.1 ∧ p.1 ≤ ((k + r.length : Nat) : Int)) → ∀ p ∈ (r.foldl (stepD s t) (l, d, k)).1, 0 ≤ p.1 ∧ p.1 ≤ ((k + r.length : Nat) : Int)
  | [], d, l, k, nd, hd, h => h
  | p :: r, d, l, k, nd, hd, h => by
    rw [List.foldl_cons, show stepD s t (l, d, k) p = (if s + t < d.length + 1 then (l ++ [(((k + 1 : Nat) : Int), leaver s (d ++ [p]))], (d ++ [p]).erase (leaver s (d ++ [p])), k + 1) else (l, d ++ [p], k + 1)) from rfl]
    have nd2 : ((d ++ [p]) ++ r).Nodup := by rw [List.append_assoc]; exact nd
    have ndp : (d ++ [p]).Nodup := (List.nodup_append.mp nd2).1
    have e : k + (p :: r).length = k + 1 + r.length := by rw [List.length_cons]; omega
    rw [e] at h ⊢
    split
    · rename_i hlt
      have hs : s < (d ++ [p]).length := by
        rw [List.length_append]
        show s < d.length + 1
        omega
      obtain ⟨mem, _⟩ := leaver_ok ndp hs
      refine runD_fst s t r _ _ (k + 1) (nd2.sublist ((List.erase_sublist ..).append_right r)) (by
        rw [List.length_erase_of_mem mem, List.length_append]
        show d.length + 1 - 1 ≤ s + t
        omega) fun x hx => ?_
      rcases List.mem_append.mp hx with z | z
      · exact h x z
      · rw [List.mem_singleton.mp z]
        show 0 ≤ ((k + 1 : Nat) : Int) ∧ ((k + 1 : Nat) : Int) ≤ ((k + 1 + r.length : Nat) : Int)
        omega
    · rename_i hlt
      exact runD_fst s t r _ _ (k + 1) nd2 (by
        rw [List.length_append]
        show d.length + 1 ≤ s + t
        omega) h
theorem depL_small {s t : Nat} {ns : List Int} (r : Row ns) (h : s + t ≤ ns.length) : (∀ p ∈ depL s t ns, Small p) ∧ (depL s t ns).length = ns.length := by
  have e := depL_desk s t ns
  rw [desk_passes r.nd h] at e
  have hl : (depL s t ns).length = ns.length := by
    rw [← List.length_map (f := (·.2)), e, afterL_len]
  have most := r.most
  refine ⟨fun p hp => ⟨?_, ?_⟩, hl⟩
  · unfold depL at hp
    rcases List.mem_append.mp hp with z | z
    · have := runD_fst s t ns [] [] 0 (by rw [List.nil_append]; exact r.nd) (Nat.zero_le _) (fun p hp => nomatch hp) p z
      omega
    · obtain ⟨x, _, rfl⟩ := List.mem_map.mp z
      show 0 ≤ ((ns.length : Nat) : Int) ∧ ((ns.length : Nat) : Int) ≤ 999
      omega
  · have m : p.2 ∈ (depL s t ns).map (·.2) := List.mem_map_of_mem hp
    rw [e] at m
    have := r.rng _ ((afterL_perm _ ns).mem_iff.mp m)
    omega
end Lp
namespace Lp
open PySem PySem.Spec PyProof.Rows L2
/-! ### only ranks matter -/
def Mono (f : Int → Int) (l : List Int) : Prop := ∀ u ∈ l, ∀ v ∈ l, (u < v ↔ f u < f v)
theorem takes_map {f : Int → Int} {b : Bool} {p x : Int} (h1 : p < x ↔ f p < f x) (h2 : x < p ↔ f x < f p) : takes b (f p) (f x) = takes b p x := by
  unfold takes
  cases b with
  | true => exact decide_eq_decide.mpr h2.symm
  | false => exact decide_eq_decide.mpr h1.symm
theorem run_map {f : Int → Int} (b : Bool) : ∀ (xs l s : List Int) (x : Int), Mono f (x :: xs) → (xs.map f).foldl (stepW b) (l.map f, s.map f, f x) = ((xs.foldl (stepW b) (l, s, x)).1.map f, (xs.foldl (stepW b) (l, s, x)).2.1.map f, f (xs.foldl (stepW b) (l, s, x)).2.2)
  | [], l, s, x, _ => rfl
  | p :: xs, l, s, x, m => by
    have mp : p ∈ x :: p :: xs := List.mem_cons_of_mem _ (List.mem_cons_self ..)
    have mx : x ∈ x :: p :: xs := List.mem_cons_self ..
    have e := takes_map (b := b) (m p mp x mx) (m x mx p mp)
    rw [List.map_cons, List.foldl_cons, List.foldl_cons]
    have s1 : stepW b (l.map f, s.map f, f x) (f p) = (if takes b (f p) (f x) = true then (l.map f ++ [f x], s.map f ++ [f x], f p) else (l.map f ++ [f p], s.map f, f x)) := rfl
    have s2 : stepW b (l, s, x) p = (if takes b p x = true then (l ++ [x], s ++ [x], p) else (l ++ [p], s, x)) := rfl
    rw [s1, s2, e]
    by_cases ht : takes b p x = true
    · rw [if_pos ht, if_pos ht]
      have ih := run_map b xs (l ++ [x]) (s ++ [x]) p fun u hu v hv => m u (List.mem_cons_of_mem _ hu) v (List.mem_cons_of_mem _ hv)
      rw [List.map_append, List.map_append] at ih
      exact ih
    · rw [if_neg ht, if_neg ht]
      have sub : ∀ u ∈ x :: xs, u ∈ x :: p :: xs := fun u hu => by
        rcases List.mem_cons.mp hu with rfl | hu
        · exact List.mem_cons_self ..
        · exact List.mem_cons_of_mem _ (List.mem_cons_of_mem _ hu)
      have ih := run_map b xs (l ++ [p]) s x fun u hu v hv => m u (sub u hu) v (sub v hv)
      rw [List.map_append] at ih
      exact ih
theorem pass_map {f : Int → Int} (b : Bool) : ∀ {ns : List Int}, Mono f ns → passL b (ns.map f) = (passL b ns).map f
  | [], _ => rfl
  | x :: xs, m => by
    have e := run_map b xs [] [] x m
    show (runW b (f x) (xs.map f)).1 ++ [(runW b (f x) (xs.map f)).2.2] = ((runW b x xs).1 ++ [(runW b x xs).2.2]).map f
    have e2 : runW b (f x) (xs.map f) = ((runW b x xs).1.map f, (runW b x xs).2.1.map f, f (runW b x xs).2.2) := e
    rw [e2, List.map_append]
    rfl
theorem after_map {f : Int → Int} : ∀ (bs : List Bool) {ns : List Int}, Mono f ns → afterL bs (ns.map f) = (afterL bs ns).map f
  | [], ns, _ => rfl
  | b :: bs, ns, m => by
    show afterL bs (passL b (ns.map f)) = (afterL bs (passL b ns)).map f
    rw [pass_map b m]
    exact after_map bs fun u hu v hv => m u ((passL_perm b ns).mem_iff.mp hu) v ((passL_perm b ns).mem_iff.mp hv)
theorem rk_lt {ns : List Int} {u v : Int} (hu : u ∈ ns) (h : u < v) : rk ns u < rk ns v := by
  have h1 := below_or_at u ns
  have h2 : 1 ≤ ns.count u := List.count_pos_iff.mpr hu
  have h3 := below_mono (by omega : u + 1 ≤ v) ns
  unfold rk
  omega
theorem rk_mono (ns : List Int) : Mono (rk ns) ns := fun u hu v hv => by
  refine ⟨rk_lt hu, fun h => ?_⟩
  rcases Int.lt_trichotomy u v with z | z | z
  · exact z
  · rw [z] at h
    omega
  · have := rk_lt (ns := ns) hv z
    omega
theorem rk_perm {ms ns : List Int} (p : ms.Perm ns) (x : Int) : rk ms x = rk ns x := by
  unfold rk
  rw [(p.filter _).length_eq]
theorem ranks_after (bs : List Bool) (ns : List Int) : afterL bs (ranksL ns) = (afterL bs ns).map (rk ns) := after_map bs (rk_mono ns)
theorem ranks_of_after (bs : List Bool) (ns : List Int) : ranksL (afterL bs ns) = (afterL bs ns).map (rk ns) := by
  unfold ranksL
  exact List.map_congr_left fun x _ => rk_perm (afterL_perm bs ns) x
theorem Row.ranks {ns : List Int} (r : Row ns) : Row (ranksL ns) := by
  have ln : (ranksL ns).length = ns.length := List.length_map ..
  refine ⟨by rw [ln]; exact r.pos, by rw [ln]; exact r.most, ?_, fun x hx => ?_⟩
  · unfold ranksL
    refine List.pairwise_map.mpr (List.Pairwise.imp_of_mem (R := (· ≠ ·)) (fun {a b} ha hb hne e => ?_) r.nd)
    rcases Int.lt_trichotomy a b with z | z | z
    · have := rk_lt ha z
      omega
    · exact hne z
    · have := rk_lt hb z
      omega
  · obtain ⟨y, _, rfl⟩ := List.mem_map.mp hx
    have h1 := List.length_filter_le (fun z => decide (z < y)) ns
    have h2 := r.most
    unfold rk
    omega
end Lp
namespace Lp
open PySem PySem.Spec PyProof.Rows L2
/-! ### the place of a number in a tuple -/
def rIndexT (K : PySem.W.Frag) : V → List V → Hp → VK → Prop := fun x xs H Q => ∃ (p : Addr) (ns : List Int) (j : Nat) (h : j < ns.length), x = .ref p ∧ xs = [.int ns[j]] ∧ SqT K H p (ns.map V.int) ∧ ns.Nodup ∧ Q (.int (j : Nat)) H
theorem mt_tupN {X : Cx} : MtR X "tuple.index" (rIndexT X.K) := fun pins s σ H x xs v us Q I rx rs h => by
  obtain ⟨p, ns, j, lt, rfl, rfl, hq, nd, good⟩ := h
  cases rx
  obtain ⟨u, rfl, tk, rfl⟩ := vals1 rs
  obtain ⟨its, r, pl, _⟩ := I.tuple hq
  obtain ⟨⟨cl, dd, dt, sl⟩, at_, c1, n, d1⟩ := pl
  simp only at c1 d1
  subst c1 d1
  have size : its.toArray.size = ns.length := by
    rw [List.size_toArray, ← r.length]
    exact List.length_map ..
  have item : ∀ (m : Nat) (hm : m < its.toArray.size), ∃ t2, its.toArray[m] = Value.int (ns[m]'(by rw [← size]; exact hm)) t2 := fun m hm => by
    have hm2 : m < ns.length := by rw [← size]; exact hm
    obtain ⟨w, hw, t2, e⟩ := r.get (i := m) (x := .int ns[m]) (getI hm2)
    have e2 := (List.getElem?_eq_some_iff.mp hw).2
    exact ⟨t2, by rw [← e, ← e2]; simp⟩
  have flat : (ns.map V.int).all flatV = true := by
    rw [List.all_map, List.all_eq_true]
    exact fun _ _ => rfl
  have lt2 : j < its.toArray.size := by rw [size]; exact lt
  have hit : eqU (.int ns[j]) its.toArray[j] = true := by
    obtain ⟨t2, e⟩ := item j lt2
    rw [e]
    show (ns[j] == ns[j]) = true
    exact beq_self_eq_true _
  have miss : ∀ m (hm : m < its.toArray.size), m < j → eqU (.int ns[j]) its.toArray[m] = false := fun m hm mj => by
    obtain ⟨t2, e⟩ := item m hm
    rw [e]
    show (_ == ns[j]) = false
    exact beq_eq_false_iff_ne.mpr fun z => by
      have := (List.getElem_inj nd).mp z
      omega
  refine call_meets PySem.F.slot_tuple_index ⟨_, at_, rfl⟩ PySem.F.entry_tuple_index (PySem.F.args_tuple_index_2 _ _) (TI.tuple_indexAt p its.toArray n dd sl (.int ns[j] tk) (eqU (.int ns[j])) j lt2 hit miss) ?_
  exact ⟨at_, fun w hw => mem_eqAt (x := .int ns[j]) ⟨tk, rfl⟩ rfl r flat w (by simpa using hw), ⟨.int (j : Nat), H, I.tok _, ⟨_, rfl⟩, good⟩⟩
/-! ### what is kept of what is kept -/
theorem dropN_dropN : ∀ (l : List Bool) (a b c d : Nat), dropN c d (dropN a b l) = dropN (a + c) (b + d) l
  | [], a, b, c, d => by
    have e : ∀ x y, dropN x y [] = [] := fun x y => by cases x <;> cases y <;> rfl
    rw [e, e, e]
  | false :: l, 0, b, 0, d => by
    show false :: dropN 0 d (dropN 0 b l) = false :: dropN 0 (b + d) l
    rw [dropN_dropN l 0 b 0 d]
  | false :: l, 0, b, c + 1, d => by
    rw [show 0 + (c + 1) = (0 + c) + 1 by omega]
    show dropN c d (dropN 0 b l) = dropN (0 + c) (b + d) l
    exact dropN_dropN l 0 b c d
  | false :: l, a + 1, b, c, d => by
    rw [show a + 1 + c = (a + c) + 1 by omega]
    show dropN c d (dropN a b l) = dropN (a + c) (b + d) l
    exact dropN_dropN l a b c d
  | true :: l, a, 0, c, 0 => by
    have e1 : dropN a 0 (true :: l) = true :: dropN a 0 l := by cases a <;> rfl
    have e2 : ∀ m, dropN c 0 (true :: m) = true :: dropN c 0 m := fun m => by cases c <;> rfl
    have e3 : dropN (a + c) (0 + 0) (true :: l) = true :: dropN (a + c) (0 + 0) l := by cases (a + c) <;> rfl
    rw [e1, e2, e3, dropN_dropN l a 0 c 0]
  | true :: l, a, 0, c, d + 1 => by
    have e1 : dropN a 0 (true :: l) = true :: dropN a 0 l := by cases a <;> rfl
    have e2 : ∀ m, dropN c (d + 1) (true :: m) = dropN c d m := fun m => by cases c <;> rfl
    have e3 : dropN (a + c) (0 + (d + 1)) (true :: l) = dropN (a + c) (0 + d) l := by
      rw [show 0 + (d + 1) = (0 + d) + 1 by omega]
      cases (a + c) <;> rfl
    rw [e1, e2, e3, dropN_dropN l a 0 c d]
  | true :: l, a, b + 1, c, d => by
    have e1 : dropN a (b + 1) (true :: l) = dropN a b l := by cases a <;> rfl
    have e3 : dropN (a + c) (b + 1 + d) (true :: l) = dropN (a + c) (b + d) l := by
      rw [show b + 1 + d = (b + d) + 1 by omega]
      cases (a + c) <;> rfl
    rw [e1, e3, dropN_dropN l a b c d]
theorem dropN_take {k m a b : Nat} {l : List Bool} (h : k + a + b ≤ m) (hm : m ≤ l.length) : (dropN a b (l.take m)).take k = (dropN a b l).take k := by
  have e : dropN a b l = dropN a b (l.take m) ++ dropN (a - (l.take m).count false) (b - (l.take m).count true) (l.drop m) := by
    rw [← dropN_app, List.take_append_drop]
  have le := dropN_len (l.take m) a b
  have two := count_two (l.take m)
  rw [List.length_take] at two
  rw [e, List.take_append_of_le_length (by omega)]
def keptL (s t : Nat) (ns : List Int) : List Int := (deskGo s t [] ns).take (ns.length - s - t)
theorem keptL_sgn {s t : Nat} {ns : List Int} (hrow : Row ns) (hst : s + t ≤ ns.length) (h : Int) : sgn h (keptL s t ns) = (dropN s t (sgn h ns)).take (ns.length - s - t) := by
  have ne : ns ≠ [] := fun z => by
    have := hrow.pos
    rw [z] at this
    cases this
  unfold keptL
  rw [desk_passes hrow.nd hst]
  show ((afterL _ ns).take _).map _ = _
  rw [List.map_take]
  show (sgn h (afterL _ ns)).take _ = _
  rw [after_sgn h _ ns ne]
  have c0 : (List.replicate s false ++ List.replicate t true).count false = s := by simp [List.count_append, List.count_replicate]
  have c1 : (List.replicate s false ++ List.replicate t true).count true = t := by simp [List.count_append, List.count_replicate]
  rw [c0, c1, dropN_app]
  have le := dropN_len (sgn h ns) s t
  have two := count_two (sgn h ns)
  rw [sgn_len] at two
  rw [List.take_append_of_le_length (by omega)]
theorem keptL_len {s t : Nat} {ns : List Int} (hrow : Row ns) (hst : s + t ≤ ns.length) : (keptL s t ns).length = ns.length - s - t := by
  unfold keptL
  rw [desk_passes hrow.nd hst, List.length_take, afterL_len]
  omega
theorem keptL_sub {s t : Nat} {ns : List Int} (hrow : Row ns) (hst : s + t ≤ ns.length) : ∃ m : List Int, keptL s t ns = m.take (ns.length - s - t) ∧ m.Perm ns := by
  unfold keptL
  rw [desk_passes hrow.nd hst]
  exact ⟨_, rfl, afterL_perm _ ns⟩
theorem keptL_row {s t : Nat} {ns : List Int} (hrow : Row ns) (hst : s + t < ns.length) : Row (keptL s t ns) := by
  have ln := keptL_len hrow (Nat.le_of_lt hst)
  obtain ⟨m, e, p⟩ := keptL_sub hrow (Nat.le_of_lt hst)
  have most := hrow.most
  refine ⟨by omega, by omega, ?_, fun x hx => ?_⟩
  · rw [e]
    exact (p.nodup_iff.mpr hrow.nd).sublist (List.take_sublist ..)
  · rw [e] at hx
    exact hrow.rng x (p.mem_iff.mp (List.mem_of_mem_take hx))
theorem keptL_keptL {s t a b : Nat} {ns : List Int} (hrow : Row ns) (hst : s + t < ns.length) (hab : a + b ≤ ns.length - s - t) : keptL a b (keptL s t ns) = keptL (s + a) (t + b) ns := by
  have r1 := keptL_row hrow hst
  have l1 := keptL_len hrow (Nat.le_of_lt hst)
  have l2 := keptL_len r1 (s := a) (t := b) (by omega)
  have l3 := keptL_len hrow (s := s + a) (t := t + b) (by omega)
  refine sgn_inj (by omega) fun h => ?_
  have le := dropN_len (sgn h ns) s t
  have two := count_two (sgn h ns)
  rw [sgn_len] at two
  rw [keptL_sgn r1 (by omega), keptL_sgn hrow (Nat.le_of_lt hst), keptL_sgn hrow (by omega), l1, dropN_take (by omega) (by omega), dropN_dropN, show ns.length - s - t - a - b = ns.length - (s + a) - (t + b) by omega]
/-- who is kept, in order -/
theorem below_sgn (h : Int) (l : List Int) : (l.filter fun y => decide (y < h)).length = (sgn h l).count false := (zeros_count h l).symm
theorem kept_below {s t : Nat} {ns : List Int} (hrow : Row ns) (hst : s + t ≤ ns.length) (h : Int) : (sgn h (keptL s t ns)).count false = min ((sgn h ns).count false - s) (ns.length - s - t) := by
  rw [keptL_sgn hrow hst]
  have two := count_two (sgn h ns)
  rw [sgn_len] at two
  by_cases h0 : (sgn h ns).count false ≤ s
  · rw [dropN_zeros _ _ _ h0, List.take_replicate, List.count_replicate]
    simp
    omega
  · by_cases h1 : (sgn h ns).count true ≤ t
    · rw [dropN_ones _ _ _ h1, List.take_replicate, List.count_replicate]
      simp
      omega
    · have le := dropN_len (sgn h ns) s t
      rw [List.take_of_length_le (by omega)]
      have c : ∀ (l : List Bool) (a b : Nat), (dropN a b l).count false = l.count false - a := fun l => by
        induction l with
        | nil =>
          intro a b
          have e : dropN a b [] = [] := by cases a <;> cases b <;> rfl
          rw [e]
          simp
        | cons x l ih =>
          intro a b
          cases x with
          | false =>
            cases a with
            | zero =>
              show (false :: dropN 0 b l).count false = _
              rw [List.count_cons_self, List.count_cons_self, ih]
              omega
            | succ a =>
              show (dropN a b l).count false = _
              rw [List.count_cons_self, ih]
              omega
          | true =>
            cases b with
            | zero =>
              have e : dropN a 0 (true :: l) = true :: dropN a 0 l := by cases a <;> rfl
              rw [e, List.count_cons_of_ne (by decide), List.count_cons_of_ne (by decide), ih]
            | succ b =>
              have e : dropN a (b + 1) (true :: l) = dropN a b l := by cases a <;> rfl
              rw [e, List.count_cons_of_ne (by decide), ih]
      rw [c]
      omega
theorem slice_below {es : List Int} (so : es.Pairwise (· ≤ ·)) (s k : Nat) (hk : s + k ≤ es.length) (h : Int) : (sgn h ((es.drop s).take k)).count false = min ((sgn h es).count false - s) k := by
  have two := count_two (sgn h es)
  rw [sgn_len] at two
  have e : sgn h ((es.drop s).take k) = ((sgn h es).drop s).take k := by
    show ((es.drop s).take k).map _ = ((es.map _).drop s).take k
    rw [List.map_take, List.map_drop]
  have ss := sgn_sorted (t := h) so
  generalize (sgn h es).count false = cf at ss two ⊢
  generalize (sgn h es).count true = ct at ss two
  rw [e, ss, List.drop_append, List.length_replicate, List.drop_replicate, List.drop_replicate, List.take_append, List.length_replicate, List.take_replicate, List.take_replicate, List.count_append, List.count_replicate, List.count_replicate]
  simp
  omega
theorem kept_slice {s t : Nat} {ns es : List Int} (hrow : Row ns) (hst : s + t ≤ ns.length) (p : es.Perm ns) (so : es.Pairwise (· ≤ ·)) : (keptL s t ns).Perm ((es.drop s).take (ns.length - s - t)) := by
  have el := p.length_eq
  have same : ∀ h, (sgn h (keptL s t ns)).count false = (sgn h ((es.drop s).take (ns.length - s - t))).count false := fun h => by
    rw [kept_below hrow hst, slice_below so s _ (by omega), (sgn_perm p).count_eq]
  refine List.perm_iff_count.mpr fun x => ?_
  have a1 := below_or_at x (keptL s t ns)
  have a2 := below_or_at x ((es.drop s).take (ns.length - s - t))
  have b1 := same x
  have b2 := same (x + 1)
  rw [zeros_count, zeros_count] at b1 b2
  omega
theorem kept_rank {s t : Nat} {ns : List Int} (hrow : Row ns) (hst : s + t ≤ ns.length) {x : Int} (hx : x ∈ keptL s t ns) : rk (keptL s t ns) x = rk ns x - s := by
  obtain ⟨p, so⟩ := sort_ok ns
  generalize ns.mergeSort (fun x y => decide (x ≤ y)) = es at p so
  have pk := kept_slice hrow hst p so
  obtain ⟨j, hj, ej⟩ := List.mem_iff_getElem.mp (pk.mem_iff.mp hx)
  have el := p.length_eq
  have hj2 : j < ns.length - s - t := by
    rw [List.length_take] at hj
    omega
  have hsj : s + j < es.length := by omega
  have ex : es[s + j] = x := by
    rw [← ej, List.getElem_take, List.getElem_drop]
  have nd : es.Nodup := p.nodup_iff.mpr hrow.nd
  have bx : (es.filter fun y => decide (y < x)).length = s + j := by
    rw [← ex]
    exact filter_sorted hsj so nd
  rw [(p.filter _).length_eq] at bx
  have kb := kept_below hrow hst x
  rw [zeros_count, zeros_count, bx] at kb
  unfold rk
  rw [kb, bx]
  omega
end Lp
namespace Lp
open PySem PySem.Spec PyProof.Rows L2
/-! ### a text backwards: z[::-1] -/
theorem back_places (n : Nat) : Builtin.Str.strSliceIndices none none (-1) n = (List.range n).reverse := by
  show sliceRange ((n : Int) - 1) (-1) (-1) = _
  rw [PySem.W.krv_sliceRange]
  exact PySem.W.krv_range n
theorem back_text (bs : List Bool) : (⟨((Builtin.Str.strSliceIndices none none (-1) (wd bs).length).filterMap ((wd bs).cps[·]?)).toArray⟩ : Str) = wd bs.reverse := by
  rw [back_places, List.filterMap_reverse]
  have all : (List.range (wd bs).length).filterMap ((wd bs).cps[·]?) = bs.map code := (PySem.W.krv_all (wd bs).cps).trans rfl
  rw [all, ← List.map_reverse]
  rfl
/-- e[::-1] of a word -/
def tBack (te : TE) : TE := fun σ H Q => te σ H fun x G => ∃ bs : List Bool, x = .str (wd bs) ∧ bs.length ≤ 1000 ∧ Q (.str (wd bs.reverse)) G
theorem minus_one {X : Cx} {j : Nat} {q1 q2 : Pos} : PO X (some (.UnaryOp .USub (.Constant (.int 1) j q1) q2)) (tPart (tUn (rU fun i => .int (-i)) (tC (.int 1)))) := po_some (pe_un un_neg pe_int)
theorem pe_back {X : Cx} {e : Expr} {te : TE} {j : Nat} {q1 q2 q3 q : Pos} (a : PE X e te) : PE X (.Subscript e (.Slice none none (some (.UnaryOp .USub (.Constant (.int 1) j q1) q2)) q3) q) (tBack te) := by
  constructor
  intro pins s σ H Q I h
  refine Subscript_ (thn (a.run pins s σ H _ I h) fun v s1 z => ?_)
  obtain ⟨x, H1, I1, r1, bs, rfl, hb, good⟩ := z
  obtain ⟨tk, rfl⟩ := r1
  refine wpAny_Slice (thn (po_none.run pins s1 σ H1 (fun o G => o = none ∧ G = H1) I1 ⟨rfl, rfl⟩) fun vl s2 z => ?_)
  obtain ⟨_, G2, I2, pl, rfl, rfl⟩ := z
  refine thn (po_none.run pins s2 σ _ (fun o G => o = none ∧ G = G2) I2 ⟨rfl, rfl⟩) fun vu s3 z => ?_
  obtain ⟨_, G3, I3, pu, rfl, rfl⟩ := z
  refine thn (minus_one.run pins s3 σ _ (fun o G => o = some (-1) ∧ G = G3) I3 ⟨1, rfl, -1, rfl, rfl, rfl⟩) fun vs s4 z => ?_
  obtain ⟨_, _, I4, ps, rfl, rfl⟩ := z
  have J := I4.kept (t' := s4.toks) (h' := s4.heap.push { cls := .type "slice", data := .fields #[vl, vu, vs] }) fun b ob w => Heap.get?_push_of_some _ w
  refine tail_any (ops := [.ref s4.heap.objs.size]) (typeIs_str _ _ _) F.slot_str_getitem.lookup ?_ (by with_unfolding_all rfl)
  obtain ⟨l, rfl, hl⟩ := IsPart.raw pl
  obtain ⟨u, rfl, hu⟩ := IsPart.raw pu
  obtain ⟨st, rfl, hst⟩ := IsPart.raw ps
  have l0 : l = none := by cases l <;> first | rfl | cases hl
  have u0 : u = none := by cases u <;> first | rfl | cases hu
  subst l0
  subst u0
  refine wpAny_getItem_str_slice (l := none) (u := none) (st := st) ⟨_, Heap.get?_push_size _ rfl, rfl, rfl⟩ (by rw [hst]; rfl) ?_
  have made : sliceMade (wd bs) tk none none st = .str (wd bs.reverse) := by
    unfold sliceMade slicePicked
    rw [hst]
    have := back_text bs
    have f : ((some (-1 : Int)).getD 1 == 1) = false := by decide
    rw [f, Bool.false_and, if_neg Bool.false_ne_true]
    exact congrArg Made.str this
  rw [made]
  exact ⟨by rw [wd_len, List.length_reverse]; exact Nat.le_of_lt (len_lt (by omega)), .str _, _, J.tok _, ⟨_, rfl⟩, good⟩
/-! ### reversed(z) of a word -/
theorem str_norev : typeLookup (.type "str") "__reversed__" = pure none := by
  rw [typeLookup_type]
  rw [builtinLookup_eq_fast]
  kernel_rfl
theorem str_get : typeLookup (.type "str") "__getitem__" = pure (some (.builtin "str.__getitem__")) := F.slot_str_getitem.lookup
/-- reversed(z) stands at a, the place j comes next -/
def Bw (h : Heap) (a : Addr) (z : Str) (tk : Tok) (j : Int) : Prop := ∃ ob, h.get? a = some ob ∧ ob.cls = .type "reversed" ∧ ob.data = .fields #[.str z tk, rawInt j]
theorem Bw.keep {h g : Heap} {a : Addr} {z : Str} {tk : Tok} {j : Int} (b : Bw h a z tk j) (e : ∀ ob, h.get? a = some ob → g.get? a = some ob) : Bw g a z tk j := by
  obtain ⟨ob, at_, r⟩ := b
  exact ⟨ob, e ob at_, r⟩
section
variable {prog : Program} {w : World} {A : Around} {E : Value → Shared → Prop} {s : Shared} {z : Str} {tk : Tok}
theorem Bw.ty {a : Addr} {j : Int} (b : Bw s.heap a z tk j) : s.TypeIs (.ref a) "reversed" := by
  obtain ⟨ob, at_, c, _⟩ := b
  exact ⟨ob, at_, c⟩
def bwObj (z : Str) (tk : Tok) (j : Int) : Obj := { cls := .type "reversed", data := .fields #[.str z tk, rawInt j] }
theorem bw_code {R : Value → Shared → Prop} (fit : ¬ (z.length : Int) ≥ 2 ^ 63) (good : R (.ref s.heap.objs.size) { s with heap := s.heap.push (bwObj z tk ((z.length : Int) - 1)), toks := s.toks + 1 + 1 }) :
    codeAny (model prog w) A (.call (.builtin "reversed.__new__") ⟨[.type "reversed", .str z tk], []⟩) (wants R E) s := by
  have ty := typeIs_str s z tk
  apply codeAny_of_tree
  show wpAny _ A.in1 (checkBuiltinCall "reversed.__new__" ⟨[.type "reversed", .str z tk], []⟩ >>= fun _ => again (.builtin "reversed.__new__" ⟨[.type "reversed", .str z tk], []⟩)) _ _ s
  apply wpAny_bind
  apply wpAny_of_eq (F.newCall_reversed_1 _)
  refine wpAny_pure ⟨plainId_quiet F.plain_reversed_new _, codeAny_builtin F.entry_reversed_new (?body)⟩
  case body =>
  rw [Around.under_plainId F.plain_reversed_new]
  unfold Builtin.«reversed.__new__»; apply wpAny_bind
  refine wpAny_of_eq (newClass_reversed (.str z tk)) (?_ : wpAny _ _ _ _ _ s)
  apply wpAny_bind
  apply wpAny_of_eq (a := ()) (by kernel_rfl)
  apply wpAny_bind
  apply wpAny_of_eq (a := ()) (by kernel_rfl)
  apply wpAny_bind
  apply wpAny_specialOf ty str_norev
  apply wpAny_bind
  wp_delta
  apply wpAny_bind
  refine wpAny_isInstance (T := "str") (U := "dict") (b := false) ty F.sub_str_dict (?_ : wpAny _ _ _ _ _ s)
  rw [if_neg Bool.false_ne_true]; apply wpAny_bind
  refine wpAny_specialOf ty str_get (?_ : wpAny _ _ _ _ _ s)
  dsimp only
  rw [if_pos (show (["tuple.__getitem__", "str.__getitem__", "bytes.__getitem__", "bytearray.__getitem__", "memoryview.__getitem__", "numpy.ndarray.__getitem__", "sqlite3.Row.__getitem__"].contains "str.__getitem__") = true by decide +kernel)]
  apply wpAny_pure
  rw [if_neg (show ¬ (!true) = true by decide)]
  apply wpAny_bind
  refine PySem.P.len_str fit (?_ : wpAny _ _ _ _ _ _)
  apply wpAny_bind
  refine wpAny_of_eq (a := some (z.length : Int)) rfl (?_ : wpAny _ _ _ _ _ _)
  apply wpAny_bind
  show wpAny _ _ (newObj (.type "reversed") (.fields #[.str z tk, rawInt ((z.length : Int) - 1)])) _ _ _
  exact wpAny_newObj_type (wpAny_pure good)
theorem bw_call {R : Value → Shared → Prop} (fit : ¬ (z.length : Int) ≥ 2 ^ 63) (good : R (.ref s.heap.objs.size) { s with heap := s.heap.push (bwObj z tk ((z.length : Int) - 1)), toks := s.toks + 1 + 1 }) :
    wpAny (model prog w) A (call (.type "reversed") [.str z tk]) R E s := by
  have made := bw_code (prog := prog) (w := w) (A := A.in1) (E := E) (s := s) (tk := tk) (R := fun v g => g.TypeIs v "reversed" ∧ R v g) fit ⟨⟨_, Heap.get?_push_size _ rfl, rfl⟩, good⟩
  refine callType_codes RT.called_rt (F.typeCall_reversed_1 _) F.entry_object_init made fun v g h => ?_
  exact ⟨h.1, F.args_object_init_2 v _, object_init_meets RT.called_rt.init.lookup RT.called_rt.made (by decide) prog w A.in1 _ g ⟨h.1, rfl, h.2⟩⟩
theorem bw_iter {a : Addr} {j : Int} {R : Value → Shared → Prop} (b : Bw s.heap a z tk j) (good : R (.ref a) s) : wpAny (model prog w) A (pyIter (.ref a)) R E s := by
  refine wpAny_pyIter_slot b.ty RT.slot_rt_iter (wpAny_call_entry RT.slot_rt_iter b.ty RT.entry_rt_iter (?_ : wpAny _ _ (ret (.ref a)) _ _ s) (RT.args_rt_iter _))
  exact wpAny_pure ⟨_, rfl, "reversed", _, b.ty, RT.slot_rt_next.lookup, good⟩
theorem bw_more {a : Addr} {j c : Nat} {R : Option Value → Shared → Prop} (b : Bw s.heap a z tk (j : Nat)) (hc : z.cps[j]? = some c) (few : z.length ≤ sizeLine)
    (good : ∀ h u, Bw h a z tk ((j : Int) - 1) → Heap.SameBut a s.heap h → R (some (.str ⟨#[c]⟩ u)) { s with heap := h, toks := u + 1 }) : wpAny (model prog w) A (pyNext (.ref a)) R E s := by
  obtain ⟨ob, at_, cl, dt⟩ := id b
  have lt : j < z.length := (Array.getElem?_eq_some_iff.mp hc).1
  have big := sizeLine_eq
  unfold pyNext
  apply wpAny_bind
  apply wpAny_attempt
  refine wpAny_callSpecial?_slot (name := Str.ofString "__next__") b.ty RT.slot_rt_next (wpAny_call_entry RT.slot_rt_next b.ty RT.entry_rt_next (?_ : wpAny _ _ _ _ _ s) (RT.args_rt_next _))
  unfold Builtin.«reversed.__next__»; apply wpAny_bind
  apply wpAny_of_eq (a := (Value.ref a, [])) rfl
  apply wpAny_bind
  refine wpAny_field at_ dt (x := .str z tk) rfl (?_ : wpAny _ _ _ _ _ s)
  apply wpAny_bind
  refine wpAny_field at_ dt (x := rawInt (j : Int)) rfl (?_ : wpAny _ _ (if (j : Int) < 0 then _ else _) _ _ s)
  rw [if_neg (show ¬ (j : Int) < 0 by omega)]
  apply wpAny_bind
  refine wpAny_specialOf (typeIs_str s z tk) str_get (?_ : wpAny _ _ _ _ _ s)
  rw [if_neg (show ¬ ((some (Value.builtin "str.__getitem__")).isNone = true) by decide)]
  apply wpAny_bind
  refine wpAny_mkInt (?_ : wpAny _ _ _ _ _ { s with toks := s.toks + 1 })
  apply wpAny_bind
  apply wpAny_attempt
  have ix : (seqIndex? (j : Int) z.length).bind (z.cps[·]?) = some c := by
    rw [seqIx (by omega) (by omega), Int.toNat_natCast]
    exact hc
  refine PySem.P.getItem_str (s := { s with toks := s.toks + 1 }) ?_ ix (?_ : wpAny _ _ _ _ _ { s with toks := s.toks + 1 + 1 })
  · rw [Bool.or_eq_false_iff]
    exact ⟨decide_eq_false (by omega), decide_eq_false (by omega)⟩
  apply wpAny_bind
  refine wpAny_field (s := { s with toks := s.toks + 1 + 1 }) at_ dt (x := rawInt (j : Int)) rfl (?_ : wpAny _ _ _ _ _ _)
  apply wpAny_bind
  refine wpAny_setField (s := { s with toks := s.toks + 1 + 1 }) at_ dt (by simp) (?_ : wpAny _ _ _ _ _ _)
  have bw2 : Bw (s.heap.update a (Obj.mapFields (·.setIfInBounds 1 (rawInt ((j : Int) - 1))))) a z tk ((j : Int) - 1) :=
    ⟨_, Heap.get?_update_self _ at_ (Obj.isFreed_of_fields (Obj.data_mapFields dt _)), (Obj.cls_mapFields ..).trans cl, by rw [Obj.data_mapFields dt]; simp⟩
  exact wpAny_pure ⟨_, rfl, wpAny_pure (good _ (s.toks + 1) bw2 (Heap.SameBut.update ..))⟩
theorem bw_end {a : Addr} {R : Option Value → Shared → Prop} (calm : A.handled = none) (b : Bw s.heap a z tk (-1)) (good : ∀ h, Heap.ExtBut a s.heap h → R none { s with heap := h }) : wpAny (model prog w) A (pyNext (.ref a)) R E s := by
  obtain ⟨ob, at_, cl, dt⟩ := id b
  unfold pyNext
  apply wpAny_bind
  apply wpAny_attempt
  refine wpAny_callSpecial?_slot (name := Str.ofString "__next__") b.ty RT.slot_rt_next (wpAny_call_entry RT.slot_rt_next b.ty RT.entry_rt_next (?_ : wpAny _ _ _ _ _ s) (RT.args_rt_next _))
  unfold Builtin.«reversed.__next__»; apply wpAny_bind
  apply wpAny_of_eq (a := (Value.ref a, [])) rfl
  apply wpAny_bind
  refine wpAny_field at_ dt (x := .str z tk) rfl (?_ : wpAny _ _ _ _ _ s)
  apply wpAny_bind
  refine wpAny_field at_ dt (x := rawInt (-1)) rfl (?_ : wpAny _ _ (if (-1 : Int) < 0 then _ else _) _ _ s)
  rw [if_pos (show (-1 : Int) < 0 by decide)]
  apply wpAny_bind
  apply wpAny_rule
  apply wpAny_bind
  wp_delta
  apply wpAny_bind
  refine wpAny_setField at_ dt (by simp) (?_ : wpAny _ _ _ _ _ _)
  have at2 := Heap.get?_update_self (Obj.mapFields (·.setIfInBounds 1 (rawInt (-1)))) at_ (Obj.isFreed_of_fields (Obj.data_mapFields dt _))
  refine wpAny_setField (s := { s with heap := s.heap.update a (Obj.mapFields (·.setIfInBounds 1 (rawInt (-1)))) }) at2 (Obj.data_mapFields dt _) (by simp) (?_ : wpAny _ _ _ _ _ _)
  apply wpAny_bind
  show wpAny _ _ (newExc (.type "StopIteration") [] >>= raiseNew) _ _ _
  apply wpAny_bind
  simp only [newExc, newTuple, raiseNew]
  apply wpAny_bind
  apply wpAny_newObj_type (h := ?_) (by size_fits)
  apply wpAny_bind (m := firstArgMember _ _)
  apply wpAny_of_eq (a := Value.none) (by simp only [firstArgMember]; rfl)
  apply wpAny_newObj_type (h := ?_) (by size_fits)
  apply wpAny_bind
  apply wpAny_handled
  rw [show A.in1.handled = none from calm]
  refine wpAny_bind (wpAny_pure (wpAny_throw (?_ : wpAny _ _ _ _ _ _)))
  apply wpAny_bind
  refine wpAny_isInstance (T := "StopIteration") (b := true) ⟨_, Heap.get?_push_size _ rfl, rfl⟩ isSubtype_stop (?_ : wpAny _ _ _ _ _ _)
  have ext : Heap.ExtBut a s.heap ((s.heap.update a (Obj.mapFields fun x => x.setIfInBounds 1 (rawInt (-1)))).update a (Obj.mapFields fun x => x.setIfInBounds 0 Value.none)) :=
    fun b ob hb e => (Heap.get?_update_other _ _ (Ne.symm hb)).trans ((Heap.get?_update_other _ _ (Ne.symm hb)).trans e)
  exact wpAny_pure (good _ ((ext.push _).push _))
end
/-- the letters of a word, the last one first -/
def ItB (bs : List Bool) : It where
  go := fun i _ => i < bs.length
  stop := fun i _ => bs.length ≤ i
  yld := fun i H v H' => H' = H ∧ ∃ b, bs.reverse[i]? = some b ∧ v = .str (ltr b)
theorem turnB {P : Program} {w : World} {K : PySem.W.Frag} {tg : Expr} {bs : List Bool} {tk : Tok} (few : bs.length ≤ 1000) (it : Addr) : Turn P w K tg (ItB bs) [it] it (fun i h => i ≤ bs.length ∧ Bw h it (wd bs) tk ((bs.length : Int) - 1 - (i : Nat))) where
  mem := by simp
  obj := by
    rintro i h ⟨_, ob, at_, c, d⟩ b hb
    rw [List.mem_singleton] at hb
    subst hb
    exact ⟨ob, at_, fun v e => by rw [d] at e; cases e⟩
  keep := fun i h g st k => ⟨st.1, st.2.keep fun ob e => k it (by simp) ob e⟩
  item := by
    rintro X rfl rfl rfl calm i pins s σ H E I fr ⟨le, b⟩ lt
    have lt2 : i < bs.length := lt
    obtain ⟨u0, u1, _, u3, u4, u5⟩ := fr it (by simp)
    have ej : (bs.length : Int) - 1 - ((i : Nat) : Int) = ((bs.length - 1 - i : Nat) : Int) := by omega
    rw [ej] at b
    have at_ : bs.length - 1 - i < bs.length := by omega
    have hc : (wd bs).cps[bs.length - 1 - i]? = some (code bs[bs.length - 1 - i]) := by
      show (bs.map code).toArray[bs.length - 1 - i]? = _
      rw [List.getElem?_toArray, List.getElem?_map, List.getElem?_eq_getElem at_]
      rfl
    refine bw_more b hc (by rw [wd_len]; exact Nat.le_of_lt (len_lt (by omega))) fun h u b2 same => ?_
    have eb : bs.reverse[i]? = some bs[bs.length - 1 - i] := by
      rw [List.getElem?_reverse lt2, List.getElem?_eq_getElem at_]
    have e2 : ((bs.length - 1 - i : Nat) : Int) - 1 = (bs.length : Int) - 1 - ((i + 1 : Nat) : Int) := by omega
    rw [e2] at b2
    have J : Inv X pins σ H { s with heap := h, toks := u + 1 } := I.turned (t' := u + 1) (fun c o nc q => (same.2 c nc).trans q) u0 u1 u3 u4 u5
    obtain ⟨o2, a2, c2, d2⟩ := id b2
    exact ⟨_, rfl, go_of (s := { s with heap := h, toks := u + 1 }) a2 c2 d2 (by decide) ⟨.str (ltr bs[bs.length - 1 - i]), H, J, ⟨u, rfl⟩, ⟨rfl, _, eb, rfl⟩, ⟨lt2, b2⟩, fun c hc => (fr c hc).1⟩⟩
  done := by
    rintro X rfl rfl rfl calm i pins s σ H E I fr ⟨le, b⟩ ge
    have ge2 : bs.length ≤ i := ge
    obtain ⟨u0, u1, _, u3, u4, u5⟩ := fr it (by simp)
    have ej : (bs.length : Int) - 1 - ((i : Nat) : Int) = -1 := by omega
    rw [ej] at b
    exact bw_end (I.ok.hd calm) b fun h ext => ⟨rfl, I.turned (t' := s.toks) (fun c o nc q => ext c o nc q) u0 u1 u3 u4 u5⟩
  self := fun _ _ _ _ _ st q => bw_iter st.2 q
def iBack (te : TE) : TI := fun σ H R => te σ H fun x G => ∃ bs : List Bool, x = .str (wd bs) ∧ bs.length ≤ 1000 ∧ R (ItB bs) G
theorem pi_back {X : Cx} {tg e : Expr} {te : TE} {p q : Pos} (hg : Gl X "reversed") (hm : X.mg "reversed" = none) (a : PE X e te) (one : starEach [e] X.env = (false, eval e X.env) :: starEach [] X.env := by rfl) :
    PI X tg (.Call (.Name "reversed" p) [e] [] q) (iBack te) := by
  constructor
  intro pins s σ H R I h
  refine Call_ (ld_blt I hg hm PyProof.Rows.boot_reversed (PyProof.Rows.callWith_type1 (args_cons (thn (a.run pins s σ H _ I h) fun u s1 z => args_nil ?_) one) one rfl))
  obtain ⟨x, G, J, r, bs, rfl, few, good⟩ := z
  obtain ⟨tk, rfl⟩ := r
  have fit : ¬ (((wd bs).length : Nat) : Int) ≥ 2 ^ 63 := by
    rw [wd_len]
    omega
  have e0 : (((wd bs).length : Nat) : Int) - 1 = (bs.length : Int) - 1 - ((0 : Nat) : Int) := by
    rw [wd_len]
    omega
  have here : Bw (s1.heap.push (bwObj (wd bs) tk (((wd bs).length : Int) - 1))) s1.heap.objs.size (wd bs) tk (((wd bs).length : Int) - 1) := ⟨_, Heap.get?_push_size _ rfl, rfl, rfl⟩
  refine bw_call fit (bw_iter (s := { s1 with heap := s1.heap.push (bwObj (wd bs) tk (((wd bs).length : Int) - 1)), toks := s1.toks + 1 + 1 }) here ?_)
  refine pi_one (tk := s1.toks + 1 + 1) J _ (turnB (tk := tk) few s1.heap.objs.size) ⟨Nat.zero_le _, ?_⟩ good
  rw [← e0]
  exact here
/-- for .. in reversed(word) -/
theorem walk_back {bs : List Bool} : Walk (ItB bs) bs.length (fun _ => True) (fun i H x H' => H' = H ∧ ∃ b, bs.reverse[i]? = some b ∧ x = .str (ltr b)) := ⟨fun _ _ lt _ => lt, fun _ _ => Nat.le_refl _, fun _ _ _ _ _ _ y => y⟩
end Lp
namespace Lp
open PySem PySem.Spec PyProof.Rows L2
/-! ### the greatest and the least of a tuple of numbers -/
theorem ints_read {h : Heap} : ∀ {us : List Value} {ns : List Int}, Vals (ns.map V.int) us → ReadsAll h us (ns.map PyData.int) []
  | [], [], _ => .nil
  | _ :: _, n :: ns, .cons ⟨t, e⟩ r => by
    subst e
    exact .cons (as := []) (.int n t) (ints_read r)
theorem ints_alike (ns : List Int) : PySem.W.AlikeAll (ns.map PyData.int) := by
  refine ⟨fun x hx y hy => ?_, fun x hx => ?_⟩
  · obtain ⟨a, _, rfl⟩ := List.mem_map.mp hx
    obtain ⟨b, _, rfl⟩ := List.mem_map.mp hy
    rfl
  · obtain ⟨a, _, rfl⟩ := List.mem_map.mp hx
    exact fun z => nomatch z
theorem fold_max : ∀ (ns : List Int) (n : Int), ns.foldl max n ∈ n :: ns ∧ ∀ y ∈ n :: ns, y ≤ ns.foldl max n
  | [], n => ⟨List.mem_cons_self .., fun y hy => by rw [List.mem_singleton.mp hy]; exact Int.le_refl _⟩
  | k :: ns, n => by
    obtain ⟨m, b⟩ := fold_max ns (max n k)
    rw [List.foldl_cons]
    refine ⟨?_, fun y hy => ?_⟩
    · rcases List.mem_cons.mp m with z | z
      · rw [z]
        rcases Int.le_total n k with w | w
        · rw [Int.max_eq_right w]
          exact List.mem_cons_of_mem _ (List.mem_cons_self ..)
        · rw [Int.max_eq_left w]
          exact List.mem_cons_self ..
      · exact List.mem_cons_of_mem _ (List.mem_cons_of_mem _ z)
    · have top := b (max n k) (List.mem_cons_self ..)
      rcases List.mem_cons.mp hy with rfl | hy
      · omega
      · rcases List.mem_cons.mp hy with rfl | hy
        · omega
        · exact b y (List.mem_cons_of_mem _ hy)
theorem fold_min : ∀ (ns : List Int) (n : Int), ns.foldl min n ∈ n :: ns ∧ ∀ y ∈ n :: ns, ns.foldl min n ≤ y
  | [], n => ⟨List.mem_cons_self .., fun y hy => by rw [List.mem_singleton.mp hy]; exact Int.le_refl _⟩
  | k :: ns, n => by
    obtain ⟨m, b⟩ := fold_min ns (min n k)
    rw [List.foldl_cons]
    refine ⟨?_, fun y hy => ?_⟩
    · rcases List.mem_cons.mp m with z | z
      · rw [z]
        rcases Int.le_total n k with w | w
        · rw [Int.min_eq_left w]
          exact List.mem_cons_self ..
        · rw [Int.min_eq_right w]
          exact List.mem_cons_of_mem _ (List.mem_cons_self ..)
      · exact List.mem_cons_of_mem _ (List.mem_cons_of_mem _ z)
    · have top := b (min n k) (List.mem_cons_self ..)
      rcases List.mem_cons.mp hy with rfl | hy
      · omega
      · rcases List.mem_cons.mp hy with rfl | hy
        · omega
        · exact b y (List.mem_cons_of_mem _ hy)
def rMaxT (K : PySem.W.Frag) : List V → Hp → VK → Prop := fun vs H Q => ∃ (a : Addr) (ns : List Int), vs = [V.ref a] ∧ SqT K H a (ns.map V.int) ∧ ns ≠ [] ∧ ∀ m, m ∈ ns → (∀ y ∈ ns, y ≤ m) → Q (.int m) H
def rMinT (K : PySem.W.Frag) : List V → Hp → VK → Prop := fun vs H Q => ∃ (a : Addr) (ns : List Int), vs = [V.ref a] ∧ SqT K H a (ns.map V.int) ∧ ns ≠ [] ∧ ∀ m, m ∈ ns → (∀ y ∈ ns, m ≤ y) → Q (.int m) H
theorem cr_maxT {X : Cx} (calm : X.calm = true) (room : X.A.units + 1 < cLine) : CallR X (.builtin "max") (rMaxT X.K) := fun pins s σ H vs us Q I r h => by
  obtain ⟨a, ns, rfl, hq, ne, good⟩ := h
  obtain ⟨its, rel, tup, _⟩ := I.tuple hq
  rw [Vals.ref1 r]
  cases ns with
  | nil => exact absurd rfl ne
  | cons n ns =>
    have reads : ReadsAll s.heap its.toArray.toList (.int n :: ns.map PyData.int) [] := ints_read (ns := n :: ns) (by simpa using rel)
    have dep : X.A.units + 1 + PyData.depthAll (.int n :: ns.map PyData.int) < cLine := by
      have := depth_ints (n :: ns)
      rw [List.map_cons] at this
      rw [this]
      exact room
    refine PySem.W.max_tuple_data (I.ok.hd calm) tup reads (ints_alike (n :: ns)) dep fun i v h2 tk bs _ rd keep => ?_
    rw [PySem.W.maxD_ints] at rd
    cases rd with
    | int _ t => exact ⟨.int _, H, I.kept keep, ⟨t, rfl⟩, good _ (fold_max ns n).1 (fold_max ns n).2⟩
theorem cr_minT {X : Cx} (calm : X.calm = true) (room : X.A.units + 1 < cLine) : CallR X (.builtin "min") (rMinT X.K) := fun pins s σ H vs us Q I r h => by
  obtain ⟨a, ns, rfl, hq, ne, good⟩ := h
  obtain ⟨its, rel, tup, _⟩ := I.tuple hq
  rw [Vals.ref1 r]
  cases ns with
  | nil => exact absurd rfl ne
  | cons n ns =>
    have reads : ReadsAll s.heap its.toArray.toList (.int n :: ns.map PyData.int) [] := ints_read (ns := n :: ns) (by simpa using rel)
    have dep : X.A.units + 1 + PyData.depthAll (.int n :: ns.map PyData.int) < cLine := by
      have := depth_ints (n :: ns)
      rw [List.map_cons] at this
      rw [this]
      exact room
    refine PySem.W.min_tuple_data (I.ok.hd calm) tup reads (ints_alike (n :: ns)) dep fun i v h2 tk bs _ rd keep => ?_
    rw [PySem.W.minD_ints] at rd
    cases rd with
    | int _ t => exact ⟨.int _, H, I.kept keep, ⟨t, rfl⟩, good _ (fold_min ns n).1 (fold_min ns n).2⟩
end Lp
namespace Lp
open PySem PySem.Spec PyProof.Rows L2
/-! ### the kinds of the people behind the front -/
def lk (l : List Int) (z : Int) : Option Bool := if (l.all fun y => decide (y ≤ z)) = true then some true else if (l.all fun y => decide (z ≤ y)) = true then some false else none
def kinds (ns : List Int) : List (Option Bool) := (List.range (ns.length - 1)).map fun i => lk (ns.take (i + 1)) (ns.getD (i + 1) 0)
def kV : Option Bool → V
  | some b => .str (ltr b)
  | none => .non
theorem kinds_len (ns : List Int) : (kinds ns).length = ns.length - 1 := by
  unfold kinds
  rw [List.length_map, List.length_range]
theorem kinds_get {ns : List Int} {i : Nat} (h : i + 1 < ns.length) : (kinds ns)[i]? = some (lk (ns.take (i + 1)) ns[i + 1]) := by
  unfold kinds
  rw [List.getElem?_map, List.getElem?_range (by omega)]
  show some (lk (ns.take (i + 1)) (ns.getD (i + 1) 0)) = _
  rw [List.getD_eq_getElem?_getD, List.getElem?_eq_getElem h]
  rfl
theorem kinds_snoc {l : List Int} (z : Int) (h : 1 ≤ l.length) : kinds (l ++ [z]) = kinds l ++ [lk l z] := by
  have e : (l ++ [z]).length - 1 = (l.length - 1) + 1 := by
    rw [List.length_append]
    show l.length + 1 - 1 = _
    omega
  unfold kinds
  rw [e, List.range_succ, List.map_append]
  congr 1
  · refine List.map_congr_left fun i hi => ?_
    have hi2 := List.mem_range.mp hi
    rw [List.take_append_of_le_length (by omega), List.getD_eq_getElem?_getD, List.getD_eq_getElem?_getD, List.getElem?_append_left (by omega)]
  · show [lk ((l ++ [z]).take (l.length - 1 + 1)) ((l ++ [z]).getD (l.length - 1 + 1) 0)] = _
    rw [show l.length - 1 + 1 = l.length by omega, List.take_append_of_le_length (Nat.le_refl _), List.take_length, List.getD_eq_getElem?_getD, List.getElem?_append_right (Nat.le_refl _), Nat.sub_self]
    rfl
theorem lk_max {l : List Int} {z : Int} (h : ∀ y ∈ l, y ≤ z) : lk l z = some true := by
  unfold lk
  rw [if_pos (List.all_eq_true.mpr fun y hy => decide_eq_true (h y hy))]
theorem lk_min {l : List Int} {z : Int} (h1 : l ≠ []) (h : ∀ y ∈ l, z < y) : lk l z = some false := by
  unfold lk
  rw [if_neg, if_pos (List.all_eq_true.mpr fun y hy => decide_eq_true (Int.le_of_lt (h y hy)))]
  intro w
  obtain ⟨y, hy⟩ := List.exists_mem_of_ne_nil l h1
  have a := of_decide_eq_true (List.all_eq_true.mp w y hy)
  have b := h y hy
  omega
theorem lk_inv {l : List Int} {z : Int} {b : Bool} (h : lk l z = some b) : if b then ∀ y ∈ l, y ≤ z else ∀ y ∈ l, z ≤ y := by
  unfold lk at h
  split at h
  · rename_i w
    have e := Option.some.inj h
    subst e
    exact fun y hy => of_decide_eq_true (List.all_eq_true.mp w y hy)
  · split at h
    · rename_i w
      have e := Option.some.inj h
      subst e
      exact fun y hy => of_decide_eq_true (List.all_eq_true.mp w y hy)
    · cases h
/-- a row of kinds is what its word leaves -/
theorem kinds_back : ∀ (n : Nat) (ns ms : List Int) (bs : List Bool), ns.length = n + 1 → ns.Nodup → ms.Perm ns → kinds ns = bs.map some → afterL bs ms = ns
  | 0, ns, ms, bs, hn, nd, pm, hk => by
    obtain ⟨x, rfl⟩ : ∃ x, ns = [x] := List.length_eq_one_iff.mp hn
    have e := List.perm_singleton.mp pm
    subst e
    exact after_one bs x
  | n + 1, ns, ms, bs, hn, nd, pm, hk => by
    have ne : ns ≠ [] := by
      intro z
      rw [z] at hn
      cases hn
    obtain ⟨l, z, rfl⟩ : ∃ l z, ns = l ++ [z] := ⟨ns.dropLast, ns.getLast ne, (List.dropLast_concat_getLast ne).symm⟩
    have ll : l.length = n + 1 := by
      rw [List.length_append] at hn
      have : l.length + 1 = n + 1 + 1 := hn
      omega
    rw [kinds_snoc z (by omega)] at hk
    have bl : bs.length = n + 1 := by
      have := congrArg List.length hk
      rw [List.length_append, kinds_len, List.length_map] at this
      have : l.length - 1 + 1 = bs.length := this
      omega
    have bne : bs ≠ [] := by
      intro w
      rw [w] at bl
      cases bl
    obtain ⟨w, b, rfl⟩ : ∃ w b, bs = w ++ [b] := ⟨bs.dropLast, bs.getLast bne, (List.dropLast_concat_getLast bne).symm⟩
    rw [List.map_append] at hk
    obtain ⟨h1, h2⟩ := List.append_inj' hk rfl
    have h2' : lk l z = some b := by
      have := List.cons.inj h2
      exact this.1
    have wl : w.length = n := by
      rw [List.length_append] at bl
      have : w.length + 1 = n + 1 := bl
      omega
    have mz : z ∈ ms := pm.mem_iff.mpr (List.mem_append_right _ (List.mem_singleton_self z))
    have nz : z ∉ l := fun hz => (List.nodup_append.mp nd).2.2 z hz z (List.mem_singleton_self z) rfl
    have pe : (ms.erase z).Perm l := by
      have := pm.erase z
      rw [List.erase_append_right _ nz] at this
      simpa using this
    have ih := kinds_back n l (ms.erase z) w ll (List.nodup_append.mp nd).1 pe h1
    have ml : ms.length ≤ w.length + 2 := by
      rw [pm.length_eq, hn, wl]
      exact Nat.le_refl _
    have inv := lk_inv h2'
    have mem : ∀ x ∈ ms, x ∈ l ∨ x = z := fun x hx => by
      rcases List.mem_append.mp (pm.mem_iff.mp hx) with q | q
      · exact .inl q
      · exact .inr (List.mem_singleton.mp q)
    cases b with
    | true =>
      rw [ends_max mz (fun x hx => by rcases mem x hx with q | q; exact inv x q; omega) ml, ih]
    | false =>
      rw [ends_min mz (fun x hx => by rcases mem x hx with q | q; exact inv x q; omega) ml, ih]
/-- the word of a final row -/
theorem kinds_fin : ∀ (r : List Bool) (hs : List Int), hs.Pairwise (· < ·) → 1 ≤ hs.length → hs.length ≤ r.length + 1 → kinds (finR r hs) = (r.take (hs.length - 1)).reverse.map some ∧ (finR r hs).Perm hs
  | r, [], _, h, _ => absurd h (by decide)
  | r, [x], _, _, _ => by
    have e : finR r [x] = [x] := by cases r <;> rfl
    rw [e]
    exact ⟨by rfl, .refl _⟩
  | [], x :: y :: l, _, _, h => absurd h (by simp)
  | true :: r, x :: y :: l, up, _, h => by
    have len : (x :: y :: l).dropLast.length = l.length + 1 := by rw [List.length_dropLast]; rfl
    have h' : (x :: y :: l).length ≤ (true :: r).length + 1 := h
    rw [List.length_cons, List.length_cons, List.length_cons] at h'
    have sub := List.dropLast_sublist (x :: y :: l)
    obtain ⟨i1, i2⟩ := kinds_fin r ((x :: y :: l).dropLast) (up.sublist sub) (by omega) (by omega)
    have dl := List.dropLast_concat_getLast (l := x :: y :: l) (by simp)
    have top : ∀ z ∈ finR r ((x :: y :: l).dropLast), z ≤ (x :: y :: l).getLast (by simp) := fun z hz => by
      have hz2 := i2.mem_iff.mp hz
      rw [← dl] at up
      exact Int.le_of_lt ((List.pairwise_append.mp up).2.2 z hz2 _ (List.mem_singleton_self _))
    have fl : 1 ≤ (finR r ((x :: y :: l).dropLast)).length := by rw [i2.length_eq, len]; omega
    refine ⟨?_, ?_⟩
    · rw [finR, kinds_snoc _ fl, i1, lk_max top, len]
      show _ = ((true :: r).take (l.length + 1 + 1 - 1)).reverse.map some
      rw [show l.length + 1 + 1 - 1 = (l.length + 1 - 1) + 1 by omega, List.take_succ_cons, List.reverse_cons, List.map_append]
      rfl
    · rw [finR]
      refine (i2.append_right _).trans ?_
      rw [dl]
  | false :: r, x :: y :: l, up, _, h => by
    have h' : (x :: y :: l).length ≤ (false :: r).length + 1 := h
    rw [List.length_cons, List.length_cons, List.length_cons] at h'
    rw [List.pairwise_cons] at up
    obtain ⟨i1, i2⟩ := kinds_fin r (y :: l) up.2 (by simp) (by rw [List.length_cons]; omega)
    have low : ∀ z ∈ finR r (y :: l), x < z := fun z hz => up.1 z (i2.mem_iff.mp hz)
    have fl : 1 ≤ (finR r (y :: l)).length := by rw [i2.length_eq]; simp
    have fne : finR r (y :: l) ≠ [] := fun z => by rw [z] at fl; cases fl
    refine ⟨?_, ?_⟩
    · rw [finR, kinds_snoc _ fl, i1, lk_min fne low]
      show _ = ((false :: r).take (l.length + 1 + 1 - 1)).reverse.map some
      rw [show l.length + 1 + 1 - 1 = ((y :: l).length - 1) + 1 by rw [List.length_cons]; omega, List.take_succ_cons, List.reverse_cons, List.map_append]
      rfl
    · rw [finR]
      refine (i2.append_right _).trans ?_
      exact List.perm_append_singleton x (y :: l)
end Lp
namespace Lp
open PySem PySem.Spec PyProof.Rows L2
/-! ### a tuple backwards: t[::-1] -/
theorem back_size (n : Nat) : Builtin.Slice.slicePlaces ((n : Int) - 1) (-1) (-1) = n := by
  unfold Builtin.Slice.slicePlaces; rw [if_neg (show ¬ (-1 : Int) > 0 by decide)]
  split
  · have e : ((n : Int) - 1 - -1 - 1) / (- -1) = (n : Int) - 1 := by
      rw [show (- -1 : Int) = 1 from rfl, Int.ediv_one]
      omega
    rw [e]
    omega
  · omega
theorem fm_congr {α β : Type} {f g : α → Option β} : ∀ {l : List α}, (∀ x ∈ l, f x = g x) → l.filterMap f = l.filterMap g
  | [], _ => rfl
  | x :: l, h => by
    rw [List.filterMap_cons, List.filterMap_cons, h x (List.mem_cons_self ..), fm_congr fun y hy => h y (List.mem_cons_of_mem _ hy)]
theorem back_items (xs : Array Value) : ((List.range xs.size).filterMap fun (k : Nat) => xs[((xs.size : Int) - 1 + (k : Int) * -1).toNat]?).toArray = xs.toList.reverse.toArray := by
  congr 1
  have e : (List.range xs.size).filterMap (fun (k : Nat) => xs[((xs.size : Int) - 1 + (k : Int) * -1).toNat]?) = ((List.range xs.size).map fun k => xs.size - 1 - k).filterMap (xs[·]?) := by
    rw [List.filterMap_map]
    refine fm_congr fun k hk => ?_
    have := List.mem_range.mp hk
    have z : ((xs.size : Int) - 1 + (k : Int) * -1).toNat = xs.size - 1 - k := by omega
    show xs[((xs.size : Int) - 1 + (k : Int) * -1).toNat]? = xs[xs.size - 1 - k]?
    rw [z]
  rw [e, PySem.W.krv_range, List.filterMap_reverse, PySem.W.krv_all]
section
variable {prog : Program} {w : World} {A : Around} {E : Value → Shared → Prop} {s : Shared}
theorem back_parts {sl : Addr} {n : Nat} {tk : Tok} {R : Int × Int × Nat → Shared → Prop} (h : s.heap.IsSliceOf sl .none .none (.int (-1) tk)) (good : R ((n : Int) - 1, -1, n) s) : wpAny (model prog w) A (Builtin.Slice.sliceApplied (.ref sl) (pure (n : Int))) R E s := by
  obtain ⟨ob, at_, cl, dt⟩ := id h
  unfold Builtin.Slice.sliceApplied Builtin.Slice.sliceFields; apply wpAny_bind
  refine wpAny_bind (wpAny_field at_ dt (x := .none) rfl (?_ : wpAny _ _ _ _ _ s))
  refine wpAny_bind (wpAny_field at_ dt (x := .none) rfl (?_ : wpAny _ _ _ _ _ s))
  refine wpAny_bind (wpAny_field at_ dt (x := .int (-1) tk) rfl (wpAny_pure (?_ : wpAny _ _ _ _ _ s)))
  refine wpAny_bind (HT.slicePart_ (.int (-1) tk) (?_ : wpAny _ _ (if ((-1 : Int) == 0) = true then _ else _) _ _ s))
  rw [if_neg (show ¬ ((-1 : Int) == 0) = true by decide)]
  refine wpAny_bind (HT.slicePart_ .none (wpAny_bind (HT.slicePart_ .none (wpAny_bind (wpAny_pure (?_ : wpAny _ _ _ _ _ s))))))
  show wpAny _ _ (pure ((n : Int) - 1, (-1 : Int), Builtin.Slice.slicePlaces ((n : Int) - 1) (-1) (-1))) _ _ s
  rw [back_size]
  exact wpAny_pure good
theorem back_item {t sl : Addr} {items : Array Value} {tk : Tok} {R : Value → Shared → Prop} (ht : IsTup s.heap t items) (hs : s.heap.IsSliceOf sl .none .none (.int (-1) tk)) (few : items.size ≤ sizeLine)
    (good : R (.ref s.heap.objs.size) { s with heap := s.heap.push { cls := .type "tuple", data := .seq items.toList.reverse.toArray } }) : wpAny (model prog w) A (getItem (.ref t) (.ref sl)) R E s := by
  obtain ⟨ob, at_, cl, dt⟩ := id hs
  have ty : s.TypeIs (.ref sl) "slice" := ⟨ob, at_, cl⟩
  have fit : sizeOk (.seq items.toList.reverse.toArray) := by
    show items.toList.reverse.toArray.size ≤ sizeLine
    rw [List.size_toArray, List.length_reverse, Array.length_toList]
    exact few
  unfold getItem
  refine wpAny_holding (?_ : wpAny _ _ _ _ _ s)
  refine wpAny_bind (wpAny_sequenceKey ht.typeIs (by decide) (?_ : wpAny _ _ _ _ _ s))
  refine wpAny_bind (wpAny_callSpecial?_slot (name := Str.ofString "__getitem__") ht.typeIs PyProof.Rows.slot_tuple_getitem (wpAny_call_entry PyProof.Rows.slot_tuple_getitem ht.typeIs PyProof.Rows.entry_tuple_getitem (?_ : wpAny _ _ (Builtin.Tuple.tupleItemsOf (.ref t) >>= _) _ _ s) (PyProof.Rows.args_tuple_getitem _ _)))
  refine wpAny_bind (PyProof.Rows.tupleItemsOf_ ht (?_ : wpAny _ _ _ _ _ s))
  refine wpAny_bind (wpAny_typeOf ty (?_ : wpAny _ _ _ _ _ s))
  rw [if_pos (show (Value.type "slice" == Value.type "slice") = true by decide)]
  refine wpAny_bind (back_parts hs (?_ : wpAny _ _ _ _ _ s))
  have off : ¬ ((((items.size : Int) - 1 == 0) && ((-1 : Int) == 1) && (items.size == items.size)) = true) := by
    rw [show ((-1 : Int) == 1) = false by decide, Bool.and_false, Bool.false_and]
    exact Bool.false_ne_true
  show wpAny _ _ (if (((items.size : Int) - 1 == 0) && ((-1 : Int) == 1) && (items.size == items.size)) = true then _ else _) _ _ s
  rw [if_neg off, back_items]
  exact wpAny_bind (m := Builtin.Tuple.tupleExact _) (wpAny_newObj_type (wpAny_pure ⟨_, rfl, wpAny_pure good⟩) fit)
end
def tBackT (K : PySem.W.Frag) (te : TE) : TE := fun σ H Q => te σ H fun x G => ∃ a xs, x = .ref a ∧ SqT K G a xs ∧ ∀ p, G p = none → Q (.ref p) (upd G p (.tup xs.reverse))
theorem pe_backT {X : Cx} {e : Expr} {te : TE} {j : Nat} {q1 q2 q3 q : Pos} (a : PE X e te) : PE X (.Subscript e (.Slice none none (some (.UnaryOp .USub (.Constant (.int 1) j q1) q2)) q3) q) (tBackT X.K te) := by
  constructor
  intro pins s σ H Q I h
  refine Subscript_ (thn (a.run pins s σ H _ I h) fun v s1 z => ?_)
  obtain ⟨x, H1, I1, r1, b, xs, rfl, hx, good⟩ := z
  cases r1
  refine wpAny_Slice (thn (po_none.run pins s1 σ H1 (fun o G => o = none ∧ G = H1) I1 ⟨rfl, rfl⟩) fun vl s2 z => ?_)
  obtain ⟨_, G2, I2, pl, rfl, rfl⟩ := z
  refine thn (po_none.run pins s2 σ _ (fun o G => o = none ∧ G = G2) I2 ⟨rfl, rfl⟩) fun vu s3 z => ?_
  obtain ⟨_, G3, I3, pu, rfl, rfl⟩ := z
  refine thn (minus_one.run pins s3 σ _ (fun o G => o = some (-1) ∧ G = G3) I3 ⟨1, rfl, -1, rfl, rfl, rfl⟩) fun vs s4 z => ?_
  obtain ⟨_, G4, I4, ps, rfl, rfl⟩ := z
  cases pl
  cases pu
  cases ps with
  | int _ tk =>
    have J := I4.kept (t' := s4.toks) (h' := s4.heap.push { cls := .type "slice", data := .fields #[.none, .none, .int (-1) tk] }) fun b ob w => Heap.get?_push_of_some _ w
    obtain ⟨its, r, ht, few⟩ := J.tuple hx
    have size : its.toArray.size ≤ sizeLine := by
      rw [List.size_toArray, ← r.length]
      exact few
    refine tail_any (ops := [.ref b, .ref s4.heap.objs.size]) ht.typeIs PyProof.Rows.slot_tuple_getitem.lookup ?_ (by with_unfolding_all rfl)
    refine back_item ht (Heap.IsSliceOf.new _ .none .none (.int (-1) tk)) size ?_
    have same : its.toArray.toList.reverse.toArray = its.reverse.toArray := by simp
    have new := J.laid (t' := s4.toks) (o := .tup xs.reverse) (h' := (s4.heap.push { cls := .type "slice", data := .fields #[.none, .none, .int (-1) tk] }).push { cls := .type "tuple", data := .seq its.toArray.toList.reverse.toArray }) (fun b ob w => Heap.get?_push_of_some _ w) (Nat.le_refl _) ⟨by rw [List.length_reverse]; exact few, its.reverse, r.reverse, by rw [← same]; exact IsTup.new _ _⟩
    exact ⟨.ref _, _, new, rfl, good _ (J.hok.fresh (Nat.le_refl _))⟩
/-! ### rows told apart -/
theorem eqv_all : ∀ a b : List Int, PyData.eqvAll (a.map PyData.int) (b.map PyData.int) = decide (a = b)
  | [], [] => by simp [PyData.eqvAll]
  | [], y :: b => by simp [PyData.eqvAll]
  | x :: a, [] => by simp [PyData.eqvAll]
  | x :: a, y :: b => by
    rw [List.map_cons, List.map_cons, PyData.eqvAll, eqv_all a b, PyData.eqv]
    by_cases h : x = y
    · by_cases h2 : a = b
      · simp [h, h2]
      · simp [h, h2]
    · simp [h]
theorem eqv_rows (a b : List Int) : PyData.eqv (.tuple (a.map PyData.int)) (.tuple (b.map PyData.int)) = decide (a = b) := by
  rw [PyData.eqv, eqv_all]
end Lp
namespace Lp
open PySem PySem.Spec PyProof.Rows L2
/-! ### a row that tells words apart -/
theorem end_sign {e X : List Bool} {b : Bool} {v : List Int} {h : Int} (ne : v ≠ []) (hX : sgn h v = X ++ [b]) (hf : e.count false + 1 ≤ (sgn h v).count false) (ht : e.count true + 1 ≤ (sgn h v).count true) :
    sgn h (afterL e v) = dropN (e.count false) (e.count true) X ++ [b] ++ e := by
  rw [after_sgn h e v ne, dropN_app, show e.count false - (sgn h v).count false = 0 by omega, show e.count true - (sgn h v).count true = 0 by omega, dropN_0, hX, dropN_app]
  rw [hX, List.count_append] at hf ht
  have f1 : e.count false - X.count false = 0 := by
    cases b
    · simp at hf; omega
    · simp at hf; omega
  have t1 : e.count true - X.count true = 0 := by
    cases b
    · simp at ht; omega
    · simp at ht; omega
  rw [f1, t1, dropN_0]
theorem tell_end {e XA XB : List Bool} {c : Bool} {va vb : List Int} {h : Int} (na : va ≠ []) (nb : vb ≠ []) (len : va.length = vb.length) (hA : sgn h va = XA ++ [c]) (hB : sgn h vb = XB ++ [!c])
    (fa : e.count false + 1 ≤ (sgn h va).count false) (ta : e.count true + 1 ≤ (sgn h va).count true) (fb : e.count false + 1 ≤ (sgn h vb).count false) (tb : e.count true + 1 ≤ (sgn h vb).count true) : afterL e va ≠ afterL e vb := by
  intro z
  have a1 := end_sign na hA fa ta
  have b1 := end_sign nb hB fb tb
  rw [z, b1] at a1
  have h1 := List.append_cancel_right a1
  have h2 := (List.append_inj' h1 rfl).2
  have h3 := (List.cons.inj h2).1
  cases c <;> cases h3
theorem pass_end {b : Bool} {v : List Int} {h : Int} (ne : v ≠ []) (hb : 1 ≤ (sgn h v).count b) : ∃ X, sgn h (passL b v) = X ++ [b] := by
  refine ⟨(sgn h v).erase b, ?_⟩
  rw [pass_sgn b h ne, List.erase_append_left _ (List.count_pos_iff.mp hb)]
/-- below a height, of the heights 1 to m -/
theorem count_rg {m : Nat} {h : Int} (h0 : 1 ≤ h) (h1 : h ≤ (m : Nat) + 1) {v : List Int} (p : v.Perm (rg 1 ((m : Nat) + 1))) : ((sgn h v).count false : Int) = h - 1 ∧ ((sgn h v).count true : Int) = (m : Nat) + 1 - h := by
  have two := count_two (sgn h v)
  have ln : v.length = m := by rw [p.length_eq, rg_len]; omega
  rw [sgn_len, ln] at two
  have up : (rg 1 ((m : Nat) + 1)).Pairwise (· ≤ ·) := by
    unfold rg
    exact List.pairwise_map.mpr (List.pairwise_lt_range.imp fun h => by omega)
  have e : (sgn h v).count false = ((rg 1 ((m : Nat) + 1)).filter fun y => decide (y < h)).length := by
    rw [(sgn_perm p).count_eq, zeros_count]
  have c : ∀ k : Nat, (((List.range k).map fun i : Nat => (1 : Int) + (i : Nat)).filter fun y => decide (y < h)).length = min k (h - 1).toNat := fun k => by
    induction k with
    | zero => simp
    | succ k ih =>
      rw [List.range_succ, List.map_append, List.filter_append, List.length_append, ih]
      by_cases w : (1 : Int) + (k : Nat) < h
      · simp [w]
        omega
      · simp [w]
        omega
  have e2 : ((rg 1 ((m : Nat) + 1)).filter fun y => decide (y < h)).length = min m (h - 1).toNat := by
    unfold rg
    have := c ((((m : Nat) : Int) + 1 - 1).toNat)
    rw [this]
    congr 1
    omega
  rw [e2] at e
  constructor
  · omega
  · omega
/-- the words' common end; the letter ahead of it in the longer one; the row -/
def tellRow (c : Bool) (e : List Bool) (m : Nat) : List Int :=
  rg 1 (1 + (e.count false : Nat)) ++ rg ((m : Nat) + 1 - (e.count true : Nat)) ((m : Nat) + 1) ++ (if c then (rg (1 + (e.count false : Nat)) ((m : Nat) + 1 - (e.count true : Nat))).reverse else rg (1 + (e.count false : Nat)) ((m : Nat) + 1 - (e.count true : Nat)))
theorem rg_glue {a b c : Int} (h1 : a ≤ b) (h2 : b ≤ c) : rg a b ++ rg b c = rg a c := by
  unfold rg
  obtain ⟨x, hx⟩ : ∃ x : Nat, b = a + (x : Nat) := ⟨(b - a).toNat, by omega⟩
  obtain ⟨y, hy⟩ : ∃ y : Nat, c = b + (y : Nat) := ⟨(c - b).toNat, by omega⟩
  subst hx
  subst hy
  rw [show (a + (x : Nat) - a).toNat = x by omega, show (a + (x : Nat) + (y : Nat) - (a + (x : Nat))).toNat = y by omega, show (a + (x : Nat) + (y : Nat) - a).toNat = x + y by omega, List.range_add, List.map_append, List.map_map]
  congr 1
  refine List.map_congr_left fun i _ => ?_
  show a + (x : Nat) + (i : Nat) = a + ((x + i : Nat) : Int)
  omega
theorem tellRow_perm {c : Bool} {e : List Bool} {m : Nat} (h : e.length ≤ m) : (tellRow c e m).Perm (rg 1 ((m : Nat) + 1)) := by
  have two := count_two e
  unfold tellRow
  have g1 := rg_glue (a := 1) (b := 1 + (e.count false : Nat)) (c := (m : Nat) + 1 - (e.count true : Nat)) (by omega) (by omega)
  have g2 := rg_glue (a := 1) (b := (m : Nat) + 1 - (e.count true : Nat)) (c := (m : Nat) + 1) (by omega) (by omega)
  have mid : (if c then (rg (1 + (e.count false : Nat)) ((m : Nat) + 1 - (e.count true : Nat))).reverse else rg (1 + (e.count false : Nat)) ((m : Nat) + 1 - (e.count true : Nat))).Perm (rg (1 + (e.count false : Nat)) ((m : Nat) + 1 - (e.count true : Nat))) := by
    cases c
    · exact .refl _
    · exact List.reverse_perm _
  rw [← g2, ← g1, List.append_assoc, List.append_assoc]
  exact (List.perm_append_comm.trans (mid.append_right _)).append_left _
theorem tellRow_last {c : Bool} {e : List Bool} {m : Nat} (h : e.length + 2 ≤ m) : ∃ X, sgn (if c then (e.count false : Nat) + 2 else (m : Nat) - (e.count true : Nat)) (tellRow c e m) = X ++ [!c] := by
  have two := count_two e
  cases c with
  | true =>
    have g := rg_glue (a := 1 + (e.count false : Nat)) (b := 1 + (e.count false : Nat) + 1) (c := (m : Nat) + 1 - (e.count true : Nat)) (by omega) (by omega)
    have one : rg (1 + (e.count false : Nat)) (1 + (e.count false : Nat) + 1) = [1 + ((e.count false : Nat) : Int)] := by
      unfold rg
      rw [show (1 + ((e.count false : Nat) : Int) + 1 - (1 + ((e.count false : Nat) : Int))).toNat = 1 by omega]
      simp
    unfold tellRow sgn
    rw [if_pos rfl, if_pos rfl, ← g, one, List.reverse_append, List.reverse_singleton, ← List.append_assoc, List.map_append]
    show ∃ X, _ ++ [decide (((e.count false : Nat) : Int) + 2 ≤ 1 + ((e.count false : Nat) : Int))] = X ++ [false]
    rw [decide_eq_false (show ¬ (((e.count false : Nat) : Int) + 2 ≤ 1 + ((e.count false : Nat) : Int)) by omega)]
    exact ⟨_, rfl⟩
  | false =>
    have g := rg_glue (a := 1 + (e.count false : Nat)) (b := (m : Nat) - (e.count true : Nat)) (c := (m : Nat) + 1 - (e.count true : Nat)) (by omega) (by omega)
    have one : rg ((m : Nat) - (e.count true : Nat)) ((m : Nat) + 1 - (e.count true : Nat)) = [((m : Nat) : Int) - (e.count true : Nat)] := by
      unfold rg
      rw [show (((m : Nat) : Int) + 1 - (e.count true : Nat) - (((m : Nat) : Int) - (e.count true : Nat))).toNat = 1 by omega]
      simp
    unfold tellRow sgn
    rw [if_neg Bool.false_ne_true, if_neg Bool.false_ne_true, ← g, one, ← List.append_assoc, List.map_append]
    show ∃ X, _ ++ [decide (((m : Nat) : Int) - (e.count true : Nat) ≤ ((m : Nat) : Int) - (e.count true : Nat))] = X ++ [true]
    rw [decide_eq_true (show ((m : Nat) : Int) - (e.count true : Nat) ≤ ((m : Nat) : Int) - (e.count true : Nat) by omega)]
    exact ⟨_, rfl⟩
/-- the row tells them apart: one word ends with c and e, the other with the other letter and e, or is e -/
theorem tell_apart {c : Bool} {e w : List Bool} {m : Nat} (h : e.length + 2 ≤ m) {v : List Bool} (hv : v = [] ∨ ∃ u, v = u ++ [!c]) : afterL (w ++ [c] ++ e) (tellRow c e m) ≠ afterL (v ++ e) (tellRow c e m) := by
  have two := count_two e
  have pr := tellRow_perm (c := c) (e := e) (m := m) (by omega)
  have rl : (tellRow c e m).length = m := by rw [pr.length_eq, rg_len]; omega
  have neOf : ∀ x : List Bool, afterL x (tellRow c e m) ≠ [] := fun x z => by
    have := afterL_len x (tellRow c e m)
    rw [z, rl] at this
    have : 0 = m := this
    omega
  have cnt : ∀ x : List Bool, e.count false + 1 ≤ (sgn (if c then (e.count false : Nat) + 2 else (m : Nat) - (e.count true : Nat)) (afterL x (tellRow c e m))).count false ∧ e.count true + 1 ≤ (sgn (if c then (e.count false : Nat) + 2 else (m : Nat) - (e.count true : Nat)) (afterL x (tellRow c e m))).count true := fun x => by
    have p := (afterL_perm x (tellRow c e m)).trans pr
    cases c with
    | true =>
      have k := count_rg (h := ((e.count false : Nat) : Int) + 2) (by omega) (by omega) p
      rw [if_pos rfl]
      omega
    | false =>
      have k := count_rg (h := ((m : Nat) : Int) - (e.count true : Nat)) (by omega) (by omega) p
      rw [if_neg Bool.false_ne_true]
      omega
  rw [afterL_app (w ++ [c]) e, afterL_app v e]
  have last : ∀ (x : List Bool) (b : Bool), ∃ X, sgn (if c then (e.count false : Nat) + 2 else (m : Nat) - (e.count true : Nat)) (afterL (x ++ [b]) (tellRow c e m)) = X ++ [b] := fun x b => by
    rw [afterL_app]
    refine pass_end (neOf x) ?_
    have k := cnt x
    cases b
    · omega
    · omega
  obtain ⟨XA, hA⟩ := last w c
  obtain ⟨XB, hB⟩ : ∃ X, sgn (if c then (e.count false : Nat) + 2 else (m : Nat) - (e.count true : Nat)) (afterL v (tellRow c e m)) = X ++ [!c] := by
    rcases hv with rfl | ⟨u, rfl⟩
    · exact tellRow_last h
    · exact last u (!c)
  exact tell_end (neOf _) (neOf _) (by rw [afterL_len, afterL_len]) hA hB (cnt _).1 (cnt _).2 (cnt _).1 (cnt _).2
/-- how many letters two words have in common at their ends -/
def comE : List Bool → List Bool → Nat
  | a :: x, b :: y => if a = b then comE x y + 1 else 0
  | _, _ => 0
end Lp
namespace Lp
open PySem PySem.Spec PyProof.Rows L2
/-! ### tuples whose object is known: they have methods -/
structure TupO (o : Obj) : Prop where
  cls : o.cls = .type "tuple"
  nod : o.dict = none
def TupAt (H : Hp) (p : Addr) (xs : List V) : Prop := ∃ o, TupO o ∧ H p = some (.frz o (.tup xs))
theorem TupAt.sq {K : PySem.W.Frag} {H : Hp} {p : Addr} {xs : List V} (h : TupAt H p xs) : SqT K H p xs := by
  obtain ⟨o, _, e⟩ := h
  exact .inl (.inr ⟨o, e⟩)
theorem TupAt.same {H H' : Hp} {p : Addr} {xs : List V} (h : TupAt H p xs) (s : Same H H') : TupAt H' p xs := by
  obtain ⟨o, t, e⟩ := h
  exact ⟨o, t, s _ _ e⟩
theorem TupAt.kp {H H' : Hp} {p a : Addr} {xs : List V} (h : TupAt H p xs) (s : Kp a H H') (ne : p ≠ a) : TupAt H' p xs := by
  obtain ⟨o, t, e⟩ := h
  exact ⟨o, t, s _ _ e ne⟩
theorem TupAt.some_ {H : Hp} {p : Addr} {xs : List V} (h : TupAt H p xs) : H p ≠ none := by
  obtain ⟨o, _, e⟩ := h
  rw [e]
  exact fun z => nomatch z
/-- tuple(xs), xs a list: the new object is known -/
def rTupF (K : PySem.W.Frag) : List V → Hp → VK → Prop := fun xs H Q => ∃ p ys, xs = [.ref p] ∧ SqL K H p ys ∧ ∀ l o, TupO o → H l = none → Q (.ref l) (upd H l (.frz o (.tup ys)))
theorem call_tupF {X : Cx} : CallR X (.type "tuple") (rTupF X.K) := by
  intro pins s σ H xs us Q I r h
  obtain ⟨p, ys, rfl, hq, q⟩ := h
  obtain ⟨u, rfl, rx⟩ := vals1 r
  cases rx
  obtain ⟨its, r2, pl, hz⟩ := I.list hq
  have hlen := r2.length
  refine call_tuple_list pl.isList (fun h2 kp => ?_) (by have := line63; simp only [List.size_toArray]; omega)
  have J1 : Inv X pins σ H { s with heap := h2 } := I.kept (t' := s.toks) kp
  have at_ := Heap.get?_push_size h2 (o := { cls := .type "tuple", data := .seq its.toArray }) rfl
  have J2 : Inv X pins σ (upd H h2.objs.size (.frz { cls := .type "tuple", data := .seq its.toArray } (.tup ys))) { s with heap := h2.push { cls := .type "tuple", data := .seq its.toArray } } :=
    J1.laid (t' := s.toks) (fun b o e => Heap.get?_push_of_some _ e) (Nat.le_refl _) (show ObjOk X.prog X.w _ _ _ (.frz _ (.tup ys)) from ⟨at_, hz, its, r2, IsTup.new _ _⟩)
  exact ⟨.ref h2.objs.size, _, J2, rfl, q _ _ ⟨rfl, rfl⟩ (J1.hok.fresh (Nat.le_refl _))⟩
/-- o.index(e), o such a tuple -/
def tTix (r : V → List V → Hp → VK → Prop) (to : TE) (t : TA) : TE := fun σ H Q => to σ H fun x H1 => (∃ p xs, x = .ref p ∧ TupAt H1 p xs) ∧ t σ H1 fun vs H2 => r x vs H2 Q
section
variable {X : Cx} {o e : Expr} {es : List Expr} {to : TE} {t : TA} {apos cpos : Pos} {r : V → List V → Hp → VK → Prop}
theorem pe_tix (hm : MtR X "tuple.index" r) (ho : PE X o to) (ha : PA X (e :: es) t)
    (hbase : attributeBase o "index" X.env (eval o X.env) = eval o X.env := by rfl)
    (few : ((backTo cpos (starEach (e :: es) X.env)).all (fun x => !x.1) && (backToKw cpos (keywordEach [] X.env)).all (fun x => x.1.isSome) && decide ((e :: es).length + ([] : List Keyword).length + (if ([] : List Keyword).isEmpty then 0 else 1) < 30)) = true := by rfl)
    (line : (apos.endLine == cpos.line) = true := by rfl) (st : starEach (e :: es) X.env = (false, eval e X.env) :: starEach es X.env := by rfl) (plain : (backTo cpos (starEach es X.env)).any (·.1) = false := by rfl) :
    PE X (.Call (.Attribute o "index" apos) (e :: es) [] cpos) (tTix r to t) := ⟨fun pins s σ H Q I h => by
  refine wpAny_Call_method_late hbase few line rfl (thn (ho.run pins s σ H _ I h) fun v s1 y => ?_)
  obtain ⟨x, H1, J1, rx, ⟨p, xs, rfl, ob, tb, hp⟩, q1⟩ := y
  cases rx
  have at_ : s1.heap.get? p = some ob := (J1.hok p _ hp).1
  refine ⟨"tuple", "tuple.index", F.plainAttrs_tuple, F.slot_tuple_index, F.type_tuple_index, ⟨ob, at_, tb.cls⟩, fun a ea => ?_, ?_⟩
  · cases ea
    exact ⟨ob, at_, tb.nod⟩
  · have run := ha.run cpos pins s1 σ H1 _ J1 q1
    rw [st] at run ⊢
    refine Calls.callWith_builtin (by show (false || (backTo cpos (starEach es X.env)).any (·.1)) = false; rw [plain]; rfl) (Calls.evalArgs_plain ?_)
    exact thn run fun us s2 y2 => by
      obtain ⟨vs, H2, J2, rs, q2⟩ := y2
      exact hm pins s2 σ H2 (.ref p) vs (.ref p) us Q J2 rfl rs q2⟩
end
end Lp
namespace Lp
open PySem PySem.Spec PyProof.Rows L2
/-! ### the last people: each the tallest or the shortest up to there (bs: from the back) -/
def EndsR : List Bool → List Int → Prop
  | [], _ => True
  | b :: bs, r => ∃ l z, r = l ++ [z] ∧ (∀ y ∈ l, if b then y ≤ z else z ≤ y) ∧ EndsR bs l
def EndsB : List Bool → List Bool → Prop
  | [], _ => True
  | b :: bs, r => ∃ l c, r = l ++ [c] ∧ (c = !b → ∀ y ∈ l, y = !b) ∧ EndsB bs l
theorem snoc_of {α : Type} {l : List α} (h : 1 ≤ l.length) : ∃ m z, l = m ++ [z] := by
  have ne : l ≠ [] := fun e => by
    rw [e] at h
    exact absurd h (Nat.not_succ_le_zero 0)
  exact ⟨l.dropLast, l.getLast ne, (List.dropLast_concat_getLast ne).symm⟩
theorem endsB_const : ∀ (bs l : List Bool) (e : Bool), bs.length ≤ l.length → (∀ y ∈ l, y = e) → EndsB bs l
  | [], _, _, _, _ => trivial
  | b :: bs, l, e, hl, h => by
    rw [List.length_cons] at hl
    obtain ⟨m, z, rfl⟩ := snoc_of (show 1 ≤ l.length by omega)
    rw [List.length_append, List.length_singleton] at hl
    have hz : z = e := h z (by simp)
    refine ⟨m, z, rfl, fun ez y hy => ?_, endsB_const bs m e (by omega) fun y hy => h y (by simp [hy])⟩
    rw [← ez, hz]
    exact h y (by simp [hy])
theorem endsB_erase : ∀ (bs l : List Bool) (b : Bool), bs.length + 1 ≤ l.length → b ∈ l → EndsB bs l → EndsB bs (l.erase b)
  | [], _, _, _, _, _ => trivial
  | d :: bs, l, b, hl, hb, h => by
    rw [List.length_cons] at hl
    obtain ⟨m, c, rfl, h1, h2⟩ := h
    rw [List.length_append, List.length_singleton] at hl
    by_cases hm : b ∈ m
    · rw [List.erase_append_left _ hm]
      exact ⟨m.erase b, c, rfl, fun ec y hy => h1 ec y (List.mem_of_mem_erase hy), endsB_erase bs m b (by omega) hm h2⟩
    · have ec : c = b := by
        rcases List.mem_append.mp hb with z | z
        · exact absurd z hm
        · exact (List.mem_singleton.mp z).symm
      rw [List.erase_append_right _ hm, ec, List.erase_cons_head, List.append_nil]
      refine endsB_const (d :: bs) m (!b) (by rw [List.length_cons]; omega) fun y hy => ?_
      cases y <;> cases b <;> first | rfl | exact absurd hy hm
theorem endsB_pass {bs l : List Bool} {b : Bool} (hl : bs.length + 1 ≤ l.length) (h : EndsB bs l) : EndsB (b :: bs) ((l ++ [b]).erase b) := by
  by_cases hb : b ∈ l
  · rw [List.erase_append_left _ hb]
    exact ⟨l.erase b, b, rfl, (fun e => absurd e (by cases b <;> decide)), endsB_erase bs l b hl hb h⟩
  · rw [List.erase_append_right _ hb, List.erase_cons_head, List.append_nil]
    refine endsB_const (b :: bs) l (!b) (by rw [List.length_cons]; omega) fun y hy => ?_
    cases y <;> cases b <;> first | rfl | exact absurd hy hb
theorem endsB_after (h : Int) {ns : List Int} (ne : ns ≠ []) : ∀ r : List Bool, r.length ≤ ns.length → EndsB r (sgn h (afterL r.reverse ns))
  | [], _ => trivial
  | b :: r, hl => by
    rw [List.length_cons] at hl
    have ih := endsB_after h ne r (by omega)
    rw [List.reverse_cons, afterL_app]
    show EndsB (b :: r) (sgn h (passL b (afterL r.reverse ns)))
    have ln : (afterL r.reverse ns).length = ns.length := afterL_len ..
    have ne2 : afterL r.reverse ns ≠ [] := fun e => by
      rw [e] at ln
      exact ne (List.length_eq_zero_iff.mp ln.symm)
    rw [pass_sgn b h ne2]
    refine endsB_pass ?_ ih
    rw [sgn_len, ln]
    exact hl
theorem endsR_of : ∀ (bs : List Bool) (r : List Int), (∀ h, EndsB bs (sgn h r)) → EndsR bs r
  | [], _, _ => trivial
  | b :: bs, r, hB => by
    have pos : 1 ≤ r.length := by
      obtain ⟨l, c, e, _⟩ := hB 0
      have := congrArg List.length e
      rw [sgn_len, List.length_append, List.length_singleton] at this
      omega
    obtain ⟨m, z, rfl⟩ := snoc_of pos
    have split_ : ∀ h, (decide (h ≤ z) = !b → ∀ y ∈ sgn h m, y = !b) ∧ EndsB bs (sgn h m) := fun h => by
      obtain ⟨l, c, e, h1, h2⟩ := hB h
      have e2 : sgn h (m ++ [z]) = sgn h m ++ [decide (h ≤ z)] := List.map_append ..
      rw [e2] at e
      obtain ⟨e3, e4⟩ := List.append_inj' e rfl
      rw [e3]
      refine ⟨fun q => h1 ?_, h2⟩
      rw [← q]
      exact (List.cons.inj e4).1.symm
    refine ⟨m, z, rfl, fun y hy => ?_, endsR_of bs m fun h => (split_ h).2⟩
    cases b with
    | true =>
      show y ≤ z
      by_cases hlt : y ≤ z
      · exact hlt
      · have := (split_ y).1 (decide_eq_false hlt) (decide (y ≤ y)) (List.mem_map.mpr ⟨y, hy, rfl⟩)
        rw [decide_eq_true (Int.le_refl y)] at this
        cases this
    | false =>
      show z ≤ y
      have := (split_ z).1 (decide_eq_true (Int.le_refl z)) (decide (z ≤ y)) (List.mem_map.mpr ⟨y, hy, rfl⟩)
      exact of_decide_eq_true this
theorem endsR_after {ns : List Int} (ne : ns ≠ []) {r : List Bool} (hl : r.length ≤ ns.length) : EndsR r (afterL r.reverse ns) := endsR_of _ _ fun h => endsB_after h ne r hl
theorem endsR_uniq : ∀ (bs : List Bool) (r g : List Int), EndsR bs r → EndsR bs g → r.Perm g → r.take (r.length - bs.length) = g.take (r.length - bs.length) → r = g
  | [], r, g, _, _, p, e => by
    rw [List.length_nil, Nat.sub_zero, List.take_length, List.take_of_length_le (Nat.le_of_eq p.length_eq.symm)] at e
    exact e
  | b :: bs, r, g, hr, hg, p, e => by
    obtain ⟨l, z, rfl, h1, h2⟩ := hr
    obtain ⟨m, y, rfl, g1, g2⟩ := hg
    have ez : z = y := by
      have a1 : z ∈ m ++ [y] := p.mem_iff.mp (by simp)
      have a2 : y ∈ l ++ [z] := p.mem_iff.mpr (by simp)
      rcases List.mem_append.mp a1 with w1 | w1
      · rcases List.mem_append.mp a2 with w2 | w2
        · have q1 := g1 z w1
          have q2 := h1 y w2
          cases b <;> simp at q1 q2 <;> omega
        · exact (List.mem_singleton.mp w2).symm
      · exact List.mem_singleton.mp w1
    subst ez
    have pl : l.Perm m := (List.perm_append_right_iff [z]).mp p
    have ll := pl.length_eq
    rw [List.length_append, List.length_singleton, List.length_cons, show l.length + 1 - (bs.length + 1) = l.length - bs.length by omega, List.take_append_of_le_length (by omega), List.take_append_of_le_length (by omega)] at e
    rw [endsR_uniq bs l m h2 g2 pl e]
/-! ### the words that may have placed the last people -/
def endsW : List (Option Bool) → List Bool → List (List Bool)
  | some b :: ks, w => w :: endsW ks (b :: w)
  | _, w => [w]
def endsOf (gs : List Int) : List (List Bool) := endsW (kinds gs).reverse []
theorem endsW_nil (w : List Bool) : endsW [] w = [w] := rfl
theorem endsW_none (ks : List (Option Bool)) (w : List Bool) : endsW (none :: ks) w = [w] := rfl
theorem endsW_some (b : Bool) (ks : List (Option Bool)) (w : List Bool) : endsW (some b :: ks) w = w :: endsW ks (b :: w) := rfl
theorem endsW_get : ∀ (ks : List (Option Bool)) (v : List Bool) (j : Nat) (w : List Bool), (endsW ks v)[j]? = some w → j ≤ ks.length ∧ ∃ u : List Bool, u.length = j ∧ w = u.reverse ++ v ∧ ks.take j = u.map some
  | [], v, j, w, h => by
    rw [endsW_nil] at h
    cases j with
    | zero => exact ⟨Nat.le_refl _, [], rfl, (Option.some.inj h).symm, rfl⟩
    | succ j => cases h
  | none :: ks, v, j, w, h => by
    rw [endsW_none] at h
    cases j with
    | zero => exact ⟨Nat.zero_le _, [], rfl, (Option.some.inj h).symm, rfl⟩
    | succ j => cases h
  | some b :: ks, v, j, w, h => by
    rw [endsW_some] at h
    cases j with
    | zero => exact ⟨Nat.zero_le _, [], rfl, (Option.some.inj h).symm, rfl⟩
    | succ j =>
      rw [List.getElem?_cons_succ] at h
      obtain ⟨h1, u, h2, h3, h4⟩ := endsW_get ks (b :: v) j w h
      refine ⟨by rw [List.length_cons]; omega, b :: u, by rw [List.length_cons, h2], ?_, ?_⟩
      · rw [h3, List.reverse_cons, List.append_assoc]
        rfl
      · rw [List.take_succ_cons, h4]
        rfl
theorem kinds_ends : ∀ (u : List Bool) (gs : List Int), (kinds gs).reverse.take u.length = u.map some → u.length ≤ gs.length - 1 → EndsR u gs
  | [], _, _, _ => trivial
  | b :: u, gs, h, hl => by
    rw [List.length_cons] at hl
    obtain ⟨m, z, rfl⟩ := snoc_of (show 1 ≤ gs.length by omega)
    rw [List.length_append, List.length_singleton] at hl
    rw [kinds_snoc z (by omega), List.reverse_append, List.length_cons] at h
    have h2 : lk m z :: (kinds m).reverse.take u.length = some b :: u.map some := h
    obtain ⟨e1, e2⟩ := List.cons.inj h2
    have inv := lk_inv e1
    refine ⟨m, z, rfl, fun y hy => ?_, kinds_ends u m e2 (by omega)⟩
    cases b with
    | true => exact inv y hy
    | false => exact inv y hy
theorem ends_get {gs : List Int} {j : Nat} {w : List Bool} (h : (endsOf gs)[j]? = some w) : w.length = j ∧ j ≤ gs.length - 1 ∧ EndsR w.reverse gs := by
  obtain ⟨h1, u, h2, h3, h4⟩ := endsW_get _ _ _ _ h
  rw [List.length_reverse, kinds_len] at h1
  rw [List.append_nil] at h3
  subst h3
  rw [List.length_reverse, List.reverse_reverse]
  subst h2
  exact ⟨rfl, h1, kinds_ends u gs h4 h1⟩
theorem keptL_after {w : List Bool} {ns : List Int} (hrow : Row ns) (h : w.length ≤ ns.length) : keptL (w.count false) (w.count true) ns = (afterL w ns).take (ns.length - w.length) := by
  have two := count_two w
  unfold keptL
  rw [desk_passes hrow.nd (by omega), show ns.length - w.count false - w.count true = ns.length - w.length by omega]
  have c0 : (List.replicate (w.count false) false ++ List.replicate (w.count true) true).count false = w.count false := by simp [List.count_append, List.count_replicate]
  have c1 : (List.replicate (w.count false) false ++ List.replicate (w.count true) true).count true = w.count true := by simp [List.count_append, List.count_replicate]
  have ka := kept_any (ns := ns) c0 c1
  rw [List.length_append, List.length_replicate, List.length_replicate, two] at ka
  exact ka
/-- a possible end leads there just where the people kept are the first ones -/
theorem ends_lead {ns gs : List Int} {w : List Bool} (hrow : Row ns) (p : gs.Perm ns) (h : w ∈ endsOf gs) : afterL w ns = gs ↔ keptL (w.count false) (w.count true) ns = gs.take (ns.length - w.length) := by
  obtain ⟨j, hj⟩ := List.mem_iff_getElem?.mp h
  obtain ⟨h1, h2, h3⟩ := ends_get hj
  have lp := p.length_eq
  have pos := hrow.pos
  have ne : ns ≠ [] := fun e => by
    rw [e] at pos
    exact absurd pos (by decide)
  rw [keptL_after hrow (by omega)]
  constructor
  · intro e
    rw [e]
  · intro e
    have er := endsR_after ne (r := w.reverse) (by rw [List.length_reverse]; omega)
    rw [List.reverse_reverse] at er
    refine endsR_uniq w.reverse _ _ er h3 ((afterL_perm w ns).trans p.symm) ?_
    rw [afterL_len, List.length_reverse]
    exact e
/-! ### the first index at which two differ -/
def fmI : List Int → List Int → Option Nat
  | x :: xs, y :: ys => if x = y then (fmI xs ys).map (· + 1) else some 0
  | _, _ => none
theorem fmI_none : ∀ (xs ys : List Int), xs.length ≤ ys.length → (fmI xs ys = none ↔ xs = ys.take xs.length)
  | [], ys, _ => by cases ys <;> exact ⟨fun _ => rfl, fun _ => rfl⟩
  | x :: xs, [], h => absurd h (by simp)
  | x :: xs, y :: ys, h => by
    have ih := fmI_none xs ys (by simpa using h)
    rw [List.length_cons, List.take_succ_cons]
    show (if x = y then (fmI xs ys).map (· + 1) else some 0) = none ↔ _
    by_cases e : x = y
    · rw [if_pos e, Option.map_eq_none_iff, ih, e, List.cons.injEq]
      exact ⟨fun z => ⟨rfl, z⟩, fun z => z.2⟩
    · rw [if_neg e, List.cons.injEq]
      refine ⟨fun z => absurd z (by simp), fun z => absurd z.1 e⟩
/-- the search along xs -/
theorem fmI_at {xs ys : List Int} (h : xs.length ≤ ys.length) : ∀ i : Nat, (∀ j (hj : j < i) (hx : j < xs.length), xs[j] = ys[j]'(by omega)) → ∀ (hi : i < xs.length), xs[i] ≠ ys[i]'(by omega) → fmI xs ys = some i := by
  intro i
  induction i generalizing xs ys with
  | zero =>
    intro _ hi ne
    match xs, ys, h, hi, ne with
    | x :: xs, y :: ys, _, _, ne =>
      show (if x = y then _ else some 0) = some 0
      rw [if_neg (show ¬ x = y from ne)]
  | succ i ih =>
    intro before hi ne
    match xs, ys, h, hi, ne, before with
    | x :: xs, y :: ys, h, hi, ne, before =>
      have e : x = y := before 0 (by omega) (by simp)
      show (if x = y then (fmI xs ys).map (· + 1) else some 0) = some (i + 1)
      rw [if_pos e, ih (xs := xs) (ys := ys) (by simpa using h) (fun j hj hx => before (j + 1) (by omega) (by simpa using hx)) (by simpa using hi) ne]
      rfl
theorem fmI_all {xs ys : List Int} (h : xs.length ≤ ys.length) (all_ : ∀ j (hx : j < xs.length), xs[j] = ys[j]'(by omega)) : fmI xs ys = none := by
  refine (fmI_none xs ys h).mpr (List.ext_getElem (by rw [List.length_take]; omega) fun j h1 h2 => ?_)
  rw [List.getElem_take]
  exact all_ j h1
end Lp
namespace Lp
open PySem PySem.Spec PyProof.Rows L2
/-! ### all rows of some people -/
def insAt (x : Int) (l : List Int) (k : Nat) : List Int := l.take k ++ [x] ++ l.drop k
def insAll (x : Int) (l : List Int) : List (List Int) := (List.range (l.length + 1)).map (insAt x l)
def allL (ns : List Int) : List (List Int) := ns.foldl (fun found x => found.flatMap (insAll x)) [[]]
theorem insAt_perm (x : Int) (l : List Int) (k : Nat) : (insAt x l k).Perm (l ++ [x]) := by
  unfold insAt
  have e : l ++ [x] = l.take k ++ (l.drop k ++ [x]) := by rw [← List.append_assoc, List.take_append_drop]
  rw [e, List.append_assoc]
  exact (List.perm_append_comm).append_left _
theorem allL_take {ns : List Int} {i : Nat} (h : i < ns.length) : allL (ns.take (i + 1)) = (allL (ns.take i)).flatMap (insAll ns[i]) := fold_take (List.getElem?_eq_getElem h)
theorem fold_perm : ∀ (ns pre : List Int) (F : List (List Int)), (∀ l, l ∈ F ↔ l.Perm pre) → ∀ l, l ∈ ns.foldl (fun found x => found.flatMap (insAll x)) F ↔ l.Perm (pre ++ ns)
  | [], pre, F, h, l => by
    rw [List.append_nil]
    exact h l
  | x :: ns, pre, F, h, l => by
    rw [List.foldl_cons]
    have step : ∀ l, l ∈ F.flatMap (insAll x) ↔ l.Perm (pre ++ [x]) := fun l => by
      refine ⟨fun hl => ?_, fun hl => ?_⟩
      · obtain ⟨m, hm, hl⟩ := List.mem_flatMap.mp hl
        obtain ⟨k, _, rfl⟩ := List.mem_map.mp hl
        exact (insAt_perm x m k).trans (((h m).mp hm).append_right [x])
      · have hx : x ∈ l := hl.mem_iff.mpr (List.mem_append_right _ (List.mem_singleton_self x))
        obtain ⟨a, b, rfl⟩ := List.append_of_mem hx
        refine List.mem_flatMap.mpr ⟨a ++ b, (h _).mpr ?_, List.mem_map.mpr ⟨a.length, List.mem_range.mpr (by rw [List.length_append]; omega), ?_⟩⟩
        · have p1 : (x :: (a ++ b)).Perm (x :: pre) := (List.perm_middle.symm.trans hl).trans (List.perm_append_singleton x pre)
          exact p1.cons_inv
        · unfold insAt
          rw [List.take_left, List.drop_left, List.append_assoc]
          rfl
    have := fold_perm ns (pre ++ [x]) (F.flatMap (insAll x)) step l
    rw [List.append_assoc] at this
    exact this
theorem allL_mem {ns l : List Int} : l ∈ allL ns ↔ l.Perm ns := by
  have := fold_perm ns [] [[]] (fun l => by rw [List.mem_singleton]; exact ⟨fun z => by rw [z], fun z => List.perm_nil.mp z⟩) l
  rw [List.nil_append] at this
  exact this
theorem flat_len_le {F : List (List Int)} {x : Int} {c : Nat} (h : ∀ l ∈ F, l.length + 1 ≤ c) : (F.flatMap (insAll x)).length ≤ F.length * c := by
  induction F with
  | nil => simp
  | cons l F ih =>
    rw [List.flatMap_cons, List.length_append, List.length_cons]
    have h1 : (insAll x l).length ≤ c := by
      unfold insAll
      rw [List.length_map, List.length_range]
      exact h l (List.mem_cons_self ..)
    have h2 := ih fun m hm => h m (List.mem_cons_of_mem _ hm)
    have e : (F.length + 1) * c = F.length * c + c := Nat.succ_mul ..
    omega
theorem allL_few {ns : List Int} (hn : ns.length ≤ 5) : ∀ i, i ≤ ns.length → (allL (ns.take i)).length ≤ 6 ^ i
  | 0, _ => by simp [allL]
  | i + 1, h => by
    rw [allL_take (by omega)]
    have ih := allL_few hn i (by omega)
    have b := flat_len_le (F := allL (ns.take i)) (x := ns[i]) (c := 6) fun l hl => by
      have := (allL_mem.mp hl).length_eq
      rw [List.length_take] at this
      omega
    have e : 6 ^ (i + 1) = 6 ^ i * 6 := Nat.pow_succ ..
    have : (allL (ns.take i)).length * 6 ≤ 6 ^ i * 6 := Nat.mul_le_mul_right 6 ih
    omega
theorem allL_bound {ns : List Int} (hn : ns.length ≤ 5) (i : Nat) (h : i ≤ ns.length) : (allL (ns.take i)).length ≤ 7776 := by
  have h1 := allL_few hn i h
  have h2 : 6 ^ i ≤ 6 ^ 5 := Nat.pow_le_pow_right (by decide) (by omega)
  exact Nat.le_trans h1 (Nat.le_trans h2 (by decide))
theorem flat_take {F : List (List Int)} {x : Int} {j : Nat} (h : j < F.length) : (F.take (j + 1)).flatMap (insAll x) = (F.take j).flatMap (insAll x) ++ insAll x F[j] := by
  rw [List.take_add_one, List.getElem?_eq_getElem h, List.flatMap_append]
  simp
end Lp
namespace Lp
open PySem PySem.Spec PyProof.Rows L2
/-! ### the people with given ranks -/
def who (ns : List Int) (i : Int) : Int := (ns[(i - 1).toNat]?).getD 0
theorem who_at {ns : List Int} {i : Nat} (h : i < ns.length) : who ns (1 + (i : Nat)) = ns[i] := by
  unfold who
  rw [show (1 + ((i : Nat) : Int) - 1).toNat = i by omega, List.getElem?_eq_getElem h]
  rfl
theorem who_all (ns : List Int) : (rg 1 ((ns.length : Nat) + 1)).map (who ns) = ns := by
  unfold rg
  rw [List.map_map, show (((ns.length : Nat) : Int) + 1 - 1).toNat = ns.length by omega]
  refine List.ext_getElem (by rw [List.length_map, List.length_range]) fun i h1 h2 => ?_
  rw [List.getElem_map, List.getElem_range]
  exact who_at h2
theorem who_mono {ns : List Int} (up : ns.Pairwise (· < ·)) : Mono (who ns) (rg 1 ((ns.length : Nat) + 1)) := fun u hu v hv => by
  have bu := rg_mem hu
  have bv := rg_mem hv
  obtain ⟨i, rfl⟩ : ∃ i : Nat, u = 1 + (i : Nat) := ⟨(u - 1).toNat, by omega⟩
  obtain ⟨j, rfl⟩ : ∃ j : Nat, v = 1 + (j : Nat) := ⟨(v - 1).toNat, by omega⟩
  have hi : i < ns.length := by omega
  have hj : j < ns.length := by omega
  rw [who_at hi, who_at hj]
  have lt : ∀ {a b : Nat} (ha : a < ns.length) (hb : b < ns.length), a < b → ns[a] < ns[b] := fun ha hb h => List.pairwise_iff_getElem.mp up _ _ ha hb h
  constructor
  · intro h
    exact lt hi hj (by omega)
  · intro h
    rcases Nat.lt_trichotomy i j with z | z | z
    · omega
    · subst z
      omega
    · have := lt hj hi z
      omega
theorem Mono.perm {f : Int → Int} {a b : List Int} (p : a.Perm b) (h : Mono f b) : Mono f a := fun u hu v hv => h u (p.mem_iff.mp hu) v (p.mem_iff.mp hv)
theorem Mono.inj {f : Int → Int} {D : List Int} (h : Mono f D) : ∀ {a b : List Int}, (∀ x ∈ a, x ∈ D) → (∀ x ∈ b, x ∈ D) → a.map f = b.map f → a = b
  | [], [], _, _, _ => rfl
  | [], y :: b, _, _, e => by cases e
  | x :: a, [], _, _, e => by cases e
  | x :: a, y :: b, ha, hb, e => by
    rw [List.map_cons, List.map_cons] at e
    obtain ⟨e1, e2⟩ := List.cons.inj e
    have hx := ha x (List.mem_cons_self ..)
    have hy := hb y (List.mem_cons_self ..)
    have z : x = y := by
      have l1 := h x hx y hy
      have l2 := h y hy x hx
      omega
    rw [z, h.inj (fun w hw => ha w (List.mem_cons_of_mem _ hw)) (fun w hw => hb w (List.mem_cons_of_mem _ hw)) e2]
/-- all rows of some people tell two words apart as one row of the heights from 1 on does -/
theorem all_tell {ns D : List Int} {bs cs : List Bool} (up : ns.Pairwise (· < ·)) (pD : D.Perm (rg 1 ((ns.length : Nat) + 1))) (ne : afterL bs D ≠ afterL cs D) : ∃ l, l.Perm ns ∧ afterL bs l ≠ afterL cs l := by
  have mo := (who_mono up).perm pD
  refine ⟨D.map (who ns), ?_, fun e => ne ?_⟩
  · have p := pD.map (who ns)
    rw [who_all] at p
    exact p
  · rw [after_map bs mo, after_map cs mo] at e
    exact mo.inj (fun x hx => (afterL_perm bs D).mem_iff.mp hx) (fun x hx => (afterL_perm cs D).mem_iff.mp hx) e
end Lp
namespace Lp
open PySem PySem.Spec PyProof.Rows L2
/-! ### names in any order -/
def pickL {α : Type} (is : List Nat) (l : List α) : List α := is.filterMap fun i => l[i]?
theorem rel_pick (is : List Nat) {zs : List V} {ws : List Value} (r : Vals zs ws) : Vals (pickL is zs) (pickL is ws) := by
  induction is with
  | nil => exact .nil
  | cons i is ih =>
    unfold pickL at ih ⊢
    rw [List.filterMap_cons, List.filterMap_cons]
    cases hz : zs[i]? with
    | none =>
      have hw : ws[i]? = none := by
        rw [List.getElem?_eq_none_iff] at hz ⊢
        rw [← r.length]
        exact hz
      rw [hw]
      exact ih
    | some x =>
      obtain ⟨u, hu, ru⟩ := r.get hz
      rw [hu]
      exact .cons ru ih
/-! ### a < b < c <= d -/
def tChain3 (r r' r'' : R2) (ta tb tc td : TE) : TE := fun σ H Q => ta σ H fun x H1 => tb σ H1 fun y H2 => r x y H2 fun z H3 => ∃ k, z = .bl k ∧
  (if k = true then tc σ H3 fun y' H4 => r' y y' H4 fun z' H5 => ∃ k', z' = .bl k' ∧ (if k' = true then td σ H5 fun y'' H6 => r'' y' y'' H6 Q else Q (.bl false) H5) else Q (.bl false) H3)
theorem pe_chain3 {X : Cx} {a b c d : Expr} {ta tb tc td : TE} {pos : Pos} {o1 o2 o3 : CmpOp} {r r' r'' : R2} (h1 : OpR X (compareOp o1) r) (h2 : OpR X (compareOp o2) r') (h3 : OpR X (compareOp o3) r'') (pa : PE X a ta) (pb : PE X b tb) (pc : PE X c tc) (pd : PE X d td)
    (hm : lastMarks [o1, o2, o3] [b, c, d] = false := by with_unfolding_all rfl) : PE X (.Compare a [o1, o2, o3] [b, c, d] pos) (tChain3 r r' r'' ta tb tc td) := ⟨fun pins s σ H Q I h => by
  refine Compare_chain (thn (pa.run pins s σ H _ I h) fun v s1 w1 => ?_) hm
  obtain ⟨x, H1, I1, r1, q1⟩ := w1
  refine chain_link (thn (pb.run pins s1 σ H1 _ I1 q1) fun u s2 w2 => ?_)
  obtain ⟨y, H2, I2, r2, q2⟩ := w2
  refine thn (h1 pins s2 σ H2 x y v u _ I2 r1 r2 q2) fun e s3 w3 => ?_
  obtain ⟨z, H3, I3, r3, k, ek, q3⟩ := w3
  subst ek
  cases r3
  refine wpAny_truthy_bool ?_
  cases k with
  | false => exact ite_ff ⟨.bl false, H3, I3, rfl, q3⟩
  | true =>
    refine ite_tt (chain_link (thn (pc.run pins s3 σ H3 _ I3 q3) fun u2 s4 w4 => ?_))
    obtain ⟨y2, H4, I4, r4, q4⟩ := w4
    refine thn (h2 pins s4 σ H4 y y2 u u2 _ I4 r2 r4 q4) fun e2 s5 w5 => ?_
    obtain ⟨z2, H5, I5, r5, k2, ek2, q5⟩ := w5
    subst ek2
    cases r5
    refine wpAny_truthy_bool ?_
    cases k2 with
    | false => exact ite_ff ⟨.bl false, H5, I5, rfl, q5⟩
    | true =>
      refine ite_tt (chain_last (thn (pd.run pins s5 σ H5 _ I5 q5) fun u3 s6 w6 => ?_))
      obtain ⟨y3, H6, I6, r6, q6⟩ := w6
      exact h3 pins s6 σ H6 y2 y3 u2 u3 Q I6 r4 r6 q6⟩
/-! ### powers and lowest terms -/
theorem pow_lt {x k m : Nat} (hx : x < 1024) (hk : k ≤ m) : x ^ k < 2 ^ (10 * m + 1) := by
  have h1 : x ^ k ≤ 1024 ^ k := Nat.pow_le_pow_left (by omega) k
  have h2 : (1024 : Nat) ^ k ≤ 1024 ^ m := Nat.pow_le_pow_right (by decide) hk
  have h3 : (1024 : Nat) ^ m = 2 ^ (10 * m) := by
    rw [show (1024 : Nat) = 2 ^ 10 by decide, ← Nat.pow_mul]
  have h4 : (2 : Nat) ^ (10 * m) < 2 ^ (10 * m + 1) := Nat.pow_lt_pow_right (by decide) (by omega)
  omega
theorem log_lt {n m : Nat} (h : n < 2 ^ m) (hm : 0 < m) : n.log2 < m := by
  by_cases h0 : n = 0
  · subst h0
    exact Nat.lt_of_le_of_lt (by decide) hm
  · exact (Nat.log2_lt h0).mpr h
theorem lowest {t w : Nat} (h : Nat.gcd t w = 1) (lt : t < w) (a b n : Nat) : Nat.gcd (t ^ a * (w - t) ^ b) (w ^ n) = 1 := by
  have c1 : Nat.Coprime t w := h
  have c2 : Nat.Coprime (w - t) w := by
    have d1 := Nat.gcd_dvd_left (w - t) w
    have d2 := Nat.gcd_dvd_right (w - t) w
    have d3 : Nat.gcd (w - t) w ∣ t := by
      have := Nat.dvd_sub d2 d1
      rw [show w - (w - t) = t by omega] at this
      exact this
    have d4 := Nat.dvd_gcd d3 d2
    rw [h] at d4
    exact Nat.eq_one_of_dvd_one d4
  exact (Nat.Coprime.pow a n c1).mul_left (Nat.Coprime.pow b n c2)
/-! ### tuples that stand in the heap: parts and sums stand there too -/
def rCatC : R2 := fun x y H Q => ∃ a b xs ys, x = .ref a ∧ y = .ref b ∧ H a = some (.tup xs) ∧ H b = some (.tup ys) ∧ xs.length + ys.length ≤ sizeLine ∧
  ∀ (p : Addr) (G : Hp), Same H G → G p = some (.tup (xs ++ ys)) → Q (.ref p) G
theorem op_catC {X : Cx} : OpR X (binaryOp .Add) rCatC := by
  intro pins s σ H x y v u Q I rx ry h
  obtain ⟨a, b, xs, ys, rfl, rfl, ha, hb, hz, q⟩ := h
  refine op_catA pins s σ H _ _ v u Q I rx ry ⟨a, b, xs, ys, rfl, rfl, .inl (.inl ha), .inl (.inl hb), hz, fun e => ?_, fun _ e => ?_, fun _ _ p np => ?_⟩
  · subst e
    exact q b H (Same.refl H) hb
  · subst e
    refine q a H (Same.refl H) ?_
    rw [List.append_nil]
    exact ha
  · exact q p _ (same_upd np) upd_same
def rSlC : V → Option Int → Option Int → Hp → VK → Prop := fun x lo hi H Q => ∃ a xs, x = .ref a ∧ H a = some (.tup xs) ∧ ∀ (p : Addr) (G : Hp), Same H G → G p = some (.tup (cutV xs lo hi)) → Q (.ref p) G
theorem sl_tupC {X : Cx} : SlR X rSlC := by
  intro pins s σ H x v vl vu lo hi sl Q I rx hs pl pu h
  obtain ⟨a, xs, rfl, ha, q⟩ := h
  refine sl_tupA pins s σ H _ v vl vu lo hi sl Q I rx hs pl pu ⟨a, xs, rfl, .inl (.inl ha), fun z => ?_, fun _ p np => ?_⟩
  · refine q a H (Same.refl H) ?_
    rw [cut_whole z]
    exact ha
  · exact q p _ (same_upd np) upd_same
end Lp
namespace Lp
open PySem PySem.Spec PyProof.Rows L2
open Builtin Builtin.Str Builtin.Int in
/-- sep.join of an iterator that goes backwards over a list of texts -/
theorem joinBack {prog : Program} {w : World} {A : Around} {E : Value → Shared → Prop} {s : Shared} {sep : Str} {t : Tok} {Q : Value → Shared → Prop} {it l : Addr} {vs : Array Value} (calm : A.handled = none)
    (h1 : s.heap.IsRevIter it l ((vs.size : Int) - 1)) (h2 : s.heap.IsList l vs) (ne : l ≠ it) (fits : vs.size ≤ sizeLine) (texts : ∀ v ∈ vs, ∃ y u, v = Value.str y u)
    (post : ∀ (g : Heap) (k : Nat) (ts : List (Str × Tok)), (∀ b o, b ≠ it → s.heap.get? b = some o → g.get? b = some o) → strValues ts = vs.toList.reverse →
      JoinOk sep (ts.map (·.1)) = true ∧ ∀ t2 k2, Q (.str (Txt.join sep (ts.map (·.1))) t2) { s with heap := g, toks := k2 }) :
    wpAny (model prog w) A (call (.builtin "str.join") [.str sep t, .ref it]) Q E s := by
  apply wpAny_call
  apply codeAny_call_builtin F.slot_str_join.plain F.entry_str_join
  apply F.slot_str_join.check _ _ _ _ _ _ _ _ (typeIs_str _ _ _) (F.args_str_join_2 _ _)
  rw [join_tree_other sep t it]
  apply wpAny_bind
  apply wpAny_typeOf h1.typeIs
  show wpAny _ A.in1 ((pyIter (.ref it)).tryCatch _ >>= fun z => collect z >>= fun us => joinTail sep us) _ _ s
  apply wpAny_bind
  apply wpAny_tryCatch
  apply wpAny_pyIter_revIter h1
  apply wpAny_bind
  apply RT.collect_rev (A := A.in1) calm h1 h2 ne fits
  intro g k acc keep got
  have back : acc.toList = vs.toList.reverse := by
    apply List.ext_getElem?
    intro j
    by_cases hj : j < vs.size
    · have ja : j < acc.size := by rw [got.1]; exact hj
      have e1 : acc[j]? = some acc[j] := Array.getElem?_eq_getElem ja
      have e2 := got.2 j _ e1
      rw [Array.getElem?_toList, e1, List.getElem?_reverse (by rw [Array.length_toList]; exact hj), Array.length_toList, Array.getElem?_toList, e2]
    · rw [List.getElem?_eq_none (by rw [Array.length_toList, got.1]; omega), List.getElem?_eq_none (by rw [List.length_reverse, Array.length_toList]; omega)]
  obtain ⟨ts, hts⟩ := exists_strValues acc.toList fun v hv => by
    rw [back] at hv
    exact texts v (by simpa using hv)
  rw [← hts]
  obtain ⟨ok, fin⟩ := post g k ts keep (hts.trans back)
  have ok2 := ok
  unfold JoinOk at ok2
  rw [Bool.not_eq_true'] at ok2
  have gv2 : Gives (joinTail sep (strValues ts)) (joinMade sep ts) := by
    clear fin ok post hts
    have gv := gives_joinTail sep ts ok2
    cases ts with
    | nil => exact gv
    | cons p r =>
      cases r with
      | nil => exact gv
      | cons p2 r2 => exact gv
  exact gv2 prog w A (wants Q E) { s with heap := g, toks := k } (post_join ts ⟨joinFit_length ok2, fin⟩)
/-- sep.join(reversed(xs)), xs a list of texts -/
def tJoinBack (K : PySem.W.Frag) (to te : TE) : TE := fun σ H Q => to σ H fun v H1 => ∃ sep : Str, v = .str sep ∧ te σ H1 fun u H2 => ∃ (a : Addr) (ws : List Str), u = .ref a ∧ SqL K H2 a (ws.map V.str) ∧ JoinOk sep ws.reverse = true ∧ Q (.str (Txt.join sep ws.reverse)) H2
section
variable {X : Cx} {o e : Expr} {to te : TE} {p pos apos cpos : Pos}
theorem pe_joinBack (calm : X.calm = true) (hg : Gl X "reversed") (hm : X.mg "reversed" = none) (ho : PE X o to) (he : PE X e te)
    (hbase : attributeBase o "join" X.env (eval o X.env) = eval o X.env := by rfl)
    (few : ((backTo cpos (starEach [.Call (.Name "reversed" p) [e] [] pos] X.env)).all (fun x => !x.1) && (backToKw cpos (keywordEach [] X.env)).all (fun x => x.1.isSome) && decide (([.Call (.Name "reversed" p) [e] [] pos] : List Expr).length + ([] : List Keyword).length + (if ([] : List Keyword).isEmpty then 0 else 1) < 30)) = true := by rfl)
    (line : (apos.endLine == cpos.line) = true := by rfl) (s1 : starEach [e] X.env = (false, eval e X.env) :: starEach [] X.env := by rfl)
    (s2 : starEach [.Call (.Name "reversed" p) [e] [] pos] X.env = (false, eval (.Call (.Name "reversed" p) [e] [] pos) X.env) :: starEach [] X.env := by rfl)
    (plain : (backTo cpos (starEach [] X.env)).any (·.1) = false := by rfl) :
    PE X (.Call (.Attribute o "join" apos) [.Call (.Name "reversed" p) [e] [] pos] [] cpos) (tJoinBack X.K to te) := ⟨fun pins s σ H Q I h => by
  refine wpAny_Call_method_late hbase few line rfl (thn (ho.run pins s σ H _ I h) fun v s1' y => ?_)
  obtain ⟨x, H1, J1, rx, sep, rfl, q1⟩ := y
  obtain ⟨tk, rfl⟩ : ∃ t, v = Value.str sep t := rx
  refine ⟨"str", _, PySem.F.plainAttrs_str, PySem.F.slot_str_join, PySem.F.type_str_join, typeIs_str _ _ _, fun _ z => (nomatch z), ?_⟩
  rw [s2]
  refine Calls.callWith_builtin (by show (false || (backTo cpos (starEach [] X.env)).any (·.1)) = false; rw [plain]; rfl) (Calls.evalArgs_plain ?_)
  show wpAny _ _ (spliced ((false, eval (.Call (.Name "reversed" p) [e] [] pos) X.env) :: backTo cpos (starEach [] X.env))) _ _ s1'
  refine Calls.spliced_cons (Call_ (ld_blt J1 hg hm PyProof.Rows.boot_reversed (PyProof.Rows.callWith_type1 (args_cons (thn (he.run pins s1' σ H1 _ J1 q1) fun u s2' y2 => args_nil ?_) s1) s1 rfl)))
  obtain ⟨z, H2, J2, rz, a, ws, rfl, hq, jok, fin⟩ := y2
  obtain rfl : u = Value.ref a := rz
  obtain ⟨its, rv, pl, hz⟩ := J2.list hq
  refine call_reversed_list pl.isList ?_
  have keep0 : ∀ b o2, s2'.heap.get? b = some o2 → (s2'.heap.push (revObj a ((its.toArray.size : Int) - 1))).get? b = some o2 := fun b o2 z => Heap.get?_push_of_some _ z
  have J3 : Inv X pins σ H2 { s2' with heap := s2'.heap.push (revObj a ((its.toArray.size : Int) - 1)) } := J2.kept (t' := s2'.toks) keep0
  obtain ⟨f0, f1, f2, f3, f4, f5⟩ := J2.fpOk (H' := H2) (b := s2'.heap.objs.size) (Nat.le_refl _) (J2.hok.fresh (Nat.le_refl _))
  have hl := pl.isList
  obtain ⟨ol, hol, _⟩ := id hl
  have ne : a ≠ s2'.heap.objs.size := Nat.ne_of_lt (Heap.lt_size hol)
  have fits : its.toArray.size ≤ sizeLine := by rw [List.size_toArray, ← rv.length]; exact hz
  have il := rv.length
  rw [List.length_map] at il
  refine Calls.spliced_nil (joinBack (s := { s2' with heap := s2'.heap.push (revObj a ((its.toArray.size : Int) - 1)) }) (J2.ok.hd calm) ⟨_, Heap.get?_push_size _ rfl, rfl, rfl⟩ (hl.push _) ne fits (fun v hv => ?_) fun g k ts keep hts => ?_)
  · obtain ⟨i, hi, rfl⟩ := Array.mem_iff_getElem.mp hv
    have hi2 : i < ws.length := by
      rw [List.size_toArray] at hi
      omega
    obtain ⟨w, hw, t2, ew⟩ := rv.get (i := i) (x := .str ws[i]) (by rw [List.getElem?_map, List.getElem?_eq_getElem hi2]; rfl)
    refine ⟨ws[i], t2, ?_⟩
    rw [← ew]
    have := (List.getElem?_eq_some_iff.mp hw).2
    rw [← this]
    simp
  · have et : ts.map (·.1) = ws.reverse := by
      have e1 : ts.length = ws.length := by
        have := congrArg List.length hts
        unfold strValues at this
        rw [List.length_map, List.length_reverse] at this
        rw [this, il]
      refine List.ext_getElem? fun j => ?_
      by_cases hj : j < ws.length
      · have hj2 : j < ts.length := by omega
        have hr : ws.length - 1 - j < ws.length := by omega
        rw [List.getElem?_map, List.getElem?_eq_getElem hj2, List.getElem?_reverse hj, List.getElem?_eq_getElem hr]
        have h4 : (strValues ts)[j]? = its.reverse[j]? := by rw [hts]
        unfold strValues at h4
        rw [List.getElem?_map, List.getElem?_eq_getElem hj2, List.getElem?_reverse (by omega), ← il] at h4
        obtain ⟨w, hw, t2, ew⟩ := rv.get (i := ws.length - 1 - j) (x := .str ws[ws.length - 1 - j]) (by rw [List.getElem?_map, List.getElem?_eq_getElem hr]; rfl)
        rw [hw, ew] at h4
        have h5 := Option.some.inj h4
        have h6 : ts[j].1 = ws[ws.length - 1 - j] := (Value.str.inj h5).1
        show some ts[j].1 = some _
        rw [h6]
      · rw [List.getElem?_eq_none (by rw [List.length_map]; omega), List.getElem?_eq_none (by rw [List.length_reverse]; omega)]
    rw [et]
    refine ⟨jok, fun t2 k2 => ?_⟩
    have J4 : Inv X pins σ H2 { s2' with heap := g, toks := k2 } := J3.turned (t' := k2) (fun b o2 hb z => keep b o2 hb z) f0 f1 f3 f4 f5
    exact ⟨.str _, H2, J4, ⟨_, rfl⟩, fin⟩⟩
end
end Lp
namespace Lp
open PySem PySem.Spec PyProof.Rows L2
/-! ### defs with parameters behind a star that have defaults -/
abbrev FnK (K : PySem.W.Frag) (x : Str) (st : Stmt) (kws : List (Str × V)) (f : Addr) (fd : FuncData) : Prop := FunD K x x (defArgs st) (defBody st) (defScope st) [] kws f fd
structure DfK (K : PySem.W.Frag) (mg : Str → Option Value) (x : Str) (st : Stmt) (kws : List (Str × V)) : Prop where
  ex : ∃ f fd, FnK K x st kws f fd ∧ mg x = some (.ref f)
structure ClK (P : Program) (w : World) (K : PySem.W.Frag) (mg : Str → Option Value) (base : Heap) (k : Nat) (x : Str) (st : Stmt) (ps : List Str) (kws : List (Str × V)) (sp : Sp) : Prop where
  ex : ∃ f fd, FnK K x st kws f fd ∧ FnOk P w K mg base CX0 k f fd ps sp ∧ mg x = some (.ref f) ∧ ∃ ds, Vals (kws.map (·.2)) ds ∧ Binds K fd ps ds
section
variable {P : Program} {w : World} {K : PySem.W.Frag} {mg : Str → Option Value} {base : Heap} {x : Str} {st : Stmt} {N ps : List Str} {k : Nat} {sp : Sp} {kws : List (Str × V)}
theorem DfK.ok (D : DfK K mg x st kws) (S : FnScope N ps (defScope st)) (n : Nat) (hk : kws ≠ []) (hn : n + kws.length = ps.length)
    (bd : ∀ (D : Addr) (doc pm : Value) (an : Option Addr) (cdv ct : Value) (us ks : List Value), us.length = n → ks.length = kws.length →
      KwChain D ((kws.map (·.1)).zip ks) (bindArgs (PySem.W.fnOf x x (defArgs st) (defBody st) (defScope st) .none (.ref D) doc pm an cdv ct) ⟨us, []⟩) (ps.zip (us ++ ks)))
    (len : ∀ vs H Q E, sp vs H Q E → vs.length = ps.length)
    (body : ∀ (f : Addr) (cdv : Value) (A : Around) (outer : List Env) (s : Shared) (H : Hp) (vs : List V) (Q : VK) (E : XK), Room k (A.deeper (envOfC x (defScope st) s.heap.objs.size f cdv)) → sp vs H Q E →
      ∃ t, PSs (cxOf CX0 P w K mg base N x (defScope st) f cdv A outer s H E).nox (defBody st) t ∧ t { nx := fun _ H' => Q .non H', rt := Q } (start N vs) H) : ClK P w K mg base (k + 1) x st ps kws sp := by
  obtain ⟨f, fd, F, hm⟩ := D.ex
  refine ⟨f, fd, F, F.ok S len fun cdv A outer s H vs Q E hr h => ?_, hm, F.binds0 n hk hn bd⟩
  obtain ⟨t, ht, hg⟩ := body f cdv A outer s H vs Q E hr h
  exact ⟨t, ht.nox, hg⟩
end
section
variable {X : Cx} {x : Str} {st : Stmt} {ps : List Str} {j k : Nat} {sp : Sp} {e : Expr} {es : List Expr} {t : TA} {p pos : Pos} {kws : List (Str × V)}
/-- f(e, ..), the others by their defaults -/
theorem pe_ud (c : ClK X.prog X.w X.K X.mg X.base k x st ps kws sp) (hr : Room j X.A) (hk : k ≤ j) (hg : Gl X x) (ha : PA X (e :: es) t)
    (hdb : (x == ("__debug__" : Str)) = false := by decide) (he : starEach (e :: es) X.env = (false, eval e X.env) :: starEach es X.env := by rfl) (hpl : (backTo pos (starEach es X.env)).any (·.1) = false := by rfl) :
    PE X (.Call (.Name x p) (e :: es) [] pos) (tCall sp (kws.map (·.2)) E0 t) := by
  obtain ⟨f, fd, F, G, hm, ds, rv, b⟩ := c.ex
  exact pe_call G (hr.mono hk) hg hm F.kp b rv pass0 ha hdb he hpl
end
/-! ### {key: value} with a tuple as its key -/
def tDisp1 (tk tv : TE) : TE := fun σ H Q => ∀ p, H p = none → tk σ (upd H p (.dT [])) fun kx H1 => tv σ H1 fun vx H2 => H2 p = some (.dT []) ∧ ∃ (b : Addr) (key : List L2.Key), kx = .ref b ∧ H2 b = some (.tup (key.map L2.kV)) ∧ Q (.ref p) (upd H2 p (.dT [(key, vx)]))
theorem pe_disp1 {X : Cx} {k v : Expr} {pos : Pos} {tk tv : TE} (hu : X.A.units + 1 < cLine) (hk : PE X k tk) (hv : PE X v tv) : PE X (.Dict [some k] [v] pos) (tDisp1 tk tv) := ⟨fun pins s σ H Q I q => by
  have new := I.hok.fresh (Nat.le_refl s.heap.objs.size)
  have J := I.laid (a := s.heap.objs.size) (o := .dT []) (h' := s.heap.push { cls := .type "dict", data := .dict #[] }) (t' := s.toks) (fun _ _ z => Heap.get?_push_of_some _ z) (Nat.le_refl _) (dt_empty s.heap I.big)
  refine wpAny_Dict_any rfl rfl (by simp) (show 1 ≤ 15 by decide) (pairTrees_cons_walk (thn (hk.run pins _ σ _ _ J (q _ new)) fun kv s1 y1 => ?_))
  obtain ⟨kx, H1, J1, rk, q1⟩ := y1
  refine thn (hv.run pins s1 σ H1 _ J1 q1) fun vv s2 y2 => ?_
  obtain ⟨vx, H2, J2, rv, e, b, key, rfl, hb, fin⟩ := y2
  obtain rfl : kv = Value.ref b := rk
  refine pairTrees_nil_walk ?_
  obtain ⟨z, hd, xs, rel, dd⟩ := dt_of J2.hok e
  have hx : xs = [] := List.length_eq_zero_iff.mp (by rw [← Paired.length rel]; rfl)
  subst hx
  unfold storeAll
  simp only [List.forIn_cons, List.forIn_nil]
  refine wpAny_bind (wpAny_bind (wpAny_dictSet_heap (hsz := by simp) (show X.A.units < cLine by omega) (key_of J2.hok hb) dd fun h' dd' hs => wpAny_pure (wpAny_pure ?_)))
  obtain ⟨q', es, ep, hq, h2, h3, h4, _, h5⟩ := dd'
  refine ⟨.ref s.heap.objs.size, upd H2 s.heap.objs.size (.dT [(key, vx)]), d_write J2 (by rw [e]; exact True.intro) hs ⟨q', hq⟩ ⟨show 1 ≤ sizeLine by decide, hd, _, (rel.put key hb rv).keeps fun c ys ec => ?_, q', es, ep, hq, h2, h3, h4, h5⟩, rfl, fin⟩
  rw [upd_ne (ne_of ec e (fun z => nomatch z))]
  exact ec⟩
end Lp
namespace Lp
open PySem PySem.Spec PyProof.Rows L2
/-! ### the rows that can be reached: mathematics -/
structure ReachI (ns : List Int) (i : Nat) (ls ms : List (List Int)) : Prop where
  sub : ∀ l ∈ ls, l ∈ ms
  frm : ∀ m ∈ ms, ∃ w : List Bool, w.length ≤ i ∧ afterL w ns = m
  all : ∀ w : List Bool, w.length ≤ i → afterL w ns ∈ ms
  cl : ∀ m ∈ ms, m ∈ ls ∨ ∀ b, passL b m ∈ ms
  nl : ls.length ≤ 2 ^ i
  nm : ms.length + 1 ≤ 2 ^ (i + 1)
structure ReachJ (ls ms fs : List (List Int)) (k : Nat) : Prop where
  src : ∀ f ∈ fs, ∃ l ∈ ls, ∃ b, f = passL b l
  done : ∀ (x : Nat) (b : Bool), 2 * x + b.toNat < k → ∀ l, ls[x]? = some l → passL b l ∈ ms ++ fs
  cnt : fs.length ≤ k
theorem after_snoc (w : List Bool) (b : Bool) (ns : List Int) : afterL (w ++ [b]) ns = passL b (afterL w ns) := by
  rw [afterL_app]
  rfl
theorem reachI_zero {ns : List Int} : ReachI ns 0 [ns] [ns] where
  sub := fun l h => h
  frm := fun m h => ⟨[], Nat.le_refl _, (List.mem_singleton.mp h).symm⟩
  all := fun w h => by
    rw [List.length_eq_zero_iff.mp (Nat.le_zero.mp h)]
    exact List.mem_singleton.mpr rfl
  cl := fun m h => .inl h
  nl := Nat.le_refl 1
  nm := Nat.le_refl 2
theorem reachJ_zero {ls ms : List (List Int)} : ReachJ ls ms [] 0 where
  src := fun f h => nomatch h
  done := fun x b h => absurd h (Nat.not_lt_zero _)
  cnt := Nat.le_refl _
theorem two_split {x j : Nat} {a b : Bool} (h : 2 * x + a.toNat < 2 * j + b.toNat + 1) : 2 * x + a.toNat < 2 * j + b.toNat ∨ (x = j ∧ a = b) := by
  cases a <;> cases b <;> simp at h ⊢ <;> omega
theorem ReachJ.old {ls ms fs : List (List Int)} {j : Nat} {b : Bool} (r : ReachJ ls ms fs (2 * j + b.toNat)) {l : List Int} (hl : ls[j]? = some l) (h : passL b l ∈ ms ++ fs) : ReachJ ls ms fs (2 * j + b.toNat + 1) where
  src := r.src
  done := fun x a hx l2 h2 => by
    rcases two_split hx with z | ⟨rfl, rfl⟩
    · exact r.done x a z l2 h2
    · rw [hl] at h2
      cases h2
      exact h
  cnt := Nat.le_succ_of_le r.cnt
theorem ReachJ.new {ls ms fs : List (List Int)} {j : Nat} {b : Bool} (r : ReachJ ls ms fs (2 * j + b.toNat)) {l : List Int} (hl : ls[j]? = some l) : ReachJ ls ms (fs ++ [passL b l]) (2 * j + b.toNat + 1) where
  src := fun f hf => by
    rcases List.mem_append.mp hf with z | z
    · exact r.src f z
    · rw [List.mem_singleton.mp z]
      exact ⟨l, List.mem_of_getElem? hl, b, rfl⟩
  done := fun x a hx l2 h2 => by
    rw [← List.append_assoc]
    rcases two_split hx with z | ⟨rfl, rfl⟩
    · exact List.mem_append_left _ (r.done x a z l2 h2)
    · rw [hl] at h2
      cases h2
      exact List.mem_append_right _ (List.mem_singleton.mpr rfl)
  cnt := by
    rw [List.length_append, List.length_singleton]
    exact Nat.succ_le_succ r.cnt
theorem ReachI.next {ns : List Int} {i : Nat} {ls ms fs : List (List Int)} (r : ReachI ns i ls ms) (t : ReachJ ls ms fs (2 * ls.length)) : ReachI ns (i + 1) fs (ms ++ fs) where
  sub := fun l h => List.mem_append_right _ h
  frm := fun m h => by
    rcases List.mem_append.mp h with z | z
    · obtain ⟨w, hw, e⟩ := r.frm m z
      exact ⟨w, by omega, e⟩
    · obtain ⟨l, hl, b, rfl⟩ := t.src m z
      obtain ⟨w, hw, e⟩ := r.frm l (r.sub l hl)
      exact ⟨w ++ [b], by rw [List.length_append, List.length_singleton]; omega, by rw [after_snoc, e]⟩
  all := fun w hw => by
    by_cases h : w.length ≤ i
    · exact List.mem_append_left _ (r.all w h)
    · obtain ⟨u, b, rfl⟩ := snoc_of (show 1 ≤ w.length by omega)
      rw [List.length_append, List.length_singleton] at hw
      rw [after_snoc]
      rcases r.cl _ (r.all u (by omega)) with z | z
      · obtain ⟨x, hx⟩ := List.mem_iff_getElem?.mp z
        have lt := (List.getElem?_eq_some_iff.mp hx).1
        exact t.done x b (by have := Bool.toNat_lt b; omega) _ hx
      · exact List.mem_append_left _ (z b)
  cl := fun m h => by
    rcases List.mem_append.mp h with z | z
    · rcases r.cl m z with y | y
      · obtain ⟨x, hx⟩ := List.mem_iff_getElem?.mp y
        have lt := (List.getElem?_eq_some_iff.mp hx).1
        exact .inr fun b => t.done x b (by have := Bool.toNat_lt b; omega) _ hx
      · exact .inr fun b => List.mem_append_left _ (y b)
    · exact .inl z
  nl := by
    have := t.cnt
    have := r.nl
    rw [Nat.pow_succ]
    omega
  nm := by
    have := t.cnt
    have := r.nl
    have := r.nm
    rw [List.length_append, Nat.pow_succ, Nat.pow_succ] at *
    omega
/-! ### its dict -/
abbrev kyI (l : List Int) : List L2.Key := l.map Sum.inl
theorem kyI_V (l : List Int) : (kyI l).map L2.kV = l.map V.int := by
  rw [List.map_map]
  rfl
theorem kyI_inj {a b : List Int} (h : kyI a = kyI b) : a = b := (List.map_inj_right fun x y z => Sum.inl.inj z).mp h
abbrev kvI (ms : List (List Int)) : List (List L2.Key × V) := ms.map fun m => (kyI m, V.bl true)
theorem kvI_has (ms : List (List Int)) (m : List Int) : (valV (kvI ms) (kyI m)).isSome = decide (m ∈ ms) := by
  rw [← valV_any, Bool.eq_iff_iff, List.any_eq_true, decide_eq_true_iff]
  constructor
  · rintro ⟨p, hp, e⟩
    obtain ⟨x, hx, rfl⟩ := List.mem_map.mp hp
    rw [← kyI_inj (of_decide_eq_true e)]
    exact hx
  · intro h
    exact ⟨(kyI m, V.bl true), List.mem_map.mpr ⟨m, h, rfl⟩, decide_eq_true rfl⟩
theorem kvI_keys {H : Hp} : ∀ {ms : List (List Int)} {bs : List Addr}, IsKeys H (kvI ms) bs → Each (fun b m => H b = some (.tup (m.map V.int))) bs ms
  | [], _, .nil => trivial
  | _ :: _, _, .cons h t => ⟨h.trans (by show some (HO.tup ((kyI _).map L2.kV)) = _; rw [kyI_V]), kvI_keys t⟩
theorem perm_map_of {α β : Type} {f : α → β} {ys zs : List β} (p : ys.Perm zs) : ∀ l : List α, zs = l.map f → ∃ us : List α, ys = us.map f ∧ us.Perm l := by
  induction p with
  | nil =>
    intro l e
    exact ⟨[], rfl, by rw [List.map_eq_nil_iff.mp e.symm]⟩
  | cons x _ ih =>
    intro l e
    match l, e with
    | a :: l, e =>
      obtain ⟨e1, e2⟩ := List.cons.inj e
      obtain ⟨us, h1, h2⟩ := ih l e2
      exact ⟨a :: us, by rw [List.map_cons, h1, e1], .cons a h2⟩
  | swap x y l0 =>
    intro l e
    match l, e with
    | a :: b :: l, e =>
      obtain ⟨e1, e2⟩ := List.cons.inj e
      obtain ⟨e3, e4⟩ := List.cons.inj e2
      exact ⟨b :: a :: l, by rw [List.map_cons, List.map_cons, e1, e3, e4], .swap ..⟩
  | trans _ _ ih1 ih2 =>
    intro l e
    obtain ⟨vs, h1, h2⟩ := ih2 l e
    obtain ⟨us, h3, h4⟩ := ih1 vs h1
    exact ⟨us, h3, h4.trans h2⟩
theorem each_perm {β : Type} {R : Addr → β → Prop} {rs bs : List Addr} (p : rs.Perm bs) : ∀ ms : List β, Each R bs ms → ∃ ks : List β, ks.Perm ms ∧ Each R rs ks := by
  induction p with
  | nil => exact fun ms h => ⟨ms, .refl _, h⟩
  | cons x _ ih =>
    intro ms h
    match ms, h with
    | m :: ms, ⟨h1, h2⟩ =>
      obtain ⟨ks, k1, k2⟩ := ih ms h2
      exact ⟨m :: ks, .cons m k1, h1, k2⟩
  | swap x y l =>
    intro ms h
    match ms, h with
    | m :: n :: ms, ⟨h1, h2, h3⟩ => exact ⟨n :: m :: ms, .swap .., h2, h1, h3⟩
  | trans _ _ ih1 ih2 =>
    intro ms h
    obtain ⟨ks, k1, k2⟩ := ih2 ms h
    obtain ⟨js, j1, j2⟩ := ih1 ks k2
    exact ⟨js, j1.trans k1, j2⟩
theorem each_mem {β : Type} {R : Addr → β → Prop} : ∀ {rs : List Addr} {ms : List β} {r : Addr}, Each R rs ms → r ∈ rs → ∃ m ∈ ms, R r m
  | _ :: _, _ :: _, _, ⟨h1, h2⟩, h => by
    rcases List.mem_cons.mp h with rfl | z
    · exact ⟨_, List.mem_cons_self .., h1⟩
    · obtain ⟨m, a, b⟩ := each_mem h2 z
      exact ⟨m, List.mem_cons_of_mem _ a, b⟩
end Lp
namespace Lp
open PySem PySem.Spec PyProof.Rows L2
/-! ### x in t, t a tuple of rows -/
section
variable {X : Cx}
abbrev dRow (m : List Int) : PyData := .tuple (m.map PyData.int)
def rInRows (K : PySem.W.Frag) : R2 := fun x y H Q => ∃ (m : List Int) (ms : List (List Int)), Dp K H x (dRow m) ∧ Dp K H y (.tuple (ms.map dRow)) ∧ Q (.bl (decide (m ∈ ms))) H
theorem rows_lay : ∀ ms : List (List Int), PyData.canLayAll0 (ms.map dRow) = true
  | [] => by simp only [List.map_nil, PyData.canLayAll0]
  | m :: ms => by simp only [List.map_cons, PyData.canLayAll0, PyData.canLay0, lay_ints, rows_lay ms, Bool.and_self]
theorem rows_any (m : List Int) (ms : List (List Int)) : ((ms.map dRow).any fun z => PyData.eqv z (dRow m)) = decide (m ∈ ms) := by
  rw [List.any_map, Bool.eq_iff_iff, List.any_eq_true, decide_eq_true_iff]
  constructor
  · rintro ⟨k, hk, e⟩
    have e2 : decide (k = m) = true := by rw [← eqv_rows]; exact e
    exact of_decide_eq_true e2 ▸ hk
  · intro h
    exact ⟨m, h, (eqv_rows m m).trans (decide_eq_true rfl)⟩
theorem op_inRows (hu : X.A.units + 65 < cLine) : OpR X (compareOp .In) (rInRows X.K) := fun pins s σ H x y v u Q I rx ry h => by
  obtain ⟨m, ms, dx, dy, fin⟩ := h
  have sm := shaped_row m
  obtain ⟨one, here⟩ := Dp.reads I _ x v dx rx
  obtain ⟨all, there⟩ := Dp.reads I _ y u dy ry
  refine SeqAt.in_tuple_reads there here (by simp only [PyData.canLay0, rows_lay]) (SeqAt.canLay_of_shaped sm) (room_in_shaped sm hu) ⟨.bl _, H, I, rfl, ?_⟩
  rw [rows_any]
  exact fin
end
theorem Dp_rowsAt {K : PySem.W.Frag} {H : Hp} : ∀ {rs : List Addr} {ms : List (List Int)}, Each (fun r m => H r = some (.tup (m.map V.int))) rs ms → DpAll K H (rs.map V.ref) (ms.map dRow)
  | [], [], _ => .nil
  | _ :: _, _ :: _, h => .cons (Dp_row (.inl (.inl h.1))) (Dp_rowsAt h.2)
theorem Dp_table {K : PySem.W.Frag} {H : Hp} {p : Addr} {rs : List Addr} {ms : List (List Int)} (h : H p = some (.tup (rs.map V.ref))) (e : Each (fun r m => H r = some (.tup (m.map V.int))) rs ms) : Dp K H (.ref p) (.tuple (ms.map dRow)) := .tup (.inl (.inl h)) (Dp_rowsAt e)
/-! ### a text ends with a text -/
theorem ends_wd (v u : List Bool) : Txt.endswith (wd (v ++ u)) (wd u) = true := by
  have e : (wd (v ++ u)).cps = (wd v).cps ++ (wd u).cps := by rw [← wd_app]; rfl
  have l1 : (wd (v ++ u)).length = (wd v).cps.size + (wd u).cps.size := by
    show (wd (v ++ u)).cps.size = _
    rw [e, Array.size_append]
  have l2 : (wd u).length = (wd u).cps.size := rfl
  unfold Txt.endswith Builtin.Str.subAt
  rw [l1, l2, e, Bool.and_eq_true, Nat.add_sub_cancel]
  refine ⟨decide_eq_true (by omega), ?_⟩
  simp [Array.extract_append]
/-! ### the head's fact of a def with defaults behind a star -/
def mkDK (x : Str) (st : Stmt) (kd : List (Str × He.Dv)) : He.DefD := ⟨(x, none), x, x, defArgs st, defBody st, defScope st, [], kd⟩
theorem DfK.of {K : PySem.W.Frag} {mg : Str → Option Value} {h : Heap} {fa : List He.Fa} {fn : List He.DefD} {x : Str} {st : Stmt} {kd : List (Str × He.Dv)} (X : K.In h) (G : h.Ns mainGlobals mg) (c : He.SaysD fa fn K) (i : Nat) (hi : fn[i]? = some (mkDK x st kd)) (hj : fa[i]? = some (.glo x)) : DfK K mg x st (kd.map fun p => (p.1, He.Dv.v K p.2)) := by
  obtain ⟨fd, F⟩ := c.def_ i hi
  exact ⟨_, fd, F, He.glo_ok X G (c.fact i hj)⟩
end Lp
namespace Lp
open PySem PySem.Spec PyProof.Rows L2
/-! ### f(e, .., k = v, ..): all parameters behind the star are given -/
section
variable {X : Cx} {x : Str} {st : Stmt} {ps ks : List Str} {j k n : Nat} {sp : Sp} {e : Expr} {es : List Expr} {t tk : TA} {p pos : Pos} {kws : List (Str × V)} {ky : List Keyword}
theorem pe_udk (n : Nat) (ks : List Str) (c : ClK X.prog X.w X.K X.mg X.base k x st ps kws sp) (hr : Room j X.A) (hk : k ≤ j) (hg : Gl X x) (h0 : kws ≠ [])
    (bd : ∀ (D : Addr) (doc pm : Value) (an : Option Addr) (cdv ct : Value) (us ws : List Value), us.length = n → ws.length = ks.length → bindArgs (PySem.W.fnOf x x (defArgs st) (defBody st) (defScope st) .none (.ref D) doc pm an cdv ct) ⟨us, ks.zip ws⟩ = pure (ps.zip (us ++ ws)))
    (ha : PA X (e :: es) t) (hkw : PK X ky tk)
    (hall : (backToKw pos (keywordEach ky X.env)).all (·.1.isSome) = true := by rfl) (hks : (backToKw pos (keywordEach ky X.env)).filterMap (·.1) = ks := by rfl) (hdb : (x == ("__debug__" : Str)) = false := by decide) (he : starEach (e :: es) X.env = (false, eval e X.env) :: starEach es X.env := by rfl)
    (hpl : ((backTo pos (starEach (e :: es) X.env)).any (·.1) || (backToKw pos (keywordEach ky X.env)).any (·.1.isNone)) = false := by rfl) : PE X (.Call (.Name x p) (e :: es) ky pos) (tCallN n ks.length sp (fun vs zs => vs ++ zs) E0 t tk) := by
  obtain ⟨f, fd, F, G, hm, _⟩ := c.ex
  obtain ⟨mv, kb⟩ := F.kbinds0 (ps := ps) n ks [] (fun us _ ws => us ++ ws) h0 (fun q z => nomatch z) (fun a _ b => Vals.append a b) (fun D doc pm an cdv ct us mv ws l1 l2 l3 => by
    have e0 : mv = [] := List.length_eq_zero_iff.mp l2
    subst e0
    exact bd D doc pm an cdv ct us ws l1 l3)
  exact pe_callN G (hr.mono hk) hg hm F.kp kb pass0 ha hkw hall hks hdb he hpl
end
theorem each_pairwise {β : Type} {R : Addr → β → Prop} {S : β → β → Prop} {T : V → V → Prop} (h : ∀ r s m n, R r m → R s n → T (.ref r) (.ref s) → S m n) : ∀ {us : List Addr} {ks : List β}, Each R us ks → (us.map V.ref).Pairwise T → ks.Pairwise S
  | [], [], _, _ => .nil
  | r :: us, m :: ks, ⟨h1, h2⟩, p => by
    rw [List.map_cons, List.pairwise_cons] at p
    refine .cons (fun n hn => ?_) (each_pairwise h h2 p.2)
    obtain ⟨i, hi⟩ := List.mem_iff_getElem?.mp hn
    have lt : i < us.length := by
      rw [h2.len]
      exact (List.getElem?_eq_some_iff.mp hi).1
    obtain ⟨n2, hn2, hr⟩ := h2.get (List.getElem?_eq_getElem lt)
    have e : n2 = n := Option.some.inj (hn2.symm.trans hi)
    subst e
    exact h _ _ _ _ h1 hr (p.1 _ (List.mem_map.mpr ⟨_, List.getElem_mem lt, rfl⟩))
theorem PE.by {X : Cx} {e : Expr} {t t' : TE} (h : PE X e t) (i : ∀ σ H Q, t' σ H Q → t σ H Q) : PE X e t' := ⟨fun pins s σ H Q I q => h.run pins s σ H Q I (i σ H Q q)⟩
/-! ### how many passes may be made -/
def pV : Option Nat → V
  | none => .non
  | some p => .int (p : Nat)
def mostP (n : Nat) : Option Nat → Nat
  | none => n - 1
  | some p => min p (n - 1)
theorem mostP_le (n : Nat) (o : Option Nat) : mostP n o ≤ n - 1 := by
  cases o with
  | none => exact Nat.le_refl _
  | some p => exact Nat.min_le_right ..
end Lp
namespace Lp
open PySem PySem.Spec PyProof.Rows L2
/-! ### a search by rounds finds shortest words: mathematics -/
theorem nodup_le {α : Type} [DecidableEq α] : ∀ (l m : List α), l.Nodup → (∀ x ∈ l, x ∈ m) → l.length ≤ m.length
  | [], _, _, _ => Nat.zero_le _
  | a :: l, m, nd, sub => by
    rw [List.nodup_cons] at nd
    have am := sub a (List.mem_cons_self ..)
    have ih := nodup_le l (m.erase a) nd.2 fun x hx => (List.mem_erase_of_ne (fun (e : x = a) => nd.1 (e ▸ hx))).mpr (sub x (List.mem_cons_of_mem _ hx))
    have := List.length_erase_of_mem am
    have := List.length_pos_of_mem am
    rw [List.length_cons]
    omega
structure Bfs (ns : List Int) (ws : List (List Bool)) (k : Nat) : Prop where
  fst : ws[0]? = some []
  nod : (ws.map fun w => afterL w ns).Nodup
  done : ∀ (x : Nat) (b : Bool), 2 * x + b.toNat < k → ∀ w, ws[x]? = some w → passL b (afterL w ns) ∈ ws.map fun w => afterL w ns
  asc : ws.Pairwise fun u v => u.length ≤ v.length
  near : ∀ (x : Nat) (w : List Bool), k ≤ 2 * x + 1 → ws[x]? = some w → ∀ v ∈ ws, v.length ≤ w.length + 1
  least : ∀ w ∈ ws, ∀ u, afterL u ns = afterL w ns → w.length ≤ u.length
theorem bfs_zero {ns : List Int} : Bfs ns [[]] 0 where
  fst := rfl
  nod := by simp
  done := fun x b h => absurd h (Nat.not_lt_zero _)
  asc := List.pairwise_singleton ..
  near := fun x w _ hx v hv => by
    rw [List.mem_singleton.mp hv]
    exact Nat.zero_le _
  least := fun w hw u _ => by
    rw [List.mem_singleton.mp hw]
    exact Nat.zero_le _
theorem pair_get {α : Type} {R : α → α → Prop} {l : List α} (p : l.Pairwise R) {i j : Nat} {x y : α} (h : i < j) (hx : l[i]? = some x) (hy : l[j]? = some y) : R x y := by
  obtain ⟨hi, rfl⟩ := List.getElem?_eq_some_iff.mp hx
  obtain ⟨hj, rfl⟩ := List.getElem?_eq_some_iff.mp hy
  exact List.pairwise_iff_getElem.mp p i j hi hj h
/-- what fewer passes reach is known -/
theorem Bfs.known {ns : List Int} {ws : List (List Bool)} {at_ : Nat} {b : Bool} (r : Bfs ns ws (2 * at_ + b.toNat)) {w : List Bool} (hw : ws[at_]? = some w) : ∀ (k : Nat) (u : List Bool), u.length = k → k ≤ w.length → afterL u ns ∈ ws.map fun w => afterL w ns
  | 0, u, h, _ => by
    rw [List.length_eq_zero_iff.mp h]
    exact List.mem_map.mpr ⟨[], List.mem_of_getElem? r.fst, rfl⟩
  | k + 1, u, h, le => by
    obtain ⟨v, c, rfl⟩ := snoc_of (show 1 ≤ u.length by omega)
    rw [List.length_append, List.length_singleton] at h
    obtain ⟨z, hz, ez⟩ := List.mem_map.mp (r.known hw k v (by omega) (by omega))
    have lz := r.least z hz v ez.symm
    obtain ⟨x, hx⟩ := List.mem_iff_getElem?.mp hz
    have lt : x < at_ := by
      refine Nat.lt_of_not_le fun g => ?_
      rcases Nat.lt_or_eq_of_le g with g | g
      · have := pair_get r.asc g hw hx
        omega
      · subst g
        have e : w = z := Option.some.inj (hw.symm.trans hx)
        subst e
        omega
    rw [after_snoc, ← ez]
    exact r.done x c (by have := Bool.toNat_lt c; omega) z hx
theorem Bfs.old {ns : List Int} {ws : List (List Bool)} {at_ : Nat} {b : Bool} (r : Bfs ns ws (2 * at_ + b.toNat)) {w : List Bool} (hw : ws[at_]? = some w) (h : passL b (afterL w ns) ∈ ws.map fun w => afterL w ns) : Bfs ns ws (2 * at_ + b.toNat + 1) where
  fst := r.fst
  nod := r.nod
  done := fun x a hx v hv => by
    rcases two_split hx with z | ⟨rfl, rfl⟩
    · exact r.done x a z v hv
    · rw [hw] at hv
      cases hv
      exact h
  asc := r.asc
  near := fun x v hx hv u hu => by
    exact r.near x v (by omega) hv u hu
  least := r.least
theorem Bfs.new {ns : List Int} {ws : List (List Bool)} {at_ : Nat} {b : Bool} (r : Bfs ns ws (2 * at_ + b.toNat)) {w : List Bool} (hw : ws[at_]? = some w) (h : passL b (afterL w ns) ∉ ws.map fun w => afterL w ns) : Bfs ns (ws ++ [w ++ [b]]) (2 * at_ + b.toNat + 1) := by
  have le : ∀ v ∈ ws, v.length ≤ w.length + 1 := r.near at_ w (by have := Bool.toNat_lt b; omega) hw
  have al : at_ < ws.length := (List.getElem?_eq_some_iff.mp hw).1
  have nl : (w ++ [b]).length = w.length + 1 := by rw [List.length_append, List.length_singleton]
  have bl := Bool.toNat_lt b
  have get : ∀ {x : Nat} {v : List Bool}, (ws ++ [w ++ [b]])[x]? = some v → ws[x]? = some v ∨ (x = ws.length ∧ v = w ++ [b]) := fun {x v} hx => by
    by_cases g : x < ws.length
    · rw [List.getElem?_append_left g] at hx
      exact .inl hx
    · have lx := (List.getElem?_eq_some_iff.mp hx).1
      rw [List.length_append, List.length_singleton] at lx
      have ex : x = ws.length := by omega
      subst ex
      rw [List.getElem?_append_right (Nat.le_refl _), Nat.sub_self] at hx
      exact .inr ⟨rfl, (Option.some.inj hx).symm⟩
  refine ⟨?_, ?_, ?_, ?_, ?_, ?_⟩
  · rw [List.getElem?_append_left (by omega)]
    exact r.fst
  · rw [List.map_append]
    refine List.nodup_append.mpr ⟨r.nod, by simp, fun x hx y hy z => h ?_⟩
    rw [← after_snoc, ← List.mem_singleton.mp (show y ∈ [afterL (w ++ [b]) ns] from hy), ← z]
    exact hx
  · intro x a hx v hv
    rw [List.map_append]
    rcases get hv with g | ⟨e1, e2⟩
    · rcases two_split hx with z | ⟨rfl, rfl⟩
      · exact List.mem_append_left _ (r.done x a z v g)
      · rw [hw] at g
        cases g
        refine List.mem_append_right _ ?_
        rw [← after_snoc]
        exact List.mem_singleton.mpr rfl
    · omega
  · refine List.pairwise_append.mpr ⟨r.asc, List.pairwise_singleton .., fun u hu v hv => ?_⟩
    rw [List.mem_singleton.mp hv, nl]
    exact le u hu
  · intro x v hx hv u hu
    have lu : u.length ≤ w.length + 1 := by
      rcases List.mem_append.mp hu with g | g
      · exact le u g
      · rw [List.mem_singleton.mp g, nl]
        exact Nat.le_refl _
    rcases get hv with g | ⟨e1, e2⟩
    · rcases Nat.lt_or_eq_of_le (show at_ ≤ x by omega) with y | y
      · have e2 := pair_get r.asc y hw g
        omega
      · subst y
        have e : w = v := Option.some.inj (hw.symm.trans g)
        subst e
        exact lu
    · rw [e2, nl]
      omega
  · intro v hv u hu
    rcases List.mem_append.mp hv with g | g
    · exact r.least v g u hu
    · rw [List.mem_singleton.mp g] at hu ⊢
      refine Nat.le_of_not_lt fun lt => h ?_
      rw [nl] at lt
      rw [← after_snoc, ← hu]
      exact r.known hw u.length u rfl (by omega)
/-! ### its dict -/
abbrev kvW (ns : List Int) (ws : List (List Bool)) : List (List L2.Key × V) := ws.map fun w => (kyI (afterL w ns), V.str (wd w))
theorem kvW_has (ns : List Int) (ws : List (List Bool)) (m : List Int) : (valV (kvW ns ws) (kyI m)).isSome = decide (m ∈ ws.map fun w => afterL w ns) := by
  rw [← valV_any, Bool.eq_iff_iff, List.any_eq_true, decide_eq_true_iff]
  constructor
  · rintro ⟨p, hp, e⟩
    obtain ⟨x, hx, rfl⟩ := List.mem_map.mp hp
    exact List.mem_map.mpr ⟨x, hx, kyI_inj (of_decide_eq_true e)⟩
  · intro h
    obtain ⟨x, hx, e⟩ := List.mem_map.mp h
    exact ⟨(kyI (afterL x ns), V.str (wd x)), List.mem_map.mpr ⟨x, hx, rfl⟩, decide_eq_true (by rw [e])⟩
theorem kvW_get {ns : List Int} : ∀ {ws : List (List Bool)} {w : List Bool}, (ws.map fun w => afterL w ns).Nodup → w ∈ ws → valV (kvW ns ws) (kyI (afterL w ns)) = some (.str (wd w))
  | u :: ws, w, nd, h => by
    rw [List.map_cons, List.nodup_cons] at nd
    by_cases e : afterL u ns = afterL w ns
    · rcases List.mem_cons.mp h with rfl | z
      · exact valV_pos rfl
      · exact absurd (List.mem_map.mpr ⟨w, z, e.symm⟩) nd.1
    · rcases List.mem_cons.mp h with rfl | z
      · exact absurd rfl e
      · have ne : ¬ kyI (afterL u ns) = kyI (afterL w ns) := fun y => e (kyI_inj y)
        have ih := kvW_get nd.2 z
        unfold valV at ih ⊢
        rw [kvW, List.map_cons, List.find?_cons_of_neg (by simpa using fun y => e (kyI_inj y))]
        exact ih
/-! ### at its end the search knows every row that can be reached -/
theorem Bfs.all {ns : List Int} {ws : List (List Bool)} (r : Bfs ns ws (2 * ws.length)) : ∀ (k : Nat) (u : List Bool), u.length = k → afterL u ns ∈ ws.map fun w => afterL w ns
  | 0, u, h => by
    rw [List.length_eq_zero_iff.mp h]
    exact List.mem_map.mpr ⟨[], List.mem_of_getElem? r.fst, rfl⟩
  | k + 1, u, h => by
    obtain ⟨v, c, rfl⟩ := snoc_of (show 1 ≤ u.length by omega)
    rw [List.length_append, List.length_singleton] at h
    obtain ⟨z, hz, ez⟩ := List.mem_map.mp (r.all k v (by omega))
    obtain ⟨x, hx⟩ := List.mem_iff_getElem?.mp hz
    have lt := (List.getElem?_eq_some_iff.mp hx).1
    rw [after_snoc, ← ez]
    exact r.done x c (by have := Bool.toNat_lt c; omega) z hx
theorem Bfs.mem {ns : List Int} {ws : List (List Bool)} (r : Bfs ns ws (2 * ws.length)) {m : List Int} : m ∈ (ws.map fun w => afterL w ns) ↔ ∃ u : List Bool, afterL u ns = m :=
  ⟨fun h => let ⟨w, _, e⟩ := List.mem_map.mp h; ⟨w, e⟩, fun ⟨u, e⟩ => e ▸ r.all u.length u rfl⟩
end Lp
namespace Lp
open PySem PySem.Spec PyProof.Rows L2
/-! ### sorted rows, any number of them -/
def sortR (ms : List (List Int)) : List (List Int) := ms.mergeSort fun a b => decide (a ≤ b)
abbrev dRw (m : List Int) : PyData := .tuple (m.map PyData.int)
theorem dataLe_tups : PySem.W.dataLe false dRw = fun p q => decide (p ≤ q) := by
  funext p q
  show (!PySem.W.dataLt (.tuple (q.map .int)) (.tuple (p.map .int))) = _
  rw [PySem.W.dataLt_tuple]
  show (!PySem.W.rowLt (q.map .int) (p.map .int)) = _
  rw [PySem.W.dataLt_ints]
  by_cases h : q < p
  · rw [decide_eq_true h, decide_eq_false fun r => List.not_lt.mpr r h]
    rfl
  · rw [decide_eq_false h, decide_eq_true (List.not_lt.mp h)]
    rfl
/-- these tuples stand at these addresses -/
abbrev RwAt (K : PySem.W.Frag) (H : Hp) : List Addr → List (List Int) → Prop := Each fun r m => SqT K H r (m.map V.int)
theorem RwAt.same {K : PySem.W.Frag} {H G : Hp} {rs : List Addr} {ms : List (List Int)} (h : RwAt K H rs ms) (s : Same H G) : RwAt K G rs ms := h.imp fun _ _ _ e => SqT.same s e
def rSortRows (K : PySem.W.Frag) : List V → Hp → VK → Prop := fun vs H Q => ∃ (a : Addr) (rs : List Addr) (ms : List (List Int)), vs = [.ref a] ∧ SqL K H a (rs.map V.ref) ∧ RwAt K H rs ms ∧ (∀ m ∈ ms, m ≠ []) ∧
  ∀ (qs : List Addr) (p : Addr), RwAt K H qs (sortR ms) → H p = none → Q (.ref p) (upd H p (.lst (qs.map V.ref)))
section
variable {X : Cx} {pins : List (Addr × Obj)} {σ : L2.St} {H : Hp} {s : Shared}
theorem rows_each {rs : List Addr} {ms : List (List Int)} {us : List Value} (h : RwAt X.K H rs ms) (v : Vals (rs.map V.ref) us) : PySem.W.EachIs (fun v m => ∃ r, v = Value.ref r ∧ SqT X.K H r (m.map V.int)) us ms := by
  induction rs generalizing ms us with
  | nil =>
    cases ms with
    | nil =>
      cases v
      exact .nil
    | cons m ms => exact h.elim
  | cons r rs ih =>
    cases ms with
    | nil => exact h.elim
    | cons m ms =>
      cases v with
      | cons a b =>
        cases a
        exact .cons ⟨r, rfl, h.1⟩ (ih h.2 b)
theorem each_rows {ms : List (List Int)} {us : List Value} (h : PySem.W.EachIs (fun v m => ∃ r, v = Value.ref r ∧ SqT X.K H r (m.map V.int)) us ms) : ∃ qs : List Addr, us = qs.map Value.ref ∧ RwAt X.K H qs ms := by
  induction h with
  | nil => exact ⟨[], rfl, trivial⟩
  | cons a _ ih =>
    obtain ⟨r, e, h1⟩ := a
    obtain ⟨qs, e2, h2⟩ := ih
    exact ⟨r :: qs, by rw [e, e2]; rfl, h1, h2⟩
theorem vals_refs : ∀ qs : List Addr, Vals (qs.map V.ref) (qs.map Value.ref)
  | [] => .nil
  | q :: qs => .cons (show RelV (.ref q) (.ref q) from rfl) (vals_refs qs)
theorem row_reads (I : Inv X pins σ H s) {r : Addr} {m : List Int} (h : SqT X.K H r (m.map V.int)) : ∃ as, Reads s.heap (.ref r) (dRw m) as := Dp.reads I _ _ _ (Dp_row h) (show RelV (.ref r) (.ref r) from rfl)
theorem cr_sortRows (hu : X.A.units + 64 < cLine) : CallR X (.builtin "sorted") (rSortRows X.K) := by
  intro pins s σ H vs us Q I r h
  obtain ⟨a, rs, ms, rfl, hs, hE, ne, q⟩ := h
  obtain ⟨its, rv, hl, hz⟩ := I.list hs
  rw [Vals.ref1 r]
  have ml := hE.len
  rw [List.length_map] at hz
  have e1 := rows_each hE rv
  have e3 : PySem.W.EachIs (fun v m => ∃ as, Reads s.heap v (dRw m) as) its ms := e1.mono fun v m z => by
    obtain ⟨r, e, h⟩ := z
    rw [e]
    exact row_reads I h
  have al : PySem.W.AllAlike (ms.map dRw) := PySem.W.AllAlike.of fun a b => by
    show PySem.W.alike (.tuple (a.map PyData.int)) (.tuple (b.map PyData.int)) = true
    simp only [PySem.W.alike]
    exact PySem.W.alike_ints a b
  have so : PySem.W.Sortable (ms.map dRw) := .inl fun d hd => by
    obtain ⟨m, hm, e⟩ := List.mem_map.mp hd
    cases m with
    | nil => exact absurd rfl (ne _ hm)
    | cons x m => exact ⟨_, _, e.symm⟩
  have un : ∀ m, m ∈ ms → X.A.units + 2 + (dRw m).depth < cLine := fun m _ => by
    have := depth_ints m
    simp only [PyData.depth]
    omega
  refine PySem.W.sorted_data (enc := dRw) hl.isList e1 e3 al so (by omega) un fun out ol e2 => ?_
  rw [dataLe_tups] at e2
  obtain ⟨qs, rfl, h2⟩ := each_rows e2
  rw [List.length_map] at ol
  obtain ⟨ep, he'⟩ := PyProof.Rows.sortedAll_at s.heap its (qs.map Value.ref).toArray
  refine ⟨.ref _, upd H (s.heap.objs.size + 1) (.lst (qs.map V.ref)), I.laid (t' := s.toks) (fun _ _ => PyProof.Rows.sortedAll_old) (Nat.le_succ _) ⟨?_, qs.map Value.ref, ep, vals_refs qs, he'⟩, rfl, q qs _ h2 (I.hok.fresh (Nat.le_succ _))⟩
  rw [List.length_map]
  omega
end
/-! ### the same rows, sorted, are the same list -/
theorem sortR_perm (ms : List (List Int)) : (sortR ms).Perm ms := List.mergeSort_perm _ _
theorem sortR_eq {a b : List (List Int)} (h : a.Perm b) : sortR a = sortR b := by
  have tr : ∀ x y z : List Int, decide (x ≤ y) = true → decide (y ≤ z) = true → decide (x ≤ z) = true := fun x y z h1 h2 => decide_eq_true (List.le_trans (of_decide_eq_true h1) (of_decide_eq_true h2))
  have to : ∀ x y : List Int, (decide (x ≤ y) || decide (y ≤ x)) = true := fun x y => by
    rcases List.le_total x y with z | z
    · rw [decide_eq_true z]
      rfl
    · rw [decide_eq_true z, Bool.or_true]
  have s1 : (sortR a).Pairwise (fun x y => decide (x ≤ y) = true) := List.pairwise_mergeSort tr to a
  have s2 : (sortR b).Pairwise (fun x y => decide (x ≤ y) = true) := List.pairwise_mergeSort tr to b
  have p : (sortR a).Perm (sortR b) := (sortR_perm a).trans (h.trans (sortR_perm b).symm)
  exact p.eq_of_pairwise (fun x y _ _ h1 h2 => List.le_antisymm (of_decide_eq_true h1) (of_decide_eq_true h2)) s1 s2
theorem perm_nodup {a b : List (List Int)} (ha : a.Nodup) (hb : b.Nodup) (h : ∀ x, x ∈ a ↔ x ∈ b) : a.Perm b := (List.perm_ext_iff_of_nodup ha hb).mpr h
end Lp
namespace Lp
open PySem PySem.Spec PyProof.Rows L2
/-! ### the less of two texts, the least of some -/
theorem cmp_strs {prog : Program} {w : World} {A : Around} {F : Nat → Value → Prop} (val : Nat → Str) (hv : ∀ i v, F i v → ∃ t, v = .str (val i) t) : CmpOf prog w A .Lt F (fun i j => decide ((val i).cps.toList < (val j).cps.toList)) := by
  intro i j vi vj s Q E hi hj h
  obtain ⟨t, rfl⟩ := hv i vi hi
  obtain ⟨u, rfl⟩ := hv j vj hj
  exact lt_str h
section
variable {prog : Program} {w : World} {A : Around} {E : Value → Shared → Prop} {s : Shared}
theorem min_strs {a b : Str} {t u : Tok} {Q : Value → Shared → Prop} (hh : A.handled = none)
    (h : ∀ h' tk, (∀ c o, s.heap.get? c = some o → h'.get? c = some o) → Q (if b.cps.toList < a.cps.toList then .str b u else .str a t) { s with heap := h', toks := tk }) :
    wpAny (model prog w) A (call (.builtin "min") [.str a t, .str b u]) Q E s := by
  let its : Array Value := #[.str a t, .str b u]
  let val : Nat → Str := fun i => if i = 0 then a else b
  have at_ : ∀ i v, its[i]? = some v → ∃ t, v = Value.str (val i) t := fun i v e => by
    match i with
    | 0 => exact ⟨t, (Option.some.inj e).symm⟩
    | 1 => exact ⟨u, (Option.some.inj e).symm⟩
    | i + 2 => cases e
  have tup : (s.heap.push { cls := .type "tuple", data := .seq its }).IsTuple s.heap.objs.size its := ⟨_, Heap.get?_push_size _ rfl, rfl, 0, rfl⟩
  have sz : (s.heap.push { cls := .type "tuple", data := .seq its }).objs.size = s.heap.objs.size + 1 := Heap.size_push ..
  have ne : s.heap.objs.size ≠ (s.heap.push { cls := .type "tuple", data := .seq its }).objs.size := by rw [sz]; omega
  refine call_min_two (wpAny_pyIter_tuple tup ⟨_, _, _, _, _, _, _, rfl, Walks.tuple (A := A.in1) hh _ s.heap.objs.size ne its, ⟨⟨_, Heap.get?_push_size _ rfl, rfl, rfl⟩, tup.push _⟩, fun c hc => ?_, Nat.zero_lt_succ _, cmp_strs val at_, fun v h' tk hP hk => ?_⟩)
  · show c < ((s.heap.push _).push _).objs.size
    rw [Heap.size_push, sz]
    have two : c = (s.heap.push { cls := .type "tuple", data := .seq its }).objs.size ∨ c = s.heap.objs.size := by
      rcases List.mem_cons.mp hc with z | z
      · exact .inl z
      · exact .inr (List.mem_singleton.mp z)
    rw [sz] at two
    rcases two with z | z
    · rw [z]
      exact Nat.lt_succ_self _
    · rw [z]
      exact Nat.lt_succ_of_lt (Nat.lt_succ_self _)
  · have old : ∀ c o, s.heap.get? c = some o → h'.get? c = some o := fun c o e => by
      refine hk c o (fun hm => ?_) (Heap.get?_push_of_some _ (Heap.get?_push_of_some _ e))
      have lt := Heap.lt_size e
      have one : c = (s.heap.push { cls := .type "tuple", data := .seq its }).objs.size := List.mem_singleton.mp hm
      rw [sz] at one
      rw [one] at lt
      exact Nat.lt_irrefl _ (Nat.lt_of_succ_lt lt)
    have z := h h' tk old
    have hP2 : its[argBest (fun i j => decide ((val i).cps.toList < (val j).cps.toList)) 1]? = some v := hP
    by_cases e : b.cps.toList < a.cps.toList
    · have e1 : argBest (fun i j => decide ((val i).cps.toList < (val j).cps.toList)) 1 = 1 := by
        simp only [argBest]
        exact if_pos (decide_eq_true e)
      rw [e1] at hP2
      rw [if_pos e] at z
      rw [← Option.some.inj hP2]
      exact z
    · have e1 : argBest (fun i j => decide ((val i).cps.toList < (val j).cps.toList)) 1 = 0 := by
        simp only [argBest]
        exact if_neg (fun q => e (of_decide_eq_true q))
      rw [e1] at hP2
      rw [if_neg e] at z
      rw [← Option.some.inj hP2]
      exact z
end
section
variable {X : Cx}
def rMin2S : List V → Hp → VK → Prop := fun xs H Q => ∃ a b : Str, xs = [.str a, .str b] ∧ Q (.str (if b.cps.toList < a.cps.toList then b else a)) H
theorem call_min2S (hc : X.calm = true) : CallR X (.builtin "min") rMin2S := by
  intro pins s σ H xs us Q I r h
  obtain ⟨a, b, rfl, q⟩ := h
  obtain ⟨u, w', rfl, ⟨t, rfl⟩, ⟨t', rfl⟩⟩ := vals2 r
  refine min_strs (I.ok.hd hc) fun h' tk k => ⟨_, H, I.kept k, ?_, q⟩
  split
  · exact ⟨_, rfl⟩
  · exact ⟨_, rfl⟩
theorem hold_strs {h : Heap} : ∀ {ts : List Str} {us : List Value}, Vals (ts.map V.str) us → PySem.W.HoldAll h us ts
  | [], _, .nil => .nil
  | t :: ts, _, .cons r rs => by
    obtain ⟨tk, rfl⟩ := r
    exact .cons ⟨_, .str _ _⟩ (hold_strs rs)
theorem hold_str {h : Heap} {v : Value} {y : Str} (hv : PySem.W.Holds h v y) : RelV (.str y) v := by
  obtain ⟨as, r⟩ := hv
  cases r
  exact ⟨_, rfl⟩
def rMinD (K : PySem.W.Frag) : List V → List V → Hp → VK → Prop := fun vs zs H Q => ∃ (a : Addr) (ws : List Str), vs = [.ref a] ∧ zs = [.non] ∧ SqL K H a (ws.map V.str) ∧ (ws = [] → Q .non H) ∧ ∀ y ys, ws = y :: ys → Q (.str (PySem.W.minOf y ys)) H
theorem call_minD (hc : X.calm = true) (hu : X.A.units + 1 < cLine) : CallRK X (.builtin "min") ["default"] (rMinD X.K) := by
  intro pins s σ H xs zs us ws Q I r1 r2 h
  obtain ⟨a, ts, rfl, rfl, hs, q0, q1⟩ := h
  obtain ⟨u, rfl, rx⟩ := vals1 r1
  obtain ⟨u2, rfl, ry⟩ := vals1 r2
  obtain ⟨its, rv, hl, _⟩ := I.list hs
  have hold : PySem.W.HoldAll s.heap its.toArray.toList ts := hold_strs rv
  cases rx
  refine PySem.W.min_list_datum_default (α := Str) (I.ok.hd hc) hl.isList hold hu (fun e h' tk k => ?_) fun y ys i v h' tk e hi hv k => ?_
  · exact ⟨_, H, I.kept k, ry, q0 e⟩
  · refine ⟨_, H, I.kept k, ?_, q1 y ys e⟩
    exact hold_str hv
end
/-! ### the sum of a tuple -/
theorem preSum_get : ∀ (ns : List Int) (k : Nat), k ≤ ns.length → preSum (fun i => ns.getD i 0) k = (ns.take k).sum
  | ns, 0, _ => rfl
  | ns, k + 1, h => by
    show preSum (fun i => ns.getD i 0) k + ns.getD k 0 = _
    rw [preSum_get ns k (by omega), List.take_add_one, List.getElem?_eq_getElem (by omega), List.sum_append, List.getD_eq_getElem?_getD, List.getElem?_eq_getElem (by omega)]
    simp
def rSumT (K : PySem.W.Frag) : List V → Hp → VK → Prop := fun vs H Q => ∃ (a : Addr) (ns : List Int), vs = [V.ref a] ∧ SqT K H a (ns.map V.int) ∧ Q (.int ns.sum) H
theorem vals_int_at {ns : List Int} {us : List Value} (r : Vals (ns.map V.int) us) {i : Nat} {v : Value} (h : us[i]? = some v) : ∃ t, v = Value.int (ns.getD i 0) t := by
  induction ns generalizing us i with
  | nil =>
    cases r
    cases h
  | cons n ns ih =>
    cases r with
    | cons a r =>
      cases i with
      | zero =>
        obtain ⟨t, rfl⟩ := a
        exact ⟨t, (Option.some.inj h).symm⟩
      | succ i => exact ih r h
theorem cr_sumT {X : Cx} (hc : X.calm = true) : CallR X (.builtin "sum") (rSumT X.K) := by
  intro pins s σ H vs us Q I r h
  obtain ⟨a, ns, rfl, hs, q⟩ := h
  obtain ⟨its, rv, ht, _⟩ := I.tuple hs
  rw [Vals.ref1 r]
  have il : its.length = ns.length := by
    have := rv.length
    rw [List.length_map] at this
    exact this.symm
  refine call_sum_walkAnyS (PySem.W.iter_tupleW (A := X.A.in1) (I.ok.hd hc) ht fun s2 e W st hfp hw hk => ⟨_, _, _, _, _, _, _, fun i => ns.getD i 0, rfl, W, st, hfp, fun i v hv => vals_int_at rv (by simpa using hv), fun s' t' mv => ?_⟩)
  obtain ⟨h', tk, e2, old⟩ := PySem.W.moved_old e rfl mv
  subst e2
  have es : preSum (fun i => ns.getD i 0) its.toArray.size = ns.sum := by
    rw [List.size_toArray, il, preSum_get ns _ (Nat.le_refl _), List.take_length]
  rw [es]
  exact ⟨.int _, H, I.kept old, ⟨_, rfl⟩, q⟩
end Lp
namespace Lp
open PySem PySem.Spec PyProof.Rows L2
/-! ### f(k = v, ..) alone, some parameters behind the star left out -/
section
variable {X : Cx} {x : Str} {st : Stmt} {ps : List Str} {j k : Nat} {sp : Sp} {tk : TA} {p pos : Pos} {kws : List (Str × V)} {ky : List Keyword}
theorem pe_udw (ks : List Str) (ms : List (Str × V)) (g : {α : Type} → List α → List α → List α) (c : ClK X.prog X.w X.K X.mg X.base k x st ps kws sp) (hr : Room j X.A) (hk : k ≤ j) (hg : Gl X x) (h0 : kws ≠ []) (hms : ∀ q ∈ ms, q ∈ kws)
    (hrel : ∀ {mz zs : List V} {mv ws : List Value}, Vals mz mv → Vals zs ws → Vals (g mz zs) (g mv ws))
    (bd : ∀ (D : Addr) (doc pm : Value) (an : Option Addr) (cdv ct : Value) (mv ws : List Value), mv.length = ms.length → ws.length = ks.length → KwChain D ((ms.map (·.1)).zip mv) (bindArgs (PySem.W.fnOf x x (defArgs st) (defBody st) (defScope st) .none (.ref D) doc pm an cdv ct) ⟨[], ks.zip ws⟩) (ps.zip (g mv ws)))
    (hkw : PK X ky tk)
    (hall : (backToKw pos (keywordEach ky X.env)).all (·.1.isSome) = true := by rfl) (hks : (backToKw pos (keywordEach ky X.env)).filterMap (·.1) = ks := by rfl)
    (hdb : (x == ("__debug__" : Str)) = false := by decide) (hpl : ((backTo pos (starEach [] X.env)).any (·.1) || (backToKw pos (keywordEach ky X.env)).any (·.1.isNone)) = false := by rfl) :
    PE X (.Call (.Name x p) [] ky pos) (tKw ks.length sp (fun zs => g (ms.map (·.2)) zs) tk) := by
  obtain ⟨f, fd, F, G, hm, _⟩ := c.ex
  obtain ⟨mv, kb⟩ := F.kbinds0 (ps := ps) 0 ks ms (fun _ mv ws => g mv ws) h0 hms (fun _ a b => hrel a b) (fun D doc pm an cdv ct us mv ws l1 l2 l3 => by
    have e0 : us = [] := List.length_eq_zero_iff.mp l1
    subst e0
    exact bd D doc pm an cdv ct mv ws l2 l3)
  refine ⟨fun pins s σ H Q I h => ?_⟩
  refine wpAny_Call_Name_kw (ld_glob I hg hm ?_ hdb)
  refine PySem.W.callWith_KW0 (h₀ := X.base) I.ok.mod.kin F.kp hall (thn (hkw.run pos pins s σ H _ I h) fun ws s2 ⟨zs, H2, I2, rz, l2, q2⟩ => ⟨I2.kIn, ?_⟩) hpl
  rw [hks]
  exact run_fnN G (hr.mono hk) kb pass0 I2 .nil rz rfl l2 q2
end
/-! ### sorted(d), the keys of d tuples of ints -/
section
variable {X : Cx} {pins : List (Addr × Obj)} {σ : L2.St} {H : Hp} {s : Shared}
theorem row_readsN (I : Inv X pins σ H s) {r : Addr} {m : List Int} (h : SqT X.K H r (m.map V.int)) : Reads s.heap (.ref r) (dRw m) [] := by
  obtain ⟨its, rv, ht, _⟩ := I.tuple h
  obtain ⟨o, ho, hc, n, hd⟩ := ht
  have rr : ReadsAll s.heap its.toArray.toList (m.map PyData.int) [] := ints_read (by simpa using rv)
  exact .tuple ho hc hd rr
def rSortDT (K : PySem.W.Frag) : List V → Hp → VK → Prop := fun xs H Q => ∃ (d : Addr) (kvs : List (List L2.Key × V)) (ms : List (List Int)), xs = [.ref d] ∧ H d = some (.dT kvs) ∧ kvs.map (·.1) = ms.map kyI ∧ (∀ m ∈ ms, m ≠ []) ∧
  ∀ (qs : List Addr) (p : Addr), RwAt K H qs (sortR ms) → H p = none → Q (.ref p) (upd H p (.lst (qs.map V.ref)))
theorem keys_rows {K : PySem.W.Frag} {H : Hp} : ∀ {kvs : List (List L2.Key × V)} {bs : List Addr} {ms : List (List Int)}, IsKeys H kvs bs → kvs.map (·.1) = ms.map kyI → RwAt K H bs ms := fun {kvs bs ms} h => by
  induction h generalizing ms with
  | nil =>
    intro e
    rw [List.map_eq_nil_iff.mp e.symm]
    exact trivial
  | cons a _ ih =>
    intro e
    cases ms with
    | nil => cases e
    | cons m ms =>
      obtain ⟨e1, e2⟩ := List.cons.inj e
      refine ⟨.inl (.inl ?_), ih e2⟩
      rw [← kyI_V, ← (show _ = kyI m from e1)]
      exact a
theorem call_sortDT (hc : X.calm = true) (hu : X.A.units + 64 < cLine) : CallR X (.builtin "sorted") (rSortDT X.K) := by
  intro pins s σ H xs us Q I r h
  obtain ⟨d, kvs, ms, rfl, hd, hk, ne, q⟩ := h
  obtain ⟨u, rfl, rx⟩ := r.one
  cases rx
  obtain ⟨z, hs, ks, pr, o, es, ep, ho, hx, hdt, he, hn⟩ := (show ObjOk X.prog X.w H s.heap d (.dT kvs) from I.hok d _ hd)
  have sizes : es.size = ks.length ∧ kvs.length = ks.length := ⟨size_of_entries he, Paired.length pr⟩
  obtain ⟨l1, l2⟩ := sizes
  have keys := keys_rows (K := X.K) (isKeys_of pr) hk
  have kl := keys.len
  rw [List.length_map] at kl
  refine Calls.call_function_entry PyProof.Rows.kind_sorted PyProof.Rows.plain_sorted PyProof.Rows.entry_sorted (PyProof.Rows.args_sorted1 _) ?_
  unfold Builtin.«sorted»
  refine wpAny_bind (m := checkCount "sorted" 1 1 _) (wpAny_pure (wpAny_bind (PySem.W.kdu_collect (A := X.A.in1) (kdl_raw hs hx hdt) (I.ok.hd hc) ho (by omega) fun h' tk acc hkp it => ?_)))
  have many : acc.size = ks.length := it.1.trans l1
  have ea : acc.toList = (ks.map fun x => x.2.1).map Value.ref := List.ext_getElem (by simp [many]) fun j p1 p2 => by
    have jk : j < ks.length := by simpa using p2
    have ja : j < acc.size := by omega
    obtain ⟨en, a1, a2⟩ := it.2 j acc[j] (Array.getElem?_eq_getElem ja)
    have a3 := (entry_at he j).symm.trans a1
    rw [List.getElem?_eq_getElem jk] at a3
    rw [Array.getElem_toList, a2, ← Option.some.inj a3, List.getElem_map, List.getElem_map]
    rfl
  have I1 : Inv X pins σ H { s with heap := h', toks := tk } := I.kept hkp
  have al2 : acc.toList.length ≤ sizeLine := by rw [ea, List.length_map, List.length_map]; omega
  refine wpAny_bind (wpAny_newList ?_ al2)
  have hoL := Heap.get?_push_size h' (o := seqObj "list" acc.toList.toArray 0) rfl
  have e1 : PySem.W.EachIs (fun v m => ∃ r, v = Value.ref r ∧ SqT X.K H r (m.map V.int)) acc.toList ms := by
    rw [ea]
    exact rows_each keys (vals_refs _)
  have e3 : PySem.W.EachIs (fun v m => ∃ as, Reads (h'.push (seqObj "list" acc.toList.toArray 0)) v (dRw m) as ∧ h'.objs.size ∉ as) acc.toList ms := e1.mono fun v m zz => by
    obtain ⟨r, e, hr⟩ := zz
    rw [e]
    exact ⟨[], PyProof.Rows.Reads.keeps (fun _ _ q => Heap.get?_push_of_some _ q) (row_readsN I1 hr), by simp⟩
  have al : PySem.W.AllAlike (ms.map dRw) := PySem.W.AllAlike.of fun a b => by
    show PySem.W.alike (.tuple (a.map PyData.int)) (.tuple (b.map PyData.int)) = true
    simp only [PySem.W.alike]
    exact PySem.W.alike_ints a b
  have so : PySem.W.Sortable (ms.map dRw) := .inl fun d hd => by
    obtain ⟨m, hm, e⟩ := List.mem_map.mp hd
    cases m with
    | nil => exact absurd rfl (ne _ hm)
    | cons x m => exact ⟨_, _, e.symm⟩
  have un : ∀ m, m ∈ ms → X.A.in1.units + 1 + (dRw m).depth < cLine := fun m _ => by
    have := depth_ints m
    have iu : X.A.in1.units ≤ X.A.units + 1 := by
      first | exact Nat.le_refl _ | (show _ ≤ _; simp [Around.in1]; omega)
    simp only [PyData.depth]
    omega
  refine wpAny_bind (wpAny_holding (PySem.W.list_sort_data (enc := dRw) (s := { s with heap := h'.push (seqObj "list" acc.toList.toArray 0), toks := tk }) hoL e1 e3 al so (by omega) un fun out ol e2 => ?_))
  rw [dataLe_tups] at e2
  obtain ⟨qs, rfl, h2⟩ := each_rows e2
  rw [List.length_map] at ol
  obtain ⟨ep2, he'⟩ := PyProof.Rows.sortedHeap_at (vs := acc.toList) (out := (qs.map Value.ref).toArray) hoL
  refine wpAny_pure ⟨_, rfl, .ref h'.objs.size, upd H h'.objs.size (.lst (qs.map V.ref)), I1.laid (t' := tk) (fun b u e => ?_) (Nat.le_refl _) ⟨by rw [List.length_map]; omega, qs.map Value.ref, ep2, vals_refs qs, he'⟩, rfl, q qs _ h2 (I1.hok.fresh (Nat.le_refl _))⟩
  have older := Heap.lt_size e
  rw [PyProof.Rows.sortedHeap_old (Nat.ne_of_lt older) (by rw [size_push']; exact Nat.lt_succ_of_lt older)]
  exact Heap.get?_push_of_some _ e
end
end Lp
namespace Lp
open PySem PySem.Spec PyProof.Rows L2
/-! ### for x, y in zip(tuple, list), both of one length -/
structure ZM (z a b : Addr) (N : Nat) : Prop where
  az : a < N
  bz : b < N
  ez : z = N + 4
def zmFp (N : Nat) : List Addr := [N + 4, N + 2, N + 3, N, N + 1]
def zmSt (N : Nat) (a b : Addr) (i : Nat) (h : Heap) : Prop :=
  IsZip h (N + 4) (N + 2) (N + 3) .none ∧ IsTupOf2 h (N + 2) (.ref N) (.ref (N + 1)) ∧ (∃ u v, IsTupOf2 h (N + 3) u v) ∧ h.IsTupleIter N a i ∧ h.IsListIter (N + 1) b i
def ItM (K : PySem.W.Frag) (a b : Addr) : It where
  go := fun i H => ∃ (xs ys : List V) (x y : V), SqT K H a xs ∧ SqL K H b ys ∧ xs[i]? = some x ∧ ys[i]? = some y
  yld := fun i H v H' => ∃ (T : Addr) (x y : V), v = .ref T ∧ H T = none ∧ H' = upd H T (.tup [x, y]) ∧ (∀ xs, SqT K H a xs → xs[i]? = some x) ∧ ∀ ys, SqL K H b ys → ys[i]? = some y
  stop := fun i H => ∃ xs ys : List V, SqT K H a xs ∧ SqL K H b ys ∧ xs.length = i ∧ ys.length = i
theorem zm_cases {N c : Nat} (h : c ∈ zmFp N) : c = N + 4 ∨ c = N + 2 ∨ c = N + 3 ∨ c = N ∨ c = N + 1 := by simpa [zmFp] using h
theorem zm_sep {N a b : Nat} (ha : a < N) (hb : b < N) : ZipSep2 (N + 4) (N + 2) (N + 3) N (N + 1) [N, a] [N + 1, b] :=
  zip_sep2 (fp1 := [a]) (fp2 := [b]) (fun x hx => by rw [List.mem_singleton.mp hx]; exact ha) (fun x hx => by rw [List.mem_singleton.mp hx]; exact hb)
theorem turn_zm {P : Program} {w : World} {K : PySem.W.Frag} {elts : List Expr} {kk : Nat} {tpos : Pos} {a b : Addr} {N : Nat} (ha : a < N) (hb : b < N) :
    Turn P w K (.Tuple elts kk tpos) (ItM K a b) (zmFp N) (N + 4) (zmSt N a b) where
  mem := by simp [zmFp]
  obj := fun i h st c hc => by
    obtain ⟨s1, s2, ⟨u, v, s3⟩, ⟨o4, e4, _, d4⟩, ⟨o5, e5, _, d5⟩⟩ := st
    rcases zm_cases hc with rfl | rfl | rfl | rfl | rfl
    · exact ⟨_, s1, fun _ z => nomatch z⟩
    · exact ⟨_, s2, fun _ z => nomatch z⟩
    · exact ⟨_, s3, fun _ z => nomatch z⟩
    · exact ⟨o4, e4, fun _ z => by rw [d4] at z; cases z⟩
    · exact ⟨o5, e5, fun _ z => by rw [d5] at z; cases z⟩
  keep := fun i h h' st k => by
    obtain ⟨s1, s2, ⟨u, v, s3⟩, s4, s5⟩ := st
    have m : ∀ c, c = N + 4 ∨ c = N + 2 ∨ c = N + 3 ∨ c = N ∨ c = N + 1 → c ∈ zmFp N := fun c z => by simpa [zmFp] using z
    refine ⟨k _ (m _ (by simp)) _ s1, k _ (m _ (by simp)) _ s2, ⟨u, v, k _ (m _ (by simp)) _ s3⟩, s4.at fun o z => k _ (m _ (by simp)) o z, s5.at fun o z => k _ (m _ (by simp)) o z⟩
  item := fun X hP hw hK hc i pins s σ H E I hf st hg => by
    subst hP hw hK
    obtain ⟨s1, s2, ⟨u0, v0, s3⟩, s4, s5⟩ := st
    obtain ⟨xs, ys, x, y, qa, qb, hx, hy⟩ := hg
    obtain ⟨ia, va, pa, _⟩ := I.tuple qa
    obtain ⟨ib, vb, pb, _⟩ := I.list qb
    obtain ⟨u, hu, ru⟩ := va.get hx
    obtain ⟨v, hv, rv⟩ := vb.get hy
    have hh : X.A.in1.handled = none := I.ok.hd hc
    have sep := zm_sep (N := N) ha hb
    have la : i < ia.toArray.size := (List.getElem?_eq_some_iff.mp hu).1
    have lb : i < ib.toArray.size := (List.getElem?_eq_some_iff.mp hv).1
    refine wpAny_pyNext_zipD2_item sep (Draws.tuple hh N a (Nat.ne_of_lt ha) ia.toArray) (Draws.list hh (N + 1) b (Nat.ne_of_lt (Nat.lt_succ_of_lt hb)) ib.toArray) s1 s2 s3 ⟨s4, pa⟩ ⟨s5, pb.isList⟩ la lb fun x1 x2 h1 tk e1 e2 t1 t3 t4 t5 tT sz k => ?_
    have q1 : x1 = u := Option.some.inj (e1.symm.trans (by simpa using hu))
    have q2 : x2 = v := Option.some.inj (e2.symm.trans (by simpa using hv))
    subst q1 q2
    have nz : s.heap.objs.size ≠ N + 4 := Nat.ne_of_gt (Heap.lt_size s1)
    refine ⟨_, rfl, wpAny_letOwnedTupleGo_zip (s := { s with heap := h1, toks := tk }) t1 fun h2 w1 sb => ?_⟩
    have at2 : ∀ c o, c ≠ N + 4 → h1.get? c = some o → h2.get? c = some o := fun c o nc e => sb.extBut c o nc e
    have new : ObjOk X.prog X.w (upd H s.heap.objs.size (.tup [x, y])) h2 s.heap.objs.size (.tup [x, y]) :=
      ⟨(by show 2 ≤ sizeLine; decide), [x1, x2], .cons ru (.cons rv .nil), ⟨_, at2 _ _ nz tT, rfl, _, rfl⟩⟩
    have I2 : Inv X pins σ (upd H s.heap.objs.size (.tup [x, y])) { s with heap := h2, toks := tk } :=
      I.turnedNew (ch := zmFp N) (fun c o nc e => by
        have n1 : c ≠ N + 4 := fun z => nc (by simp [zmFp, z])
        have n3 : c ≠ N + 3 := fun z => nc (by simp [zmFp, z])
        have n4 : c ≠ N := fun z => nc (by simp [zmFp, z])
        have n5 : c ≠ N + 1 := fun z => nc (by simp [zmFp, z])
        exact at2 c o n1 (k c o n1 n3 n4 n5 e)) hf (Nat.le_refl _) new
    refine ⟨.ref s.heap.objs.size, _, I2, rfl, ⟨_, x, y, rfl, I.hok.fresh (Nat.le_refl _), rfl, fun l hl => I.tuple_inj hl qa ▸ hx, fun l hl => I.list_inj hl qb ▸ hy⟩, ⟨w1, at2 _ _ sep.TIz (k _ _ sep.TIz sep.TITO sep.TIi1 sep.TIi2 s2), ⟨x1, x2, at2 _ _ sep.TOz t3⟩, t4.1.at fun o e => at2 _ o (by omega) e, t5.1.at fun o e => at2 _ o (by omega) e⟩, fun c hm => ?_⟩
    have lt : c < s.heap.objs.size := by
      rcases zm_cases hm with rfl | rfl | rfl | rfl | rfl
      · exact Heap.lt_size s1
      · exact Heap.lt_size s2
      · exact Heap.lt_size s3
      · obtain ⟨_, e, _⟩ := s4
        exact Heap.lt_size e
      · obtain ⟨_, e, _⟩ := s5
        exact Heap.lt_size e
    rw [upd_ne (Nat.ne_of_lt lt)]
    exact (hf c hm).1
  done := fun X hP hw hK hc i pins s σ H E I hf st hg => by
    subst hP hw hK
    obtain ⟨s1, s2, ⟨u0, v0, s3⟩, s4, s5⟩ := st
    obtain ⟨xs, ys, qa, qb, e1, e2⟩ := hg
    obtain ⟨ia, va, pa, _⟩ := I.tuple qa
    obtain ⟨ib, vb, pb, _⟩ := I.list qb
    have l1 : ia.toArray.size = i := by rw [← e1, va.length]; simp
    have l2 : ib.toArray.size = i := by rw [← e2, vb.length]; simp
    have hh : X.A.in1.handled = none := I.ok.hd hc
    refine wpAny_pyNext_zipD2_end (zm_sep (N := N) ha hb) (Draws.tuple hh N a (Nat.ne_of_lt ha) ia.toArray) (Draws.list hh (N + 1) b (Nat.ne_of_lt (Nat.lt_succ_of_lt hb)) ib.toArray) s1 s2 s3 ⟨s4, pa⟩ ⟨s5, pb.isList⟩ (by omega) (by omega) (.inl l1.symm) fun h1 tk k => ⟨rfl, I.turnedL (ch := zmFp N) (fun c o nc e => ?_) hf⟩
    exact k c o (fun z => nc (by simp [zmFp, z])) (fun z => nc (by simp [zmFp, z])) (fun z => nc (by simp [zmFp, z])) (fun z => nc (by simp [zmFp, z])) e
  self := fun B n z R D st fin => wpAny_pyIter_zip (show IsZip _ _ _ _ _ from st.1) fin
def iZm (K : PySem.W.Frag) (ta : TA) : TI := fun σ H R => ta σ H fun vs H1 => ∃ a b xs ys, vs = [.ref a, .ref b] ∧ SqT K H1 a xs ∧ SqL K H1 b ys ∧ R (ItM K a b) H1
theorem pi_zm {X : Cx} {e e2 : Expr} {ta : TA} {p pos tpos : Pos} {elts : List Expr} {kk : Nat} (hg : Gl X "zip") (hm : X.mg "zip" = none) (ha : PA X [e, e2] ta)
    (plain : (backTo pos (starEach [e2] X.env)).any (·.1) = false := by rfl) (two : starEach [e, e2] X.env = (false, eval e X.env) :: starEach [e2] X.env := by rfl) :
    PI X (.Tuple elts kk tpos) (.Call (.Name "zip" p) [e, e2] [] pos) (iZm X.K ta) := ⟨fun pins s σ H R I h => by
  refine Call_ (ld_blt I hg hm PyProof.Rows.boot_zip (PyProof.Rows.callWith_type1 (thn (ha.run pos pins s σ H _ I h) fun us s1 hh => ?_) two plain))
  obtain ⟨vs, H1, I1, r1, a, b, xs, ys, ex, qa, qb, q⟩ := hh
  subst ex
  match us, r1 with
  | [_, _], .cons ra (.cons rb .nil) =>
    cases ra
    cases rb
    obtain ⟨ia, va, pa, _⟩ := I1.tuple qa
    obtain ⟨ib, vb, pb, _⟩ := I1.list qb
    have la : a < s1.heap.objs.size := by
      obtain ⟨_, z, _⟩ := id pa
      exact Heap.lt_size z
    refine zip_begins2 (begins_tuple a ia.toArray) (begins_list b ib.toArray) pa pb.isList fun h1 t1 t2 t3 t4 t5 sz k => wpAny_pyIter_zip t1 ?_
    refine ⟨_, zmFp s1.heap.objs.size, _, _, H1, rfl, I1.kept (t' := s1.toks) k, turn_zm la pb.lt, ⟨t1, t2, ⟨_, _, t3⟩, ⟨_, t4, rfl, rfl⟩, ⟨_, t5, rfl, rfl⟩⟩, fun c hc => ?_, q⟩
    have le : s1.heap.objs.size ≤ c := by
      rcases zm_cases hc with z | z | z | z | z <;> omega
    exact I1.fpOk le (I1.hok.fresh le)⟩
/-- the walk -/
theorem for_zm {K : PySem.W.Frag} {a b : Addr} {xs ys : List V} {g : TG} {tb : TS} {D : Ends} {σ : L2.St} {H : Hp} (hl : xs.length = ys.length) (Pv : Nat → L2.St → Hp → Prop) (h0 : Pv 0 σ H) (hq : ∀ i σ H, Pv i σ H → SqT K H a xs ∧ SqL K H b ys)
    (step : ∀ (i : Nat) (x y : V) (T : Addr) (σ : L2.St) (H : Hp), xs[i]? = some x → ys[i]? = some y → Pv i σ H → H T = none → g (.ref T) σ (upd H T (.tup [x, y])) fun σ2 H2 => tb { D with nx := Pv (i + 1), ct := Pv (i + 1), bk := D.nx } σ2 H2) (last : ∀ σ H, Pv xs.length σ H → D.nx σ H) :
    ∃ W : Nat → Nat → L2.St → Hp → Prop, (∃ n0, W 0 n0 σ H) ∧ ∀ i m σ H, W i m σ H →
      ((ItM K a b).stop i H ∧ D.nx σ H) ∨ ((ItM K a b).go i H ∧ ∃ N : L2.St → Hp → Prop, (∀ σ' H', N σ' H' → ∃ m', m' < m ∧ W (i + 1) m' σ' H') ∧ ∀ v H', (ItM K a b).yld i H v H' → g v σ H' fun σ2 H2 => tb { D with nx := N, ct := N, bk := D.nx } σ2 H2) := by
  refine ⟨fun i m σ H => m + i = xs.length ∧ Pv i σ H, ⟨xs.length, rfl, h0⟩, fun i m σ H hW => ?_⟩
  obtain ⟨mi, pv⟩ := hW
  obtain ⟨qa, qb⟩ := hq i σ H pv
  cases m with
  | zero =>
    have ei : i = xs.length := by omega
    exact .inl ⟨⟨xs, ys, qa, qb, ei.symm, by omega⟩, last σ H (ei ▸ pv)⟩
  | succ m =>
    have l1 : i < xs.length := by omega
    have l2 : i < ys.length := by omega
    refine .inr ⟨⟨xs, ys, _, _, qa, qb, List.getElem?_eq_getElem l1, List.getElem?_eq_getElem l2⟩, Pv (i + 1), fun σ' H' z => ⟨m, Nat.lt_succ_self m, by omega, z⟩, fun v H' hy => ?_⟩
    obtain ⟨T, x, y, rfl, nT, rfl, f1, f2⟩ := hy
    exact step i x y T σ H (f1 xs qa) (f2 ys qb) pv nT
/-- enumerate of a tuple, for comprehensions -/
theorem walk_eT {K : PySem.W.Frag} {a : Addr} {xs : List V} : Walk (ItE (goT K a) (stopT K a) (isT K a)) xs.length (fun H => SqT K H a xs) (fun i H v H' => ∃ (T : Addr) (x : V), v = .ref T ∧ H T = none ∧ H' = upd H T (.tup [.int (i : Nat), x]) ∧ xs[i]? = some x) where
  goes := fun i H lt hq => ⟨xs, xs[i], hq, List.getElem?_eq_getElem lt⟩
  stops := fun H hq => ⟨xs, hq, Nat.le_refl _⟩
  yields := fun i H v H' lt hq hy => by
    obtain ⟨T, x, rfl, new, ix, rfl⟩ := hy
    exact ⟨T, x, rfl, new, rfl, ix xs hq⟩
end Lp
namespace Lp
open PySem PySem.Spec PyProof.Rows L2
/-! ### for x, y in zip(text, text), both of one length -/
def zsSt (N : Nat) (x y : Str) (tx ty : Tok) (i : Nat) (h : Heap) : Prop :=
  IsZip h (N + 4) (N + 2) (N + 3) .none ∧ IsTupOf2 h (N + 2) (.ref N) (.ref (N + 1)) ∧ (∃ u v, IsTupOf2 h (N + 3) u v) ∧ h.IsStrIter N (strIterType x) x tx i ∧ h.IsStrIter (N + 1) (strIterType y) y ty i
/-- the pairs of the letters of two texts -/
def ItS (x y : Str) : It where
  go := fun i _ => i < x.cps.size ∧ i < y.cps.size
  yld := fun i H v H' => ∃ (T : Addr) (c d : Nat), v = .ref T ∧ H T = none ∧ H' = upd H T (.tup [.str ⟨#[c]⟩, .str ⟨#[d]⟩]) ∧ x.cps[i]? = some c ∧ y.cps[i]? = some d
  stop := fun i _ => x.cps.size = i ∧ y.cps.size = i
theorem strIter_at {h h' : Heap} {a : Addr} {ty : String} {x : Str} {t : Tok} {i : Nat} (st : h.IsStrIter a ty x t i) (k : ∀ o, h.get? a = some o → h'.get? a = some o) : h'.IsStrIter a ty x t i := by
  obtain ⟨o, e, c, d⟩ := st
  exact ⟨o, k o e, c, d⟩
theorem zs_sep {N : Nat} : ZipSep2 (N + 4) (N + 2) (N + 3) N (N + 1) [N] [N + 1] :=
  zip_sep2 (fp1 := []) (fp2 := []) (fun _ hx => nomatch hx) (fun _ hx => nomatch hx)
theorem turn_zs {P : Program} {w : World} {K : PySem.W.Frag} {elts : List Expr} {kk : Nat} {tpos : Pos} {x y : Str} {tx ty : Tok} {N : Nat} :
    Turn P w K (.Tuple elts kk tpos) (ItS x y) (zmFp N) (N + 4) (zsSt N x y tx ty) where
  mem := by simp [zmFp]
  obj := fun i h st c hc => by
    obtain ⟨s1, s2, ⟨u, v, s3⟩, ⟨o4, e4, _, d4⟩, ⟨o5, e5, _, d5⟩⟩ := st
    rcases zm_cases hc with rfl | rfl | rfl | rfl | rfl
    · exact ⟨_, s1, fun _ z => nomatch z⟩
    · exact ⟨_, s2, fun _ z => nomatch z⟩
    · exact ⟨_, s3, fun _ z => nomatch z⟩
    · exact ⟨o4, e4, fun _ z => by rw [d4] at z; cases z⟩
    · exact ⟨o5, e5, fun _ z => by rw [d5] at z; cases z⟩
  keep := fun i h h' st k => by
    obtain ⟨s1, s2, ⟨u, v, s3⟩, s4, s5⟩ := st
    have m : ∀ c, c = N + 4 ∨ c = N + 2 ∨ c = N + 3 ∨ c = N ∨ c = N + 1 → c ∈ zmFp N := fun c z => by simpa [zmFp] using z
    refine ⟨k _ (m _ (by simp)) _ s1, k _ (m _ (by simp)) _ s2, ⟨u, v, k _ (m _ (by simp)) _ s3⟩, strIter_at s4 fun o z => k _ (m _ (by simp)) o z, strIter_at s5 fun o z => k _ (m _ (by simp)) o z⟩
  item := fun X hP hw hK hc i pins s σ H E I hf st hg => by
    subst hP hw hK
    obtain ⟨s1, s2, ⟨u0, v0, s3⟩, s4, s5⟩ := st
    obtain ⟨la, lb⟩ := hg
    have hh : X.A.in1.handled = none := I.ok.hd hc
    have sep := zs_sep (N := N)
    refine wpAny_pyNext_zipD2_item sep (Draws.text hh N x tx) (Draws.text hh (N + 1) y ty) s1 s2 s3 s4 s5 la lb fun x1 x2 h1 tk e1 e2 t1 t3 t4 t5 tT sz k => ?_
    obtain ⟨c, uc, hcx, rfl⟩ := e1
    obtain ⟨d, ud, hdy, rfl⟩ := e2
    have nz : s.heap.objs.size ≠ N + 4 := Nat.ne_of_gt (Heap.lt_size s1)
    refine ⟨_, rfl, wpAny_letOwnedTupleGo_zip (s := { s with heap := h1, toks := tk }) t1 fun h2 w1 sb => ?_⟩
    have at2 : ∀ c o, c ≠ N + 4 → h1.get? c = some o → h2.get? c = some o := fun c o nc e => sb.extBut c o nc e
    have new : ObjOk X.prog X.w (upd H s.heap.objs.size (.tup [.str ⟨#[c]⟩, .str ⟨#[d]⟩])) h2 s.heap.objs.size (.tup [.str ⟨#[c]⟩, .str ⟨#[d]⟩]) :=
      ⟨(by show 2 ≤ sizeLine; decide), [_, _], .cons ⟨_, rfl⟩ (.cons ⟨_, rfl⟩ .nil), ⟨_, at2 _ _ nz tT, rfl, _, rfl⟩⟩
    have I2 : Inv X pins σ (upd H s.heap.objs.size (.tup [.str ⟨#[c]⟩, .str ⟨#[d]⟩])) { s with heap := h2, toks := tk } :=
      I.turnedNew (ch := zmFp N) (fun c o nc e => by
        have n1 : c ≠ N + 4 := fun z => nc (by simp [zmFp, z])
        have n3 : c ≠ N + 3 := fun z => nc (by simp [zmFp, z])
        have n4 : c ≠ N := fun z => nc (by simp [zmFp, z])
        have n5 : c ≠ N + 1 := fun z => nc (by simp [zmFp, z])
        exact at2 c o n1 (k c o n1 n3 n4 n5 e)) hf (Nat.le_refl _) new
    refine ⟨.ref s.heap.objs.size, _, I2, rfl, ⟨_, c, d, rfl, I.hok.fresh (Nat.le_refl _), rfl, hcx, hdy⟩, ⟨w1, at2 _ _ sep.TIz (k _ _ sep.TIz sep.TITO sep.TIi1 sep.TIi2 s2), ⟨_, _, at2 _ _ sep.TOz t3⟩, strIter_at t4 fun o e => at2 _ o (by omega) e, strIter_at t5 fun o e => at2 _ o (by omega) e⟩, fun c hm => ?_⟩
    have lt : c < s.heap.objs.size := by
      rcases zm_cases hm with rfl | rfl | rfl | rfl | rfl
      · exact Heap.lt_size s1
      · exact Heap.lt_size s2
      · exact Heap.lt_size s3
      · obtain ⟨_, e, _⟩ := s4
        exact Heap.lt_size e
      · obtain ⟨_, e, _⟩ := s5
        exact Heap.lt_size e
    rw [upd_ne (Nat.ne_of_lt lt)]
    exact (hf c hm).1
  done := fun X hP hw hK hc i pins s σ H E I hf st hg => by
    subst hP hw hK
    obtain ⟨s1, s2, ⟨u0, v0, s3⟩, s4, s5⟩ := st
    obtain ⟨e1, e2⟩ := hg
    have hh : X.A.in1.handled = none := I.ok.hd hc
    refine wpAny_pyNext_zipD2_end (zs_sep (N := N)) (Draws.text hh N x tx) (Draws.text hh (N + 1) y ty) s1 s2 s3 s4 s5 (by omega) (by omega) (.inl e1.symm) fun h1 tk k => ⟨rfl, I.turnedL (ch := zmFp N) (fun c o nc e => ?_) hf⟩
    exact k c o (fun z => nc (by simp [zmFp, z])) (fun z => nc (by simp [zmFp, z])) (fun z => nc (by simp [zmFp, z])) (fun z => nc (by simp [zmFp, z])) e
  self := fun B n z R D st fin => wpAny_pyIter_zip (show IsZip _ _ _ _ _ from st.1) fin
def iZs (ta : TA) : TI := fun σ H R => ta σ H fun vs H1 => ∃ x y, vs = [.str x, .str y] ∧ R (ItS x y) H1
theorem pi_zs {X : Cx} {e e2 : Expr} {ta : TA} {p pos tpos : Pos} {elts : List Expr} {kk : Nat} (hg : Gl X "zip") (hm : X.mg "zip" = none) (ha : PA X [e, e2] ta)
    (plain : (backTo pos (starEach [e2] X.env)).any (·.1) = false := by rfl) (two : starEach [e, e2] X.env = (false, eval e X.env) :: starEach [e2] X.env := by rfl) :
    PI X (.Tuple elts kk tpos) (.Call (.Name "zip" p) [e, e2] [] pos) (iZs ta) := ⟨fun pins s σ H R I h => by
  refine Call_ (ld_blt I hg hm PyProof.Rows.boot_zip (PyProof.Rows.callWith_type1 (thn (ha.run pos pins s σ H _ I h) fun us s1 hh => ?_) two plain))
  obtain ⟨vs, H1, I1, r1, x, y, ex, q⟩ := hh
  subst ex
  match us, r1 with
  | [_, _], .cons ra (.cons rb .nil) =>
    obtain ⟨tx, rfl⟩ := ra
    obtain ⟨ty, rfl⟩ := rb
    refine zip_begins2 (begins_text x tx) (begins_text y ty) trivial trivial fun h1 t1 t2 t3 t4 t5 sz k => wpAny_pyIter_zip t1 ?_
    refine ⟨_, zmFp s1.heap.objs.size, _, _, H1, rfl, I1.kept (t' := s1.toks) k, turn_zs (tx := tx) (ty := ty), ⟨t1, t2, ⟨_, _, t3⟩, ⟨_, t4, rfl, rfl⟩, ⟨_, t5, rfl, rfl⟩⟩, fun c hc => ?_, q⟩
    have le : s1.heap.objs.size ≤ c := by
      rcases zm_cases hc with z | z | z | z | z <;> omega
    exact I1.fpOk le (I1.hok.fresh le)⟩
theorem walk_zs {x y : Str} {n : Nat} (h1 : x.cps.size = n) (h2 : y.cps.size = n) : Walk (ItS x y) n (fun _ => True) (fun i H v H' => ∃ (T : Addr) (c d : Nat), v = .ref T ∧ H T = none ∧ H' = upd H T (.tup [.str ⟨#[c]⟩, .str ⟨#[d]⟩]) ∧ x.cps[i]? = some c ∧ y.cps[i]? = some d) where
  goes := fun i H lt _ => ⟨by omega, by omega⟩
  stops := fun H _ => ⟨h1, h2⟩
  yields := fun i H v H' lt _ hy => hy
end Lp
namespace Lp
open PySem PySem.Spec PyProof.Rows L2
/-! ### text.replace(NAME, TUPLE[0]), both of the module -/
/-- the two texts that two names of the module stand for, as the heap has them: their tokens are known -/
def twoT (K : PySem.W.Frag) (xo xt : Str) (y z : Str) : Bool := match PySem.W.nsIn K mainGlobals xo, K.lookup (He.ga K xt) with
  | some (some (.str y' u)), some o => (match o.data with
    | .seq its _ => (match (its[0]? : Option Value) with
      | some (.str z' v) => decide (y' = y) && decide (z' = z) && decide (u ≠ 0) && decide (v ≠ 0) && decide (u ≠ v) && decide (o.cls = .type "tuple")
      | _ => false)
    | _ => false)
  | _, _ => false
structure TwoT (K : PySem.W.Frag) (mg : Str → Option Value) (xo : Str) (a : Addr) (y z : Str) : Prop where
  has : ∃ (u v : Tok) (o : Obj) (its : Array Value) (n : Nat), mg xo = some (.str y u) ∧ u ≠ 0 ∧ v ≠ 0 ∧ u ≠ v ∧ K.lookup a = some o ∧ o.cls = .type "tuple" ∧ o.data = .seq its n ∧ its[0]? = some (.str z v)
theorem twoT_ok {K : PySem.W.Frag} {h : Heap} {mg : Str → Option Value} (X : K.In h) (G : h.Ns mainGlobals mg) {xo xt y z : Str} (c : twoT K xo xt y z = true) : TwoT K mg xo (He.ga K xt) y z := by
  unfold twoT at c
  split at c
  · rename_i y' u o e1 e2
    split at c
    · rename_i its n e3
      split at c
      · rename_i z' v e4
        simp only [Bool.and_eq_true, decide_eq_true_eq] at c
        obtain ⟨⟨⟨⟨⟨c1, c2⟩, c3⟩, c4⟩, c5⟩, c6⟩ := c
        subst c1 c2
        exact ⟨u, v, o, its, n, PySem.W.mg_of X G e1, c3, c4, c5, e2, c6, e3, e4⟩
      · cases c
    · cases c
  · cases c
def tReplG (to : TE) (y z : Str) : TE := fun σ H Q => to σ H fun x H1 => ∃ t, x = .str t ∧ t.length + (t.length + 1) * z.length ≤ 16777216 ∧ Q (.str (Txt.replace t y z)) H1
theorem pe_replG {X : Cx} {o : Expr} {to : TE} {xo xt y z : Str} {a : Addr} {po pt p0 ps apos pos : Pos} {j : Nat} (ho : PE X o to) (g1 : Gl X xo) (g2 : Gl X xt) (m2 : X.mg xt = some (.ref a)) (T : TwoT X.K X.mg xo a y z) (hyz : (y == z) = false := by decide +kernel)
    (hd1 : (xo == ("__debug__" : Str)) = false := by decide) (hd2 : (xt == ("__debug__" : Str)) = false := by decide)
    (hst : starEach [.Name xo po, .Subscript (.Name xt pt) (.Constant (.int 0) j p0) ps] X.env = [(false, eval (.Name xo po) X.env), (false, eval (.Subscript (.Name xt pt) (.Constant (.int 0) j p0) ps) X.env)] := by rfl)
    (own : attributeBase o "replace" X.env (eval o X.env) = eval o X.env := by rfl) (line1 : (apos.endLine == pos.line) = true := by rfl) :
    PE X (.Call (.Attribute o "replace" apos) [.Name xo po, .Subscript (.Name xt pt) (.Constant (.int 0) j p0) ps] [] pos) (tReplG to y z) := ⟨fun pins s σ H Q I h => by
  obtain ⟨u, v, ob, its, n, m1, u0, v0, uv, look, cls, dat, it0⟩ := T.has
  refine PySem.Call_method2 own hst line1 (thn (ho.run pins s σ H _ I h) fun w s1 q => ?_)
  obtain ⟨x, H1, J, rx, t, rfl, big, q⟩ := q
  obtain ⟨tt, rfl⟩ := rx
  have fresh : ∀ b : Addr, Value.str t tt = .ref b → ∃ ob2, s1.heap.get? b = some ob2 ∧ ob2.dict = none := fun b z => nomatch z
  refine ⟨"str", _, F.plainAttrs_str, F.slot_str_replace, F.type_str_replace, typeIs_str _ _ _, fresh, ?_⟩
  refine Calls.callWith_builtin rfl (Calls.evalArgs_plain (Calls.spliced_cons ?_))
  refine ld_glob J g1 m1 (Calls.spliced_cons (Subscript_ (ld_glob J g2 m2 ?_ hd2))) hd1
  have at_ : s1.heap.get? a = some ob := J.kIn a ob look
  have tup : IsTup s1.heap a its := ⟨ob, at_, cls, n, dat⟩
  have sz : 0 < its.size := (Array.getElem?_eq_some_iff.mp it0).1
  refine wpAny_Constant_int ?_
  refine subscriptTail_builtinR (x := .str z v) tup.typeIs slot_tuple_getitem.lookup (getItem_tuple (j := 0) tup (by decide) (by decide) ?_ it0 ⟨rfl, ?_⟩)
  · rw [seqIndex_of (by decide) (by omega)]
    rfl
  · exact Calls.spliced_nil (SC.replace u0 v0 uv hyz big fun t' k => ⟨.str _, H1, (J.tok _).tok k, ⟨t', rfl⟩, q⟩)⟩
end Lp
namespace Lp
open PySem PySem.Spec PyProof.Rows L2
/-! ### [number .., text.replace('x', 'y') + ..]: the number gives out the token that replace wants -/
section
variable {X : Cx} {a b e1 e2 : Expr} {ta tb t1 t2 : TE} {pos : Pos} {op : Operator} {r : R2}
theorem pr_opL (ho : OpR X (binaryOp op) r) (ha : PR X a ta) (hb : PE X b tb) : PR X (.BinOp a op b pos) (tOp r ta tb) := fun pins s σ H Q I h =>
  wpAny_BinOp (wpAny_mono (ha pins s σ H _ I h) (fun v s1 z => by
    obtain ⟨k, x, H1, I1, rx, q⟩ := z
    refine wpAny_mono (stays k (hb.run pins s1 σ H1 _ I1 q)) (fun u s2 z2 => ?_) fun _ _ z2 => z2
    obtain ⟨k2, y, H2, I2, ry, q2⟩ := z2
    exact stays k2 (ho pins s2 σ H2 x y v u Q I2 rx ry q2)) fun _ _ z => z)
theorem pet_opL (ho : OpR X (binaryOp op) r) (ha : PET X a ta) (hb : PE X b tb) : PET X (.BinOp a op b pos) (tOp r ta tb) := fun pins s σ H Q k I h =>
  wpAny_BinOp (wpAny_mono (ha pins s σ H _ k I h) (fun v s1 z => by
    obtain ⟨x, H1, I1, rx, q⟩ := z
    refine wpAny_mono (hb.run pins s1 σ H1 _ I1 q) (fun u s2 z2 => ?_) fun _ _ z2 => z2
    obtain ⟨y, H2, I2, ry, q2⟩ := z2
    exact ho pins s2 σ H2 x y v u Q I2 rx ry q2) fun _ _ z => z)
theorem pe_lstT (h1 : PR X e1 t1) (h2 : PET X e2 t2) (hs : starEach [e1, e2] X.env = [(false, eval e1 X.env), (false, eval e2 X.env)] := by rfl) : PE X (.List [e1, e2] pos) (tLst (tCons t1 (tCons t2 tNil))) := ⟨fun pins s σ H Q I h => by
  refine wpAny_List_spliced ?_
  rw [hs]
  refine Calls.spliced_cons (wpAny_mono (h1 pins s σ H _ I h) (fun u s1 z => ?_) fun _ _ z => z)
  obtain ⟨k, x, H1, I1, rx, q⟩ := z
  refine Calls.spliced_cons (wpAny_mono (h2 pins s1 σ H1 _ k I1 q) (fun v s2 z2 => ?_) fun _ _ z => z)
  obtain ⟨y, H2, I2, ry, small, q2⟩ := z2
  have two : ([u, v] : List Value).length ≤ sizeLine := small
  have new := I2.hok.fresh (Nat.le_refl s2.heap.objs.size)
  have J := I2.laid (t' := s2.toks) (o := .lst [x, y]) (h' := s2.heap.push { cls := .type "list", data := .seq [u, v].toArray 0 }) (fun _ _ z => Heap.get?_push_of_some _ z) (Nat.le_refl _) ⟨small, [u, v], 0, .cons rx (.cons ry .nil), Heap.get?_push_size _ rfl⟩
  exact Calls.spliced_nil ⟨two, .ref s2.heap.objs.size, upd H2 s2.heap.objs.size (.lst [x, y]), J, rfl, q2 _ new⟩⟩
end
end Lp
namespace Lp
open PySem PySem.Spec PyProof.Rows L2
section
variable {X : Cx}
/-! ### max(list of numbers, default = ..) -/
theorem hold_ints {h : Heap} : ∀ {ns : List Int} {us : List Value}, Vals (ns.map V.int) us → PySem.W.HoldAll h us ns
  | [], _, .nil => .nil
  | n :: ns, _, .cons r rs => by
    obtain ⟨tk, rfl⟩ := r
    exact .cons ⟨_, .int _ _⟩ (hold_ints rs)
theorem hold_int {h : Heap} {v : Value} {y : Int} (hv : PySem.W.Holds h v y) : RelV (.int y) v := by
  obtain ⟨as, r⟩ := hv
  cases r
  exact ⟨_, rfl⟩
def rMaxD (K : PySem.W.Frag) : List V → List V → Hp → VK → Prop := fun vs zs H Q => ∃ (a : Addr) (ns : List Int) (v0 : V), vs = [.ref a] ∧ zs = [v0] ∧ SqL K H a (ns.map V.int) ∧ (ns = [] → Q v0 H) ∧ ∀ y ys, ns = y :: ys → Q (.int (PySem.W.maxOf y ys)) H
theorem call_maxD (hc : X.calm = true) (hu : X.A.units + 1 < cLine) : CallRK X (.builtin "max") ["default"] (rMaxD X.K) := by
  intro pins s σ H xs zs us ws Q I rel1 rel2 h
  obtain ⟨a, ns, v0, rfl, rfl, hs, q0, q1⟩ := h
  obtain ⟨u, rfl, rx⟩ := vals1 rel1
  obtain ⟨u2, rfl, ry⟩ := vals1 rel2
  obtain ⟨its, rv, hl, _⟩ := I.list hs
  have hold : PySem.W.HoldAll s.heap its.toArray.toList ns := hold_ints rv
  cases rx
  refine PySem.W.max_list_datum_default (α := Int) (I.ok.hd hc) hl.isList hold hu (fun e h' tk k => ?_) fun y ys i v h' tk e hi hv k => ?_
  · exact ⟨_, H, I.kept k, ry, q0 e⟩
  · refine ⟨_, H, I.kept k, ?_, q1 y ys e⟩
    exact hold_int hv
end
end Lp
namespace Lp
open PySem PySem.Spec PyProof.Rows L2
/-! ### defs that may raise -/
structure ClX (P : Program) (w : World) (K : PySem.W.Frag) (mg : Str → Option Value) (base : Heap) (k : Nat) (x : Str) (st : Stmt) (ps : List Str) (sp : Sp) : Prop where
  ex : ∃ f fd, FnP K x st f fd ∧ FnOk P w K mg base (L2.CX P w) k f fd ps sp ∧ mg x = some (.ref f) ∧ Binds K fd ps []
section
variable {P : Program} {w : World} {K : PySem.W.Frag} {mg : Str → Option Value} {base : Heap} {x : Str} {st : Stmt} {N ps ks : List Str} {k : Nat} {sp : Sp}
theorem Df.okX (D : Df K mg x st) (S : FnScope N ps (defScope st))
    (bd : ∀ (kV doc pm : Value) (an : Option Addr) (cdv ct : Value) (us : List Value), us.length = ps.length → bindArgs (PySem.W.fnOf x x (defArgs st) (defBody st) (defScope st) .none kV doc pm an cdv ct) ⟨us, []⟩ = pure (ps.zip us))
    (len : ∀ vs H Q E, sp vs H Q E → vs.length = ps.length)
    (body : ∀ (f : Addr) (cdv : Value) (A : Around) (outer : List Env) (s : Shared) (H : Hp) (vs : List V) (Q : VK) (E : XK), Room k (A.deeper (envOfC x (defScope st) s.heap.objs.size f cdv)) → sp vs H Q E →
      ∃ t, PSs (cxOf (L2.CX P w) P w K mg base N x (defScope st) f cdv A outer s H E) (defBody st) t ∧ t { nx := fun _ H' => Q .non H', rt := Q } (start N vs) H) : ClX P w K mg base (k + 1) x st ps sp := by
  obtain ⟨f, fd, F, hm⟩ := D.ex
  exact ⟨f, fd, F, F.ok S len fun cdv A outer s H vs Q E hr h => body f cdv A outer s H vs Q E hr h, hm, F.bindsN bd⟩
theorem ClX.imp {sp' : Sp} (c : ClX P w K mg base k x st ps sp) (h : ∀ vs H Q E, sp' vs H Q E → sp vs H Q E) : ClX P w K mg base k x st ps sp' := by
  obtain ⟨f, fd, F, G, hm, b⟩ := c.ex
  exact ⟨f, fd, F, G.imp h, hm, b⟩
end
/-- a def's own wish: what leaves it -/
abbrev WD (E : XK) : WX := fun cls d _ H => E cls d H
theorem takesD {P : Program} {w : World} {K : PySem.W.Frag} {mg : Str → Option Value} {base : Heap} {N : List Str} {qual : Str} {scope : Scope} {f : Addr} {cd : Value} {A : Around} {outer : List Env} {s : Shared} {H : Hp} {E : XK} :
    Takes (cxOf (L2.CX P w) P w K mg base N qual scope f cd A outer s H E) (WD E) := takes_of rfl rfl rfl rfl
section
variable {X : Cx} {x : Str} {st : Stmt} {ps ks : List Str} {j k : Nat} {sp : Sp} {e : Expr} {es : List Expr} {kws : List Keyword} {t tk : TA} {p pos : Pos} {W : WX} {E : XK}
/-- f(e, ..), f may raise -/
theorem pe_x (c : ClX X.prog X.w X.K X.mg X.base k x st ps sp) (hw : Takes X W) (hr : Room j X.A) (hk : k ≤ j) (hg : Gl X x) (ha : PA X (e :: es) t)
    (hdb : (x == ("__debug__" : Str)) = false := by decide) (he : starEach (e :: es) X.env = (false, eval e X.env) :: starEach es X.env := by rfl) (hpl : (backTo pos (starEach es X.env)).any (·.1) = false := by rfl) :
    PE X (.Call (.Name x p) (e :: es) [] pos) (tCallS sp (WE W) t) := by
  obtain ⟨f, fd, F, G, hm, b⟩ := c.ex
  exact pe_callS G (hr.mono hk) hg hm F.kp b (fun σ => passAt hw σ) ha hdb he hpl
/-- f(k = e, ..), f may raise -/
def tKwX (n : Nat) (sp : Sp) (g : List V → List V) (E : XK) (tk : TA) : TE := fun σ H Q => tk σ H fun zs H2 => zs.length = n ∧ sp (g zs) H2 Q E
theorem pe_xk (g : {α : Type} → List α → List α) (c : ClX X.prog X.w X.K X.mg X.base k x st ps sp) (hw : Takes X (WD E)) (hr : Room j X.A) (hk : k ≤ j) (hg : Gl X x)
    (bd : ∀ (kV doc pm : Value) (an : Option Addr) (cdv ct : Value) (ws : List Value), ws.length = ks.length → bindArgs (PySem.W.fnOf x x (defArgs st) (defBody st) (defScope st) .none kV doc pm an cdv ct) ⟨[], ks.zip ws⟩ = pure (ps.zip (g ws)))
    (rel : ∀ {zs : List V} {ws : List Value}, Vals zs ws → Vals (g zs) (g ws)) (hkw : PK X kws tk)
    (hall : (backToKw pos (keywordEach kws X.env)).all (·.1.isSome) = true := by rfl) (hks : (backToKw pos (keywordEach kws X.env)).filterMap (·.1) = ks := by rfl)
    (hdb : (x == ("__debug__" : Str)) = false := by decide) (hpl : ((backTo pos (starEach [] X.env)).any (·.1) || (backToKw pos (keywordEach kws X.env)).any (·.1.isNone)) = false := by rfl) :
    PE X (.Call (.Name x p) [] kws pos) (tKwX ks.length sp g E tk) := by
  obtain ⟨f, fd, F, G, hm, b⟩ := c.ex
  have kb : KBn X.K fd ps 0 ks (fun _ ws => g ws) (fun _ zs => g zs) := by
    obtain ⟨oc, od, dV, kV, doc, pm, an, cdv, ct, osl, rfl, lk, hcd, hD, hK⟩ := F.ex
    rcases hD with ⟨_, rfl⟩ | ⟨z, _⟩
    · refine ⟨fun s us ws X1 l1 l2 => ?_, fun _ r => rel r⟩
      have e0 : us = [] := List.length_eq_zero_iff.mp l1
      subst e0
      exact .of_eq (bd kV doc pm an cdv ct ws l2)
    · exact absurd rfl z
  refine ⟨fun pins s σ H Q I h => ?_⟩
  refine wpAny_Call_Name_kw (ld_glob I hg hm ?_ hdb)
  refine PySem.W.callWith_KW0 (h₀ := X.base) I.ok.mod.kin F.kp hall (thn (hkw.run pos pins s σ H _ I h) fun ws s2 ⟨zs, H2, I2, rz, l2, q2⟩ => ⟨I2.kIn, ?_⟩) hpl
  rw [hks]
  exact run_fnN G (hr.mono hk) kb (passes_call hw fun _ _ _ _ z => z) I2 .nil rz rfl l2 q2
end
/-! ### own exception classes over ValueError, one field -/
theorem vErrS_ok {sl : Array (Option Value)} (h : vErrS sl = true) : ∃ y0 y1 y2 y3 y5, sl = #[y0, y1, y2, y3, some (.builtin "ValueError.__new__"), y5] := by
  cases sl with
  | mk l =>
    match l, h with
    | [y0, y1, y2, y3, y, y5], h =>
      have e : y = some (.builtin "ValueError.__new__") := of_decide_eq_true h
      exact ⟨y0, y1, y2, y3, y5, by rw [e]⟩
theorem vErrC_ok {C : Addr} {c : ClassData} (h : vErrC C c = true) : c.hasDict = true ∧ c.hasDel = false ∧ ∃ up, c.mro = .ref C :: up ∧ PySem.HandSPX.refsVE up = true := by
  unfold vErrC at h
  rw [Bool.and_eq_true, Bool.and_eq_true] at h
  refine ⟨h.1, by simpa using h.2.1, ?_⟩
  have h3 := h.2.2
  cases e : c.mro with
  | nil =>
    rw [e] at h3
    cases h3
  | cons top up =>
    rw [e] at h3
    have h4 := Bool.and_eq_true_iff.mp h3
    exact ⟨up, by rw [of_decide_eq_true h4.1], h4.2⟩
theorem oexB_ok {K : PySem.W.Frag} {C : Addr} (h : oexB K C = true) : OexC K C := by
  unfold oexB at h
  simp only [Bool.and_eq_true, decide_eq_true_eq] at h
  refine ⟨?_, h.2.1, h.2.2.1, h.2.2.2.1, h.2.2.2.2⟩
  have g := h.1
  cases look : K.lookup C with
  | none =>
    rw [look] at g
    cases g
  | some o =>
    rw [look] at g
    have g1 := Bool.and_eq_true_iff.mp g
    have g2 := Bool.and_eq_true_iff.mp g1.2
    have ec : o.cls = .type "type" := of_decide_eq_true g1.1
    obtain ⟨y0, y1, y2, y3, y5, es⟩ := vErrS_ok g2.1
    have g3 := g2.2
    cases o with
    | mk cl dct dat sl =>
      cases dat with
      | cls c =>
        obtain ⟨e1, e2, up, e3, hup⟩ := vErrC_ok g3
        cases c
        cases ec
        cases es
        cases e1
        cases e2
        cases e3
        exact ⟨_, _, _, _, up, _, _, _, _, _, y0, y1, y2, y3, y5, rfl, hup⟩
      | _ => cases g3
/-- the class x has an __init__ that keeps its one argument in the field f -/
structure EC (P : Program) (w : World) (K : PySem.W.Frag) (mg : Str → Option Value) (base : Heap) (x f : Str) : Prop where
  gC : mg x = some (.ref (He.ga K x))
  ox : OexC K (He.ga K x)
  xf : XfC K (He.ga K x)
  noN : PySem.W.findIn K (.ref (He.ga K x)) f = some none
  iC : PySem.W.findIn K (.ref (He.ga K x)) "__init__" = some (some (.ref (He.ma K (He.ga K x) "__init__")))
  tC : PySem.W.typeIn K (.ref (He.ma K (He.ga K x) "__init__")) = some (.type "function")
  fn : ∃ fd, FnOk P w K mg base CX0 1 (He.ma K (He.ga K x) "__init__") fd (["self", f] : List Str) (fun vs H Q _ => ∃ (a : Addr) (v : V), vs = [.ref a, v] ∧ H a = some (exo a (He.ga K x) none) ∧ ∀ dx, H dx = none → dx ≠ a → Q .non (upd (upd H dx (exd dx [(f, v)])) a (exo a (He.ga K x) (some dx)))) ∧ Binds K fd (["self", f] : List Str) []
section
variable {P : Program} {w : World} {K : PySem.W.Frag} {mg : Str → Option Value} {base : Heap} {h : Heap} {x f q : Str} {st : Stmt}
theorem EC.of {fd : FuncData} (gC : mg x = some (.ref (He.ga K x))) (e : ecB K x f = true) (F : FunD K "__init__" q (defArgs (initOf st)) (defBody (initOf st)) (defScope (initOf st)) [] [] (He.ma K (He.ga K x) "__init__") fd)
    (S : FnScope (["self", f] : List Str) (["self", f] : List Str) (defScope (initOf st)))
    (bd : ∀ (kV doc pm : Value) (an : Option Addr) (cdv ct : Value) (us : List Value), us.length = 2 → bindArgs (PySem.W.fnOf "__init__" q (defArgs (initOf st)) (defBody (initOf st)) (defScope (initOf st)) .none kV doc pm an cdv ct) ⟨us, []⟩ = pure ((["self", f] : List Str).zip us))
    (hb : ∀ X : Cx, X.N = (["self", f] : List Str) → X.env.scope = defScope (initOf st) → X.fn "self" = true → PSs X (defBody (initOf st)) (tSeq (tOst X.K f (tVar 0) (tVar 1)) tNext)) : EC P w K mg base x f := by
  obtain ⟨h1, e⟩ := Bool.and_eq_true_iff.mp e
  obtain ⟨h2, e⟩ := Bool.and_eq_true_iff.mp e
  obtain ⟨h3, e⟩ := Bool.and_eq_true_iff.mp e
  obtain ⟨h4, h5⟩ := Bool.and_eq_true_iff.mp e
  have ox := oexB_ok h1
  have noN := of_decide_eq_true h3
  refine ⟨gC, ox, xfB_ok h2, noN, of_decide_eq_true h4, of_decide_eq_true h5, fd, F.ok S (fun vs H Q E z => ?_) fun cdv A outer s H vs Q E hr z => ?_, F.bindsN bd⟩
  · obtain ⟨a, v, rfl, _⟩ := z
    rfl
  · obtain ⟨a, v, rfl, ha, q⟩ := z
    refine ⟨_, hb _ rfl rfl rfl, ?_⟩
    exact ⟨_, rfl, _, rfl, a, _, rfl, ox, noN, .inl ⟨ha, fun dx n ne => q dx n ne⟩⟩
end
/-- a reading that may be weakened -/
def tMono (ta : TA) : TA := fun σ H R => ∃ R0, ta σ H R0 ∧ ∀ vs H1, R0 vs H1 → R vs H1
theorem paMono {X : Cx} {es : List Expr} {ta : TA} (ha : PA X es ta) : PA X es (tMono ta) := ⟨fun pos pins s σ H R I h => by
  obtain ⟨R0, h0, im⟩ := h
  exact wpAny_mono (ha.run pos pins s σ H R0 I h0) (fun us s1 ⟨vs, H1, I1, r, q⟩ => ⟨vs, H1, I1, r, im _ _ q⟩) fun _ _ z => z⟩
/-- C(e) -/
def tMkE (C : Addr) (f : Str) (ta : TA) : L2.St → Hp → XK → Prop := fun σ H Q => ta σ H fun vs H1 => ∃ v, vs = [v] ∧ ∀ d, H1 d = none → Q (.ref C) (some d) (upd H1 d (.xd [(f, v)]))
theorem pmk_e {X : Cx} {x f : Str} {e : Expr} {ta : TA} {j : Nat} {p pos : Pos} (T : EC X.prog X.w X.K X.mg X.base x f) (hr : Room j X.A) (hj : 2 ≤ j) (hg : Gl X x) (ha : PA X [e] ta)
    (hdb : (x == ("__debug__" : Str)) = false := by decide) (he : starEach [e] X.env = (false, eval e X.env) :: starEach [] X.env := by rfl) (hpl : (backTo pos (starEach [] X.env)).any (·.1) = false := by rfl) :
    PMk X (.Call (.Name x p) [e] [] pos) (tMkE (He.ga X.K x) f ta) := by
  obtain ⟨fd, F1, hb⟩ := T.fn
  have M := pmk_oex (p := p) (pos := pos) T.ox T.iC T.tC F1 (hr.mono hj) hb (dvs := []) .nil pass0 hg T.gC (paMono ha) hdb he hpl
  intro pins s σ H Q I h
  refine M pins s σ H Q I ⟨_, h, fun vs H1 z => ?_⟩
  obtain ⟨v, rfl, q⟩ := z
  refine ⟨by show 1 ≤ 1000; decide, fun a na => ⟨a, v, rfl, upd_same, fun dx ndx ne => ⟨rfl, dx, _, upd_same, (upd_ne ne).trans upd_same, ?_, ?_⟩⟩⟩
  · rw [upd_ne ne] at ndx
    exact ndx
  · rw [upd_ne ne] at ndx
    have e1 : upd (del (upd (upd (upd H1 a (exo a (He.ga X.K x) none)) dx (exd dx [(f, v)])) a (exo a (He.ga X.K x) (some dx))) a) dx (.xd [(f, v)]) = upd H1 dx (.xd [(f, v)]) := by
      funext b
      by_cases hb : b = dx
      · rw [hb, upd_same, upd_same]
      · rw [upd_ne hb, upd_ne hb]
        by_cases ha : b = a
        · rw [ha, del_same, na]
        · rw [del_ne ha, upd_ne ha, upd_ne hb, upd_ne ha]
    rw [e1]
    exact q dx ndx
end Lp
namespace Lp
open PySem PySem.Spec PyProof.Rows L2
/-! ### a try whose clause names three classes -/
/-- more objects stand beside an exception in flight -/
theorem flyK {B h h' : Heap} {l : List Env} {a : Addr} {Z : Obj → Prop} (fl : HandSPX.FlyingZ B l a Z h) (k : ∀ b o, h.get? b = some o → h'.get? b = some o) : HandSPX.FlyingZ B l a Z h' := by
  obtain ⟨c1, c2, c3, oe, vs, T, oT, ts, d1, d2, d3, d4, d5, d6, d7, d8, d9⟩ := fl
  exact ⟨fun b o z => k b o (c1 b o z), c2, c3.of_keeps fun b o z _ => ⟨o, k b o z, rfl⟩, oe, vs, T, oT, ts, k _ _ d1, d2, d3, d4, d5, d6, k _ _ d7, d8, d9⟩
/-- the clause's test of an exception of the class cls: it is one of these -/
structure TstOk (X : Cx) (t : Expr) (mt : Value → Option Bool) : Prop where
  run : ∀ (a : Addr) (pn : List (Addr × Obj)) (pins : List (Addr × Obj)) (σ : L2.St) (H : Hp) (s : Shared) (cls : Value) (Q : Bool → Shared → Prop) (E : Value → Shared → Prop), mt cls = some true → Inv (X.suite a pn) pins σ H s →
    PySem.W.Looks (model X.prog X.w) s.heap (typeOf (.ref a)) cls → (∀ h', (∀ b o, s.heap.get? b = some o → h'.get? b = some o) → Q true { s with heap := h' }) →
    wpAny (model X.prog X.w) (X.A.mark (some (.ref a))) (eval t X.env) (fun c s1 => wpAny (model X.prog X.w) (X.A.mark (some (.ref a))) (excMatches (.ref a) c) Q E s1) E s
theorem tst3 {X : Cx} {x1 x2 x3 : Str} {c1 c2 c3 : Value} {q1 q2 q3 q : Pos} {n : Nat} (g1 : Gl X x1) (g2 : Gl X x2) (g3 : Gl X x3) (m1 : X.mg x1 = some c1) (m2 : X.mg x2 = some c2) (m3 : X.mg x3 = some c3)
    (u1 : (x1 == ("__debug__" : Str)) = false := by decide) (u2 : (x2 == ("__debug__" : Str)) = false := by decide) (u3 : (x3 == ("__debug__" : Str)) = false := by decide) :
    TstOk X (.Tuple [.Name x1 q1, .Name x2 q2, .Name x3 q3] n q) (fun cls => PySem.W.exmAny X.K cls [c1, c2, c3]) := ⟨fun a pn pins σ H s cls Q E hm I lt fin => by
  refine wpAny_Tuple (wpAny_items_cons (ld_glob (X := X.suite a pn) I g1 m1 ?_ u1))
  refine wpAny_items_cons (ld_glob (X := X.suite a pn) I g2 m2 (wpAny_items_cons (ld_glob (X := X.suite a pn) I g3 m3 ?_ u3)) u2)
  refine wpAny_items_nil ⟨(by show 3 ≤ sizeLine; decide), ?_⟩
  have more : ∀ b o, s.heap.get? b = some o → (s.heap.push { cls := .type "tuple", data := .seq [c1, c2, c3].toArray }).get? b = some o := fun _ _ z => Heap.get?_push_of_some _ z
  exact (PySem.W.exm_tup3 (I.kIn.keeps more) (lt.keeps more) (Heap.get?_push_size s.heap rfl) hm).here (fin _ more)⟩
/-- what such a clause wishes of an exception of the body; its name stands in slot i -/
def wTs (mt : Value → Option Bool) (i : Nat) (ts : Addr → Value → Option Addr → TS) (D : Ends) : WX := fun cls d σ H =>
  mt cls = some true ∧ ∀ a, H a = none → ts a cls d { nx := fun σ2 H2 => D.nx (σ2.set i none) H2, rt := D.rt, bk := fun σ2 H2 => D.bk (σ2.set i none) H2, ct := fun σ2 H2 => D.ct (σ2.set i none) H2 } (σ.set i (some (.ref a))) H
theorem ps_tryT {X : Cx} {n : Str} {t : Expr} {mt : Value → Option Bool} {i : Nat} {body suite : List Stmt} {b0 : Stmt} {pos pos2 : Pos} {tb : WX → TS} {ts : Addr → Value → Option Addr → TS} (hs : X.stack = X.env :: X.outer) (hf : X.env.frame = some X.env.locals) (hN : X.N.Nodup) (hi : X.N[i]? = some n)
    (hln : X.env.kindOf n = some .local) (ht : TstOk X t mt) (hb : ∀ (W : WX) (pn : List (Addr × Obj)) (xe : Value → Shared → Prop), Takes (X.tr pn xe) W → PassesOwn (model X.prog X.w) X.A X.env xe → PSs (X.tr pn xe) body (tb W))
    (hsu : ∀ (a : Addr) (oe : Obj) (cls : Value) (d : Option Addr) (pn : List (Addr × Obj)), Zc cls d oe → (∃ vs, oe.data = .fields vs) → PSs (X.suite a ((a, oe) :: pn)) (b0 :: suite) (ts a cls d)) :
    PS X (.Try body [.ExceptHandler (some t) (some n) (b0 :: suite) pos2] [] [] pos) (fun D σ H => tb (wTs mt i ts D) D σ H) := ⟨fun pins s σ H D I h => by
  have gone : ∀ {a : Addr} {oe : Obj} {s6 : Shared} {σ6 : L2.St} {H6 : Hp} {Q : Shared → Prop}, Inv (X.suite a ((a, oe) :: (X.pn ++ pins))) [] σ6 H6 s6 → (∀ s7, Inv X pins (σ6.set i none) H6 s7 → Q s7) →
      wpAny (model X.prog X.w) X.A (do bindName X.env n .none; unbindBehindTheSuite X.env n pos2) (fun _ s7 => Q s7) X.xe s6 := fun J go => gone_ok (J.unsuite I.ok) hN hi hln go
  -- an exception of the body
  have meet : ∀ u s1, XE (X.tr (X.pn ++ pins) fun e s₁ => wpAny (model X.prog X.w) X.A (noteFrame e X.env) (fun _ s₂ => wpAny (model X.prog X.w) X.A (setFlight e none) (fun _ s₃ => wpAny (model X.prog X.w) X.A (handleBy e X.env [.ExceptHandler (some t) (some n) (b0 :: suite) pos2]) (SP X pins D) X.xe s₃) X.xe s₂) X.xe s₁) (wTs mt i ts D) u s1 →
      wpAny (model X.prog X.w) X.A (noteFrame u X.env) (fun _ s₂ => wpAny (model X.prog X.w) X.A (setFlight u none) (fun _ s₃ => wpAny (model X.prog X.w) X.A (handleBy u X.env [.ExceptHandler (some t) (some n) (b0 :: suite) pos2]) (SP X pins D) X.xe s₃) X.xe s₂) X.xe s1 := fun u s1 xx => by
    obtain ⟨a, B, sI, pins2, σ2, H2, cls, d, eu, J0, ground, up, sky, na, os, bare, hmt, yes⟩ := xx
    subst eu
    have J : Inv X pins σ2 H2 sI := J0.ofTry I.ok
    have frames : X.A.frames = some (X.env :: X.outer) := by rw [I.ok.frames, hs]
    have sky2 : Sky B (X.env :: X.outer) a (Zc cls d) X.env.locals s1.heap := hs ▸ sky
    refine Sky.land Zc.steady frames hf sky2 fun h3 f3 up3 => ?_
    obtain ⟨o3, v3, e3, z3, d3⟩ := f3.there
    have away : a ∉ frs (X.env :: X.outer) := fun hm => by
      obtain ⟨_, o4, e4, no⟩ := f3.2.2.1.mem hm
      rw [e3] at e4
      cases e4
      exact no _ d3
    have n1 : a ≠ X.env.locals := fun z => away (List.mem_filterMap.mpr ⟨X.env, List.mem_cons_self, by rw [hf, z]⟩)
    have n2 : a ∉ X.fs := fun hm => by
      obtain ⟨e, he, z⟩ := List.mem_filterMap.mp hm
      exact away (List.mem_filterMap.mpr ⟨e, List.mem_cons_of_mem _ he, z⟩)
    have land : ∀ {g : Heap}, HandSPX.FlyingZ B (X.env :: X.outer) a (Zc cls d) g → sI.heap.UpToSlots g → Inv X pins σ2 H2 { s1 with heap := g } := fun fg ug => J.landed ground fg.1 ug os bare
    have S3 := (land f3 (up.trans up3)).suite e3 d3 na n1 n2
    have isa : PySem.W.Looks (model X.prog X.w) h3 (typeOf (.ref a)) cls := fun A Q E s k q => wpAny_typeOf_ref (k _ _ e3) (by rw [z3.1]; exact q)
    refine wpAny_handleBy_cons (codeAny_handlers_test (ht.run a _ _ _ _ _ cls _ _ hmt S3 isa fun h4 k4 => ?_)) (by intro z; cases z)
    refine codeAny_handlers_suite_as (HandSPX.lands_againZ (flyK f3 k4) fun h5 f5 up5 => ?_)
    have up4 : sI.heap.UpToSlots h4 := (up.trans up3).trans (Heap.UpToSlots.of_keeps k4)
    obtain ⟨o5, v5, e5, z5, d5⟩ := f5.there
    have S5 := (land f5 (up4.trans up5)).suite e5 d5 na n1 n2
    refine store_ok (X := X.suite a ((a, o5) :: (X.pn ++ pins))) (v := .ref a) S5 hN hi (.inl hln) rfl (fun s6 S6 => ?_) (.inr hln)
    refine wpAny_mono ((hsu a o5 cls d (X.pn ++ pins) z5 ⟨_, d5⟩).run [] s6 _ H2 _ S6 (yes a na)) (fun f s7 e7 => ?_) fun _ _ z => z.elim
    cases f with
    | ret v =>
      obtain ⟨y, σ7, H7, S7, r7, q7⟩ := e7
      exact gone S7 fun s8 J8 => ⟨_, _, _, J8, r7, q7⟩
    | next =>
      obtain ⟨σ7, H7, S7, q7⟩ := e7
      exact gone S7 fun s8 J8 => ⟨_, _, J8, q7⟩
    | cont =>
      obtain ⟨σ7, H7, S7, q7⟩ := e7
      exact gone S7 fun s8 J8 => ⟨_, _, J8, q7⟩
    | brk =>
      obtain ⟨σ7, H7, S7, q7⟩ := e7
      exact gone S7 fun s8 J8 => ⟨_, _, J8, q7⟩
  refine wpAny_Try_except (wpAny_mono ((hb (wTs mt i ts D) (X.pn ++ pins) _ meet PassesOwn.looking).run [] s σ H D (I.toTry _) h) (fun f s1 e1 => ?_) fun _ _ z => z)
  cases f with
  | ret v =>
    obtain ⟨y, σ2, H2, J, r2, q2⟩ := e1
    exact ⟨y, σ2, H2, J.ofTry I.ok, r2, q2⟩
  | next =>
    obtain ⟨σ2, H2, J, q2⟩ := e1
    exact wpAny_execs_nil ⟨σ2, H2, J.ofTry I.ok, q2⟩
  | cont =>
    obtain ⟨σ2, H2, J, q2⟩ := e1
    exact ⟨σ2, H2, J.ofTry I.ok, q2⟩
  | brk =>
    obtain ⟨σ2, H2, J, q2⟩ := e1
    exact ⟨σ2, H2, J.ofTry I.ok, q2⟩⟩
end Lp
namespace Lp
open PySem PySem.Spec PyProof.Rows L2
/-! ### list.count of flat things -/
def rCntF (K : PySem.W.Frag) : V → List V → Hp → VK → Prop := fun x xs H Q => ∃ (a : Addr) (ys : List V) (y : V), x = .ref a ∧ xs = [y] ∧ SqL K H a ys ∧ flatV y = true ∧ ys.all flatV = true ∧ Q (.int ((ys.countP fun z => eqV z y : Nat) : Int)) H
theorem countU {ys : List V} {y : V} {uy : Value} : ∀ {its : List Value}, Vals ys its → ys.all flatV = true → its.countP (eqU y) = ys.countP fun z => eqV z y := by
  intro its r
  induction r with
  | nil => intro _; rfl
  | cons rv _ ih =>
    intro f
    obtain ⟨f1, f2⟩ := Bool.and_eq_true_iff.mp f
    rw [List.countP_cons, List.countP_cons, ih f2, eqU_of rv f1]
theorem mt_fcount {X : Cx} : MtR X "list.count" (rCntF X.K) := by
  intro pins s σ H x xs v us Q I rx rs h
  obtain ⟨a, ys, y, rfl, rfl, hs, fy, fys, q⟩ := h
  cases rx
  obtain ⟨uy, rfl, ry⟩ := rs.one
  obtain ⟨its, rv, ⟨⟨c1, c2, c3, c4⟩, n, ho, e1, e2, e3⟩, _⟩ := I.list hs
  simp only at e1 e3
  subst e1 e3
  refine call_meets PySem.F.slot_list_count ⟨_, ho, rfl⟩ PySem.F.entry_list_count (PySem.F.args_list_count_2 _ _) (SeqAt.list_countAt a its.toArray n c2 c4 uy (eqU y)) ⟨ho, fun z hz => mem_eqAt ry fy rv fys z (by simpa using hz), ?_⟩
  have ec : its.toArray.toList.countP (eqU y) = ys.countP fun z => eqV z y := countU (uy := uy) rv fys
  rw [ec]
  exact ⟨.int ((ys.countP fun z => eqV z y : Nat) : Int), H, I.tok _, ⟨s.toks, rfl⟩, q⟩
/-! ### defs that are called with the exception in hand -/
abbrev SpZ := Addr × Obj → Sp
structure FnZ (P : Program) (w : World) (K : PySem.W.Frag) (mg : Str → Option Value) (base : Heap) (k : Nat) (f : Addr) (fd : FuncData) (ps : List Str) (sp : SpZ) : Prop where
  len : ∀ p vs H Q E, sp p vs H Q E → vs.length = ps.length
  run : ∀ (A : Around) (outer : List Env) (s : Shared) (H : Hp) (args : Args) (us : List Value) (vs : List V) (Q : VK) (E : XK) (p : Addr × Obj), L2H.RoomH k A → L2H.PinOk outer H s p → Env0 P w K mg base A outer s H → BindsTo s fd args (ps.zip us) → Vals vs us → sp p vs H Q E →
    codeAny (model P w) A (.call (.ref f) args) (CR CX0 outer P w H s Q E) s
structure ClZ (P : Program) (w : World) (K : PySem.W.Frag) (mg : Str → Option Value) (base : Heap) (k : Nat) (x : Str) (st : Stmt) (ps : List Str) (sp : SpZ) : Prop where
  ex : ∃ f fd, FnP K x st f fd ∧ FnZ P w K mg base k f fd ps sp ∧ mg x = some (.ref f) ∧ Binds K fd ps []
section
variable {P : Program} {w : World} {K : PySem.W.Frag} {mg : Str → Option Value} {base : Heap} {x : Str} {st : Stmt} {N ps : List Str} {k : Nat} {sp : SpZ}
theorem Df.okZ (D : Df K mg x st) (S : FnScope N ps (defScope st))
    (bd : ∀ (kV doc pm : Value) (an : Option Addr) (cdv ct : Value) (us : List Value), us.length = ps.length → bindArgs (PySem.W.fnOf x x (defArgs st) (defBody st) (defScope st) .none kV doc pm an cdv ct) ⟨us, []⟩ = pure (ps.zip us))
    (len : ∀ p vs H Q E, sp p vs H Q E → vs.length = ps.length)
    (body : ∀ (f : Addr) (cdv : Value) (A : Around) (outer : List Env) (s : Shared) (H : Hp) (vs : List V) (Q : VK) (E : XK) (p : Addr × Obj), L2H.RoomH k (A.deeper (envOfC x (defScope st) s.heap.objs.size f cdv)) → sp p vs H Q E →
      ∃ t, PSs (L2H.cxH CX0 P w K mg base N x (defScope st) f cdv A outer s H E p).nox (defBody st) t ∧ t { nx := fun _ H' => Q .non H', rt := Q } (start N vs) H) : ClZ P w K mg base (k + 1) x st ps sp := by
  obtain ⟨f, fd, F, hm⟩ := D.ex
  refine ⟨f, fd, F, ?_, hm, F.bindsN bd⟩
  obtain ⟨oc, od, dV, kV, doc, pm, an, cdv, ct, osl, rfl, lk, hcd, _, _⟩ := F.ex
  refine ⟨len, fun A outer s H args us vs Q E p hr pin e0 hb rel hsp => ?_⟩
  have ln := len _ _ _ _ _ hsp
  have kx : K.In s.heap := e0.mod.kin.keeps fun b o e => (e0.bs b o e).1
  have nl : s.heap.NoLimit := e0.mod.nolimit.keeps fun b o e => (e0.bs b o e).1
  have kinds : ∀ y ∈ ps.zip us, (defScope st).names.lookup y.1 = some .local ∨ ((defScope st).names.lookup y.1 = some .cell ∧ ((cellsFrom (s.heap.objs.size + 1) (defScope st).names []).lookup y.1).isSome = true) := fun y hy => by
    obtain ⟨nm, vl⟩ := y
    rcases S.par nm (List.of_mem_zip hy).1 with z | z
    · exact Or.inl z
    · exact Or.inr ⟨z, PySem.W.cellsFrom_some _ _ _ (Or.inl z)⟩
  refine codeAny_call_function hr.depth (kx _ _ lk) rfl S.co S.gen rfl (PySem.W.codeRec_of kx hcd) (hb _ _ _ _ ?_)
  refine wpAny_newFunctionEnv_cells S.kind kinds fun env henv s1 xc => ?_
  subst henv
  refine ⟨nl.keeps xc.toInCall.keep, codeAny_func ?_⟩
  obtain ⟨t, ht, hq⟩ := body f cdv A outer s H vs Q E p (hr.deeper _) hsp
  have ini : L2.Inv (L2H.cxH CX0 P w K mg base N x (defScope st) f cdv A outer s H E p) [] (start N vs) H s1 := L2H.inv_startH S pin e0 ln rel xc
  refine wpAny_mono (ht.nox.run [] s1 (start N vs) H _ ini hq) (fun fl s2 hs => ?_) fun e s2 hs => hs
  have back : ∀ {σ2 : L2.St} {H2 : Hp} {v : V} {u : Value}, L2.Inv (L2H.cxH CX0 P w K mg base N x (defScope st) f cdv A outer s H E p) [] σ2 H2 s2 → RelV v u → Q v H2 → CE outer P w H s Q u s2 :=
    fun {σ2 H2 v u} J rv q => ⟨v, H2, J.os, J.bare, J.base, J.hok, rv, q⟩
  cases fl with
  | ret u =>
    obtain ⟨v, σ2, H2, J, rv, q⟩ := hs
    exact back J rv q
  | next =>
    obtain ⟨σ2, H2, J, q⟩ := hs
    exact back (v := V.non) (u := Value.none) J rfl q
  | brk =>
    obtain ⟨_, _, _, q⟩ := hs
    exact q.elim
  | cont =>
    obtain ⟨_, _, _, q⟩ := hs
    exact q.elim
end
section
variable {X : Cx} {x : Str} {st : Stmt} {ps : List Str} {j k : Nat} {sp : SpZ} {e : Expr} {es : List Expr} {t : TA} {q pos : Pos} {p : Addr × Obj}
/-- f(e, ..) in a suite: p is the exception that is handled -/
theorem pe_z (c : ClZ X.prog X.w X.K X.mg X.base k x st ps sp) (hr : L2H.RoomH j X.A) (hk : k ≤ j) (hp : p ∈ X.pn) (hg : Gl X x) (ha : PA X (e :: es) t)
    (hdb : (x == ("__debug__" : Str)) = false := by decide) (he : starEach (e :: es) X.env = (false, eval e X.env) :: starEach es X.env := by rfl) (hpl : (backTo pos (starEach es X.env)).any (·.1) = false := by rfl) :
    PE X (.Call (.Name x q) (e :: es) [] pos) (tCall (sp p) [] E0 t) := by
  obtain ⟨f, fd, F, G, hm, b⟩ := c.ex
  refine ⟨fun pins s σ H Q I h => wpAny_Call_Name_kw (ld_glob I hg hm ?_ hdb)⟩
  refine PySem.W.callWith_K (h₀ := X.base) I.ok.mod.kin F.kp (thn (ha.run pos pins s σ H _ I h) fun us s1 ⟨vs, H1, I1, rel, z0⟩ => ⟨I1.kIn, ?_⟩) he hpl
  have q1 : sp p vs H1 Q E0 := by
    have z : sp p (vs ++ []) H1 Q E0 := z0
    rw [List.append_nil] at z
    exact z
  have ln : (us ++ []).length = ps.length := by
    rw [List.append_nil, ← rel.length]
    exact G.len _ _ _ _ _ q1
  have bd := b s1 us I1.kIn ln
  rw [List.append_nil] at bd
  have P1 := I1.pin p (List.mem_append_left _ hp)
  have pin : L2H.PinOk X.stack H1 s1 p := ⟨P1.1, P1.2.1, fun hm => (List.mem_cons.mp (I1.stkSub p.1 hm)).elim P1.2.2.1 P1.2.2.2.1, P1.2.2.2.2⟩
  refine wpAny_call (codeAny_mono (G.run X.A X.stack s1 H1 ⟨us, []⟩ us vs Q E0 p (hr.mono hk) pin I1.env0 bd rel q1) fun res s2 hq => ?_)
  cases res with
  | error er => exact hq.elim
  | ok fl =>
    cases fl with
    | ret u => exact I1.after hq
    | next => exact hq.elim
    | brk => exact hq.elim
    | cont => exact hq.elim
end
/-! ### isinstance of the exception in hand; its field -/
/-- an instance of the class D, with its dict -/
structure ExZ (p : Addr × Obj) (D dd : Addr) : Prop where
  z : Zc (.ref D) (some dd) p.2
  f : ∃ vs, p.2.data = .fields vs
def rIsZ (K : PySem.W.Frag) (p : Addr × Obj) (D dd : Addr) : List V → Hp → VK → Prop := fun xs H Q => ∃ (c : V) (cv : Value) (b : Bool) (fs : List (Str × V)), xs = [.ref p.1, c] ∧ (∀ u, RelV c u → u = cv) ∧ PySem.W.kitOne K (.ref D) cv = some b ∧ H dd = some (.xd fs) ∧ Q (.bl b) H
theorem call_isZ {X : Cx} {p : Addr × Obj} {D dd : Addr} (C : ExcC X.K D) (hp : p ∈ X.pn) (hz : ExZ p D dd) : CallR X (.builtin "isinstance") (rIsZ X.K p D dd) := by
  intro pins s σ H xs us Q I r h
  obtain ⟨c, cv, b, fs, rfl, hcv, e, hd, q⟩ := h
  cases r with
  | cons rx rr =>
    cases rr with
    | cons rt rr =>
      cases rr
      cases rx
      cases hcv _ rt
      have get := (I.pin p (List.mem_append_left _ hp)).1
      obtain ⟨mA, hns, _⟩ : ∃ mA, s.heap.Ns1 dd mA ∧ ∀ f, RelO (fs.lookup f) (mA f) := I.hok dd _ hd
      obtain ⟨od, ho, _⟩ := lookIn_ns hns
      obtain ⟨vs, hv⟩ := hz.f
      have J : PySem.W.InstAt s.heap p.1 p.2 D (some od) := ⟨get, hz.z.1, by unfold PySem.W.notCls; rw [hv] <;> rfl, by rw [hz.z.2]; exact ho⟩
      obtain ⟨cd, hc, _⟩ := PySem.W.any_some C.hd
      exact PySem.W.kia_one (PySem.W.kitx_exc (by rw [hc]; rfl) C.hg C.hk C.hs C.ha C.hn C.ht C.hm) I.kIn J e (fun z => nomatch z) fun tk => ⟨.bl b, H, I.kept (t' := tk) fun _ _ z => z, rfl, q⟩
end Lp
namespace Lp
open PySem PySem.Spec PyProof.Rows L2
/-! ### repr of data, of an empty dict too; also where an exception is in hand -/
def RpE (K : PySem.W.Frag) (H : Hp) (v : V) (z : Str) : Prop := (∃ d, Dp K H v d ∧ d.canLay0 = true ∧ d.depth ≤ 60 ∧ d.showable = true ∧ d.shown.length ≤ sizeLine ∧ z = d.shown) ∨ ∃ a, v = .ref a ∧ H a = some (.dK []) ∧ z = (PyData.dict []).shown
mutual
theorem dp_same {K : PySem.W.Frag} {H H' : Hp} (s : Same H H') : ∀ (d : PyData) (v : V), Dp K H v d → Dp K H' v d
  | .none, _, h => by cases h; exact .non
  | .bool b, _, h => by cases h; exact .bl b
  | .int i, _, h => by cases h; exact .int i
  | .str x, _, h => by cases h; exact .str x
  | .list ds, _, h => by
    cases h with
    | lst hs ha => exact .lst (s.seq hs) (dpAll_same s ds _ ha)
  | .tuple ds, _, h => by
    cases h with
    | tup hs ha => exact .tup (SqT.same s hs) (dpAll_same s ds _ ha)
  | .dict _, _, h => by cases h
theorem dpAll_same {K : PySem.W.Frag} {H H' : Hp} (s : Same H H') : ∀ (ds : List PyData) (vs : List V), DpAll K H vs ds → DpAll K H' vs ds
  | [], _, h => by cases h; exact .nil
  | d :: ds, _, h => by
    cases h with
    | cons h1 h2 => exact .cons (dp_same s d _ h1) (dpAll_same s ds _ h2)
end
theorem RpE.same {K : PySem.W.Frag} {H H' : Hp} {v : V} {z : Str} (h : RpE K H v z) (s : Same H H') : RpE K H' v z := by
  rcases h with ⟨d, h1, h2⟩ | ⟨a, h1, h2, h3⟩
  · exact .inl ⟨d, dp_same s d v h1, h2⟩
  · exact .inr ⟨a, h1, s _ _ h2, h3⟩
theorem RpE.non {K : PySem.W.Frag} {H : Hp} : RpE K H .non PyData.none.shown := .inl ⟨_, .non, rfl, by decide, rfl, by decide +kernel, rfl⟩
theorem RpE.bl {K : PySem.W.Frag} {H : Hp} (b : Bool) : RpE K H (.bl b) (PyData.bool b).shown := .inl ⟨_, .bl b, rfl, by cases b <;> decide, by cases b <;> rfl, by cases b <;> decide +kernel, rfl⟩
theorem RpE.int {K : PySem.W.Frag} {H : Hp} {i : Int} (h : i.natAbs.log2 < 1920) : RpE K H (.int i) (PyData.int i).shown := by
  refine .inl ⟨_, .int i, ?_, ?_, ?_, ?_, rfl⟩
  · simp only [PyData.canLay0]
  · simp only [PyData.depth]
    decide
  · simp only [PyData.showable]
    exact decide_eq_true h
  · simp only [PyData.shown]
    have h1 := int_text_len_1921 h
    have h3 : (toString i : Str).length ≤ 1921 := h1
    rw [sizeLine_eq]
    omega
theorem RpE.str {K : PySem.W.Frag} {H : Hp} (x : Str) (ho : PyData.strOk x = true) (h : (PyData.str x).shown.length ≤ sizeLine) : RpE K H (.str x) (PyData.str x).shown := by
  refine .inl ⟨_, .str x, ?_, ?_, ?_, h, rfl⟩
  · simp only [PyData.canLay0]
    exact ho
  · simp only [PyData.depth]
    decide
  · simp only [PyData.showable]
theorem RpE.dict {K : PySem.W.Frag} {H : Hp} {a : Addr} (h : H a = some (.dK [])) : RpE K H (.ref a) (PyData.dict []).shown := .inr ⟨a, rfl, h, rfl⟩
def rReprE (K : PySem.W.Frag) : List V → Hp → VK → Prop := fun xs H Q => ∃ (v : V) (z : Str), xs = [v] ∧ RpE K H v z ∧ Q (.str z) H
theorem call_reprE {X : Cx} {k : Nat} (hr : L2H.RoomH k X.A) (hgd : X.A.guards = some []) : CallR X (.builtin "repr") (rReprE X.K) := by
  intro pins s σ H xs us Q I r h
  obtain ⟨v, z, rfl, hz, q⟩ := h
  obtain ⟨u, rfl, rv⟩ := vals1 r
  have hu := hr.un
  rcases hz with ⟨d, hd, hl, hdp, hs, hz, rfl⟩ | ⟨a, rfl, ha, rfl⟩
  · have fin : ∀ (h' : Heap) (t : Tok) (tk : Tok), (∀ b o, s.heap.get? b = some o → h'.get? b = some o) → EP X pins σ Q (.str d.shown t) { s with heap := h', toks := tk } := fun h' t tk hk =>
      ⟨.str d.shown, H, I.kept (t' := tk) hk, ⟨t, rfl⟩, q⟩
    have fin0 : ∀ (t tk : Tok), EP X pins σ Q (.str d.shown t) { s with toks := tk } := fun t tk => fin s.heap t tk fun _ _ e => e
    obtain ⟨as, rd⟩ := Dp.reads I d v u hd rv
    cases hd with
    | non =>
      cases rv
      exact PySem.P.repr_of_none (fin0 _ _)
    | bl b =>
      cases rv
      have z := fin0 s.toks (s.toks + 1)
      cases b <;> exact PySem.P.repr_of_bool z
    | int i =>
      obtain ⟨t, rfl⟩ := rv
      have hs2 : i.natAbs.log2 < 1920 := of_decide_eq_true hs
      exact PySem.P.repr_of_int hs2 (fin0 _ _)
    | str x =>
      obtain ⟨t, rfl⟩ := rv
      exact PySem.P.repr_of_str (fin0 _ _) hz
    | lst _ _ =>
      cases rv
      exact repr_of_reads' rd hs (PyData.noDict_hsm (PyData.hasDict_of_canLay _ hl)) hgd (by omega) (fun _ _ e => e) (fun h' t tk hk => fin h' t tk hk) hz
    | tup _ _ =>
      cases rv
      exact repr_of_reads' rd hs (PyData.noDict_hsm (PyData.hasDict_of_canLay _ hl)) hgd (by omega) (fun _ _ e => e) (fun h' t tk hk => fin h' t tk hk) hz
  · obtain ⟨_, nsm, vs, kv, o, es, ep, g1, g2, g3, g4, g5, _⟩ := dk_of I.hok ha
    cases rv
    have e0 : vs = [] := by cases kv; rfl
    subst e0
    have e1 : es.toList = [] := List.length_eq_zero_iff.mp g5.length
    have rd : Reads s.heap (.ref a) (.dict []) [a] := by
      have r0 := Reads.dict (kvs := []) (as := []) (bs := []) g1 g2.1 g3 (by rw [e1]; exact .nil) (by rw [e1]; exact .nil)
      exact r0
    refine repr_of_reads' rd rfl (fun _ hm => ?_) hgd (by show X.A.units + (_ + 1) < cLine; have : (PyData.dict []).depth ≤ 60 := by decide
                                                          omega) (fun _ _ e => e) (fun h' t tk hk => ⟨.str _, H, I.kept (t' := tk) hk, ⟨t, rfl⟩, q⟩) (by decide +kernel)
    rw [List.mem_singleton.mp hm] at nsm
    rw [beq_self_eq_true] at nsm
    cases nsm
end Lp
namespace Lp
open PySem PySem.Spec PyProof.Rows L2
theorem call_reprK {X : Cx} {K : PySem.W.Frag} {k : Nat} (e : X.K = K) (hr : L2H.RoomH k X.A) (hgd : X.A.guards = some []) : CallR X (.builtin "repr") (rReprE K) := e ▸ call_reprE hr hgd
theorem rm_mark {k : Nat} {A : Around} (r : Room k A) (h : Option Value) : L2H.RoomH k (A.mark h) := ⟨r.dp, r.un⟩
/-- a try whose suite may be read for every object that the exception may be -/
abbrev wTo (mt : Value → Option Bool) (i : Nat) (ts : Addr → Obj → Value → Option Addr → TS) (D : Ends) : WX := wTs mt i (fun a cls d D σ H => ∀ oe, Zc cls d oe → (∃ vs, oe.data = .fields vs) → ts a oe cls d D σ H) D
theorem ps_tryO {X : Cx} {n : Str} {t : Expr} {mt : Value → Option Bool} {i : Nat} {body suite : List Stmt} {b0 : Stmt} {pos pos2 : Pos} {tb : WX → TS} {ts : Addr → Obj → Value → Option Addr → TS} (hs : X.stack = X.env :: X.outer) (hf : X.env.frame = some X.env.locals) (hN : X.N.Nodup) (hi : X.N[i]? = some n)
    (hln : X.env.kindOf n = some .local) (ht : TstOk X t mt) (hb : ∀ (W : WX) (pn : List (Addr × Obj)) (xe : Value → Shared → Prop), Takes (X.tr pn xe) W → PassesOwn (model X.prog X.w) X.A X.env xe → PSs (X.tr pn xe) body (tb W))
    (hsu : ∀ (a : Addr) (oe : Obj) (cls : Value) (d : Option Addr) (pn : List (Addr × Obj)), Zc cls d oe → (∃ vs, oe.data = .fields vs) → PSs (X.suite a ((a, oe) :: pn)) (b0 :: suite) (ts a oe cls d)) :
    PS X (.Try body [.ExceptHandler (some t) (some n) (b0 :: suite) pos2] [] [] pos) (fun D σ H => tb (wTo mt i ts D) D σ H) :=
  ps_tryT (mt := mt) (tb := tb) (ts := fun a cls d D σ H => ∀ oe, Zc cls d oe → (∃ vs, oe.data = .fields vs) → ts a oe cls d D σ H) hs hf hN hi hln ht hb fun a oe cls d pn hz hv => ⟨fun pins s σ H D I h => (hsu a oe cls d pn hz hv).run pins s σ H D I (h oe hz hv)⟩
end Lp
namespace Lp
open PySem PySem.Spec PyProof.Rows L2
/-! ### a def out of a list, called by position; it may raise -/
def IsX (P : Program) (w : World) (K : PySem.W.Frag) (mg : Str → Option Value) (base : Heap) (k : Nat) (f : Addr) (sp : Sp) : Prop := ∃ (fd : FuncData) (ps : List Str), FnOk P w K mg base (L2.CX P w) k f fd ps sp ∧ PySem.W.keepIn K (.ref f) = true ∧ Binds K fd ps []
theorem ClX.isX {P : Program} {w : World} {K : PySem.W.Frag} {mg : Str → Option Value} {base : Heap} {k : Nat} {x : Str} {st : Stmt} {ps : List Str} {sp : Sp} {a : Addr} (c : ClX P w K mg base k x st ps sp) (hm : mg x = some (.ref a)) : IsX P w K mg base k a sp := by
  obtain ⟨f, fd, F, G, m, b⟩ := c.ex
  cases m.symm.trans hm
  exact ⟨fd, ps, G, F.kp, b⟩
theorem IsX.mono {P : Program} {w : World} {K : PySem.W.Frag} {mg : Str → Option Value} {base : Heap} {j k : Nat} {f : Addr} {sp : Sp} {X : Cx} (c : IsX P w K mg base k f sp) (hr : Room j X.A) (hk : k ≤ j) : Room k X.A := hr.mono hk
def tCallE (P : Program) (w : World) (K : PySem.W.Frag) (mg : Str → Option Value) (base : Heap) (j : Nat) (W : WX) (te : TE) (t : TA) : TE := fun σ H Q => te σ H fun x H1 => ∃ (k : Nat) (f : Addr) (sp : Sp), k ≤ j ∧ x = .ref f ∧ IsX P w K mg base k f sp ∧ t σ H1 fun vs H2 => sp vs H2 Q (WE W σ)
theorem pe_xe {X : Cx} {v i e : Expr} {es : List Expr} {te : TE} {t : TA} {W : WX} {j : Nat} {p pos : Pos} (hw : Takes X W) (hr : Room j X.A) (hf : PE X (.Subscript v i p) te) (ha : PA X (e :: es) t)
    (he : starEach (e :: es) X.env = (false, eval e X.env) :: starEach es X.env := by rfl) (hpl : (backTo pos (starEach es X.env)).any (·.1) = false := by rfl) :
    PE X (.Call (.Subscript v i p) (e :: es) [] pos) (tCallE X.prog X.w X.K X.mg X.base j W te t) := by
  refine ⟨fun pins s σ H Q I h => ?_⟩
  show wpAny (model X.prog X.w) X.A (do callWith pos (← eval (.Subscript v i p) X.env) [] (backTo pos (starEach (e :: es) X.env)) (backToKw pos (keywordEach [] X.env))) _ _ _
  refine wpAny_bind (thn (hf.run pins s σ H _ I h) fun u s1 hh => ?_)
  obtain ⟨x, H1, I1, rx, k, f, sp, hk, ex, ⟨fd, ps, G, kp, b⟩, q⟩ := hh
  subst ex
  cases rx
  refine PySem.W.callWith_K (h₀ := X.base) I1.ok.mod.kin kp (thn (ha.run pos pins s1 σ H1 _ I1 q) fun us s2 hh => ?_) he hpl
  obtain ⟨vs, H2, I2, r, q2⟩ := hh
  exact ⟨I2.kIn, run_fnS G (hr.mono hk) b (passAt hw σ) I2 r q2⟩
/-- a def keeps two promises at once -/
theorem Cl.orX {P : Program} {w : World} {K : PySem.W.Frag} {mg : Str → Option Value} {base : Heap} {j i : Nat} {x : Str} {st : Stmt} {ps : List Str} {sp1 sp2 : Sp} (k : Nat) (c1 : Cl P w K mg base i x st ps sp1) (c2 : ClX P w K mg base j x st ps sp2) (h1 : i ≤ k := by omega) (h2 : j ≤ k := by omega) :
    ClX P w K mg base k x st ps (fun vs H Q E => sp1 vs H Q E ∨ sp2 vs H Q E) := by
  obtain ⟨f, fd, F, G, m, b⟩ := c1.ex
  obtain ⟨f', fd', F', G', m', _⟩ := c2.ex
  cases m.symm.trans m'
  have same : fd' = fd := by
    obtain ⟨_, _, _, _, _, _, _, _, _, _, _, l1, _⟩ := F.ex
    obtain ⟨_, _, _, _, _, _, _, _, _, _, _, l2, _⟩ := F'.ex
    have e := l1.symm.trans l2
    simp only [Option.some.injEq, Obj.mk.injEq, Data.func.injEq] at e
    exact e.2.2.1.symm
  subst same
  refine ⟨f, fd', F, ⟨fun vs H Q E z => z.elim (G.len vs H Q E) (G'.len vs H Q E), fun A outer s H args us vs Q E hr e0 hb rel z => ?_⟩, m, b⟩
  rcases z with z | z
  · refine codeAny_mono (G.run A outer s H args us vs Q E (hr.mono h1) e0 hb rel z) fun r s' q => ?_
    cases r with
    | ok fl => cases fl <;> exact q
    | error e => exact False.elim q
  · exact G'.run A outer s H args us vs Q E (hr.mono h2) e0 hb rel z
end Lp
namespace Lp
open PySem PySem.Spec PyProof.Rows L2
section
variable {P : Program} {w : World} {K : PySem.W.Frag} {mg : Str → Option Value} {base : Heap}
/-! ### the cells of the script -/
abbrev s__law_cell : Stmt := top 60
abbrev N__law_cell : List Str := ["_law_script", "_law_k", "_law_state", "_law_item"]
theorem sc__law_cell : FnScope N__law_cell ["_law_script", "_law_k"] (defScope s__law_cell) := ⟨rfl, rfl, rfl, by decide +kernel, rfl, by decide +kernel, by decide +kernel⟩
def spCell (K : PySem.W.Frag) : Sp := fun vs H Q _ => ∃ (l : Addr) (ns : List Int) (k : Nat), vs = [.ref l, .int (k : Nat)] ∧ SqL K H l (ns.map V.int) ∧ k ≤ 1000 ∧ ∀ (i : Int) (H' : Hp), Same H H' → Q (.int i) H'
theorem ok_cell (D : Df K mg "_law_cell" s__law_cell) (m_len : mg "len" = none) : Cl P w K mg base 1 "_law_cell" s__law_cell ["_law_script", "_law_k"] (spCell K) := by
  refine D.ok sc__law_cell (fun _ _ _ _ _ _ us hl => match us, hl with | [_, _], _ => rfl) (fun vs H Q E h => ?_) (fun f cdv A outer s H vs Q E hr h => ?_)
  · obtain ⟨l, ns, k, rfl, _⟩ := h
    rfl
  · obtain ⟨l, ns, k, rfl, hS, hk, q⟩ := h
    refine ⟨_, 
      (pss_cons (ps_if (pt_cmpR op_lt (pv 1) (pe_callB call_lenS (by rfl) m_len (by decide +kernel) (pa_cons (pv 0) pa_nil)) (nomark _)) (pss_one (ps_ret (pe_ix ix_list (pv 0) (pv 1) (fun _ _ => rfl)))) pss_nil) 
      (pss_cons (ps_set (i := 2) sc__law_cell.nd rfl (Or.inl rfl) (pe_op op_mod (pe_op op_mul pe_int (pe_op op_add (pe_op op_add (pe_op op_mul (pv 1) (pv 1)) (pe_op op_mul pe_int (pv 1))) pe_int)) pe_int)) 
      (pss_cons (ps_for PassesOwn.never rfl (pi_list (pe_slice sl_list (pv 0) po_none (po_some pe_int))) (pg_name (i := 3) sc__law_cell.nd rfl (Or.inl rfl)) (pss_one (ps_set (i := 2) sc__law_cell.nd rfl (Or.inl rfl) (pe_op op_mod (pe_op op_add (pe_op op_mul (pv 2) pe_int) (pv 3)) pe_int)))) 
      (pss_one (ps_ret (pv 2)))))), ?_⟩
    refine ⟨_, rfl, _, rfl, l, ns.map V.int, rfl, .inl hS, _, _, rfl, rfl, _, rfl, ite2 (fun e => ?_) (fun e => ?_)⟩
    · have lt : k < ns.length := by
        have e2 := of_decide_eq_true e
        rw [List.length_map] at e2
        omega
      have g : (ns.map V.int)[k]? = some (.int ns[k]) := by
        rw [List.getElem?_map, List.getElem?_eq_getElem lt]
        rfl
      exact ⟨_, rfl, _, rfl, l, _, _, _, rfl, rfl, hS, atI_nat g, q _ _ (Same.refl H)⟩
    · refine ⟨_, rfl, _, rfl, _, _, rfl, rfl, .inl ⟨by omega, by omega⟩, _, rfl, _, _, rfl, rfl, .inl ⟨by decide, by decide⟩, _, _, rfl, rfl, _, _, rfl, rfl, _, _, rfl, rfl, .inl ⟨by decide, by decide⟩, _, _, rfl, rfl, (by show (0 : Int) < 2147483399; decide), ?_⟩
      refine ⟨_, rfl, 3, rfl, l, ns.map V.int, rfl, hS, fun c nc => ?_⟩
      have sm : Same H (upd H c (.lst (cutV (ns.map V.int) none (some 3)))) := same_upd nc
      refine ⟨c, rfl, ⟨_, .inl (.inl upd_same)⟩, ?_⟩
      refine for_list (xs := cutV (ns.map V.int) none (some 3)) (fun i σ H2 => ∃ (z : Int) (y : Option V), σ = [some (.ref l), some (.int (k : Nat)), some (.int z), y] ∧ -(2 ^ 64) < z ∧ z < 2 ^ 64 ∧ H2 = upd H c (.lst (cutV (ns.map V.int) none (some 3))))
        ⟨_, none, rfl, ?_, ?_, rfl⟩ (fun i σ H2 _ h2 => ?_) (fun i x σ H2 hx h2 => ?_) (fun σ H2 h2 => ?_)
      · exact Int.lt_of_lt_of_le (by decide) (Int.emod_nonneg _ (by decide))
      · exact Int.lt_trans (Int.emod_lt_of_pos _ (by decide)) (by decide)
      · obtain ⟨z, y, _, _, _, rfl⟩ := h2
        exact .inl (.inl upd_same)
      · obtain ⟨z, y, rfl, h3, h4, rfl⟩ := h2
        have hm : x ∈ ns.map V.int := List.mem_of_mem_drop (List.mem_of_mem_take (List.mem_of_getElem? hx))
        obtain ⟨n, _, rfl⟩ := List.mem_map.mp hm
        refine ⟨_, rfl, _, _, rfl, rfl, .inl ⟨h3, h4⟩, _, rfl, _, _, rfl, rfl, _, _, rfl, rfl, (by show (0 : Int) < 2147483399; decide), ?_⟩
        refine ⟨_, some (.int n), rfl, ?_, ?_, rfl⟩
        · exact Int.lt_of_lt_of_le (by decide) (Int.emod_nonneg _ (by decide))
        · exact Int.lt_trans (Int.emod_lt_of_pos _ (by decide)) (by decide)
      · obtain ⟨z, y, rfl, h3, h4, rfl⟩ := h2
        exact ⟨_, rfl, q _ _ sm⟩
/-! ### the pool -/
abbrev s__law_pool : Stmt := top 61
abbrev N__law_pool : List Str := ["_law_item", "_law_digits"]
theorem sc__law_pool : FnScope N__law_pool ["_law_item"] (defScope s__law_pool) := ⟨rfl, rfl, rfl, by decide +kernel, rfl, by decide +kernel, by decide +kernel⟩
def spPool : Sp := fun vs H Q _ => ∃ n : Int, vs = [.int n] ∧ ∀ p H', Same H H' → H p = none → Pool H' p → Q (.ref p) H'
theorem ok_pool (D : Df K mg "_law_pool" s__law_pool) (m_abs : mg "abs" = none) : Cl P w K mg base 1 "_law_pool" s__law_pool ["_law_item"] spPool := by
  refine D.ok sc__law_pool (fun _ _ _ _ _ _ us hl => match us, hl with | [_], _ => rfl) (fun vs H Q E h => ?_) (fun f cdv A outer s H vs Q E hr h => ?_)
  · obtain ⟨n, rfl, _⟩ := h
    rfl
  · obtain ⟨n, rfl, q⟩ := h
    have fin : ∀ d : Int, 0 ≤ d → ∀ p, H p = none → Q (.ref p) (upd H p (.lst [.int (n % 2147483399), .int d, .int 0])) := fun d hd p np =>
      q p _ (same_upd np) np ⟨_, d, 0, upd_same, Int.emod_nonneg _ (by decide), Int.emod_lt_of_pos _ (by decide), hd⟩
    refine ⟨_, 
      (pss_cons (ps_set (i := 1) sc__law_pool.nd rfl (Or.inl rfl) (pe_ifExp (PW.pt (pw_or (pt_cmpR op_lt (pv 0) pe_int (nomark _)) (pw_or1 (pt_cmpR op_ge (pv 0) (pe_op op_pow pe_int pe_int) (nomark _))))) (pe_callB call_abs (by rfl) m_abs (by decide +kernel) (pa_cons (pv 0) pa_nil)) pe_int)) 
      (pss_one (ps_ret (pe_lst (pa_cons (pe_op op_mod (pv 0) pe_int) (pa_cons (pv 1) (pa_cons pe_int pa_nil))))))), ?_⟩
    refine ⟨_, rfl, _, _, rfl, rfl, _, rfl, ?_⟩
    have three : ∀ d : Int, ([V.int (n % 2147483399), V.int d, V.int 0] : List V).length ≤ sizeLine := fun d => by
      show 3 ≤ sizeLine
      decide
    by_cases h0 : n < 0
    · rw [decide_eq_true h0]
      refine iteT (iteT ⟨_, rfl, _, rfl, _, rfl, _, _, rfl, rfl, (by show (0 : Int) < 2147483399; decide), _, rfl, three _, fun p np => fin _ ?_ p np⟩)
      rw [if_pos h0]
      omega
    · rw [decide_eq_false h0]
      refine iteF ⟨_, rfl, _, _, rfl, rfl, ⟨by decide, by decide, by decide⟩, _, _, rfl, rfl, _, rfl, ?_⟩
      refine ite2 (fun e => ?_) (fun e => ?_)
      · refine ⟨_, rfl, _, rfl, _, rfl, _, _, rfl, rfl, (by show (0 : Int) < 2147483399; decide), _, rfl, three _, fun p np => fin _ ?_ p np⟩
        rw [if_neg h0]
        omega
      · exact ⟨_, rfl, _, _, rfl, rfl, (by show (0 : Int) < 2147483399; decide), _, rfl, three _, fun p np => fin _ (Int.le_refl _) p np⟩
/-! ### a draw -/
abbrev s__law_draw : Stmt := top 62
abbrev N__law_draw : List Str := ["_law_pool_here", "_law_limit", "_law_state", "_law_digit"]
theorem sc__law_draw : FnScope N__law_draw ["_law_pool_here", "_law_limit"] (defScope s__law_draw) := ⟨rfl, rfl, rfl, by decide +kernel, rfl, by decide +kernel, by decide +kernel⟩
def spDraw : Sp := fun vs H Q _ => ∃ (a : Addr) (c : Int), vs = [.ref a, .int c] ∧ 1 ≤ c ∧ c ≤ 1000000 ∧ Pool H a ∧ ∀ (d : Int) (H' : Hp), 0 ≤ d → d < c → Kp a H H' → Pool H' a → Q (.int d) H'
theorem ok_draw (D : Df K mg "_law_draw" s__law_draw) (m_divmod : mg "divmod" = none) : Cl P w K mg base 1 "_law_draw" s__law_draw ["_law_pool_here", "_law_limit"] spDraw := by
  refine D.ok sc__law_draw (fun _ _ _ _ _ _ us hl => match us, hl with | [_, _], _ => rfl) (fun vs H Q E h => ?_) (fun f cdv A outer s H vs Q E hr h => ?_)
  · obtain ⟨a, c, rfl, _⟩ := h
    rfl
  · obtain ⟨a, c, rfl, c1, c2, ⟨st, dg, n, ha, s0, s1, d0⟩, q⟩ := h
    refine ⟨_, 
      (pss_cons (ps_asg (pe_op op_add (pe_ix ix_list (pv 0) pe_int (fun _ _ => rfl)) pe_int) (pg_sub (pv 0) pe_int set_list)) 
      (pss_cons (ps_set (i := 2) sc__law_draw.nd rfl (Or.inl rfl) (pe_ix ix_list (pv 0) pe_int (fun _ _ => rfl))) 
      (pss_cons (ps_asg (pe_op op_mod (pe_op op_add (pe_op op_mul (pv 2) (pe_op op_add (pe_op op_mod (pv 2) pe_int) pe_int)) (pe_op op_mul pe_int (pe_ix ix_list (pv 0) pe_int (fun _ _ => rfl)))) pe_int) (pg_sub (pv 0) pe_int set_list)) 
      (pss_cons (ps_if (pt_cmpR op_gt (pe_ix ix_list (pv 0) pe_int (fun _ _ => rfl)) pe_int (nomark _)) (pss_cons (ps_asg (pe_callB call_divmodW (by rfl) m_divmod (by decide +kernel) (pa_cons (pe_ix ix_list (pv 0) pe_int (fun _ _ => rfl)) (pa_cons (pv 1) pa_nil))) (pg_tup (by rfl) (pgs_cons (pg_sub (pv 0) pe_int set_list) (pgs_cons (pg_name (i := 3) sc__law_draw.nd rfl (Or.inl rfl)) pgs_nil)))) (pss_one (ps_ret (pv 3)))) pss_nil) 
      (pss_one (ps_ret (pe_op op_mod (pe_op op_fdiv (pe_ix ix_list (pv 0) pe_int (fun _ _ => rfl)) pe_int) (pv 1)))))))), ?_⟩
    have at0 : ∀ x y z : V, atI [x, y, z] (0 : Int) = some x := fun _ _ _ => rfl
    have at1 : ∀ x y z : V, atI [x, y, z] (1 : Int) = some y := fun _ _ _ => rfl
    have at2 : ∀ x y z : V, atI [x, y, z] (2 : Int) = some z := fun _ _ _ => rfl
    refine ⟨_, rfl, a, _, 2, _, rfl, rfl, .inl (.inl ha), at2 _ _ _, _, _, rfl, rfl, ?_⟩
    refine ⟨_, rfl, a, _, 2, 2, rfl, rfl, ha, rfl, ?_⟩
    refine ⟨_, rfl, a, _, 0, _, rfl, rfl, .inl (.inl upd_same), at0 _ _ _, ?_⟩
    have b1 : 0 ≤ st % 40961 := Int.emod_nonneg _ (by decide)
    have b2 : st % 40961 < 40961 := Int.emod_lt_of_pos _ (by decide)
    refine ⟨_, rfl, _, rfl, _, _, rfl, rfl, (by show (0 : Int) < 40961; decide), _, _, rfl, rfl, _, _, rfl, rfl, .inl ⟨by omega, by omega⟩, ?_⟩
    refine ⟨_, rfl, a, _, 2, _, rfl, rfl, .inl (.inl upd_same), at2 _ _ _, _, _, rfl, rfl, .inl ⟨by decide, by decide⟩, _, _, rfl, rfl, _, _, rfl, rfl, (by show (0 : Int) < 2147483399; decide), ?_⟩
    refine ⟨_, rfl, a, _, 0, 0, rfl, rfl, upd_same, rfl, ?_⟩
    rw [upd_upd]
    refine ⟨_, rfl, a, _, 1, _, rfl, rfl, .inl (.inl upd_same), at1 _ _ _, _, _, rfl, rfl, _, rfl, ?_⟩
    have kp : ∀ xs, Kp a H (upd H a (.lst xs)) := fun xs b o e ne => by
      rw [upd_ne ne]
      exact e
    refine ite2 (fun e => ?_) (fun e => ?_)
    · refine ⟨_, rfl, a, _, 1, _, rfl, rfl, .inl (.inl upd_same), at1 _ _ _, _, rfl, dg, c, rfl, ⟨by omega, ?_⟩, fun p np => ?_⟩
      · exact small_div (by omega) (by omega)
      · have pa : p ≠ a := fun z => by
          subst z
          rw [upd_same] at np
          cases np
        refine ⟨p, _, rfl, .inl (.inl upd_same), rfl, _, _, rfl, _, rfl, a, _, 1, 1, rfl, rfl, (upd_ne pa.symm).trans upd_same, rfl, _, _, rfl, rfl, ?_⟩
        refine ⟨_, rfl, q _ _ (Int.emod_nonneg _ (by omega)) (Int.emod_lt_of_pos _ (by omega)) (fun b o eb ne => ?_) ⟨_, dg / c, n + 1, upd_same, Int.emod_nonneg _ (by decide), Int.emod_lt_of_pos _ (by decide), Int.ediv_nonneg d0 (by omega)⟩⟩
        have bp : b ≠ p := fun zz => by
          subst zz
          rw [upd_ne ne, eb] at np
          cases np
        rw [upd_ne ne, upd_ne bp, upd_ne ne]
        exact eb
    · refine ⟨_, rfl, a, _, 0, _, rfl, rfl, .inl (.inl upd_same), at0 _ _ _, _, _, rfl, rfl, ⟨by decide, by decide⟩, _, rfl, _, _, rfl, rfl, (by show 0 < c; omega), ?_⟩
      exact q _ _ (Int.emod_nonneg _ (by omega)) (Int.emod_lt_of_pos _ (by omega)) (kp _) ⟨_, dg, n + 1, upd_same, Int.emod_nonneg _ (by decide), Int.emod_lt_of_pos _ (by decide), d0⟩
end
section
variable {P : Program} {w : World} {K : PySem.W.Frag} {mg : Str → Option Value} {base : Heap}
/-! ### rows -/
abbrev s_is_whole : Stmt := top 37
abbrev N_is_whole : List Str := ["value"]
theorem sc_is_whole : FnScope N_is_whole ["value"] (defScope s_is_whole) := ⟨rfl, rfl, rfl, by decide +kernel, rfl, by decide +kernel, by decide +kernel⟩
def spWhole (K : PySem.W.Frag) : Sp := fun vs H Q _ => ∃ (v : V) (T : String), vs = [v] ∧ Tv K H v T ∧ Q (.bl (decide (T = "int"))) H
theorem ok_whole (D : Df K mg "is_whole" s_is_whole) (m_isinstance : mg "isinstance" = none) (m_int : mg "int" = none) (m_bool : mg "bool" = none) : Cl P w K mg base 1 "is_whole" s_is_whole ["value"] (spWhole K) := by
  refine D.ok sc_is_whole (fun _ _ _ _ _ _ us hl => match us, hl with | [_], _ => rfl) (fun vs H Q E h => ?_) (fun f cdv A outer s H vs Q E hr h => ?_)
  · obtain ⟨v, T, rfl, _⟩ := h
    rfl
  · obtain ⟨v, T, rfl, t, q⟩ := h
    refine ⟨_, 
      (pss_one (ps_ret (pe_and (pe_callB call_isi (by rfl) m_isinstance (by decide +kernel) (pa_cons (pv 0) (pa_cons (pe_bltn (v := .ty "int") (by rfl) m_int (by decide +kernel) rfl) pa_nil))) (pe_one (pe_not (pe_callB call_isi (by rfl) m_isinstance (by decide +kernel) (pa_cons (pv 0) (pa_cons (pe_bltn (v := .ty "bool") (by rfl) m_bool (by decide +kernel) rfl) pa_nil)))))))), ?_⟩
    refine ⟨_, rfl, v, .ty "int", .type T, .type "int", _, rfl, .ty _, t.ty, kit_int t.mem, _, rfl, ?_⟩
    by_cases h1 : T = "int"
    · rw [decide_eq_true h1, Bool.true_or]
      refine iteT ⟨_, rfl, v, .ty "bool", .type T, .type "bool", _, rfl, .ty _, t.ty, kit_bool t.mem, _, rfl, ?_⟩
      rw [decide_eq_true h1] at q
      rw [decide_eq_false (show ¬ T = "bool" by rw [h1]; decide)]
      exact q
    · rw [decide_eq_false h1] at q
      rw [decide_eq_false h1, Bool.false_or]
      by_cases h2 : T = "bool"
      · rw [decide_eq_true h2]
        refine iteT ⟨_, rfl, v, .ty "bool", .type T, .type "bool", _, rfl, .ty _, t.ty, kit_bool t.mem, _, rfl, ?_⟩
        rw [decide_eq_true h2]
        exact q
      · rw [decide_eq_false h2]
        exact iteF q
abbrev s_is_whole_from : Stmt := top 38
abbrev N_is_whole_from : List Str := ["value", "least", "greatest"]
theorem sc_is_whole_from : FnScope N_is_whole_from ["value", "least", "greatest"] (defScope s_is_whole_from) := ⟨rfl, rfl, rfl, by decide +kernel, rfl, by decide +kernel, by decide +kernel⟩
def wholeB (v : V) (lo hi : Int) : Bool := match v with
  | .int i => decide (lo ≤ i) && decide (i ≤ hi)
  | _ => false
def spFrom (K : PySem.W.Frag) : Sp := fun vs H Q _ => ∃ (v : V) (T : String) (lo hi : Int), vs = [v, .int lo, .int hi] ∧ Tv K H v T ∧ Q (.bl (wholeB v lo hi)) H
theorem ok_from (D : Df K mg "is_whole_from" s_is_whole_from) (c_is_whole : Cl P w K mg base 1 "is_whole" s_is_whole ["value"] (spWhole K)) :
    Cl P w K mg base 2 "is_whole_from" s_is_whole_from ["value", "least", "greatest"] (spFrom K) := by
  refine D.ok sc_is_whole_from (fun _ _ _ _ _ _ us hl => match us, hl with | [_, _, _], _ => rfl) (fun vs H Q E h => ?_) (fun f cdv A outer s H vs Q E hr h => ?_)
  · obtain ⟨v, T, lo, hi, rfl, _⟩ := h
    rfl
  · obtain ⟨v, T, lo, hi, rfl, t, q⟩ := h
    refine ⟨_, 
      (pss_one (ps_ret (pe_and (pe_u c_is_whole hr (by omega) (by rfl) (pa_cons (pv 0) pa_nil)) (pe_one (pe_chain op_le op_le (pv 1) (pv 0) (pv 2)))))), ?_⟩
    refine ⟨_, rfl, v, T, rfl, t, _, rfl, ?_⟩
    by_cases h1 : T = "int"
    · rw [decide_eq_true h1]
      subst h1
      obtain ⟨i, rfl⟩ := t.int_of
      refine iteT ⟨_, rfl, _, rfl, _, _, rfl, rfl, _, rfl, ?_⟩
      have q2 : Q (.bl (decide (lo ≤ i) && decide (i ≤ hi))) H := q
      by_cases h2 : lo ≤ i
      · rw [decide_eq_true h2] at q2 ⊢
        exact iteT ⟨_, rfl, _, _, rfl, rfl, q2⟩
      · rw [decide_eq_false h2] at q2 ⊢
        exact iteF q2
    · rw [decide_eq_false h1]
      refine iteF ?_
      have e : wholeB v lo hi = false := by
        cases v with
        | int i => exact absurd t.of_int h1
        | _ => rfl
      rw [e] at q
      exact q
end
section
variable {P : Program} {w : World} {K : PySem.W.Frag} {mg : Str → Option Value} {base : Heap}
abbrev s_is_kind : Stmt := top 43
abbrev N_is_kind : List Str := ["value"]
theorem sc_is_kind : FnScope N_is_kind ["value"] (defScope s_is_kind) := ⟨rfl, rfl, rfl, by decide +kernel, rfl, by decide +kernel, by decide +kernel⟩
def spIsKind (K : PySem.W.Frag) : Sp := fun vs H Q _ => (∃ (v : V) (T : String), vs = [v] ∧ Tv K H v T ∧ T ≠ "str" ∧ Q (.bl false) H) ∨ ∃ z : Str, vs = [.str z] ∧ Q (.bl (kindB z)) H
theorem ok_is_kind (D : Df K mg "is_kind" s_is_kind) (m_isinstance : mg "isinstance" = none) (m_str : mg "str" = none) {a_KINDS : Addr} (g_KINDS : mg "KINDS" = some (.ref a_KINDS)) (hK : ∀ H : Hp, SqT K H a_KINDS [.str (ltr false), .str (ltr true)]) :
    Cl P w K mg base 1 "is_kind" s_is_kind ["value"] (spIsKind K) := by
  refine D.ok sc_is_kind (fun _ _ _ _ _ _ us hl => match us, hl with | [_], _ => rfl) (fun vs H Q E h => ?_) (fun f cdv A outer s H vs Q E hr h => ?_)
  · rcases h with ⟨v, T, rfl, _⟩ | ⟨z, rfl, _⟩ <;> rfl
  · refine ⟨_, 
      (pss_one (ps_ret (pe_and (pe_callB call_isi (by rfl) m_isinstance (by decide +kernel) (pa_cons (pv 0) (pa_cons (pe_bltn (v := .ty "str") (by rfl) m_str (by decide +kernel) rfl) pa_nil))) (pe_one (pe_cmpR op_in_seq (pv 0) (pe_glob (v := .ref a_KINDS) (by rfl) g_KINDS rfl) (by rfl)))))), ?_⟩
    rcases h with ⟨v, T, rfl, t, h1, q⟩ | ⟨z, rfl, q⟩
    · refine ⟨_, rfl, v, .ty "str", .type T, .type "str", _, rfl, .ty _, t.ty, kit_str t.mem, _, rfl, ?_⟩
      rw [decide_eq_false h1]
      exact iteF q
    · refine ⟨_, rfl, .str z, .ty "str", .type "str", .type "str", _, rfl, .ty _, .base (.str z), kit_str (T := "str") (by decide), _, rfl, iteT ?_⟩
      refine ⟨_, rfl, a_KINDS, _, rfl, .inr (hK H), rfl, rfl, ?_⟩
      show Q (.bl (inV (.str z) [.str (ltr false), .str (ltr true)])) H
      rw [inV_kinds]
      exact q
end
section
variable {P : Program} {w : World} {K : PySem.W.Frag} {mg : Str → Option Value} {base : Heap}
/-! ### words -/
abbrev s_may_be_word : Stmt := top 44
abbrev N_may_be_word : List Str := ["value"]
theorem sc_may_be_word : FnScope N_may_be_word ["value"] (defScope s_may_be_word) := ⟨rfl, rfl, rfl, by decide +kernel, rfl, by decide +kernel, by decide +kernel⟩
def spMayW : Sp := fun vs H Q _ => ∃ z : Str, vs = [.str z] ∧ z.length ≤ sizeLine ∧ Q (.bl (decide (z.length ≤ 400))) H
theorem ok_mayw (D : Df K mg "may_be_word" s_may_be_word) (m_isinstance : mg "isinstance" = none) (m_str : mg "str" = none) (m_len : mg "len" = none) {tg : Tok} (g_MOST_LETTERS : mg "MOST_LETTERS" = some (.int 400 tg)) :
    Cl P w K mg base 1 "may_be_word" s_may_be_word ["value"] spMayW := by
  refine D.ok sc_may_be_word (fun _ _ _ _ _ _ us hl => match us, hl with | [_], _ => rfl) (fun vs H Q E h => ?_) (fun f cdv A outer s H vs Q E hr h => ?_)
  · obtain ⟨z, rfl, _⟩ := h
    rfl
  · obtain ⟨z, rfl, sz, q⟩ := h
    refine ⟨_, 
      (pss_one (ps_ret (pe_and (pe_callB call_isi (by rfl) m_isinstance (by decide +kernel) (pa_cons (pv 0) (pa_cons (pe_bltn (v := .ty "str") (by rfl) m_str (by decide +kernel) rfl) pa_nil))) (pe_one (pe_cmpR op_le (pe_callB call_len_str (by rfl) m_len (by decide +kernel) (pa_cons (pv 0) pa_nil)) (pe_glob (v := .int 400) (by rfl) g_MOST_LETTERS ⟨_, rfl⟩) (nomark _)))))), ?_⟩
    refine ⟨_, rfl, .str z, .ty "str", .type "str", .type "str", _, rfl, .ty _, .base (.str _), kit_str (T := "str") (by decide), _, rfl, iteT ⟨_, rfl, _, rfl, sz, _, _, rfl, rfl, ?_⟩⟩
    show Q (.bl (decide ((z.length : Int) ≤ 400))) H
    rw [show decide ((z.length : Int) ≤ 400) = decide (z.length ≤ 400) from decide_eq_decide.mpr (by omega)]
    exact q
abbrev s_wrong_letter : Stmt := top 45
abbrev N_wrong_letter : List Str := ["word", "index", "letter"]
theorem sc_wrong_letter : FnScope N_wrong_letter ["word"] (defScope s_wrong_letter) := ⟨rfl, rfl, rfl, by decide +kernel, rfl, by decide +kernel, by decide +kernel⟩
def spWrongL : Sp := fun vs H Q _ => ∃ bs : List Bool, vs = [.str (wd bs)] ∧ ∀ H', Same H H' → Q .non H'
theorem ok_wrongl (D : Df K mg "wrong_letter" s_wrong_letter) (c_is_kind : Cl P w K mg base 1 "is_kind" s_is_kind ["value"] (spIsKind K)) (m_enumerate : mg "enumerate" = none) :
    Cl P w K mg base 2 "wrong_letter" s_wrong_letter ["word"] spWrongL := by
  refine D.ok sc_wrong_letter (fun _ _ _ _ _ _ us hl => match us, hl with | [_], _ => rfl) (fun vs H Q E h => ?_) (fun f cdv A outer s H vs Q E hr h => ?_)
  · obtain ⟨bs, rfl, _⟩ := h
    rfl
  · obtain ⟨bs, rfl, q⟩ := h
    refine ⟨_, 
      (pss_cons (ps_for PassesOwn.never rfl (pi_enumS (by rfl) m_enumerate (pa_cons (pv 0) pa_nil)) (pg_tup (by rfl) (pgs_cons (pg_name (i := 1) sc_wrong_letter.nd rfl (Or.inl rfl)) (pgs_cons (pg_name (i := 2) sc_wrong_letter.nd rfl (Or.inl rfl)) pgs_nil))) (pss_one (ps_if (pt_not (pt_val (pe_u c_is_kind hr (by omega) (by rfl) (pa_cons (pv 2) pa_nil)))) (pss_one (ps_ret (pv 1))) pss_nil))) 
      (pss_one (ps_ret pe_non))), ?_⟩
    refine ⟨_, rfl, _, rfl, ?_⟩
    refine walk_enumS (fun i σ H2 => ∃ y1 y2 : Option V, σ = [some (.str (wd bs)), y1, y2] ∧ Same H H2) ⟨none, none, rfl, Same.refl H⟩ (fun i c T σ H2 hc hI nT => ?_) (fun σ H2 hI => ?_)
    · obtain ⟨y1, y2, rfl, sm⟩ := hI
      obtain ⟨b, _, rfl⟩ := wd_get hc
      refine ⟨T, _, rfl, .inl (.inl upd_same), rfl, _, _, rfl, _, _, rfl, rfl, _, rfl, .inr ⟨_, rfl, _, rfl, ?_⟩⟩
      rw [kindB_ltr]
      exact iteF ⟨_, _, rfl, sm.trans (same_upd nT)⟩
    · obtain ⟨y1, y2, rfl, sm⟩ := hI
      exact q _ sm
abbrev s_check_word : Stmt := top 46
abbrev N_check_word : List Str := ["word", "index"]
theorem sc_check_word : FnScope N_check_word ["word"] (defScope s_check_word) := ⟨rfl, rfl, rfl, by decide +kernel, rfl, by decide +kernel, by decide +kernel⟩
def spCheckWord : Sp := fun vs H Q _ => ∃ bs : List Bool, vs = [.str (wd bs)] ∧ bs.length ≤ 400 ∧ ∀ H', Same H H' → Q .non H'
theorem ok_check_word (D : Df K mg "check_word" s_check_word) (c_may_be_word : Cl P w K mg base 1 "may_be_word" s_may_be_word ["value"] spMayW) (c_wrong_letter : Cl P w K mg base 2 "wrong_letter" s_wrong_letter ["word"] spWrongL) :
    Cl P w K mg base 3 "check_word" s_check_word ["word"] spCheckWord := by
  refine D.ok sc_check_word (fun _ _ _ _ _ _ us hl => match us, hl with | [_], _ => rfl) (fun vs H Q E h => ?_) (fun f cdv A outer s H vs Q E hr h => ?_)
  · obtain ⟨bs, rfl, _⟩ := h
    rfl
  · obtain ⟨bs, rfl, hl, q⟩ := h
    refine ⟨_, 
      (pss_cons (ps_if (pt_not (pt_val (pe_u c_may_be_word hr (by omega) (by rfl) (pa_cons (pv 0) pa_nil)))) (pss_one ps_never) pss_nil) 
      (pss_cons (ps_set (i := 1) sc_check_word.nd rfl (Or.inl rfl) (pe_u c_wrong_letter hr (by omega) (by rfl) (pa_cons (pv 0) pa_nil))) 
      (pss_one (ps_if (pt_cmpR op_notN (pv 1) pe_non (nomark _)) (pss_one ps_never) pss_nil)))), ?_⟩
    have sz : (wd bs).length ≤ sizeLine := by
      rw [wd_len]
      exact Nat.le_of_lt (len_lt (by omega))
    refine ⟨_, rfl, _, rfl, sz, _, rfl, ?_⟩
    rw [decide_eq_true (by rw [wd_len]; omega)]
    refine iteF ⟨_, rfl, bs, rfl, fun H' sm => ?_⟩
    refine ⟨_, rfl, rfl, _, rfl, ?_⟩
    rw [decide_eq_true rfl]
    exact iteF (q H' sm)
end
section
variable {P : Program} {w : World} {K : PySem.W.Frag} {mg : Str → Option Value} {base : Heap}
/-! ### equality: the program's last letters -/
abbrev s_check_size : Stmt := top 39
abbrev N_check_size : List Str := ["size"]
theorem sc_check_size : FnScope N_check_size ["size"] (defScope s_check_size) := ⟨rfl, rfl, rfl, by decide +kernel, rfl, by decide +kernel, by decide +kernel⟩
def spSize : Sp := fun vs H Q _ => ∃ m : Int, vs = [.int m] ∧ 1 ≤ m ∧ m ≤ 12 ∧ Q .non H
theorem ok_size (D : Df K mg "check_size" s_check_size) (c_is_whole_from : Cl P w K mg base 2 "is_whole_from" s_is_whole_from ["value", "least", "greatest"] (spFrom K)) {tg : Tok} (g_MOST_PEOPLE : mg "MOST_PEOPLE" = some (.int 12 tg)) :
    Cl P w K mg base 3 "check_size" s_check_size ["size"] spSize := by
  refine D.ok sc_check_size (fun _ _ _ _ _ _ us hl => match us, hl with | [_], _ => rfl) (fun vs H Q E h => ?_) (fun f cdv A outer s H vs Q E hr h => ?_)
  · obtain ⟨m, rfl, _⟩ := h
    rfl
  · obtain ⟨m, rfl, m0, m1, q⟩ := h
    refine ⟨_, 
      (pss_one (ps_if (pt_not (pt_val (pe_u c_is_whole_from hr (by omega) (by rfl) (pa_cons (pv 0) (pa_cons pe_int (pa_cons (pe_glob (v := .int 12) (by rfl) g_MOST_PEOPLE ⟨_, rfl⟩) pa_nil)))))) (pss_one ps_never) pss_nil)), ?_⟩
    refine ⟨_, rfl, .int m, "int", 1, 12, rfl, Tv.int m, _, rfl, ?_⟩
    have e : wholeB (.int m) 1 12 = true := by
      show (decide (1 ≤ m) && decide (m ≤ 12)) = true
      rw [decide_eq_true m0, decide_eq_true m1]
      rfl
    rw [e]
    exact iteF q
abbrev s_last_letters : Stmt := top 47
abbrev N_last_letters : List Str := ["word", "most"]
theorem sc_last_letters : FnScope N_last_letters ["word", "most"] (defScope s_last_letters) := ⟨rfl, rfl, rfl, by decide +kernel, rfl, by decide +kernel, by decide +kernel⟩
def spLastL : Sp := fun vs H Q _ => ∃ (bs : List Bool) (m : Nat), vs = [.str (wd bs), .int (m : Nat)] ∧ bs.length ≤ 1000 ∧ Q (.str (wd (lastN (m + 1) bs))) H
theorem ok_lastl (D : Df K mg "last_letters" s_last_letters) (m_len : mg "len" = none) (m_max : mg "max" = none) : Cl P w K mg base 1 "last_letters" s_last_letters ["word", "most"] spLastL := by
  refine D.ok sc_last_letters (fun _ _ _ _ _ _ us hl => match us, hl with | [_, _], _ => rfl) (fun vs H Q E h => ?_) (fun f cdv A outer s H vs Q E hr h => ?_)
  · obtain ⟨bs, m, rfl, _⟩ := h
    rfl
  · obtain ⟨bs, m, rfl, hl, q⟩ := h
    refine ⟨_, 
      (pss_one (ps_ret (pe_slice sl_str (pv 0) (po_some (pe_callB (call_max2 rfl) (by rfl) m_max (by decide +kernel) (pa_cons pe_int (pa_cons (pe_op op_sub (pe_callB call_len_str (by rfl) m_len (by decide +kernel) (pa_cons (pv 0) pa_nil)) (pv 1)) pa_nil)))) po_none))), ?_⟩
    have sz : (wd bs).length ≤ sizeLine := by
      rw [wd_len]
      exact Nat.le_of_lt (len_lt (by omega))
    refine ⟨_, rfl, _, rfl, _, rfl, sz, _, rfl, _, _, rfl, rfl, _, _, rfl, _, rfl, _, rfl, sz, ?_⟩
    have e : (if ((wd bs).length : Int) - (m : Nat) > 0 then ((wd bs).length : Int) - (m : Nat) else 0) = ((bs.length + 1 - (m + 1) : Nat) : Int) := by
      rw [wd_len]
      split <;> omega
    rw [e, cutS_drop]
    exact q
abbrev s_shortest : Stmt := top 49
abbrev N_shortest : List Str := ["word", "size"]
theorem sc_shortest : FnScope N_shortest ["word", "size"] (defScope s_shortest) := ⟨rfl, rfl, rfl, by decide +kernel, rfl, by decide +kernel, by decide +kernel⟩
def spShortest : Sp := fun vs H Q _ => ∃ (bs : List Bool) (m : Nat), vs = [.str (wd bs), .int (m : Nat)] ∧ bs.length ≤ 400 ∧ 1 ≤ m ∧ m ≤ 12 ∧ ∀ H', Same H H' → Q (.str (wd (lastN m bs))) H'
theorem ok_shortest (D : Df K mg "shortest" s_shortest) (c_check_word : Cl P w K mg base 3 "check_word" s_check_word ["word"] spCheckWord) (c_check_size : Cl P w K mg base 3 "check_size" s_check_size ["size"] spSize) (c_last_letters : Cl P w K mg base 1 "last_letters" s_last_letters ["word", "most"] spLastL) :
    Cl P w K mg base 4 "shortest" s_shortest ["word", "size"] spShortest := by
  refine D.ok sc_shortest (fun _ _ _ _ _ _ us hl => match us, hl with | [_, _], _ => rfl) (fun vs H Q E h => ?_) (fun f cdv A outer s H vs Q E hr h => ?_)
  · obtain ⟨bs, m, rfl, _⟩ := h
    rfl
  · obtain ⟨bs, m, rfl, hl, m0, m1, q⟩ := h
    refine ⟨_, 
      (pss_cons (ps_expr (pe_u c_check_word hr (by omega) (by rfl) (pa_cons (pv 0) pa_nil))) 
      (pss_cons (ps_expr (pe_u c_check_size hr (by omega) (by rfl) (pa_cons (pv 1) pa_nil))) 
      (pss_one (ps_ret (pe_u c_last_letters hr (by omega) (by rfl) (pa_cons (pv 0) (pa_cons (pe_op op_sub (pv 1) pe_int) pa_nil))))))), ?_⟩
    refine ⟨_, rfl, bs, rfl, hl, fun H1 s1 => ?_⟩
    refine ⟨_, rfl, _, rfl, by omega, by omega, ?_⟩
    obtain ⟨n, rfl⟩ : ∃ n, m = n + 1 := ⟨m - 1, by omega⟩
    refine ⟨_, rfl, _, rfl, _, _, rfl, rfl, bs, n, ?_, by omega, q _ s1⟩
    exact congrArg (fun t : Int => [V.str (wd bs), V.int t]) (by omega)
end
section
variable {P : Program} {w : World} {K : PySem.W.Frag} {mg : Str → Option Value} {base : Heap}
/-! ### words with the same effect -/
abbrev s_check_words : Stmt := top 50
abbrev N_check_words : List Str := ["word", "other", "size"]
theorem sc_check_words : FnScope N_check_words ["word", "other", "size"] (defScope s_check_words) := ⟨rfl, rfl, rfl, by decide +kernel, rfl, by decide +kernel, by decide +kernel⟩
def spCWords : Sp := fun vs H Q _ => ∃ (bs cs : List Bool) (m : Nat), vs = [.str (wd bs), .str (wd cs), .int (m : Nat)] ∧ bs.length ≤ 400 ∧ cs.length ≤ 400 ∧ 1 ≤ m ∧ m ≤ 12 ∧ ∀ H', Same H H' → Q .non H'
theorem ok_cwords (D : Df K mg "check_words" s_check_words) (c_check_word : Cl P w K mg base 3 "check_word" s_check_word ["word"] spCheckWord) (c_check_size : Cl P w K mg base 3 "check_size" s_check_size ["size"] spSize) :
    Cl P w K mg base 4 "check_words" s_check_words ["word", "other", "size"] spCWords := by
  refine D.ok sc_check_words (fun _ _ _ _ _ _ us hl => match us, hl with | [_, _, _], _ => rfl) (fun vs H Q E h => ?_) (fun f cdv A outer s H vs Q E hr h => ?_)
  · obtain ⟨bs, cs, m, rfl, _⟩ := h
    rfl
  · obtain ⟨bs, cs, m, rfl, hb, hc, m0, m1, q⟩ := h
    refine ⟨_, 
      (pss_cons (ps_expr (pe_u c_check_word hr (by omega) (by rfl) (pa_cons (pv 0) pa_nil))) 
      (pss_cons (ps_expr (pe_u c_check_word hr (by omega) (by rfl) (pa_cons (pv 1) pa_nil))) 
      (pss_one (ps_expr (pe_u c_check_size hr (by omega) (by rfl) (pa_cons (pv 2) pa_nil)))))), ?_⟩
    exact ⟨_, rfl, bs, rfl, hb, fun H1 s1 => ⟨_, rfl, cs, rfl, hc, fun H2 s2 => ⟨_, rfl, _, rfl, by omega, by omega, q _ (s1.trans s2)⟩⟩⟩
end
section
variable {P : Program} {w : World} {K : PySem.W.Frag} {mg : Str → Option Value} {base : Heap}
theorem eqW (x y : List Bool) : decide (V.str (wd x) = V.str (wd y)) = decide (x = y) := by
  by_cases h : x = y
  · subst h
    rw [decide_eq_true rfl, decide_eq_true rfl]
  · rw [decide_eq_false h, decide_eq_false fun z => h (wd_inj (V.str.inj z))]
abbrev s_same : Stmt := top 51
abbrev N_same : List Str := ["word", "other", "size"]
theorem sc_same : FnScope N_same ["word", "other", "size"] (defScope s_same) := ⟨rfl, rfl, rfl, by decide +kernel, rfl, by decide +kernel, by decide +kernel⟩
def spSame : Sp := fun vs H Q _ => ∃ (bs cs : List Bool) (m : Nat), vs = [.str (wd bs), .str (wd cs), .int (m : Nat)] ∧ bs.length ≤ 400 ∧ cs.length ≤ 400 ∧ 1 ≤ m ∧ m ≤ 12 ∧ ∀ H', Same H H' → Q (.bl (decide (lastN m bs = lastN m cs))) H'
theorem ok_same (D : Df K mg "same" s_same) (c_check_words : Cl P w K mg base 4 "check_words" s_check_words ["word", "other", "size"] spCWords) (c_shortest : Cl P w K mg base 4 "shortest" s_shortest ["word", "size"] spShortest) :
    Cl P w K mg base 5 "same" s_same ["word", "other", "size"] spSame := by
  refine D.ok sc_same (fun _ _ _ _ _ _ us hl => match us, hl with | [_, _, _], _ => rfl) (fun vs H Q E h => ?_) (fun f cdv A outer s H vs Q E hr h => ?_)
  · obtain ⟨bs, cs, m, rfl, _⟩ := h
    rfl
  · obtain ⟨bs, cs, m, rfl, hb, hc, m0, m1, q⟩ := h
    refine ⟨_, 
      (pss_cons (ps_expr (pe_u c_check_words hr (by omega) (by rfl) (pa_cons (pv 0) (pa_cons (pv 1) (pa_cons (pv 2) pa_nil))))) 
      (pss_one (ps_ret (pe_cmpR op_eq (pe_u c_shortest hr (by omega) (by rfl) (pa_cons (pv 0) (pa_cons (pv 2) pa_nil))) (pe_u c_shortest hr (by omega) (by rfl) (pa_cons (pv 1) (pa_cons (pv 2) pa_nil))) (nomark _))))), ?_⟩
    refine ⟨_, rfl, _, rfl, _, rfl, bs, cs, m, rfl, hb, hc, m0, m1, fun H1 s1 => ?_⟩
    refine ⟨_, rfl, _, rfl, bs, m, rfl, hb, m0, m1, fun H2 s2 => ⟨_, rfl, _, rfl, cs, m, rfl, hc, m0, m1, fun H3 s3 => ⟨rfl, ?_⟩⟩⟩
    rw [eqW]
    exact q _ ((s1.trans s2).trans s3)
end
section
variable {P : Program} {w : World} {K : PySem.W.Frag} {mg : Str → Option Value} {base : Heap}
/-! ### desks: what is checked -/
abbrev s_check_number : Stmt := top 40
abbrev N_check_number : List Str := ["number", "least", "greatest"]
theorem sc_check_number : FnScope N_check_number ["number", "least", "greatest"] (defScope s_check_number) := ⟨rfl, rfl, rfl, by decide +kernel, rfl, by decide +kernel, by decide +kernel⟩
def spNum : Sp := fun vs H Q _ => ∃ n lo hi : Int, vs = [.int n, .int lo, .int hi] ∧ lo ≤ n ∧ n ≤ hi ∧ Q .non H
theorem ok_num (D : Df K mg "check_number" s_check_number) (c_is_whole_from : Cl P w K mg base 2 "is_whole_from" s_is_whole_from ["value", "least", "greatest"] (spFrom K)) :
    Cl P w K mg base 3 "check_number" s_check_number ["number", "least", "greatest"] spNum := by
  refine D.ok sc_check_number (fun _ _ _ _ _ _ us hl => match us, hl with | [_, _, _], _ => rfl) (fun vs H Q E h => ?_) (fun f cdv A outer s H vs Q E hr h => ?_)
  · obtain ⟨n, lo, hi, rfl, _⟩ := h
    rfl
  · obtain ⟨n, lo, hi, rfl, h0, h1, q⟩ := h
    refine ⟨_, 
      (pss_one (ps_if (pt_not (pt_val (pe_u c_is_whole_from hr (by omega) (by rfl) (pa_cons (pv 0) (pa_cons (pv 1) (pa_cons (pv 2) pa_nil)))))) (pss_one ps_never) pss_nil)), ?_⟩
    refine ⟨_, rfl, _, rfl, _, rfl, .int n, "int", lo, hi, rfl, Tv.int n, _, rfl, ?_⟩
    have e : wholeB (.int n) lo hi = true := by
      show (decide (lo ≤ n) && decide (n ≤ hi)) = true
      rw [decide_eq_true h0, decide_eq_true h1]
      rfl
    rw [e]
    exact iteF q
end
section
variable {P : Program} {w : World} {K : PySem.W.Frag} {mg : Str → Option Value} {base : Heap}
/-! ### the words' common end -/
theorem count_wd (bs : List Bool) (b : Bool) : Txt.count (wd bs) (ltr b) = (bs.count b : Nat) := by
  rw [PyProof.Rows.count_cnt]
  show PyProof.Rows.cnt (code b) (bs.map code).toArray.toList = _
  rw [List.toList_toArray]
  induction bs with
  | nil => rfl
  | cons a l ih =>
    rw [List.map_cons, PyProof.Rows.cnt_cons, ih, List.count_cons]
    cases a <;> cases b <;> simp [code] <;> omega
theorem at_back {bs : List Bool} {k : Nat} (h : k < bs.length) : atI (wd bs).cps.toList (-1 - (k : Nat)) = some (code bs[bs.length - 1 - k]) := by
  have e : (wd bs).cps.toList = bs.map code := List.toList_toArray ..
  rw [e]
  unfold atI ixN
  rw [List.length_map, if_neg (by omega), if_pos (by omega)]
  show (bs.map code)[(-1 - ((k : Nat) : Int) + (bs.length : Nat)).toNat]? = _
  rw [show (-1 - ((k : Nat) : Int) + (bs.length : Nat)).toNat = bs.length - 1 - k by omega, List.getElem?_map, List.getElem?_eq_getElem (by omega)]
  rfl
theorem drop_back {x : List Bool} {k : Nat} (h : k < x.length) : x.drop (x.length - (k + 1)) = x[x.length - 1 - k] :: x.drop (x.length - k) := by
  rw [List.drop_eq_getElem_cons (by omega)]
  congr 1
  · congr 1
    omega
  · congr 1
    omega
/-- x and y end with the same letters, ahead of which they differ or one has none -/
def Parted (u v : List Bool) : Prop := u = [] ∨ v = [] ∨ ∃ u' v' b, u = u' ++ [b] ∧ v = v' ++ [!b]
theorem parted_at {x y : List Bool} {k : Nat} (hx : k ≤ x.length) (hy : k ≤ y.length) (e : x.drop (x.length - k) = y.drop (y.length - k)) (stop : k = x.length ∨ k = y.length ∨ ∃ (h1 : k < x.length) (h2 : k < y.length), x[x.length - 1 - k] ≠ y[y.length - 1 - k]) :
    ∃ u v, x = u ++ x.drop (x.length - k) ∧ y = v ++ x.drop (x.length - k) ∧ Parted u v := by
  refine ⟨x.take (x.length - k), y.take (y.length - k), (List.take_append_drop ..).symm, by rw [e]; exact (List.take_append_drop ..).symm, ?_⟩
  rcases stop with z | z | ⟨h1, h2, ne⟩
  · left
    rw [z, Nat.sub_self]
    rfl
  · right; left
    rw [z, Nat.sub_self]
    rfl
  · right; right
    refine ⟨x.take (x.length - 1 - k), y.take (y.length - 1 - k), x[x.length - 1 - k], ?_, ?_⟩
    · rw [show x.length - k = (x.length - 1 - k) + 1 by omega, List.take_add_one, List.getElem?_eq_getElem (by omega)]
      rfl
    · rw [show y.length - k = (y.length - 1 - k) + 1 by omega, List.take_add_one, List.getElem?_eq_getElem (by omega)]
      congr 1
      show [y[y.length - 1 - k]] = [!x[x.length - 1 - k]]
      congr 1
      generalize x[x.length - 1 - k] = p at ne
      generalize y[y.length - 1 - k] = q at ne
      cases p <;> cases q <;> first | rfl | exact absurd rfl ne
abbrev s_common_end : Stmt := top 52
abbrev N_common_end : List Str := ["word", "other", "length"]
theorem sc_common_end : FnScope N_common_end ["word", "other"] (defScope s_common_end) := ⟨rfl, rfl, rfl, by decide +kernel, rfl, by decide +kernel, by decide +kernel⟩
def spCommon : Sp := fun vs H Q _ => ∃ x y : List Bool, vs = [.str (wd x), .str (wd y)] ∧ x.length ≤ 400 ∧ y.length ≤ 400 ∧ ∀ e u v, x = u ++ e → y = v ++ e → Parted u v → Q (.str (wd e)) H
theorem ok_common (D : Df K mg "common_end" s_common_end) (c_last_letters : Cl P w K mg base 1 "last_letters" s_last_letters ["word", "most"] spLastL) (m_len : mg "len" = none) (m_min : mg "min" = none) : Cl P w K mg base 2 "common_end" s_common_end ["word", "other"] spCommon := by
  refine D.ok sc_common_end (fun _ _ _ _ _ _ us hl => match us, hl with | [_, _], _ => rfl) (fun vs H Q E h => ?_) (fun f cdv A outer s H vs Q E hr h => ?_)
  · obtain ⟨x, y, rfl, _⟩ := h
    rfl
  · obtain ⟨x, y, rfl, hx, hy, q⟩ := h
    refine ⟨_, 
      (pss_cons (ps_set (i := 2) sc_common_end.nd rfl (Or.inl rfl) pe_int) 
      (pss_cons (ps_while PassesOwn.never (PW.pt (pw_and (pt_cmpR op_lt (pv 2) (pe_callB (call_min2 rfl) (by rfl) m_min (by decide +kernel) (pa_cons (pe_callB call_len_str (by rfl) m_len (by decide +kernel) (pa_cons (pv 0) pa_nil)) (pa_cons (pe_callB call_len_str (by rfl) m_len (by decide +kernel) (pa_cons (pv 1) pa_nil)) pa_nil))) (nomark _)) (pw_and1 (pt_cmpR op_eq (pe_ix ix_str (pv 0) (pe_op op_sub (pe_un un_neg pe_int) (pv 2)) (fun _ _ => rfl)) (pe_ix ix_str (pv 1) (pe_op op_sub (pe_un un_neg pe_int) (pv 2)) (fun _ _ => rfl)) (nomark _))))) (pss_one (ps_aug (i := 2) sc_common_end.nd rfl (Or.inl rfl) pe_int ip_add))) 
      (pss_one (ps_ret (pe_u c_last_letters hr (by omega) (by rfl) (pa_cons (pv 0) (pa_cons (pv 2) pa_nil))))))), ?_⟩
    have sz : ∀ bs : List Bool, bs.length ≤ 400 → (wd bs).length ≤ sizeLine := fun bs h => by
      rw [wd_len]
      exact Nat.le_of_lt (len_lt (by omega))
    refine while_by (fun σ G => ∃ k : Nat, σ = [some (.str (wd x)), some (.str (wd y)), some (.int (k : Nat))] ∧ G = H ∧ k ≤ x.length ∧ k ≤ y.length ∧ x.drop (x.length - k) = y.drop (y.length - k))
      (fun σ _ => match σ with | [_, _, some (.int i)] => x.length - i.toNat | _ => 0) ⟨0, rfl, rfl, Nat.zero_le _, Nat.zero_le _, by rw [Nat.sub_zero, Nat.sub_zero, List.drop_length, List.drop_length]⟩ (fun σ G hI => ?_) (fun σ G Q1 Q2 hq hc => ?_)
    · obtain ⟨k, rfl, rfl, kx, ky, e⟩ := hI
      have fin : (k = x.length ∨ k = y.length ∨ ∃ (h1 : k < x.length) (h2 : k < y.length), x[x.length - 1 - k] ≠ y[y.length - 1 - k]) → Q (.str (wd (lastN (k + 1) x))) G := fun st => by
        obtain ⟨u, v, e1, e2, pt⟩ := parted_at kx ky e st
        have z := q _ u v e1 e2 pt
        unfold lastN
        rw [show x.length + 1 - (k + 1) = x.length - k by omega]
        exact z
      refine ⟨_, rfl, _, rfl, _, rfl, sz x hx, _, rfl, _, rfl, sz y hy, _, _, rfl, _, _, rfl, rfl, _, rfl, ?_⟩
      rw [wd_len, wd_len]
      by_cases h1 : k < x.length ∧ k < y.length
      · rw [decide_eq_true (by split <;> omega)]
        refine iteT ⟨_, rfl, 1, rfl, _, rfl, _, _, rfl, rfl, _, _, _, rfl, rfl, sz x hx, at_back h1.1, ?_⟩
        refine ⟨_, rfl, 1, rfl, _, rfl, _, _, rfl, rfl, _, _, _, rfl, rfl, sz y hy, at_back h1.2, ?_⟩
        refine ⟨rfl, _, rfl, ?_⟩
        by_cases h2 : x[x.length - 1 - k] = y[y.length - 1 - k]
        · rw [decide_eq_true (show V.str ⟨#[code x[x.length - 1 - k]]⟩ = V.str ⟨#[code y[y.length - 1 - k]]⟩ by rw [h2])]
          refine iteT ⟨_, rfl, _, _, rfl, rfl, ⟨k + 1, rfl, rfl, h1.1, h1.2, ?_⟩, ?_⟩
          · rw [drop_back h1.1, drop_back h1.2, h2, e]
          · show x.length - (((k : Nat) : Int) + 1).toNat < x.length - (((k : Nat) : Int)).toNat
            omega
        · rw [decide_eq_false (fun z => h2 (ltr_inj (V.str.inj z)))]
          exact iteF ⟨_, rfl, _, rfl, x, k, rfl, by omega, fin (.inr (.inr ⟨h1.1, h1.2, h2⟩))⟩
      · rw [decide_eq_false (by split <;> omega)]
        refine iteF (iteF ⟨_, rfl, _, rfl, x, k, rfl, by omega, fin ?_⟩)
        omega
    · obtain ⟨v, hv, v1, hv1, z1, hz1, hs1, v2, hv2, z2, hz2, hs2, i, j, e1, i2, j2, e2, e3, k, ek, r⟩ := hc
      refine ⟨v, hv, v1, hv1, z1, hz1, hs1, v2, hv2, z2, hz2, hs2, i, j, e1, i2, j2, e2, e3, k, ek, ?_⟩
      cases k with
      | false => exact iteF (hq _ _ (by simpa using r))
      | true =>
        rw [if_pos rfl] at r
        obtain ⟨a1, b1, a2, b2, a3, b3, a4, a5, b4, b5, a6, a7, a8, b6, b7, b8, b9, c1, d1, c2, d2, c3, d3, c4, c5, d4, d5, c6, c7, c8, d6, d7, d8, d9, sc, k2, ek2, r2⟩ := r
        exact iteT ⟨a1, b1, a2, b2, a3, b3, a4, a5, b4, b5, a6, a7, a8, b6, b7, b8, b9, c1, d1, c2, d2, c3, d3, c4, c5, d4, d5, c6, c7, c8, d6, d7, d8, d9, sc, k2, ek2, hq _ _ r2⟩
end
section
variable {P : Program} {w : World} {K : PySem.W.Frag} {mg : Str → Option Value} {base : Heap}
/-! ### the row that tells -/
abbrev s_telling_row : Stmt := top 53
abbrev N_telling_row : List Str := ["longer", "end", "size", "shorts", "middle", "placed"]
theorem sc_telling_row : FnScope N_telling_row ["longer", "end", "size"] (defScope s_telling_row) := ⟨rfl, rfl, rfl, by decide +kernel, rfl, by decide +kernel, by decide +kernel⟩
def spTell : Sp := fun vs H Q _ => ∃ (u e : List Bool) (c : Bool) (m : Nat), vs = [.str (wd (u ++ [c] ++ e)), .str (wd e), .int (m : Nat)] ∧ (u ++ [c] ++ e).length ≤ 400 ∧ e.length + 2 ≤ m ∧ m ≤ 12 ∧ ∀ (p : Addr) (H' : Hp), Same H H' → H p = none → H' p = some (.tup ((tellRow c e m).map V.int)) → Q (.ref p) H'
theorem ok_tell (D : Df K mg "telling_row" s_telling_row) (m_list : mg "list" = none) (m_range : mg "range" = none) (m_len : mg "len" = none) (m_tuple : mg "tuple" = none) : Cl P w K mg base 1 "telling_row" s_telling_row ["longer", "end", "size"] spTell := by
  refine D.ok sc_telling_row (fun _ _ _ _ _ _ us hl => match us, hl with | [_, _, _], _ => rfl) (fun vs H Q E h => ?_) (fun f cdv A outer s H vs Q E hr h => ?_)
  · obtain ⟨u, e, c, m, rfl, _⟩ := h
    rfl
  · obtain ⟨u, e, c, m, rfl, hl, hm, m1, q⟩ := h
    have two := count_two e
    refine ⟨_, 
      (pss_cons (ps_set (i := 3) sc_telling_row.nd rfl (Or.inl rfl) (pe_m1 PySem.F.slot_str_count PySem.F.type_str_count mt_count (pv 1) pe_str)) 
      (pss_cons (ps_set (i := 4) sc_telling_row.nd rfl (Or.inl rfl) (pe_listRg rfl (by rfl) m_list (prg_2 (by rfl) m_range (pe_op op_add pe_int (pv 3)) (pe_op op_sub (pe_op op_add (pv 2) pe_int) (pe_m1 PySem.F.slot_str_count PySem.F.type_str_count mt_count (pv 1) pe_str))))) 
      (pss_cons (ps_set (i := 5) sc_telling_row.nd rfl (Or.inl rfl) (pe_op op_cat (pe_listRg rfl (by rfl) m_list (prg_2 (by rfl) m_range pe_int (pe_op op_add pe_int (pv 3)))) (pe_listRg rfl (by rfl) m_list (prg_2 (by rfl) m_range (pe_op op_sub (pe_op op_add (pv 2) pe_int) (pe_m1 PySem.F.slot_str_count PySem.F.type_str_count mt_count (pv 1) pe_str)) (pe_op op_add (pv 2) pe_int))))) 
      (C8.pss_cut (ps_if (pt_cmpR op_eq (pe_ix ix_str (pv 0) (pe_op op_sub (pe_un un_neg pe_int) (pe_callB call_len_str (by rfl) m_len (by decide +kernel) (pa_cons (pv 1) pa_nil))) (fun _ _ => rfl)) pe_str (nomark _)) (pss_one (ps_set (i := 4) sc_telling_row.nd rfl (Or.inl rfl) (pe_revL (pv 4)))) pss_nil) 
      (pss_one (ps_ret (pe_callTy call_tuple_of (by rfl) m_tuple (by decide +kernel) (pa_cons (pe_op op_cat (pv 5) (pv 4)) pa_nil)))))))), ?_⟩
    refine ⟨_, rfl, ⟨_, rfl⟩, _, _, rfl, rfl, ?_⟩
    rw [ltrS, count_wd]
    generalize hS : e.count false = sS at *
    refine ⟨_, rfl, _, _, rfl, rfl, _, rfl, _, _, rfl, rfl, _, rfl, ⟨_, rfl⟩, _, _, rfl, rfl, ?_⟩
    rw [ltrT, count_wd]
    generalize hT : e.count true = sT at *
    refine ⟨_, _, rfl, rfl, 1 + (sS : Nat), (m : Nat) + 1 - (sT : Nat), rfl, rfl, .of_le (by omega) (by omega) (by omega) (by omega), fun mi nm => ?_⟩
    rw [rgV_rg]
    have s1 : Same H (upd H mi (.lst ((rg (1 + (sS : Nat)) ((m : Nat) + 1 - (sT : Nat))).map V.int))) := same_upd nm
    refine ⟨_, rfl, _, _, rfl, rfl, 1, 1 + (sS : Nat), rfl, rfl, .of_le (by omega) (by omega) (by omega) (by omega), fun pa na => ?_⟩
    rw [rgV_rg]
    have s2 := s1.trans (same_upd (o := .lst ((rg 1 (1 + (sS : Nat))).map V.int)) na)
    refine ⟨_, rfl, _, _, rfl, rfl, _, rfl, ⟨_, rfl⟩, _, _, rfl, rfl, ?_⟩
    rw [count_wd, hT]
    refine ⟨_, _, rfl, rfl, _, rfl, _, _, rfl, rfl, (m : Nat) + 1 - (sT : Nat), (m : Nat) + 1, rfl, rfl, .of_le (by omega) (by omega) (by omega) (by omega), fun pb nb => ?_⟩
    rw [rgV_rg]
    have s3 := s2.trans (same_upd (o := .lst ((rg ((m : Nat) + 1 - (sT : Nat)) ((m : Nat) + 1)).map V.int)) nb)
    have ab : pa ≠ pb := ne_of_none upd_same nb
    refine ⟨pa, pb, _, _, rfl, rfl, (upd_ne ab).trans upd_same, upd_same, ?_, fun pc nc => ?_⟩
    · rw [List.length_map, List.length_map, rg_len, rg_len]
      exact Nat.le_of_lt (len_lt (by omega))
    have t : Same _ _ := (same_upd (o := .lst ((rg 1 (1 + (sS : Nat))).map V.int)) na).trans ((same_upd (o := .lst ((rg ((m : Nat) + 1 - (sT : Nat)) ((m : Nat) + 1)).map V.int)) nb).trans (same_upd (o := .lst ((rg 1 (1 + (sS : Nat))).map V.int ++ (rg ((m : Nat) + 1 - (sT : Nat)) ((m : Nat) + 1)).map V.int)) nc))
    have hM := t mi _ upd_same
    have s4 := s1.trans t
    have sz : ∀ bs : List Bool, bs.length ≤ 400 → (wd bs).length ≤ sizeLine := fun bs h => by
      rw [wd_len]
      exact Nat.le_of_lt (len_lt (by omega))
    have le : e.length ≤ 400 := by
      rw [List.length_append] at hl
      omega
    have gx : atI (wd (u ++ [c] ++ e)).cps.toList (-1 - (e.length : Nat)) = some (code c) := by
      have lt : e.length < (u ++ [c] ++ e).length := by
        rw [List.length_append, List.length_append]
        show e.length < u.length + 1 + e.length
        omega
      rw [at_back lt]
      congr 2
      have w1 : (u ++ [c] ++ e).length - 1 - e.length = u.length := by
        rw [List.length_append, List.length_append]
        show u.length + 1 + e.length - 1 - e.length = u.length
        omega
      have w2 : (u ++ [c] ++ e)[(u ++ [c] ++ e).length - 1 - e.length]? = some c := by
        rw [w1, List.append_assoc, List.getElem?_append_right (Nat.le_refl _), Nat.sub_self]
        rfl
      exact Option.some.inj ((List.getElem?_eq_getElem (by omega)).symm.trans w2)
    refine ⟨fun σ G => ∃ mj : Addr, σ = [some (.str (wd (u ++ [c] ++ e))), some (.str (wd e)), some (.int (m : Nat)), some (.int (sS : Nat)), some (.ref mj), some (.ref pc)] ∧ Same H G ∧
        G pc = some (.lst ((rg 1 (1 + (sS : Nat))).map V.int ++ (rg ((m : Nat) + 1 - (sT : Nat)) ((m : Nat) + 1)).map V.int)) ∧
        G mj = some (.lst ((if c then (rg (1 + (sS : Nat)) ((m : Nat) + 1 - (sT : Nat))).reverse else rg (1 + (sS : Nat)) ((m : Nat) + 1 - (sT : Nat))).map V.int)), ?_, fun σ G hG => ?_⟩
    · refine ⟨_, rfl, 1, rfl, _, rfl, _, rfl, sz e le, ?_⟩
      rw [wd_len]
      refine ⟨_, _, rfl, rfl, _, _, _, rfl, rfl, sz _ hl, gx, ?_⟩
      refine ⟨rfl, _, rfl, ?_⟩
      cases c with
      | true =>
        rw [decide_eq_true (show V.str ⟨#[code true]⟩ = V.str (ltr true) from rfl)]
        refine iteT ⟨_, rfl, mi, _, rfl, .inl (.inl hM), fun pr nr => ⟨pr, rfl, s4.trans (same_upd nr), same_upd nr pc _ upd_same, ?_⟩⟩
        rw [upd_same, if_pos rfl, List.map_reverse]
      | false =>
        rw [decide_eq_false (show ¬ V.str ⟨#[code false]⟩ = V.str (ltr true) from fun z => nomatch ltr_inj (a := false) (b := true) (V.str.inj z))]
        exact iteF ⟨mi, rfl, s4, upd_same, by rw [hM, if_neg (by decide)]⟩
    · obtain ⟨mj, rfl, sG, hp, hj⟩ := hG
      have lj : (if c then (rg (1 + (sS : Nat)) ((m : Nat) + 1 - (sT : Nat))).reverse else rg (1 + (sS : Nat)) ((m : Nat) + 1 - (sT : Nat))).length ≤ 12 := by
        split
        · rw [List.length_reverse, rg_len]
          omega
        · rw [rg_len]
          omega
      refine ⟨_, rfl, _, rfl, pc, mj, _, _, rfl, rfl, hp, hj, ?_, fun pd nd => ⟨pd, _, rfl, .inl ⟨.inl (.inl upd_same), fun l nl => q l _ ((sG.trans (same_upd nd)).trans (same_upd nl)) ((sG.trans (same_upd nd)).free nl) ?_⟩⟩⟩
      · rw [List.length_append, List.length_map, List.length_map, List.length_map, rg_len, rg_len]
        exact Nat.le_of_lt (len_lt (by omega))
      · rw [upd_same]
        unfold tellRow
        rw [hS, hT, List.map_append, List.map_append]
end
section
/-! ### where two words part, and the row that tells them apart -/
def cp : List Bool → List Bool → List Bool
  | a :: x, b :: y => if a = b then a :: cp x y else []
  | _, _ => []
theorem cp_app : ∀ l a b : List Bool, cp (l ++ a) (l ++ b) = l ++ cp a b
  | [], _, _ => rfl
  | z :: l, a, b => by
    show (if z = z then z :: cp (l ++ a) (l ++ b) else []) = _
    rw [if_pos rfl, cp_app l a b]
    rfl
def cEnd (x y : List Bool) : List Bool := (cp x.reverse y.reverse).reverse
theorem cEnd_of {u v : List Bool} (h : Parted u v) (e : List Bool) : cEnd (u ++ e) (v ++ e) = e := by
  unfold cEnd
  rw [List.reverse_append, List.reverse_append, cp_app]
  have z : cp u.reverse v.reverse = [] := by
    rcases h with rfl | rfl | ⟨u', v', b, rfl, rfl⟩
    · rfl
    · cases u.reverse <;> rfl
    · rw [List.reverse_append, List.reverse_append]
      show (if b = !b then _ else []) = []
      cases b <;> rfl
  rw [z, List.append_nil, List.reverse_reverse]
theorem cp_split : ∀ x y : List Bool, ∃ l a b : List Bool, x = l ++ a ∧ y = l ++ b ∧ (a = [] ∨ b = [] ∨ ∃ a' b' z, a = z :: a' ∧ b = (!z) :: b')
  | [], y => ⟨[], [], y, rfl, rfl, .inl rfl⟩
  | x, [] => ⟨[], x, [], rfl, rfl, .inr (.inl rfl)⟩
  | c :: x, d :: y => by
    by_cases h : c = d
    · subst h
      obtain ⟨l, a, b, rfl, rfl, r⟩ := cp_split x y
      exact ⟨c :: l, a, b, rfl, rfl, r⟩
    · refine ⟨[], c :: x, d :: y, rfl, rfl, .inr (.inr ⟨x, y, c, rfl, ?_⟩)⟩
      cases c <;> cases d <;> first | rfl | exact absurd rfl h
theorem parts (x y : List Bool) : ∃ e u v, x = u ++ e ∧ y = v ++ e ∧ Parted u v := by
  obtain ⟨l, a, b, ex, ey, r⟩ := cp_split x.reverse y.reverse
  refine ⟨l.reverse, a.reverse, b.reverse, ?_, ?_, ?_⟩
  · rw [← List.reverse_append, ← ex, List.reverse_reverse]
  · rw [← List.reverse_append, ← ey, List.reverse_reverse]
  · rcases r with rfl | rfl | ⟨a', b', z, rfl, rfl⟩
    · exact .inl rfl
    · exact .inr (.inl rfl)
    · exact .inr (.inr ⟨a'.reverse, b'.reverse, z, List.reverse_cons, List.reverse_cons⟩)
def longerOf (x y : List Bool) : List Bool := if y.length ≤ x.length then x else y
def diffRow (m : Nat) (bs cs : List Bool) : List Int :=
  tellRow (((longerOf (lastN m bs) (lastN m cs)).reverse[(cEnd (lastN m bs) (lastN m cs)).length]?).getD false) (cEnd (lastN m bs) (lastN m cs)) m
theorem get_mid (u e : List Bool) (c : Bool) : (((u ++ [c] ++ e).reverse[e.length]?).getD false) = c := by
  rw [List.reverse_append, List.reverse_append, List.getElem?_append_right (by rw [List.length_reverse]; exact Nat.le_refl _), List.length_reverse, Nat.sub_self]
  rfl
theorem diff_parts {m : Nat} {bs cs : List Bool} (ne : lastN m bs ≠ lastN m cs) {u v e : List Bool} (ex : lastN m bs = u ++ e) (ey : lastN m cs = v ++ e) (pt : Parted u v) :
    ∃ (u' v' : List Bool) (c : Bool), longerOf (lastN m bs) (lastN m cs) = u' ++ [c] ++ e ∧ (v' = [] ∨ ∃ k, v' = k ++ [!c]) ∧ diffRow m bs cs = tellRow c e m ∧
      ((lastN m bs = u' ++ [c] ++ e ∧ lastN m cs = v' ++ e) ∨ (lastN m cs = u' ++ [c] ++ e ∧ lastN m bs = v' ++ e)) := by
  unfold diffRow
  rw [ex, ey] at ne
  rw [ex, ey, cEnd_of pt]
  have lu : (u ++ e).length = u.length + e.length := List.length_append
  have lv : (v ++ e).length = v.length + e.length := List.length_append
  by_cases h : (v ++ e).length ≤ (u ++ e).length
  · rw [show longerOf (u ++ e) (v ++ e) = u ++ e from if_pos h]
    have un : u ≠ [] := fun z => by
      subst z
      have : v = [] := List.eq_nil_of_length_eq_zero (by rw [lu, lv] at h; have z : ([] : List Bool).length = 0 := rfl; omega)
      subst this
      exact ne rfl
    have e1 := (List.dropLast_concat_getLast un).symm
    refine ⟨u.dropLast, v, u.getLast un, by rw [← e1], ?_, ?_, .inl ⟨by rw [← e1], rfl⟩⟩
    · rcases pt with z | z | ⟨u', v', b, rfl, rfl⟩
      · exact absurd z un
      · exact .inl z
      · exact .inr ⟨v', by simp⟩
    · have g := get_mid u.dropLast e (u.getLast un)
      rw [← e1] at g
      rw [g]
  · rw [show longerOf (u ++ e) (v ++ e) = v ++ e from if_neg h]
    have vn : v ≠ [] := fun z => by
      subst z
      exact h (by simp)
    have e1 := (List.dropLast_concat_getLast vn).symm
    refine ⟨v.dropLast, u, v.getLast vn, by rw [← e1], ?_, ?_, .inr ⟨by rw [← e1], rfl⟩⟩
    · rcases pt with z | z | ⟨u', v', b, rfl, rfl⟩
      · exact .inl z
      · exact absurd z vn
      · exact .inr ⟨u', by simp⟩
    · have g := get_mid v.dropLast e (v.getLast vn)
      rw [← e1] at g
      rw [g]
end
section
variable {P : Program} {w : World} {K : PySem.W.Frag} {mg : Str → Option Value} {base : Heap}
theorem len_lastN (m : Nat) (bs : List Bool) : (lastN m bs).length ≤ m - 1 := by
  unfold lastN
  rw [List.length_drop]
  omega
abbrev s_difference : Stmt := top 54
abbrev N_difference : List Str := ["word", "other", "size", "one", "two", "longer"]
theorem sc_difference : FnScope N_difference ["word", "other", "size"] (defScope s_difference) := ⟨rfl, rfl, rfl, by decide +kernel, rfl, by decide +kernel, by decide +kernel⟩
def spDiff : Sp := fun vs H Q _ => ∃ (bs cs : List Bool) (m : Nat), vs = [.str (wd bs), .str (wd cs), .int (m : Nat)] ∧ bs.length ≤ 400 ∧ cs.length ≤ 400 ∧ 1 ≤ m ∧ m ≤ 12 ∧
  (lastN m bs = lastN m cs → ∀ H', Same H H' → Q .non H') ∧ (lastN m bs ≠ lastN m cs → ∀ (p : Addr) (H' : Hp), Same H H' → H p = none → H' p = some (.tup ((diffRow m bs cs).map V.int)) → Q (.ref p) H')
theorem ok_diff (D : Df K mg "difference" s_difference) (c_check_words : Cl P w K mg base 4 "check_words" s_check_words ["word", "other", "size"] spCWords) (c_shortest : Cl P w K mg base 4 "shortest" s_shortest ["word", "size"] spShortest)
    (c_telling_row : Cl P w K mg base 1 "telling_row" s_telling_row ["longer", "end", "size"] spTell) (c_common_end : Cl P w K mg base 2 "common_end" s_common_end ["word", "other"] spCommon) (m_len : mg "len" = none) :
    Cl P w K mg base 5 "difference" s_difference ["word", "other", "size"] spDiff := by
  refine D.ok sc_difference (fun _ _ _ _ _ _ us hl => match us, hl with | [_, _, _], _ => rfl) (fun vs H Q E h => ?_) (fun f cdv A outer s H vs Q E hr h => ?_)
  · obtain ⟨bs, cs, m, rfl, _⟩ := h
    rfl
  · obtain ⟨bs, cs, m, rfl, hb, hc, m0, m1, q0, q1⟩ := h
    refine ⟨_, 
      (pss_cons (ps_expr (pe_u c_check_words hr (by omega) (by rfl) (pa_cons (pv 0) (pa_cons (pv 1) (pa_cons (pv 2) pa_nil))))) 
      (pss_cons (ps_set (i := 3) sc_difference.nd rfl (Or.inl rfl) (pe_u c_shortest hr (by omega) (by rfl) (pa_cons (pv 0) (pa_cons (pv 2) pa_nil)))) 
      (pss_cons (ps_set (i := 4) sc_difference.nd rfl (Or.inl rfl) (pe_u c_shortest hr (by omega) (by rfl) (pa_cons (pv 1) (pa_cons (pv 2) pa_nil)))) 
      (pss_cons (ps_if (pt_cmpR op_eq (pv 3) (pv 4) (nomark _)) (pss_one (ps_ret pe_non)) pss_nil) 
      (pss_cons (ps_set (i := 5) sc_difference.nd rfl (Or.inl rfl) (pe_ifExp (pt_cmpR op_ge (pe_callB call_len_str (by rfl) m_len (by decide +kernel) (pa_cons (pv 3) pa_nil)) (pe_callB call_len_str (by rfl) m_len (by decide +kernel) (pa_cons (pv 4) pa_nil)) (nomark _)) (pv 3) (pv 4))) 
      (pss_one (ps_ret (pe_u c_telling_row hr (by omega) (by rfl) (pa_cons (pv 5) (pa_cons (pe_u c_common_end hr (by omega) (by rfl) (pa_cons (pv 3) (pa_cons (pv 4) pa_nil))) (pa_cons (pv 2) pa_nil))))))))))), ?_⟩
    refine ⟨_, rfl, _, rfl, _, rfl, bs, cs, m, rfl, hb, hc, m0, m1, fun H1 s1 => ?_⟩
    refine ⟨_, rfl, _, rfl, bs, m, rfl, hb, m0, m1, fun H2 s2 => ⟨_, rfl, _, rfl, cs, m, rfl, hc, m0, m1, fun H3 s3 => ?_⟩⟩
    have s03 := (s1.trans s2).trans s3
    refine ⟨_, rfl, _, rfl, rfl, _, rfl, ?_⟩
    rw [eqW]
    have sz : ∀ bs : List Bool, (wd (lastN m bs)).length ≤ sizeLine := fun bs => by
      rw [wd_len]
      have := len_lastN m bs
      exact Nat.le_of_lt (len_lt (by omega))
    have lb := len_lastN m bs
    have lc := len_lastN m cs
    by_cases h : lastN m bs = lastN m cs
    · rw [decide_eq_true h]
      exact iteT (q0 h _ s03)
    · rw [decide_eq_false h]
      refine iteF ⟨_, rfl, _, rfl, sz bs, _, rfl, _, rfl, sz cs, _, _, rfl, rfl, _, rfl, ?_⟩
      rw [wd_len, wd_len]
      by_cases hl : (lastN m cs).length ≤ (lastN m bs).length
      · rw [decide_eq_true (by omega)]
        refine iteT ⟨_, rfl, _, rfl, _, rfl, _, rfl, _, _, rfl, by omega, by omega, fun e u v ex ey pt => ?_⟩
        obtain ⟨u', v', c, e1, _, e3, _⟩ := diff_parts h ex ey pt
        rw [show longerOf (lastN m bs) (lastN m cs) = lastN m bs from if_pos hl] at e1
        have ll : (lastN m bs).length = u'.length + 1 + e.length := by
          rw [e1, List.length_append, List.length_append]
          rfl
        refine ⟨_, rfl, u', e, c, m, by rw [← e1]; rfl, by rw [← e1]; omega, by omega, m1, fun p H' sH np hp => ?_⟩
        rw [← e3] at hp
        exact q1 h p H' (s03.trans sH) (s03.free np) hp
      · rw [decide_eq_false (by omega)]
        refine iteF ⟨_, rfl, _, rfl, _, rfl, _, rfl, _, _, rfl, by omega, by omega, fun e u v ex ey pt => ?_⟩
        obtain ⟨u', v', c, e1, _, e3, _⟩ := diff_parts h ex ey pt
        rw [show longerOf (lastN m bs) (lastN m cs) = lastN m cs from if_neg hl] at e1
        have ll : (lastN m cs).length = u'.length + 1 + e.length := by
          rw [e1, List.length_append, List.length_append]
          rfl
        refine ⟨_, rfl, u', e, c, m, by rw [← e1]; rfl, by rw [← e1]; omega, by omega, m1, fun p H' sH np hp => ?_⟩
        rw [← e3] at hp
        exact q1 h p H' (s03.trans sH) (s03.free np) hp
/-- the row that is told is one of the heights 1 to size, and tells the words apart -/
theorem diff_tells {m : Nat} {bs cs : List Bool} (h : lastN m bs ≠ lastN m cs) : (diffRow m bs cs).Perm (rg 1 ((m : Nat) + 1)) ∧ afterL bs (diffRow m bs cs) ≠ afterL cs (diffRow m bs cs) := by
  obtain ⟨e, u, v, ex, ey, pt⟩ := parts (lastN m bs) (lastN m cs)
  obtain ⟨u', v', c, e1, hv, e3, alt⟩ := diff_parts h ex ey pt
  have lb := len_lastN m bs
  have lc := len_lastN m cs
  have le : e.length + 2 ≤ m := by
    rcases alt with ⟨a, _⟩ | ⟨a, _⟩
    · have := congrArg List.length a
      rw [List.length_append, List.length_append] at this
      have z : [c].length = 1 := rfl
      omega
    · have := congrArg List.length a
      rw [List.length_append, List.length_append] at this
      have z : [c].length = 1 := rfl
      omega
  have pm : (diffRow m bs cs).Perm (rg 1 ((m : Nat) + 1)) := by
    rw [e3]
    exact tellRow_perm (by omega)
  refine ⟨pm, ?_⟩
  have lm : (diffRow m bs cs).length = m := by
    rw [pm.length_eq, rg_len]
    omega
  rw [← after_lastN lm bs, ← after_lastN lm cs, e3]
  rcases alt with ⟨a, b⟩ | ⟨a, b⟩
  · rw [a, b]
    exact tell_apart le hv
  · rw [a, b]
    exact (tell_apart le hv).symm
end
section
variable {P : Program} {w : World} {K : PySem.W.Frag} {mg : Str → Option Value} {base : Heap}
/-! ### what is no word, no size, no number is told -/
/-- the exception with one field -/
def Flies (K : PySem.W.Frag) (E : XK) (C f : Str) (v : V) (H : Hp) : Prop := ∀ (d : Addr) (H' : Hp), Same H H' → H' d = some (.xd [(f, v)]) → E (.ref (He.ga K C)) (some d) H'
theorem Flies.from {E : XK} {C f : Str} {v : V} {H H1 : Hp} (h : Flies K E C f v H) (s : Same H H1) : Flies K E C f v H1 := fun d H' t => h d H' (s.trans t)
/-- the letter at a place is a kind -/
def ltB (z : Str) (i : Nat) : Bool := match z.cps[i]? with
  | some c => kindB ⟨#[c]⟩
  | none => true
inductive WdF (K : PySem.W.Frag) (H : Hp) : V → Option V → Prop
  | other {v : V} {T : String} : Tv K H v T → T ≠ "str" → WdF K H v (some .non)
  | long {z : Str} : 400 < z.length → z.length ≤ sizeLine → WdF K H (.str z) (some .non)
  | wrong {z : Str} {i : Nat} : z.length ≤ 400 → i < z.cps.size → ltB z i = false → (∀ j < i, ltB z j = true) → WdF K H (.str z) (some (.int (i : Nat)))
  | word {bs : List Bool} : bs.length ≤ 400 → WdF K H (.str (wd bs)) none
theorem WdF.same {H H' : Hp} {v : V} {f : Option V} (h : WdF K H v f) (s : Same H H') : WdF K H' v f := by
  cases h with
  | other t n => exact .other (t.same s) n
  | long a b => exact .long a b
  | wrong a b c d => exact .wrong a b c d
  | word a => exact .word a
def spMayW2 (K : PySem.W.Frag) : Sp := fun vs H Q _ => (∃ (v : V) (T : String), vs = [v] ∧ Tv K H v T ∧ T ≠ "str" ∧ Q (.bl false) H) ∨ spMayW vs H Q E0
theorem ok_mayw2 (D : Df K mg "may_be_word" s_may_be_word) (m_isinstance : mg "isinstance" = none) (m_str : mg "str" = none) (m_len : mg "len" = none) {tg : Tok} (g_MOST_LETTERS : mg "MOST_LETTERS" = some (.int 400 tg)) :
    Cl P w K mg base 1 "may_be_word" s_may_be_word ["value"] (spMayW2 K) := by
  refine D.ok sc_may_be_word (fun _ _ _ _ _ _ us hl => match us, hl with | [_], _ => rfl) (fun vs H Q E h => ?_) (fun f cdv A outer s H vs Q E hr h => ?_)
  · rcases h with ⟨v, T, rfl, _⟩ | ⟨z, rfl, _⟩ <;> rfl
  · refine ⟨_, 
      (pss_one (ps_ret (pe_and (pe_callB call_isi (by rfl) m_isinstance (by decide +kernel) (pa_cons (pv 0) (pa_cons (pe_bltn (v := .ty "str") (by rfl) m_str (by decide +kernel) rfl) pa_nil))) (pe_one (pe_cmpR op_le (pe_callB call_len_str (by rfl) m_len (by decide +kernel) (pa_cons (pv 0) pa_nil)) (pe_glob (v := .int 400) (by rfl) g_MOST_LETTERS ⟨_, rfl⟩) (nomark _)))))), ?_⟩
    rcases h with ⟨v, T, rfl, t, nt, q⟩ | ⟨z, rfl, sz, q⟩
    · refine ⟨_, rfl, v, .ty "str", .type T, .type "str", _, rfl, .ty _, t.ty, kit_str t.mem, _, rfl, ?_⟩
      rw [decide_eq_false nt]
      exact iteF q
    · refine ⟨_, rfl, .str z, .ty "str", .type "str", .type "str", _, rfl, .ty _, .base (.str _), kit_str (T := "str") (by decide), _, rfl, iteT ⟨_, rfl, _, rfl, sz, _, _, rfl, rfl, ?_⟩⟩
      show Q (.bl (decide ((z.length : Int) ≤ 400))) H
      rw [show decide ((z.length : Int) ≤ 400) = decide (z.length ≤ 400) from decide_eq_decide.mpr (by omega)]
      exact q
def spWrongL2 : Sp := fun vs H Q _ => ∃ z : Str, vs = [.str z] ∧ (∀ i : Nat, i < z.cps.size → ltB z i = false → (∀ j < i, ltB z j = true) → ∀ H', Same H H' → Q (.int (i : Nat)) H') ∧ ((∀ i, i < z.cps.size → ltB z i = true) → ∀ H', Same H H' → Q .non H')
theorem ok_wrongl2 (D : Df K mg "wrong_letter" s_wrong_letter) (c_is_kind : Cl P w K mg base 1 "is_kind" s_is_kind ["value"] (spIsKind K)) (m_enumerate : mg "enumerate" = none) :
    Cl P w K mg base 2 "wrong_letter" s_wrong_letter ["word"] spWrongL2 := by
  refine D.ok sc_wrong_letter (fun _ _ _ _ _ _ us hl => match us, hl with | [_], _ => rfl) (fun vs H Q E h => ?_) (fun f cdv A outer s H vs Q E hr h => ?_)
  · obtain ⟨z, rfl, _⟩ := h
    rfl
  · obtain ⟨z, rfl, q1, q2⟩ := h
    refine ⟨_, 
      (pss_cons (ps_for PassesOwn.never rfl (pi_enumS (by rfl) m_enumerate (pa_cons (pv 0) pa_nil)) (pg_tup (by rfl) (pgs_cons (pg_name (i := 1) sc_wrong_letter.nd rfl (Or.inl rfl)) (pgs_cons (pg_name (i := 2) sc_wrong_letter.nd rfl (Or.inl rfl)) pgs_nil))) (pss_one (ps_if (pt_not (pt_val (pe_u c_is_kind hr (by omega) (by rfl) (pa_cons (pv 2) pa_nil)))) (pss_one (ps_ret (pv 1))) pss_nil))) 
      (pss_one (ps_ret pe_non))), ?_⟩
    refine ⟨_, rfl, _, rfl, ?_⟩
    refine walk_enumS (fun i σ H2 => ∃ y1 y2 : Option V, σ = [some (.str z), y1, y2] ∧ Same H H2 ∧ ∀ j < i, ltB z j = true) ⟨none, none, rfl, Same.refl H, fun j hj => absurd hj (Nat.not_lt_zero j)⟩ (fun i c T σ H2 hc hI nT => ?_) (fun σ H2 hI => ?_)
    · obtain ⟨y1, y2, rfl, sm, oks⟩ := hI
      have lt : i < z.cps.size := by
        rw [Array.getElem?_eq_some_iff] at hc
        exact hc.1
      have e : ltB z i = kindB ⟨#[c]⟩ := by
        unfold ltB
        rw [hc]
      have smT := sm.trans (same_upd (o := .tup [.int (i : Nat), .str ⟨#[c]⟩]) nT)
      refine ⟨T, _, rfl, .inl (.inl upd_same), rfl, _, _, rfl, _, _, rfl, rfl, _, rfl, .inr ⟨_, rfl, _, rfl, ?_⟩⟩
      cases hk : kindB ⟨#[c]⟩ with
      | true =>
        rw [hk] at e
        refine iteF ⟨_, _, rfl, smT, fun j hj => ?_⟩
        rcases Nat.lt_succ_iff_lt_or_eq.mp hj with y | y
        · exact oks j y
        · rw [y, e]
      | false =>
        rw [hk] at e
        exact iteT ⟨_, rfl, q1 i lt e oks _ smT⟩
    · obtain ⟨y1, y2, rfl, sm, oks⟩ := hI
      exact q2 oks _ sm
def spCheckWordX (K : PySem.W.Frag) : Sp := fun vs H Q E => ∃ (v : V) (f : Option V), vs = [v] ∧ WdF K H v f ∧ (f = none → ∀ H', Same H H' → Q .non H') ∧ ∀ x, f = some x → Flies K E "InvalidWord" "index" x H
theorem ok_check_wordX (D : Df K mg "check_word" s_check_word) (ec_InvalidWord : EC P w K mg base "InvalidWord" "index") (c_may_be_word : Cl P w K mg base 1 "may_be_word" s_may_be_word ["value"] (spMayW2 K)) (c_wrong_letter : Cl P w K mg base 2 "wrong_letter" s_wrong_letter ["word"] spWrongL2) :
    ClX P w K mg base 3 "check_word" s_check_word ["word"] (spCheckWordX K) := by
  refine D.okX sc_check_word (fun _ _ _ _ _ _ us hl => match us, hl with | [_], _ => rfl) (fun vs H Q E h => ?_) (fun f cdv A outer s H vs Q E hr h => ?_)
  · obtain ⟨v, f, rfl, _⟩ := h
    rfl
  · obtain ⟨v, f, rfl, hv, q, qe⟩ := h
    refine ⟨_, 
      (pss_cons (ps_if (pt_not (pt_val (pe_u c_may_be_word hr (by omega) (by rfl) (pa_cons (pv 0) pa_nil)))) (pss_one (ps_raise rfl takesD (pmk_e ec_InvalidWord hr (by omega) (by rfl) (pa_cons pe_non pa_nil)))) pss_nil) 
      (pss_cons (ps_set (i := 1) sc_check_word.nd rfl (Or.inl rfl) (pe_u c_wrong_letter hr (by omega) (by rfl) (pa_cons (pv 0) pa_nil))) 
      (pss_one (ps_if (pt_cmpR op_notN (pv 1) pe_non (nomark _)) (pss_one (ps_raise rfl takesD (pmk_e ec_InvalidWord hr (by omega) (by rfl) (pa_cons (pv 1) pa_nil)))) pss_nil)))), ?_⟩
    cases hv with
    | @other v T t hn => exact ⟨_, rfl, .inl ⟨v, T, rfl, t, hn, _, rfl, iteT ⟨_, rfl, fun d nd => qe _ rfl d _ (same_upd nd) upd_same⟩⟩⟩
    | @long z h1 h2 =>
      refine ⟨_, rfl, .inr ⟨z, rfl, h2, _, rfl, ?_⟩⟩
      rw [decide_eq_false (by omega)]
      exact iteT ⟨_, rfl, fun d nd => qe _ rfl d _ (same_upd nd) upd_same⟩
    | @wrong z i h1 h2 h3 h4 =>
      refine ⟨_, rfl, .inr ⟨z, rfl, Nat.le_of_lt (len_lt (by omega)), _, rfl, ?_⟩⟩
      rw [decide_eq_true h1]
      refine iteF ⟨_, rfl, z, rfl, fun j lj oj hj H' sm => ?_, fun ha => ?_⟩
      · have e : j = i := by
          rcases Nat.lt_trichotomy i j with y | y | y
          · rw [hj i y] at h3
            cases h3
          · exact y.symm
          · rw [h4 j y] at oj
            cases oj
        subst e
        refine ⟨_, rfl, rfl, _, rfl, ?_⟩
        exact iteT ⟨_, rfl, _, rfl, fun d nd => qe _ rfl d _ (sm.trans (same_upd nd)) upd_same⟩
      · rw [ha i h2] at h3
        cases h3
    | @word bs hb =>
      refine ⟨_, rfl, .inr ⟨wd bs, rfl, by rw [wd_len]; exact Nat.le_of_lt (len_lt (by omega)), _, rfl, ?_⟩⟩
      rw [decide_eq_true (by rw [wd_len]; omega)]
      have all : ∀ i, i < (wd bs).cps.size → ltB (wd bs) i = true := fun i hi => by
        unfold ltB
        rw [Array.getElem?_eq_getElem hi]
        obtain ⟨b, _, e⟩ := wd_get (Array.getElem?_eq_getElem hi)
        show kindB ⟨#[(wd bs).cps[i]]⟩ = true
        rw [show (⟨#[(wd bs).cps[i]]⟩ : Str) = ltr b from by rw [e]]
        exact kindB_ltr _
      refine iteF ⟨_, rfl, _, rfl, fun i hi hf => ?_, fun _ H' sm => ?_⟩
      · rw [all i hi] at hf
        cases hf
      · refine ⟨_, rfl, rfl, _, rfl, ?_⟩
        rw [decide_eq_true rfl]
        exact iteF (q rfl H' sm)
def spSizeX (K : PySem.W.Frag) : Sp := fun vs H Q E => ∃ (v : V) (T : String), vs = [v] ∧ Tv K H v T ∧ (wholeB v 1 12 = true → Q .non H) ∧ (wholeB v 1 12 = false → Flies K E "InvalidSize" "size" v H)
theorem ok_sizeX (D : Df K mg "check_size" s_check_size) (ec_InvalidSize : EC P w K mg base "InvalidSize" "size") (c_is_whole_from : Cl P w K mg base 2 "is_whole_from" s_is_whole_from ["value", "least", "greatest"] (spFrom K)) {tg : Tok} (g_MOST_PEOPLE : mg "MOST_PEOPLE" = some (.int 12 tg)) :
    ClX P w K mg base 3 "check_size" s_check_size ["size"] (spSizeX K) := by
  refine D.okX sc_check_size (fun _ _ _ _ _ _ us hl => match us, hl with | [_], _ => rfl) (fun vs H Q E h => ?_) (fun f cdv A outer s H vs Q E hr h => ?_)
  · obtain ⟨v, T, rfl, _⟩ := h
    rfl
  · obtain ⟨v, T, rfl, t, q, qe⟩ := h
    refine ⟨_, 
      (pss_one (ps_if (pt_not (pt_val (pe_u c_is_whole_from hr (by omega) (by rfl) (pa_cons (pv 0) (pa_cons pe_int (pa_cons (pe_glob (v := .int 12) (by rfl) g_MOST_PEOPLE ⟨_, rfl⟩) pa_nil)))))) (pss_one (ps_raise rfl takesD (pmk_e ec_InvalidSize hr (by omega) (by rfl) (pa_cons (pv 0) pa_nil)))) pss_nil)), ?_⟩
    refine ⟨_, rfl, v, T, 1, 12, rfl, t, _, rfl, ?_⟩
    by_cases e : wholeB v 1 12 = true
    · rw [e]
      exact iteF (q e)
    · have e2 : wholeB v 1 12 = false := Bool.eq_false_iff.mpr e
      rw [e2]
      exact iteT ⟨_, rfl, _, rfl, fun d nd => qe e2 d _ (same_upd nd) upd_same⟩
def spNumX (K : PySem.W.Frag) : Sp := fun vs H Q E => ∃ (v : V) (T : String) (lo hi : Int), vs = [v, .int lo, .int hi] ∧ Tv K H v T ∧ (wholeB v lo hi = true → Q .non H) ∧ (wholeB v lo hi = false → Flies K E "InvalidNumber" "number" v H)
theorem ok_numX (D : Df K mg "check_number" s_check_number) (ec_InvalidNumber : EC P w K mg base "InvalidNumber" "number") (c_is_whole_from : Cl P w K mg base 2 "is_whole_from" s_is_whole_from ["value", "least", "greatest"] (spFrom K)) :
    ClX P w K mg base 3 "check_number" s_check_number ["number", "least", "greatest"] (spNumX K) := by
  refine D.okX sc_check_number (fun _ _ _ _ _ _ us hl => match us, hl with | [_, _, _], _ => rfl) (fun vs H Q E h => ?_) (fun f cdv A outer s H vs Q E hr h => ?_)
  · obtain ⟨v, T, lo, hi, rfl, _⟩ := h
    rfl
  · obtain ⟨v, T, lo, hi, rfl, t, q, qe⟩ := h
    refine ⟨_, 
      (pss_one (ps_if (pt_not (pt_val (pe_u c_is_whole_from hr (by omega) (by rfl) (pa_cons (pv 0) (pa_cons (pv 1) (pa_cons (pv 2) pa_nil)))))) (pss_one (ps_raise rfl takesD (pmk_e ec_InvalidNumber hr (by omega) (by rfl) (pa_cons (pv 0) pa_nil)))) pss_nil)), ?_⟩
    refine ⟨_, rfl, _, rfl, _, rfl, v, T, lo, hi, rfl, t, _, rfl, ?_⟩
    by_cases e : wholeB v lo hi = true
    · rw [e]
      exact iteF (q e)
    · have e2 : wholeB v lo hi = false := Bool.eq_false_iff.mpr e
      rw [e2]
      exact iteT ⟨_, rfl, _, rfl, fun d nd => qe e2 d _ (same_upd nd) upd_same⟩
end
section
variable {P : Program} {w : World} {K : PySem.W.Frag} {mg : Str → Option Value} {base : Heap}
/-! ### words that forget the row -/
abbrev s_is_constant : Stmt := top 55
abbrev N_is_constant : List Str := ["word", "size"]
theorem sc_is_constant : FnScope N_is_constant ["word", "size"] (defScope s_is_constant) := ⟨rfl, rfl, rfl, by decide +kernel, rfl, by decide +kernel, by decide +kernel⟩
def spConst : Sp := fun vs H Q _ => ∃ (bs : List Bool) (m : Nat), vs = [.str (wd bs), .int (m : Nat)] ∧ bs.length ≤ 400 ∧ 1 ≤ m ∧ m ≤ 12 ∧ ∀ H', Same H H' → Q (.bl (decide (m ≤ bs.length + 1))) H'
theorem ok_const (D : Df K mg "is_constant" s_is_constant) (c_check_word : Cl P w K mg base 3 "check_word" s_check_word ["word"] spCheckWord) (c_check_size : Cl P w K mg base 3 "check_size" s_check_size ["size"] spSize) (m_len : mg "len" = none) :
    Cl P w K mg base 4 "is_constant" s_is_constant ["word", "size"] spConst := by
  refine D.ok sc_is_constant (fun _ _ _ _ _ _ us hl => match us, hl with | [_, _], _ => rfl) (fun vs H Q E h => ?_) (fun f cdv A outer s H vs Q E hr h => ?_)
  · obtain ⟨bs, m, rfl, _⟩ := h
    rfl
  · obtain ⟨bs, m, rfl, hl, m0, m1, q⟩ := h
    refine ⟨_, 
      (pss_cons (ps_expr (pe_u c_check_word hr (by omega) (by rfl) (pa_cons (pv 0) pa_nil))) 
      (pss_cons (ps_expr (pe_u c_check_size hr (by omega) (by rfl) (pa_cons (pv 1) pa_nil))) 
      (pss_one (ps_ret (pe_cmpR op_ge (pe_callB call_len_str (by rfl) m_len (by decide +kernel) (pa_cons (pv 0) pa_nil)) (pe_op op_sub (pv 1) pe_int) (nomark _)))))), ?_⟩
    refine ⟨_, rfl, bs, rfl, hl, fun H1 s1 => ⟨_, rfl, _, rfl, by omega, by omega, ?_⟩⟩
    refine ⟨_, rfl, _, rfl, (by rw [wd_len]; exact Nat.le_of_lt (len_lt (by omega))), _, rfl, _, _, rfl, rfl, _, _, rfl, rfl, ?_⟩
    have e : decide ((((wd bs).length : Nat) : Int) ≥ ((m : Nat) : Int) - 1) = decide (m ≤ bs.length + 1) := decide_eq_decide.mpr (by rw [wd_len]; omega)
    have q2 := q _ s1
    rw [← e] at q2
    exact q2
end
section
/-! ### words and their numbers -/
def nmS (n : Nat) (b : Bool) : Nat := 2 * n + (if b then 1 else 0) + 1
def nm (w : List Bool) : Nat := w.foldl nmS 0
theorem nm_snoc (w : List Bool) (b : Bool) : nm (w ++ [b]) = nmS (nm w) b := by
  unfold nm
  rw [List.foldl_append]
  rfl
theorem nm_lt : ∀ (n : Nat) (w : List Bool), w.length = n → nm w + 2 ≤ 2 ^ (n + 1)
  | 0, w, h => by
    rw [List.length_eq_zero_iff.mp h]
    decide
  | n + 1, w, h => by
    obtain ⟨v, b, rfl⟩ := snoc_of (show 1 ≤ w.length by omega)
    rw [List.length_append, List.length_singleton] at h
    have ih := nm_lt n v (by omega)
    rw [nm_snoc, Nat.pow_succ]
    unfold nmS
    split <;> omega
theorem nm_pos {w : List Bool} (h : w ≠ []) : 0 < nm w := by
  obtain ⟨v, b, rfl⟩ := snoc_of (List.length_pos_iff.mpr h)
  rw [nm_snoc]
  unfold nmS
  omega
end
section
variable {P : Program} {w : World} {K : PySem.W.Frag} {mg : Str → Option Value} {base : Heap}
abbrev wV (u : List Bool) : V := .str (wd u)
theorem joinOk_ltr {bs : List Bool} (h : bs.length ≤ 1000) : JoinOk (Str.ofString "") (bs.map ltr) = true := by
  have e : ∀ (l : List Bool) (acc : Nat), (l.map ltr).foldl (fun a (z : Str) => a + z.length + (Str.ofString "").length) acc = acc + l.length := fun l => by
    induction l with
    | nil => intro acc; rfl
    | cons b l ih =>
      intro acc
      rw [List.map_cons, List.foldl_cons, ih, List.length_cons, show (Str.ofString "").length = 0 by decide +kernel]
      show acc + 1 + 0 + l.length = _
      omega
  have e2 : ((bs.map ltr).toArray.foldl (fun a (z : Str) => a + z.length + (Str.ofString "").length) 0) = bs.length := by
    have := e bs 0
    rw [Nat.zero_add] at this
    rw [← this]
    simp
  unfold JoinOk
  rw [Bool.not_eq_true', e2]
  unfold Builtin.Str.tooLong
  exact decide_eq_false (by rw [Nat.not_lt]; exact Nat.le_trans h (by decide))
abbrev s_word_count : Stmt := top 56
abbrev N_word_count : List Str := ["size"]
theorem sc_word_count : FnScope N_word_count ["size"] (defScope s_word_count) := ⟨rfl, rfl, rfl, by decide +kernel, rfl, by decide +kernel, by decide +kernel⟩
def spWc : Sp := fun vs H Q _ => ∃ m : Nat, vs = [.int (m : Nat)] ∧ 1 ≤ m ∧ m ≤ 12 ∧ Q (.int ((2 : Int) ^ m - 1)) H
theorem ok_wc (D : Df K mg "word_count" s_word_count) (c_check_size : Cl P w K mg base 3 "check_size" s_check_size ["size"] spSize) : Cl P w K mg base 4 "word_count" s_word_count ["size"] spWc := by
  refine D.ok sc_word_count (fun _ _ _ _ _ _ us hl => match us, hl with | [_], _ => rfl) (fun vs H Q E h => ?_) (fun f cdv A outer s H vs Q E hr h => ?_)
  · obtain ⟨m, rfl, _⟩ := h
    rfl
  · obtain ⟨m, rfl, m1, m2, q⟩ := h
    refine ⟨_, 
      (pss_cons (ps_expr (pe_u c_check_size hr (by omega) (by rfl) (pa_cons (pv 0) pa_nil))) 
      (pss_one (ps_ret (pe_op op_sub (pe_op op_oneShl pe_int (pv 0)) pe_int)))), ?_⟩
    refine ⟨_, rfl, _, rfl, by omega, by omega, ?_⟩
    exact ⟨_, rfl, m, rfl, rfl, by omega, _, _, rfl, rfl, q⟩
theorem pow_cast (m : Nat) : ((2 : Int) ^ m) = ((2 ^ m : Nat) : Int) := by rw [Int.natCast_pow]; rfl
abbrev s_word_at : Stmt := top 57
abbrev N_word_at : List Str := ["size", "number", "letters", "rest"]
theorem sc_word_at : FnScope N_word_at ["size", "number"] (defScope s_word_at) := ⟨rfl, rfl, rfl, by decide +kernel, rfl, by decide +kernel, by decide +kernel⟩
def spWat (K : PySem.W.Frag) : Sp := fun vs H Q _ => ∃ (m : Nat) (u : List Bool), vs = [.int (m : Nat), .int ((nm u : Nat) : Int)] ∧ m ≤ 12 ∧ u.length + 1 ≤ m ∧ ∀ H', Same H H' → Q (wV u) H'
theorem ok_wat (D : Df K mg "word_at" s_word_at) (c_check_number : Cl P w K mg base 3 "check_number" s_check_number ["number", "least", "greatest"] spNum) (c_word_count : Cl P w K mg base 4 "word_count" s_word_count ["size"] spWc)
    (m_reversed : mg "reversed" = none) {a_KINDS : Addr} (g_KINDS : mg "KINDS" = some (.ref a_KINDS)) (hK : ∀ H : Hp, SqT K H a_KINDS [.str (ltr false), .str (ltr true)]) : Cl P w K mg base 5 "word_at" s_word_at ["size", "number"] (spWat K) := by
  refine D.ok sc_word_at (fun _ _ _ _ _ _ us hl => match us, hl with | [_, _], _ => rfl) (fun vs H Q E h => ?_) (fun f cdv A outer s H vs Q E hr h => ?_)
  · obtain ⟨m, u, rfl, _⟩ := h
    rfl
  · obtain ⟨m, u, rfl, m2, ul, q⟩ := h
    have nl := nm_lt u.length u rfl
    have pw : 2 ^ (u.length + 1) ≤ 2 ^ m := Nat.pow_le_pow_right (by decide) ul
    refine ⟨_, 
      (pss_cons (ps_expr (pe_u c_check_number hr (by omega) (by rfl) (pa_cons (pv 1) (pa_cons pe_int (pa_cons (pe_op op_sub (pe_u c_word_count hr (by omega) (by rfl) (pa_cons (pv 0) pa_nil)) pe_int) pa_nil))))) 
      (pss_cons (ps_set (i := 2) sc_word_at.nd rfl (Or.inl rfl) (pe_lst pa_nil)) 
      (pss_cons (ps_set (i := 3) sc_word_at.nd rfl (Or.inl rfl) (pv 1)) 
      (pss_cons (ps_while PassesOwn.never (pt_cmpR op_gt (pv 3) pe_int (nomark _)) (pss_cons (ps_aug (i := 3) sc_word_at.nd rfl (Or.inl rfl) pe_int ip_sub) (pss_cons (ps_expr (pe_bm PySem.F.plainAttrs_list PySem.F.slot_list_append PySem.F.type_list_append mt_append (pv 2) (pa_cons (pe_ix ix_tup (pe_glob (v := .ref a_KINDS) (by rfl) g_KINDS rfl) (pe_op op_and (pv 3) pe_int) (fun _ _ => rfl)) pa_nil))) (pss_one (ps_aug (i := 3) sc_word_at.nd rfl (Or.inl rfl) pe_int iop_fdiv))))) 
      (pss_one (ps_ret (pe_joinBack rfl (by rfl) m_reversed pe_str (pv 2)))))))), ?_⟩
    refine ⟨_, rfl, _, rfl, m, rfl, by omega, m2, _, _, rfl, rfl, _, 0, _, rfl, by omega, ?_, ?_⟩
    · show ((nm u : Nat) : Int) ≤ (2 : Int) ^ m - 1 - 1
      rw [pow_cast]
      omega
    refine ⟨Nat.zero_le _, fun l nl2 => ⟨_, rfl, ?_⟩⟩
    refine while_by (fun σ G => ∃ (v done : List Bool), σ = [some (.int (m : Nat)), some (.int ((nm u : Nat) : Int)), some (.ref l), some (.int ((nm v : Nat) : Int))] ∧ u = v ++ done ∧ Same H G ∧ G l = some (.lst ((done.reverse.map ltr).map V.str)))
      (fun σ _ => match σ with | [_, _, _, some (.int i)] => i.toNat | _ => 0) ⟨u, [], rfl, (List.append_nil u).symm, same_upd nl2, upd_same⟩ (fun σ G hI => ?_) (fun σ G Q1 Q2 hq hc => ?_)
    · obtain ⟨v, done, rfl, e, sm, hl⟩ := hI
      have dl : done.length ≤ 12 := by
        have := congrArg List.length e
        rw [List.length_append] at this
        omega
      refine ⟨_, rfl, _, _, rfl, rfl, _, rfl, ?_⟩
      by_cases hv : v = []
      · subst hv
        rw [decide_eq_false (by show ¬ (0 : Int) < ((nm [] : Nat) : Int); decide)]
        refine iteF ⟨_, rfl, _, rfl, l, done.reverse.map ltr, rfl, .inl (.inl hl), ?_, ?_⟩
        · rw [← List.map_reverse, List.reverse_reverse]
          exact joinOk_ltr (by omega)
        · rw [← List.map_reverse, List.reverse_reverse, join_wd]
          rw [List.nil_append] at e
          rw [← e]
          exact q _ sm
      · have np := nm_pos hv
        obtain ⟨v2, b, rfl⟩ := snoc_of (List.length_pos_iff.mpr hv)
        rw [decide_eq_true (by omega)]
        have en := nm_snoc v2 b
        have e1 : ((nm (v2 ++ [b]) : Nat) : Int) - 1 = 2 * ((nm v2 : Nat) : Int) + (if b then 1 else 0) := by
          rw [en]
          unfold nmS
          cases b <;> simp <;> omega
        refine iteT ⟨_, rfl, _, _, rfl, rfl, ?_⟩
        refine ⟨_, rfl, .inl ⟨rfl, _, .inl (.inl hl)⟩, _, rfl, _, _, rfl, rfl, ?_⟩
        refine ⟨a_KINDS, _, _, .str (ltr b), rfl, rfl, hK _, ?_, l, _, _, rfl, rfl, hl, ?_, ?_⟩
        · have e2 : (2 * ((nm v2 : Nat) : Int) + (if b then 1 else 0)) % 2 = (if b then 1 else 0) := by
            cases b <;> simp <;> omega
          show atI [V.str (ltr false), V.str (ltr true)] (Builtin.bitAnd (((nm (v2 ++ [b]) : Nat) : Int) - 1) 1) = _
          rw [e1, bitAnd_m1, e2]
          cases b <;> rfl
        · rw [List.length_map, List.length_map, List.length_reverse]
          exact len_lt (by omega)
        · refine ⟨_, rfl, _, _, rfl, rfl, ⟨by decide, by decide⟩, ?_⟩
          have e3 : (((nm (v2 ++ [b]) : Nat) : Int) - 1) / 2 = ((nm v2 : Nat) : Int) := by
            rw [e1]
            cases b <;> simp <;> omega
          refine ⟨⟨v2, b :: done, ?_, ?_, fun x o ex => ?_, ?_⟩, ?_⟩
          · exact congrArg (fun z : Int => [some (V.int (m : Nat)), some (V.int ((nm u : Nat) : Int)), some (V.ref l), some (V.int z)]) e3
          · rw [e, List.append_assoc]
            rfl
          · rw [upd_ne (ne_of_none ex nl2)]
            exact sm x o ex
          · rw [upd_same, List.reverse_cons, List.map_append, List.map_append]
            rfl
          · show ((((nm (v2 ++ [b]) : Nat) : Int) - 1) / 2).toNat < (((nm (v2 ++ [b]) : Nat) : Int)).toNat
            rw [e3, en]
            unfold nmS
            omega
    · obtain ⟨v, hv, i, j, e1, e2, k, ek, r⟩ := hc
      exact ⟨v, hv, i, j, e1, e2, k, ek, hq _ _ r⟩
end
section
variable {P : Program} {w : World} {K : PySem.W.Frag} {mg : Str → Option Value} {base : Heap}
abbrev s_number_of : Stmt := top 58
abbrev N_number_of : List Str := ["word", "size", "number", "letter"]
theorem sc_number_of : FnScope N_number_of ["word", "size"] (defScope s_number_of) := ⟨rfl, rfl, rfl, by decide +kernel, rfl, by decide +kernel, by decide +kernel⟩
def spNo : Sp := fun vs H Q _ => ∃ (u : List Bool) (m : Nat), vs = [wV u, .int (m : Nat)] ∧ u.length ≤ 400 ∧ 1 ≤ m ∧ m ≤ 12 ∧ ∀ H', Same H H' → Q (.int ((nm (lastN m u) : Nat) : Int)) H'
theorem ok_numof (D : Df K mg "number_of" s_number_of) (c_shortest : Cl P w K mg base 4 "shortest" s_shortest ["word", "size"] spShortest)
    {a_KINDS : Addr} (g_KINDS : mg "KINDS" = some (.ref a_KINDS)) (hK : ∀ H : Hp, SqT K H a_KINDS [.str (ltr false), .str (ltr true)]) (hN : ∃ o, K.lookup a_KINDS = some o ∧ o.cls = .type "tuple" ∧ o.dict = none) : Cl P w K mg base 5 "number_of" s_number_of ["word", "size"] spNo := by
  refine D.ok sc_number_of (fun _ _ _ _ _ _ us hl => match us, hl with | [_, _], _ => rfl) (fun vs H Q E h => ?_) (fun f cdv A outer s H vs Q E hr h => ?_)
  · obtain ⟨u, m, rfl, _⟩ := h
    rfl
  · obtain ⟨u, m, rfl, ul, m1, m2, q⟩ := h
    refine ⟨_, 
      (pss_cons (ps_set (i := 2) sc_number_of.nd rfl (Or.inl rfl) pe_int) 
      (pss_cons (ps_for PassesOwn.never rfl (pi_str (pe_u c_shortest hr (by omega) (by rfl) (pa_cons (pv 0) (pa_cons (pv 1) pa_nil)))) (pg_name (i := 3) sc_number_of.nd rfl (Or.inl rfl)) (pss_one (ps_set (i := 2) sc_number_of.nd rfl (Or.inl rfl) (pe_op op_add (pe_op op_add (pe_op op_mul pe_int (pv 2)) (pe_bm PySem.F.plainAttrs_tuple PySem.F.slot_tuple_index PySem.F.type_tuple_index mt_tup_index (pe_glob (v := .ref a_KINDS) (by rfl) g_KINDS rfl) (pa_cons (pv 3) pa_nil))) pe_int)))) 
      (pss_one (ps_ret (pv 2))))), ?_⟩
    refine ⟨_, rfl, _, rfl, u, m, rfl, ul, m1, m2, fun H1 s1 => ?_⟩
    have ll := lastN_len m u
    generalize lastN m u = v at q ll
    refine ⟨_, rfl, ?_⟩
    refine for_it walk_str (fun i σ G => ∃ y : Option V, σ = [some (wV u), some (.int (m : Nat)), some (.int ((nm (v.take i) : Nat) : Int)), y] ∧ G = H1)
      ⟨none, rfl, rfl⟩ (fun _ _ _ _ _ => trivial) (fun i x σ G G' hi hI hv => ?_) (fun σ G hI => ?_)
    · obtain ⟨y, rfl, rfl⟩ := hI
      obtain ⟨rfl, c, hc, rfl⟩ := hv
      obtain ⟨b, hb, rfl⟩ := wd_get hc
      refine ⟨_, rfl, _, _, rfl, rfl, .inl ⟨by decide, by decide⟩, .inr (.inl ⟨rfl, hN⟩), _, rfl, a_KINDS, [ltr false, ltr true], ltr b, if b then 1 else 0, rfl, rfl, hK _, ?_, fun j hj => ?_, ?_⟩
      · cases b <;> rfl
      · cases b with
        | false => exact absurd hj (Nat.not_lt_zero j)
        | true =>
          have j0 : j = 0 := Nat.lt_one_iff.mp hj
          subst j0
          intro z
          exact absurd (ltr_inj (Option.some.inj z)) (by decide)
      refine ⟨_, _, rfl, rfl, _, _, rfl, rfl, some (.str (ltr b)), ?_, rfl⟩
      have e : 2 * ((nm (v.take i) : Nat) : Int) + (((if b then 1 else 0) : Nat) : Int) + 1 = ((nm (v.take (i + 1)) : Nat) : Int) := by
        have tk : v.take (i + 1) = v.take i ++ [b] := by
          rw [List.take_add_one, hb]
          rfl
        rw [tk, nm_snoc]
        unfold nmS
        cases b <;> simp
      exact congrArg (fun z : Int => [some (wV u), some (V.int (m : Nat)), some (V.int z), some (V.str (ltr b))]) e
    · obtain ⟨y, rfl, rfl⟩ := hI
      have et : v.take (wd v).cps.size = v := List.take_of_length_le (Nat.le_of_eq (wd_len v).symm)
      rw [et]
      exact ⟨_, rfl, q _ s1⟩
end
section
variable {P : Program} {w : World} {K : PySem.W.Frag} {mg : Str → Option Value} {base : Heap}
/-! ### the same defs on what is no word, no size, no number -/
/-- word, size: one of them is wrong -/
def spWS (K : PySem.W.Frag) : Sp := fun vs H Q E => ∃ (v0 v1 : V) (fo : Option V) (T : String), vs = [v0, v1] ∧ WdF K H v0 fo ∧ Tv K H v1 T ∧ (fo = none → wholeB v1 1 12 = true → False) ∧ (∀ x, fo = some x → Flies K E "InvalidWord" "index" x H) ∧ (fo = none → wholeB v1 1 12 = false → Flies K E "InvalidSize" "size" v1 H)
theorem ok_shortestX (D : Df K mg "shortest" s_shortest) (c_check_word : ClX P w K mg base 3 "check_word" s_check_word ["word"] (spCheckWordX K)) (c_check_size : ClX P w K mg base 3 "check_size" s_check_size ["size"] (spSizeX K)) (c_last_letters : Cl P w K mg base 1 "last_letters" s_last_letters ["word", "most"] spLastL) :
    ClX P w K mg base 4 "shortest" s_shortest ["word", "size"] (spWS K) := by
  refine D.okX sc_shortest (fun _ _ _ _ _ _ us hl => match us, hl with | [_, _], _ => rfl) (fun vs H Q E h => ?_) (fun f cdv A outer s H vs Q E hr h => ?_)
  · obtain ⟨v0, v1, fo, T, rfl, _⟩ := h
    rfl
  · obtain ⟨v0, v1, fo, T, rfl, h0, t1, no, qw, qs⟩ := h
    refine ⟨_, 
      (pss_cons (ps_expr (pe_x c_check_word takesD hr (by omega) (by rfl) (pa_cons (pv 0) pa_nil))) 
      (pss_cons (ps_expr (pe_x c_check_size takesD hr (by omega) (by rfl) (pa_cons (pv 1) pa_nil))) (PSs.nox 
      (pss_one (ps_ret (pe_u c_last_letters hr (by omega) (by rfl) (pa_cons (pv 0) (pa_cons (pe_op op_sub (pv 1) pe_int) pa_nil)))))))), ?_⟩
    refine ⟨_, rfl, v0, fo, rfl, h0, fun e0 H1 s1 => ?_, fun x hx => qw x hx⟩
    exact ⟨_, rfl, v1, T, rfl, t1.same s1, fun e1 => (no e0 e1).elim, fun e1 => (qs e0 e1).from s1⟩
theorem ok_constX (D : Df K mg "is_constant" s_is_constant) (c_check_word : ClX P w K mg base 3 "check_word" s_check_word ["word"] (spCheckWordX K)) (c_check_size : ClX P w K mg base 3 "check_size" s_check_size ["size"] (spSizeX K)) (m_len : mg "len" = none) :
    ClX P w K mg base 4 "is_constant" s_is_constant ["word", "size"] (spWS K) := by
  refine D.okX sc_is_constant (fun _ _ _ _ _ _ us hl => match us, hl with | [_, _], _ => rfl) (fun vs H Q E h => ?_) (fun f cdv A outer s H vs Q E hr h => ?_)
  · obtain ⟨v0, v1, fo, T, rfl, _⟩ := h
    rfl
  · obtain ⟨v0, v1, fo, T, rfl, h0, t1, no, qw, qs⟩ := h
    refine ⟨_, 
      (pss_cons (ps_expr (pe_x c_check_word takesD hr (by omega) (by rfl) (pa_cons (pv 0) pa_nil))) 
      (pss_cons (ps_expr (pe_x c_check_size takesD hr (by omega) (by rfl) (pa_cons (pv 1) pa_nil))) (PSs.nox 
      (pss_one (ps_ret (pe_cmpR op_ge (pe_callB call_len_str (by rfl) m_len (by decide +kernel) (pa_cons (pv 0) pa_nil)) (pe_op op_sub (pv 1) pe_int) (nomark _))))))), ?_⟩
    refine ⟨_, rfl, v0, fo, rfl, h0, fun e0 H1 s1 => ?_, fun x hx => qw x hx⟩
    exact ⟨_, rfl, v1, T, rfl, t1.same s1, fun e1 => (no e0 e1).elim, fun e1 => (qs e0 e1).from s1⟩
/-- two words, size: one of them is wrong -/
def spWWS (K : PySem.W.Frag) : Sp := fun vs H Q E => ∃ (v0 v1 v2 : V) (f0 f1 : Option V) (T : String), vs = [v0, v1, v2] ∧ WdF K H v0 f0 ∧ WdF K H v1 f1 ∧ Tv K H v2 T ∧ (f0 = none → f1 = none → wholeB v2 1 12 = true → False) ∧ (∀ x, f0 = some x → Flies K E "InvalidWord" "index" x H) ∧ (f0 = none → ∀ x, f1 = some x → Flies K E "InvalidWord" "index" x H) ∧ (f0 = none → f1 = none → wholeB v2 1 12 = false → Flies K E "InvalidSize" "size" v2 H)
theorem ok_cwordsX (D : Df K mg "check_words" s_check_words) (c_check_word : ClX P w K mg base 3 "check_word" s_check_word ["word"] (spCheckWordX K)) (c_check_size : ClX P w K mg base 3 "check_size" s_check_size ["size"] (spSizeX K)) :
    ClX P w K mg base 4 "check_words" s_check_words ["word", "other", "size"] (spWWS K) := by
  refine D.okX sc_check_words (fun _ _ _ _ _ _ us hl => match us, hl with | [_, _, _], _ => rfl) (fun vs H Q E h => ?_) (fun f cdv A outer s H vs Q E hr h => ?_)
  · obtain ⟨v0, v1, v2, f0, f1, T, rfl, _⟩ := h
    rfl
  · obtain ⟨v0, v1, v2, f0, f1, T, rfl, h0, h1, t2, no, q0, q1, qs⟩ := h
    refine ⟨_, 
      (pss_cons (ps_expr (pe_x c_check_word takesD hr (by omega) (by rfl) (pa_cons (pv 0) pa_nil))) 
      (pss_cons (ps_expr (pe_x c_check_word takesD hr (by omega) (by rfl) (pa_cons (pv 1) pa_nil))) 
      (pss_one (ps_expr (pe_x c_check_size takesD hr (by omega) (by rfl) (pa_cons (pv 2) pa_nil)))))), ?_⟩
    refine ⟨_, rfl, v0, f0, rfl, h0, fun e0 H1 s1 => ?_, fun x hx => q0 x hx⟩
    refine ⟨_, rfl, v1, f1, rfl, h1.same s1, fun e1 H2 s2 => ?_, fun x hx => (q1 e0 x hx).from s1⟩
    exact ⟨_, rfl, v2, T, rfl, t2.same (s1.trans s2), fun e2 => (no e0 e1 e2).elim, fun e2 => (qs e0 e1 e2).from (s1.trans s2)⟩
theorem ok_sameX (D : Df K mg "same" s_same) (c_check_words : ClX P w K mg base 4 "check_words" s_check_words ["word", "other", "size"] (spWWS K)) (c_shortest : Cl P w K mg base 4 "shortest" s_shortest ["word", "size"] spShortest) :
    ClX P w K mg base 5 "same" s_same ["word", "other", "size"] (spWWS K) := by
  refine D.okX sc_same (fun _ _ _ _ _ _ us hl => match us, hl with | [_, _, _], _ => rfl) (fun vs H Q E h => ?_) (fun f cdv A outer s H vs Q E hr h => ?_)
  · obtain ⟨v0, v1, v2, f0, f1, T, rfl, _⟩ := h
    rfl
  · obtain ⟨v0, v1, v2, f0, f1, T, rfl, h⟩ := h
    refine ⟨_, 
      (pss_cons (ps_expr (pe_x c_check_words takesD hr (by omega) (by rfl) (pa_cons (pv 0) (pa_cons (pv 1) (pa_cons (pv 2) pa_nil))))) (PSs.nox 
      (pss_one (ps_ret (pe_cmpR op_eq (pe_u c_shortest hr (by omega) (by rfl) (pa_cons (pv 0) (pa_cons (pv 2) pa_nil))) (pe_u c_shortest hr (by omega) (by rfl) (pa_cons (pv 1) (pa_cons (pv 2) pa_nil))) (nomark _)))))), ?_⟩
    exact ⟨_, rfl, _, rfl, _, rfl, v0, v1, v2, f0, f1, T, rfl, h⟩
def spS (K : PySem.W.Frag) : Sp := fun vs H Q E => ∃ (v : V) (T : String), vs = [v] ∧ Tv K H v T ∧ wholeB v 1 12 = false ∧ Flies K E "InvalidSize" "size" v H
theorem ok_wcX (D : Df K mg "word_count" s_word_count) (c_check_size : ClX P w K mg base 3 "check_size" s_check_size ["size"] (spSizeX K)) : ClX P w K mg base 4 "word_count" s_word_count ["size"] (spS K) := by
  refine D.okX sc_word_count (fun _ _ _ _ _ _ us hl => match us, hl with | [_], _ => rfl) (fun vs H Q E h => ?_) (fun f cdv A outer s H vs Q E hr h => ?_)
  · obtain ⟨v, T, rfl, _⟩ := h
    rfl
  · obtain ⟨v, T, rfl, t, no, q⟩ := h
    refine ⟨_, 
      (pss_cons (ps_expr (pe_x c_check_size takesD hr (by omega) (by rfl) (pa_cons (pv 0) pa_nil))) (PSs.nox 
      (pss_one (ps_ret (pe_op op_sub (pe_op op_oneShl pe_int (pv 0)) pe_int))))), ?_⟩
    exact ⟨_, rfl, v, T, rfl, t, fun e => absurd (no.symm.trans e) Bool.false_ne_true, fun _ => q⟩
def spSN (K : PySem.W.Frag) : Sp := fun vs H Q E => ∃ (v0 v1 : V) (T0 T1 : String), vs = [v0, v1] ∧ Tv K H v0 T0 ∧ Tv K H v1 T1 ∧
  ((wholeB v0 1 12 = false ∧ Flies K E "InvalidSize" "size" v0 H) ∨ ∃ m : Nat, v0 = .int (m : Nat) ∧ 1 ≤ m ∧ m ≤ 12 ∧ wholeB v1 0 ((2 : Int) ^ m - 1 - 1) = false ∧ Flies K E "InvalidNumber" "number" v1 H)
theorem ok_watX (D : Df K mg "word_at" s_word_at) (c_check_number : ClX P w K mg base 3 "check_number" s_check_number ["number", "least", "greatest"] (spNumX K)) (c_word_count : ClX P w K mg base 4 "word_count" s_word_count ["size"] (fun vs H Q E => spWc vs H Q E ∨ spS K vs H Q E))
    (m_reversed : mg "reversed" = none) {a_KINDS : Addr} (g_KINDS : mg "KINDS" = some (.ref a_KINDS)) : ClX P w K mg base 5 "word_at" s_word_at ["size", "number"] (spSN K) := by
  refine D.okX sc_word_at (fun _ _ _ _ _ _ us hl => match us, hl with | [_, _], _ => rfl) (fun vs H Q E h => ?_) (fun f cdv A outer s H vs Q E hr h => ?_)
  · obtain ⟨v0, v1, T0, T1, rfl, _⟩ := h
    rfl
  · obtain ⟨v0, v1, T0, T1, rfl, t0, t1, h⟩ := h
    refine ⟨_, 
      (pss_cons (ps_expr (pe_x c_check_number takesD hr (by omega) (by rfl) (pa_cons (pv 1) (pa_cons pe_int (pa_cons (pe_op op_sub (pe_x c_word_count takesD hr (by omega) (by rfl) (pa_cons (pv 0) pa_nil)) pe_int) pa_nil))))) (PSs.nox 
      (pss_cons (ps_set (i := 2) sc_word_at.nd rfl (Or.inl rfl) (pe_lst pa_nil)) 
      (pss_cons (ps_set (i := 3) sc_word_at.nd rfl (Or.inl rfl) (pv 1)) 
      (pss_cons (ps_while PassesOwn.never (pt_cmpR op_gt (pv 3) pe_int (nomark _)) (pss_cons (ps_aug (i := 3) sc_word_at.nd rfl (Or.inl rfl) pe_int ip_sub) (pss_cons (ps_expr (pe_bm PySem.F.plainAttrs_list PySem.F.slot_list_append PySem.F.type_list_append mt_append (pv 2) (pa_cons (pe_ix ix_tup (pe_glob (v := .ref a_KINDS) (by rfl) g_KINDS rfl) (pe_op op_and (pv 3) pe_int) (fun _ _ => rfl)) pa_nil))) (pss_one (ps_aug (i := 3) sc_word_at.nd rfl (Or.inl rfl) pe_int iop_fdiv))))) 
      (pss_one (ps_ret (pe_joinBack rfl (by rfl) m_reversed pe_str (pv 2))))))))), ?_⟩
    rcases h with ⟨no, q⟩ | ⟨m, rfl, m1, m2, no, q⟩
    · exact ⟨_, rfl, _, rfl, .inr ⟨v0, T0, rfl, t0, no, q⟩⟩
    · exact ⟨_, rfl, _, rfl, .inl ⟨m, rfl, m1, m2, _, _, rfl, rfl, v1, T1, 0, _, rfl, t1, fun e => absurd (no.symm.trans e) Bool.false_ne_true, fun _ => q⟩⟩
theorem ok_numofX (D : Df K mg "number_of" s_number_of) (c_shortest : ClX P w K mg base 4 "shortest" s_shortest ["word", "size"] (spWS K)) {a_KINDS : Addr} (g_KINDS : mg "KINDS" = some (.ref a_KINDS)) : ClX P w K mg base 5 "number_of" s_number_of ["word", "size"] (spWS K) := by
  refine D.okX sc_number_of (fun _ _ _ _ _ _ us hl => match us, hl with | [_, _], _ => rfl) (fun vs H Q E h => ?_) (fun f cdv A outer s H vs Q E hr h => ?_)
  · obtain ⟨v0, v1, fo, T, rfl, _⟩ := h
    rfl
  · obtain ⟨v0, v1, fo, T, rfl, h⟩ := h
    refine ⟨_, 
      (pss_cons (ps_set (i := 2) sc_number_of.nd rfl (Or.inl rfl) pe_int) 
      (pss_cons (ps_for (passes_of rfl) rfl (pi_str (pe_x c_shortest takesD hr (by omega) (by rfl) (pa_cons (pv 0) (pa_cons (pv 1) pa_nil)))) (pg_name (i := 3) sc_number_of.nd rfl (Or.inl rfl)) (pss_one (ps_set (i := 2) sc_number_of.nd rfl (Or.inl rfl) (pe_op op_add (pe_op op_add (pe_op op_mul pe_int (pv 2)) (pe_bm PySem.F.plainAttrs_tuple PySem.F.slot_tuple_index PySem.F.type_tuple_index mt_tup_index (pe_glob (v := .ref a_KINDS) (by rfl) g_KINDS rfl) (pa_cons (pv 3) pa_nil))) pe_int)))) 
      (pss_one (ps_ret (pv 2))))), ?_⟩
    exact ⟨_, rfl, _, rfl, v0, v1, fo, T, rfl, h⟩
theorem ok_diffX (D : Df K mg "difference" s_difference) (c_check_words : ClX P w K mg base 4 "check_words" s_check_words ["word", "other", "size"] (spWWS K)) (c_shortest : Cl P w K mg base 4 "shortest" s_shortest ["word", "size"] spShortest)
    (c_telling_row : Cl P w K mg base 1 "telling_row" s_telling_row ["longer", "end", "size"] spTell) (c_common_end : Cl P w K mg base 2 "common_end" s_common_end ["word", "other"] spCommon) (m_len : mg "len" = none) :
    ClX P w K mg base 5 "difference" s_difference ["word", "other", "size"] (spWWS K) := by
  refine D.okX sc_difference (fun _ _ _ _ _ _ us hl => match us, hl with | [_, _, _], _ => rfl) (fun vs H Q E h => ?_) (fun f cdv A outer s H vs Q E hr h => ?_)
  · obtain ⟨v0, v1, v2, f0, f1, T, rfl, _⟩ := h
    rfl
  · obtain ⟨v0, v1, v2, f0, f1, T, rfl, h⟩ := h
    refine ⟨_, 
      (pss_cons (ps_expr (pe_x c_check_words takesD hr (by omega) (by rfl) (pa_cons (pv 0) (pa_cons (pv 1) (pa_cons (pv 2) pa_nil))))) (PSs.nox 
      (pss_cons (ps_set (i := 3) sc_difference.nd rfl (Or.inl rfl) (pe_u c_shortest hr (by omega) (by rfl) (pa_cons (pv 0) (pa_cons (pv 2) pa_nil)))) 
      (pss_cons (ps_set (i := 4) sc_difference.nd rfl (Or.inl rfl) (pe_u c_shortest hr (by omega) (by rfl) (pa_cons (pv 1) (pa_cons (pv 2) pa_nil)))) 
      (pss_cons (ps_if (pt_cmpR op_eq (pv 3) (pv 4) (nomark _)) (pss_one (ps_ret pe_non)) pss_nil) 
      (pss_cons (ps_set (i := 5) sc_difference.nd rfl (Or.inl rfl) (pe_ifExp (pt_cmpR op_ge (pe_callB call_len_str (by rfl) m_len (by decide +kernel) (pa_cons (pv 3) pa_nil)) (pe_callB call_len_str (by rfl) m_len (by decide +kernel) (pa_cons (pv 4) pa_nil)) (nomark _)) (pv 3) (pv 4))) 
      (pss_one (ps_ret (pe_u c_telling_row hr (by omega) (by rfl) (pa_cons (pv 5) (pa_cons (pe_u c_common_end hr (by omega) (by rfl) (pa_cons (pv 3) (pa_cons (pv 4) pa_nil))) (pa_cons (pv 2) pa_nil)))))))))))), ?_⟩
    exact ⟨_, rfl, _, rfl, _, rfl, v0, v1, v2, f0, f1, T, rfl, h⟩
end
section
variable {P : Program} {w : World} {K : PySem.W.Frag} {mg : Str → Option Value} {base : Heap}
/-! ### each def's promise on any values: what comes back is not told -/
theorem whole_nat {v : V} (h : wholeB v 1 12 = true) : ∃ m : Nat, v = .int (m : Nat) ∧ 1 ≤ m ∧ m ≤ 12 := by
  cases v with
  | int i =>
    have z : (decide (1 ≤ i) && decide (i ≤ 12)) = true := h
    obtain ⟨z1, z2⟩ := Bool.and_eq_true_iff.mp z
    have z1 := of_decide_eq_true z1
    have z2 := of_decide_eq_true z2
    exact ⟨i.toNat, by rw [Int.toNat_of_nonneg (by omega)], by omega, by omega⟩
  | _ => cases h
def spWSA (K : PySem.W.Frag) : Sp := fun vs H Q E => ∃ (v0 v1 : V) (fo : Option V) (T : String), vs = [v0, v1] ∧ WdF K H v0 fo ∧ Tv K H v1 T ∧ (∀ x, fo = some x → Flies K E "InvalidWord" "index" x H) ∧ (fo = none → wholeB v1 1 12 = false → Flies K E "InvalidSize" "size" v1 H) ∧ (fo = none → wholeB v1 1 12 = true → ∀ (r : V) (H' : Hp), Same H H' → Q r H')
theorem spWSA.split {vs : List V} {H : Hp} {Q : VK} {E : XK} (h : spWSA K vs H Q E) : (∃ (bs : List Bool) (m : Nat), vs = [.str (wd bs), .int (m : Nat)] ∧ bs.length ≤ 400 ∧ 1 ≤ m ∧ m ≤ 12 ∧ ∀ (r : V) (H' : Hp), Same H H' → Q r H') ∨ spWS K vs H Q E := by
  obtain ⟨v0, v1, fo, T, rfl, h0, t1, q0, q1, q2⟩ := h
  by_cases g : fo = none ∧ wholeB v1 1 12 = true
  · obtain ⟨rfl, gw⟩ := g
    obtain ⟨m, rfl, m1, m2⟩ := whole_nat gw
    cases h0 with
    | @word bs hb => exact .inl ⟨bs, m, rfl, hb, m1, m2, q2 rfl gw⟩
  · exact .inr ⟨v0, v1, fo, T, rfl, h0, t1, fun a b => g ⟨a, b⟩, q0, q1⟩
theorem all_shortest (c : Cl P w K mg base 4 "shortest" s_shortest ["word", "size"] spShortest) (d : ClX P w K mg base 4 "shortest" s_shortest ["word", "size"] (spWS K)) : ClX P w K mg base 5 "shortest" s_shortest ["word", "size"] (spWSA K) :=
  (Cl.orX 5 c d).imp fun vs H Q E h => h.split.imp (fun ⟨bs, m, e, a, b, c, q⟩ => ⟨bs, m, e, a, b, c, fun H' s => q _ H' s⟩) id
theorem all_const (c : Cl P w K mg base 4 "is_constant" s_is_constant ["word", "size"] spConst) (d : ClX P w K mg base 4 "is_constant" s_is_constant ["word", "size"] (spWS K)) : ClX P w K mg base 5 "is_constant" s_is_constant ["word", "size"] (spWSA K) :=
  (Cl.orX 5 c d).imp fun vs H Q E h => h.split.imp (fun ⟨bs, m, e, a, b, c, q⟩ => ⟨bs, m, e, a, b, c, fun H' s => q _ H' s⟩) id
theorem all_numof (c : Cl P w K mg base 5 "number_of" s_number_of ["word", "size"] spNo) (d : ClX P w K mg base 5 "number_of" s_number_of ["word", "size"] (spWS K)) : ClX P w K mg base 5 "number_of" s_number_of ["word", "size"] (spWSA K) :=
  (Cl.orX 5 c d).imp fun vs H Q E h => h.split.imp (fun ⟨bs, m, e, a, b, c, q⟩ => ⟨bs, m, e, a, b, c, fun H' s => q _ H' s⟩) id
def spWWSA (K : PySem.W.Frag) : Sp := fun vs H Q E => ∃ (v0 v1 v2 : V) (f0 f1 : Option V) (T : String), vs = [v0, v1, v2] ∧ WdF K H v0 f0 ∧ WdF K H v1 f1 ∧ Tv K H v2 T ∧ (∀ x, f0 = some x → Flies K E "InvalidWord" "index" x H) ∧ (f0 = none → ∀ x, f1 = some x → Flies K E "InvalidWord" "index" x H) ∧ (f0 = none → f1 = none → wholeB v2 1 12 = false → Flies K E "InvalidSize" "size" v2 H) ∧ (f0 = none → f1 = none → wholeB v2 1 12 = true → ∀ (r : V) (H' : Hp), Same H H' → Q r H')
theorem spWWSA.split {vs : List V} {H : Hp} {Q : VK} {E : XK} (h : spWWSA K vs H Q E) : (∃ (bs cs : List Bool) (m : Nat), vs = [.str (wd bs), .str (wd cs), .int (m : Nat)] ∧ bs.length ≤ 400 ∧ cs.length ≤ 400 ∧ 1 ≤ m ∧ m ≤ 12 ∧ ∀ (r : V) (H' : Hp), Same H H' → Q r H') ∨ spWWS K vs H Q E := by
  obtain ⟨v0, v1, v2, f0, f1, T, rfl, h0, h1, t2, q0, q1, q2, q3⟩ := h
  by_cases g : f0 = none ∧ f1 = none ∧ wholeB v2 1 12 = true
  · obtain ⟨rfl, rfl, gw⟩ := g
    obtain ⟨m, rfl, m1, m2⟩ := whole_nat gw
    cases h0 with
    | @word bs hb =>
      cases h1 with
      | @word cs hc => exact .inl ⟨bs, cs, m, rfl, hb, hc, m1, m2, q3 rfl rfl gw⟩
  · exact .inr ⟨v0, v1, v2, f0, f1, T, rfl, h0, h1, t2, fun a b c => g ⟨a, b, c⟩, q0, q1, q2⟩
theorem all_same (c : Cl P w K mg base 5 "same" s_same ["word", "other", "size"] spSame) (d : ClX P w K mg base 5 "same" s_same ["word", "other", "size"] (spWWS K)) : ClX P w K mg base 5 "same" s_same ["word", "other", "size"] (spWWSA K) :=
  (Cl.orX 5 c d).imp fun vs H Q E h => h.split.imp (fun ⟨bs, cs, m, e, a, b, c, d, q⟩ => ⟨bs, cs, m, e, a, b, c, d, fun H' s => q _ H' s⟩) id
theorem all_diff (c : Cl P w K mg base 5 "difference" s_difference ["word", "other", "size"] spDiff) (d : ClX P w K mg base 5 "difference" s_difference ["word", "other", "size"] (spWWS K)) : ClX P w K mg base 5 "difference" s_difference ["word", "other", "size"] (spWWSA K) :=
  (Cl.orX 5 c d).imp fun vs H Q E h => h.split.imp (fun ⟨bs, cs, m, e, a, b, c, d, q⟩ => ⟨bs, cs, m, e, a, b, c, d, fun _ H' s => q _ H' s, fun _ p H' s _ _ => q _ H' s⟩) id
def spSA (K : PySem.W.Frag) : Sp := fun vs H Q E => ∃ (v : V) (T : String), vs = [v] ∧ Tv K H v T ∧ (wholeB v 1 12 = false → Flies K E "InvalidSize" "size" v H) ∧ (wholeB v 1 12 = true → ∀ (r : V) (H' : Hp), Same H H' → Q r H')
theorem all_wc (c : ClX P w K mg base 4 "word_count" s_word_count ["size"] (fun vs H Q E => spWc vs H Q E ∨ spS K vs H Q E)) : ClX P w K mg base 4 "word_count" s_word_count ["size"] (spSA K) :=
  c.imp fun vs H Q E ⟨v, T, e, t, q0, q1⟩ => by
    cases hw : wholeB v 1 12 with
    | true =>
      obtain ⟨m, rfl, m1, m2⟩ := whole_nat hw
      exact .inl ⟨m, e, m1, m2, q1 hw _ H (Same.refl H)⟩
    | false => exact .inr ⟨v, T, e, t, hw, q0 hw⟩
/-- every number below the count is a word's number -/
theorem nm_low : ∀ u : List Bool, ∀ n, u.length = n → 2 ^ n ≤ nm u + 1 := fun u n h => by
  induction n generalizing u with
  | zero => rw [List.length_eq_zero_iff.mp h]; decide
  | succ n ih =>
    obtain ⟨v, b, rfl⟩ := snoc_of (show 1 ≤ u.length by omega)
    rw [List.length_append, List.length_singleton] at h
    have z := ih v (by omega)
    rw [nm_snoc, Nat.pow_succ]
    unfold nmS
    split <;> omega
theorem nm_onto (n : Nat) : ∃ u : List Bool, nm u = n := by
  induction n using Nat.strongRecOn with
  | ind n ih =>
    cases n with
    | zero => exact ⟨[], rfl⟩
    | succ k =>
      obtain ⟨v, hv⟩ := ih (k / 2) (by omega)
      refine ⟨v ++ [decide (k % 2 = 1)], ?_⟩
      rw [nm_snoc, hv]
      unfold nmS
      by_cases h : k % 2 = 1
      · rw [decide_eq_true h, if_pos rfl]
        omega
      · rw [decide_eq_false h, if_neg Bool.false_ne_true]
        omega
def spSNA (K : PySem.W.Frag) : Sp := fun vs H Q E => ∃ (v0 v1 : V) (T0 T1 : String), vs = [v0, v1] ∧ Tv K H v0 T0 ∧ Tv K H v1 T1 ∧ (wholeB v0 1 12 = false → Flies K E "InvalidSize" "size" v0 H) ∧
  ∀ m : Nat, v0 = .int (m : Nat) → 1 ≤ m → m ≤ 12 → (wholeB v1 0 ((2 : Int) ^ m - 1 - 1) = false → Flies K E "InvalidNumber" "number" v1 H) ∧ (wholeB v1 0 ((2 : Int) ^ m - 1 - 1) = true → ∀ (r : V) (H' : Hp), Same H H' → Q r H')
theorem all_wat (c : Cl P w K mg base 5 "word_at" s_word_at ["size", "number"] (spWat K)) (d : ClX P w K mg base 5 "word_at" s_word_at ["size", "number"] (spSN K)) : ClX P w K mg base 5 "word_at" s_word_at ["size", "number"] (spSNA K) :=
  (Cl.orX 5 c d).imp fun vs H Q E ⟨v0, v1, T0, T1, e, t0, t1, q0, q1⟩ => by
    cases hw : wholeB v0 1 12 with
    | false => exact .inr ⟨v0, v1, T0, T1, e, t0, t1, .inl ⟨hw, q0 hw⟩⟩
    | true =>
      obtain ⟨m, rfl, m1, m2⟩ := whole_nat hw
      obtain ⟨q2, q3⟩ := q1 m rfl m1 m2
      cases hn : wholeB v1 0 ((2 : Int) ^ m - 1 - 1) with
      | false => exact .inr ⟨_, v1, T0, T1, e, t0, t1, .inr ⟨m, rfl, m1, m2, hn, q2 hn⟩⟩
      | true =>
        cases v1 with
        | int i =>
          have z : (decide (0 ≤ i) && decide (i ≤ (2 : Int) ^ m - 1 - 1)) = true := hn
          obtain ⟨z1, z2⟩ := Bool.and_eq_true_iff.mp z
          have z1 := of_decide_eq_true z1
          have z2 := of_decide_eq_true z2
          obtain ⟨n, rfl⟩ : ∃ n : Nat, i = (n : Nat) := ⟨i.toNat, by omega⟩
          obtain ⟨u, rfl⟩ := nm_onto n
          rw [pow_cast] at z2
          have lo := nm_low u u.length rfl
          have lt : u.length < m := by
            by_cases h : u.length < m
            · exact h
            · have := Nat.pow_le_pow_right (show 0 < 2 by decide) (show m ≤ u.length by omega)
              omega
          exact .inl ⟨m, u, e, m2, by omega, fun H' s => q3 hn _ H' s⟩
        | _ => cases hn
end
section
variable {P : Program} {w : World} {K : PySem.W.Frag} {mg : Str → Option Value} {base : Heap}
/-! ### what is asked at which door -/
abbrev s__law_asked : Stmt := top 70
abbrev N__law_asked : List Str := ["_law_door", "_law_code", "_law_mate", "_law_many", "_law_at"]
theorem sc__law_asked : FnScope N__law_asked ["_law_door", "_law_code", "_law_mate", "_law_many", "_law_at"] (defScope s__law_asked) := ⟨rfl, rfl, rfl, by decide +kernel, rfl, by decide +kernel, by decide +kernel⟩
/-- the doors' arguments: v0 v1 words, v2 a size, v3 a number -/
structure Dr (K : PySem.W.Frag) (H : Hp) (v0 v1 v2 v3 : V) (f0 f1 : Option V) (T2 T3 : String) : Prop where
  h0 : WdF K H v0 f0
  h1 : WdF K H v1 f1
  t2 : Tv K H v2 T2
  t3 : Tv K H v3 T3
theorem Dr.same {H H' : Hp} {v0 v1 v2 v3 : V} {f0 f1 : Option V} {T2 T3 : String} (h : Dr K H v0 v1 v2 v3 f0 f1 T2 T3) (s : Same H H') : Dr K H' v0 v1 v2 v3 f0 f1 T2 T3 := ⟨h.h0.same s, h.h1.same s, h.t2.same s, h.t3.same s⟩
def spAsk (K : PySem.W.Frag) : Sp := fun vs H Q E => ∃ (d : Nat) (v0 v1 v2 v3 : V) (f0 f1 : Option V) (T2 T3 : String), vs = [.int (d : Nat), v0, v1, v2, v3] ∧ d < 8 ∧ Dr K H v0 v1 v2 v3 f0 f1 T2 T3 ∧
  (d < 5 → ∀ x, f0 = some x → Flies K E "InvalidWord" "index" x H) ∧ (d = 3 ∨ d = 4 → f0 = none → ∀ x, f1 = some x → Flies K E "InvalidWord" "index" x H) ∧
  ((d < 5 → f0 = none) → (d = 3 ∨ d = 4 → f1 = none) → wholeB v2 1 12 = false → Flies K E "InvalidSize" "size" v2 H) ∧
  (6 ≤ d → ∀ m : Nat, v2 = .int (m : Nat) → 1 ≤ m → m ≤ 12 → wholeB v3 0 ((2 : Int) ^ m - 1 - 1) = false → Flies K E "InvalidNumber" "number" v3 H) ∧
  ((d < 5 → f0 = none) → (d = 3 ∨ d = 4 → f1 = none) → wholeB v2 1 12 = true → (6 ≤ d → ∀ m : Nat, v2 = .int (m : Nat) → 1 ≤ m → m ≤ 12 → wholeB v3 0 ((2 : Int) ^ m - 1 - 1) = true) → ∀ (r : V) (H' : Hp), Same H H' → Q r H')
theorem ok_ask (D : Df K mg "_law_asked" s__law_asked) (c_shortest : ClX P w K mg base 5 "shortest" s_shortest ["word", "size"] (spWSA K)) (c_is_constant : ClX P w K mg base 5 "is_constant" s_is_constant ["word", "size"] (spWSA K)) (c_number_of : ClX P w K mg base 5 "number_of" s_number_of ["word", "size"] (spWSA K))
    (c_same : ClX P w K mg base 5 "same" s_same ["word", "other", "size"] (spWWSA K)) (c_difference : ClX P w K mg base 5 "difference" s_difference ["word", "other", "size"] (spWWSA K)) (c_word_count : ClX P w K mg base 4 "word_count" s_word_count ["size"] (spSA K)) (c_word_at : ClX P w K mg base 5 "word_at" s_word_at ["size", "number"] (spSNA K))
    (g_shortest : mg "shortest" = some (.ref (He.ga K "shortest"))) (g_is_constant : mg "is_constant" = some (.ref (He.ga K "is_constant"))) (g_number_of : mg "number_of" = some (.ref (He.ga K "number_of"))) : ClX P w K mg base 6 "_law_asked" s__law_asked ["_law_door", "_law_code", "_law_mate", "_law_many", "_law_at"] (spAsk K) := by
  refine D.okX sc__law_asked (fun _ _ _ _ _ _ us hl => match us, hl with | [_, _, _, _, _], _ => rfl) (fun vs H Q E h => ?_) (fun f cdv A outer s H vs Q E hr h => ?_)
  · obtain ⟨d, v0, v1, v2, v3, f0, f1, T2, T3, rfl, _⟩ := h
    rfl
  · obtain ⟨d, v0, v1, v2, v3, f0, f1, T2, T3, rfl, dl, dr, qw, qm, qs, qn, q⟩ := h
    refine ⟨_, 
      (pss_cons (ps_if (pt_cmpR op_lt (pv 0) pe_int (nomark _)) (pss_one (ps_ret (pe_xe takesD hr (pe_ix ix_list (pe_lst (pa_cons (pe_glob (v := .ref (He.ga K "shortest")) (by rfl) g_shortest rfl) (pa_cons (pe_glob (v := .ref (He.ga K "is_constant")) (by rfl) g_is_constant rfl) (pa_cons (pe_glob (v := .ref (He.ga K "number_of")) (by rfl) g_number_of rfl) pa_nil)))) (pv 0) (fun _ _ => rfl)) (pa_cons (pv 1) (pa_cons (pv 3) pa_nil))))) pss_nil) 
      (pss_cons (ps_if (pt_cmpR op_eq (pv 0) pe_int (nomark _)) (pss_one (ps_ret (pe_x c_same takesD hr (by omega) (by rfl) (pa_cons (pv 1) (pa_cons (pv 2) (pa_cons (pv 3) pa_nil)))))) pss_nil) 
      (pss_cons (ps_if (pt_cmpR op_eq (pv 0) pe_int (nomark _)) (pss_one (ps_ret (pe_xk (ks := ["size", "word", "other"]) rotL3 c_difference takesD hr (by omega) (by rfl) (fun _ _ _ _ _ _ ws hl => match ws, hl with | [_, _, _], _ => rfl) rel_rotL3 (pk_cons (pv 3) (pk_cons (pv 1) (pk_cons (pv 2) pk_nil)))))) pss_nil) 
      (pss_cons (ps_if (pt_cmpR op_eq (pv 0) pe_int (nomark _)) (pss_one (ps_ret (pe_xk (ks := ["size"]) id c_word_count takesD hr (by omega) (by rfl) (fun _ _ _ _ _ _ ws hl => match ws, hl with | [_], _ => rfl) (fun r => r) (pk_cons (pv 3) pk_nil)))) pss_nil) 
      (pss_one (ps_ret (pe_ifExp (pt_cmpR op_eq (pv 0) pe_int (nomark _)) (pe_x c_word_at takesD hr (by omega) (by rfl) (pa_cons (pv 3) (pa_cons (pv 4) pa_nil))) (pe_xk (ks := ["number", "size"]) swap2 c_word_at takesD hr (by omega) (by rfl) (fun _ _ _ _ _ _ ws hl => match ws, hl with | [_, _], _ => rfl) rel_swap2 (pk_cons (pv 4) (pk_cons (pv 3) pk_nil)))))))))), ?_⟩
    have ws : d < 3 → ∀ H1, Same H H1 → spWSA K [v0, v2] H1 Q E := fun h3 H1 s1 => ⟨v0, v2, f0, T2, rfl, dr.h0.same s1, dr.t2.same s1, fun x hx => (qw (by omega) x hx).from s1, fun e0 e2 => (qs (fun _ => e0) (fun z => by omega) e2).from s1, fun e0 e2 r H' s => q (fun _ => e0) (fun z => by omega) e2 (fun z => by omega) r H' (s1.trans s)⟩
    have wws : d = 3 ∨ d = 4 → spWWSA K [v0, v1, v2] H Q E := fun hd => ⟨v0, v1, v2, f0, f1, T2, rfl, dr.h0, dr.h1, dr.t2, fun x hx => qw (by omega) x hx, fun e0 x hx => qm hd e0 x hx, fun e0 e1 e2 => qs (fun _ => e0) (fun _ => e1) e2, fun e0 e1 e2 r H' s => q (fun _ => e0) (fun _ => e1) e2 (fun z => by omega) r H' s⟩
    have ss : d = 5 → spSA K [v2] H Q E := fun hd => ⟨v2, T2, rfl, dr.t2, fun e2 => qs (fun z => by omega) (fun z => by omega) e2, fun e2 r H' s => q (fun z => by omega) (fun z => by omega) e2 (fun z => by omega) r H' s⟩
    have sn : 6 ≤ d → spSNA K [v2, v3] H Q E := fun hd => ⟨v2, v3, T2, T3, rfl, dr.t2, dr.t3, fun e2 => qs (fun z => by omega) (fun z => by omega) e2, fun m em m1 m2 => ⟨fun e3 => qn hd m em m1 m2 e3, fun e3 r H' s => q (fun z => by omega) (fun z => by omega) (by
        rw [em]
        show (decide ((1 : Int) ≤ (m : Nat)) && decide (((m : Nat) : Int) ≤ 12)) = true
        rw [decide_eq_true (by omega), decide_eq_true (by omega)]
        rfl) (fun _ m' em' _ _ => by
        rw [em] at em'
        have e : ((m : Nat) : Int) = ((m' : Nat) : Int) := V.int.inj em'
        rw [← e3]
        have e2 : m' = m := by omega
        rw [e2]) r H' s⟩⟩
    refine ⟨_, rfl, _, _, rfl, rfl, _, rfl, ?_⟩
    by_cases h3 : d < 3
    · rw [decide_eq_true (by omega)]
      refine iteT ?_
      refine ⟨(by show 3 ≤ sizeLine; decide), fun l nl => ?_⟩
      refine ⟨_, rfl, l, _, ((d : Nat) : Int), .ref (if d = 0 then He.ga K "shortest" else if d = 1 then He.ga K "is_constant" else He.ga K "number_of"), rfl, rfl, .inl (.inl upd_same), ?_, ?_⟩
      · have c3 : d = 0 ∨ d = 1 ∨ d = 2 := by omega
        rcases c3 with rfl | rfl | rfl
        · exact atI_nat (j := 0) rfl
        · exact atI_nat (j := 1) rfl
        · exact atI_nat (j := 2) rfl
      · have sl := same_upd (o := .lst [.ref (He.ga K "shortest"), .ref (He.ga K "is_constant"), .ref (He.ga K "number_of")]) nl
        refine ⟨5, _, spWSA K, (by omega), rfl, ?_, _, rfl, _, rfl, ws h3 _ sl⟩
        have c3 : d = 0 ∨ d = 1 ∨ d = 2 := by omega
        rcases c3 with rfl | rfl | rfl
        · exact c_shortest.isX g_shortest
        · exact c_is_constant.isX g_is_constant
        · exact c_number_of.isX g_number_of
    · rw [decide_eq_false (by omega)]
      refine iteF ⟨_, rfl, rfl, _, rfl, ?_⟩
      have c5 : d = 3 ∨ d = 4 ∨ d = 5 ∨ d = 6 ∨ d = 7 := by omega
      rcases c5 with rfl | rfl | rfl | rfl | rfl
      · exact iteT ⟨_, rfl, _, rfl, _, rfl, wws (.inl rfl)⟩
      · exact iteF ⟨_, rfl, rfl, _, rfl, iteT ⟨_, rfl, _, rfl, _, rfl, rfl, wws (.inr rfl)⟩⟩
      · exact iteF ⟨_, rfl, rfl, _, rfl, iteF ⟨_, rfl, rfl, _, rfl, iteT ⟨_, rfl, rfl, ss rfl⟩⟩⟩
      · exact iteF ⟨_, rfl, rfl, _, rfl, iteF ⟨_, rfl, rfl, _, rfl, iteF ⟨_, rfl, rfl, _, rfl, iteT ⟨_, rfl, _, rfl, sn (by decide)⟩⟩⟩⟩
      · exact iteF ⟨_, rfl, rfl, _, rfl, iteF ⟨_, rfl, rfl, _, rfl, iteF ⟨_, rfl, rfl, _, rfl, iteF ⟨_, rfl, _, rfl, rfl, sn (by decide)⟩⟩⟩⟩
end
section
/-! ### which of the error classes it is -/
structure SortOk (K : PySem.W.Frag) (x : Str) (i : Nat) : Prop where
  ec : ExcC K (He.ga K x)
  lt : i < 30
  is : ∀ (j : Nat) (y : Str), errL[j]? = some y → PySem.W.kitOne K (.ref (He.ga K x)) (.ref (He.ga K y)) = some (decide (i = j))
  b1 : PySem.W.kitOne K (.ref (He.ga K x)) (.ref (He.ga K "PassError")) = some (decide (i < 17))
  b2 : PySem.W.kitOne K (.ref (He.ga K x)) (.ref (He.ga K "FindError")) = some (decide (16 < i) && decide (i < 25))
  b3 : PySem.W.kitOne K (.ref (He.ga K x)) (.ref (He.ga K "LimitError")) = some (decide (24 < i))
  o1 : PySem.W.kitOne K (.ref (He.ga K x)) (.type "ValueError") = some (decide (i < 17))
  o2 : PySem.W.kitOne K (.ref (He.ga K x)) (.type "LookupError") = some (decide (16 < i) && decide (i < 25))
  o3 : PySem.W.kitOne K (.ref (He.ga K x)) (.type "ArithmeticError") = some (decide (24 < i))
theorem excCB_ok {K : PySem.W.Frag} {D : Addr} (h : excCB K D = true) : ExcC K D := by
  obtain ⟨h1, h⟩ := Bool.and_eq_true_iff.mp h
  obtain ⟨h2, h⟩ := Bool.and_eq_true_iff.mp h
  obtain ⟨h3, h⟩ := Bool.and_eq_true_iff.mp h
  obtain ⟨h4, h⟩ := Bool.and_eq_true_iff.mp h
  obtain ⟨h5, h⟩ := Bool.and_eq_true_iff.mp h
  obtain ⟨h6, h⟩ := Bool.and_eq_true_iff.mp h
  obtain ⟨h7, h8⟩ := Bool.and_eq_true_iff.mp h
  exact ⟨of_decide_eq_true h1, of_decide_eq_true h2, of_decide_eq_true h3, h4, of_decide_eq_true h5, of_decide_eq_true h6, of_decide_eq_true h7, of_decide_eq_true h8⟩
theorem sortB_ok {K : PySem.W.Frag} {x : Str} {i : Nat} (h : sortB K x i = true) : SortOk K x i := by
  obtain ⟨h1, h⟩ := Bool.and_eq_true_iff.mp h
  obtain ⟨h2, h⟩ := Bool.and_eq_true_iff.mp h
  obtain ⟨h3, h⟩ := Bool.and_eq_true_iff.mp h
  obtain ⟨h4, h⟩ := Bool.and_eq_true_iff.mp h
  obtain ⟨h5, h⟩ := Bool.and_eq_true_iff.mp h
  obtain ⟨h6, h⟩ := Bool.and_eq_true_iff.mp h
  obtain ⟨h7, h⟩ := Bool.and_eq_true_iff.mp h
  obtain ⟨h8, h9⟩ := Bool.and_eq_true_iff.mp h
  refine ⟨excCB_ok h1, of_decide_eq_true h2, fun j y hj => ?_, of_decide_eq_true h4, of_decide_eq_true h5, of_decide_eq_true h6, of_decide_eq_true h7, of_decide_eq_true h8, of_decide_eq_true h9⟩
  have lt : j < 30 := (List.getElem?_eq_some_iff.mp hj).1
  have z := of_decide_eq_true (List.all_eq_true.mp h3 j (List.mem_range.mpr lt))
  rw [List.getD_eq_getElem?_getD, hj] at z
  exact z
/-- the first n answers -/
def ksL (i n : Nat) : List V := (List.range n).map fun j => V.bl (decide (i = j))
theorem ksL_add (i n : Nat) : ksL i n ++ [V.bl (decide (i = n)), V.bl (decide (i = n + 1)), V.bl (decide (i = n + 2))] = ksL i (n + 3) := by
  unfold ksL
  simp [List.range_succ]
theorem ksL_len (i n : Nat) : (ksL i n).length = n := by simp [ksL]
theorem ksL_get {i n j : Nat} (h : j < n) : (ksL i n)[j]? = some (.bl (decide (i = j))) := by simp [ksL, h]
theorem ksL_flat (i n : Nat) : (ksL i n).all flatV = true := by simp [ksL, flatV]
theorem ksL_one {i n : Nat} (h : i < n) : ((ksL i n).countP fun z => eqV z (.bl true)) = 1 := by
  have go : ∀ m, ((ksL i m).countP fun z => eqV z (.bl true)) = if i < m then 1 else 0 := fun m => by
    induction m with
    | zero => rfl
    | succ m ih =>
      have e : ksL i (m + 1) = ksL i m ++ [V.bl (decide (i = m))] := by simp [ksL, List.range_succ]
      rw [e, List.countP_append, ih]
      by_cases h1 : i < m
      · rw [if_pos h1, if_pos (by omega), decide_eq_false (by omega)]
        rfl
      · rw [if_neg h1]
        by_cases h2 : i = m
        · rw [if_pos (by omega), decide_eq_true h2]
          rfl
        · rw [if_neg (by omega), decide_eq_false h2]
          rfl
  rw [go, if_pos h]
theorem Dp_b3 {K : PySem.W.Frag} {H : Hp} {l : Addr} {a b c : Bool} (h : SqL K H l [.bl a, .bl b, .bl c]) : Dp K H (.ref l) (.list [.bool a, .bool b, .bool c]) := .lst h (.cons (.bl a) (.cons (.bl b) (.cons (.bl c) .nil)))
theorem sh_b3 (a b c : Bool) : SeqAt.shaped (.list [.bool a, .bool b, .bool c]) = true := by cases a <;> cases b <;> cases c <;> decide +kernel
theorem eq_b3 (a b c : Bool) : PyData.eqv (.list [.bool a, .bool b, .bool c]) (.list [.bool a, .bool b, .bool c]) = true := by cases a <;> cases b <;> cases c <;> decide +kernel
variable {P : Program} {w : World} {K : PySem.W.Frag} {mg : Str → Option Value} {base : Heap}
abbrev s__law_sort : Stmt := top 65
abbrev N__law_sort : List Str := ["_law_e", "_law_kinds", "_law_bases", "_law_own", "_law_at"]
theorem sc__law_sort : FnScope N__law_sort ["_law_e"] (defScope s__law_sort) := ⟨rfl, rfl, rfl, by decide +kernel, rfl, by decide +kernel, by decide +kernel⟩
def spSortZ (K : PySem.W.Frag) : SpZ := fun p vs H Q _ => ∃ (x : Str) (dd : Addr) (fs : List (Str × V)) (i : Nat), vs = [.ref p.1] ∧ ExZ p (He.ga K x) dd ∧ H dd = some (.xd fs) ∧ SortOk K x i ∧ ∀ H', Same H H' → Q (.int ((i : Nat) : Int)) H'
structure ErrG (K : PySem.W.Frag) (mg : Str → Option Value) : Prop where
  at_ : ∀ y ∈ errL ++ (["PassError", "FindError", "LimitError"] : List Str), mg y = some (.ref (He.ga K y))
theorem ok_sortz (D : Df K mg "_law_sort" s__law_sort) (G : ErrG K mg) (m_isinstance : mg "isinstance" = none) (m_ValueError : mg "ValueError" = none) (m_LookupError : mg "LookupError" = none) (m_ArithmeticError : mg "ArithmeticError" = none) : ClZ P w K mg base 1 "_law_sort" s__law_sort ["_law_e"] (spSortZ K) := by
  refine D.okZ sc__law_sort (fun _ _ _ _ _ _ us hl => match us, hl with | [_], _ => rfl) (fun p vs H Q E h => ?_) (fun f cdv A outer s H vs Q E p hr h => ?_)
  · obtain ⟨x, dd, fs, i, rfl, _⟩ := h
    rfl
  · obtain ⟨x, dd, fs, i, rfl, ez, hd, so, q⟩ := h
    have g_InvalidRow := G.at_ "InvalidRow" (by decide +kernel)
    have g_InvalidNumber := G.at_ "InvalidNumber" (by decide +kernel)
    have g_InvalidKind := G.at_ "InvalidKind" (by decide +kernel)
    have g_InvalidWord := G.at_ "InvalidWord" (by decide +kernel)
    have g_InvalidSize := G.at_ "InvalidSize" (by decide +kernel)
    have g_InvalidProgram := G.at_ "InvalidProgram" (by decide +kernel)
    have g_InvalidText := G.at_ "InvalidText" (by decide +kernel)
    have g_InvalidHeights := G.at_ "InvalidHeights" (by decide +kernel)
    have g_InvalidWishes := G.at_ "InvalidWishes" (by decide +kernel)
    have g_InvalidRecord := G.at_ "InvalidRecord" (by decide +kernel)
    have g_InvalidPattern := G.at_ "InvalidPattern" (by decide +kernel)
    have g_InvalidShare := G.at_ "InvalidShare" (by decide +kernel)
    have g_InvalidPeople := G.at_ "InvalidPeople" (by decide +kernel)
    have g_InvalidName := G.at_ "InvalidName" (by decide +kernel)
    have g_InvalidHeight := G.at_ "InvalidHeight" (by decide +kernel)
    have g_InvalidDeed := G.at_ "InvalidDeed" (by decide +kernel)
    have g_InvalidCommand := G.at_ "InvalidCommand" (by decide +kernel)
    have g_NotFinal := G.at_ "NotFinal" (by decide +kernel)
    have g_OtherPersons := G.at_ "OtherPersons" (by decide +kernel)
    have g_UnknownName := G.at_ "UnknownName" (by decide +kernel)
    have g_UnknownHeight := G.at_ "UnknownHeight" (by decide +kernel)
    have g_NoOrder := G.at_ "NoOrder" (by decide +kernel)
    have g_NameTaken := G.at_ "NameTaken" (by decide +kernel)
    have g_HeightTaken := G.at_ "HeightTaken" (by decide +kernel)
    have g_NothingToUndo := G.at_ "NothingToUndo" (by decide +kernel)
    have g_TooManySeats := G.at_ "TooManySeats" (by decide +kernel)
    have g_TooManyPeople := G.at_ "TooManyPeople" (by decide +kernel)
    have g_WordTooShort := G.at_ "WordTooShort" (by decide +kernel)
    have g_TooManyDeeds := G.at_ "TooManyDeeds" (by decide +kernel)
    have g_LastPerson := G.at_ "LastPerson" (by decide +kernel)
    have g_PassError := G.at_ "PassError" (by decide +kernel)
    have g_FindError := G.at_ "FindError" (by decide +kernel)
    have g_LimitError := G.at_ "LimitError" (by decide +kernel)
    have hp0 : p ∈ (L2H.cxH CX0 P w K mg base N__law_sort "_law_sort" (defScope s__law_sort) f cdv A outer s H E p).nox.pn := List.mem_cons_self
    have hu0 : (L2H.cxH CX0 P w K mg base N__law_sort "_law_sort" (defScope s__law_sort) f cdv A outer s H E p).nox.A.units + 64 < cLine := by
      have := hr.un
      show (A.deeper _).units + 64 < cLine
      omega
    refine ⟨_, 
      (pss_cons (ps_set (i := 1) sc__law_sort.nd rfl (Or.inl rfl) (pe_lst (pa_cons (pe_callB (call_isZ so.ec hp0 ez) (by rfl) m_isinstance (by decide +kernel) (pa_cons (pv 0) (pa_cons (pe_glob (v := .ref (He.ga K "InvalidRow")) (by rfl) g_InvalidRow rfl) pa_nil))) (pa_cons (pe_callB (call_isZ so.ec hp0 ez) (by rfl) m_isinstance (by decide +kernel) (pa_cons (pv 0) (pa_cons (pe_glob (v := .ref (He.ga K "InvalidNumber")) (by rfl) g_InvalidNumber rfl) pa_nil))) (pa_cons (pe_callB (call_isZ so.ec hp0 ez) (by rfl) m_isinstance (by decide +kernel) (pa_cons (pv 0) (pa_cons (pe_glob (v := .ref (He.ga K "InvalidKind")) (by rfl) g_InvalidKind rfl) pa_nil))) pa_nil))))) 
      (pss_cons (ps_set (i := 1) sc__law_sort.nd rfl (Or.inl rfl) (pe_op op_cat (pv 1) (pe_lst (pa_cons (pe_callB (call_isZ so.ec hp0 ez) (by rfl) m_isinstance (by decide +kernel) (pa_cons (pv 0) (pa_cons (pe_glob (v := .ref (He.ga K "InvalidWord")) (by rfl) g_InvalidWord rfl) pa_nil))) (pa_cons (pe_callB (call_isZ so.ec hp0 ez) (by rfl) m_isinstance (by decide +kernel) (pa_cons (pv 0) (pa_cons (pe_glob (v := .ref (He.ga K "InvalidSize")) (by rfl) g_InvalidSize rfl) pa_nil))) (pa_cons (pe_callB (call_isZ so.ec hp0 ez) (by rfl) m_isinstance (by decide +kernel) (pa_cons (pv 0) (pa_cons (pe_glob (v := .ref (He.ga K "InvalidProgram")) (by rfl) g_InvalidProgram rfl) pa_nil))) pa_nil)))))) 
      (pss_cons (ps_set (i := 1) sc__law_sort.nd rfl (Or.inl rfl) (pe_op op_cat (pv 1) (pe_lst (pa_cons (pe_callB (call_isZ so.ec hp0 ez) (by rfl) m_isinstance (by decide +kernel) (pa_cons (pv 0) (pa_cons (pe_glob (v := .ref (He.ga K "InvalidText")) (by rfl) g_InvalidText rfl) pa_nil))) (pa_cons (pe_callB (call_isZ so.ec hp0 ez) (by rfl) m_isinstance (by decide +kernel) (pa_cons (pv 0) (pa_cons (pe_glob (v := .ref (He.ga K "InvalidHeights")) (by rfl) g_InvalidHeights rfl) pa_nil))) (pa_cons (pe_callB (call_isZ so.ec hp0 ez) (by rfl) m_isinstance (by decide +kernel) (pa_cons (pv 0) (pa_cons (pe_glob (v := .ref (He.ga K "InvalidWishes")) (by rfl) g_InvalidWishes rfl) pa_nil))) pa_nil)))))) 
      (pss_cons (ps_set (i := 1) sc__law_sort.nd rfl (Or.inl rfl) (pe_op op_cat (pv 1) (pe_lst (pa_cons (pe_callB (call_isZ so.ec hp0 ez) (by rfl) m_isinstance (by decide +kernel) (pa_cons (pv 0) (pa_cons (pe_glob (v := .ref (He.ga K "InvalidRecord")) (by rfl) g_InvalidRecord rfl) pa_nil))) (pa_cons (pe_callB (call_isZ so.ec hp0 ez) (by rfl) m_isinstance (by decide +kernel) (pa_cons (pv 0) (pa_cons (pe_glob (v := .ref (He.ga K "InvalidPattern")) (by rfl) g_InvalidPattern rfl) pa_nil))) (pa_cons (pe_callB (call_isZ so.ec hp0 ez) (by rfl) m_isinstance (by decide +kernel) (pa_cons (pv 0) (pa_cons (pe_glob (v := .ref (He.ga K "InvalidShare")) (by rfl) g_InvalidShare rfl) pa_nil))) pa_nil)))))) 
      (pss_cons (ps_set (i := 1) sc__law_sort.nd rfl (Or.inl rfl) (pe_op op_cat (pv 1) (pe_lst (pa_cons (pe_callB (call_isZ so.ec hp0 ez) (by rfl) m_isinstance (by decide +kernel) (pa_cons (pv 0) (pa_cons (pe_glob (v := .ref (He.ga K "InvalidPeople")) (by rfl) g_InvalidPeople rfl) pa_nil))) (pa_cons (pe_callB (call_isZ so.ec hp0 ez) (by rfl) m_isinstance (by decide +kernel) (pa_cons (pv 0) (pa_cons (pe_glob (v := .ref (He.ga K "InvalidName")) (by rfl) g_InvalidName rfl) pa_nil))) (pa_cons (pe_callB (call_isZ so.ec hp0 ez) (by rfl) m_isinstance (by decide +kernel) (pa_cons (pv 0) (pa_cons (pe_glob (v := .ref (He.ga K "InvalidHeight")) (by rfl) g_InvalidHeight rfl) pa_nil))) pa_nil)))))) 
      (pss_cons (ps_set (i := 1) sc__law_sort.nd rfl (Or.inl rfl) (pe_op op_cat (pv 1) (pe_lst (pa_cons (pe_callB (call_isZ so.ec hp0 ez) (by rfl) m_isinstance (by decide +kernel) (pa_cons (pv 0) (pa_cons (pe_glob (v := .ref (He.ga K "InvalidDeed")) (by rfl) g_InvalidDeed rfl) pa_nil))) (pa_cons (pe_callB (call_isZ so.ec hp0 ez) (by rfl) m_isinstance (by decide +kernel) (pa_cons (pv 0) (pa_cons (pe_glob (v := .ref (He.ga K "InvalidCommand")) (by rfl) g_InvalidCommand rfl) pa_nil))) (pa_cons (pe_callB (call_isZ so.ec hp0 ez) (by rfl) m_isinstance (by decide +kernel) (pa_cons (pv 0) (pa_cons (pe_glob (v := .ref (He.ga K "NotFinal")) (by rfl) g_NotFinal rfl) pa_nil))) pa_nil)))))) 
      (pss_cons (ps_set (i := 1) sc__law_sort.nd rfl (Or.inl rfl) (pe_op op_cat (pv 1) (pe_lst (pa_cons (pe_callB (call_isZ so.ec hp0 ez) (by rfl) m_isinstance (by decide +kernel) (pa_cons (pv 0) (pa_cons (pe_glob (v := .ref (He.ga K "OtherPersons")) (by rfl) g_OtherPersons rfl) pa_nil))) (pa_cons (pe_callB (call_isZ so.ec hp0 ez) (by rfl) m_isinstance (by decide +kernel) (pa_cons (pv 0) (pa_cons (pe_glob (v := .ref (He.ga K "UnknownName")) (by rfl) g_UnknownName rfl) pa_nil))) (pa_cons (pe_callB (call_isZ so.ec hp0 ez) (by rfl) m_isinstance (by decide +kernel) (pa_cons (pv 0) (pa_cons (pe_glob (v := .ref (He.ga K "UnknownHeight")) (by rfl) g_UnknownHeight rfl) pa_nil))) pa_nil)))))) 
      (pss_cons (ps_set (i := 1) sc__law_sort.nd rfl (Or.inl rfl) (pe_op op_cat (pv 1) (pe_lst (pa_cons (pe_callB (call_isZ so.ec hp0 ez) (by rfl) m_isinstance (by decide +kernel) (pa_cons (pv 0) (pa_cons (pe_glob (v := .ref (He.ga K "NoOrder")) (by rfl) g_NoOrder rfl) pa_nil))) (pa_cons (pe_callB (call_isZ so.ec hp0 ez) (by rfl) m_isinstance (by decide +kernel) (pa_cons (pv 0) (pa_cons (pe_glob (v := .ref (He.ga K "NameTaken")) (by rfl) g_NameTaken rfl) pa_nil))) (pa_cons (pe_callB (call_isZ so.ec hp0 ez) (by rfl) m_isinstance (by decide +kernel) (pa_cons (pv 0) (pa_cons (pe_glob (v := .ref (He.ga K "HeightTaken")) (by rfl) g_HeightTaken rfl) pa_nil))) pa_nil)))))) 
      (pss_cons (ps_set (i := 1) sc__law_sort.nd rfl (Or.inl rfl) (pe_op op_cat (pv 1) (pe_lst (pa_cons (pe_callB (call_isZ so.ec hp0 ez) (by rfl) m_isinstance (by decide +kernel) (pa_cons (pv 0) (pa_cons (pe_glob (v := .ref (He.ga K "NothingToUndo")) (by rfl) g_NothingToUndo rfl) pa_nil))) (pa_cons (pe_callB (call_isZ so.ec hp0 ez) (by rfl) m_isinstance (by decide +kernel) (pa_cons (pv 0) (pa_cons (pe_glob (v := .ref (He.ga K "TooManySeats")) (by rfl) g_TooManySeats rfl) pa_nil))) (pa_cons (pe_callB (call_isZ so.ec hp0 ez) (by rfl) m_isinstance (by decide +kernel) (pa_cons (pv 0) (pa_cons (pe_glob (v := .ref (He.ga K "TooManyPeople")) (by rfl) g_TooManyPeople rfl) pa_nil))) pa_nil)))))) 
      (pss_cons (ps_set (i := 1) sc__law_sort.nd rfl (Or.inl rfl) (pe_op op_cat (pv 1) (pe_lst (pa_cons (pe_callB (call_isZ so.ec hp0 ez) (by rfl) m_isinstance (by decide +kernel) (pa_cons (pv 0) (pa_cons (pe_glob (v := .ref (He.ga K "WordTooShort")) (by rfl) g_WordTooShort rfl) pa_nil))) (pa_cons (pe_callB (call_isZ so.ec hp0 ez) (by rfl) m_isinstance (by decide +kernel) (pa_cons (pv 0) (pa_cons (pe_glob (v := .ref (He.ga K "TooManyDeeds")) (by rfl) g_TooManyDeeds rfl) pa_nil))) (pa_cons (pe_callB (call_isZ so.ec hp0 ez) (by rfl) m_isinstance (by decide +kernel) (pa_cons (pv 0) (pa_cons (pe_glob (v := .ref (He.ga K "LastPerson")) (by rfl) g_LastPerson rfl) pa_nil))) pa_nil)))))) 
      (pss_cons (ps_set (i := 2) sc__law_sort.nd rfl (Or.inl rfl) (pe_lst (pa_cons (pe_callB (call_isZ so.ec hp0 ez) (by rfl) m_isinstance (by decide +kernel) (pa_cons (pv 0) (pa_cons (pe_glob (v := .ref (He.ga K "PassError")) (by rfl) g_PassError rfl) pa_nil))) (pa_cons (pe_callB (call_isZ so.ec hp0 ez) (by rfl) m_isinstance (by decide +kernel) (pa_cons (pv 0) (pa_cons (pe_glob (v := .ref (He.ga K "FindError")) (by rfl) g_FindError rfl) pa_nil))) (pa_cons (pe_callB (call_isZ so.ec hp0 ez) (by rfl) m_isinstance (by decide +kernel) (pa_cons (pv 0) (pa_cons (pe_glob (v := .ref (He.ga K "LimitError")) (by rfl) g_LimitError rfl) pa_nil))) pa_nil))))) 
      (pss_cons (ps_set (i := 3) sc__law_sort.nd rfl (Or.inl rfl) (pe_lst (pa_cons (pe_callB (call_isZ so.ec hp0 ez) (by rfl) m_isinstance (by decide +kernel) (pa_cons (pv 0) (pa_cons (pe_bltn (v := .ty "ValueError") (by rfl) m_ValueError (by decide +kernel) rfl) pa_nil))) (pa_cons (pe_callB (call_isZ so.ec hp0 ez) (by rfl) m_isinstance (by decide +kernel) (pa_cons (pv 0) (pa_cons (pe_bltn (v := .ty "LookupError") (by rfl) m_LookupError (by decide +kernel) rfl) pa_nil))) (pa_cons (pe_callB (call_isZ so.ec hp0 ez) (by rfl) m_isinstance (by decide +kernel) (pa_cons (pv 0) (pa_cons (pe_bltn (v := .ty "ArithmeticError") (by rfl) m_ArithmeticError (by decide +kernel) rfl) pa_nil))) pa_nil))))) 
      (pss_cons (ps_if (PW.pt (pw_or (pt_cmpR op_ne (pe_bm PySem.F.plainAttrs_list PySem.F.slot_list_count PySem.F.type_list_count mt_fcount (pv 1) (pa_cons pe_bl pa_nil)) pe_int (nomark _)) (pw_or1 (pt_cmpR (op_neD hu0) (pv 3) (pv 2) (nomark _))))) (pss_one (ps_ret (pe_op op_sub pe_int pe_int))) pss_nil) 
      (pss_cons (ps_set (i := 4) sc__law_sort.nd rfl (Or.inl rfl) (pe_bm PySem.F.plainAttrs_list PySem.F.slot_list_index PySem.F.type_list_index mt_index (pv 1) (pa_cons pe_bl pa_nil))) 
      (pss_one (ps_ret (pe_ifExp (pt_cmpR (op_eqD hu0) (pv 2) (pe_lst (pa_cons (pe_cmpR op_lt (pv 4) pe_int (nomark _)) (pa_cons (pe_chain op_lt op_lt pe_int (pv 4) pe_int) (pa_cons (pe_cmpR op_gt (pv 4) pe_int (nomark _)) pa_nil)))) (nomark _)) (pv 4) (pe_op op_sub pe_int pe_int)))))))))))))))))), ?_⟩
    have isa : ∀ (j : Nat) (y : Str), errL[j]? = some y → PySem.W.kitOne K (.ref (He.ga K x)) (.ref (He.ga K y)) = some (decide (i = j)) := so.is
    have sA : Same H H := Same.refl H
    refine ⟨_, rfl, _, _, _, fs, rfl, (fun _ r => r), isa 0 _ rfl, hd, ?_⟩
    refine ⟨_, rfl, _, _, _, fs, rfl, (fun _ r => r), isa 1 _ rfl, hd, ?_⟩
    refine ⟨_, rfl, _, _, _, fs, rfl, (fun _ r => r), isa 2 _ rfl, hd, ?_⟩
    refine ⟨(by show 3 ≤ sizeLine; decide), fun a0 na0 => ?_⟩
    have sa0 := same_upd (o := .lst [.bl (decide (i = 0)), .bl (decide (i = 1)), .bl (decide (i = 2))]) na0
    have ha0 : upd H a0 (.lst [.bl (decide (i = 0)), .bl (decide (i = 1)), .bl (decide (i = 2))]) a0 = some (.lst [.bl (decide (i = 0)), .bl (decide (i = 1)), .bl (decide (i = 2))]) := upd_same
    generalize upd H a0 (.lst [.bl (decide (i = 0)), .bl (decide (i = 1)), .bl (decide (i = 2))]) = G0 at sa0 ha0 ⊢
    replace hd := sa0 _ _ hd
    replace sA := sA.trans sa0
    replace ha0 : G0 a0 = some (.lst (ksL i 3)) := ha0
    have hk0 := ha0
    refine ⟨_, rfl, ?_⟩
    refine ⟨_, rfl, _, _, _, fs, rfl, (fun _ r => r), isa 3 _ rfl, hd, ?_⟩
    refine ⟨_, rfl, _, _, _, fs, rfl, (fun _ r => r), isa 4 _ rfl, hd, ?_⟩
    refine ⟨_, rfl, _, _, _, fs, rfl, (fun _ r => r), isa 5 _ rfl, hd, ?_⟩
    refine ⟨(by show 3 ≤ sizeLine; decide), fun a1 na1 => ?_⟩
    have sa1 := same_upd (o := .lst [.bl (decide (i = 3)), .bl (decide (i = 4)), .bl (decide (i = 5))]) na1
    have ha1 : upd G0 a1 (.lst [.bl (decide (i = 3)), .bl (decide (i = 4)), .bl (decide (i = 5))]) a1 = some (.lst [.bl (decide (i = 3)), .bl (decide (i = 4)), .bl (decide (i = 5))]) := upd_same
    generalize upd G0 a1 (.lst [.bl (decide (i = 3)), .bl (decide (i = 4)), .bl (decide (i = 5))]) = G1 at sa1 ha1 ⊢
    replace hd := sa1 _ _ hd
    replace sA := sA.trans sa1
    refine ⟨a0, a1, _, _, rfl, rfl, sa1 _ _ hk0, ha1, (by rw [ksL_len]; show 3 + 3 ≤ sizeLine; decide), fun k1 nk1 => ?_⟩
    have sk1 := same_upd (o := .lst (ksL i 3 ++ [.bl (decide (i = 3)), .bl (decide (i = 4)), .bl (decide (i = 5))])) nk1
    have hk1 : upd G1 k1 (.lst (ksL i 3 ++ [.bl (decide (i = 3)), .bl (decide (i = 4)), .bl (decide (i = 5))])) k1 = some (.lst (ksL i 6)) := by rw [upd_same, ksL_add]
    generalize upd G1 k1 (.lst (ksL i 3 ++ [.bl (decide (i = 3)), .bl (decide (i = 4)), .bl (decide (i = 5))])) = G2 at sk1 hk1 ⊢
    replace hd := sk1 _ _ hd
    replace sA := sA.trans sk1
    refine ⟨_, rfl, ?_⟩
    refine ⟨_, rfl, _, _, _, fs, rfl, (fun _ r => r), isa 6 _ rfl, hd, ?_⟩
    refine ⟨_, rfl, _, _, _, fs, rfl, (fun _ r => r), isa 7 _ rfl, hd, ?_⟩
    refine ⟨_, rfl, _, _, _, fs, rfl, (fun _ r => r), isa 8 _ rfl, hd, ?_⟩
    refine ⟨(by show 3 ≤ sizeLine; decide), fun a2 na2 => ?_⟩
    have sa2 := same_upd (o := .lst [.bl (decide (i = 6)), .bl (decide (i = 7)), .bl (decide (i = 8))]) na2
    have ha2 : upd G2 a2 (.lst [.bl (decide (i = 6)), .bl (decide (i = 7)), .bl (decide (i = 8))]) a2 = some (.lst [.bl (decide (i = 6)), .bl (decide (i = 7)), .bl (decide (i = 8))]) := upd_same
    generalize upd G2 a2 (.lst [.bl (decide (i = 6)), .bl (decide (i = 7)), .bl (decide (i = 8))]) = G3 at sa2 ha2 ⊢
    replace hd := sa2 _ _ hd
    replace sA := sA.trans sa2
    refine ⟨k1, a2, _, _, rfl, rfl, sa2 _ _ hk1, ha2, (by rw [ksL_len]; show 6 + 3 ≤ sizeLine; decide), fun k2 nk2 => ?_⟩
    have sk2 := same_upd (o := .lst (ksL i 6 ++ [.bl (decide (i = 6)), .bl (decide (i = 7)), .bl (decide (i = 8))])) nk2
    have hk2 : upd G3 k2 (.lst (ksL i 6 ++ [.bl (decide (i = 6)), .bl (decide (i = 7)), .bl (decide (i = 8))])) k2 = some (.lst (ksL i 9)) := by rw [upd_same, ksL_add]
    generalize upd G3 k2 (.lst (ksL i 6 ++ [.bl (decide (i = 6)), .bl (decide (i = 7)), .bl (decide (i = 8))])) = G4 at sk2 hk2 ⊢
    replace hd := sk2 _ _ hd
    replace sA := sA.trans sk2
    refine ⟨_, rfl, ?_⟩
    refine ⟨_, rfl, _, _, _, fs, rfl, (fun _ r => r), isa 9 _ rfl, hd, ?_⟩
    refine ⟨_, rfl, _, _, _, fs, rfl, (fun _ r => r), isa 10 _ rfl, hd, ?_⟩
    refine ⟨_, rfl, _, _, _, fs, rfl, (fun _ r => r), isa 11 _ rfl, hd, ?_⟩
    refine ⟨(by show 3 ≤ sizeLine; decide), fun a3 na3 => ?_⟩
    have sa3 := same_upd (o := .lst [.bl (decide (i = 9)), .bl (decide (i = 10)), .bl (decide (i = 11))]) na3
    have ha3 : upd G4 a3 (.lst [.bl (decide (i = 9)), .bl (decide (i = 10)), .bl (decide (i = 11))]) a3 = some (.lst [.bl (decide (i = 9)), .bl (decide (i = 10)), .bl (decide (i = 11))]) := upd_same
    generalize upd G4 a3 (.lst [.bl (decide (i = 9)), .bl (decide (i = 10)), .bl (decide (i = 11))]) = G5 at sa3 ha3 ⊢
    replace hd := sa3 _ _ hd
    replace sA := sA.trans sa3
    refine ⟨k2, a3, _, _, rfl, rfl, sa3 _ _ hk2, ha3, (by rw [ksL_len]; show 9 + 3 ≤ sizeLine; decide), fun k3 nk3 => ?_⟩
    have sk3 := same_upd (o := .lst (ksL i 9 ++ [.bl (decide (i = 9)), .bl (decide (i = 10)), .bl (decide (i = 11))])) nk3
    have hk3 : upd G5 k3 (.lst (ksL i 9 ++ [.bl (decide (i = 9)), .bl (decide (i = 10)), .bl (decide (i = 11))])) k3 = some (.lst (ksL i 12)) := by rw [upd_same, ksL_add]
    generalize upd G5 k3 (.lst (ksL i 9 ++ [.bl (decide (i = 9)), .bl (decide (i = 10)), .bl (decide (i = 11))])) = G6 at sk3 hk3 ⊢
    replace hd := sk3 _ _ hd
    replace sA := sA.trans sk3
    refine ⟨_, rfl, ?_⟩
    refine ⟨_, rfl, _, _, _, fs, rfl, (fun _ r => r), isa 12 _ rfl, hd, ?_⟩
    refine ⟨_, rfl, _, _, _, fs, rfl, (fun _ r => r), isa 13 _ rfl, hd, ?_⟩
    refine ⟨_, rfl, _, _, _, fs, rfl, (fun _ r => r), isa 14 _ rfl, hd, ?_⟩
    refine ⟨(by show 3 ≤ sizeLine; decide), fun a4 na4 => ?_⟩
    have sa4 := same_upd (o := .lst [.bl (decide (i = 12)), .bl (decide (i = 13)), .bl (decide (i = 14))]) na4
    have ha4 : upd G6 a4 (.lst [.bl (decide (i = 12)), .bl (decide (i = 13)), .bl (decide (i = 14))]) a4 = some (.lst [.bl (decide (i = 12)), .bl (decide (i = 13)), .bl (decide (i = 14))]) := upd_same
    generalize upd G6 a4 (.lst [.bl (decide (i = 12)), .bl (decide (i = 13)), .bl (decide (i = 14))]) = G7 at sa4 ha4 ⊢
    replace hd := sa4 _ _ hd
    replace sA := sA.trans sa4
    refine ⟨k3, a4, _, _, rfl, rfl, sa4 _ _ hk3, ha4, (by rw [ksL_len]; show 12 + 3 ≤ sizeLine; decide), fun k4 nk4 => ?_⟩
    have sk4 := same_upd (o := .lst (ksL i 12 ++ [.bl (decide (i = 12)), .bl (decide (i = 13)), .bl (decide (i = 14))])) nk4
    have hk4 : upd G7 k4 (.lst (ksL i 12 ++ [.bl (decide (i = 12)), .bl (decide (i = 13)), .bl (decide (i = 14))])) k4 = some (.lst (ksL i 15)) := by rw [upd_same, ksL_add]
    generalize upd G7 k4 (.lst (ksL i 12 ++ [.bl (decide (i = 12)), .bl (decide (i = 13)), .bl (decide (i = 14))])) = G8 at sk4 hk4 ⊢
    replace hd := sk4 _ _ hd
    replace sA := sA.trans sk4
    refine ⟨_, rfl, ?_⟩
    refine ⟨_, rfl, _, _, _, fs, rfl, (fun _ r => r), isa 15 _ rfl, hd, ?_⟩
    refine ⟨_, rfl, _, _, _, fs, rfl, (fun _ r => r), isa 16 _ rfl, hd, ?_⟩
    refine ⟨_, rfl, _, _, _, fs, rfl, (fun _ r => r), isa 17 _ rfl, hd, ?_⟩
    refine ⟨(by show 3 ≤ sizeLine; decide), fun a5 na5 => ?_⟩
    have sa5 := same_upd (o := .lst [.bl (decide (i = 15)), .bl (decide (i = 16)), .bl (decide (i = 17))]) na5
    have ha5 : upd G8 a5 (.lst [.bl (decide (i = 15)), .bl (decide (i = 16)), .bl (decide (i = 17))]) a5 = some (.lst [.bl (decide (i = 15)), .bl (decide (i = 16)), .bl (decide (i = 17))]) := upd_same
    generalize upd G8 a5 (.lst [.bl (decide (i = 15)), .bl (decide (i = 16)), .bl (decide (i = 17))]) = G9 at sa5 ha5 ⊢
    replace hd := sa5 _ _ hd
    replace sA := sA.trans sa5
    refine ⟨k4, a5, _, _, rfl, rfl, sa5 _ _ hk4, ha5, (by rw [ksL_len]; show 15 + 3 ≤ sizeLine; decide), fun k5 nk5 => ?_⟩
    have sk5 := same_upd (o := .lst (ksL i 15 ++ [.bl (decide (i = 15)), .bl (decide (i = 16)), .bl (decide (i = 17))])) nk5
    have hk5 : upd G9 k5 (.lst (ksL i 15 ++ [.bl (decide (i = 15)), .bl (decide (i = 16)), .bl (decide (i = 17))])) k5 = some (.lst (ksL i 18)) := by rw [upd_same, ksL_add]
    generalize upd G9 k5 (.lst (ksL i 15 ++ [.bl (decide (i = 15)), .bl (decide (i = 16)), .bl (decide (i = 17))])) = G10 at sk5 hk5 ⊢
    replace hd := sk5 _ _ hd
    replace sA := sA.trans sk5
    refine ⟨_, rfl, ?_⟩
    refine ⟨_, rfl, _, _, _, fs, rfl, (fun _ r => r), isa 18 _ rfl, hd, ?_⟩
    refine ⟨_, rfl, _, _, _, fs, rfl, (fun _ r => r), isa 19 _ rfl, hd, ?_⟩
    refine ⟨_, rfl, _, _, _, fs, rfl, (fun _ r => r), isa 20 _ rfl, hd, ?_⟩
    refine ⟨(by show 3 ≤ sizeLine; decide), fun a6 na6 => ?_⟩
    have sa6 := same_upd (o := .lst [.bl (decide (i = 18)), .bl (decide (i = 19)), .bl (decide (i = 20))]) na6
    have ha6 : upd G10 a6 (.lst [.bl (decide (i = 18)), .bl (decide (i = 19)), .bl (decide (i = 20))]) a6 = some (.lst [.bl (decide (i = 18)), .bl (decide (i = 19)), .bl (decide (i = 20))]) := upd_same
    generalize upd G10 a6 (.lst [.bl (decide (i = 18)), .bl (decide (i = 19)), .bl (decide (i = 20))]) = G11 at sa6 ha6 ⊢
    replace hd := sa6 _ _ hd
    replace sA := sA.trans sa6
    refine ⟨k5, a6, _, _, rfl, rfl, sa6 _ _ hk5, ha6, (by rw [ksL_len]; show 18 + 3 ≤ sizeLine; decide), fun k6 nk6 => ?_⟩
    have sk6 := same_upd (o := .lst (ksL i 18 ++ [.bl (decide (i = 18)), .bl (decide (i = 19)), .bl (decide (i = 20))])) nk6
    have hk6 : upd G11 k6 (.lst (ksL i 18 ++ [.bl (decide (i = 18)), .bl (decide (i = 19)), .bl (decide (i = 20))])) k6 = some (.lst (ksL i 21)) := by rw [upd_same, ksL_add]
    generalize upd G11 k6 (.lst (ksL i 18 ++ [.bl (decide (i = 18)), .bl (decide (i = 19)), .bl (decide (i = 20))])) = G12 at sk6 hk6 ⊢
    replace hd := sk6 _ _ hd
    replace sA := sA.trans sk6
    refine ⟨_, rfl, ?_⟩
    refine ⟨_, rfl, _, _, _, fs, rfl, (fun _ r => r), isa 21 _ rfl, hd, ?_⟩
    refine ⟨_, rfl, _, _, _, fs, rfl, (fun _ r => r), isa 22 _ rfl, hd, ?_⟩
    refine ⟨_, rfl, _, _, _, fs, rfl, (fun _ r => r), isa 23 _ rfl, hd, ?_⟩
    refine ⟨(by show 3 ≤ sizeLine; decide), fun a7 na7 => ?_⟩
    have sa7 := same_upd (o := .lst [.bl (decide (i = 21)), .bl (decide (i = 22)), .bl (decide (i = 23))]) na7
    have ha7 : upd G12 a7 (.lst [.bl (decide (i = 21)), .bl (decide (i = 22)), .bl (decide (i = 23))]) a7 = some (.lst [.bl (decide (i = 21)), .bl (decide (i = 22)), .bl (decide (i = 23))]) := upd_same
    generalize upd G12 a7 (.lst [.bl (decide (i = 21)), .bl (decide (i = 22)), .bl (decide (i = 23))]) = G13 at sa7 ha7 ⊢
    replace hd := sa7 _ _ hd
    replace sA := sA.trans sa7
    refine ⟨k6, a7, _, _, rfl, rfl, sa7 _ _ hk6, ha7, (by rw [ksL_len]; show 21 + 3 ≤ sizeLine; decide), fun k7 nk7 => ?_⟩
    have sk7 := same_upd (o := .lst (ksL i 21 ++ [.bl (decide (i = 21)), .bl (decide (i = 22)), .bl (decide (i = 23))])) nk7
    have hk7 : upd G13 k7 (.lst (ksL i 21 ++ [.bl (decide (i = 21)), .bl (decide (i = 22)), .bl (decide (i = 23))])) k7 = some (.lst (ksL i 24)) := by rw [upd_same, ksL_add]
    generalize upd G13 k7 (.lst (ksL i 21 ++ [.bl (decide (i = 21)), .bl (decide (i = 22)), .bl (decide (i = 23))])) = G14 at sk7 hk7 ⊢
    replace hd := sk7 _ _ hd
    replace sA := sA.trans sk7
    refine ⟨_, rfl, ?_⟩
    refine ⟨_, rfl, _, _, _, fs, rfl, (fun _ r => r), isa 24 _ rfl, hd, ?_⟩
    refine ⟨_, rfl, _, _, _, fs, rfl, (fun _ r => r), isa 25 _ rfl, hd, ?_⟩
    refine ⟨_, rfl, _, _, _, fs, rfl, (fun _ r => r), isa 26 _ rfl, hd, ?_⟩
    refine ⟨(by show 3 ≤ sizeLine; decide), fun a8 na8 => ?_⟩
    have sa8 := same_upd (o := .lst [.bl (decide (i = 24)), .bl (decide (i = 25)), .bl (decide (i = 26))]) na8
    have ha8 : upd G14 a8 (.lst [.bl (decide (i = 24)), .bl (decide (i = 25)), .bl (decide (i = 26))]) a8 = some (.lst [.bl (decide (i = 24)), .bl (decide (i = 25)), .bl (decide (i = 26))]) := upd_same
    generalize upd G14 a8 (.lst [.bl (decide (i = 24)), .bl (decide (i = 25)), .bl (decide (i = 26))]) = G15 at sa8 ha8 ⊢
    replace hd := sa8 _ _ hd
    replace sA := sA.trans sa8
    refine ⟨k7, a8, _, _, rfl, rfl, sa8 _ _ hk7, ha8, (by rw [ksL_len]; show 24 + 3 ≤ sizeLine; decide), fun k8 nk8 => ?_⟩
    have sk8 := same_upd (o := .lst (ksL i 24 ++ [.bl (decide (i = 24)), .bl (decide (i = 25)), .bl (decide (i = 26))])) nk8
    have hk8 : upd G15 k8 (.lst (ksL i 24 ++ [.bl (decide (i = 24)), .bl (decide (i = 25)), .bl (decide (i = 26))])) k8 = some (.lst (ksL i 27)) := by rw [upd_same, ksL_add]
    generalize upd G15 k8 (.lst (ksL i 24 ++ [.bl (decide (i = 24)), .bl (decide (i = 25)), .bl (decide (i = 26))])) = G16 at sk8 hk8 ⊢
    replace hd := sk8 _ _ hd
    replace sA := sA.trans sk8
    refine ⟨_, rfl, ?_⟩
    refine ⟨_, rfl, _, _, _, fs, rfl, (fun _ r => r), isa 27 _ rfl, hd, ?_⟩
    refine ⟨_, rfl, _, _, _, fs, rfl, (fun _ r => r), isa 28 _ rfl, hd, ?_⟩
    refine ⟨_, rfl, _, _, _, fs, rfl, (fun _ r => r), isa 29 _ rfl, hd, ?_⟩
    refine ⟨(by show 3 ≤ sizeLine; decide), fun a9 na9 => ?_⟩
    have sa9 := same_upd (o := .lst [.bl (decide (i = 27)), .bl (decide (i = 28)), .bl (decide (i = 29))]) na9
    have ha9 : upd G16 a9 (.lst [.bl (decide (i = 27)), .bl (decide (i = 28)), .bl (decide (i = 29))]) a9 = some (.lst [.bl (decide (i = 27)), .bl (decide (i = 28)), .bl (decide (i = 29))]) := upd_same
    generalize upd G16 a9 (.lst [.bl (decide (i = 27)), .bl (decide (i = 28)), .bl (decide (i = 29))]) = G17 at sa9 ha9 ⊢
    replace hd := sa9 _ _ hd
    replace sA := sA.trans sa9
    refine ⟨k8, a9, _, _, rfl, rfl, sa9 _ _ hk8, ha9, (by rw [ksL_len]; show 27 + 3 ≤ sizeLine; decide), fun k9 nk9 => ?_⟩
    have sk9 := same_upd (o := .lst (ksL i 27 ++ [.bl (decide (i = 27)), .bl (decide (i = 28)), .bl (decide (i = 29))])) nk9
    have hk9 : upd G17 k9 (.lst (ksL i 27 ++ [.bl (decide (i = 27)), .bl (decide (i = 28)), .bl (decide (i = 29))])) k9 = some (.lst (ksL i 30)) := by rw [upd_same, ksL_add]
    generalize upd G17 k9 (.lst (ksL i 27 ++ [.bl (decide (i = 27)), .bl (decide (i = 28)), .bl (decide (i = 29))])) = G18 at sk9 hk9 ⊢
    replace hd := sk9 _ _ hd
    replace sA := sA.trans sk9
    refine ⟨_, rfl, _, _, _, fs, rfl, (fun _ r => r), so.b1, hd, ?_⟩
    refine ⟨_, rfl, _, _, _, fs, rfl, (fun _ r => r), so.b2, hd, ?_⟩
    refine ⟨_, rfl, _, _, _, fs, rfl, (fun _ r => r), so.b3, hd, ?_⟩
    refine ⟨(by show 3 ≤ sizeLine; decide), fun bs nbs => ?_⟩
    have sbs := same_upd (o := .lst [.bl (decide (i < 17)), .bl (decide (16 < i) && decide (i < 25)), .bl (decide (24 < i))]) nbs
    have hbs : upd G18 bs (.lst [.bl (decide (i < 17)), .bl (decide (16 < i) && decide (i < 25)), .bl (decide (24 < i))]) bs = some (.lst [.bl (decide (i < 17)), .bl (decide (16 < i) && decide (i < 25)), .bl (decide (24 < i))]) := upd_same
    generalize upd G18 bs (.lst [.bl (decide (i < 17)), .bl (decide (16 < i) && decide (i < 25)), .bl (decide (24 < i))]) = G19 at sbs hbs ⊢
    replace hd := sbs _ _ hd
    replace sA := sA.trans sbs
    refine ⟨_, rfl, _, _, _, fs, rfl, (fun _ r => r), so.o1, hd, ?_⟩
    refine ⟨_, rfl, _, _, _, fs, rfl, (fun _ r => r), so.o2, hd, ?_⟩
    refine ⟨_, rfl, _, _, _, fs, rfl, (fun _ r => r), so.o3, hd, ?_⟩
    refine ⟨(by show 3 ≤ sizeLine; decide), fun ow now => ?_⟩
    have sow := same_upd (o := .lst [.bl (decide (i < 17)), .bl (decide (16 < i) && decide (i < 25)), .bl (decide (24 < i))]) now
    have how : upd G19 ow (.lst [.bl (decide (i < 17)), .bl (decide (16 < i) && decide (i < 25)), .bl (decide (24 < i))]) ow = some (.lst [.bl (decide (i < 17)), .bl (decide (16 < i) && decide (i < 25)), .bl (decide (24 < i))]) := upd_same
    generalize upd G19 ow (.lst [.bl (decide (i < 17)), .bl (decide (16 < i) && decide (i < 25)), .bl (decide (24 < i))]) = G20 at sow how ⊢
    replace hd := sow _ _ hd
    replace sA := sA.trans sow
    have hk := sow _ _ (sbs _ _ hk9)
    have hb := sow _ _ hbs
    refine ⟨_, rfl, .inl ⟨rfl, _, .inl (.inl hk)⟩, k9, _, .bl true, rfl, rfl, .inl (.inl hk), rfl, ksL_flat i 30, rfl, _, rfl, ?_⟩
    rw [ksL_one so.lt, show ((1 : Nat) : Int) = 1 from rfl, neV]
    refine iteF ⟨_, rfl, _, rfl, _, _, Dp_b3 (.inl (.inl how)), Dp_b3 (.inl (.inl hb)), sh_b3 _ _ _, sh_b3 _ _ _, _, rfl, ?_⟩
    rw [eq_b3]
    refine iteF ⟨_, rfl, .inl ⟨rfl, _, .inl (.inl hk)⟩, k9, _, .bl true, i, .bl true, rfl, rfl, .inl (.inl hk), rfl, ksL_flat i 30, ?_, rfl, fun m z hm hz => ?_, ?_⟩
    · rw [ksL_get so.lt, decide_eq_true rfl]
    · rw [ksL_get (by have := so.lt; omega), decide_eq_false (by omega)] at hz
      rw [← Option.some.inj hz]
      rfl
    have fin : ∀ (c : Bool) (F : Hp) (l : Addr), c = (decide (16 < i) && decide (i < 25)) → Same H F → F bs = some (.lst [.bl (decide (i < 17)), .bl (decide (16 < i) && decide (i < 25)), .bl (decide (24 < i))]) → F l = some (.lst [.bl (decide (((i : Nat) : Int) < 17)), .bl c, .bl (decide (24 < ((i : Nat) : Int)))]) →
        Dp K F (.ref bs) (.list [.bool (decide (i < 17)), .bool (decide (16 < i) && decide (i < 25)), .bool (decide (24 < i))]) ∧ Dp K F (.ref l) (.list [.bool (decide (i < 17)), .bool (decide (16 < i) && decide (i < 25)), .bool (decide (24 < i))]) ∧ Same H F := fun c F l hc sF h1 h2 => by
      subst hc
      rw [show decide (((i : Nat) : Int) < 17) = decide (i < 17) from decide_eq_decide.mpr (by omega), show decide (24 < ((i : Nat) : Int)) = decide (24 < i) from decide_eq_decide.mpr (by omega)] at h2
      exact ⟨Dp_b3 (.inl (.inl h1)), Dp_b3 (.inl (.inl h2)), sF⟩
    refine ⟨_, rfl, _, rfl, _, _, rfl, rfl, ?_⟩
    have tail : ∀ c : Bool, c = (decide (16 < i) && decide (i < 25)) → ∀ (l : Addr), G20 l = none → Dp K (upd G20 l (.lst [.bl (decide (((i : Nat) : Int) < 17)), .bl c, .bl (decide (24 < ((i : Nat) : Int)))])) (.ref bs) (.list [.bool (decide (i < 17)), .bool (decide (16 < i) && decide (i < 25)), .bool (decide (24 < i))]) ∧ Dp K (upd G20 l (.lst [.bl (decide (((i : Nat) : Int) < 17)), .bl c, .bl (decide (24 < ((i : Nat) : Int)))])) (.ref l) (.list [.bool (decide (i < 17)), .bool (decide (16 < i) && decide (i < 25)), .bool (decide (24 < i))]) ∧ Same H (upd G20 l (.lst [.bl (decide (((i : Nat) : Int) < 17)), .bl c, .bl (decide (24 < ((i : Nat) : Int)))])) := fun c hc l nl =>
      fin c _ l hc (sA.trans (same_upd nl)) (same_upd nl _ _ hb) upd_same
    refine ⟨_, rfl, _, _, rfl, rfl, _, rfl, ?_⟩
    by_cases h16 : 16 < i
    · rw [decide_eq_true (show (16 : Int) < ((i : Nat) : Int) by omega)]
      refine iteT ⟨_, _, rfl, rfl, _, rfl, _, _, rfl, rfl, (by show 3 ≤ sizeLine; decide), fun l nl => ?_⟩
      obtain ⟨d1, d2, sH⟩ := tail (decide (((i : Nat) : Int) < 25)) (by rw [decide_eq_true h16, Bool.true_and]; exact decide_eq_decide.mpr (by omega)) l nl
      refine ⟨_, _, d1, d2, sh_b3 _ _ _, sh_b3 _ _ _, _, rfl, ?_⟩
      rw [eq_b3]
      exact iteT ⟨_, rfl, q _ sH⟩
    · rw [decide_eq_false (show ¬ (16 : Int) < ((i : Nat) : Int) by omega)]
      refine iteF ⟨_, rfl, _, _, rfl, rfl, (by show 3 ≤ sizeLine; decide), fun l nl => ?_⟩
      obtain ⟨d1, d2, sH⟩ := tail false (by rw [decide_eq_false h16]; rfl) l nl
      refine ⟨_, _, d1, d2, sh_b3 _ _ _, sh_b3 _ _ _, _, rfl, ?_⟩
      rw [eq_b3]
      exact iteT ⟨_, rfl, q _ sH⟩
end
section
variable {P : Program} {w : World} {K : PySem.W.Frag} {mg : Str → Option Value} {base : Heap}
abbrev emAt (K : PySem.W.Frag) (x : Str) : Prop := PySem.W.exmAny K (.ref (He.ga K x)) [.ref (He.ga K "PassError"), .ref (He.ga K "FindError"), .ref (He.ga K "LimitError")] = some true
/-! ### what is told of a call at a door -/
inductive Told (K : PySem.W.Frag) (H : Hp) (d : Nat) (v2 v3 : V) (f0 f1 : Option V) : Str → Str → Prop
  | code {x : V} {z : Str} : d < 5 → f0 = some x → RpE K H x z → Told K H d v2 v3 f0 f1 "code" z
  | mate {x : V} {z : Str} : d = 3 ∨ d = 4 → f0 = none → f1 = some x → RpE K H x z → Told K H d v2 v3 f0 f1 "code" z
  | many {z : Str} : (d < 5 → f0 = none) → (d = 3 ∨ d = 4 → f1 = none) → wholeB v2 1 12 = false → RpE K H v2 z → Told K H d v2 v3 f0 f1 "many" z
  | at_ {m : Nat} {z : Str} : 6 ≤ d → v2 = .int (m : Nat) → 1 ≤ m → m ≤ 12 → wholeB v3 0 ((2 : Int) ^ m - 1 - 1) = false → RpE K H v3 z → Told K H d v2 v3 f0 f1 "at" z
  | told : (d < 5 → f0 = none) → (d = 3 ∨ d = 4 → f1 = none) → wholeB v2 1 12 = true → (6 ≤ d → ∀ m : Nat, v2 = .int (m : Nat) → 1 ≤ m → m ≤ 12 → wholeB v3 0 ((2 : Int) ^ m - 1 - 1) = true) → Told K H d v2 v3 f0 f1 "told" ""
theorem Told.same {H H' : Hp} {d : Nat} {v2 v3 : V} {f0 f1 : Option V} {k z : Str} (h : Told K H d v2 v3 f0 f1 k z) (s : Same H H') : Told K H' d v2 v3 f0 f1 k z := by
  cases h with
  | code a b r => exact .code a b (r.same s)
  | mate a b c r => exact .mate a b c (r.same s)
  | many a b c r => exact .many a b c (r.same s)
  | at_ a b c e f r => exact .at_ a b c e f (r.same s)
  | told a b c e => exact .told a b c e
theorem whole_of {m : Nat} (h1 : 1 ≤ m) (h2 : m ≤ 12) : wholeB (.int (m : Nat)) 1 12 = true := by
  show (decide ((1 : Int) ≤ (m : Nat)) && decide (((m : Nat) : Int) ≤ 12)) = true
  rw [decide_eq_true (by omega), decide_eq_true (by omega)]
  rfl
abbrev s__law_caught : Stmt := top 71
abbrev N__law_caught : List Str := ["_law_door", "_law_code", "_law_mate", "_law_many", "_law_at", "_law_e", "_law_found"]
theorem sc__law_caught : FnScope N__law_caught ["_law_door", "_law_code", "_law_mate", "_law_many", "_law_at"] (defScope s__law_caught) := ⟨rfl, rfl, rfl, by decide +kernel, rfl, by decide +kernel, by decide +kernel⟩
def spCaught (K : PySem.W.Frag) : Sp := fun vs H Q _ => ∃ (d : Nat) (v0 v1 v2 v3 : V) (f0 f1 : Option V) (T2 T3 : String) (k z : Str), vs = [.int (d : Nat), v0, v1, v2, v3] ∧ d < 8 ∧ Dr K H v0 v1 v2 v3 f0 f1 T2 T3 ∧ Told K H d v2 v3 f0 f1 k z ∧ ∀ (t : Addr) (H' : Hp), Same H H' → H' t = some (.tup [.str k, .str z]) → Q (.ref t) H'
theorem ok_caught (D : Df K mg "_law_caught" s__law_caught) (c__law_asked : ClX P w K mg base 6 "_law_asked" s__law_asked ["_law_door", "_law_code", "_law_mate", "_law_many", "_law_at"] (spAsk K)) (c__law_sort : ClZ P w K mg base 1 "_law_sort" s__law_sort ["_law_e"] (spSortZ K))
    (ec_InvalidWord : EC P w K mg base "InvalidWord" "index") (ec_InvalidSize : EC P w K mg base "InvalidSize" "size") (ec_InvalidNumber : EC P w K mg base "InvalidNumber" "number")
    (so3 : SortOk K "InvalidWord" 3) (so1 : SortOk K "InvalidNumber" 1) (so4 : SortOk K "InvalidSize" 4) (em3 : emAt K "InvalidWord") (em1 : emAt K "InvalidNumber") (em4 : emAt K "InvalidSize")
    (g_PassError : mg "PassError" = some (.ref (He.ga K "PassError"))) (g_FindError : mg "FindError" = some (.ref (He.ga K "FindError"))) (g_LimitError : mg "LimitError" = some (.ref (He.ga K "LimitError")))
    (m_repr : mg "repr" = none) : ClG P w K mg base 7 "_law_caught" s__law_caught ["_law_door", "_law_code", "_law_mate", "_law_many", "_law_at"] (spCaught K) := by
  refine D.okG sc__law_caught (fun _ _ _ _ _ _ us hl => match us, hl with | [_, _, _, _, _], _ => rfl) (fun vs H Q E h => ?_) (fun f cdv A outer s H vs Q E hr hgd h => ?_)
  · obtain ⟨d, v0, v1, v2, v3, f0, f1, T2, T3, k, z, rfl, _⟩ := h
    rfl
  · obtain ⟨d, v0, v1, v2, v3, f0, f1, T2, T3, k, z, rfl, dl, dr, td, q⟩ := h
    refine ⟨_, 
      (pss_cons (ps_tryO (i := 5) rfl rfl sc__law_caught.nd rfl rfl (tst3 (by rfl) (by rfl) (by rfl) g_PassError g_FindError g_LimitError) (fun W pn xe tk po => (pss_one (ps_expr (pe_x c__law_asked tk hr (by omega) (by rfl) (pa_cons (pv 0) (pa_cons (pv 1) (pa_cons (pv 2) (pa_cons (pv 3) (pa_cons (pv 4) pa_nil))))))))) (fun a oe cls d pn hz hf => have hrh := rm_mark hr (some (.ref a)); have hp0 : (a, oe) ∈ ((a, oe) :: pn) := List.mem_cons_self; (pss_cons (ps_set (i := 6) sc__law_caught.nd rfl (Or.inl rfl) (pe_z (p := (a, oe)) c__law_sort hrh (by omega) hp0 (by rfl) (pa_cons (pv 5) pa_nil))) (pss_cons (ps_if (pt_cmpR op_eq (pv 6) pe_int (nomark _)) (pss_one (ps_ret (pe_tup (pa_cons pe_str (pa_cons (pe_callB (call_reprK (K := K) rfl hrh hgd) (by rfl) m_repr (by decide +kernel) (pa_cons (pe_xf ec_InvalidWord.xf ec_InvalidWord.noN hz hf (pv 5)) pa_nil)) pa_nil))))) pss_nil) (pss_cons (ps_if (pt_cmpR op_eq (pv 6) pe_int (nomark _)) (pss_one (ps_ret (pe_tup (pa_cons pe_str (pa_cons (pe_callB (call_reprK (K := K) rfl hrh hgd) (by rfl) m_repr (by decide +kernel) (pa_cons (pe_xf ec_InvalidSize.xf ec_InvalidSize.noN hz hf (pv 5)) pa_nil)) pa_nil))))) pss_nil) (pss_one (ps_ret (pe_ifExp (pt_cmpR op_eq (pv 6) pe_int (nomark _)) (pe_tup (pa_cons pe_str (pa_cons (pe_callB (call_reprK (K := K) rfl hrh hgd) (by rfl) m_repr (by decide +kernel) (pa_cons (pe_xf ec_InvalidNumber.xf ec_InvalidNumber.noN hz hf (pv 5)) pa_nil)) pa_nil))) (pe_tup (pa_cons pe_str (pa_cons pe_str pa_nil))))))))))) 
      (pss_one (ps_ret (pe_tup (pa_cons pe_str (pa_cons pe_str pa_nil)))))), ?_⟩
    refine ⟨_, rfl, _, rfl, _, rfl, _, rfl, _, rfl, d, v0, v1, v2, v3, f0, f1, T2, T3, rfl, dl, dr, fun d5 x hx e H1 s1 he => ?_, fun d34 e0 x hx e H1 s1 he => ?_, fun e0 e1 e2 e H1 s1 he => ?_, fun d6 m em m1 m2 e3 e H1 s1 he => ?_, fun e0 e1 e2 e3 r H1 s1 => ?_⟩
    · refine ⟨em3, fun a na oe hz hf => ?_⟩
      refine ⟨_, rfl, "InvalidWord", e, _, 3, rfl, ⟨hz, hf⟩, he, so3, fun H2 s2 => ?_⟩
      have sA := s1.trans s2
      obtain ⟨rfl, rz⟩ : k = "code" ∧ RpE K H x z := by
        cases td with
        | code _ h1 h2 => rw [hx] at h1; cases h1; exact ⟨rfl, h2⟩
        | mate _ h1 _ _ => rw [hx] at h1; cases h1
        | many h1 _ _ _ => have := h1 d5; rw [hx] at this; cases this
        | at_ h1 _ _ _ _ _ => omega
        | told h1 _ _ _ => have := h1 d5; rw [hx] at this; cases this
      refine ⟨_, rfl, rfl, _, rfl, iteT ?_⟩
      refine ⟨_, rfl, rfl, rfl, e, _, _, rfl, s2 _ _ he, rfl, _, z, rfl, rz.same sA, (by show 2 ≤ sizeLine; decide), fun t nt => ?_⟩
      exact q t _ (sA.trans (same_upd nt)) upd_same
    · refine ⟨em3, fun a na oe hz hf => ?_⟩
      refine ⟨_, rfl, "InvalidWord", e, _, 3, rfl, ⟨hz, hf⟩, he, so3, fun H2 s2 => ?_⟩
      have sA := s1.trans s2
      obtain ⟨rfl, rz⟩ : k = "code" ∧ RpE K H x z := by
        cases td with
        | code _ h1 h2 => rw [e0] at h1; cases h1
        | mate _ _ h1 h2 => rw [hx] at h1; cases h1; exact ⟨rfl, h2⟩
        | many _ h1 _ _ => have := h1 d34; rw [hx] at this; cases this
        | at_ h1 _ _ _ _ _ => omega
        | told _ h1 _ _ => have := h1 d34; rw [hx] at this; cases this
      refine ⟨_, rfl, rfl, _, rfl, iteT ?_⟩
      refine ⟨_, rfl, rfl, rfl, e, _, _, rfl, s2 _ _ he, rfl, _, z, rfl, rz.same sA, (by show 2 ≤ sizeLine; decide), fun t nt => ?_⟩
      exact q t _ (sA.trans (same_upd nt)) upd_same
    · refine ⟨em4, fun a na oe hz hf => ?_⟩
      refine ⟨_, rfl, "InvalidSize", e, _, 4, rfl, ⟨hz, hf⟩, he, so4, fun H2 s2 => ?_⟩
      have sA := s1.trans s2
      obtain ⟨rfl, rz⟩ : k = "many" ∧ RpE K H v2 z := by
        cases td with
        | code h0 h1 h2 => rw [e0 h0] at h1; cases h1
        | mate h0 _ h1 h2 => rw [e1 h0] at h1; cases h1
        | many _ _ _ h1 => exact ⟨rfl, h1⟩
        | at_ _ h1 a b _ _ => rw [h1, whole_of a b] at e2; cases e2
        | told _ _ h1 _ => rw [h1] at e2; cases e2
      refine ⟨_, rfl, rfl, _, rfl, iteF ⟨_, rfl, rfl, _, rfl, iteT ?_⟩⟩
      refine ⟨_, rfl, rfl, rfl, e, _, _, rfl, s2 _ _ he, rfl, _, z, rfl, rz.same sA, (by show 2 ≤ sizeLine; decide), fun t nt => ?_⟩
      exact q t _ (sA.trans (same_upd nt)) upd_same
    · refine ⟨em1, fun a na oe hz hf => ?_⟩
      refine ⟨_, rfl, "InvalidNumber", e, _, 1, rfl, ⟨hz, hf⟩, he, so1, fun H2 s2 => ?_⟩
      have sA := s1.trans s2
      obtain ⟨rfl, rz⟩ : k = "at" ∧ RpE K H v3 z := by
        cases td with
        | code h0 h1 h2 => omega
        | mate h0 _ h1 h2 => omega
        | many _ _ h1 _ => rw [em, whole_of m1 m2] at h1; cases h1
        | at_ _ _ _ _ _ h => exact ⟨rfl, h⟩
        | told _ _ _ h1 => rw [h1 d6 m em m1 m2] at e3; cases e3
      refine ⟨_, rfl, rfl, _, rfl, iteF ⟨_, rfl, rfl, _, rfl, iteF ?_⟩⟩
      refine ⟨_, rfl, rfl, _, rfl, iteT ⟨_, rfl, rfl, rfl, e, _, _, rfl, s2 _ _ he, rfl, _, z, rfl, rz.same sA, (by show 2 ≤ sizeLine; decide), fun t nt => ?_⟩⟩
      exact q t _ (sA.trans (same_upd nt)) upd_same
    · obtain ⟨rfl, rfl⟩ : k = "told" ∧ z = "" := by
        cases td with
        | code h0 h1 h2 => rw [e0 h0] at h1; cases h1
        | mate h0 _ h1 h2 => rw [e1 h0] at h1; cases h1
        | many _ _ h1 _ => rw [e2] at h1; cases h1
        | at_ h1 h2 h3 h4 h5 _ => rw [e3 h1 _ h2 h3 h4] at h5; cases h5
        | told _ _ _ _ => exact ⟨rfl, rfl⟩
      exact ⟨(by show 2 ≤ sizeLine; decide), fun t nt => q t _ (s1.trans (same_upd nt)) upd_same⟩
end
section
variable {P : Program} {w : World} {K : PySem.W.Frag} {mg : Str → Option Value} {base : Heap}
/-! ### drawn letters -/
abbrev s__law_letters : Stmt := top 63
abbrev N__law_letters : List Str := ["_law_pool_here", "_law_many", "_law_most", "_law_found"]
theorem sc__law_letters : FnScope N__law_letters ["_law_pool_here", "_law_many"] (defScope s__law_letters) := ⟨rfl, rfl, rfl, by decide +kernel, rfl, by decide +kernel, by decide +kernel⟩
def spLetters : Sp := fun vs H Q _ => ∃ (a : Addr) (m : Int), vs = [.ref a, .int m] ∧ 0 ≤ m ∧ m ≤ 1000 ∧ Pool H a ∧ ∀ (bs : List Bool) (H' : Hp), Kp a H H' → Pool H' a → (bs.length : Int) = m → Q (.str (wd bs)) H'
theorem ok_letters (D : Df K mg "_law_letters" s__law_letters) (c__law_draw : Cl P w K mg base 1 "_law_draw" s__law_draw ["_law_pool_here", "_law_limit"] spDraw) (m_len : mg "len" = none) : Cl P w K mg base 2 "_law_letters" s__law_letters ["_law_pool_here", "_law_many"] spLetters := by
  refine D.ok sc__law_letters (fun _ _ _ _ _ _ us hl => match us, hl with | [_, _], _ => rfl) (fun vs H Q E h => ?_) (fun f cdv A outer s H vs Q E hr h => ?_)
  · obtain ⟨a, m, rfl, _⟩ := h
    rfl
  · obtain ⟨a, m, rfl, m0, m1, hp, q⟩ := h
    refine ⟨_, 
      (pss_cons (ps_par (i := 2) (j := 3) (by rfl) sc__law_letters.nd rfl rfl (by decide) rfl rfl (pa_cons (pe_op op_add pe_int (pe_u c__law_draw hr (by omega) (by rfl) (pa_cons (pv 0) (pa_cons pe_int pa_nil)))) (pa_cons pe_str pa_nil)) (by rfl)) 
      (pss_cons (ps_while PassesOwn.never (pt_cmpR op_lt (pe_callB call_len_str (by rfl) m_len (by decide +kernel) (pa_cons (pv 3) pa_nil)) (pv 1) (nomark _)) (pss_one (ps_set (i := 3) sc__law_letters.nd rfl (Or.inl rfl) (pe_op op_add_str (pv 3) (pe_op op_mul_str (pe_ix ix_str pe_str (pe_u c__law_draw hr (by omega) (by rfl) (pa_cons (pv 0) (pa_cons pe_int pa_nil))) (fun _ _ => rfl)) (pe_op op_add pe_int (pe_u c__law_draw hr (by omega) (by rfl) (pa_cons (pv 0) (pa_cons (pv 2) pa_nil))))))))) 
      (pss_one (ps_ret (pe_slice sl_str (pv 3) po_none (po_some (pv 1))))))), ?_⟩
    refine ⟨_, rfl, a, 3, rfl, by decide, by decide, hp, fun e H2 e0 e1 k2 p2 => ?_⟩
    refine ⟨_, _, rfl, rfl, _, _, rfl, ?_⟩
    obtain ⟨n, rfl⟩ : ∃ n : Nat, m = (n : Nat) := ⟨m.toNat, by omega⟩
    refine while_by (fun σ H3 => ∃ bs : List Bool, σ = [some (.ref a), some (.int (n : Nat)), some (.int (1 + e)), some (.str (wd bs))] ∧ bs.length ≤ 2000 ∧ Kp a H H3 ∧ Pool H3 a)
      (fun σ _ => match σ with | [_, _, _, some (.str z)] => n - z.length | _ => 0) ⟨[], rfl, Nat.zero_le _, k2, p2⟩ (fun σ H3 hI => ?_) (fun σ H3 Q1 Q2 hq hc => ?_)
    · obtain ⟨bs, rfl, hb, k3, p3⟩ := hI
      have sz : (wd bs).length ≤ sizeLine := by
        rw [wd_len]
        exact Nat.le_of_lt (len_lt (by omega))
      refine ⟨_, rfl, _, rfl, sz, _, rfl, _, _, rfl, rfl, _, rfl, ?_⟩
      rw [show decide ((((wd bs).length : Nat) : Int) < ((n : Nat) : Int)) = decide (bs.length < n) from decide_eq_decide.mpr (by rw [wd_len]; omega)]
      by_cases hlt : bs.length < n
      · rw [decide_eq_true hlt]
        refine iteT ⟨_, rfl, _, rfl, a, 2, rfl, by decide, by decide, p3, fun c H4 c0 c1 k4 p4 => ?_⟩
        refine ⟨_, c, _, rfl, rfl, (by decide +kernel), atST c c0 c1, ?_⟩
        refine ⟨_, rfl, _, rfl, a, _, rfl, by omega, by omega, p4, fun g H5 g0 g1 k5 p5 => ?_⟩
        refine ⟨_, _, rfl, rfl, _, _, rfl, rfl, by omega, by omega, (by show 1 ≤ 1000; decide), ?_⟩
        obtain ⟨j, rfl⟩ : ∃ j : Nat, g = (j : Nat) := ⟨g.toNat, by omega⟩
        have em : Txt.mul (ltr (decide (c = 1))) (1 + (j : Nat)) = wd (List.replicate (j + 1) (decide (c = 1))) := by
          rw [← mul_ltr]
          congr 1
          omega
        rw [em]
        refine ⟨_, _, rfl, rfl, ?_, ?_⟩
        · rw [wd_len, wd_len, List.length_replicate]
          exact Nat.le_of_lt (len_lt (by omega))
        · rw [wd_app]
          refine ⟨⟨bs ++ List.replicate (j + 1) (decide (c = 1)), rfl, ?_, (k3.trans k4).trans k5, p5⟩, ?_⟩
          · rw [List.length_append, List.length_replicate]
            omega
          · show n - (wd (bs ++ List.replicate (j + 1) (decide (c = 1)))).length < n - (wd bs).length
            rw [wd_len, wd_len, List.length_append, List.length_replicate]
            omega
      · rw [decide_eq_false hlt]
        refine iteF ⟨_, rfl, _, rfl, _, rfl, _, rfl, sz, ?_⟩
        rw [cutS_take]
        refine q (bs.take n) _ k3 p3 ?_
        rw [List.length_take]
        omega
    · obtain ⟨v, hv, z, hz, hs, v2, hv2, i, j, e1, e2, k, ek, r⟩ := hc
      exact ⟨v, hv, z, hz, hs, v2, hv2, i, j, e1, e2, k, ek, hq _ _ r⟩
end
section
variable {P : Program} {w : World} {K : PySem.W.Frag} {mg : Str → Option Value} {base : Heap}
/-! ### a drawn length -/
abbrev s__law_length : Stmt := top 64
abbrev N__law_length : List Str := ["_law_pool_here", "_law_many", "_law_some"]
theorem sc__law_length : FnScope N__law_length ["_law_pool_here", "_law_many"] (defScope s__law_length) := ⟨rfl, rfl, rfl, by decide +kernel, rfl, by decide +kernel, by decide +kernel⟩
def spLength : Sp := fun vs H Q _ => ∃ (a : Addr) (m : Int), vs = [.ref a, .int m] ∧ 1 ≤ m ∧ m ≤ 12 ∧ Pool H a ∧ ∀ (n : Int) (H' : Hp), Kp a H H' → Pool H' a → 0 ≤ n → n ≤ 400 → Q (.int n) H'
theorem ok_length (D : Df K mg "_law_length" s__law_length) (c__law_draw : Cl P w K mg base 1 "_law_draw" s__law_draw ["_law_pool_here", "_law_limit"] spDraw) (m_max : mg "max" = none) : Cl P w K mg base 2 "_law_length" s__law_length ["_law_pool_here", "_law_many"] spLength := by
  refine D.ok sc__law_length (fun _ _ _ _ _ _ us hl => match us, hl with | [_, _], _ => rfl) (fun vs H Q E h => ?_) (fun f cdv A outer s H vs Q E hr h => ?_)
  · obtain ⟨a, m, rfl, _⟩ := h
    rfl
  · obtain ⟨a, m, rfl, m0, m1, hp, q⟩ := h
    refine ⟨_, 
      (pss_cons (ps_set (i := 2) sc__law_length.nd rfl (Or.inl rfl) (pe_lst (pa_cons pe_int (pa_cons (pe_callB (call_max2 rfl) (by rfl) m_max (by decide +kernel) (pa_cons pe_int (pa_cons (pe_op op_sub (pv 1) pe_int) pa_nil))) (pa_cons (pe_op op_sub (pv 1) pe_int) (pa_cons (pv 1) (pa_cons (pe_op op_add (pv 1) pe_int) (pa_cons (pe_u c__law_draw hr (by omega) (by rfl) (pa_cons (pv 0) (pa_cons pe_int pa_nil))) (pa_cons (pe_u c__law_draw hr (by omega) (by rfl) (pa_cons (pv 0) (pa_cons pe_int pa_nil))) (pa_cons pe_int pa_nil)))))))))) 
      (pss_one (ps_ret (pe_ix ix_list (pv 2) (pe_u c__law_draw hr (by omega) (by rfl) (pa_cons (pv 0) (pa_cons pe_int pa_nil))) (fun _ _ => rfl))))), ?_⟩
    refine ⟨_, rfl, _, _, rfl, rfl, _, _, rfl, _, rfl, _, _, rfl, rfl, _, rfl, _, rfl, _, _, rfl, rfl, _, rfl, a, 31, rfl, by decide, by decide, hp, fun d H1 d0 d1 k1 p1 => ?_⟩
    refine ⟨_, rfl, a, 401, rfl, by decide, by decide, p1, fun e H2 e0 e1 k2 p2 => ⟨(by show 8 ≤ sizeLine; decide), fun l nl => ?_⟩⟩
    have la : l ≠ a := p2.ne nl
    have k02 : Kp a H H2 := k1.trans k2
    refine ⟨_, rfl, _, rfl, a, 8, rfl, by decide, by decide, p2.upd la.symm, fun g H3 g0 g1 k3 p3 => ?_⟩
    have hl : H3 l = _ := k3 l _ upd_same la
    have k03 : Kp a H H3 := (k02.upd (k02.free nl la)).trans k3
    have pick : ∀ i : Int, ∀ v : Int, 0 ≤ v → v ≤ 400 → Q (.int v) H3 := fun i v v0 v1 => q v H3 k03 p3 v0 v1
    have cases8 : g = 0 ∨ g = 1 ∨ g = 2 ∨ g = 3 ∨ g = 4 ∨ g = 5 ∨ g = 6 ∨ g = 7 := by omega
    rcases cases8 with rfl | rfl | rfl | rfl | rfl | rfl | rfl | rfl
    · exact ⟨l, _, 0, _, rfl, rfl, .inl (.inl hl), atI_nat (j := 0) rfl, pick 0 _ (by omega) (by omega)⟩
    · exact ⟨l, _, 1, _, rfl, rfl, .inl (.inl hl), atI_nat (j := 1) rfl, pick 0 _ (by split <;> omega) (by split <;> omega)⟩
    · exact ⟨l, _, 2, _, rfl, rfl, .inl (.inl hl), atI_nat (j := 2) rfl, pick 0 _ (by omega) (by omega)⟩
    · exact ⟨l, _, 3, _, rfl, rfl, .inl (.inl hl), atI_nat (j := 3) rfl, pick 0 _ (by omega) (by omega)⟩
    · exact ⟨l, _, 4, _, rfl, rfl, .inl (.inl hl), atI_nat (j := 4) rfl, pick 0 _ (by omega) (by omega)⟩
    · exact ⟨l, _, 5, _, rfl, rfl, .inl (.inl hl), atI_nat (j := 5) rfl, pick 0 _ (by omega) (by omega)⟩
    · exact ⟨l, _, 6, _, rfl, rfl, .inl (.inl hl), atI_nat (j := 6) rfl, pick 0 _ (by omega) (by omega)⟩
    · exact ⟨l, _, 7, _, rfl, rfl, .inl (.inl hl), atI_nat (j := 7) rfl, pick 0 _ (by omega) (by omega)⟩
end
section
variable {P : Program} {w : World} {K : PySem.W.Frag} {mg : Str → Option Value} {base : Heap}
/-! ### texts that are no words -/
theorem bad_any {z : Str} (sz : z.length ≤ sizeLine) (h : ∃ i, i < z.cps.size ∧ ltB z i = false) : ∃ x : V, (x = .non ∨ ∃ i : Nat, i < 400 ∧ x = .int (i : Nat)) ∧ ∀ H : Hp, WdF K H (.str z) (some x) := by
  by_cases hl : z.length ≤ 400
  · have go : ∀ n, (∀ j < n, ltB z j = true) ∨ ∃ i, i < n ∧ ltB z i = false ∧ ∀ j < i, ltB z j = true := fun n => by
      induction n with
      | zero => exact .inl fun j hj => absurd hj (Nat.not_lt_zero j)
      | succ n ih =>
        rcases ih with g | ⟨i, a, b, c⟩
        · cases ho : ltB z n with
          | true =>
            refine .inl fun j hj => ?_
            rcases Nat.lt_succ_iff_lt_or_eq.mp hj with y | y
            · exact g j y
            · rw [y, ho]
          | false => exact .inr ⟨n, by omega, ho, g⟩
        · exact .inr ⟨i, by omega, b, c⟩
    rcases go z.cps.size with g | ⟨i, a, b, c⟩
    · obtain ⟨i, hi, hf⟩ := h
      rw [g i hi] at hf
      cases hf
    · have e : z.length = z.cps.size := rfl
      exact ⟨_, .inr ⟨i, by omega, rfl⟩, fun H => .wrong hl a b c⟩
  · exact ⟨_, .inl rfl, fun H => .long (by omega) sz⟩
/-- what is told of a value as a word, whatever befalls the pool: always something -/
def BadW (K : PySem.W.Frag) (a : Addr) (H : Hp) (v : V) : Prop := ∃ x : V, (x = .non ∨ ∃ i : Nat, i < 400 ∧ x = .int (i : Nat)) ∧ ∀ H2, Kp a H H2 → WdF K H2 v (some x)
theorem BadW.kp {a : Addr} {H H' : Hp} {v : V} (h : BadW K a H v) (k : Kp a H H') : BadW K a H' v := by
  obtain ⟨x, hx, h⟩ := h
  exact ⟨x, hx, fun H2 k2 => h H2 (k.trans k2)⟩
theorem BadW.text {a : Addr} {H : Hp} {z : Str} (sz : z.length ≤ sizeLine) (h : ∃ i, i < z.cps.size ∧ ltB z i = false) : BadW K a H (.str z) := by
  obtain ⟨x, hx, g⟩ := bad_any (K := K) sz h
  exact ⟨x, hx, fun H2 _ => g H2⟩
theorem BadW.other {a : Addr} {H : Hp} {v : V} {T : String} (t : Tv K H v T) (nt : T ≠ "str") (ne : v ≠ .ref a) : BadW K a H v := ⟨.non, .inl rfl, fun H2 k => .other (t.kp ne k) nt⟩
/-- a letter of a middle piece -/
theorem lt_mid {p m s : Str} {j : Nat} (hj : j < m.cps.size) (h : ltB m j = false) : ltB (p ++ m ++ s) (p.cps.size + j) = false := by
  have e : (p ++ m ++ s).cps[p.cps.size + j]? = m.cps[j]? := by
    show ((p.cps ++ m.cps) ++ s.cps)[p.cps.size + j]? = _
    rw [Array.getElem?_append_left (by rw [Array.size_append]; omega), Array.getElem?_append_right (by omega)]
    congr 1
    omega
  unfold ltB at h ⊢
  rw [e]
  exact h
abbrev s__law_index_of : Stmt := top 67
abbrev N__law_index_of : List Str := ["_law_thing", "_law_k"]
theorem sc__law_index_of : FnScope N__law_index_of ["_law_thing"] (defScope s__law_index_of) := ⟨rfl, rfl, rfl, by decide +kernel, rfl, by decide +kernel, by decide +kernel⟩
def spIndex (K : PySem.W.Frag) : Sp := fun vs H Q _ => ∃ v x : V, vs = [v] ∧ WdF K H v (some x) ∧ ∀ H', Same H H' → Q x H'
theorem ok_indexof (D : Df K mg "_law_index_of" s__law_index_of) (m_isinstance : mg "isinstance" = none) (m_str : mg "str" = none) (m_len : mg "len" = none) (m_range : mg "range" = none) : Cl P w K mg base 1 "_law_index_of" s__law_index_of ["_law_thing"] (spIndex K) := by
  refine D.ok sc__law_index_of (fun _ _ _ _ _ _ us hl => match us, hl with | [_], _ => rfl) (fun vs H Q E h => ?_) (fun f cdv A outer s H vs Q E hr h => ?_)
  · obtain ⟨v, x, rfl, _⟩ := h
    rfl
  · obtain ⟨v, x, rfl, hv, q⟩ := h
    refine ⟨_, 
      (pss_cons (ps_if (PW.pt (pw_or (pt_not (pt_val (pe_callB call_isi (by rfl) m_isinstance (by decide +kernel) (pa_cons (pv 0) (pa_cons (pe_bltn (v := .ty "str") (by rfl) m_str (by decide +kernel) rfl) pa_nil))))) (pw_or1 (pt_cmpR op_gt (pe_callB call_len_str (by rfl) m_len (by decide +kernel) (pa_cons (pv 0) pa_nil)) pe_int (nomark _))))) (pss_one (ps_ret pe_non)) pss_nil) 
      (pss_one (ps_ret (pe_ix ix_list (pe_op op_cat (pe_lc (own := [("_law_k", 1)]) (g := gName 1) (tt := (tTest (tOp (rIn K true) (tOp rIxS (tVar 0) (tVar 1)) (tLst (tCons (tC _) (tCons (tC _) tNil)))))) rfl sc__law_index_of.nd (pi_range1 (by rfl) m_range (pa_cons (pe_callB call_len_str (by rfl) m_len (by decide +kernel) (pa_cons (pv 0) pa_nil)) pa_nil)) (blkOk_by (own := [("_law_k", 1)]) (N := N__law_index_of) (sc := (defScope s__law_index_of)) (by decide +kernel)) (fun _ _ _ _ _ => (pg_name (i := 1) sc__law_index_of.nd rfl (Or.inl rfl))) (fun _ _ _ _ _ => pts_one (pt_cmpR op_notIn_seq (pe_ix ix_str (pv 0) (pv 1) (fun _ _ => rfl)) (pe_lst (pa_cons pe_str (pa_cons pe_str pa_nil))) (by rfl))) (fun _ _ _ _ _ => (pv 1))) (pe_lst (pa_cons pe_str pa_nil))) pe_int (fun _ _ => rfl))))), ?_⟩
    cases hv with
    | @other _ T t hn =>
      refine ⟨_, rfl, v, .ty "str", .type T, .type "str", _, rfl, .ty _, t.ty, kit_str t.mem, _, rfl, ?_⟩
      rw [decide_eq_false hn]
      exact iteT (iteT (q H (Same.refl H)))
    | @long z h1 h2 =>
      refine ⟨_, rfl, .str z, .ty "str", .type "str", .type "str", _, rfl, .ty _, .base (.str _), kit_str (T := "str") (by decide), _, rfl, iteF ?_⟩
      refine ⟨_, rfl, _, rfl, h2, _, _, rfl, rfl, _, rfl, ?_⟩
      rw [decide_eq_true (show ((z.length : Nat) : Int) > 400 by omega)]
      exact iteT (q H (Same.refl H))
    | @wrong z i h1 h2 h3 h4 =>
      have sz : z.length ≤ sizeLine := Nat.le_of_lt (len_lt (by omega))
      refine ⟨_, rfl, .str z, .ty "str", .type "str", .type "str", _, rfl, .ty _, .base (.str _), kit_str (T := "str") (by decide), _, rfl, iteF ?_⟩
      refine ⟨_, rfl, _, rfl, sz, _, _, rfl, rfl, _, rfl, ?_⟩
      rw [decide_eq_false (show ¬ ((z.length : Nat) : Int) > 400 by omega)]
      refine iteF ?_
      have es : z.length = z.cps.size := rfl
      refine ⟨_, rfl, _, rfl, sz, _, rfl, by omega, by omega, fun D nD => ?_⟩
      refine lc_range (lo := 0) (n := ((z.length : Nat) : Int).toNat) (fun j G => ∃ L : List Nat, G D = some (.lst (L.map fun n => V.int ((n : Nat) : Int))) ∧ Same H G ∧ L.length ≤ j ∧ (j ≤ i → L = []) ∧ (i < j → L[0]? = some i)) ⟨[], upd_same, same_upd nD, Nat.le_refl _, fun _ => rfl, fun h => absurd h (Nat.not_lt_zero i)⟩ (fun j G hj hI => ?_) (fun G hI => ?_)
      · obtain ⟨L, hD, sm, ll, e1, e2⟩ := hI
        have lj : j < z.cps.size := by omega
        have gj : z.cps.toList[j]? = some (z.cps[j]) := by
          rw [Array.getElem?_toList]
          exact Array.getElem?_eq_getElem lj
        have ej : (0 : Int) + ((j : Nat) : Int) = ((j : Nat) : Int) := by omega
        have lt : ltB z j = kindB ⟨#[z.cps[j]]⟩ := by
          unfold ltB
          rw [Array.getElem?_eq_getElem lj]
        rw [ej]
        generalize z.cps[j] = ch at gj lt
        refine ⟨rfl, _, rfl, _, rfl, z, _, ch, rfl, rfl, sz, atI_nat gj, (by show 2 ≤ sizeLine; decide), fun p np => ?_⟩
        have sp := same_upd (o := .lst [.str (ltr false), .str (ltr true)]) np
        refine ⟨p, _, rfl, .inl (.inl (.inl upd_same)), rfl, rfl, _, rfl, ?_⟩
        show if (!inV (.str ⟨#[ch]⟩) [.str (ltr false), .str (ltr true)]) = true then _ else _
        rw [inV_kinds, ← lt]
        have hD2 := sp D _ hD
        have sm2 := sm.trans sp
        cases hb : ltB z j with
        | true =>
          have ne : j ≠ i := fun e => by
            rw [e, h3] at hb
            cases hb
          exact iteF ⟨L, hD2, sm2, by omega, fun h => e1 (by omega), fun h => e2 (by omega)⟩
        | false =>
          have ge : i ≤ j := by
            rcases Nat.lt_or_ge j i with y | y
            · rw [h4 j y] at hb
              cases hb
            · exact y
          refine iteT ⟨_, rfl, _, hD2, ?_, L ++ [j], ?_, fun x o ex => ?_, ?_, fun h => absurd h (by omega), fun _ => ?_⟩
          · rw [List.length_map]
            exact len_lt (by omega)
          · rw [upd_same, List.map_append]
            rfl
          · rw [upd_ne (ne_of_none ex nD)]
            exact sm2 x o ex
          · rw [List.length_append, List.length_singleton]
            omega
          · rcases Nat.lt_or_ge i j with y | y
            · have := e2 y
              rw [List.getElem?_append_left (List.getElem?_eq_some_iff.mp this).1]
              exact this
            · have ej : j = i := by omega
              rw [e1 y, ej]
              rfl
      · obtain ⟨L, hD, sm, ll, _, e2⟩ := hI
        have g0 := e2 (by omega)
        refine ⟨(by show 1 ≤ sizeLine; decide), fun p np => ?_⟩
        have sp := same_upd (o := .lst [.str "fine"]) np
        refine ⟨D, p, _, _, rfl, rfl, sp D _ hD, upd_same, ?_, fun r nr => ?_⟩
        · exact Nat.le_of_lt (len_lt (by rw [List.length_map, List.length_singleton]; omega))
        refine ⟨r, _, 0, .int (i : Nat), rfl, rfl, .inl (.inl upd_same), ?_, q _ ((sm.trans sp).trans (same_upd nr))⟩
        refine atI_nat (j := 0) ?_
        rw [List.getElem?_append_left (by rw [List.length_map]; exact (List.getElem?_eq_some_iff.mp g0).1), List.getElem?_map, g0]
        rfl
end
section
variable {P : Program} {w : World} {K : PySem.W.Frag} {mg : Str → Option Value} {base : Heap}
/-! ### values that are no sizes, no numbers -/
/-- a value's type and its repr, whatever befalls the pool -/
def NmC (K : PySem.W.Frag) (a : Addr) (H : Hp) (v : V) : Prop := ∀ H2, Kp a H H2 → ∃ (T : String) (z : Str), Tv K H2 v T ∧ RpE K H2 v z ∧ PyData.strOk z = true
theorem NmC.kp {a : Addr} {H H' : Hp} {v : V} (h : NmC K a H v) (k : Kp a H H') : NmC K a H' v := fun H2 k2 => h H2 (k.trans k2)
section
variable {a : Addr} {H : Hp}
theorem NmC.text (x : Str) (h1 : PyData.strOk x = true) (h2 : (PyData.str x).shown.length ≤ sizeLine) (h3 : PyData.strOk (PyData.str x).shown = true) : NmC K a H (.str x) := fun _ _ => ⟨"str", _, ⟨.base (.str x), by decide⟩, RpE.str x h1 h2, h3⟩
theorem NmC.non : NmC K a H .non := fun _ _ => ⟨"NoneType", _, ⟨.base .non, by decide⟩, RpE.non, by decide +kernel⟩
theorem NmC.int (i : Int) (h : i.natAbs.log2 < 1920) (o : PyData.strOk (PyData.int i).shown = true) : NmC K a H (.int i) := fun _ _ => ⟨_, _, Tv.int i, RpE.int h, o⟩
theorem NmC.bl (b : Bool) : NmC K a H (.bl b) := fun _ _ => ⟨"bool", _, ⟨.base (.bl b), by decide⟩, RpE.bl b, by cases b <;> decide +kernel⟩
theorem NmC.nil {l : Addr} (h : H l = some (.lst [])) (ne : l ≠ a) : NmC K a H (.ref l) := fun H2 k => ⟨_, _, Tv.lst (k l _ h ne), .inl ⟨.list [], .lst (.inl (.inl (k l _ h ne))) .nil, by decide +kernel, by decide +kernel, by decide +kernel, by decide +kernel, rfl⟩, by decide +kernel⟩
theorem NmC.dict {l : Addr} (h : H l = some (.dK [])) (ne : l ≠ a) : NmC K a H (.ref l) := fun H2 k => ⟨_, _, Tv.dct (k l _ h ne), RpE.dict (k l _ h ne), by decide +kernel⟩
theorem NmC.tup {l : Addr} {xs : List V} {ds : List PyData} (h : H l = some (.tup xs)) (ne : l ≠ a) (hd : ∀ H2, Kp a H H2 → DpAll K H2 xs ds) (c1 : (PyData.tuple ds).canLay0 = true) (c2 : (PyData.tuple ds).depth ≤ 60) (c3 : (PyData.tuple ds).showable = true) (c4 : (PyData.tuple ds).shown.length ≤ sizeLine) (c5 : PyData.strOk (PyData.tuple ds).shown = true) : NmC K a H (.ref l) := fun H2 k => ⟨_, _, Tv.tup (.inl (.inl (k l _ h ne))), .inl ⟨.tuple ds, .tup (.inl (.inl (k l _ h ne))) (hd H2 k), c1, c2, c3, c4, rfl⟩, c5⟩
theorem NmC.lst {l : Addr} {xs : List V} {ds : List PyData} (h : H l = some (.lst xs)) (ne : l ≠ a) (hd : ∀ H2, Kp a H H2 → DpAll K H2 xs ds) (c1 : (PyData.list ds).canLay0 = true) (c2 : (PyData.list ds).depth ≤ 60) (c3 : (PyData.list ds).showable = true) (c4 : (PyData.list ds).shown.length ≤ sizeLine) (c5 : PyData.strOk (PyData.list ds).shown = true) : NmC K a H (.ref l) := fun H2 k => ⟨_, _, Tv.lst (k l _ h ne), .inl ⟨.list ds, .lst (.inl (.inl (k l _ h ne))) (hd H2 k), c1, c2, c3, c4, rfl⟩, c5⟩
end
abbrev s__law_odd_many : Stmt := top 68
abbrev N__law_odd_many : List Str := ["_law_pool_here"]
theorem sc__law_odd_many : FnScope N__law_odd_many ["_law_pool_here"] (defScope s__law_odd_many) := ⟨rfl, rfl, rfl, by decide +kernel, rfl, by decide +kernel, by decide +kernel⟩
def spOddMany (K : PySem.W.Frag) : Sp := fun vs H Q _ => ∃ a : Addr, vs = [.ref a] ∧ Pool H a ∧ ∀ (v : V) (H' : Hp), Kp a H H' → Pool H' a → NmC K a H' v → wholeB v 1 12 = false → Q v H'
theorem ok_oddmany (D : Df K mg "_law_odd_many" s__law_odd_many) (c__law_draw : Cl P w K mg base 1 "_law_draw" s__law_draw ["_law_pool_here", "_law_limit"] spDraw) : Cl P w K mg base 2 "_law_odd_many" s__law_odd_many ["_law_pool_here"] (spOddMany K) := by
  refine D.ok sc__law_odd_many (fun _ _ _ _ _ _ us hl => match us, hl with | [_], _ => rfl) (fun vs H Q E h => ?_) (fun f cdv A outer s H vs Q E hr h => ?_)
  · obtain ⟨a, rfl, _⟩ := h
    rfl
  · obtain ⟨a, rfl, hp, q⟩ := h
    refine ⟨_, 
      (pss_one (ps_ret (pe_ix ix_list (pe_lst (pa_cons pe_int (pa_cons pe_int (pa_cons (pe_un un_neg pe_int) (pa_cons pe_bl (pa_cons pe_bl (pa_cons pe_non (pa_cons pe_str (pa_cons (pe_tup (pa_cons pe_int pa_nil)) (pa_cons (pe_lst (pa_cons pe_int pa_nil)) (pa_cons pe_dnewK (pa_cons (pe_op op_pow pe_int pe_int) (pa_cons (pe_tup (pa_cons (pe_lst pa_nil) pa_nil)) pa_nil))))))))))))) (pe_u c__law_draw hr (by omega) (by rfl) (pa_cons (pv 0) (pa_cons pe_int pa_nil))) (fun _ _ => rfl)))), ?_⟩
    refine ⟨1, rfl, (by show 1 ≤ sizeLine; decide), fun q1 n1 => ?_⟩
    have s1 := same_upd (o := .tup [.int 3]) n1
    have h1 : upd H q1 (.tup [.int 3]) q1 = some (.tup [.int 3]) := upd_same
    generalize upd H q1 (.tup [.int 3]) = G1 at s1 h1 ⊢
    refine ⟨(by show 1 ≤ sizeLine; decide), fun q2 n2 => ?_⟩
    have s2 := same_upd (o := .lst [.int 3]) n2
    have h2 : upd G1 q2 (.lst [.int 3]) q2 = some (.lst [.int 3]) := upd_same
    generalize upd G1 q2 (.lst [.int 3]) = G2 at s2 h2 ⊢
    refine fun q3 n3 => ?_
    have s3 := same_upd (o := .dK []) n3
    have h3 : upd G2 q3 (.dK []) q3 = some (.dK []) := upd_same
    generalize upd G2 q3 (.dK []) = G3 at s3 h3 ⊢
    refine ⟨_, _, rfl, rfl, ⟨by decide, by decide, by decide⟩, Nat.zero_le _, fun q4 n4 => ?_⟩
    have s4 := same_upd (o := .lst []) n4
    have h4 : upd G3 q4 (.lst []) q4 = some (.lst []) := upd_same
    generalize upd G3 q4 (.lst []) = G4 at s4 h4 ⊢
    refine ⟨(by show 1 ≤ sizeLine; decide), fun q5 n5 => ?_⟩
    have s5 := same_upd (o := .tup [.ref q4]) n5
    have h5 : upd G4 q5 (.tup [.ref q4]) q5 = some (.tup [.ref q4]) := upd_same
    generalize upd G4 q5 (.tup [.ref q4]) = G5 at s5 h5 ⊢
    have t2 := s1.trans s2
    have t3 := t2.trans s3
    have t4 := t3.trans s4
    have t5 := t4.trans s5
    have pl : ∀ {G : Hp}, Same H G → Pool G a := fun s => hp.of fun u e => s a u e
    have a1 := hp.ne n1
    have a2 := (pl s1).ne n2
    have a3 := (pl t2).ne n3
    have a4 := (pl t3).ne n4
    have a5 := (pl t4).ne n5
    have b4 := s5 _ _ h4
    have fin : ∀ v ∈ [V.int 0, .int 13, .int (-1), .bl true, .bl false, .non, .str "3", .ref q1, .ref q2, .ref q3, .int (10 ^ (20 : Int).toNat), .ref q5], NmC K a G5 v ∧ wholeB v 1 12 = false := fun v hv => by
      have e1 : NmC K a G5 (.ref q1) := .tup (ds := [.int 3]) (s5 _ _ (s4 _ _ (s3 _ _ (s2 _ _ h1)))) a1 (fun _ _ => .cons (.int 3) .nil) (by decide +kernel) (by decide +kernel) (by decide +kernel) (by decide +kernel) (by decide +kernel)
      have e2 : NmC K a G5 (.ref q2) := .lst (ds := [.int 3]) (s5 _ _ (s4 _ _ (s3 _ _ h2))) a2 (fun _ _ => .cons (.int 3) .nil) (by decide +kernel) (by decide +kernel) (by decide +kernel) (by decide +kernel) (by decide +kernel)
      have e3 : NmC K a G5 (.ref q3) := .dict (s5 _ _ (s4 _ _ h3)) a3
      have e5 : NmC K a G5 (.ref q5) := .tup (ds := [.list []]) h5 a5 (fun H2 k => .cons (.lst (.inl (.inl (k q4 _ b4 a4))) .nil) .nil) (by decide +kernel) (by decide +kernel) (by decide +kernel) (by decide +kernel) (by decide +kernel)
      simp only [List.mem_cons, List.not_mem_nil, or_false] at hv
      rcases hv with rfl | rfl | rfl | rfl | rfl | rfl | rfl | rfl | rfl | rfl | rfl | rfl
      all_goals refine ⟨?_, by first | rfl | decide +kernel⟩
      all_goals first | exact e1 | exact e2 | exact e3 | exact e5 | exact NmC.non | exact NmC.bl _ | exact NmC.int _ (by decide +kernel) (by decide +kernel) | exact NmC.text _ (by decide +kernel) (by decide +kernel) (by decide +kernel)
    generalize hS : [V.int 0, .int 13, .int (-1), .bl true, .bl false, .non, .str "3", .ref q1, .ref q2, .ref q3, .int (10 ^ (20 : Int).toNat), .ref q5] = someL at fin
    have len : someL.length = 12 := by rw [← hS]; rfl
    refine ⟨(by show 12 ≤ sizeLine; decide), fun L nL => ?_⟩
    have sL := same_upd (o := .lst someL) nL
    have aL := (pl t5).ne nL
    refine ⟨_, rfl, a, 12, rfl, by decide, by decide, pl (t5.trans (by rw [← hS] at sL; exact sL)), fun g W g0 g1 k p => ?_⟩
    obtain ⟨v, hv, hm⟩ := pick (xs := someL) (n := 12) g0 g1 len
    have kL : Kp a G5 W := (Kp.of_same sL).trans (by rw [← hS]; exact k)
    exact ⟨L, _, g, v, rfl, rfl, .inl (.inl (k L _ (by rw [← hS]; exact upd_same) aL)), hv, q v W ((Kp.of_same t5).trans kL) p ((fin v hm).1.kp kL) (fin v hm).2⟩
end
section
variable {P : Program} {w : World} {K : PySem.W.Frag} {mg : Str → Option Value} {base : Heap}
/-- the numbers of all words of fewer than m letters, and one more -/
theorem ok_count : ∀ m : Nat, m < 13 → PyData.strOk (PyData.int ((2 ^ m - 1 : Nat) : Int)).shown = true ∧ PyData.strOk (PyData.int ((2 ^ m - 1 + 1 : Nat) : Int)).shown = true := by decide +kernel
theorem NmC.nat {a : Addr} {H : Hp} {i : Nat} (h : i < 4100) (o : PyData.strOk (PyData.int ((i : Nat) : Int)).shown = true) : NmC K a H (.int (i : Nat)) := .int _ (Nat.lt_of_le_of_lt (show Nat.log2 i ≤ 12 from by
  by_cases z : i = 0
  · subst z; decide
  · exact Nat.le_of_lt_succ ((Nat.log2_lt z).mpr (by omega))) (by decide)) o
abbrev s__law_odd_place : Stmt := top 69
abbrev N__law_odd_place : List Str := ["_law_pool_here", "_law_most"]
theorem sc__law_odd_place : FnScope N__law_odd_place ["_law_pool_here", "_law_most"] (defScope s__law_odd_place) := ⟨rfl, rfl, rfl, by decide +kernel, rfl, by decide +kernel, by decide +kernel⟩
def spOddPlace (K : PySem.W.Frag) : Sp := fun vs H Q _ => ∃ (a : Addr) (n : Nat), vs = [.ref a, .int (n : Nat)] ∧ 1 ≤ n ∧ n < 4096 ∧ (PyData.strOk (PyData.int ((n : Nat) : Int)).shown = true ∧ PyData.strOk (PyData.int ((n + 1 : Nat) : Int)).shown = true) ∧ Pool H a ∧ ∀ (v : V) (H' : Hp), Kp a H H' → Pool H' a → NmC K a H' v → wholeB v 0 ((n : Nat) - 1) = false → Q v H'
theorem ok_oddplace (D : Df K mg "_law_odd_place" s__law_odd_place) (c__law_draw : Cl P w K mg base 1 "_law_draw" s__law_draw ["_law_pool_here", "_law_limit"] spDraw) : Cl P w K mg base 2 "_law_odd_place" s__law_odd_place ["_law_pool_here", "_law_most"] (spOddPlace K) := by
  refine D.ok sc__law_odd_place (fun _ _ _ _ _ _ us hl => match us, hl with | [_, _], _ => rfl) (fun vs H Q E h => ?_) (fun f cdv A outer s H vs Q E hr h => ?_)
  · obtain ⟨a, n, rfl, _⟩ := h
    rfl
  · obtain ⟨a, n, rfl, n1', n2', ⟨o1, o2⟩, hp, q⟩ := h
    refine ⟨_, 
      (pss_one (ps_ret (pe_ix ix_list (pe_lst (pa_cons (pe_un un_neg pe_int) (pa_cons (pv 1) (pa_cons (pe_op op_add (pv 1) pe_int) (pa_cons pe_bl (pa_cons pe_bl (pa_cons pe_non (pa_cons pe_str (pa_cons (pe_tup (pa_cons pe_int pa_nil)) (pa_cons (pe_lst pa_nil) (pa_cons pe_dnewK (pa_cons (pe_op op_pow pe_int pe_int) (pa_cons pe_str pa_nil))))))))))))) (pe_u c__law_draw hr (by omega) (by rfl) (pa_cons (pv 0) (pa_cons pe_int pa_nil))) (fun _ _ => rfl)))), ?_⟩
    refine ⟨1, rfl, _, rfl, _, rfl, _, _, rfl, rfl, (by show 1 ≤ sizeLine; decide), fun q1 n1 => ?_⟩
    have s1 := same_upd (o := .tup [.int 0]) n1
    have h1 : upd H q1 (.tup [.int 0]) q1 = some (.tup [.int 0]) := upd_same
    generalize upd H q1 (.tup [.int 0]) = G1 at s1 h1 ⊢
    refine ⟨Nat.zero_le _, fun q2 n2 => ?_⟩
    have s2 := same_upd (o := .lst []) n2
    have h2 : upd G1 q2 (.lst []) q2 = some (.lst []) := upd_same
    generalize upd G1 q2 (.lst []) = G2 at s2 h2 ⊢
    refine fun q3 n3 => ?_
    have s3 := same_upd (o := .dK []) n3
    have h3 : upd G2 q3 (.dK []) q3 = some (.dK []) := upd_same
    generalize upd G2 q3 (.dK []) = G3 at s3 h3 ⊢
    refine ⟨_, _, rfl, rfl, ⟨by decide, by decide, by decide⟩, ?_⟩
    have t2 := s1.trans s2
    have t3 := t2.trans s3
    have pl : ∀ {G : Hp}, Same H G → Pool G a := fun s => hp.of fun u e => s a u e
    have a1 := hp.ne n1
    have a2 := (pl s1).ne n2
    have a3 := (pl t2).ne n3
    have fin : ∀ v ∈ [V.int (-1), .int (n : Nat), .int ((n : Nat) + 1), .bl true, .bl false, .non, .str "0", .ref q1, .ref q2, .ref q3, .int (10 ^ (40 : Int).toNat), .str ""], NmC K a G3 v ∧ wholeB v 0 ((n : Nat) - 1) = false := fun v hv => by
      have e1 : NmC K a G3 (.ref q1) := .tup (ds := [.int 0]) (s3 _ _ (s2 _ _ h1)) a1 (fun _ _ => .cons (.int 0) .nil) (by decide +kernel) (by decide +kernel) (by decide +kernel) (by decide +kernel) (by decide +kernel)
      have e2 : NmC K a G3 (.ref q2) := .nil (s3 _ _ h2) a2
      have e3 : NmC K a G3 (.ref q3) := .dict h3 a3
      have e4 : NmC K a G3 (.int (n : Nat)) := .nat (by omega) o1
      have e5 : NmC K a G3 (.int ((n : Nat) + 1)) := .nat (i := n + 1) (by omega) o2
      have bad : ∀ i : Int, (i < 0 ∨ (n : Nat) - 1 < i) → wholeB (.int i) 0 ((n : Nat) - 1) = false := fun i hi => by
        show (decide (0 ≤ i) && decide (i ≤ ((n : Nat) : Int) - 1)) = false
        rcases hi with y | y
        · rw [decide_eq_false (by omega), Bool.false_and]
        · rw [decide_eq_false (show ¬ i ≤ ((n : Nat) : Int) - 1 by omega), Bool.and_false]
      have big : ((n : Nat) : Int) - 1 < 10 ^ (40 : Int).toNat := Int.lt_of_lt_of_le (show ((n : Nat) : Int) - 1 < 4096 by omega) (by decide +kernel)
      simp only [List.mem_cons, List.not_mem_nil, or_false] at hv
      rcases hv with rfl | rfl | rfl | rfl | rfl | rfl | rfl | rfl | rfl | rfl | rfl | rfl
      · exact ⟨NmC.int _ (by decide +kernel) (by decide +kernel), bad _ (.inl (by decide))⟩
      · exact ⟨e4, bad _ (.inr (by omega))⟩
      · exact ⟨e5, bad _ (.inr (by omega))⟩
      · exact ⟨NmC.bl _, rfl⟩
      · exact ⟨NmC.bl _, rfl⟩
      · exact ⟨NmC.non, rfl⟩
      · exact ⟨NmC.text _ (by decide +kernel) (by decide +kernel) (by decide +kernel), rfl⟩
      · exact ⟨e1, rfl⟩
      · exact ⟨e2, rfl⟩
      · exact ⟨e3, rfl⟩
      · exact ⟨NmC.int _ (by decide +kernel) (by decide +kernel), bad _ (.inr big)⟩
      · exact ⟨NmC.text _ (by decide +kernel) (by decide +kernel) (by decide +kernel), rfl⟩
    generalize hS : [V.int (-1), .int (n : Nat), .int ((n : Nat) + 1), .bl true, .bl false, .non, .str "0", .ref q1, .ref q2, .ref q3, .int (10 ^ (40 : Int).toNat), .str ""] = someL at fin
    have len : someL.length = 12 := by rw [← hS]; rfl
    refine ⟨(by show 12 ≤ sizeLine; decide), fun L nL => ?_⟩
    have sL := same_upd (o := .lst someL) nL
    have aL := (pl t3).ne nL
    refine ⟨_, rfl, a, 12, rfl, by decide, by decide, pl (t3.trans (by rw [← hS] at sL; exact sL)), fun g W g0 g1 k p => ?_⟩
    obtain ⟨v, hv, hm⟩ := pick (xs := someL) (n := 12) g0 g1 len
    have kL : Kp a G3 W := (Kp.of_same sL).trans (by rw [← hS]; exact k)
    exact ⟨L, _, g, v, rfl, rfl, .inl (.inl (k L _ (by rw [← hS]; exact upd_same) aL)), hv, q v W ((Kp.of_same t3).trans kL) p ((fin v hm).1.kp kL) (fin v hm).2⟩
end
section
variable {P : Program} {w : World} {K : PySem.W.Frag} {mg : Str → Option Value} {base : Heap}
/-! ### odd words -/
theorem BadW.long {a : Addr} {H : Hp} {z : Str} (h : 400 < z.length) (sz : z.length ≤ sizeLine) : BadW K a H (.str z) := ⟨.non, .inl rfl, fun H2 _ => .long h sz⟩
theorem wd_size (bs : List Bool) : (wd bs).cps.size = bs.length := wd_len bs
abbrev s__law_odd_code : Stmt := top 66
abbrev N__law_odd_code : List Str := ["_law_pool_here", "_law_code", "_law_at", "_law_strange", "_law_some"]
theorem sc__law_odd_code : FnScope N__law_odd_code ["_law_pool_here"] (defScope s__law_odd_code) := ⟨rfl, rfl, rfl, by decide +kernel, rfl, by decide +kernel, by decide +kernel⟩
def spOddCode (K : PySem.W.Frag) : Sp := fun vs H Q _ => ∃ a : Addr, vs = [.ref a] ∧ Pool H a ∧ ∀ (v : V) (H' : Hp), Kp a H H' → Pool H' a → BadW K a H' v → Q v H'
theorem ok_oddcode (D : Df K mg "_law_odd_code" s__law_odd_code) (c__law_draw : Cl P w K mg base 1 "_law_draw" s__law_draw ["_law_pool_here", "_law_limit"] spDraw) (c__law_letters : Cl P w K mg base 2 "_law_letters" s__law_letters ["_law_pool_here", "_law_many"] spLetters) (c__law_length : Cl P w K mg base 2 "_law_length" s__law_length ["_law_pool_here", "_law_many"] spLength) : Cl P w K mg base 3 "_law_odd_code" s__law_odd_code ["_law_pool_here"] (spOddCode K) := by
  refine D.ok sc__law_odd_code (fun _ _ _ _ _ _ us hl => match us, hl with | [_], _ => rfl) (fun vs H Q E h => ?_) (fun f cdv A outer s H vs Q E hr h => ?_)
  · obtain ⟨a, rfl, _⟩ := h
    rfl
  · obtain ⟨a, rfl, hp, q⟩ := h
    refine ⟨_, 
      (pss_cons (ps_par (i := 1) (j := 2) (by rfl) sc__law_odd_code.nd rfl rfl (by decide) rfl rfl (pa_cons (pe_u c__law_letters hr (by omega) (by rfl) (pa_cons (pv 0) (pa_cons (pe_u c__law_length hr (by omega) (by rfl) (pa_cons (pv 0) (pa_cons pe_int pa_nil))) pa_nil))) (pa_cons (pe_u c__law_draw hr (by omega) (by rfl) (pa_cons (pv 0) (pa_cons pe_int pa_nil))) pa_nil)) (by rfl)) 
      (pss_cons (ps_set (i := 3) sc__law_odd_code.nd rfl (Or.inl rfl) (pe_ix ix_list (pe_lst (pa_cons pe_str (pa_cons pe_str (pa_cons pe_str (pa_cons pe_str (pa_cons pe_str (pa_cons pe_str (pa_cons pe_str (pa_cons pe_str pa_nil))))))))) (pe_u c__law_draw hr (by omega) (by rfl) (pa_cons (pv 0) (pa_cons pe_int pa_nil))) (fun _ _ => rfl))) 
      (pss_cons (ps_set (i := 4) sc__law_odd_code.nd rfl (Or.inl rfl) (pe_lst (pa_cons pe_non (pa_cons pe_bl (pa_cons pe_int (pa_cons (pe_lst pa_nil) (pa_cons pe_dnewK (pa_cons (pe_tup (pa_cons pe_str (pa_cons pe_str pa_nil))) (pa_cons (pe_lst (pa_cons pe_str pa_nil)) (pa_cons (pe_op op_pow pe_int pe_int) (pa_cons (pe_op op_mul_str pe_str pe_int) (pa_cons (pe_op op_add_str (pe_op op_mul_str pe_str pe_int) pe_str) (pa_cons pe_str (pa_cons pe_str (pa_cons (pe_tup (pa_cons (pe_lst pa_nil) pa_nil)) pa_nil))))))))))))))) 
      (pss_cons (ps_set (i := 4) sc__law_odd_code.nd rfl (Or.inl rfl) (pe_op op_cat (pv 4) (pe_op op_rep (pe_lst (pa_cons (pe_op op_add_str (pe_op op_add_str (pe_slice sl_str (pe_slice sl_str (pv 1) po_none (po_some (pv 2))) po_none (po_some pe_int)) (pv 3)) (pe_slice sl_str (pe_slice sl_str (pv 1) (po_some (pv 2)) po_none) po_none (po_some pe_int))) pa_nil)) pe_int))) 
      (pss_one (ps_ret (pe_ix ix_list (pv 4) (pe_u c__law_draw hr (by omega) (by rfl) (pa_cons (pv 0) (pa_cons pe_int pa_nil))) (fun _ _ => rfl)))))))), ?_⟩
    refine ⟨_, rfl, _, rfl, a, 12, rfl, by decide, by decide, hp, fun n H1 k1 p1 n0 n1 => ?_⟩
    refine ⟨a, n, rfl, n0, by omega, p1, fun bs H2 k2 p2 bl => ?_⟩
    refine ⟨_, rfl, a, 400, rfl, by decide, by decide, p2, fun d H3 d0 d1 k3 p3 => ⟨_, _, rfl, ?_⟩⟩
    obtain ⟨m, rfl⟩ : ∃ m : Nat, d = (m : Nat) := ⟨d.toNat, by omega⟩
    have k03 := (k1.trans k2).trans k3
    refine ⟨(by show 8 ≤ sizeLine; decide), fun L nL => ?_⟩
    have aL := p3.ne nL
    refine ⟨_, rfl, a, 8, rfl, by decide, by decide, p3.upd aL.symm, fun g H4 g0 g1 k4 p4 => ?_⟩
    obtain ⟨st, hst, mst⟩ := pick (xs := [V.str "s", .str "t", .str " ", .str "X", .str "ST ", .str "\n", .str "0", .str "st"]) (n := 8) g0 g1 rfl
    refine ⟨L, _, g, st, rfl, rfl, .inl (.inl (k4 L _ upd_same aL)), hst, ?_⟩
    obtain ⟨x, rfl, xl, j, hj, hx⟩ : ∃ x : Str, st = .str x ∧ x.length ≤ 3 ∧ ∃ j, j < x.cps.size ∧ ltB x j = false := by
      simp only [List.mem_cons, List.not_mem_nil, or_false] at mst
      rcases mst with rfl | rfl | rfl | rfl | rfl | rfl | rfl | rfl
      · exact ⟨_, rfl, by decide +kernel, 0, by decide +kernel, by decide +kernel⟩
      · exact ⟨_, rfl, by decide +kernel, 0, by decide +kernel, by decide +kernel⟩
      · exact ⟨_, rfl, by decide +kernel, 0, by decide +kernel, by decide +kernel⟩
      · exact ⟨_, rfl, by decide +kernel, 0, by decide +kernel, by decide +kernel⟩
      · exact ⟨_, rfl, by decide +kernel, 2, by decide +kernel, by decide +kernel⟩
      · exact ⟨_, rfl, by decide +kernel, 0, by decide +kernel, by decide +kernel⟩
      · exact ⟨_, rfl, by decide +kernel, 0, by decide +kernel, by decide +kernel⟩
      · exact ⟨_, rfl, by decide +kernel, 0, by decide +kernel, by decide +kernel⟩
    have k04 := (k03.upd (k03.free nL aL)).trans k4
    refine ⟨Nat.zero_le _, fun q1 n1' => ?_⟩
    have s1 := same_upd (o := .lst []) n1'
    have h1 : upd H4 q1 (.lst []) q1 = some (.lst []) := upd_same
    generalize upd H4 q1 (.lst []) = G1 at s1 h1 ⊢
    refine fun q2 n2 => ?_
    have s2 := same_upd (o := .dK []) n2
    have h2 : upd G1 q2 (.dK []) q2 = some (.dK []) := upd_same
    generalize upd G1 q2 (.dK []) = G2 at s2 h2 ⊢
    refine ⟨(by show 2 ≤ sizeLine; decide), fun q3 n3 => ?_⟩
    have s3 := same_upd (o := .tup [.str "S", .str "T"]) n3
    have h3 : upd G2 q3 (.tup [.str "S", .str "T"]) q3 = some (.tup [.str "S", .str "T"]) := upd_same
    generalize upd G2 q3 (.tup [.str "S", .str "T"]) = G3 at s3 h3 ⊢
    refine ⟨(by show 1 ≤ sizeLine; decide), fun q4 n4 => ?_⟩
    have s4 := same_upd (o := .lst [.str "S"]) n4
    have h4 : upd G3 q4 (.lst [.str "S"]) q4 = some (.lst [.str "S"]) := upd_same
    generalize upd G3 q4 (.lst [.str "S"]) = G4 at s4 h4 ⊢
    refine ⟨_, _, rfl, rfl, ⟨by decide, by decide, by decide⟩, _, _, rfl, rfl, by decide, by decide, by decide +kernel, ?_⟩
    refine ⟨_, _, rfl, rfl, by decide, by decide, by decide +kernel, _, _, rfl, rfl, by decide +kernel, ?_⟩
    refine ⟨Nat.zero_le _, fun q5 n5 => ?_⟩
    have s5 := same_upd (o := .lst []) n5
    have h5 : upd G4 q5 (.lst []) q5 = some (.lst []) := upd_same
    generalize upd G4 q5 (.lst []) = G5 at s5 h5 ⊢
    refine ⟨(by show 1 ≤ sizeLine; decide), fun q6 n6 => ?_⟩
    have s6 := same_upd (o := .tup [.ref q5]) n6
    have h6 : upd G5 q6 (.tup [.ref q5]) q6 = some (.tup [.ref q5]) := upd_same
    generalize upd G5 q6 (.tup [.ref q5]) = G6 at s6 h6 ⊢
    have t2 := s1.trans s2
    have t3 := t2.trans s3
    have t4 := t3.trans s4
    have t5 := t4.trans s5
    have t6 := t5.trans s6
    have pl : ∀ {G : Hp}, Same H4 G → Pool G a := fun s => p4.of fun u e => s a u e
    have a1 := p4.ne n1'
    have a2 := (pl s1).ne n2
    have a3 := (pl t2).ne n3
    have a4 := (pl t3).ne n4
    have a5 := (pl t4).ne n5
    have a6 := (pl t5).ne n6
    have fin : ∀ v ∈ [V.non, .bl true, .int 0, .ref q1, .ref q2, .ref q3, .ref q4, .int (10 ^ (20 : Int).toNat), .str (Txt.mul "S" 401), .str (Txt.mul "TS" 200 ++ "x"), .str "s", .str "T S", .ref q6], BadW K a G6 v := fun v hv => by
      have e1 : BadW K a G6 (.ref q1) := .other (Tv.lst (s6 _ _ (s5 _ _ (s4 _ _ (s3 _ _ (s2 _ _ h1)))))) (by decide) fun z => a1 (V.ref.inj z)
      have e2 : BadW K a G6 (.ref q2) := .other (Tv.dct (s6 _ _ (s5 _ _ (s4 _ _ (s3 _ _ h2))))) (by decide) fun z => a2 (V.ref.inj z)
      have e3 : BadW K a G6 (.ref q3) := .other (Tv.tup (.inl (.inl (s6 _ _ (s5 _ _ (s4 _ _ h3)))))) (by decide) fun z => a3 (V.ref.inj z)
      have e4 : BadW K a G6 (.ref q4) := .other (Tv.lst (s6 _ _ (s5 _ _ h4))) (by decide) fun z => a4 (V.ref.inj z)
      have e6 : BadW K a G6 (.ref q6) := .other (Tv.tup (.inl (.inl h6))) (by decide) fun z => a6 (V.ref.inj z)
      simp only [List.mem_cons, List.not_mem_nil, or_false] at hv
      rcases hv with rfl | rfl | rfl | rfl | rfl | rfl | rfl | rfl | rfl | rfl | rfl | rfl | rfl
      · exact .other (T := "NoneType") ⟨.base .non, by decide⟩ (by decide) fun z => nomatch z
      · exact .other (T := "bool") ⟨.base (.bl _), by decide⟩ (by decide) fun z => nomatch z
      · exact .other (Tv.int _) (by decide) fun z => nomatch z
      · exact e1
      · exact e2
      · exact e3
      · exact e4
      · exact .other (Tv.int _) (by decide) fun z => nomatch z
      · exact .long (by decide +kernel) (by decide +kernel)
      · exact .long (by decide +kernel) (by decide +kernel)
      · exact .text (by decide +kernel) ⟨0, by decide +kernel, by decide +kernel⟩
      · exact .text (by decide +kernel) ⟨1, by decide +kernel, by decide +kernel⟩
      · exact e6
    generalize hS : [V.non, .bl true, .int 0, .ref q1, .ref q2, .ref q3, .ref q4, .int (10 ^ (20 : Int).toNat), .str (Txt.mul "S" 401), .str (Txt.mul "TS" 200 ++ "x"), .str "s", .str "T S", .ref q6] = someL at fin
    have len : someL.length = 13 := by rw [← hS]; rfl
    refine ⟨(by show 13 ≤ sizeLine; decide), fun M nM => ?_⟩
    have sM := same_upd (o := .lst someL) nM
    have hM : upd G6 M (.lst someL) M = some (.lst someL) := upd_same
    have kM : Kp a H4 (upd G6 M (.lst someL)) := .of_same (t6.trans sM)
    have pM := (pl t6).of fun u e => sM a u e
    replace fin : ∀ v ∈ someL, BadW K a (upd G6 M (.lst someL)) v := fun v hv => (fin v hv).kp (.of_same sM)
    show _
    rw [hS]
    generalize upd G6 M (.lst someL) = O at hM kM pM fin ⊢
    have wl : ∀ cs : List Bool, cs.length ≤ 400 → (wd cs).length ≤ sizeLine := fun cs h => by rw [wd_len]; exact Nat.le_of_lt (len_lt (by omega))
    have b400 : bs.length ≤ 400 := by omega
    refine ⟨_, rfl, _, rfl, _, rfl, _, rfl, _, rfl, wl bs b400, ?_⟩
    have c1 := cutS_take bs m
    have c2 : cutS (wd (bs.take m)) none (some 390) = wd ((bs.take m).take 390) := cutS_take (bs.take m) 390
    have c3 := cutS_drop bs m
    have c4 : cutS (wd (bs.drop m)) none (some 3) = wd ((bs.drop m).take 3) := cutS_take (bs.drop m) 3
    rw [c1]
    have l1 : (bs.take m).length ≤ 400 := Nat.le_trans (List.length_take_le' ..) b400
    have l2 : ((bs.take m).take 390).length ≤ 390 := by rw [List.length_take]; omega
    have l3 : (bs.drop m).length ≤ 400 := by rw [List.length_drop]; omega
    have l4 : ((bs.drop m).take 3).length ≤ 3 := by rw [List.length_take]; omega
    refine ⟨_, rfl, _, rfl, wl _ l1, ?_⟩
    rw [c2]
    have y1 : (wd ((bs.take m).take 390)).length ≤ 390 := by rw [wd_len]; exact l2
    have y4 : (wd ((bs.drop m).take 3)).length ≤ 3 := by rw [wd_len]; exact l4
    generalize wd ((bs.take m).take 390) = P1 at y1 ⊢
    refine ⟨_, rfl, _, _, rfl, rfl, Nat.le_trans (show _ ≤ 400 by omega) (by decide), ?_⟩
    refine ⟨_, rfl, _, rfl, _, rfl, _, rfl, wl bs b400, ?_⟩
    rw [c3]
    refine ⟨_, rfl, _, rfl, wl _ l3, ?_⟩
    rw [c4]
    generalize wd ((bs.drop m).take 3) = P2 at y4 ⊢
    have ln : ∀ u v : Str, (u ++ v).length = u.length + v.length := fun u v => Array.size_append
    have lt : (P1 ++ x ++ P2).length ≤ 400 := by rw [ln, ln]; omega
    refine ⟨_, _, rfl, rfl, Nat.le_trans (show _ ≤ 400 by rw [ln]; omega) (by decide), (by show 1 ≤ sizeLine; decide), fun N nN => ?_⟩
    have bad : ∀ G : Hp, BadW K a G (.str (P1 ++ x ++ P2)) := fun G => .text (Nat.le_trans lt (by decide)) ⟨P1.cps.size + j, (by
      show _ < ((P1.cps ++ x.cps) ++ P2.cps).size
      rw [Array.size_append, Array.size_append]
      omega), lt_mid hj hx⟩
    have sN := same_upd (o := .lst [.str (P1 ++ x ++ P2)]) nN
    have hN : upd O N (.lst [.str (P1 ++ x ++ P2)]) N = some (.lst [.str (P1 ++ x ++ P2)]) := upd_same
    generalize upd O N (.lst [.str (P1 ++ x ++ P2)]) = O1 at sN hN ⊢
    have kN : Kp a O O1 := .of_same sN
    have pN := pM.of fun u e => sN a u e
    refine ⟨N, 6, _, rfl, rfl, hN, by decide, by decide, (by show 1 * 6 ≤ sizeLine; decide), fun R nR => ?_⟩
    have sR := same_upd (o := .lst (List.replicate (6 : Int).toNat [.str (P1 ++ x ++ P2)]).flatten) nR
    have hR : upd O1 R (.lst (List.replicate (6 : Int).toNat [.str (P1 ++ x ++ P2)]).flatten) R = some (.lst (List.replicate (6 : Int).toNat [.str (P1 ++ x ++ P2)]).flatten) := upd_same
    generalize upd O1 R (.lst (List.replicate (6 : Int).toNat [.str (P1 ++ x ++ P2)]).flatten) = O2 at sR hR ⊢
    have kR : Kp a O O2 := kN.trans (.of_same sR)
    have pR := pN.of fun u e => sR a u e
    refine ⟨M, R, _, _, rfl, rfl, sR _ _ (sN _ _ hM), hR, (by rw [len]; show 13 + 6 ≤ sizeLine; decide), fun T nT => ?_⟩
    have aT := pR.ne nT
    have all : ∀ v ∈ someL ++ (List.replicate (6 : Int).toNat [V.str (P1 ++ x ++ P2)]).flatten, BadW K a O2 v := fun v hv => by
      rcases List.mem_append.mp hv with z | z
      · exact (fin v z).kp kR
      · have : v = .str (P1 ++ x ++ P2) := by
          obtain ⟨l, hl, hv⟩ := List.mem_flatten.mp z
          rw [(List.mem_replicate.mp hl).2] at hv
          exact List.mem_singleton.mp hv
        rw [this]
        exact bad O2
    have al : (someL ++ (List.replicate (6 : Int).toNat [V.str (P1 ++ x ++ P2)]).flatten).length = 19 := by
      rw [List.length_append, len]
      rfl
    generalize someL ++ (List.replicate (6 : Int).toNat [V.str (P1 ++ x ++ P2)]).flatten = allL at all al ⊢
    have sT := same_upd (o := .lst allL) nT
    have hT : upd O2 T (.lst allL) T = some (.lst allL) := upd_same
    have pT := pR.upd aT.symm (o := .lst allL)
    replace all : ∀ v ∈ allL, BadW K a (upd O2 T (.lst allL)) v := fun v hv => (all v hv).kp (.of_same sT)
    generalize upd O2 T (.lst allL) = O3 at sT hT pT all ⊢
    refine ⟨_, rfl, _, rfl, a, 19, rfl, by decide, by decide, pT, fun g2 W g20 g21 kW pW => ?_⟩
    obtain ⟨v, hv, hm⟩ := pick (xs := allL) (n := 19) g20 g21 al
    refine ⟨T, _, g2, v, rfl, rfl, .inl (.inl (kW T _ hT aT)), hv, q v W ?_ pW ((all v hm).kp kW)⟩
    exact (((k04.trans kM).trans kR).trans (.of_same sT)).trans kW
end
section
variable {P : Program} {w : World} {K : PySem.W.Frag} {mg : Str → Option Value} {base : Heap}
/-! ### what is due -/
abbrev four (v0 v1 v2 v3 : V) : List (L2.Key × V) := [(.inr "code", v0), (.inr "mate", v1), (.inr "many", v2), (.inr "at", v3)]
def oddV (b0 b1 b2 b3 : Bool) (n : Str) : Bool := if n = "code" then b0 else if n = "mate" then b1 else if n = "many" then b2 else b3
theorem due_at {d i : Nat} {od : Str → Bool} {ns : List Str} (ens : ns = ((if d < 3 then ["code", "many"] else if d < 5 then ["code", "mate", "many"] else if d < 6 then ["many"] else ["many", "at"]) : List Str)) {n : Str} (hx : ns[i]? = some n) (hp : ∀ j < i, ∀ m, ns[j]? = some m → od m = false) :
    (n = "code" ∧ d < 5) ∨ (n = "mate" ∧ (d = 3 ∨ d = 4) ∧ od "code" = false) ∨ (n = "many" ∧ (d < 5 → od "code" = false) ∧ (d = 3 ∨ d = 4 → od "mate" = false)) ∨ (n = "at" ∧ 6 ≤ d ∧ od "many" = false) := by
  by_cases h3 : d < 3
  · rw [if_pos h3] at ens
    subst ens
    match i, hx with
    | 0, hx => cases hx; exact .inl ⟨rfl, by omega⟩
    | 1, hx => cases hx; exact .inr (.inr (.inl ⟨rfl, fun _ => hp 0 (by decide) _ rfl, fun z => by omega⟩))
    | k + 2, hx => cases hx
  · rw [if_neg h3] at ens
    by_cases h5 : d < 5
    · rw [if_pos h5] at ens
      subst ens
      match i, hx with
      | 0, hx => cases hx; exact .inl ⟨rfl, h5⟩
      | 1, hx => cases hx; exact .inr (.inl ⟨rfl, by omega, hp 0 (by decide) _ rfl⟩)
      | 2, hx => cases hx; exact .inr (.inr (.inl ⟨rfl, fun _ => hp 0 (by decide) _ rfl, fun _ => hp 1 (by decide) _ rfl⟩))
      | k + 3, hx => cases hx
    · rw [if_neg h5] at ens
      by_cases h6 : d < 6
      · rw [if_pos h6] at ens
        subst ens
        match i, hx with
        | 0, hx => cases hx; exact .inr (.inr (.inl ⟨rfl, fun z => by omega, fun z => by omega⟩))
        | k + 1, hx => cases hx
      · rw [if_neg h6] at ens
        subst ens
        match i, hx with
        | 0, hx => cases hx; exact .inr (.inr (.inl ⟨rfl, fun z => by omega, fun z => by omega⟩))
        | 1, hx => cases hx; exact .inr (.inr (.inr ⟨rfl, by omega, hp 0 (by decide) _ rfl⟩))
        | k + 2, hx => cases hx
theorem due_end {d : Nat} {od : Str → Bool} {ns : List Str} (ens : ns = ((if d < 3 then ["code", "many"] else if d < 5 then ["code", "mate", "many"] else if d < 6 then ["many"] else ["many", "at"]) : List Str)) (hp : ∀ j < ns.length, ∀ m, ns[j]? = some m → od m = false) :
    (d < 5 → od "code" = false) ∧ (d = 3 ∨ d = 4 → od "mate" = false) ∧ od "many" = false ∧ (6 ≤ d → od "at" = false) := by
  by_cases h3 : d < 3
  · rw [if_pos h3] at ens
    subst ens
    exact ⟨fun _ => hp 0 (by decide) _ rfl, fun z => by omega, hp 1 (by decide) _ rfl, fun z => by omega⟩
  · rw [if_neg h3] at ens
    by_cases h5 : d < 5
    · rw [if_pos h5] at ens
      subst ens
      exact ⟨fun _ => hp 0 (by decide) _ rfl, fun _ => hp 1 (by decide) _ rfl, hp 2 (by decide) _ rfl, fun z => by omega⟩
    · rw [if_neg h5] at ens
      by_cases h6 : d < 6
      · rw [if_pos h6] at ens
        subst ens
        exact ⟨fun z => by omega, fun z => by omega, hp 0 (by decide) _ rfl, fun z => by omega⟩
      · rw [if_neg h6] at ens
        subst ens
        exact ⟨fun z => by omega, fun z => by omega, hp 0 (by decide) _ rfl, fun _ => hp 1 (by decide) _ rfl⟩
abbrev s__law_due : Stmt := top 72
abbrev N__law_due : List Str := ["_law_door", "_law_odd", "_law_given", "_law_shapes", "_law_name"]
theorem sc__law_due : FnScope N__law_due ["_law_door", "_law_odd", "_law_given"] (defScope s__law_due) := ⟨rfl, rfl, rfl, by decide +kernel, rfl, by decide +kernel, by decide +kernel⟩
def spDue (K : PySem.W.Frag) : Sp := fun vs H Q _ => ∃ (d : Nat) (o g : Addr) (ba : Bool) (v0 v1 v2 v3 : V) (f0 f1 : Option V) (T2 T3 : String) (k z : Str), vs = [.int (d : Nat), .ref o, .ref g] ∧ d < 8 ∧ Dr K H v0 v1 v2 v3 f0 f1 T2 T3 ∧
  H o = some (.dK (four (.bl f0.isSome) (.bl f1.isSome) (.bl (!wholeB v2 1 12)) (.bl ba))) ∧ H g = some (.dK (four v0 v1 v2 v3)) ∧ (∀ m : Nat, v2 = .int (m : Nat) → 1 ≤ m → m ≤ 12 → ba = !wholeB v3 0 ((2 : Int) ^ m - 1 - 1)) ∧ Told K H d v2 v3 f0 f1 k z ∧
  ∀ (t : Addr) (H' : Hp), Same H H' → H' t = some (.tup [.str k, .str z]) → Q (.ref t) H'
theorem ok_due (D : Df K mg "_law_due" s__law_due) (c__law_index_of : Cl P w K mg base 1 "_law_index_of" s__law_index_of ["_law_thing"] (spIndex K)) (m_int : mg "int" = none) (m_repr : mg "repr" = none) : ClG P w K mg base 3 "_law_due" s__law_due ["_law_door", "_law_odd", "_law_given"] (spDue K) := by
  refine D.okG sc__law_due (fun _ _ _ _ _ _ us hl => match us, hl with | [_, _, _], _ => rfl) (fun vs H Q E h => ?_) (fun f cdv A outer s H vs Q E hr hgd h => ?_)
  · obtain ⟨d, o, g, ba, v0, v1, v2, v3, f0, f1, T2, T3, k, z, rfl, _⟩ := h
    rfl
  · obtain ⟨d, o, g, ba, v0, v1, v2, v3, f0, f1, T2, T3, k, z, rfl, dl, dr, ho, hg, hb, td, q⟩ := h
    refine ⟨_, 
      (pss_cons (ps_set (i := 3) sc__law_due.nd rfl (Or.inl rfl) (pe_lst (pa_cons (pe_lst (pa_cons pe_str (pa_cons pe_str pa_nil))) (pa_cons (pe_lst (pa_cons pe_str (pa_cons pe_str (pa_cons pe_str pa_nil)))) (pa_cons (pe_lst (pa_cons pe_str pa_nil)) (pa_cons (pe_lst (pa_cons pe_str (pa_cons pe_str pa_nil))) pa_nil)))))) 
      (pss_cons (ps_for PassesOwn.never rfl (pi_list (pe_ix ix_list (pv 3) (pe_op op_add (pe_op op_add (pe_callTy call_int1 (by rfl) m_int (by decide +kernel) (pa_cons (pe_cmpR op_gt (pv 0) pe_int (nomark _)) pa_nil)) (pe_callTy call_int1 (by rfl) m_int (by decide +kernel) (pa_cons (pe_cmpR op_gt (pv 0) pe_int (nomark _)) pa_nil))) (pe_callTy call_int1 (by rfl) m_int (by decide +kernel) (pa_cons (pe_cmpR op_gt (pv 0) pe_int (nomark _)) pa_nil))) (fun _ _ => rfl))) (pg_name (i := 4) sc__law_due.nd rfl (Or.inl rfl)) (pss_cons (ps_if (PW.pt (pw_and (pt_val (pe_dget (uni hr) (pv 1) (pv 4) (fun _ _ => rfl))) (pw_and1 (pt_cmpR op_in_seq (pv 4) (pe_lst (pa_cons pe_str (pa_cons pe_str pa_nil))) (by rfl))))) (pss_one (ps_ret (pe_tup (pa_cons pe_str (pa_cons (pe_callB (call_reprE (L2H.roomH_of hr) hgd) (by rfl) m_repr (by decide +kernel) (pa_cons (pe_u c__law_index_of hr (by omega) (by rfl) (pa_cons (pe_dget (uni hr) (pv 2) (pv 4) (fun _ _ => rfl)) pa_nil)) pa_nil)) pa_nil))))) pss_nil) (pss_one (ps_if (pt_val (pe_dget (uni hr) (pv 1) (pv 4) (fun _ _ => rfl))) (pss_one (ps_ret (pe_tup (pa_cons (pv 4) (pa_cons (pe_callB (call_reprE (L2H.roomH_of hr) hgd) (by rfl) m_repr (by decide +kernel) (pa_cons (pe_dget (uni hr) (pv 2) (pv 4) (fun _ _ => rfl)) pa_nil)) pa_nil))))) pss_nil)))) 
      (pss_one (ps_ret (pe_tup (pa_cons pe_str (pa_cons pe_str pa_nil))))))), ?_⟩
    refine ⟨(by show 2 ≤ sizeLine; decide), fun l1 n1 => ?_⟩
    have s1 := same_upd (o := .lst [.str "code", .str "many"]) n1
    have h1 : upd H l1 (.lst [.str "code", .str "many"]) l1 = some (.lst [.str "code", .str "many"]) := upd_same
    generalize upd H l1 (.lst [.str "code", .str "many"]) = G1 at s1 h1 ⊢
    refine ⟨(by show 3 ≤ sizeLine; decide), fun l2 n2 => ?_⟩
    have s2 := same_upd (o := .lst [.str "code", .str "mate", .str "many"]) n2
    have h2 : upd G1 l2 (.lst [.str "code", .str "mate", .str "many"]) l2 = some (.lst [.str "code", .str "mate", .str "many"]) := upd_same
    generalize upd G1 l2 (.lst [.str "code", .str "mate", .str "many"]) = G2 at s2 h2 ⊢
    refine ⟨(by show 1 ≤ sizeLine; decide), fun l3 n3 => ?_⟩
    have s3 := same_upd (o := .lst [.str "many"]) n3
    have h3 : upd G2 l3 (.lst [.str "many"]) l3 = some (.lst [.str "many"]) := upd_same
    generalize upd G2 l3 (.lst [.str "many"]) = G3 at s3 h3 ⊢
    refine ⟨(by show 2 ≤ sizeLine; decide), fun l4 n4 => ?_⟩
    have s4 := same_upd (o := .lst [.str "many", .str "at"]) n4
    have h4 : upd G3 l4 (.lst [.str "many", .str "at"]) l4 = some (.lst [.str "many", .str "at"]) := upd_same
    generalize upd G3 l4 (.lst [.str "many", .str "at"]) = G4 at s4 h4 ⊢
    refine ⟨(by show 4 ≤ sizeLine; decide), fun L n5 => ?_⟩
    have s5 := same_upd (o := .lst [.ref l1, .ref l2, .ref l3, .ref l4]) n5
    have hL : upd G4 L (.lst [.ref l1, .ref l2, .ref l3, .ref l4]) L = some (.lst [.ref l1, .ref l2, .ref l3, .ref l4]) := upd_same
    generalize upd G4 L (.lst [.ref l1, .ref l2, .ref l3, .ref l4]) = G at s5 hL ⊢
    have r4 := s4.trans s5
    have r3 := s3.trans r4
    have r2 := s2.trans r3
    have sG := s1.trans r2
    have b1 := r2 _ _ h1
    have b2 := r3 _ _ h2
    have b3 := r4 _ _ h3
    have b4 := s5 _ _ h4
    have shp : ∃ (sh : Addr) (ns : List Str), atI [V.ref l1, .ref l2, .ref l3, .ref l4] (((if decide ((2 : Int) < (d : Nat)) = true then 1 else 0) + (if decide ((4 : Int) < (d : Nat)) = true then 1 else 0)) + (if decide ((5 : Int) < (d : Nat)) = true then 1 else 0)) = some (.ref sh) ∧ G sh = some (.lst (ns.map V.str)) ∧ ns = ((if d < 3 then ["code", "many"] else if d < 5 then ["code", "mate", "many"] else if d < 6 then ["many"] else ["many", "at"]) : List Str) := by
      have c8 : d = 0 ∨ d = 1 ∨ d = 2 ∨ d = 3 ∨ d = 4 ∨ d = 5 ∨ d = 6 ∨ d = 7 := by omega
      rcases c8 with rfl | rfl | rfl | rfl | rfl | rfl | rfl | rfl
      · exact ⟨l1, ["code", "many"], rfl, b1, rfl⟩
      · exact ⟨l1, ["code", "many"], rfl, b1, rfl⟩
      · exact ⟨l1, ["code", "many"], rfl, b1, rfl⟩
      · exact ⟨l2, ["code", "mate", "many"], rfl, b2, rfl⟩
      · exact ⟨l2, ["code", "mate", "many"], rfl, b2, rfl⟩
      · exact ⟨l3, ["many"], rfl, b3, rfl⟩
      · exact ⟨l4, ["many", "at"], rfl, b4, rfl⟩
      · exact ⟨l4, ["many", "at"], rfl, b4, rfl⟩
    obtain ⟨sh, ns, hat, hsh, ens⟩ := shp
    refine ⟨_, rfl, _, rfl, _, _, rfl, rfl, .inr ⟨_, rfl, _, rfl, _, _, rfl, rfl, .inr ⟨_, rfl, _, _, rfl, rfl, _, rfl, _, _, rfl, rfl, .inr ⟨_, rfl, _, _, rfl, rfl, ?_⟩⟩⟩⟩
    refine ⟨L, _, _, .ref sh, rfl, rfl, .inl (.inl hL), hat, ?_⟩
    refine ⟨sh, rfl, ⟨_, .inl (.inl hsh)⟩, ?_⟩
    refine for_list (xs := ns.map V.str) (fun i σ F => ∃ y : Option V, σ = [some (.int (d : Nat)), some (.ref o), some (.ref g), some (.ref L), y] ∧ Same G F ∧ ∀ j < i, ∀ m, ns[j]? = some m → oddV f0.isSome f1.isSome (!wholeB v2 1 12) ba m = false) ⟨none, rfl, Same.refl G, fun j hj => absurd hj (Nat.not_lt_zero j)⟩ (fun i σ F _ hI => ?_) (fun i x σ F hx hI => ?_) (fun σ F hI => ?_)
    · obtain ⟨_, _, sm, _⟩ := hI
      exact .inl (.inl (sm _ _ hsh))
    · obtain ⟨y, rfl, sm, pre⟩ := hI
      have sF := sG.trans sm
      obtain ⟨n, hn, rfl⟩ : ∃ n, ns[i]? = some n ∧ x = .str n := by
        rw [List.getElem?_map] at hx
        cases e : ns[i]? with
        | none => rw [e] at hx; cases hx
        | some n => rw [e] at hx; exact ⟨n, rfl, (Option.some.inj hx).symm⟩
      have at_ := due_at ens hn pre
      have ho' := sF _ _ ho
      have hg' := sF _ _ hg
      have nxt : oddV f0.isSome f1.isSome (!wholeB v2 1 12) ba n = false → ∀ j < i + 1, ∀ m, ns[j]? = some m → oddV f0.isSome f1.isSome (!wholeB v2 1 12) ba m = false := fun h j hj m hm => by
        rcases Nat.lt_succ_iff_lt_or_eq.mp hj with z | z
        · exact pre j z m hm
        · rw [z, hn] at hm
          rw [← Option.some.inj hm]
          exact h
      rcases at_ with ⟨rfl, d5⟩ | ⟨rfl, d34, z0⟩ | ⟨rfl, z0, z1⟩ | ⟨rfl, d6, z2⟩
      · have e0 : oddV f0.isSome f1.isSome (!wholeB v2 1 12) ba "code" = f0.isSome := rfl
        rw [e0] at nxt
        refine ⟨_, rfl, _, rfl, o, .bl f0.isSome, rfl, .inl ⟨_, .inr "code", .inl ho', rfl, rfl⟩, _, rfl, ?_⟩
        cases f0 with
        | none => exact iteF ⟨_, rfl, _, rfl, o, _, rfl, .inl ⟨_, .inr "code", .inl ho', rfl, rfl⟩, _, rfl, iteF ⟨_, rfl, sm, nxt rfl⟩⟩
        | some x =>
          obtain ⟨rfl, rz⟩ : k = "code" ∧ RpE K H x z := by
            cases td with
            | code _ h1 h2 => cases h1; exact ⟨rfl, h2⟩
            | mate _ h1 _ _ => cases h1
            | many h1 _ _ _ => cases h1 d5
            | at_ h1 _ _ _ _ _ => omega
            | told h1 _ _ _ => cases h1 d5
          refine iteT ⟨_, rfl, (by show 2 ≤ sizeLine; decide), fun p np => ⟨p, _, rfl, .inl (.inl (.inl upd_same)), rfl, rfl, _, rfl, iteT ?_⟩⟩
          have sp := same_upd (o := .lst [.str "code", .str "mate"]) np
          refine ⟨_, rfl, _, rfl, g, v0, rfl, .inl ⟨_, .inr "code", .inl (sp _ _ hg'), rfl, rfl⟩, v0, x, rfl, dr.h0.same (sF.trans sp), fun F2 s2 => ?_⟩
          refine ⟨x, z, rfl, rz.same ((sF.trans sp).trans s2), (by show 2 ≤ sizeLine; decide), fun t nt => ?_⟩
          exact q t _ (((sF.trans sp).trans s2).trans (same_upd nt)) upd_same
      · have e0 : oddV f0.isSome f1.isSome (!wholeB v2 1 12) ba "mate" = f1.isSome := rfl
        have e1 : f0.isSome = false := z0
        rw [e0] at nxt
        refine ⟨_, rfl, _, rfl, o, .bl f1.isSome, rfl, .inl ⟨_, .inr "mate", .inl ho', rfl, rfl⟩, _, rfl, ?_⟩
        cases f1 with
        | none => exact iteF ⟨_, rfl, _, rfl, o, _, rfl, .inl ⟨_, .inr "mate", .inl ho', rfl, rfl⟩, _, rfl, iteF ⟨_, rfl, sm, nxt rfl⟩⟩
        | some x =>
          obtain ⟨rfl, rz⟩ : k = "code" ∧ RpE K H x z := by
            cases td with
            | code _ h1 h2 => rw [h1] at e1; cases e1
            | mate _ _ h1 h2 => cases h1; exact ⟨rfl, h2⟩
            | many _ h1 _ _ => cases h1 d34
            | at_ h1 _ _ _ _ _ => omega
            | told _ h1 _ _ => cases h1 d34
          refine iteT ⟨_, rfl, (by show 2 ≤ sizeLine; decide), fun p np => ⟨p, _, rfl, .inl (.inl (.inl upd_same)), rfl, rfl, _, rfl, iteT ?_⟩⟩
          have sp := same_upd (o := .lst [.str "code", .str "mate"]) np
          refine ⟨_, rfl, _, rfl, g, v1, rfl, .inl ⟨_, .inr "mate", .inl (sp _ _ hg'), rfl, rfl⟩, v1, x, rfl, dr.h1.same (sF.trans sp), fun F2 s2 => ?_⟩
          refine ⟨x, z, rfl, rz.same ((sF.trans sp).trans s2), (by show 2 ≤ sizeLine; decide), fun t nt => ?_⟩
          exact q t _ (((sF.trans sp).trans s2).trans (same_upd nt)) upd_same
      · have e0 : oddV f0.isSome f1.isSome (!wholeB v2 1 12) ba "many" = (!wholeB v2 1 12) := rfl
        rw [e0] at nxt
        refine ⟨_, rfl, _, rfl, o, .bl (!wholeB v2 1 12), rfl, .inl ⟨_, .inr "many", .inl ho', rfl, rfl⟩, _, rfl, ?_⟩
        cases hw : wholeB v2 1 12 with
        | true =>
          rw [hw] at nxt
          refine iteF ⟨_, rfl, _, rfl, o, .bl (!wholeB v2 1 12), rfl, .inl ⟨_, .inr "many", .inl ho', rfl, rfl⟩, _, rfl, ?_⟩
          rw [hw]
          exact iteF ⟨_, rfl, sm, nxt rfl⟩
        | false =>
          have n0 : d < 5 → f0 = none := fun h => by
            have := z0 h
            cases f0 with
            | none => rfl
            | some x => cases this
          have n1' : d = 3 ∨ d = 4 → f1 = none := fun h => by
            have := z1 h
            cases f1 with
            | none => rfl
            | some x => cases this
          obtain ⟨rfl, rz⟩ : k = "many" ∧ RpE K H v2 z := by
            cases td with
            | code h0 h1 h2 => rw [n0 h0] at h1; cases h1
            | mate h0 _ h1 h2 => rw [n1' h0] at h1; cases h1
            | many _ _ _ h1 => exact ⟨rfl, h1⟩
            | at_ _ h1 h2 h3 _ _ => rw [h1, whole_of h2 h3] at hw; cases hw
            | told _ _ h1 _ => rw [h1] at hw; cases hw
          refine iteT ⟨_, rfl, (by show 2 ≤ sizeLine; decide), fun p np => ⟨p, _, rfl, .inl (.inl (.inl upd_same)), rfl, rfl, _, rfl, iteF ?_⟩⟩
          have sp := same_upd (o := .lst [.str "code", .str "mate"]) np
          refine ⟨_, rfl, _, rfl, o, .bl (!wholeB v2 1 12), rfl, .inl ⟨_, .inr "many", .inl (sp _ _ ho'), rfl, rfl⟩, _, rfl, ?_⟩
          rw [hw]
          refine iteT ⟨_, rfl, _, rfl, _, rfl, g, v2, rfl, .inl ⟨_, .inr "many", .inl (sp _ _ hg'), rfl, rfl⟩, v2, z, rfl, rz.same (sF.trans sp), (by show 2 ≤ sizeLine; decide), fun t nt => ?_⟩
          exact q t _ ((sF.trans sp).trans (same_upd nt)) upd_same
      · have e0 : oddV f0.isSome f1.isSome (!wholeB v2 1 12) ba "at" = ba := rfl
        rw [e0] at nxt
        have hw : wholeB v2 1 12 = true := by
          have e1 : (!wholeB v2 1 12) = false := z2
          cases h : wholeB v2 1 12 with
          | true => rfl
          | false => rw [h] at e1; cases e1
        obtain ⟨m, em, m1, m2⟩ := whole_nat hw
        have eb := hb m em m1 m2
        refine ⟨_, rfl, _, rfl, o, .bl ba, rfl, .inl ⟨_, .inr "at", .inl ho', rfl, rfl⟩, _, rfl, ?_⟩
        cases ba with
        | false => exact iteF ⟨_, rfl, _, rfl, o, _, rfl, .inl ⟨_, .inr "at", .inl ho', rfl, rfl⟩, _, rfl, iteF ⟨_, rfl, sm, nxt rfl⟩⟩
        | true =>
          have hn : wholeB v3 0 ((2 : Int) ^ m - 1 - 1) = false := by
            cases h : wholeB v3 0 ((2 : Int) ^ m - 1 - 1) with
            | false => rfl
            | true => rw [h] at eb; cases eb
          obtain ⟨rfl, rz⟩ : k = "at" ∧ RpE K H v3 z := by
            cases td with
            | code h0 h1 h2 => omega
            | mate h0 _ h1 h2 => omega
            | many _ _ h1 _ => rw [hw] at h1; cases h1
            | at_ _ _ _ _ _ h => exact ⟨rfl, h⟩
            | told _ _ _ h1 => rw [h1 d6 m em m1 m2] at hn; cases hn
          refine iteT ⟨_, rfl, (by show 2 ≤ sizeLine; decide), fun p np => ⟨p, _, rfl, .inl (.inl (.inl upd_same)), rfl, rfl, _, rfl, iteF ?_⟩⟩
          have sp := same_upd (o := .lst [.str "code", .str "mate"]) np
          refine ⟨_, rfl, _, rfl, o, _, rfl, .inl ⟨_, .inr "at", .inl (sp _ _ ho'), rfl, rfl⟩, _, rfl, ?_⟩
          refine iteT ⟨_, rfl, _, rfl, _, rfl, g, v3, rfl, .inl ⟨_, .inr "at", .inl (sp _ _ hg'), rfl, rfl⟩, v3, z, rfl, rz.same (sF.trans sp), (by show 2 ≤ sizeLine; decide), fun t nt => ?_⟩
          exact q t _ ((sF.trans sp).trans (same_upd nt)) upd_same
    · obtain ⟨y, rfl, sm, pre⟩ := hI
      rw [List.length_map] at pre
      obtain ⟨u0, u1, u2, u3⟩ := due_end ens pre
      have e2 : (!wholeB v2 1 12) = false := u2
      obtain ⟨rfl, rfl⟩ : k = "told" ∧ z = "" := by
        cases td with
        | code h0 h1 h2 =>
          have : f0.isSome = false := u0 h0
          rw [h1] at this
          cases this
        | mate h0 _ h1 h2 =>
          have : f1.isSome = false := u1 h0
          rw [h1] at this
          cases this
        | many _ _ h1 _ => rw [h1] at e2; cases e2
        | at_ h1 h2 h3 h4 h5 _ =>
          have e3 : ba = false := u3 h1
          have eb := hb _ h2 h3 h4
          rw [e3, h5] at eb
          cases eb
        | told _ _ _ _ => exact ⟨rfl, rfl⟩
      exact ⟨(by show 2 ≤ sizeLine; decide), fun t nt => q t _ ((sG.trans sm).trans (same_upd nt)) upd_same⟩
end
section
variable {P : Program} {w : World} {K : PySem.W.Frag} {mg : Str → Option Value} {base : Heap}
/-! ### one call is right -/
theorem str_ok : PyData.strOk "code" = true ∧ PyData.strOk "many" = true ∧ PyData.strOk "at" = true ∧ PyData.strOk "told" = true := by decide +kernel
theorem ok_ix4 : ∀ i : Nat, i < 400 → PyData.strOk (PyData.int ((i : Nat) : Int)).shown = true := by decide +kernel
theorem ok_4k : ∀ i : Nat, i < 4096 → PyData.strOk (PyData.int ((i : Nat) : Int)).shown = true := by decide +kernel
theorem NmC.small {H : Hp} {i : Nat} (h : i < 4096) : RpE K H (.int (i : Nat)) (PyData.int (i : Nat)).shown := RpE.int (show ((i : Nat) : Int).natAbs.log2 < 1920 from Nat.lt_of_le_of_lt (show Nat.log2 i ≤ 12 from by
  by_cases z : i = 0
  · subst z; decide
  · exact Nat.le_of_lt_succ ((Nat.log2_lt z).mpr (by omega))) (by decide))
def Ix (x : V) : Prop := x = .non ∨ ∃ i : Nat, i < 400 ∧ x = .int (i : Nat)
theorem Ix.rp {x : V} (h : Ix x) : ∃ z : Str, (∀ H, RpE K H x z) ∧ PyData.strOk z = true := by
  rcases h with rfl | ⟨i, hi, rfl⟩
  · exact ⟨_, fun _ => RpE.non, by decide +kernel⟩
  · exact ⟨_, fun _ => RpE.int (Nat.lt_of_le_of_lt (Nat.log2_le_self _) (show i < 1920 by omega)), ok_ix4 i hi⟩
/-- something is told at every door -/
theorem told_of {H : Hp} {d : Nat} {v2 v3 : V} {f0 f1 : Option V} (h0 : ∀ x, f0 = some x → Ix x) (h1 : ∀ x, f1 = some x → Ix x) (h2 : ∃ z, RpE K H v2 z ∧ PyData.strOk z = true) (h3 : ∃ z, RpE K H v3 z ∧ PyData.strOk z = true) :
    ∃ k z : Str, Told K H d v2 v3 f0 f1 k z ∧ PyData.strOk k = true ∧ PyData.strOk z = true := by
  by_cases g0 : d < 5 → f0 = none
  · by_cases g1 : d = 3 ∨ d = 4 → f1 = none
    · cases hw : wholeB v2 1 12 with
      | false =>
        obtain ⟨z, r, o⟩ := h2
        exact ⟨"many", z, .many g0 g1 hw r, by decide +kernel, o⟩
      | true =>
        by_cases g3 : 6 ≤ d → ∀ m : Nat, v2 = .int (m : Nat) → 1 ≤ m → m ≤ 12 → wholeB v3 0 ((2 : Int) ^ m - 1 - 1) = true
        · exact ⟨"told", "", .told g0 g1 hw g3, by decide +kernel, by decide +kernel⟩
        · have d6 : 6 ≤ d := Classical.byContradiction fun h => g3 fun h2 => absurd h2 h
          obtain ⟨m, em, m1, m2⟩ := whole_nat hw
          have hn : wholeB v3 0 ((2 : Int) ^ m - 1 - 1) = false := by
            cases h : wholeB v3 0 ((2 : Int) ^ m - 1 - 1) with
            | false => rfl
            | true =>
              refine absurd (fun _ m' em' _ _ => ?_) g3
              rw [em] at em'
              have e : ((m : Nat) : Int) = ((m' : Nat) : Int) := V.int.inj em'
              have e2 : m' = m := by omega
              rw [e2, h]
          obtain ⟨z, r, o⟩ := h3
          exact ⟨"at", z, .at_ d6 em m1 m2 hn r, by decide +kernel, o⟩
    · have d34 : d = 3 ∨ d = 4 := Classical.byContradiction fun h => g1 fun h2 => absurd h2 h
      have e0 : f0 = none := g0 (by omega)
      cases f1 with
      | none => exact absurd (fun _ => rfl) g1
      | some x =>
        obtain ⟨z, r, o⟩ := (h1 x rfl).rp (K := K)
        exact ⟨"code", z, .mate d34 e0 rfl (r H), by decide +kernel, o⟩
  · have d5 : d < 5 := Classical.byContradiction fun h => g0 fun h2 => absurd h2 h
    cases f0 with
    | none => exact absurd (fun _ => rfl) g0
    | some x =>
      obtain ⟨z, r, o⟩ := (h0 x rfl).rp (K := K)
      exact ⟨"code", z, .code d5 rfl (r H), by decide +kernel, o⟩
abbrev twoD (k z : Str) : PyData := .tuple [.str k, .str z]
theorem Dp_two {H : Hp} {t : Addr} {k z : Str} (h : H t = some (.tup [.str k, .str z])) : Dp K H (.ref t) (twoD k z) := .tup (.inl (.inl h)) (.cons (.str k) (.cons (.str z) .nil))
theorem lay_two {k z : Str} (o1 : PyData.strOk k = true) (o2 : PyData.strOk z = true) : (twoD k z).canLay0 = true := by
  simp [PyData.canLay0, PyData.canLayAll0, o1, o2]
theorem sh_two {k z : Str} (o1 : PyData.strOk k = true) (o2 : PyData.strOk z = true) : SeqAt.shaped (twoD k z) = true := by
  unfold SeqAt.shaped
  rw [lay_two o1 o2]
  simp [PyData.depth, PyData.depthAll]
theorem eq_two {k z : Str} (o1 : PyData.strOk k = true) (o2 : PyData.strOk z = true) : PyData.eqv (twoD k z) (twoD k z) = true := SeqAt.eqv_refl _ (lay_two o1 o2)
end
section
variable {P : Program} {w : World} {K : PySem.W.Frag} {mg : Str → Option Value} {base : Heap}
abbrev s__law_call_right : Stmt := top 73
abbrev N__law_call_right : List Str := ["_law_pool_here", "_law_door", "_law_many", "_law_bits", "_law_odd", "_law_good", "_law_bad", "_law_names", "_law_given", "_law_fine", "_law_told", "_law_k"]
theorem sc__law_call_right : FnScope N__law_call_right ["_law_pool_here", "_law_door"] (defScope s__law_call_right) := ⟨rfl, rfl, rfl, by decide +kernel, rfl, by decide +kernel, by decide +kernel⟩
def spCall : Sp := fun vs H Q _ => ∃ (a : Addr) (d : Nat), vs = [.ref a, .int (d : Nat)] ∧ d < 8 ∧ Pool H a ∧ ∀ H', Kp a H H' → Pool H' a → Q (.bl true) H'
theorem ok_call (D : Df K mg "_law_call_right" s__law_call_right) (c__law_draw : Cl P w K mg base 1 "_law_draw" s__law_draw ["_law_pool_here", "_law_limit"] spDraw) (c__law_letters : Cl P w K mg base 2 "_law_letters" s__law_letters ["_law_pool_here", "_law_many"] spLetters) (c__law_length : Cl P w K mg base 2 "_law_length" s__law_length ["_law_pool_here", "_law_many"] spLength)
    (c__law_odd_code : Cl P w K mg base 3 "_law_odd_code" s__law_odd_code ["_law_pool_here"] (spOddCode K)) (c__law_odd_many : Cl P w K mg base 2 "_law_odd_many" s__law_odd_many ["_law_pool_here"] (spOddMany K)) (c__law_odd_place : Cl P w K mg base 2 "_law_odd_place" s__law_odd_place ["_law_pool_here", "_law_most"] (spOddPlace K))
    (c__law_caught : ClG P w K mg base 7 "_law_caught" s__law_caught ["_law_door", "_law_code", "_law_mate", "_law_many", "_law_at"] (spCaught K)) (c__law_due : ClG P w K mg base 3 "_law_due" s__law_due ["_law_door", "_law_odd", "_law_given"] (spDue K)) (m_int : mg "int" = none) (m_dict : mg "dict" = none) (m_range : mg "range" = none) : ClG P w K mg base 8 "_law_call_right" s__law_call_right ["_law_pool_here", "_law_door"] spCall := by
  refine D.okG sc__law_call_right (fun _ _ _ _ _ _ us hl => match us, hl with | [_, _], _ => rfl) (fun vs H Q E h => ?_) (fun f cdv A outer s H vs Q E hr hgd h => ?_)
  · obtain ⟨a, d, rfl, _⟩ := h
    rfl
  · obtain ⟨a, d, rfl, dl, hp, q⟩ := h
    refine ⟨_, 
      (pss_cons (ps_par (i := 2) (j := 3) (by rfl) sc__law_call_right.nd rfl rfl (by decide) rfl rfl (pa_cons (pe_op op_add pe_int (pe_u c__law_draw hr (by omega) (by rfl) (pa_cons (pv 0) (pa_cons pe_int pa_nil)))) (pa_cons (pe_u c__law_draw hr (by omega) (by rfl) (pa_cons (pv 0) (pa_cons pe_int pa_nil))) pa_nil)) (by rfl)) 
      (pss_cons (ps_set (i := 4) sc__law_call_right.nd rfl (Or.inr rfl) (pe_disp (pps_cons pe_str (pe_cmpR op_eq (pe_op op_mod (pv 3) pe_int) pe_int (nomark _)) (pps_cons pe_str (pe_cmpR op_eq (pe_op op_mod (pe_op op_fdiv (pv 3) pe_int) pe_int) pe_int (nomark _)) (pps_cons pe_str (pe_cmpR op_eq (pe_op op_mod (pe_op op_fdiv (pv 3) pe_int) pe_int) pe_int (nomark _)) (pps_cons pe_str (pe_cmpR op_eq (pe_op op_fdiv (pv 3) pe_int) pe_int (nomark _)) pps_nil)))) rfl rfl (by simp) (by decide))) 
      (pss_cons (ps_set (i := 5) sc__law_call_right.nd rfl (Or.inr rfl) (pe_lst (pa_cons (pe_u c__law_letters hr (by omega) (by rfl) (pa_cons (pv 0) (pa_cons (pe_u c__law_length hr (by omega) (by rfl) (pa_cons (pv 0) (pa_cons (pv 2) pa_nil))) pa_nil))) (pa_cons (pe_u c__law_letters hr (by omega) (by rfl) (pa_cons (pv 0) (pa_cons (pe_u c__law_draw hr (by omega) (by rfl) (pa_cons (pv 0) (pa_cons pe_int pa_nil))) pa_nil))) (pa_cons (pv 2) pa_nil))))) 
      (pss_cons (ps_expr (pe_bm PySem.F.plainAttrs_list PySem.F.slot_list_append PySem.F.type_list_append mt_append (pv 5) (pa_cons (pe_u c__law_draw hr (by omega) (by rfl) (pa_cons (pv 0) (pa_cons (pe_op op_sub (pe_op op_oneShl pe_int (pv 2)) pe_int) pa_nil))) pa_nil))) 
      (pss_cons (ps_set (i := 6) sc__law_call_right.nd rfl (Or.inr rfl) (pe_lst (pa_cons (pe_u c__law_odd_code hr (by omega) (by rfl) (pa_cons (pv 0) pa_nil)) (pa_cons (pe_u c__law_odd_code hr (by omega) (by rfl) (pa_cons (pv 0) pa_nil)) (pa_cons (pe_u c__law_odd_many hr (by omega) (by rfl) (pa_cons (pv 0) pa_nil)) (pa_cons (pe_u c__law_odd_place hr (by omega) (by rfl) (pa_cons (pv 0) (pa_cons (pe_op op_sub (pe_op op_oneShl pe_int (pv 2)) pe_int) pa_nil))) pa_nil)))))) 
      (pss_cons (ps_set (i := 7) sc__law_call_right.nd rfl (Or.inr rfl) (pe_lst (pa_cons pe_str (pa_cons pe_str (pa_cons pe_str (pa_cons pe_str pa_nil)))))) 
      (pss_cons (ps_set (i := 8) sc__law_call_right.nd rfl (Or.inl rfl) (pe_callTy (call_dictP rfl) (by rfl) m_dict (by decide +kernel) (pa_cons (pe_lc (own := [("_law_k", 11)]) (g := gName 11) (te := (tTup (tCons (tOp (rIxL K) (tVar 7) (tVar 11)) (tCons (tOp (rIxL K) (tOp (rIxL K) (tLst (tCons (tVar 5) (tCons (tVar 6) tNil))) (tCB (fun xs H Q => (∃ i, xs = [.int i] ∧ Q (.int i) H) ∨ ∃ k, xs = [.bl k] ∧ Q (.int (if k then 1 else 0)) H) (tCons (tDGet (tVar 4) (tOp (rIxL K) (tVar 7) (tVar 11))) tNil))) (tVar 11)) tNil)))) rfl sc__law_call_right.nd (pi_range1 (by rfl) m_range (pa_cons pe_int pa_nil)) (blkOk_by (own := [("_law_k", 11)]) (N := N__law_call_right) (sc := (defScope s__law_call_right)) (by decide +kernel)) (fun _ _ _ _ _ => (pg_name (i := 11) sc__law_call_right.nd rfl (Or.inl rfl))) (fun _ _ _ _ _ => pts_nil) (fun _ _ _ _ _ => (pe_tup (pa_cons (pe_ix ix_list (pv 7) (pv 11) (fun _ _ => rfl)) (pa_cons (pe_ix ix_list (pe_ix ix_list (pe_lst (pa_cons (pv 5) (pa_cons (pv 6) pa_nil))) (pe_callTy call_int1 (by rfl) m_int (by decide +kernel) (pa_cons (pe_dget (uni hr) (pv 4) (pe_ix ix_list (pv 7) (pv 11) (fun _ _ => rfl)) (fun _ _ => rfl)) pa_nil)) (fun _ _ => rfl)) (pv 11) (fun _ _ => rfl)) pa_nil))))) pa_nil))) 
      (pss_cons (ps_set (i := 9) sc__law_call_right.nd rfl (Or.inl rfl) (pe_cmpR (op_eqD hr.units) (pe_ug c__law_caught hr hgd (by omega) (by rfl) (pa_cons (pv 1) (pa_cons (pe_ix ix_list (pv 5) pe_int (fun _ _ => rfl)) (pa_cons (pe_ix ix_list (pv 5) pe_int (fun _ _ => rfl)) (pa_cons (pe_ix ix_list (pv 5) pe_int (fun _ _ => rfl)) (pa_cons (pe_ix ix_list (pv 5) pe_int (fun _ _ => rfl)) pa_nil)))))) (pe_tup (pa_cons pe_str (pa_cons pe_str pa_nil))) (nomark _))) 
      (pss_cons (ps_set (i := 10) sc__law_call_right.nd rfl (Or.inl rfl) (pe_ug c__law_caught hr hgd (by omega) (by rfl) (pa_cons (pv 1) (pa_cons (pe_dget (uni hr) (pv 8) pe_str (fun _ _ => rfl)) (pa_cons (pe_dget (uni hr) (pv 8) pe_str (fun _ _ => rfl)) (pa_cons (pe_dget (uni hr) (pv 8) pe_str (fun _ _ => rfl)) (pa_cons (pe_dget (uni hr) (pv 8) pe_str (fun _ _ => rfl)) pa_nil))))))) 
      (pss_cons (ps_if (PW.pt (pw_or (pt_not (pt_val (pv 9))) (pw_or1 (pt_cmpR (op_neD hr.units) (pv 10) (pe_ug c__law_due hr hgd (by omega) (by rfl) (pa_cons (pv 1) (pa_cons (pv 4) (pa_cons (pv 8) pa_nil)))) (nomark _))))) (pss_one (ps_ret pe_bl)) pss_nil) 
      (pss_one (ps_ret (pe_cmpR (op_eqD hr.units) (pe_ug c__law_caught hr hgd (by omega) (by rfl) (pa_cons (pv 1) (pa_cons (pe_ix ix_list (pv 5) pe_int (fun _ _ => rfl)) (pa_cons (pe_ix ix_list (pv 5) pe_int (fun _ _ => rfl)) (pa_cons (pe_ix ix_list (pv 5) pe_int (fun _ _ => rfl)) (pa_cons (pe_ix ix_list (pv 5) pe_int (fun _ _ => rfl)) pa_nil)))))) (pe_tup (pa_cons pe_str (pa_cons pe_str pa_nil))) (nomark _)))))))))))))), ?_⟩
    refine ⟨_, rfl, a, 12, rfl, by decide, by decide, hp, fun y1 H1 y10 y11 k1 p1 => ⟨_, _, rfl, rfl, _, rfl, a, 16, rfl, by decide, by decide, p1, fun bits H2 y20 y21 k2 p2 => ⟨_, _, rfl, ?_⟩⟩⟩
    refine fun o no => ?_
    have ao := p2.ne no
    refine ⟨_, rfl, _, _, rfl, rfl, (by show (0 : Int) < 2; decide), rfl, ?_⟩
    refine ⟨_, rfl, _, _, rfl, rfl, ⟨by decide, by decide⟩, _, _, rfl, rfl, (by show (0 : Int) < 2; decide), rfl, ?_⟩
    refine ⟨_, rfl, _, _, rfl, rfl, ⟨by decide, by decide⟩, _, _, rfl, rfl, (by show (0 : Int) < 2; decide), rfl, ?_⟩
    refine ⟨_, rfl, _, _, rfl, rfl, ⟨by decide, by decide⟩, rfl, ?_⟩
    generalize decide (V.int (bits % 2) = V.int 1) = b0
    generalize decide (V.int (bits / 2 % 2) = V.int 1) = b1
    generalize decide (V.int (bits / 4 % 2) = V.int 1) = b2
    generalize decide (V.int (bits / 8) = V.int 1) = b3
    refine ⟨upd_same, four (.bl b0) (.bl b1) (.bl b2) (.bl b3), rfl, by simp, ?_⟩
    have eo : upd (upd H2 o (.dK [])) o (.dK (mergeK [] (four (.bl b0) (.bl b1) (.bl b2) (.bl b3)))) = upd H2 o (.dK (four (.bl b0) (.bl b1) (.bl b2) (.bl b3))) := by
      funext b
      by_cases h : b = o
      · rw [h, upd_same, upd_same]
        rfl
      · rw [upd_ne h, upd_ne h, upd_ne h]
    rw [eo]
    have so := same_upd (o := .dK (four (.bl b0) (.bl b1) (.bl b2) (.bl b3))) no
    have ho : upd H2 o (.dK (four (.bl b0) (.bl b1) (.bl b2) (.bl b3))) o = some (.dK (four (.bl b0) (.bl b1) (.bl b2) (.bl b3))) := upd_same
    have po := p2.upd ao.symm (o := .dK (four (.bl b0) (.bl b1) (.bl b2) (.bl b3)))
    generalize upd H2 o (.dK (four (.bl b0) (.bl b1) (.bl b2) (.bl b3))) = H3 at so ho po ⊢
    have k03 := (k1.trans k2).trans (.of_same so)
    obtain ⟨m, hm⟩ : ∃ m : Nat, (1 : Int) + y1 = ((m : Nat) : Int) := ⟨(1 + y1).toNat, by omega⟩
    have m1 : 1 ≤ m := by omega
    have m2 : m ≤ 12 := by omega
    have pw : (2 : Int) ^ m = ((2 ^ m : Nat) : Int) := pow_cast m
    have pw1 : 2 ≤ 2 ^ m := Nat.pow_le_pow_right (show 0 < 2 by decide) m1
    have pw2 : 2 ^ m ≤ 4096 := Nat.pow_le_pow_right (show 0 < 2 by decide) m2
    -- good
    refine ⟨_, rfl, _, rfl, _, rfl, a, _, rfl, by omega, by omega, po, fun n H4 k4 p4 n0 n1 => ?_⟩
    refine ⟨a, n, rfl, n0, by omega, p4, fun bs H5 k5 p5 lb => ?_⟩
    refine ⟨_, rfl, _, rfl, a, 14, rfl, by decide, by decide, p5, fun n2 H6 n20 n21 k6 p6 => ?_⟩
    refine ⟨a, n2, rfl, n20, by omega, p6, fun cs H7 k7 p7 lc => ?_⟩
    refine ⟨_, rfl, (by show 3 ≤ sizeLine; decide), fun go ng => ?_⟩
    have ag := p7.ne ng
    have sg := same_upd (o := .lst [.str (wd bs), .str (wd cs), .int (1 + y1)]) ng
    have hg : upd H7 go (.lst [.str (wd bs), .str (wd cs), .int (1 + y1)]) go = some (.lst [.str (wd bs), .str (wd cs), .int (1 + y1)]) := upd_same
    have pg := p7.upd ag.symm (o := .lst [.str (wd bs), .str (wd cs), .int (1 + y1)])
    refine ⟨_, rfl, .inl ⟨rfl, _, .inl (.inl hg)⟩, ?_⟩
    refine ⟨_, rfl, _, rfl, m, rfl, congrArg V.int hm, by omega, _, _, rfl, rfl, a, _, rfl, by omega, by omega, pg, fun n3 H8 n30 n31 k8 p8 => ?_⟩
    have k08 := ((((k03.trans k4).trans k5).trans k6).trans k7)
    have fg : H go = none := k08.free ng ag
    have k09 : Kp a H H8 := (k08.upd fg).trans k8
    refine ⟨go, _, _, rfl, rfl, k8 go _ hg ag, len_lt (by show 3 ≤ _; decide), ?_⟩
    have hg2 : upd H8 go (.lst ([.str (wd bs), .str (wd cs), .int (1 + y1)] ++ [.int n3])) go = some (.lst [.str (wd bs), .str (wd cs), .int (1 + y1), .int n3]) := upd_same
    have k10 : Kp a H (upd H8 go (.lst ([.str (wd bs), .str (wd cs), .int (1 + y1)] ++ [.int n3]))) := k09.upd fg
    have p10 : Pool (upd H8 go (.lst ([.str (wd bs), .str (wd cs), .int (1 + y1)] ++ [.int n3]))) a := p8.upd ag.symm
    have ko : go ≠ o := fun z => by
      have := (((k4.trans k5).trans k6).trans k7) o _ ho ao
      rw [← z, ng] at this
      cases this
    have ho2 : upd H8 go (.lst ([.str (wd bs), .str (wd cs), .int (1 + y1)] ++ [.int n3])) o = some (.dK (four (.bl b0) (.bl b1) (.bl b2) (.bl b3))) := by
      rw [upd_ne ko.symm]
      refine k8 o _ ?_ ao
      rw [upd_ne ko.symm]
      exact (((k4.trans k5).trans k6).trans k7) o _ ho ao
    generalize upd H8 go (.lst ([.str (wd bs), .str (wd cs), .int (1 + y1)] ++ [.int n3])) = G at hg2 k10 p10 ho2 ⊢
    -- bad
    refine ⟨_, rfl, a, rfl, p10, fun c0 G2 j2 q2 bad0 => ?_⟩
    refine ⟨_, rfl, a, rfl, q2, fun c1 G3 j3 q3 bad1 => ?_⟩
    refine ⟨_, rfl, a, rfl, q3, fun c2 G4 j4 q4 nm2 wh2 => ?_⟩
    refine ⟨_, rfl, _, rfl, m, rfl, congrArg V.int hm, by omega, _, _, rfl, rfl, a, 2 ^ m - 1, ?_, by omega, by omega, ok_count m (by omega), q4, fun c3 G5 j5 q5 nm3 wh3 => ?_⟩
    · exact congrArg (fun t : Int => [V.ref a, V.int t]) (by rw [pw]; omega)
    refine ⟨(by show 4 ≤ sizeLine; decide), fun be nb => ?_⟩
    have ab := q5.ne nb
    have sb := same_upd (o := .lst [c0, c1, c2, c3]) nb
    have hb : upd G5 be (.lst [c0, c1, c2, c3]) be = some (.lst [c0, c1, c2, c3]) := upd_same
    have jj := ((j2.trans j3).trans j4).trans j5
    have jb : Kp a G (upd G5 be (.lst [c0, c1, c2, c3])) := jj.trans (.of_same sb)
    have jb3 : Kp a G3 (upd G5 be (.lst [c0, c1, c2, c3])) := (j4.trans j5).trans (.of_same sb)
    have jb2 : Kp a G2 (upd G5 be (.lst [c0, c1, c2, c3])) := (j3.trans jb3)
    have jb4 : Kp a G4 (upd G5 be (.lst [c0, c1, c2, c3])) := j5.trans (.of_same sb)
    have qb := q5.upd ab.symm (o := .lst [c0, c1, c2, c3])
    replace bad0 := bad0.kp jb2
    replace bad1 := bad1.kp jb3
    replace nm2 := nm2.kp jb4
    replace nm3 := nm3.kp (.of_same sb)
    generalize upd G5 be (.lst [c0, c1, c2, c3]) = B at hb jb qb bad0 bad1 nm2 nm3 ⊢
    refine ⟨(by show 4 ≤ sizeLine; decide), fun na nn => ?_⟩
    have an := qb.ne nn
    have sn := same_upd (o := .lst [.str "code", .str "mate", .str "many", .str "at"]) nn
    have hn : upd B na (.lst [.str "code", .str "mate", .str "many", .str "at"]) na = some (.lst [.str "code", .str "mate", .str "many", .str "at"]) := upd_same
    have jN : Kp a G (upd B na (.lst [.str "code", .str "mate", .str "many", .str "at"])) := jb.trans (.of_same sn)
    have qN := qb.of fun u e => sn a u e
    replace bad0 := bad0.kp (.of_same sn)
    replace bad1 := bad1.kp (.of_same sn)
    replace nm2 := nm2.kp (.of_same sn)
    replace nm3 := nm3.kp (.of_same sn)
    replace hb := sn _ _ hb
    generalize upd B na (.lst [.str "code", .str "mate", .str "many", .str "at"]) = N at hn hb jN qN bad0 bad1 nm2 nm3 ⊢
    have hgN := jN go _ hg2 ag
    have hoN := jN o _ ho2 ao
    -- what is given
    have W : ∃ w0 w1 w2 w3 : V, w0 = (if b0 = true then c0 else .str (wd bs)) ∧ w1 = (if b1 = true then c1 else .str (wd cs)) ∧ w2 = (if b2 = true then c2 else .int (1 + y1)) ∧ w3 = (if b3 = true then c3 else .int n3) := ⟨_, _, _, _, rfl, rfl, rfl, rfl⟩
    obtain ⟨w0, w1, w2, w3, ew0, ew1, ew2, ew3⟩ := W
    refine ⟨4, rfl, by decide, by decide, fun D nD => ?_⟩
    have ent : ∀ k : Nat, k < 4 → ∃ (n : Str) (b : Bool) (x y : V), atI [V.str "code", .str "mate", .str "many", .str "at"] ((k : Nat) : Int) = some (.str n) ∧ valV (four (.bl b0) (.bl b1) (.bl b2) (.bl b3)) (.inr n) = some (.bl b) ∧ atI [V.str (wd bs), .str (wd cs), .int (1 + y1), .int n3] ((k : Nat) : Int) = some x ∧ atI [c0, c1, c2, c3] ((k : Nat) : Int) = some y ∧ (four w0 w1 w2 w3)[k]? = some (.inr n, if b = true then y else x) := fun k hk => by
      have c4 : k = 0 ∨ k = 1 ∨ k = 2 ∨ k = 3 := by omega
      rcases c4 with rfl | rfl | rfl | rfl
      · exact ⟨"code", b0, _, _, rfl, rfl, rfl, rfl, by rw [ew0]; rfl⟩
      · exact ⟨"mate", b1, _, _, rfl, rfl, rfl, rfl, by rw [ew1]; rfl⟩
      · exact ⟨"many", b2, _, _, rfl, rfl, rfl, rfl, by rw [ew2]; rfl⟩
      · exact ⟨"at", b3, _, _, rfl, rfl, rfl, rfl, by rw [ew3]; rfl⟩
    refine lc_range (lo := 0) (n := (4 : Int).toNat) (fun k F => ∃ ps : List Addr, F D = some (.lst (ps.map V.ref)) ∧ Same N F ∧ ps.length = k ∧ Paired (fun p kv => p ≠ D ∧ SqT K F p [L2.kV kv.1, kv.2]) ps ((four w0 w1 w2 w3).take k)) ⟨[], upd_same, same_upd nD, rfl, .nil⟩ (fun k F hk hI => ?_) (fun F hI => ?_)
    · obtain ⟨ps, hD, sm, ln, pr⟩ := hI
      obtain ⟨n, b, x, y, e1, e2, e3, e4, e5⟩ := ent k hk
      have ek : (0 : Int) + ((k : Nat) : Int) = ((k : Nat) : Int) := by omega
      rw [ek]
      refine ⟨rfl, _, rfl, _, rfl, na, _, _, _, rfl, rfl, .inl (.inl (sm _ _ hn)), e1, ?_⟩
      refine ⟨_, rfl, _, rfl, (by show 2 ≤ sizeLine; decide), fun tw ntw => ?_⟩
      have st := same_upd (o := .lst [.ref go, .ref be]) ntw
      have htw : upd F tw (.lst [.ref go, .ref be]) tw = some (.lst [.ref go, .ref be]) := upd_same
      generalize upd F tw (.lst [.ref go, .ref be]) = F1 at st htw ⊢
      have sF := sm.trans st
      refine ⟨_, rfl, _, rfl, _, rfl, na, _, _, _, rfl, rfl, .inl (.inl (sF _ _ hn)), e1, o, .bl b, rfl, .inl ⟨_, .inr n, .inl (sF _ _ hoN), rfl, e2.symm⟩, .inr ⟨b, rfl, ?_⟩⟩
      refine ⟨tw, _, _, .ref (if b = true then be else go), rfl, rfl, .inl (.inl htw), ?_, ?_⟩
      · cases b <;> rfl
      refine ⟨_, rfl, (if b = true then be else go), (if b = true then [c0, c1, c2, c3] else [.str (wd bs), .str (wd cs), .int (1 + y1), .int n3]), ((k : Nat) : Int), (if b = true then y else x), rfl, rfl, ?_, ?_, (by show 2 ≤ sizeLine; decide), fun t nt => ?_⟩
      · cases b with
        | true => exact .inl (.inl (sF _ _ hb))
        | false => exact .inl (.inl (sF _ _ hgN))
      · cases b with
        | true => exact e4
        | false => exact e3
      have stt := same_upd (o := .tup [.str n, if b = true then y else x]) nt
      have tD : t ≠ D := fun z => by
        rw [z, st _ _ hD] at nt
        cases nt
      refine ⟨_, stt _ _ (st _ _ hD), ?_, ps ++ [t], ?_, fun c u ec => ?_, by rw [List.length_append, ln]; rfl, ?_⟩
      · rw [List.length_map, ln]
        exact len_lt (by omega)
      · rw [upd_same, List.map_append]
        rfl
      · rw [upd_ne (ne_of_none ec nD)]
        exact stt _ _ (sF _ _ ec)
      · have kD : Kp D F (upd (upd F1 t (.tup [.str n, if b = true then y else x])) D (.lst (ps.map V.ref ++ [.ref t]))) := fun c u ec ne => by
          rw [upd_ne ne]
          exact stt _ _ (st _ _ ec)
        have tk : (four w0 w1 w2 w3).take (k + 1) = (four w0 w1 w2 w3).take k ++ [(.inr n, if b = true then y else x)] := by
          rw [List.take_succ, e5]
          rfl
        rw [tk]
        refine Paired.snoc (Paired.mapP pr fun _ _ z => ⟨z.1, SqT.kp kD z.1 z.2⟩) ⟨tD, .inl (.inl ?_)⟩
        rw [upd_ne tD]
        exact upd_same
    · obtain ⟨ps, hD, sm, ln, pr⟩ := hI
      refine ⟨D, ps, four w0 w1 w2 w3, rfl, .inl (.inl hD), Paired.mapP pr fun _ _ z => z.2, fun gi ngi => ?_⟩
      have eg : upd F gi (.dK (mergeK [] (four w0 w1 w2 w3))) = upd F gi (.dK (four w0 w1 w2 w3)) := rfl
      rw [eg]
      have sgi := same_upd (o := .dK (four w0 w1 w2 w3)) ngi
      have hgi : upd F gi (.dK (four w0 w1 w2 w3)) gi = some (.dK (four w0 w1 w2 w3)) := upd_same
      have sN := sm.trans sgi
      generalize upd F gi (.dK (four w0 w1 w2 w3)) = Z at hgi sN ⊢
      have kZ : Kp a H Z := (k10.trans jN).trans (.of_same sN)
      have qZ := qN.of fun u e => sN a u e
      have eN : ∀ {v : V}, NmC K a N v → ∃ (T : String) (z : Str), Tv K Z v T ∧ RpE K Z v z ∧ PyData.strOk z = true := fun h => h Z (.of_same sN)
      have em : V.int (1 + y1) = V.int ((m : Nat) : Int) := congrArg V.int hm
      have wm : wholeB (.int (1 + y1)) 1 12 = true := by rw [em]; exact whole_of m1 m2
      have w3g : wholeB (.int n3) 0 ((2 : Int) ^ m - 1 - 1) = true := by
        show (decide (0 ≤ n3) && decide (n3 ≤ (2 : Int) ^ m - 1 - 1)) = true
        rw [decide_eq_true n30, decide_eq_true (by omega)]
        rfl
      have hgZ := sN _ _ hgN
      have hoZ := sN _ _ hoN
      have lb9 : bs.length ≤ 400 := by omega
      have lc9 : cs.length ≤ 400 := by omega
      have n3l : n3.toNat < 4096 := by omega
      have en3 : n3 = ((n3.toNat : Nat) : Int) := by omega
      have eqm : ∀ m' : Nat, V.int (1 + y1) = V.int (m' : Nat) → m' = m := fun m' e => by
        have e1 : (1 : Int) + y1 = ((m' : Nat) : Int) := V.int.inj e
        omega
      have drG : Dr K Z (.str (wd bs)) (.str (wd cs)) (.int (1 + y1)) (.int n3) none none "int" "int" := ⟨.word lb9, .word lc9, Tv.int _, Tv.int _⟩
      have tdG : Told K Z d (.int (1 + y1)) (.int n3) none none "told" "" := .told (fun _ => rfl) (fun _ => rfl) wm fun _ m' em' _ _ => by
        rw [eqm m' em']
        exact w3g
      have W0 : ∃ f0, WdF K Z w0 f0 ∧ f0.isSome = b0 ∧ ∀ x, f0 = some x → Ix x := by
        by_cases hb0 : b0 = true
        · obtain ⟨x, hx, g⟩ := bad0
          exact ⟨some x, by rw [ew0.trans (if_pos hb0)]; exact g Z (.of_same sN), hb0.symm, fun y hy => by cases hy; exact hx⟩
        · exact ⟨none, by rw [ew0.trans (if_neg hb0)]; exact .word lb9, (Bool.eq_false_iff.mpr hb0).symm, fun y hy => nomatch hy⟩
      have W1 : ∃ f1, WdF K Z w1 f1 ∧ f1.isSome = b1 ∧ ∀ x, f1 = some x → Ix x := by
        by_cases hb1 : b1 = true
        · obtain ⟨x, hx, g⟩ := bad1
          exact ⟨some x, by rw [ew1.trans (if_pos hb1)]; exact g Z (.of_same sN), hb1.symm, fun y hy => by cases hy; exact hx⟩
        · exact ⟨none, by rw [ew1.trans (if_neg hb1)]; exact .word lc9, (Bool.eq_false_iff.mpr hb1).symm, fun y hy => nomatch hy⟩
      have W2 : (∃ (T : String) (z : Str), Tv K Z w2 T ∧ RpE K Z w2 z ∧ PyData.strOk z = true) ∧ b2 = !wholeB w2 1 12 := by
        by_cases hb2 : b2 = true
        · rw [ew2.trans (if_pos hb2)]
          exact ⟨eN nm2, by rw [wh2, hb2]; rfl⟩
        · rw [ew2.trans (if_neg hb2), em]
          exact ⟨⟨_, _, Tv.int _, RpE.int (Nat.lt_of_le_of_lt (Nat.log2_le_self _) (show m < 1920 by omega)), ok_ix4 m (by omega)⟩, by rw [whole_of m1 m2, Bool.eq_false_iff.mpr hb2]; rfl⟩
      have W3 : ∃ (T : String) (z : Str), Tv K Z w3 T ∧ RpE K Z w3 z ∧ PyData.strOk z = true := by
        by_cases hb3 : b3 = true
        · rw [ew3.trans (if_pos hb3)]
          exact eN nm3
        · rw [ew3.trans (if_neg hb3), en3]
          exact ⟨_, _, Tv.int _, NmC.small n3l, ok_4k _ n3l⟩
      obtain ⟨f0, dw0, s0', i0⟩ := W0
      obtain ⟨f1, dw1, s1', i1⟩ := W1
      obtain ⟨⟨T2, z2, t2, r2, o2⟩, eb2⟩ := W2
      obtain ⟨T3, z3, t3, r3, o3⟩ := W3
      have dr : Dr K Z w0 w1 w2 w3 f0 f1 T2 T3 := ⟨dw0, dw1, t2, t3⟩
      obtain ⟨k, z, td, ok1, ok2⟩ := told_of (H := Z) (d := d) i0 i1 ⟨z2, r2, o2⟩ ⟨z3, r3, o3⟩
      -- the good call
      refine ⟨_, rfl, _, rfl, go, _, 0, _, rfl, rfl, .inl (.inl hgZ), rfl, _, rfl, go, _, 1, _, rfl, rfl, .inl (.inl hgZ), rfl, _, rfl, go, _, 2, _, rfl, rfl, .inl (.inl hgZ), rfl, _, rfl, go, _, 3, _, rfl, rfl, .inl (.inl hgZ), rfl, d, _, _, _, _, none, none, _, _, "told", "", rfl, dl, drG, tdG, fun t1 Z1 sz1 ht1 => ?_⟩
      refine ⟨(by show 2 ≤ sizeLine; decide), fun u1 nu1 => ?_⟩
      have su1 := same_upd (o := .tup [.str "told", .str ""]) nu1
      have hu1 : upd Z1 u1 (.tup [.str "told", .str ""]) u1 = some (.tup [.str "told", .str ""]) := upd_same
      generalize upd Z1 u1 (.tup [.str "told", .str ""]) = Z2 at su1 hu1 ⊢
      refine ⟨_, _, Dp_two (su1 _ _ ht1), Dp_two hu1, sh_two str_ok.2.2.2 (by decide +kernel), sh_two str_ok.2.2.2 (by decide +kernel), ?_⟩
      rw [eq_two str_ok.2.2.2 (by decide +kernel)]
      have s02 := sz1.trans su1
      have hgi2 := s02 _ _ hgi
      refine ⟨_, rfl, _, rfl, gi, w0, rfl, .inl ⟨_, .inr "code", .inl hgi2, rfl, rfl⟩, _, rfl, gi, w1, rfl, .inl ⟨_, .inr "mate", .inl hgi2, rfl, rfl⟩, _, rfl, gi, w2, rfl, .inl ⟨_, .inr "many", .inl hgi2, rfl, rfl⟩, _, rfl, gi, w3, rfl, .inl ⟨_, .inr "at", .inl hgi2, rfl, rfl⟩, d, _, _, _, _, f0, f1, _, _, k, z, rfl, dl, dr.same s02, td.same s02, fun t3 Z3 sz3 ht3 => ?_⟩
      have s03 := s02.trans sz3
      have hb : ∀ m' : Nat, w2 = .int (m' : Nat) → 1 ≤ m' → m' ≤ 12 → b3 = !wholeB w3 0 ((2 : Int) ^ m' - 1 - 1) := fun m' e h1 h2 => by
        have hb2 : ¬ b2 = true := fun y => by
          rw [y, e, whole_of h1 h2] at eb2
          cases eb2
        rw [ew2.trans (if_neg hb2)] at e
        rw [eqm m' e]
        have e2 : (2 : Int) ^ m - 1 - 1 = ((2 ^ m - 1 : Nat) : Int) - 1 := by
          rw [pw]
          omega
        by_cases hb3 : b3 = true
        · rw [ew3.trans (if_pos hb3), e2, wh3, hb3]
          rfl
        · rw [ew3.trans (if_neg hb3), w3g, Bool.eq_false_iff.mpr hb3]
          rfl
      have hoD : Z3 o = some (.dK (four (.bl f0.isSome) (.bl f1.isSome) (.bl (!wholeB w2 1 12)) (.bl b3))) := by
        rw [s0', s1', ← eb2]
        exact s03 _ _ hoZ
      refine ⟨_, rfl, ?_⟩
      refine ⟨_, rfl, ?_⟩
      refine iteF ?_
      refine ⟨_, rfl, _, rfl, _, rfl, _, rfl, d, o, gi, b3, _, _, _, _, f0, f1, _, _, k, z, rfl, dl, dr.same s03, hoD, s03 _ _ hgi, hb, td.same s03, fun t4 Z4 sz4 ht4 => ?_⟩
      refine ⟨_, _, Dp_two (sz4 _ _ ht3), Dp_two ht4, sh_two ok1 ok2, sh_two ok1 ok2, ?_⟩
      rw [eq_two ok1 ok2]
      refine ⟨_, rfl, iteF ?_⟩
      have s04 := s03.trans sz4
      have hgY := s04 _ _ hgZ
      refine ⟨_, rfl, _, rfl, go, _, 0, _, rfl, rfl, .inl (.inl hgY), rfl, _, rfl, go, _, 1, _, rfl, rfl, .inl (.inl hgY), rfl, _, rfl, go, _, 2, _, rfl, rfl, .inl (.inl hgY), rfl, _, rfl, go, _, 3, _, rfl, rfl, .inl (.inl hgY), rfl, d, _, _, _, _, none, none, _, _, "told", "", rfl, dl, drG.same s04, tdG.same s04, fun t5 Z5 sz5 ht5 => ?_⟩
      refine ⟨(by show 2 ≤ sizeLine; decide), fun u6 nu6 => ?_⟩
      have su6 := same_upd (o := .tup [.str "told", .str ""]) nu6
      refine ⟨_, _, Dp_two (su6 _ _ ht5), Dp_two upd_same, sh_two str_ok.2.2.2 (by decide +kernel), sh_two str_ok.2.2.2 (by decide +kernel), ?_⟩
      rw [eq_two str_ok.2.2.2 (by decide +kernel)]
      have sE := (s04.trans sz5).trans su6
      exact q _ (kZ.trans (.of_same sE)) (qZ.of fun u e => sE a u e)
end
section
variable {P : Program} {w : World} {K : PySem.W.Frag} {mg : Str → Option Value} {base : Heap}
/-! ### the law -/
theorem dp_pairs {F : Hp} {D : Addr} {ps : List Addr} {L : List (Str × Str)} (h : Paired (fun (p : Addr) (d : Str × Str) => p ≠ D ∧ SqT K F p [.str d.1, .str d.2]) ps L) : DpAll K F (ps.map V.ref) (L.map fun d => twoD d.1 d.2) := by
  induction h with
  | nil => exact .nil
  | @cons p d ps L h t ih => exact .cons (.tup h.2 (.cons (.str _) (.cons (.str _) .nil))) ih
theorem rp_bl (H : Hp) (b : Bool) : RpE K H (.bl b) (if b = true then "True" else "False") := by
  have e : (PyData.bool b).shown = (if b = true then "True" else "False" : Str) := by cases b <;> decide +kernel
  rw [← e]
  exact RpE.bl b
theorem rp_int (H : Hp) : RpE K H (.int (0 : Nat)) "0" ∧ RpE K H (.int (1 : Nat)) "1" ∧ RpE K H (.int 13) "13" := by
  have e : (PyData.int ((0 : Nat) : Int)).shown = ("0" : Str) ∧ (PyData.int ((1 : Nat) : Int)).shown = ("1" : Str) ∧ (PyData.int 13).shown = ("13" : Str) := by decide +kernel
  rw [← e.1, ← e.2.1, ← e.2.2]
  exact ⟨RpE.int (by decide), RpE.int (by decide), RpE.int (by decide)⟩
theorem wd_S (H : Hp) : WdF K H (.str "S") none := by
  rw [show (("S" : Str)) = wd [false] from by decide +kernel]
  exact .word (by decide)
theorem wd_T (H : Hp) : WdF K H (.str "T") none := by
  rw [show (("T" : Str)) = wd [true] from by decide +kernel]
  exact .word (by decide)
theorem wd_0 (H : Hp) : WdF K H (.str "") none := by
  rw [show (("" : Str)) = wd [] from by decide +kernel]
  exact .word (by decide)
theorem wd_x (H : Hp) : WdF K H (.str "x") (some (.int (0 : Nat))) := .wrong (i := 0) (by decide +kernel) (by decide +kernel) (by decide +kernel) (fun j hj => absurd hj (Nat.not_lt_zero j))
theorem wd_Sx (H : Hp) : WdF K H (.str "Sx") (some (.int (1 : Nat))) := .wrong (i := 1) (by decide +kernel) (by decide +kernel) (by decide +kernel) (fun j hj => by
  have e : j = 0 := by omega
  subst e
  decide +kernel)
theorem tv_bl (H : Hp) (b : Bool) : Tv K H (.bl b) "bool" := ⟨.base (.bl b), by decide⟩
def dueA (b : Bool) : List (Str × Str) := [("told", ""), ("at", if b = true then "True" else "False")]
def dueM : List (Str × Str) := [("told", ""), ("many", "True")]
theorem sh_due : SeqAt.shaped (.list (dueM.map fun d : Str × Str => twoD d.1 d.2)) = true ∧ ∀ b, SeqAt.shaped (.list ((dueA b).map fun d : Str × Str => twoD d.1 d.2)) = true := ⟨by decide +kernel, fun b => by cases b <;> decide +kernel⟩
theorem eq_due : PyData.eqv (.list (dueM.map fun d : Str × Str => twoD d.1 d.2)) (.list (dueM.map fun d : Str × Str => twoD d.1 d.2)) = true ∧ ∀ b, PyData.eqv (.list ((dueA b).map fun d : Str × Str => twoD d.1 d.2)) (.list ((dueA b).map fun d : Str × Str => twoD d.1 d.2)) = true := ⟨by decide +kernel, fun b => by cases b <;> decide +kernel⟩
abbrev s_law : Stmt := top 74
abbrev N_law : List Str := ["_law_script", "_law_door", "_law_at", "_law_k", "_law_pool_here", "_law_turn", "_law_many", "_law_one"]
theorem sc_law : FnScope N_law ["_law_script"] (defScope s_law) := ⟨rfl, rfl, rfl, by decide +kernel, rfl, by decide +kernel, by decide +kernel⟩
def spLaw (K : PySem.W.Frag) : Sp := fun vs H Q _ => ∃ (a : Addr) (ns : List Int), vs = [.ref a] ∧ SqL K H a (ns.map V.int) ∧ ns.length ≤ 63 ∧ ∀ H', Q (.bl true) H'
theorem ok_law (D : Df K mg "law" s_law) (c__law_caught : ClG P w K mg base 7 "_law_caught" s__law_caught ["_law_door", "_law_code", "_law_mate", "_law_many", "_law_at"] (spCaught K)) (c__law_call_right : ClG P w K mg base 8 "_law_call_right" s__law_call_right ["_law_pool_here", "_law_door"] spCall) (c__law_pool : Cl P w K mg base 1 "_law_pool" s__law_pool ["_law_item"] spPool)
    (c__law_cell : Cl P w K mg base 1 "_law_cell" s__law_cell ["_law_script", "_law_k"] (spCell K)) (m_len : mg "len" = none) (m_range : mg "range" = none) (m_max : mg "max" = none) (m_min : mg "min" = none) (m_repr : mg "repr" = none) :
    ClG P w K mg base 9 "law" s_law ["_law_script"] (spLaw K) := by
  refine D.okG sc_law (fun _ _ _ _ _ _ us hl => match us, hl with | [_], _ => rfl) (fun vs H Q E h => ?_) (fun f cdv A outer s H vs Q E hr hgd h => ?_)
  · obtain ⟨a, ns, rfl, _⟩ := h
    rfl
  · obtain ⟨a, ns, rfl, hS, hlen, q⟩ := h
    refine ⟨_, 
      (pss_cons (ps_for PassesOwn.never rfl (pi_range1 (by rfl) m_range (pa_cons pe_int pa_nil)) (pg_name (i := 1) sc_law.nd rfl (Or.inr rfl)) (pss_one (ps_if (pt_cmpR (op_neD hr.units) (pe_lc (own := [("_law_many", 6)]) (g := gName 6) (te := (tCall (spCaught K) [] E0 (tCons (tVar 1) (tCons (tC _) (tCons (tC _) (tCons (tVar 6) (tCons (tC _) tNil))))))) rfl sc_law.nd (pi_list (pe_lst (pa_cons pe_int (pa_cons pe_bl pa_nil)))) (blkOk_by (own := [("_law_many", 6)]) (N := N_law) (sc := (defScope s_law)) (by decide +kernel)) (fun _ _ _ _ _ => (pg_name (i := 6) sc_law.nd rfl (Or.inl rfl))) (fun _ _ _ _ _ => pts_nil) (fun _ _ _ _ _ => (pe_ug c__law_caught hr hgd (by omega) (by rfl) (pa_cons (pv 1) (pa_cons pe_str (pa_cons pe_str (pa_cons (pv 6) (pa_cons pe_int pa_nil)))))))) (pe_lst (pa_cons (pe_tup (pa_cons pe_str (pa_cons pe_str pa_nil))) (pa_cons (pe_tup (pa_cons pe_str (pa_cons pe_str pa_nil))) pa_nil))) (nomark _)) (pss_one (ps_ret pe_bl)) pss_nil))) 
      (pss_cons (ps_for PassesOwn.never rfl (pi_list (pe_lst (pa_cons (pe_tup (pa_cons pe_int (pa_cons pe_int pa_nil))) (pa_cons (pe_tup (pa_cons pe_int (pa_cons pe_int pa_nil))) pa_nil)))) (pg_tup (by rfl) (pgs_cons (pg_name (i := 1) sc_law.nd rfl (Or.inr rfl)) (pgs_cons (pg_name (i := 2) sc_law.nd rfl (Or.inl rfl)) pgs_nil))) (pss_one (ps_if (pt_cmpR (op_neD hr.units) (pe_lc (own := [("_law_one", 7)]) (g := gName 7) (te := (tCall (spCaught K) [] E0 (tCons (tVar 1) (tCons (tC _) (tCons (tC _) (tCons (tC _) (tCons (tVar 7) tNil))))))) rfl sc_law.nd (pi_list (pe_lst (pa_cons (pv 2) (pa_cons (pe_cmpR op_eq (pv 2) pe_int (nomark _)) pa_nil)))) (blkOk_by (own := [("_law_one", 7)]) (N := N_law) (sc := (defScope s_law)) (by decide +kernel)) (fun _ _ _ _ _ => (pg_name (i := 7) sc_law.nd rfl (Or.inl rfl))) (fun _ _ _ _ _ => pts_nil) (fun _ _ _ _ _ => (pe_ug c__law_caught hr hgd (by omega) (by rfl) (pa_cons (pv 1) (pa_cons pe_str (pa_cons pe_str (pa_cons pe_int (pa_cons (pv 7) pa_nil)))))))) (pe_lst (pa_cons (pe_tup (pa_cons pe_str (pa_cons pe_str pa_nil))) (pa_cons (pe_tup (pa_cons pe_str (pa_cons (pe_callB (call_reprE (L2H.roomH_of hr) hgd) (by rfl) m_repr (by decide +kernel) (pa_cons (pe_cmpR op_eq (pv 2) pe_int (nomark _)) pa_nil)) pa_nil))) pa_nil))) (nomark _)) (pss_one (ps_ret pe_bl)) pss_nil))) 
      (pss_cons (ps_if (pt_cmpR (op_neD hr.units) (pe_ug c__law_caught hr hgd (by omega) (by rfl) (pa_cons pe_int (pa_cons pe_str (pa_cons pe_str (pa_cons pe_int (pa_cons pe_int pa_nil)))))) (pe_tup (pa_cons pe_str (pa_cons pe_str pa_nil))) (nomark _)) (pss_one (ps_ret pe_bl)) pss_nil) 
      (pss_cons (ps_if (PW.pt (pw_or (pt_cmpR (op_neD hr.units) (pe_ug c__law_caught hr hgd (by omega) (by rfl) (pa_cons pe_int (pa_cons pe_str (pa_cons pe_str (pa_cons pe_int (pa_cons pe_int pa_nil)))))) (pe_tup (pa_cons pe_str (pa_cons pe_str pa_nil))) (nomark _)) (pw_or1 (pt_cmpR (op_neD hr.units) (pe_ug c__law_caught hr hgd (by omega) (by rfl) (pa_cons pe_int (pa_cons pe_str (pa_cons pe_str (pa_cons pe_int (pa_cons pe_int pa_nil)))))) (pe_tup (pa_cons pe_str (pa_cons pe_str pa_nil))) (nomark _))))) (pss_one (ps_ret pe_bl)) pss_nil) 
      (pss_cons (ps_for PassesOwn.never rfl (pi_range1 (by rfl) m_range (pa_cons (pe_callB (call_max2 rfl) (by rfl) m_max (by decide +kernel) (pa_cons pe_int (pa_cons (pe_callB (call_min2 rfl) (by rfl) m_min (by decide +kernel) (pa_cons pe_int (pa_cons (pe_callB call_lenS (by rfl) m_len (by decide +kernel) (pa_cons (pv 0) pa_nil)) pa_nil))) pa_nil))) pa_nil)) (pg_name (i := 3) sc_law.nd rfl (Or.inl rfl)) (pss_cons (ps_set (i := 4) sc_law.nd rfl (Or.inl rfl) (pe_u c__law_pool hr (by omega) (by rfl) (pa_cons (pe_u c__law_cell hr (by omega) (by rfl) (pa_cons (pv 0) (pa_cons (pv 3) pa_nil))) pa_nil))) (pss_one (ps_for PassesOwn.never rfl (pi_range1 (by rfl) m_range (pa_cons pe_int pa_nil)) (pg_name (i := 5) sc_law.nd rfl (Or.inl rfl)) (pss_one (ps_if (pt_not (pt_val (pe_ug c__law_call_right hr hgd (by omega) (by rfl) (pa_cons (pv 4) (pa_cons (pe_op op_fdiv (pv 5) pe_int) pa_nil))))) (pss_one (ps_ret pe_bl)) pss_nil)))))) 
      (pss_one (ps_ret pe_bl))))))), ?_⟩
    refine ⟨7, rfl, by decide, by decide, ?_⟩
    refine for_range (lo := 0) (n := (7 : Int).toNat) (fun i σ G => ∃ y1 : Option V, σ = [some (.ref a), y1, none, none, none, none, none, none] ∧ Same H G) ⟨none, rfl, Same.refl H⟩ (fun i σ G hi hI => ?_) (fun σ G hI => ?_)
    · obtain ⟨y1, rfl, sm⟩ := hI
      have hi7 : i < 7 := hi
      have ei : (0 : Int) + ((i : Nat) : Int) = ((i : Nat) : Int) := by omega
      refine ⟨(by show 2 ≤ sizeLine; decide), fun W nW => ?_⟩
      have sW := same_upd (o := .lst [.int 1, .bl true]) nW
      have hW : upd G W (.lst [.int 1, .bl true]) W = some (.lst [.int 1, .bl true]) := upd_same
      generalize upd G W (.lst [.int 1, .bl true]) = G1 at sW hW ⊢
      refine ⟨W, rfl, ⟨_, .inl (.inl hW)⟩, fun D nD => ?_⟩
      refine lc_list (xs := [V.int 1, .bl true]) (fun j F => ∃ ps : List Addr, F D = some (.lst (ps.map V.ref)) ∧ Same G1 F ∧ ps.length = j ∧ Paired (fun (p : Addr) (d : Str × Str) => p ≠ D ∧ SqT K F p [.str d.1, .str d.2]) ps (dueM.take j)) ⟨[], upd_same, same_upd nD, rfl, .nil⟩ (fun j F _ hK => ?_) (fun j x F hx hK => ?_) (fun F hK => ?_)
      · obtain ⟨_, _, s1, _⟩ := hK
        exact .inl (.inl (s1 _ _ hW))
      · obtain ⟨ps, hD, s1, ln, pr⟩ := hK
        obtain ⟨T, k, z, tv, td, hd⟩ : ∃ (T : String) (k z : Str), Tv K F x T ∧ Told K F i x (.int 0) none none k z ∧ dueM[j]? = some (k, z) := by
          match j, hx with
          | 0, hx =>
            cases hx
            refine ⟨_, "told", "", Tv.int 1, .told (fun _ => rfl) (fun _ => rfl) rfl (fun _ m em _ _ => ?_), rfl⟩
            have e : (1 : Int) = ((m : Nat) : Int) := V.int.inj em
            have e1 : m = 1 := by omega
            subst e1
            rfl
          | 1, hx =>
            cases hx
            exact ⟨_, "many", "True", tv_bl F true, .many (fun _ => rfl) (fun _ => rfl) rfl (rp_bl F true), rfl⟩
          | n + 2, hx => cases hx
        refine ⟨rfl, _, rfl, _, rfl, i, _, _, _, _, none, none, T, "int", k, z, congrArg (fun t : Int => [V.int t, .str "S", .str "T", x, .int 0]) ei, by omega, ⟨wd_S F, wd_T F, tv, Tv.int 0⟩, td, fun t F1 s2 ht => ?_⟩
        have fD : F1 D = some (.lst (ps.map V.ref)) := s2 _ _ hD
        have tD : t ≠ D := fun e => by
          rw [e, fD] at ht
          cases ht
        refine ⟨_, fD, ?_, ps ++ [t], ?_, fun c o e => ?_, by rw [List.length_append, ln]; rfl, ?_⟩
        · rw [List.length_map, ln]
          have : j < 2 := (List.getElem?_eq_some_iff.mp hx).1
          exact len_lt (by omega)
        · rw [upd_same, List.map_append]
          rfl
        · rw [upd_ne (ne_of_none e nD)]
          exact s2 _ _ (s1 _ _ e)
        · have kD : Kp D F (upd F1 D (.lst (ps.map V.ref ++ [.ref t]))) := fun c u ec ne => by
            rw [upd_ne ne]
            exact s2 _ _ ec
          rw [List.take_succ, hd]
          refine Paired.snoc (Paired.mapP pr fun _ _ z => ⟨z.1, SqT.kp kD z.1 z.2⟩) ⟨tD, .inl (.inl ?_)⟩
          rw [upd_ne tD]
          exact ht
      · obtain ⟨ps, hD, s1, ln, pr⟩ := hK
        refine ⟨(by show 2 ≤ sizeLine; decide), fun t1 n1 => ?_⟩
        have z1 := same_upd (o := .tup [.str "told", .str ""]) n1
        have h1 : upd F t1 (.tup [.str "told", .str ""]) t1 = some (.tup [.str "told", .str ""]) := upd_same
        generalize upd F t1 (.tup [.str "told", .str ""]) = F1 at z1 h1 ⊢
        refine ⟨(by show 2 ≤ sizeLine; decide), fun t2 n2 => ?_⟩
        have z2 := same_upd (o := .tup [.str "many", .str "True"]) n2
        have h2 : upd F1 t2 (.tup [.str "many", .str "True"]) t2 = some (.tup [.str "many", .str "True"]) := upd_same
        generalize upd F1 t2 (.tup [.str "many", .str "True"]) = F2 at z2 h2 ⊢
        refine ⟨(by show 2 ≤ sizeLine; decide), fun L nL => ?_⟩
        have z3 := same_upd (o := .lst [.ref t1, .ref t2]) nL
        have z := (z1.trans z2).trans z3
        have pr2 : Paired (fun (p : Addr) (d : Str × Str) => p ≠ D ∧ SqT K F p [.str d.1, .str d.2]) ps dueM := pr
        have dpx := dp_pairs (K := K) pr2
        have dpy := dpAll_same z _ _ dpx
        refine ⟨.list (dueM.map fun d : Str × Str => twoD d.1 d.2), .list (dueM.map fun d : Str × Str => twoD d.1 d.2), .lst (.inl (.inl (z _ _ hD))) dpy, .lst (.inl (.inl upd_same)) (.cons (Dp_two (z3 _ _ (z2 _ _ h1))) (.cons (Dp_two (z3 _ _ h2)) .nil)), sh_due.1, sh_due.1, ?_⟩
        rw [eq_due.1]
        refine ⟨_, rfl, iteF ?_⟩
        exact ⟨_, rfl, ((sm.trans sW).trans s1).trans z⟩
    · obtain ⟨y1, rfl, sm⟩ := hI
      refine ⟨(by show 2 ≤ sizeLine; decide), fun q1 n1 => ?_⟩
      have z1 := same_upd (o := .tup [.int 6, .int 1]) n1
      have h1 : upd G q1 (.tup [.int 6, .int 1]) q1 = some (.tup [.int 6, .int 1]) := upd_same
      generalize upd G q1 (.tup [.int 6, .int 1]) = G1 at z1 h1 ⊢
      refine ⟨(by show 2 ≤ sizeLine; decide), fun q2 n2 => ?_⟩
      have z2 := same_upd (o := .tup [.int 7, .int 0]) n2
      have h2 : upd G1 q2 (.tup [.int 7, .int 0]) q2 = some (.tup [.int 7, .int 0]) := upd_same
      generalize upd G1 q2 (.tup [.int 7, .int 0]) = G2 at z2 h2 ⊢
      refine ⟨(by show 2 ≤ sizeLine; decide), fun W nW => ?_⟩
      have z3 := same_upd (o := .lst [.ref q1, .ref q2]) nW
      have hW : upd G2 W (.lst [.ref q1, .ref q2]) W = some (.lst [.ref q1, .ref q2]) := upd_same
      have hq1 := z3 _ _ (z2 _ _ h1)
      have hq2 := z3 _ _ h2
      have zz := ((sm.trans z1).trans z2).trans z3
      generalize upd G2 W (.lst [.ref q1, .ref q2]) = G3 at hW hq1 hq2 zz ⊢
      refine ⟨W, rfl, ⟨_, .inl (.inl hW)⟩, ?_⟩
      refine for_list (xs := [V.ref q1, .ref q2]) (fun i σ G => ∃ y1 y2 : Option V, σ = [some (.ref a), y1, y2, none, none, none, none, none] ∧ Same G3 G) ⟨_, none, rfl, Same.refl G3⟩ (fun i σ G _ hI => ?_) (fun i x σ G hx hI => ?_) (fun σ G hI => ?_)
      · obtain ⟨_, _, _, s0⟩ := hI
        exact .inl (.inl (s0 _ _ hW))
      · obtain ⟨y1, y2, rfl, s0⟩ := hI
        obtain ⟨qq, dd, at_, rfl, hqq, d6, d8, ea⟩ : ∃ (qq : Addr) (dd : Nat) (at_ : Int), x = .ref qq ∧ G qq = some (.tup [.int (dd : Nat), .int at_]) ∧ 6 ≤ dd ∧ dd < 8 ∧ (at_ = 0 ∨ at_ = 1) := by
          match i, hx with
          | 0, hx => cases hx; exact ⟨q1, 6, 1, rfl, s0 _ _ hq1, by decide, by decide, .inr rfl⟩
          | 1, hx => cases hx; exact ⟨q2, 7, 0, rfl, s0 _ _ hq2, by decide, by decide, .inl rfl⟩
          | n + 2, hx => cases hx
        refine ⟨qq, _, rfl, .inl (.inl hqq), rfl, _, _, rfl, _, _, rfl, rfl, ?_⟩
        refine ⟨_, rfl, _, rfl, rfl, (by show 2 ≤ sizeLine; decide), fun vv nV => ?_⟩
        have hbx : ∃ b : Bool, decide (V.int at_ = V.int 1) = b ∧ (b = true ↔ at_ = 1) := ⟨_, rfl, by
          rw [decide_eq_true_iff]
          exact ⟨fun h => V.int.inj h, fun h => by rw [h]⟩⟩
        obtain ⟨b, eb, hb1⟩ := hbx
        have y3 := same_upd (o := .lst [.int at_, .bl (decide (V.int at_ = V.int 1))]) nV
        have hV : upd G vv (.lst [.int at_, .bl (decide (V.int at_ = V.int 1))]) vv = some (.lst [.int at_, .bl b]) := by rw [← eb]; exact upd_same
        generalize upd G vv (.lst [.int at_, .bl (decide (V.int at_ = V.int 1))]) = J1 at y3 hV ⊢
        refine ⟨vv, rfl, ⟨_, .inl (.inl hV)⟩, fun D nD => ?_⟩
        refine lc_list (xs := [V.int at_, .bl b]) (fun j F => ∃ ps : List Addr, F D = some (.lst (ps.map V.ref)) ∧ Same J1 F ∧ ps.length = j ∧ Paired (fun (p : Addr) (d : Str × Str) => p ≠ D ∧ SqT K F p [.str d.1, .str d.2]) ps ((dueA b).take j)) ⟨[], upd_same, same_upd nD, rfl, .nil⟩ (fun j F _ hK => ?_) (fun j x F hx hK => ?_) (fun F hK => ?_)
        · obtain ⟨_, _, s1, _⟩ := hK
          exact .inl (.inl (s1 _ _ hV))
        · obtain ⟨ps, hD, s1, ln, pr⟩ := hK
          obtain ⟨T, k, z, tv, td, hd⟩ : ∃ (T : String) (k z : Str), Tv K F x T ∧ Told K F dd (.int 2) x none none k z ∧ (dueA b)[j]? = some (k, z) := by
            match j, hx with
            | 0, hx =>
              cases hx
              refine ⟨_, "told", "", Tv.int _, .told (fun _ => rfl) (fun _ => rfl) rfl (fun _ m em _ _ => ?_), rfl⟩
              have e : (2 : Int) = ((m : Nat) : Int) := V.int.inj em
              have e1 : m = 2 := by omega
              subst e1
              rcases ea with rfl | rfl <;> rfl
            | 1, hx =>
              cases hx
              exact ⟨_, "at", _, tv_bl F b, .at_ (m := 2) d6 rfl (by decide) (by decide) rfl (rp_bl F b), rfl⟩
            | n + 2, hx => cases hx
          refine ⟨rfl, _, rfl, _, rfl, dd, _, _, _, _, none, none, "int", T, k, z, rfl, d8, ⟨wd_0 F, wd_0 F, Tv.int 2, tv⟩, td, fun t F1 s2 ht => ?_⟩
          have fD : F1 D = some (.lst (ps.map V.ref)) := s2 _ _ hD
          have tD : t ≠ D := fun e => by
            rw [e, fD] at ht
            cases ht
          refine ⟨_, fD, ?_, ps ++ [t], ?_, fun c o e => ?_, by rw [List.length_append, ln]; rfl, ?_⟩
          · rw [List.length_map, ln]
            have : j < 2 := (List.getElem?_eq_some_iff.mp hx).1
            exact len_lt (by omega)
          · rw [upd_same, List.map_append]
            rfl
          · rw [upd_ne (ne_of_none e nD)]
            exact s2 _ _ (s1 _ _ e)
          · have kD : Kp D F (upd F1 D (.lst (ps.map V.ref ++ [.ref t]))) := fun c u ec ne => by
              rw [upd_ne ne]
              exact s2 _ _ ec
            rw [List.take_succ, hd]
            refine Paired.snoc (Paired.mapP pr fun _ _ z => ⟨z.1, SqT.kp kD z.1 z.2⟩) ⟨tD, .inl (.inl ?_)⟩
            rw [upd_ne tD]
            exact ht
        · obtain ⟨ps, hD, s1, ln, pr⟩ := hK
          have pr2 : Paired (fun (p : Addr) (d : Str × Str) => p ≠ D ∧ SqT K F p [.str d.1, .str d.2]) ps (dueA b) := pr
          refine ⟨(by show 2 ≤ sizeLine; decide), fun t1 n1 => ?_⟩
          have z1 := same_upd (o := .tup [.str "told", .str ""]) n1
          have h1 : upd F t1 (.tup [.str "told", .str ""]) t1 = some (.tup [.str "told", .str ""]) := upd_same
          generalize upd F t1 (.tup [.str "told", .str ""]) = F1 at z1 h1 ⊢
          refine ⟨_, rfl, rfl, .bl b, _, by rw [eb], rp_bl F1 b, (by show 2 ≤ sizeLine; decide), fun t2 n2 => ?_⟩
          have z2 := same_upd (o := .tup [.str "at", .str (if b = true then "True" else "False")]) n2
          have h2 : upd F1 t2 (.tup [.str "at", .str (if b = true then "True" else "False")]) t2 = some (.tup [.str "at", .str (if b = true then "True" else "False")]) := upd_same
          generalize upd F1 t2 (.tup [.str "at", .str (if b = true then "True" else "False")]) = F2 at z2 h2 ⊢
          refine ⟨(by show 2 ≤ sizeLine; decide), fun L nL => ?_⟩
          have z3 := same_upd (o := .lst [.ref t1, .ref t2]) nL
          have z := (z1.trans z2).trans z3
          have dpx := dp_pairs (K := K) pr2
          have dpy := dpAll_same z _ _ dpx
          refine ⟨.list ((dueA b).map fun d : Str × Str => twoD d.1 d.2), .list ((dueA b).map fun d : Str × Str => twoD d.1 d.2), .lst (.inl (.inl (z _ _ hD))) dpy, .lst (.inl (.inl upd_same)) (.cons (Dp_two (z3 _ _ (z2 _ _ h1))) (.cons (Dp_two (z3 _ _ h2)) .nil)), sh_due.2 b, sh_due.2 b, ?_⟩
          rw [eq_due.2 b]
          refine ⟨_, rfl, iteF ?_⟩
          exact ⟨_, _, rfl, ((s0.trans y3).trans s1).trans z⟩
      · obtain ⟨y1, y2, rfl, s0⟩ := hI
        have g0 := zz.trans s0
        -- the fixed calls
        refine ⟨1, _, _, _, _, some (.int (0 : Nat)), none, "int", "int", "code", "0", rfl, by decide, ⟨wd_x G, wd_0 G, Tv.int 0, Tv.int 0⟩, .code (by decide) rfl (rp_int G).1, fun t1 Z1 s1 h1 => ?_⟩
        refine ⟨(by show 2 ≤ sizeLine; decide), fun u1 m1 => ?_⟩
        have s2 := same_upd (o := .tup [.str "code", .str "0"]) m1
        refine ⟨_, _, Dp_two (s2 _ _ h1), Dp_two upd_same, sh_two (by decide +kernel) (by decide +kernel), sh_two (by decide +kernel) (by decide +kernel), ?_⟩
        rw [eq_two (by decide +kernel) (by decide +kernel)]
        refine ⟨_, rfl, iteF ?_⟩
        have g1 := (g0.trans s1).trans s2
        generalize upd Z1 u1 (.tup [.str "code", .str "0"]) = Y1 at g1 ⊢
        refine ⟨3, _, _, _, _, none, some (.int (1 : Nat)), "int", "int", "code", "1", rfl, by decide, ⟨wd_0 Y1, wd_Sx Y1, Tv.int 0, Tv.int 0⟩, .mate (.inl rfl) rfl rfl (rp_int Y1).2.1, fun t3 Z3 s3 h3 => ?_⟩
        refine ⟨(by show 2 ≤ sizeLine; decide), fun u3 m3 => ?_⟩
        have s4 := same_upd (o := .tup [.str "code", .str "1"]) m3
        refine ⟨_, _, Dp_two (s4 _ _ h3), Dp_two upd_same, sh_two (by decide +kernel) (by decide +kernel), sh_two (by decide +kernel) (by decide +kernel), ?_⟩
        rw [eq_two (by decide +kernel) (by decide +kernel)]
        refine ⟨_, rfl, iteF ?_⟩
        have g2 := (g1.trans s3).trans s4
        generalize upd Z3 u3 (.tup [.str "code", .str "1"]) = Y2 at g2 ⊢
        refine ⟨4, _, _, _, _, none, none, "int", "int", "many", "13", rfl, by decide, ⟨wd_0 Y2, wd_0 Y2, Tv.int 13, Tv.int 0⟩, .many (fun _ => rfl) (fun _ => rfl) rfl (rp_int Y2).2.2, fun t5 Z5 s5 h5 => ?_⟩
        refine ⟨(by show 2 ≤ sizeLine; decide), fun u5 m5 => ?_⟩
        have s6 := same_upd (o := .tup [.str "many", .str "13"]) m5
        refine ⟨_, _, Dp_two (s6 _ _ h5), Dp_two upd_same, sh_two (by decide +kernel) (by decide +kernel), sh_two (by decide +kernel) (by decide +kernel), ?_⟩
        rw [eq_two (by decide +kernel) (by decide +kernel)]
        refine ⟨_, rfl, iteF ?_⟩
        have g3 := (g2.trans s5).trans s6
        generalize upd Z5 u5 (.tup [.str "many", .str "13"]) = Y3 at g3 ⊢
        -- the pools
        refine ⟨_, rfl, a, _, rfl, .inl (g3.seq hS), _, _, rfl, _, _, rfl, _, rfl, ?_, ?_, ?_⟩
        · rw [List.length_map]
          split <;> split <;> omega
        · rw [List.length_map]
          split <;> split <;> omega
        generalize hn : (if (if (((ns.map V.int).length : Nat) : Int) < 4 then (((ns.map V.int).length : Nat) : Int) else (4 : Int)) > 2 then (if (((ns.map V.int).length : Nat) : Int) < 4 then (((ns.map V.int).length : Nat) : Int) else (4 : Int)) else 2) = n
        have n1 : n ≤ 100 := by
          rw [← hn, List.length_map]
          split <;> split <;> omega
        refine for_range (lo := 0) (n := n.toNat) (fun i σ G => ∃ y1 y2 y3 y4 y5 : Option V, σ = [some (.ref a), y1, y2, y3, y4, y5, none, none] ∧ Same H G) ⟨_, _, none, none, none, rfl, g3⟩ (fun i σ G hi hI => ?_) (fun σ G hI => ?_)
        · obtain ⟨y1, y2, y3, y4, y5, rfl, sm⟩ := hI
          refine ⟨_, rfl, _, rfl, a, ns, i, congrArg (fun t : Int => [V.ref a, V.int t]) (by omega), sm.seq hS, by omega, fun c H3 s3 => ?_⟩
          refine ⟨c, rfl, fun p H4 s4 np hp => ?_⟩
          refine ⟨16, rfl, by decide, by decide, ?_⟩
          have fp : H p = none := (sm.trans s3).free np
          refine for_range (lo := 0) (n := (16 : Int).toNat) (fun j σ G => ∃ y1 y2 y3 y5 : Option V, σ = [some (.ref a), y1, y2, y3, some (.ref p), y5, none, none] ∧ Kp p H4 G ∧ Pool G p) ⟨_, _, _, _, rfl, Kp.refl p H4, hp⟩ (fun j σ G hj hI => ?_) (fun σ G hI => ?_)
          · obtain ⟨y1, y2, y3, y5, rfl, kp, pp⟩ := hI
            have hj16 : j < 16 := hj
            refine ⟨_, rfl, _, rfl, _, _, rfl, rfl, ⟨by decide, by decide⟩, p, j / 2, congrArg (fun t : Int => [V.ref p, V.int t]) (by omega), by omega, pp, fun H5 k5 p5 => ?_⟩
            refine ⟨_, rfl, iteF ?_⟩
            exact ⟨_, _, _, _, rfl, kp.trans k5, p5⟩
          · obtain ⟨y1, y2, y3, y5, rfl, kp, pp⟩ := hI
            exact ⟨_, _, _, _, _, rfl, fun b o e => kp b o (s4 b o (s3 b o (sm b o e))) (ne_of_none e fp)⟩
        · exact q G
end
section
variable {P : Program} {w : World} {K : PySem.W.Frag} {mg : Str → Option Value} {base : Heap}
/-! ### the errors' own makers -/
abbrev s_InvalidWord : Stmt := top 5
theorem hb_InvalidWord (X : Cx) (hN : X.N = (["self", "index"] : List Str)) (hs : X.env.scope = defScope (initOf s_InvalidWord)) (_ : X.fn "self" = true) : PSs X (defBody (initOf s_InvalidWord)) (tSeq (tOst X.K "index" (tVar 0) (tVar 1)) tNext) :=
  pss_cons (ps_ost (pe_var (by rw [hN]; rfl) (by rw [hs]; exact Or.inl rfl)) (pe_var (by rw [hN]; rfl) (by rw [hs]; exact Or.inl rfl))) pss_nil
theorem si_InvalidWord : FnScope (["self", "index"] : List Str) (["self", "index"] : List Str) (defScope (initOf s_InvalidWord)) := ⟨rfl, rfl, rfl, by decide +kernel, rfl, by decide +kernel, by decide +kernel⟩
abbrev s_InvalidSize : Stmt := top 6
theorem hb_InvalidSize (X : Cx) (hN : X.N = (["self", "size"] : List Str)) (hs : X.env.scope = defScope (initOf s_InvalidSize)) (_ : X.fn "self" = true) : PSs X (defBody (initOf s_InvalidSize)) (tSeq (tOst X.K "size" (tVar 0) (tVar 1)) tNext) :=
  pss_cons (ps_ost (pe_var (by rw [hN]; rfl) (by rw [hs]; exact Or.inl rfl)) (pe_var (by rw [hN]; rfl) (by rw [hs]; exact Or.inl rfl))) pss_nil
theorem si_InvalidSize : FnScope (["self", "size"] : List Str) (["self", "size"] : List Str) (defScope (initOf s_InvalidSize)) := ⟨rfl, rfl, rfl, by decide +kernel, rfl, by decide +kernel, by decide +kernel⟩
abbrev s_InvalidNumber : Stmt := top 3
theorem hb_InvalidNumber (X : Cx) (hN : X.N = (["self", "number"] : List Str)) (hs : X.env.scope = defScope (initOf s_InvalidNumber)) (_ : X.fn "self" = true) : PSs X (defBody (initOf s_InvalidNumber)) (tSeq (tOst X.K "number" (tVar 0) (tVar 1)) tNext) :=
  pss_cons (ps_ost (pe_var (by rw [hN]; rfl) (by rw [hs]; exact Or.inl rfl)) (pe_var (by rw [hN]; rfl) (by rw [hs]; exact Or.inl rfl))) pss_nil
theorem si_InvalidNumber : FnScope (["self", "number"] : List Str) (["self", "number"] : List Str) (defScope (initOf s_InvalidNumber)) := ⟨rfl, rfl, rfl, by decide +kernel, rfl, by decide +kernel, by decide +kernel⟩
theorem fact_in {fa : List He.Fa} {fn : List He.DefD} (c : He.SaysD fa fn K) {y : He.Fa} (h : y ∈ fa) : y.ok K = true := by
  obtain ⟨i, e⟩ := List.getElem?_of_mem h
  exact c.fact i e
theorem ec_of {h : Heap} {x f q : Str} {st : Stmt} {fa : List He.Fa} {fn : List He.DefD} (X : K.In h) (G : h.Ns mainGlobals mg) (c : He.SaysD fa fn K) (i : Nat) (hi : fn[i]? = some (mkI x q st)) (hg : mg x = some (.ref (He.ga K x))) (e : ecB K x f = true)
    (S : FnScope (["self", f] : List Str) (["self", f] : List Str) (defScope (initOf st)))
    (bd : ∀ (kV doc pm : Value) (an : Option Addr) (cdv ct : Value) (us : List Value), us.length = 2 → bindArgs (PySem.W.fnOf "__init__" q (defArgs (initOf st)) (defBody (initOf st)) (defScope (initOf st)) .none kV doc pm an cdv ct) ⟨us, []⟩ = pure ((["self", f] : List Str).zip us))
    (hb : ∀ X : Cx, X.N = (["self", f] : List Str) → X.env.scope = defScope (initOf st) → X.fn "self" = true → PSs X (defBody (initOf st)) (tSeq (tOst X.K f (tVar 0) (tVar 1)) tNext)) : EC P w K mg base x f := by
  obtain ⟨fd, F⟩ := c.def_ i hi
  exact EC.of hg e F S bd hb
theorem clB_ok {x f : Str} {i : Nat} (h : clB K x f i = true) : ecB K x f = true ∧ SortOk K x i ∧ emAt K x := by
  obtain ⟨h1, h⟩ := Bool.and_eq_true_iff.mp h
  obtain ⟨h2, h3⟩ := Bool.and_eq_true_iff.mp h
  exact ⟨h1, sortB_ok h2, of_decide_eq_true h3⟩
end
def lawLevel : Nat := 9
theorem law_facts {P : Program} {w : World} {K : PySem.W.Frag} {h : Heap} {mg : Str → Option Value} {f : Addr} (X : K.In h) (G : h.Ns mainGlobals mg) (hfa : mg ("law" : Str) = some (.ref f)) (c : He.SaysD faL fnL K) (ex : exL K = true) :
    ∃ fd : FuncData, (∀ (s : Shared) (v : Value), BindsTo s fd ⟨[v], []⟩ [("_law_script", v)]) ∧ ∀ base : Heap, FnG P w K mg base lawLevel f fd ["_law_script"] (spLaw K) := by
  obtain ⟨eb_InvalidWord, so_InvalidWord, em_InvalidWord⟩ := clB_ok (show clB K "InvalidWord" "index" 3 = true from (Bool.and_eq_true_iff.mp ex).2)
  replace ex := (Bool.and_eq_true_iff.mp ex).1
  obtain ⟨eb_InvalidNumber, so_InvalidNumber, em_InvalidNumber⟩ := clB_ok (show clB K "InvalidNumber" "number" 1 = true from (Bool.and_eq_true_iff.mp ex).2)
  replace ex := (Bool.and_eq_true_iff.mp ex).1
  obtain ⟨eb_InvalidSize, so_InvalidSize, em_InvalidSize⟩ := clB_ok (show clB K "InvalidSize" "size" 4 = true from (Bool.and_eq_true_iff.mp ex).2)
  replace ex := (Bool.and_eq_true_iff.mp ex).1
  have D_is_whole : Df K mg "is_whole" s_is_whole := Df.of X G c 0 rfl rfl
  have D_is_whole_from : Df K mg "is_whole_from" s_is_whole_from := Df.of X G c 1 rfl rfl
  have D_check_size : Df K mg "check_size" s_check_size := Df.of X G c 2 rfl rfl
  have D_check_number : Df K mg "check_number" s_check_number := Df.of X G c 3 rfl rfl
  have D_is_kind : Df K mg "is_kind" s_is_kind := Df.of X G c 4 rfl rfl
  have D_may_be_word : Df K mg "may_be_word" s_may_be_word := Df.of X G c 5 rfl rfl
  have D_wrong_letter : Df K mg "wrong_letter" s_wrong_letter := Df.of X G c 6 rfl rfl
  have D_check_word : Df K mg "check_word" s_check_word := Df.of X G c 7 rfl rfl
  have D_last_letters : Df K mg "last_letters" s_last_letters := Df.of X G c 8 rfl rfl
  have D_shortest : Df K mg "shortest" s_shortest := Df.of X G c 9 rfl rfl
  have D_check_words : Df K mg "check_words" s_check_words := Df.of X G c 10 rfl rfl
  have D_same : Df K mg "same" s_same := Df.of X G c 11 rfl rfl
  have D_common_end : Df K mg "common_end" s_common_end := Df.of X G c 12 rfl rfl
  have D_telling_row : Df K mg "telling_row" s_telling_row := Df.of X G c 13 rfl rfl
  have D_difference : Df K mg "difference" s_difference := Df.of X G c 14 rfl rfl
  have D_is_constant : Df K mg "is_constant" s_is_constant := Df.of X G c 15 rfl rfl
  have D_word_count : Df K mg "word_count" s_word_count := Df.of X G c 16 rfl rfl
  have D_word_at : Df K mg "word_at" s_word_at := Df.of X G c 17 rfl rfl
  have D_number_of : Df K mg "number_of" s_number_of := Df.of X G c 18 rfl rfl
  have D__law_cell : Df K mg "_law_cell" s__law_cell := Df.of X G c 19 rfl rfl
  have D__law_pool : Df K mg "_law_pool" s__law_pool := Df.of X G c 20 rfl rfl
  have D__law_draw : Df K mg "_law_draw" s__law_draw := Df.of X G c 21 rfl rfl
  have D__law_letters : Df K mg "_law_letters" s__law_letters := Df.of X G c 22 rfl rfl
  have D__law_length : Df K mg "_law_length" s__law_length := Df.of X G c 23 rfl rfl
  have D__law_sort : Df K mg "_law_sort" s__law_sort := Df.of X G c 24 rfl rfl
  have D__law_odd_code : Df K mg "_law_odd_code" s__law_odd_code := Df.of X G c 25 rfl rfl
  have D__law_index_of : Df K mg "_law_index_of" s__law_index_of := Df.of X G c 26 rfl rfl
  have D__law_odd_many : Df K mg "_law_odd_many" s__law_odd_many := Df.of X G c 27 rfl rfl
  have D__law_odd_place : Df K mg "_law_odd_place" s__law_odd_place := Df.of X G c 28 rfl rfl
  have D__law_asked : Df K mg "_law_asked" s__law_asked := Df.of X G c 29 rfl rfl
  have D__law_caught : Df K mg "_law_caught" s__law_caught := Df.of X G c 30 rfl rfl
  have D__law_due : Df K mg "_law_due" s__law_due := Df.of X G c 31 rfl rfl
  have D__law_call_right : Df K mg "_law_call_right" s__law_call_right := Df.of X G c 32 rfl rfl
  have D_law : Df K mg "law" s_law := Df.of X G c 33 rfl rfl
  have m_isinstance : mg "isinstance" = none := He.free_ok X G (c.fact 34 (f := .free "isinstance") rfl)
  have m_int : mg "int" = none := He.free_ok X G (c.fact 35 (f := .free "int") rfl)
  have m_bool : mg "bool" = none := He.free_ok X G (c.fact 36 (f := .free "bool") rfl)
  have m_str : mg "str" = none := He.free_ok X G (c.fact 37 (f := .free "str") rfl)
  have m_len : mg "len" = none := He.free_ok X G (c.fact 38 (f := .free "len") rfl)
  have m_enumerate : mg "enumerate" = none := He.free_ok X G (c.fact 39 (f := .free "enumerate") rfl)
  have m_max : mg "max" = none := He.free_ok X G (c.fact 40 (f := .free "max") rfl)
  have m_min : mg "min" = none := He.free_ok X G (c.fact 41 (f := .free "min") rfl)
  have m_list : mg "list" = none := He.free_ok X G (c.fact 42 (f := .free "list") rfl)
  have m_range : mg "range" = none := He.free_ok X G (c.fact 43 (f := .free "range") rfl)
  have m_tuple : mg "tuple" = none := He.free_ok X G (c.fact 44 (f := .free "tuple") rfl)
  have m_reversed : mg "reversed" = none := He.free_ok X G (c.fact 45 (f := .free "reversed") rfl)
  have m_abs : mg "abs" = none := He.free_ok X G (c.fact 46 (f := .free "abs") rfl)
  have m_divmod : mg "divmod" = none := He.free_ok X G (c.fact 47 (f := .free "divmod") rfl)
  have m_ValueError : mg "ValueError" = none := He.free_ok X G (c.fact 48 (f := .free "ValueError") rfl)
  have m_LookupError : mg "LookupError" = none := He.free_ok X G (c.fact 49 (f := .free "LookupError") rfl)
  have m_ArithmeticError : mg "ArithmeticError" = none := He.free_ok X G (c.fact 50 (f := .free "ArithmeticError") rfl)
  have m_repr : mg "repr" = none := He.free_ok X G (c.fact 51 (f := .free "repr") rfl)
  have m_dict : mg "dict" = none := He.free_ok X G (c.fact 52 (f := .free "dict") rfl)
  obtain ⟨t_MOST_PEOPLE, g_MOST_PEOPLE⟩ := He.int_ok X G (c.fact 53 (f := .int "MOST_PEOPLE" 12) rfl)
  have g_KINDS : mg "KINDS" = some (.ref (He.ga K "KINDS")) := He.glo_ok X G (c.fact 54 (f := .glo "KINDS") rfl)
  have hN_KINDS := tupN_ok (show tupN K "KINDS" = true from (Bool.and_eq_true_iff.mp ex).2)
  replace ex := (Bool.and_eq_true_iff.mp ex).1
  have hT_KINDS : ∀ H : Hp, SqT K H (He.ga K "KINDS") [.str (ltr false), .str (ltr true)] := fun H => by
    have z := He.tupB_ok (show He.tupB K "KINDS" [.str "S", .str "T"] = true from ex) H
    rw [show ([.str "S", .str "T"] : List He.Dv).map (He.Dv.v K) = [V.str (ltr false), V.str (ltr true)] from rfl] at z
    exact z
  obtain ⟨t_MOST_LETTERS, g_MOST_LETTERS⟩ := He.int_ok X G (c.fact 55 (f := .int "MOST_LETTERS" 400) rfl)
  have g_err : ErrG K mg := ⟨fun y hy => He.glo_ok X G (fact_in c (List.mem_append_right _ (List.mem_map_of_mem hy)))⟩
  have g_PassError := g_err.at_ "PassError" (by decide +kernel)
  have g_FindError := g_err.at_ "FindError" (by decide +kernel)
  have g_LimitError := g_err.at_ "LimitError" (by decide +kernel)
  have g_shortest : mg "shortest" = some (.ref (He.ga K "shortest")) := He.glo_ok X G (c.fact 9 (f := .glo "shortest") rfl)
  have g_is_constant : mg "is_constant" = some (.ref (He.ga K "is_constant")) := He.glo_ok X G (c.fact 15 (f := .glo "is_constant") rfl)
  have g_number_of : mg "number_of" = some (.ref (He.ga K "number_of")) := He.glo_ok X G (c.fact 18 (f := .glo "number_of") rfl)
  obtain ⟨fd, F, hF⟩ := ClG.last (P := P) (w := w) (k := 9) (ps := ["_law_script"]) (sp := spLaw K) D_law hfa fun base => by
    have ec_InvalidSize := ec_of (P := P) (w := w) (base := base) (st := s_InvalidSize) X G c 34 rfl (g_err.at_ "InvalidSize" (by decide +kernel)) eb_InvalidSize si_InvalidSize (fun _ _ _ _ _ _ us hl => match us, hl with | [_, _], _ => rfl) hb_InvalidSize
    have ec_InvalidNumber := ec_of (P := P) (w := w) (base := base) (st := s_InvalidNumber) X G c 35 rfl (g_err.at_ "InvalidNumber" (by decide +kernel)) eb_InvalidNumber si_InvalidNumber (fun _ _ _ _ _ _ us hl => match us, hl with | [_, _], _ => rfl) hb_InvalidNumber
    have ec_InvalidWord := ec_of (P := P) (w := w) (base := base) (st := s_InvalidWord) X G c 36 rfl (g_err.at_ "InvalidWord" (by decide +kernel)) eb_InvalidWord si_InvalidWord (fun _ _ _ _ _ _ us hl => match us, hl with | [_, _], _ => rfl) hb_InvalidWord
    have c_draw := ok_draw (P := P) (w := w) (base := base) D__law_draw m_divmod
    have c_letters := ok_letters D__law_letters c_draw m_len
    have c_length := ok_length D__law_length c_draw m_max
    have c_whole := ok_whole (P := P) (w := w) (base := base) D_is_whole m_isinstance m_int m_bool
    have c_from := ok_from D_is_whole_from c_whole
    have c_kind := ok_is_kind (P := P) (w := w) (base := base) D_is_kind m_isinstance m_str g_KINDS hT_KINDS
    -- good calls
    have c_mayw := ok_mayw (P := P) (w := w) (base := base) D_may_be_word m_isinstance m_str m_len g_MOST_LETTERS
    have c_wrongl := ok_wrongl D_wrong_letter c_kind m_enumerate
    have c_cword := ok_check_word D_check_word c_mayw c_wrongl
    have c_size := ok_size D_check_size c_from g_MOST_PEOPLE
    have c_num := ok_num D_check_number c_from
    have c_lastl := ok_lastl (P := P) (w := w) (base := base) D_last_letters m_len m_max
    have c_shortest := ok_shortest D_shortest c_cword c_size c_lastl
    have c_cwords := ok_cwords D_check_words c_cword c_size
    have c_same := ok_same D_same c_cwords c_shortest
    have c_tell := ok_tell (P := P) (w := w) (base := base) D_telling_row m_list m_range m_len m_tuple
    have c_common := ok_common D_common_end c_lastl m_len m_min
    have c_diff := ok_diff D_difference c_cwords c_shortest c_tell c_common m_len
    have c_const := ok_const D_is_constant c_cword c_size m_len
    have c_wc := ok_wc D_word_count c_size
    have c_wat := ok_wat D_word_at c_num c_wc m_reversed g_KINDS hT_KINDS
    have c_nof := ok_numof D_number_of c_shortest g_KINDS hT_KINDS hN_KINDS
    -- wrong calls
    have x_mayw := ok_mayw2 (P := P) (w := w) (base := base) D_may_be_word m_isinstance m_str m_len g_MOST_LETTERS
    have x_wrongl := ok_wrongl2 D_wrong_letter c_kind m_enumerate
    have x_cword := ok_check_wordX D_check_word ec_InvalidWord x_mayw x_wrongl
    have x_size := ok_sizeX D_check_size ec_InvalidSize c_from g_MOST_PEOPLE
    have x_num := ok_numX D_check_number ec_InvalidNumber c_from
    have x_shortest := ok_shortestX D_shortest x_cword x_size c_lastl
    have x_cwords := ok_cwordsX D_check_words x_cword x_size
    have x_same := ok_sameX D_same x_cwords c_shortest
    have x_diff := ok_diffX D_difference x_cwords c_shortest c_tell c_common m_len
    have x_const := ok_constX D_is_constant x_cword x_size m_len
    have x_wc := ok_wcX D_word_count x_size
    have a_wc := Cl.orX 4 c_wc x_wc
    have x_wat := ok_watX D_word_at x_num a_wc m_reversed g_KINDS
    have x_nof := ok_numofX D_number_of x_shortest g_KINDS
    have c_ask := ok_ask D__law_asked (all_shortest c_shortest x_shortest) (all_const c_const x_const) (all_numof c_nof x_nof) (all_same c_same x_same) (all_diff c_diff x_diff) (all_wc a_wc) (all_wat c_wat x_wat) g_shortest g_is_constant g_number_of
    have c_sort := ok_sortz (P := P) (w := w) (base := base) D__law_sort g_err m_isinstance m_ValueError m_LookupError m_ArithmeticError
    have c_caught := ok_caught D__law_caught c_ask c_sort ec_InvalidWord ec_InvalidSize ec_InvalidNumber so_InvalidWord so_InvalidNumber so_InvalidSize em_InvalidWord em_InvalidNumber em_InvalidSize g_PassError g_FindError g_LimitError m_repr
    have c_index := ok_indexof (P := P) (w := w) (base := base) D__law_index_of m_isinstance m_str m_len m_range
    have c_due := ok_due D__law_due c_index m_int m_repr
    have c_oc := ok_oddcode D__law_odd_code c_draw c_letters c_length
    have c_om := ok_oddmany D__law_odd_many c_draw
    have c_op := ok_oddplace D__law_odd_place c_draw
    have c_call := ok_call D__law_call_right c_draw c_letters c_length c_oc c_om c_op c_caught c_due m_int m_dict m_range
    exact ok_law D_law c_caught c_call (ok_pool D__law_pool m_abs) (ok_cell D__law_cell m_len) m_len m_range m_max m_min m_repr
  exact ⟨fd, fun s v => FunD.bindsA (ps := ["_law_script"]) F (fun _ _ _ _ _ _ us hl => match us, hl with | [_], _ => rfl) s [v] rfl, hF⟩
end Lp
open PySem PySem.W PySem.Calls PyProof.Rows
theorem PySem.Challenge.cw_lastpasses_k33_words_sizes_and_numbers_r_holds : PySem.Challenge.rw_lastpasses_k33_words_sizes_and_numbers_r.Holds := by
  w_on; o_law
  refine HandSHeadRun.head_any (r := OpenLaw.row PySem.Challenge.rw_lastpasses_k33_words_sizes_and_numbers_r) (q := view (OpenLaw.row PySem.Challenge.rw_lastpasses_k33_words_sizes_and_numbers_r).prog [74]) (H := Lp.hk) (ob := Lp.ob) (M := 20000) (loose := Lp.loose) (d := HandSHeadRun.topDef (OpenLaw.row PySem.Challenge.rw_lastpasses_k33_words_sizes_and_numbers_r).prog 74) (kwd := []) Lp.ob_eq
    (by kernel_rfl) (fun s => by kernel_rfl) Lp.run (by kernel_rfl) (by kernel_rfl) (by kernel_rfl) (by rfl) (by first | assumption | decide +kernel) (by decide +kernel) ⟨rfl, rfl, rfl, rfl, rfl, by decide +kernel⟩ ?hw ?hc
  case hw => w_witness2
  case hc =>
    refine Lp.walkG (l := PySem.Challenge.rw_lastpasses_k33_words_sizes_and_numbers_r) (n := 63) (k := Lp.lawLevel) (x := "_law_script") rfl (by decide) (by kernel_rfl) ⟨rfl, by decide, by decide⟩ ?F
    intro w mg fa h Y G hmg0
    obtain ⟨K, KX, c, ex⟩ := Y
    have hmg : mg ("law" : PySem.Str) = some (.ref fa) := by
      have e : (HandSHeadRun.topDef (OpenLaw.row PySem.Challenge.rw_lastpasses_k33_words_sizes_and_numbers_r).prog 74).name = ("law" : PySem.Str) := by kernel_rfl
      rw [← e]
      exact hmg0
    obtain ⟨fd, hb, hF⟩ := Lp.law_facts (P := (PySem.Challenge.rw_lastpasses_k33_words_sizes_and_numbers_r).prog) (w := w) KX G hmg c ex
    exact ⟨K, fd, Lp.spLaw K, KX, hb, fun H a ns hl hS => ⟨a, ns, rfl, hS, hl, fun _ => rfl⟩, hF⟩
