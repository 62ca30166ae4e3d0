import PyProof.Rows.All
import Wide.All
import OpenK.AllK
import Wide.FinOn
import HandS.ForMost
import HandS.ForExc
import HandS.More
import HandS.Wide
import HandS.Style
import HandS.Flow
import HandS.SetFor
import HandS.Defaults
import HandS.IsInst
import HandS.ExcIs
import HandS.ExcValue
import HandS.Conv
import HandS.TupAny
import HandS.Deep
import HandS.Codes
import HandS.Head0
import HandS.Head1
import HandS.Head2
import HandS.HeadEnd
import HandS.HeadHook1
import HandS.HeadHook2
import HandS.HeadHook3
import HandS.HeadHook4
import HandS.TupMul
import HandS.Zip
import HandS.MakeKw
import KE.GoesMore
import KE.GoesEnum
import PySem.Challenge.RW_rootrooms_k03_products_sums_times
set_option Elab.async false
set_option linter.all false
set_option maxRecDepth 100000
set_option maxHeartbeats 4000000
/-! XA: rules of our own over the hand layer. -/
namespace XA
open PySem PySem.Spec PyProof.Rows L2

/-! ### weaker readings -/
theorem OpR.imp {X : Cx} {f : Value → Value → Sem Value} {r r' : R2} (h : OpR X f r)
    (i : ∀ x y H Q, r' x y H Q → r x y H Q) : OpR X f r' :=
  fun pins s σ H x y v u Q I rx ry q => h pins s σ H x y v u Q I rx ry (i x y H Q q)

/-- a rest by a positive number -/
def rModP : R2 := fun x y H Q => ∃ i j, x = .int i ∧ y = .int j ∧ 0 < j ∧ Q (.int (i % j)) H
theorem op_modP {X : Cx} : OpR X (binaryOp .Mod) rModP := OpR.imp op_modN (by
  rintro x y H Q ⟨i, j, rfl, rfl, hj, q⟩
  refine ⟨i, j, rfl, rfl, by omega, ?_⟩
  show Q (V.int (i.fmod j)) H
  rw [Int.fmod_eq_emod_of_nonneg _ (by omega)]
  exact q)
/-- a whole part by a positive number below 2 ^ 30 -/
def rDivP : R2 := fun x y H Q => ∃ i j, x = .int i ∧ y = .int j ∧ (0 < j ∧ j < 1073741824) ∧ Q (.int (i / j)) H
theorem op_divP {X : Cx} : OpR X (binaryOp .FloorDiv) rDivP := OpR.imp op_fdivN (by
  rintro x y H Q ⟨i, j, rfl, rfl, ⟨hj, hk⟩, q⟩
  refine ⟨i, j, rfl, rfl, ⟨by omega, by omega⟩, ?_⟩
  show Q (V.int (i.fdiv j)) H
  rw [Int.fdiv_eq_ediv_of_nonneg _ (by omega)]
  exact q)

/-! ### all of a list of ints -/
theorem truth_ints {prog : Program} {w : World} {A : Around} {ns : List Int} {its : List Value} (e : Vals (ns.map V.int) its) :
    TruthOf prog w A (fun i v => its.toArray[i]? = some v) (fun i => (ns.map fun n => n != 0).getD i false) := by
  intro i v s Q E hv hq
  have hv' : its[i]? = some v := by simpa using hv
  have hlt : i < ns.length := by
    have h1 : i < its.length := (List.getElem?_eq_some_iff.mp hv').1
    have h2 := e.length
    rw [List.length_map] at h2
    omega
  have hx : (ns.map V.int)[i]? = some (V.int ns[i]) := by
    rw [List.getElem?_map, List.getElem?_eq_getElem hlt] <;> rfl
  obtain ⟨u, hu, r⟩ := e.get hx
  rw [hv'] at hu
  cases hu
  obtain ⟨t, rfl⟩ := r
  have hg : (ns.map fun n => n != 0).getD i false = (ns[i] != 0) := by
    rw [List.getD_eq_getElem?_getD, List.getElem?_map, List.getElem?_eq_getElem hlt] <;> rfl
  have hq' : Q ((ns.map fun n => n != 0).getD i false) s := hq
  rw [hg] at hq'
  exact PyProof.Rows.truthy_int hq'
def rAllI (K : PySem.W.Frag) : List V → Hp → VK → Prop := fun vs H Q =>
  ∃ (a : Addr) (ns : List Int), vs = [V.ref a] ∧ SqL K H a (ns.map V.int) ∧ Q (.bl (ns.all fun n => n != 0)) H
theorem cr_allI {X : Cx} (hc : X.calm = true) : CallR X (.builtin "all") (rAllI X.K) := by
  intro pins s σ H vs us Q I r h
  obtain ⟨a, ns, rfl, hs, q⟩ := h
  obtain ⟨its, rv, hl, _⟩ := I.list hs
  rw [Vals.ref1 r]
  have hlen : its.toArray.size = (ns.map fun n => n != 0).length := by
    have := rv.length
    simp only [List.length_map] at this
    simp only [List.size_toArray, List.length_map, this]
  apply call_all_walk
  apply iter_any hl.isList
  intro s2 e2 st hne
  subst e2
  refine ⟨_, _, _, _, _, _, _, rfl,
    Walks.list (A := X.A.in1) (I.ok.hd hc) _ a hne its.toArray, st, truth_ints rv, ?_⟩
  intro h' tk hk
  have keep : ∀ b u, s.heap.get? b = some u → h'.get? b = some u := by
    intro b o eo
    apply hk b o
    · intro hm
      rcases List.mem_cons.mp hm with e1 | hm
      · have := Heap.lt_size eo
        rw [e1] at this
        exact Nat.lt_irrefl _ this
      · cases hm
    · exact Heap.get?_push_of_some _ eo
  refine ⟨.bl _, H, I.kept keep, ?_, q⟩
  show Value.bool _ = Value.bool _
  rw [hlen, L2.all_range, List.all_map]
  rfl

/-! ### the count of a truth in a list of truths -/
def isB (k : Bool) : Value → Bool
  | .bool b => b == k
  | _ => false
theorem countB (k : Bool) : ∀ bs : List Bool, (bs.map Value.bool).countP (isB k) = bs.count k
  | [] => rfl
  | b :: r => by
    rw [List.map_cons, List.countP_cons, List.count_cons, countB k r]
    rfl
def rCntB (K : PySem.W.Frag) : V → List V → Hp → VK → Prop := fun x xs H Q =>
  ∃ (p : Addr) (bs : List Bool) (k : Bool), x = .ref p ∧ xs = [.bl k] ∧ SqL K H p (bs.map V.bl) ∧ Q (.int (bs.count k : Nat)) H
theorem mt_countB {X : Cx} : MtR X "list.count" (rCntB X.K) := by
  intro pins s σ H x xs v us Q I rx rxs h
  obtain ⟨p, bs, k, rfl, rfl, hs, q⟩ := h
  cases rx
  obtain ⟨u, rfl, ru⟩ := rxs.one
  obtain rfl : u = Value.bool k := ru
  obtain ⟨its, rv, ⟨⟨cls, dd, data, sl⟩, n, ho, hc, hdn, hd⟩, hlen⟩ := I.list hs
  have hi := rv.bls
  simp only at hc hd
  subst hc hd hi
  refine call_meets PySem.F.slot_list_count ⟨_, ho, rfl⟩ PySem.F.entry_list_count (PySem.F.args_list_count_2 _ _)
    (SeqAt.list_countAt p _ n dd sl (.bool k) (isB k)) ⟨ho, ?_, ?_⟩
  · intro y hy
    have hy' : y ∈ bs.map Value.bool := by simpa using hy
    obtain ⟨b, _, rfl⟩ := List.mem_map.mp hy'
    exact SeqAt.EqAt.bool_bool b k
  · refine ⟨.int (bs.count k : Nat), H, I.tok _, ⟨s.toks, ?_⟩, q⟩
    rw [← countB]

/-! ### an exception of an own class, held by a name behind its suite -/
def ExH (cls : Value) (d : Option Addr) (a : Addr) : HO :=
  .ext fun h => ∃ (oe : Obj) (vs : Array Value), h.get? a = some oe ∧ Zc cls d oe ∧ oe.data = .fields vs
theorem exH_ok {P : Program} {w : World} {H : Hp} {h : Heap} {a : Addr} {cls : Value} {d : Option Addr} {oe : Obj} {vs : Array Value}
    (e : h.get? a = some oe) (z : Zc cls d oe) (f : oe.data = .fields vs) : ObjOk P w H h a (ExH cls d a) := by
  refine ⟨⟨oe, vs, e, z, f⟩, ⟨oe, e⟩, ?_⟩
  rintro h1 h2 ⟨o, v, q, r⟩ k
  exact ⟨o, v, k o q, r⟩
/-- an object that stands untracked and new since the entry is tracked from here on -/
theorem track {X : Cx} {pins : List (Addr × Obj)} {σ : L2.St} {H : Hp} {s : Shared} {a : Addr} {o : HO} (I : Inv X pins σ H s)
    (n0 : X.s_0.heap.get? a = none) (hn : H a = none) (hL : a ≠ X.env.locals) (hC : ∀ x c, X.env.cells.lookup x = some c → c ≠ a)
    (hP : ∀ p ∈ X.pn ++ pins, p.1 ≠ a) (new : ObjOk X.prog X.w (upd H a o) s.heap a o) : Inv X pins σ (upd H a o) s := by
  have ne0 : ∀ b u, X.s_0.heap.get? b = some u → b ≠ a := by
    intro b u e z
    rw [z, n0] at e
    cases e
  have neH : ∀ b u, H b = some u → b ≠ a := fun b u e => ne_of_none e hn
  refine ⟨I.ok, I.os, I.bare, ?_, I.loc, I.cell, ?_, ?_, ?_, ?_, I.len⟩
  · constructor
    · exact I.base.keep
    · exact I.base.slot
    · intro b u e n hx
      rw [upd_ne (ne0 b u e)]
      exact I.base.free b u e n hx
    · exact I.base.there
    · intro b xs e
      have q := I.base.tups b xs e
      rw [upd_ne (neH _ _ q)]
      exact q
    · intro b u v e
      have q := I.base.frzs b u v e
      rw [upd_ne (neH _ _ q)]
      exact q
    · intro b ps e
      obtain ⟨m, q⟩ := I.base.tbls b ps e
      exact ⟨m, by rw [upd_ne (neH _ _ q)]; exact q⟩
  · rw [upd_ne (Ne.symm hL)]
    exact I.free
  · intro x c e
    rw [upd_ne (hC x c e)]
    exact I.freeC x c e
  · intro p hp
    obtain ⟨e, n, r⟩ := I.pin p hp
    exact ⟨e, by rw [upd_ne (hP p hp)]; exact n, r⟩
  · intro b u e
    by_cases hb : b = a
    · subst hb
      rw [upd_same] at e
      cases e
      exact new
    · rw [upd_ne hb] at e
      refine (I.hok b u e).stay (fun c v _ q => q) (fun c q => ?_) (fun c xs q => ?_)
      · rw [upd_ne (neH _ _ q)]
        exact q
      · rw [upd_ne (neH _ _ q)]
        exact q

/-! ### try .. except C as e: suite, and what was caught stays known -/
/-- the ends behind the suite: e's slot is empty, the exception at a is tracked -/
def endsK (D : Ends) (i : Nat) (cls : Value) (d : Option Addr) (a : Addr) : Ends where
  nx := fun τ G => D.nx (τ.set i none) (upd G a (ExH cls d a))
  rt := fun v G => D.rt v (upd G a (ExH cls d a))
  bk := fun τ G => D.bk (τ.set i none) (upd G a (ExH cls d a))
  ct := fun τ G => D.ct (τ.set i none) (upd G a (ExH cls d a))
/-- what the clause wishes of an exception of the body -/
def wAsK (K : PySem.W.Frag) (c : Value) (i : Nat) (ts : Addr → Value → Option Addr → TS) (Wo : WX) (D : Ends) : WX := fun cls d σ H =>
  ∃ b, PySem.W.exmOne K cls c = some b ∧ (b = false → Wo cls d σ H) ∧
    (b = true → ∀ a, H a = none → ts a cls d (endsK D i cls d a) (σ.set i (some (.ref a))) H)
section
variable {X : Cx} {x n : Str} {c : Value} {i : Nat} {body suite : List Stmt} {b0 : Stmt} {np p1 p2 : Pos}
  {tb : WX → TS} {ts : Addr → Value → Option Addr → TS} {Wo : WX}
theorem ps_try_asK (hst : X.stack = X.env :: X.outer) (hfm : X.env.frame = some X.env.locals) (hex : X.ex = [])
    (hnd : X.N.Nodup) (hi : X.N[i]? = some n) (hlo : X.env.kindOf n = some .local) (hc : Names X x c) (tk : Takes X Wo)
    (hb : ∀ (W : WX) (pn : List (Addr × Obj)) (xe : Value → Shared → Prop), Takes (X.tr pn xe) W →
      PassesOwn (model X.prog X.w) X.A X.env xe → PSs (X.tr pn xe) body (tb W))
    (hsu : ∀ (a : Addr) (oe : Obj) (cls : Value) (d : Option Addr) (pn : List (Addr × Obj)), Zc cls d oe →
      (∃ vs, oe.data = .fields vs) → PSs (X.suite a ((a, oe) :: pn)) (b0 :: suite) (ts a cls d)) :
    PS X (.Try body [.ExceptHandler (some (.Name x np)) (some n) (b0 :: suite) p1] [] [] p2)
      (fun D σ H => tb (wAsK X.K c i ts Wo D) D σ H) := by
  refine ⟨?_⟩
  intro pins s σ H D I h
  have ok := I.ok
  have hfr : X.A.frames = some (X.env :: X.outer) := by
    rw [ok.frames, hst]
  have hlc : Loc X.env.scope n := Or.inl hlo
  apply wpAny_Try_except
  let xeT : Value → Shared → Prop := fun e t1 =>
    wpAny (model X.prog X.w) X.A (noteFrame e X.env) (fun _ t2 =>
      wpAny (model X.prog X.w) X.A (setFlight e none) (fun _ t3 =>
        wpAny (model X.prog X.w) X.A
          (handleBy e X.env [.ExceptHandler (some (.Name x np)) (some n) (b0 :: suite) p1])
          (SP X pins D) X.xe t3) X.xe t2) X.xe t1
  have takesT : Takes (X.tr (X.pn ++ pins) xeT) (wAsK X.K c i ts Wo D) := by
    intro u z hz
    obtain ⟨a, B, zI, pins', τ, G, cls, d, rfl, J', nb, up, sky, na, os, ag, b, hb1, hno, hyes⟩ := hz
    have J : Inv X pins τ G zI := J'.ofTry ok
    have sky' : Sky B (X.env :: X.outer) a (Zc cls d) X.env.locals z.heap := hst ▸ sky
    show wpAny _ _ (noteFrame (.ref a) X.env) _ _ _
    apply Sky.land Zc.steady hfr hfm sky'
    intro h3 fl3 up3
    have B0 : B.get? a = none := fl3.2.1
    -- a is none of the objects of the state without it, but perhaps a frame
    have zn : ∀ o, zI.heap.get? a = some o → a ∉ frs X.stack → False := by
      intro o e m
      have q := nb a o e m
      rw [B0] at q
      cases q
    have J3 : Inv X pins τ G { z with heap := h3 } := J.landed nb fl3.1 (up.trans up3) os ag
    obtain ⟨oe3, vs3, he3, hz3, hd3⟩ := fl3.there
    have nfr : a ∉ frs (X.env :: X.outer) := by
      intro hm
      obtain ⟨_, o', e', hnf⟩ := fl3.2.2.1.mem hm
      rw [he3] at e'
      cases e'
      exact hnf _ hd3
    have nfs : a ∉ frs X.stack := by
      rw [hst]
      exact nfr
    have nL : a ≠ X.env.locals := by
      intro q
      exact nfr (List.mem_filterMap.mpr ⟨X.env, List.mem_cons_self, by rw [hfm, q]⟩)
    have nF : a ∉ X.fs := by
      intro hm
      obtain ⟨e, he, q⟩ := List.mem_filterMap.mp hm
      exact nfr (List.mem_filterMap.mpr ⟨e, List.mem_cons_of_mem _ he, q⟩)
    have n0 : X.s_0.heap.get? a = none := by
      cases q : X.s_0.heap.get? a with
      | none => rfl
      | some o =>
        exfalso
        obtain ⟨o', q'⟩ := J.base.there a o q (by rw [hex]; exact fun m => nomatch m)
        exact zn o' q' nfs
    have nC : ∀ y k, X.env.cells.lookup y = some k → k ≠ a := by
      intro y k e q
      obtain ⟨v, o, ho, _⟩ := J.cell y k e
      rw [q] at ho
      exact zn o ho nfs
    have nP : ∀ p ∈ X.pn ++ pins, p.1 ≠ a := by
      intro p hp q
      obtain ⟨e, _⟩ := J.pin p hp
      rw [q] at e
      exact zn _ e nfs
    have S3 := J3.suite he3 hd3 na nL nF
    refine wpAny_handleBy_cons (codeAny_handlers_test ?_) (by intro q; cases q)
    have LT : PySem.W.Looks (model X.prog X.w) h3 (typeOf (.ref a)) cls := by
      intro A Q E t k q
      exact wpAny_typeOf_ref (k _ _ he3) (by rw [hz3.1]; exact q)
    have LM := PySem.W.exm_one (M := model X.prog X.w) J3.kIn LT hb1
    have asks : ∀ {Q E : Value → Shared → Prop}, Q c { z with heap := h3 } →
        wpAny (model X.prog X.w) (X.A.mark (some (.ref a))) (eval (.Name x np) X.env) Q E { z with heap := h3 } := by
      intro Q E q
      obtain ⟨hg, hdb, hm | ⟨hm, hv, hnn⟩⟩ := hc
      · exact ld_glob (X := X.suite a ((a, oe3) :: (X.pn ++ pins))) S3 hg hm q hdb
      · exact ld_blt (X := X.suite a ((a, oe3) :: (X.pn ++ pins))) S3 hg hm hv q hnn hdb
    refine asks (LM.here ?_)
    cases b with
    | true =>
      apply codeAny_handlers_suite_as
      apply HandSPX.lands_againZ fl3
      intro h4 fl4 up4
      have J4 : Inv X pins τ G { z with heap := h4 } :=
        J.landed nb fl4.1 ((up.trans up3).trans up4) os ag
      obtain ⟨oe4, vs4, he4, hz4, hd4⟩ := fl4.there
      have S4 := J4.suite he4 hd4 na nL nF
      refine store_ok (X := X.suite a ((a, oe4) :: (X.pn ++ pins))) (v := .ref a) S4 hnd hi hlc rfl ?_ (.inr hlo)
      intro s5 S5
      have run := (hsu a oe4 cls d (X.pn ++ pins) hz4 ⟨_, hd4⟩).run [] s5 _ G _ S5 (hyes rfl a na)
      refine wpAny_mono run ?_ (fun _ _ q => False.elim q)
      intro f s6 hsp
      have goes : ∀ {τ6 : L2.St} {G6 : Hp} {Q : Shared → Prop}, Inv (X.suite a ((a, oe4) :: (X.pn ++ pins))) [] τ6 G6 s6 →
          (∀ s7, Inv X pins (τ6.set i none) (upd G6 a (ExH cls d a)) s7 → Q s7) →
          wpAny (model X.prog X.w) X.A (do bindName X.env n .none; unbindBehindTheSuite X.env n p1)
            (fun _ s7 => Q s7) X.xe s6 := by
        intro τ6 G6 Q S6 hq
        obtain ⟨ea, ga, _⟩ := S6.pin (a, oe4) (List.mem_append_left _ List.mem_cons_self)
        have J6 : Inv X pins τ6 G6 s6 := S6.unsuite ok
        exact gone_ok (track J6 n0 ga nL nC nP (exH_ok ea hz4 hd4)) hnd hi hlo hq
      cases f with
      | next =>
        obtain ⟨τ6, G6, S6, q6⟩ := hsp
        exact goes S6 fun s7 J7 => ⟨_, _, J7, q6⟩
      | brk =>
        obtain ⟨τ6, G6, S6, q6⟩ := hsp
        exact goes S6 fun s7 J7 => ⟨_, _, J7, q6⟩
      | cont =>
        obtain ⟨τ6, G6, S6, q6⟩ := hsp
        exact goes S6 fun s7 J7 => ⟨_, _, J7, q6⟩
      | ret u =>
        obtain ⟨v6, τ6, G6, S6, r6, q6⟩ := hsp
        exact goes S6 fun s7 J7 => ⟨_, _, _, J7, r6, q6⟩
    | false =>
      show wpAny _ X.A (handleBy (.ref a) X.env []) _ _ _
      apply wpAny_handleBy_nil
      obtain ⟨k1, k2, k3, oe, vs, T, oT, ts', he, hz, hd, h1, hr⟩ := id fl3
      unfold PySem.passOn
      refine wpAny_bind (wpAny_field he hd h1 ?_)
      rw [if_neg (show ¬ ((Value.ref T == Value.none) = true) from by simp)]
      have fin : wpAny (model X.prog X.w) X.A (setFlight (.ref a) X.env.frame)
          (fun _ s4 => wpAny (model X.prog X.w) X.A (throw (.ref a) : Sem Flow) (SP X pins D) X.xe s4)
          X.xe { z with heap := h3 } := by
        rw [hfm]
        refine HandSPX.setFlight_upZ fl3 fun h4 hh4 up4 => wpAny_throw (tk _ _ ?_)
        have top : Sky B X.stack a (Zc cls d) X.env.locals h4 := Or.inr (Or.inr (by rw [hst]; exact hh4))
        exact ⟨a, B, zI, pins, τ, G, cls, d, rfl, J, nb, (up.trans up3).trans up4, top, na, os, ag, hno rfl⟩
      first
        | exact wpAny_bind (wpAny_pure (wpAny_bind fin))
        | exact wpAny_bind fin
  have run := (hb (wAsK X.K c i ts Wo D) (X.pn ++ pins) xeT takesT PassesOwn.looking).run [] s σ H D (I.toTry _) h
  refine wpAny_mono run ?_ (fun e s1 he => he)
  intro f s1 hsp
  cases f with
  | next =>
    obtain ⟨σ', H', J', q⟩ := hsp
    exact wpAny_execs_nil ⟨σ', H', J'.ofTry ok, q⟩
  | brk =>
    obtain ⟨σ', H', J', q⟩ := hsp
    exact ⟨σ', H', J'.ofTry ok, q⟩
  | cont =>
    obtain ⟨σ', H', J', q⟩ := hsp
    exact ⟨σ', H', J'.ofTry ok, q⟩
  | ret u =>
    obtain ⟨v, σ', H', J', r, q⟩ := hsp
    exact ⟨v, σ', H', J'.ofTry ok, r, q⟩
end

/-! ### isinstance of anything with a class -/
inductive TyZ (K : PySem.W.Frag) (H : Hp) : V → Value → Prop where
  | x {v : V} {t : Value} (h : TyX K H v t) : TyZ K H v t
  | exc {a D : Addr} (C : ExcC K D) (h : H a = some (ExH (.ref D) none a)) : TyZ K H (.ref a) (.ref D)
def rIsZ (K : PySem.W.Frag) : List V → Hp → VK → Prop := fun xs H Q =>
  ∃ (x c : V) (t u : Value) (b : Bool), xs = [x, c] ∧ ClsV c u ∧ TyZ K H x t ∧ PySem.W.kitOne K t u = some b ∧ Q (.bl b) H
theorem call_isZ {X : Cx} : CallR X (.builtin "isinstance") (rIsZ X.K) := by
  intro pins s σ H xs us Q I r h
  obtain ⟨x, c, t, u, b, rfl, k, ty, e, q⟩ := h
  cases ty with
  | x ty => exact call_isi pins s σ H _ us Q I r ⟨x, c, t, u, b, rfl, k, ty, e, q⟩
  | @exc a D C hx =>
    obtain ⟨u1, u2, rfl, r1, r2⟩ := vals2 r
    have e2 := k.eq r2
    subst e2
    cases (show u1 = Value.ref a from r1)
    obtain ⟨⟨oe, vs, hget, hz, hv⟩, _⟩ := I.hok a _ hx
    have J : PySem.W.InstAt s.heap a oe D none := by
      obtain ⟨oc, od, oda, osl⟩ := oe
      obtain ⟨h1, h2⟩ := hz
      dsimp only at h1 h2 hv
      subst h1 h2 hv
      exact ⟨hget, rfl, rfl, trivial⟩
    exact PySem.W.kia_one (PySem.W.handS_kitx_exc C.hg C.hk C.hs C.hd C.ha C.hn C.ht C.hm) I.kIn J e
      (fun z => nomatch z) fun tk => ⟨.bl b, H, I.tok tk, rfl, q⟩

/-! ### a call with keywords that may raise, in a try -/
def tCallNS (n m : Nat) (sp : Sp) (gV : List V → List V → List V) (E : L2.St → XK) (t tk : TA) : TE := fun σ H Q =>
  t σ H fun vs H1 => tk σ H1 fun zs H2 => vs.length = n ∧ zs.length = m ∧ sp (gV vs zs) H2 Q (E σ)
section
variable {X : Cx} {CX : CXT} {k n : Nat} {f : Addr} {fd : FuncData} {ps ks : List Str} {sp : Sp} {E : L2.St → XK} {x : Str} {p pos : Pos} {e : Expr}
  {es : List Expr} {kws : List Keyword} {t tk : TA} {g : List Value → List Value → List Value} {gV : List V → List V → List V}
theorem pe_callNS (F : FnOk X.prog X.w X.K X.mg X.base CX k f fd ps sp) (hr : Room k X.A) (hg : Gl X x) (hm : X.mg x = some (.ref f))
    (hk : PySem.W.keepIn X.K (.ref f) = true) (hb : KBn X.K fd ps n ks g gV) (hx : ∀ σ, PassesAt CX X σ (E σ))
    (ha : PA X (e :: es) t) (hkw : PK X kws tk) (hall : (backToKw pos (keywordEach kws X.env)).all (·.1.isSome) = true := by rfl)
    (hks : (backToKw pos (keywordEach kws X.env)).filterMap (·.1) = ks := by rfl)
    (hdb : (x == ("__debug__" : Str)) = false := by decide)
    (he : starEach (e :: es) X.env = (false, eval e X.env) :: starEach es X.env := by rfl)
    (hpl : ((backTo pos (starEach (e :: es) X.env)).any (·.1) || (backToKw pos (keywordEach kws X.env)).any (·.1.isNone)) = false := by rfl) :
    PE X (.Call (.Name x p) (e :: es) kws pos) (tCallNS n ks.length sp gV E t tk) := by
  refine ⟨fun pins s σ H Q I h => ?_⟩
  apply wpAny_Call_Name_kw
  refine ld_glob I hg hm ?_ hdb
  refine PySem.W.callWith_KW (h₀ := X.base) I.ok.mod.kin hk hall (thn (ha.run pos pins s σ H _ I h) ?_) hpl he
  rintro us s1 ⟨vs, H1, I1, r, q⟩
  refine thn (hkw.run pos pins s1 σ H1 _ I1 q) ?_
  rintro ws s2 ⟨zs, H2, I2, rz, l1, l2, q2⟩
  refine ⟨I2.kIn, ?_⟩
  rw [hks]
  have r2 := hb.rel r rz
  have bt := hb.to s2 us ws I2.kIn (r.length.symm.trans l1) (rz.length.symm.trans l2)
  refine wpAny_call (codeAny_mono (F.run X.A X.stack s2 H2 ⟨us, ks.zip ws⟩ (g us ws) (gV vs zs) Q (E σ) hr I2.env0 bt r2 q2) ?_)
  intro r s' hq
  cases r with
  | error e => exact hx σ pins H2 s2 e s' I2 hq
  | ok fl =>
    cases fl with
    | ret u => exact I2.after hq
    | next => exact False.elim hq
    | brk => exact False.elim hq
    | cont => exact False.elim hq
end
end XA

set_option Elab.async false
set_option linter.all false
set_option maxRecDepth 100000
set_option maxHeartbeats 4000000
/-! XB: a def of the text by its name; the steps of a reading. -/
namespace XA
open PySem PySem.Spec PyProof.Rows L2

abbrev FnP (K : PySem.W.Frag) (x : Str) (st : Stmt) (fd : FuncData) : Prop :=
  FunD K x x (defArgs st) (defBody st) (defScope st) [] [] (He.ga K x) fd
/-- the def called x keeps its promise -/
structure Has (P : Program) (w : World) (K : PySem.W.Frag) (mg : Str → Option Value) (base : Heap) (CX : CXT) (k : Nat) (x : Str) (ps : List Str) (sp : Sp) : Prop where
  fn : ∃ fd, FnOk P w K mg base CX k (He.ga K x) fd ps sp ∧ Binds K fd ps []
  kp : PySem.W.keepIn K (.ref (He.ga K x)) = true
  gl : mg x = some (.ref (He.ga K x))
/-- the same, with keyword-only parameters ks behind n others -/
structure HasK (P : Program) (w : World) (K : PySem.W.Frag) (mg : Str → Option Value) (base : Heap) (CX : CXT) (k : Nat) (x : Str) (ps : List Str) (n : Nat) (ks : List Str) (sp : Sp) : Prop where
  fn : ∃ fd, FnOk P w K mg base CX k (He.ga K x) fd ps sp ∧ KBn K fd ps n ks (fun us ws => us ++ ws) (fun vs zs => vs ++ zs)
  kp : PySem.W.keepIn K (.ref (He.ga K x)) = true
  gl : mg x = some (.ref (He.ga K x))
theorem kbn_of {K : PySem.W.Frag} {fd : FuncData} {ps : List Str} {n : Nat} {ks : List Str}
    (h : ∀ us ws : List Value, us.length = n → ws.length = ks.length → bindArgs fd ⟨us, ks.zip ws⟩ = pure (ps.zip (us ++ ws))) :
    KBn K fd ps n ks (fun us ws => us ++ ws) (fun vs zs => vs ++ zs) :=
  ⟨fun _ us ws _ h1 h2 => BindsTo.of_eq (h us ws h1 h2), fun r1 r2 => r1.append r2⟩
section
variable {X : Cx} {CX : CXT} {k n : Nat} {ps ks : List Str} {sp : Sp} {E : XK} {x : Str} {p pos : Pos} {e : Expr} {es : List Expr} {kws : List Keyword} {t tk : TA}
theorem pe_has (h : Has X.prog X.w X.K X.mg X.base CX k x ps sp) (hr : Room k X.A) (hx : Passes CX X E) (ha : PA X (e :: es) t) (hg : Gl X x := by rfl)
    (hdb : (x == ("__debug__" : Str)) = false := by decide) (he : starEach (e :: es) X.env = (false, eval e X.env) :: starEach es X.env := by rfl)
    (hpl : (backTo pos (starEach es X.env)).any (·.1) = false := by rfl) :
    PE X (.Call (.Name x p) (e :: es) [] pos) (tCall sp [] E t) := by
  obtain ⟨fd, F, b⟩ := h.fn
  exact pe_call F hr hg h.gl h.kp b .nil hx ha hdb he hpl
theorem pe_hasS {E : L2.St → XK} (h : Has X.prog X.w X.K X.mg X.base CX k x ps sp) (hr : Room k X.A) (hx : ∀ σ, PassesAt CX X σ (E σ)) (ha : PA X (e :: es) t) (hg : Gl X x := by rfl)
    (hdb : (x == ("__debug__" : Str)) = false := by decide) (he : starEach (e :: es) X.env = (false, eval e X.env) :: starEach es X.env := by rfl)
    (hpl : (backTo pos (starEach es X.env)).any (·.1) = false := by rfl) :
    PE X (.Call (.Name x p) (e :: es) [] pos) (tCallS sp E t) := by
  obtain ⟨fd, F, b⟩ := h.fn
  exact pe_callS F hr hg h.gl h.kp b hx ha hdb he hpl
theorem pe_hasK (h : HasK X.prog X.w X.K X.mg X.base CX k x ps n ks sp) (hr : Room k X.A) (hx : Passes CX X E) (ha : PA X (e :: es) t) (hkw : PK X kws tk) (hg : Gl X x := by rfl)
    (hall : (backToKw pos (keywordEach kws X.env)).all (·.1.isSome) = true := by rfl)
    (hks : (backToKw pos (keywordEach kws X.env)).filterMap (·.1) = ks := by rfl)
    (hdb : (x == ("__debug__" : Str)) = false := by decide) (he : starEach (e :: es) X.env = (false, eval e X.env) :: starEach es X.env := by rfl)
    (hpl : ((backTo pos (starEach (e :: es) X.env)).any (·.1) || (backToKw pos (keywordEach kws X.env)).any (·.1.isNone)) = false := by rfl) :
    PE X (.Call (.Name x p) (e :: es) kws pos) (tCallN n ks.length sp (fun vs zs => vs ++ zs) E t tk) := by
  obtain ⟨fd, F, b⟩ := h.fn
  exact pe_callN F hr hg h.gl h.kp b hx ha hkw hall hks hdb he hpl
theorem pe_hasKS {E : L2.St → XK} (h : HasK X.prog X.w X.K X.mg X.base CX k x ps n ks sp) (hr : Room k X.A) (hx : ∀ σ, PassesAt CX X σ (E σ)) (ha : PA X (e :: es) t) (hkw : PK X kws tk) (hg : Gl X x := by rfl)
    (hall : (backToKw pos (keywordEach kws X.env)).all (·.1.isSome) = true := by rfl)
    (hks : (backToKw pos (keywordEach kws X.env)).filterMap (·.1) = ks := by rfl)
    (hdb : (x == ("__debug__" : Str)) = false := by decide) (he : starEach (e :: es) X.env = (false, eval e X.env) :: starEach es X.env := by rfl)
    (hpl : ((backTo pos (starEach (e :: es) X.env)).any (·.1) || (backToKw pos (keywordEach kws X.env)).any (·.1.isNone)) = false := by rfl) :
    PE X (.Call (.Name x p) (e :: es) kws pos) (tCallNS n ks.length sp (fun vs zs => vs ++ zs) E t tk) := by
  obtain ⟨fd, F, b⟩ := h.fn
  exact pe_callNS F hr hg h.gl h.kp b hx ha hkw hall hks hdb he hpl
/-- repr of None, a truth -/
def rReprB : List V → Hp → VK → Prop := fun xs H Q => ∃ b : Bool, xs = [.bl b] ∧ Q (.str (if b then "True" else "False")) H
theorem call_reprB : CallR X (.builtin "repr") rReprB := by
  intro pins s σ H xs us Q I r h
  obtain ⟨b, rfl, q⟩ := h
  obtain ⟨u, rfl, ru⟩ := Vals.one r
  obtain rfl : u = Value.bool b := ru
  exact P.repr_of_bool ⟨.str (if b then "True" else "False"), H, I.tok _, ⟨_, rfl⟩, q⟩
end

/-- from a def's datum and its body -/
theorem has_of {P : Program} {w : World} {K : PySem.W.Frag} {mg : Str → Option Value} {base : Heap} {CX : CXT} {k : Nat} {x : Str} {ps : List Str} {sp : Sp} {st : Stmt} {fd : FuncData}
    (F : FnP K x st fd) (G : FnOk P w K mg base CX k (He.ga K x) fd ps sp) (gl : mg x = some (.ref (He.ga K x)))
    (h : ∀ (kV doc pm : Value) (an : Option Addr) (cdv ct : Value) (us : List Value), us.length = ps.length →
      bindArgs (PySem.W.fnOf x x (defArgs st) (defBody st) (defScope st) .none kV doc pm an cdv ct) ⟨us, []⟩ = pure (ps.zip us)) :
    Has P w K mg base CX k x ps sp := ⟨⟨fd, G, F.bindsN h⟩, F.kp, gl⟩
theorem hasK_of {P : Program} {w : World} {K : PySem.W.Frag} {mg : Str → Option Value} {base : Heap} {CX : CXT} {k n : Nat} {x : Str} {ps ks : List Str} {sp : Sp} {st : Stmt} {fd : FuncData}
    (F : FnP K x st fd) (G : FnOk P w K mg base CX k (He.ga K x) fd ps sp) (gl : mg x = some (.ref (He.ga K x)))
    (h : ∀ (kV doc pm : Value) (an : Option Addr) (cdv ct : Value) (us ws : List Value), us.length = n → ws.length = ks.length →
      bindArgs (PySem.W.fnOf x x (defArgs st) (defBody st) (defScope st) .none kV doc pm an cdv ct) ⟨us, ks.zip ws⟩ = pure (ps.zip (us ++ ws))) :
    HasK P w K mg base CX k x ps n ks sp := by
  obtain ⟨oc, od, dV, kV, doc, pm, an, cdv, ct, osl, rfl, lk, hcd, hD, hK⟩ := id F.ex
  rcases hD with ⟨_, rfl⟩ | ⟨e, _⟩
  · exact ⟨⟨_, G, kbn_of (h kV doc pm an cdv ct)⟩, F.kp, gl⟩
  · exact absurd rfl e

/-! ### what is handed about -/
/-- None, a truth, a number, a text, a list, a tuple -/
inductive Pl (H : Hp) : V → Prop where
  | non : Pl H .non
  | bl (b : Bool) : Pl H (.bl b)
  | int (i : Int) : Pl H (.int i)
  | str (x : Str) : Pl H (.str x)
  | lst {a : Addr} {xs : List V} (e : H a = some (.lst xs)) : Pl H (.ref a)
  | tup {a : Addr} {xs : List V} (e : H a = some (.tup xs)) : Pl H (.ref a)
def tyN (H : Hp) : V → String
  | .non => "NoneType"
  | .bl _ => "bool"
  | .int _ => "int"
  | .str _ => "str"
  | .ref a => match H a with
    | some (.tup _) => "tuple"
    | _ => "list"
  | _ => "?"
theorem Pl.ty {K : PySem.W.Frag} {H : Hp} {x : V} (h : Pl H x) : TyZ K H x (.type (tyN H x)) := by
  cases h with
  | non => exact .x (.base .non)
  | bl b => exact .x (.base (.bl b))
  | int i => exact .x (.base (.int i))
  | str s => exact .x (.base (.str s))
  | @lst a xs e =>
    have h1 : tyN H (.ref a) = "list" := by simp only [tyN, e]
    rw [h1]
    exact .x (.base (.lst e))
  | @tup a xs e =>
    have h1 : tyN H (.ref a) = "tuple" := by simp only [tyN, e]
    rw [h1]
    exact .x (.base (.tup e))
theorem tyN_mem {H : Hp} {x : V} (h : Pl H x) : tyN H x = "NoneType" ∨ tyN H x = "bool" ∨ tyN H x = "int" ∨ tyN H x = "str" ∨ tyN H x = "tuple" ∨ tyN H x = "list" := by
  cases h with
  | non => exact Or.inl rfl
  | bl b => exact Or.inr (Or.inl rfl)
  | int i => exact Or.inr (Or.inr (Or.inl rfl))
  | str s => exact Or.inr (Or.inr (Or.inr (Or.inl rfl)))
  | lst e => exact Or.inr (Or.inr (Or.inr (Or.inr (Or.inr (by simp only [tyN, e])))))
  | tup e => exact Or.inr (Or.inr (Or.inr (Or.inr (Or.inl (by simp only [tyN, e])))))
theorem kit_nm {K : PySem.W.Frag} {a b : String} (ha : a = "NoneType" ∨ a = "bool" ∨ a = "int" ∨ a = "str" ∨ a = "tuple" ∨ a = "list")
    (hb : b = "int" ∨ b = "bool" ∨ b = "tuple" ∨ b = "list" ∨ b = "str") :
    PySem.W.kitOne K (.type a) (.type b) = some (decide (a = b) || (decide (a = "bool") && decide (b = "int"))) := by
  apply kit_ty
  rcases ha with rfl | rfl | rfl | rfl | rfl | rfl <;> rcases hb with rfl | rfl | rfl | rfl | rfl <;> decide +kernel
def xInt : V → Bool
  | .int _ => true
  | _ => false
def xBl : V → Bool
  | .bl _ => true
  | _ => false
theorem tyN_int {H : Hp} {x : V} (h : Pl H x) : decide (tyN H x = "int") = xInt x := by
  cases h with
  | lst e => simp [tyN, e, xInt]
  | tup e => simp [tyN, e, xInt]
  | _ => rfl
theorem tyN_bl {H : Hp} {x : V} (h : Pl H x) : decide (tyN H x = "bool") = xBl x := by
  cases h with
  | lst e => simp [tyN, e, xBl]
  | tup e => simp [tyN, e, xBl]
  | _ => rfl
/-- isinstance(x, int), isinstance(x, bool) of such -/
theorem isz_int {K : PySem.W.Frag} {H : Hp} {x : V} {Q : VK} (h : Pl H x) (q : Q (.bl (xInt x || xBl x)) H) : rIsZ K [x, .ty "int"] H Q := by
  refine ⟨x, .ty "int", .type (tyN H x), .type "int", _, rfl, .ty _, h.ty, kit_nm (tyN_mem h) (Or.inl rfl), ?_⟩
  rw [tyN_int h, tyN_bl h]
  simpa using q
theorem isz_bl {K : PySem.W.Frag} {H : Hp} {x : V} {Q : VK} (h : Pl H x) (q : Q (.bl (xBl x)) H) : rIsZ K [x, .ty "bool"] H Q := by
  refine ⟨x, .ty "bool", .type (tyN H x), .type "bool", _, rfl, .ty _, h.ty, kit_nm (tyN_mem h) (Or.inr (Or.inl rfl)), ?_⟩
  rw [tyN_bl h]
  simpa using q
theorem Pl.mono {H H' : Hp} {x : V} (h : Pl H x) (s : Same H H') : Pl H' x := by
  cases h with
  | non => exact .non
  | bl b => exact .bl b
  | int i => exact .int i
  | str x => exact .str x
  | lst e => exact .lst (s _ _ e)
  | tup e => exact .tup (s _ _ e)
theorem same_upd {H : Hp} {p : Addr} {o : HO} (h : H p = none) : Same H (upd H p o) := fun b x e => by
  rw [upd_ne (ne_of_none e h)]
  exact e

end XA

set_option Elab.async false
set_option linter.all false
set_option maxRecDepth 100000
set_option maxHeartbeats 4000000
/-! XC: the pen that draws; loops over enumerate. -/
namespace XA
open PySem PySem.Spec PyProof.Rows L2

theorem for_enumL {K : PySem.W.Frag} {a : Addr} {xs : List V} {g : TG} {tb : TS} {D : Ends} {σ : L2.St} {H : Hp}
    (Pv : Nat → L2.St → Hp → Prop) (h0 : Pv 0 σ H) (hq : ∀ i σ H, Pv i σ H → SqL K H a xs)
    (hs : ∀ (i : Nat) (x : V) (T : Addr) (σ : L2.St) (H : Hp), xs[i]? = some x → Pv i σ H → H T = none →
      g (.ref T) σ (upd H T (.tup [.int (i : Nat), x])) fun σ2 H2 => tb { D with nx := Pv (i + 1), ct := Pv (i + 1), bk := D.nx } σ2 H2)
    (hd : ∀ σ H, Pv xs.length σ H → D.nx σ H) :
    ∃ W : Nat → Nat → L2.St → Hp → Prop, (∃ m, W 0 m σ H) ∧ ∀ i m σ H, W i m σ H →
      ((Ite K a).stop i H ∧ D.nx σ H) ∨ ((Ite K a).go i H ∧ ∃ N : L2.St → Hp → Prop, (∀ σ' H', N σ' H' → ∃ m', m' < m ∧ W (i + 1) m' σ' H') ∧
        ∀ v H', (Ite K a).yld i H v H' → g v σ H' fun σ2 H2 => tb { D with nx := N, ct := N, bk := D.nx } σ2 H2) := by
  refine ⟨fun i m σ H => m = xs.length - i ∧ i ≤ xs.length ∧ Pv i σ H, ⟨xs.length, rfl, Nat.zero_le _, h0⟩, ?_⟩
  rintro i m σ H ⟨rfl, hi, p⟩
  have q := hq i σ H p
  by_cases hlt : i < xs.length
  · have hx : xs[i]? = some xs[i] := List.getElem?_eq_getElem hlt
    refine .inr ⟨⟨xs, _, q, hx⟩, Pv (i + 1), ?_, ?_⟩
    · intro σ' H' p'
      exact ⟨xs.length - (i + 1), by omega, rfl, hlt, p'⟩
    · rintro v H' ⟨T, x, rfl, hT, rfl, f⟩
      exact hs i x T σ H (f xs q) p hT
  · have e : i = xs.length := by omega
    subst e
    exact .inl ⟨⟨xs, q, Nat.le_refl _⟩, hd σ H p⟩

/-- all that was tracked, but at the pen, is as it was -/
def Oth (H H' : Hp) (pen : Addr) : Prop := ∀ b o, b ≠ pen → H b = some o → H' b = some o
theorem Oth.refl (H : Hp) (pen : Addr) : Oth H H pen := fun _ _ _ h => h
theorem Oth.trans {H H1 H2 : Hp} {pen : Addr} (a : Oth H H1 pen) (b : Oth H1 H2 pen) : Oth H H2 pen := fun c o n h => b c o n (a c o n h)
theorem Oth.of_same {H H' : Hp} {pen : Addr} (s : Same H H') : Oth H H' pen := fun b o _ h => s b o h
theorem Oth.new {H : Hp} {pen p : Addr} {o : HO} (h : H p = none) : Oth H (upd H p o) pen := Oth.of_same (same_upd h)
theorem Oth.seq {K : PySem.W.Frag} {H H' : Hp} {pen b : Addr} {xs : List V} (s : Oth H H' pen) (n : b ≠ pen) (h : SqL K H b xs) : SqL K H' b xs := by
  rcases h with (h | ⟨o, h⟩) | h
  · exact .inl (.inl (s _ _ n h))
  · exact .inl (.inr ⟨o, s _ _ n h⟩)
  · exact .inr h
theorem Oth.upd {H H' : Hp} {pen : Addr} {o : HO} (s : Oth H H' pen) : Oth H (L2.upd H' pen o) pen := fun b u n h => by
  rw [upd_ne n]
  exact s b u n h
/-- a pen: its cells, how often it was refilled (at most n), what is left -/
def Pen (H : Hp) (pen : Addr) (n : Int) : Prop := ∃ (c : Addr) (cells : List Int) (a l : Int),
  H pen = some (.lst [.ref c, .int a, .int l]) ∧ H c = some (.lst (cells.map V.int)) ∧ cells.length ≤ 12 ∧ 0 ≤ a ∧ a ≤ n
theorem Pen.mono {H : Hp} {pen : Addr} {n m : Int} (h : Pen H pen n) (e : n ≤ m) : Pen H pen m := by
  obtain ⟨c, cells, a, l, h1, h2, h3, h4, h5⟩ := h
  exact ⟨c, cells, a, l, h1, h2, h3, h4, by omega⟩
theorem pen_ne {H : Hp} {pen c : Addr} {cells : List Int} {a l : Int} (h1 : H pen = some (.lst [.ref c, .int a, .int l]))
    (h2 : H c = some (.lst (cells.map V.int))) : c ≠ pen := by
  rintro rfl
  rw [h1] at h2
  cases cells with
  | nil => simp at h2
  | cons x r => simp at h2
theorem Pen.same {H H' : Hp} {pen : Addr} {n : Int} (h : Pen H pen n) (s : Same H H') : Pen H' pen n := by
  obtain ⟨c, cells, a, l, h1, h2, h3⟩ := h
  exact ⟨c, cells, a, l, s _ _ h1, s _ _ h2, h3⟩
/-- the pen's own numbers are changed -/
theorem pen_put {H H' : Hp} {pen c : Addr} {cells : List Int} {a l a' l' n : Int} (h1 : H pen = some (.lst [.ref c, .int a, .int l]))
    (h2 : H c = some (.lst (cells.map V.int))) (h3 : cells.length ≤ 12) (s : Oth H H' pen) (g1 : 0 ≤ a') (g2 : a' ≤ n) :
    Pen (L2.upd H' pen (.lst [.ref c, .int a', .int l'])) pen n := by
  have ne := pen_ne h1 h2
  exact ⟨c, cells, a', l', upd_same, by rw [upd_ne ne]; exact s _ _ ne h2, h3, g1, g2⟩
theorem cut_take (xs : List V) (n : Nat) : cutV xs none (some (n : Int)) = xs.take n := by
  unfold cutV
  rw [HT.sIx_none, HT.sIx_nat, List.drop_zero, Nat.sub_zero]
  by_cases h : n ≤ xs.length
  · rw [Nat.min_eq_left h]
  · rw [Nat.min_eq_right (by omega), List.take_of_length_le (Nat.le_refl _), List.take_of_length_le (by omega)]
theorem cut_mid (xs : List V) (n m : Nat) : cutV xs (some (n : Int)) (some (m : Int)) = (xs.drop n).take (m - n) := by
  unfold cutV
  rw [HT.sIx_nat, HT.sIx_nat]
  by_cases h : n ≤ xs.length
  · rw [Nat.min_eq_left h]
    by_cases h2 : m ≤ xs.length
    · rw [Nat.min_eq_left h2]
    · rw [Nat.min_eq_right (by omega), List.take_of_length_le (by rw [List.length_drop]; omega), List.take_of_length_le (by rw [List.length_drop]; omega)]
  · have e : xs.drop n = [] := List.drop_eq_nil_of_le (by omega)
    have e2 : xs.drop (min n xs.length) = [] := List.drop_eq_nil_of_le (by omega)
    rw [e, e2, List.take_nil, List.take_nil]
theorem atI_in {α : Type} {xs : List α} {i : Int} (h0 : 0 ≤ i) (h1 : i < xs.length) : ∃ x, x ∈ xs ∧ atI xs i = some x ∧ xs[i.toNat]? = some x := by
  have hj : i.toNat < xs.length := by omega
  refine ⟨xs[i.toNat], List.getElem_mem hj, ?_, List.getElem?_eq_getElem hj⟩
  have e : atI xs ((i.toNat : Nat) : Int) = some xs[i.toNat] := atI_nat (List.getElem?_eq_getElem hj)
  rw [Int.toNat_of_nonneg h0] at e
  exact e
theorem atI_int {ns : List Int} {i : Int} (h0 : 0 ≤ i) (h1 : i < ns.length) : ∃ z, atI (ns.map V.int) i = some (.int z) ∧ ns[i.toNat]? = some z := by
  obtain ⟨x, _, h2, h3⟩ := atI_in (xs := ns.map V.int) h0 (by rw [List.length_map]; exact h1)
  rw [List.getElem?_map] at h3
  cases e : ns[i.toNat]? with
  | none => rw [e] at h3; cases h3
  | some z =>
    rw [e] at h3
    obtain rfl : V.int z = x := Option.some.inj h3
    exact ⟨z, h2, rfl⟩
theorem ixN_in {n : Nat} {i : Int} (h0 : 0 ≤ i) (h1 : i < n) : ixN n i = some i.toNat := by
  unfold ixN
  rw [if_pos h0, if_pos h1]
/-- the primes that spread a cell -/
def spreads : List Int := [2147483629, 2147483587, 2147483579, 2147483563, 2147483549, 2147483543, 2147483497, 2147483489, 2147483477, 2147483423, 2147483399, 2147483353, 2147483323]
theorem spread_at (i : Int) : ∃ v : Int, atI (spreads.map V.int) (i % 13) = some (.int v) ∧ 0 < v ∧ v < 2147483647 := by
  have h : ∀ j : Nat, j < 13 → ∃ v : Int, (spreads.map V.int)[j]? = some (.int v) ∧ 0 < v ∧ v < 2147483647 := by
    intro j hj
    have hl : j < spreads.length := hj
    refine ⟨spreads[j], by rw [List.getElem?_map, List.getElem?_eq_getElem hl] <;> rfl, ?_⟩
    have all : ∀ x ∈ spreads, 0 < x ∧ x < 2147483647 := by decide
    exact all _ (List.getElem_mem hl)
  obtain ⟨v, h1, h2, h3⟩ := h (i % 13).toNat (by omega)
  refine ⟨v, ?_, h2, h3⟩
  have e : i % 13 = (((i % 13).toNat : Nat) : Int) := by omega
  rw [e]
  exact atI_nat h1
theorem mul_in {a b A B : Int} (h1 : 0 ≤ a) (h2 : a ≤ A) (h3 : 0 ≤ b) (h4 : b ≤ B) : 0 ≤ a * b ∧ a * b ≤ A * B :=
  ⟨Int.mul_nonneg h1 h3, Int.mul_le_mul h2 h4 h3 (by omega)⟩
end XA

set_option Elab.async false
set_option linter.all false
set_option maxRecDepth 100000
set_option maxHeartbeats 4000000
/-! XD: data. -/
namespace XA
open PySem PySem.Spec PyProof.Rows L2
theorem dpAll_ints {K : PySem.W.Frag} {H : Hp} : ∀ ns : List Int, DpAll K H (ns.map V.int) (ns.map PyData.int)
  | [] => .nil
  | n :: r => .cons (.int n) (dpAll_ints r)
theorem lay_ints : ∀ ns : List Int, PyData.canLayAll0 (ns.map PyData.int) = true
  | [] => rfl
  | n :: r => by
    rw [List.map_cons]
    simp only [PyData.canLayAll0, PyData.canLay0, lay_ints r, Bool.and_self]
theorem depth_ints : ∀ ns : List Int, PyData.depthAll (ns.map PyData.int) = 0
  | [] => rfl
  | n :: r => by
    rw [List.map_cons]
    simp only [PyData.depthAll, PyData.depth, depth_ints r, Nat.max_self]
theorem shaped_ints (ns : List Int) : SeqAt.shaped (.list (ns.map PyData.int)) = true := by
  unfold SeqAt.shaped
  simp only [PyData.canLay0, PyData.depth, lay_ints, depth_ints]
  decide
theorem eqv_nil (ns : List Int) : PyData.eqv (.list (ns.map PyData.int)) (.list []) = ns.isEmpty := by
  cases ns with
  | nil => rfl
  | cons n r => rfl
/-- what a refused call leaves in a name: an exception of the class called D -/
def isExc (K : PySem.W.Frag) (F : Hp) (v : V) (D : Str) : Prop := ∃ a, v = .ref a ∧ F a = some (ExH (.ref (He.ga K D)) none a)
theorem isz_exc {K : PySem.W.Frag} {F G : Hp} {v : V} {D C : Str} {Q : VK} {b : Bool} (e : ExcC K (He.ga K D)) (h : isExc K F v D) (s : Same F G)
    (k : PySem.W.kitOne K (.ref (He.ga K D)) (.ref (He.ga K C)) = some b) (q : Q (.bl b) G) : rIsZ K [v, .ref (He.ga K C)] G Q := by
  obtain ⟨a, rfl, ha⟩ := h
  exact ⟨.ref a, .ref (He.ga K C), _, _, b, rfl, .own _, .exc e (s _ _ ha), k, q⟩
theorem isz_excT {K : PySem.W.Frag} {F G : Hp} {v : V} {D : Str} {n : String} {Q : VK} {b : Bool} (e : ExcC K (He.ga K D)) (h : isExc K F v D) (s : Same F G)
    (k : PySem.W.kitOne K (.ref (He.ga K D)) (.type n) = some b) (q : Q (.bl b) G) : rIsZ K [v, .ty n] G Q := by
  obtain ⟨a, rfl, ha⟩ := h
  exact ⟨.ref a, .ty n, _, _, b, rfl, .ty _, .exc e (s _ _ ha), k, q⟩
theorem isz_non {K : PySem.W.Frag} {G : Hp} {C : Str} {Q : VK} (k : PySem.W.kitOne K (.type "NoneType") (.ref (He.ga K C)) = some false) (q : Q (.bl false) G) :
    rIsZ K [.non, .ref (He.ga K C)] G Q := ⟨.non, .ref (He.ga K C), _, _, false, rfl, .own _, .x (.base .non), k, q⟩
end XA
namespace XA
open PySem PySem.Spec PyProof.Rows L2
theorem Pl.oth {H H' : Hp} {x : V} {pen : Addr} {n : Int} (h : Pl H x) (o : Oth H H' pen) (P : Pen H' pen n) : Pl H' x := by
  obtain ⟨c, cells, a, l, h1, _⟩ := P
  cases h with
  | non => exact .non
  | bl b => exact .bl b
  | int i => exact .int i
  | str x => exact .str x
  | @lst b xs e =>
    by_cases hb : b = pen
    · subst hb
      exact .lst h1
    · exact .lst (o _ _ hb e)
  | @tup b xs e =>
    by_cases hb : b = pen
    · subst hb
      exact .lst h1
    · exact .tup (o _ _ hb e)
end XA

set_option Elab.async false
set_option linter.all false
set_option maxRecDepth 100000
set_option maxHeartbeats 4000000
/-! XE: data that is handed about: its reading, isinstance, tuples cut, glued, repeated, shown. -/
namespace XA
open PySem PySem.Spec PyProof.Rows L2

/-! ### data; av: an address that no list of it stands at -/
mutual
inductive Da (K : PySem.W.Frag) (H : Hp) (av : Addr) : V → PyData → Prop
  | non : Da K H av .non .none
  | bl (b : Bool) : Da K H av (.bl b) (.bool b)
  | int (i : Int) : Da K H av (.int i) (.int i)
  | str (x : Str) : Da K H av (.str x) (.str x)
  | lst {a : Addr} {xs : List V} {ds : List PyData} : a ≠ av → SqL K H a xs → DaAll K H av xs ds → Da K H av (.ref a) (.list ds)
  | tup {a : Addr} {xs : List V} {ds : List PyData} : SqT K H a xs → DaAll K H av xs ds → Da K H av (.ref a) (.tuple ds)
inductive DaAll (K : PySem.W.Frag) (H : Hp) (av : Addr) : List V → List PyData → Prop
  | nil : DaAll K H av [] []
  | cons {v : V} {vs : List V} {d : PyData} {ds : List PyData} : Da K H av v d → DaAll K H av vs ds → DaAll K H av (v :: vs) (d :: ds)
end
section
variable {K : PySem.W.Frag} {H H' : Hp} {av : Addr}
theorem Same.seqT {a : Addr} {xs : List V} (e : Same H H') (h : SqT K H a xs) : SqT K H' a xs := by
  rcases h with (h | ⟨o, h⟩) | h
  · exact .inl (.inl (e _ _ h))
  · exact .inl (.inr ⟨o, e _ _ h⟩)
  · exact .inr h
theorem Oth.seqT {pen a : Addr} {xs ps : List V} (e : Oth H H' pen) (hp : H pen = some (.lst ps)) (h : SqT K H a xs) : SqT K H' a xs := by
  rcases h with (h | ⟨o, h⟩) | h
  · refine .inl (.inl (e _ _ ?_ h))
    rintro rfl
    rw [hp] at h
    cases h
  · refine .inl (.inr ⟨o, e _ _ ?_ h⟩)
    rintro rfl
    rw [hp] at h
    cases h
  · exact .inr h
mutual
theorem Da.dp : ∀ (d : PyData) (v : V), Da K H av v d → Dp K H v d
  | .none, _, h => by cases h; exact .non
  | .bool b, _, h => by cases h; exact .bl b
  | .int i, _, h => by cases h; exact .int i
  | .str x, _, h => by cases h; exact .str x
  | .list ds, _, h => by
    cases h with
    | lst n hs ha => exact .lst hs (DaAll.dp ds _ ha)
  | .tuple ds, _, h => by
    cases h with
    | tup hs ha => exact .tup hs (DaAll.dp ds _ ha)
  | .dict _, _, h => by cases h
theorem DaAll.dp : ∀ (ds : List PyData) (vs : List V), DaAll K H av vs ds → DpAll K H vs ds
  | [], _, h => by cases h; exact .nil
  | d :: ds, _, h => by
    cases h with
    | cons h1 h2 => exact .cons (Da.dp d _ h1) (DaAll.dp ds _ h2)
end
mutual
theorem Da.move (hl : ∀ a xs, a ≠ av → SqL K H a xs → SqL K H' a xs) (ht : ∀ a xs, SqT K H a xs → SqT K H' a xs) : ∀ (d : PyData) (v : V), Da K H av v d → Da K H' av v d
  | .none, _, h => by cases h; exact .non
  | .bool b, _, h => by cases h; exact .bl b
  | .int i, _, h => by cases h; exact .int i
  | .str x, _, h => by cases h; exact .str x
  | .list ds, _, h => by
    cases h with
    | lst n hs ha => exact .lst n (hl _ _ n hs) (DaAll.move hl ht ds _ ha)
  | .tuple ds, _, h => by
    cases h with
    | tup hs ha => exact .tup (ht _ _ hs) (DaAll.move hl ht ds _ ha)
  | .dict _, _, h => by cases h
theorem DaAll.move (hl : ∀ a xs, a ≠ av → SqL K H a xs → SqL K H' a xs) (ht : ∀ a xs, SqT K H a xs → SqT K H' a xs) : ∀ (ds : List PyData) (vs : List V), DaAll K H av vs ds → DaAll K H' av vs ds
  | [], _, h => by cases h; exact .nil
  | d :: ds, _, h => by
    cases h with
    | cons h1 h2 => exact .cons (Da.move hl ht d _ h1) (DaAll.move hl ht ds _ h2)
end
theorem Da.same {v : V} {d : PyData} (h : Da K H av v d) (s : Same H H') : Da K H' av v d := Da.move (fun _ _ _ q => s.seq q) (fun _ _ q => Same.seqT s q) d v h
theorem DaAll.same {vs : List V} {ds : List PyData} (h : DaAll K H av vs ds) (s : Same H H') : DaAll K H' av vs ds := DaAll.move (fun _ _ _ q => s.seq q) (fun _ _ q => Same.seqT s q) ds vs h
theorem Da.oth {v : V} {d : PyData} {ps : List V} (h : Da K H av v d) (hp : H av = some (.lst ps)) (s : Oth H H' av) : Da K H' av v d := Da.move (fun _ _ n q => s.seq n q) (fun _ _ q => Oth.seqT s hp q) d v h
theorem DaAll.oth {vs : List V} {ds : List PyData} {ps : List V} (h : DaAll K H av vs ds) (hp : H av = some (.lst ps)) (s : Oth H H' av) : DaAll K H' av vs ds := DaAll.move (fun _ _ n q => s.seq n q) (fun _ _ q => Oth.seqT s hp q) ds vs h
theorem DaAll.length : ∀ {vs : List V} {ds : List PyData}, DaAll K H av vs ds → vs.length = ds.length
  | _, _, .nil => rfl
  | _, _, .cons _ t => by rw [List.length_cons, List.length_cons, DaAll.length t]
theorem DaAll.get : ∀ {vs : List V} {ds : List PyData} {i : Nat} {v : V}, DaAll K H av vs ds → vs[i]? = some v → ∃ d, ds[i]? = some d ∧ Da K H av v d
  | _, _, _, _, .nil, e => by simp at e
  | _, _, 0, _, .cons r _, e => by simp at e; subst e; exact ⟨_, rfl, r⟩
  | _, _, i + 1, v, .cons _ t, e => by
    obtain ⟨d, h1, h2⟩ := DaAll.get (i := i) (v := v) t (by simpa using e)
    exact ⟨d, by simpa using h1, h2⟩
theorem DaAll.getD : ∀ {vs : List V} {ds : List PyData} {i : Nat} {d : PyData}, DaAll K H av vs ds → ds[i]? = some d → ∃ v, vs[i]? = some v ∧ Da K H av v d
  | _, _, _, _, .nil, e => by simp at e
  | _, _, 0, _, .cons r _, e => by simp at e; subst e; exact ⟨_, rfl, r⟩
  | _, _, i + 1, d, .cons _ t, e => by
    obtain ⟨v, h1, h2⟩ := DaAll.getD (i := i) (d := d) t (by simpa using e)
    exact ⟨v, by simpa using h1, h2⟩
theorem DaAll.append : ∀ {vs us : List V} {ds es : List PyData}, DaAll K H av vs ds → DaAll K H av us es → DaAll K H av (vs ++ us) (ds ++ es)
  | _, _, _, _, .nil, s => s
  | _, _, _, _, .cons r t, s => .cons r (DaAll.append t s)
theorem DaAll.take : ∀ {vs : List V} {ds : List PyData} (n : Nat), DaAll K H av vs ds → DaAll K H av (vs.take n) (ds.take n)
  | _, _, 0, _ => .nil
  | _, _, _ + 1, .nil => .nil
  | _, _, n + 1, .cons r t => .cons r (DaAll.take n t)
theorem DaAll.drop : ∀ {vs : List V} {ds : List PyData} (n : Nat), DaAll K H av vs ds → DaAll K H av (vs.drop n) (ds.drop n)
  | _, _, 0, r => r
  | _, _, _ + 1, .nil => .nil
  | _, _, n + 1, .cons _ t => DaAll.drop n t
theorem DaAll.ints : ∀ ns : List Int, DaAll K H av (ns.map V.int) (ns.map PyData.int)
  | [] => .nil
  | n :: r => .cons (.int n) (DaAll.ints r)
theorem DaAll.isInts : ∀ {vs : List V} {ns : List Int}, DaAll K H av vs (ns.map PyData.int) → vs = ns.map V.int
  | [], [], _ => rfl
  | _, n :: r, h => by
    rw [List.map_cons] at h
    cases h with
    | cons h1 h2 =>
      cases h1
      rw [DaAll.isInts h2, List.map_cons]
  | _ :: _, [], h => by cases h
theorem Da.isTup {v : V} {ds : List PyData} (h : Da K H av v (.tuple ds)) : ∃ a xs, v = .ref a ∧ SqT K H a xs ∧ DaAll K H av xs ds := by
  cases h with
  | tup hs ha => exact ⟨_, _, rfl, hs, ha⟩
theorem Da.isLst {v : V} {ds : List PyData} (h : Da K H av v (.list ds)) : ∃ a xs, v = .ref a ∧ a ≠ av ∧ SqL K H a xs ∧ DaAll K H av xs ds := by
  cases h with
  | lst n hs ha => exact ⟨_, _, rfl, n, hs, ha⟩
end

/-! ### kinds -/
def tyD : PyData → String
  | .none => "NoneType"
  | .bool _ => "bool"
  | .int _ => "int"
  | .str _ => "str"
  | .list _ => "list"
  | .tuple _ => "tuple"
  | .dict _ => "dict"
theorem Da.ty {K : PySem.W.Frag} {H : Hp} {av : Addr} {v : V} {d : PyData} (h : Da K H av v d) : TyX K H v (.type (tyD d)) := by
  cases h with
  | non => exact .base .non
  | bl b => exact .base (.bl b)
  | int i => exact .base (.int i)
  | str s => exact .base (.str s)
  | lst n hs ha =>
    rcases hs with (e | ⟨o, e⟩) | ⟨o, its, n, k, c, _⟩
    · exact .base (.lst e)
    · exact .base (.frz e)
    · exact .kList k c
  | tup hs ha =>
    rcases hs with (e | ⟨o, e⟩) | ⟨o, its, n, k, c, _⟩
    · exact .base (.tup e)
    · exact .fTuple e
    · exact .kTuple k c
/-- isinstance(d, T) -/
def isD (d : PyData) (T : String) : Bool := decide (tyD d = T) || (decide (tyD d = "bool") && decide (T = "int"))
theorem isz_d {K : PySem.W.Frag} {H : Hp} {av : Addr} {x : V} {d : PyData} {Q : VK} {T : String} (h : Da K H av x d)
    (hT : T = "int" ∨ T = "bool" ∨ T = "tuple" ∨ T = "list" ∨ T = "str") (q : Q (.bl (isD d T)) H) : rIsZ K [x, .ty T] H Q := by
  have hk : PySem.W.kitOne K (.type (tyD d)) (.type T) = some (isD d T) := by
    cases d with
    | dict z => cases h
    | none => exact kit_nm (Or.inl rfl) hT
    | bool z => exact kit_nm (Or.inr (Or.inl rfl)) hT
    | int z => exact kit_nm (Or.inr (Or.inr (Or.inl rfl))) hT
    | str z => exact kit_nm (Or.inr (Or.inr (Or.inr (Or.inl rfl)))) hT
    | tuple z => exact kit_nm (Or.inr (Or.inr (Or.inr (Or.inr (Or.inl rfl))))) hT
    | list z => exact kit_nm (Or.inr (Or.inr (Or.inr (Or.inr (Or.inr rfl))))) hT
  exact ⟨x, .ty T, .type (tyD d), .type T, _, rfl, .ty _, .x h.ty, hk, q⟩
/-- a whole number (no truth) -/
def whole : PyData → Bool
  | .int _ => true
  | _ => false

/-! ### tuples -/
def rCatD (K : PySem.W.Frag) : R2 := fun x y H Q => ∃ a b xs ys, x = .ref a ∧ y = .ref b ∧ SqT K H a xs ∧ SqT K H b ys ∧ xs.length + ys.length ≤ sizeLine ∧
  ∀ p H', Same H H' → SqT K H' p (xs ++ ys) → Q (.ref p) H'
theorem op_catD {X : Cx} : OpR X (binaryOp .Add) (rCatD X.K) := OpR.imp op_catA (by
  rintro x y H Q ⟨a, b, xs, ys, rfl, rfl, ha, hb, hl, q⟩
  refine ⟨a, b, xs, ys, rfl, rfl, ha, hb, hl, ?_, ?_, ?_⟩
  · rintro rfl
    exact q b H (Same.refl H) hb
  · rintro _ rfl
    exact q a H (Same.refl H) (by rw [List.append_nil]; exact ha)
  · intro _ _ p np
    exact q p _ (same_upd np) (.inl (.inl upd_same)))
theorem SlR.imp {X : Cx} {r r' : V → Option Int → Option Int → Hp → VK → Prop} (h : SlR X r) (i : ∀ x l u H Q, r' x l u H Q → r x l u H Q) : SlR X r' :=
  fun pins s σ H x v vl vu lo hi sl Q I rx hs pl pu q => h pins s σ H x v vl vu lo hi sl Q I rx hs pl pu (i _ _ _ _ _ q)
def rSlD (K : PySem.W.Frag) : V → Option Int → Option Int → Hp → VK → Prop := fun x lo hi H Q => ∃ a xs, x = .ref a ∧ SqT K H a xs ∧
  ∀ p H', Same H H' → SqT K H' p (cutV xs lo hi) → Q (.ref p) H'
theorem sl_tupD {X : Cx} : SlR X (rSlD X.K) := SlR.imp sl_tupA (by
  rintro x lo hi H Q ⟨a, xs, rfl, hx, q⟩
  refine ⟨a, xs, rfl, hx, ?_, ?_⟩
  · rintro ⟨h1, h2⟩
    refine q a H (Same.refl H) ?_
    have e : cutV xs lo hi = xs := by
      unfold cutV
      rw [h1, h2, List.drop_zero, Nat.sub_zero, List.take_length]
    rw [e]
    exact hx
  · intro _ p np
    exact q p _ (same_upd np) (.inl (.inl upd_same)))
end XA

set_option Elab.async false
set_option linter.all false
set_option maxRecDepth 100000
set_option maxHeartbeats 4000000
/-! XF: a tuple repeated; what is shown; the law's own def at the caller. -/
namespace XA
open PySem PySem.Spec PyProof.Rows L2
theorem tuple_mul_one (l : Addr) (items : Array Value) (n : Nat) (dd : Option Addr) (sl : Array (Option Value)) (u : Tok) :
    Meets (Builtin.«tuple.__mul__» ⟨[.ref l, .int 1 u], []⟩) (fun _ R s => s.heap.get? l = some { cls := .type "tuple", dict := dd, data := .seq items n, slots := sl } ∧
      R (.ok (.ret (Value.ref l))) s) :=
  .of_wp fun prog w A R s h => by
    obtain ⟨hp, g, d, tk, os⟩ := s
    obtain ⟨hl, h⟩ := h
    have f1 := AutoSeq1.idx_int
    have c1 : (items.isEmpty || (1 : Int) == 1) = true := by simp
    wp_walk using wpAny_loadPart' hl
    repeat (first
      | (refine wpAny_ite_false (decide_eq_false (by decide)) ?_; wp_walk using wpAny_loadPart' hl)
      | (refine wpAny_ite_true (decide_eq_true c1) ?_; wp_walk using wpAny_loadPart' hl))
    exact ⟨_, rfl, h⟩
theorem tuple_mul_zero (l : Addr) (items : Array Value) (n : Nat) (dd : Option Addr) (sl : Array (Option Value)) (u : Tok) (hi : items.isEmpty = false) :
    Meets (Builtin.«tuple.__mul__» ⟨[.ref l, .int 0 u], []⟩) (fun _ R s => s.heap.get? l = some { cls := .type "tuple", dict := dd, data := .seq items n, slots := sl } ∧
      R (.ok (.ret (Value.ref s.heap.objs.size))) { s with heap := s.heap.push { cls := Value.type "tuple", data := Data.seq #[] }, toks := s.toks }) :=
  .of_wp fun prog w A R s h => by
    obtain ⟨hp, g, d, tk, os⟩ := s
    obtain ⟨hl, h⟩ := h
    have f1 := AutoSeq1.idx_int
    have c1 : (items.isEmpty || (0 : Int) == 1) = false := by rw [hi]; rfl
    have c2 : (decide ((0 : Int) ≤ 0) || items.isEmpty) = true := by simp
    wp_walk using wpAny_loadPart' hl
    repeat (first
      | (refine wpAny_ite_false (decide_eq_false (by rw [c1]; exact Bool.false_ne_true)) ?_; wp_walk using wpAny_loadPart' hl)
      | (refine wpAny_ite_false (decide_eq_false (by decide)) ?_; wp_walk using wpAny_loadPart' hl)
      | (refine wpAny_ite_true (decide_eq_true c2) ?_; wp_walk using wpAny_loadPart' hl))
    exact ⟨_, rfl, h⟩
/-- a tuple (not empty) so often: k from 0 on -/
def rRepD (K : PySem.W.Frag) : R2 := fun x y H Q => ∃ l k xs, x = .ref l ∧ y = .int k ∧ SqT K H l xs ∧ xs ≠ [] ∧ 0 ≤ k ∧ (xs.length : Int) * k ≤ 1000000 ∧
  ∀ p H', Same H H' → SqT K H' p (List.replicate k.toNat xs).flatten → Q (.ref p) H'
theorem op_repD {X : Cx} : OpR X (binaryOp .Mult) (rRepD X.K) := by
  intro pins s σ H x y v u Q I rx ry h
  obtain ⟨l, k, xs, rfl, rfl, hT, hne, h0, hmul, q⟩ := h
  cases rx
  obtain ⟨t, rfl⟩ := ry
  obtain ⟨its, r, ⟨⟨cls, dd, data, sl⟩, ho, hc, n, hd⟩, hs⟩ := I.tuple hT
  simp only at hc hd
  subst hc hd
  have hle : its.length = xs.length := r.length.symm
  have hi : its.toArray.isEmpty = false := by
    cases its with
    | nil => exact absurd (List.eq_nil_of_length_eq_zero hle.symm) hne
    | cons a b => rfl
  have hpos : 1 ≤ xs.length := by
    cases xs with
    | nil => exact absurd rfl hne
    | cons a b => rw [List.length_cons]; omega
  have hk : k ≤ 1000000 := by
    have z : 1 * k ≤ (xs.length : Int) * k := Int.mul_le_mul_of_nonneg_right (by omega) h0
    omega
  have hsz0 : its.toArray.size = xs.length := by rw [List.size_toArray, hle]
  refine wpAny_binaryOp_repeat_ref (T := "tuple") (U := "int") (by decide) ⟨_, ho, rfl⟩ (fun s' => typeIs_int s' k t) noFill_tuple_mul F.fills_int_mul F.slot_int_rmul repeat_tuple F.slot_int_index.lookup
    (call_meets F.slot_int_rmul (typeIs_int s k t) F.entry_int_rmul (F.args_int_rmul_2 _ _) (int_rmul_tuple k t l its.toArray n dd sl) ⟨ho, rfl, ⟨_, ho, rfl⟩, ?_⟩)
  by_cases k0 : k = 0
  · subst k0
    refine call_meets F.slot_tuple_mul ⟨_, ho, rfl⟩ F.entry_tuple_mul (F.args_tuple_mul_2 _ _) (tuple_mul_zero l its.toArray n dd sl t hi) ⟨ho, ?_⟩
    have new := I.hok.fresh (Nat.le_refl s.heap.objs.size)
    refine ⟨.ref s.heap.objs.size, _, I.laid (t' := s.toks) (o := .tup []) (fun b ob q => Heap.get?_push_of_some _ q) (Nat.le_refl _) ?_, rfl, q _ _ (same_upd new) (.inl (.inl upd_same))⟩
    exact ⟨Nat.zero_le _, [], .nil, IsTup.new _ _⟩
  by_cases k1 : k = 1
  · subst k1
    refine call_meets F.slot_tuple_mul ⟨_, ho, rfl⟩ F.entry_tuple_mul (F.args_tuple_mul_2 _ _) (tuple_mul_one l its.toArray n dd sl t) ⟨ho, ?_⟩
    refine ⟨.ref l, H, I, rfl, q _ _ (Same.refl H) ?_⟩
    have e : (List.replicate (1 : Int).toNat xs).flatten = xs := by simp
    rw [e]
    exact hT
  have flen : (List.replicate k.toNat its).flatten.length ≤ sizeLine := by
    rw [PyProof.Rows.lm_len_rep_flat, hle, sizeLine_eq]
    have e : ((k.toNat * xs.length : Nat) : Int) = (xs.length : Int) * k := by
      rw [Int.natCast_mul, Int.toNat_of_nonneg h0, Int.mul_comm]
    omega
  have c0 : (decide (k < -(2 ^ 63)) || decide (k ≥ 2 ^ 63)) = false := by
    rw [decide_eq_false (by omega), decide_eq_false (by omega)] <;> rfl
  have c1 : (its.toArray.isEmpty || k == 1) = false := by
    rw [hi, Bool.false_or]
    exact beq_eq_false_iff_ne.mpr k1
  have c2 : (decide (k ≤ 0) || its.toArray.isEmpty) = false := by
    rw [hi, Bool.or_false]
    exact decide_eq_false (by omega)
  have c4 : Builtin.Tuple.tupleTooMany (((its.toArray.size : Nat) : Int) * k) = false := by
    unfold Builtin.Tuple.tupleTooMany
    rw [sizeLine_eq, hsz0]
    exact decide_eq_false (by omega)
  have c3 : ¬ ((its.toArray.size : Nat) : Int) * k > (2 ^ 63 - 1) / 8 := by
    rw [hsz0]
    omega
  refine call_meets F.slot_tuple_mul ⟨_, ho, rfl⟩ F.entry_tuple_mul (F.args_tuple_mul_2 _ _) (tuple_mulW l its.toArray n dd sl k t c0 c1 c2 c3 c4 (by rw [size_rep, List.size_toArray]; exact flen)) ⟨ho, ?_⟩
  rw [size_rep]
  have new := I.hok.fresh (Nat.le_refl s.heap.objs.size)
  refine ⟨.ref s.heap.objs.size, _, I.laid (t' := s.toks) (o := .tup (List.replicate k.toNat xs).flatten) (fun b ob q => Heap.get?_push_of_some _ q) (Nat.le_refl _) ?_, rfl, q _ _ (same_upd new) (.inl (.inl upd_same))⟩
  refine ⟨?_, _, r.rep k.toNat, IsTup.new _ _⟩
  rw [PyProof.Rows.lm_len_rep_flat] at flen ⊢
  rw [← hle]
  exact flen

/-! ### what is shown -/
def rReprD (K : PySem.W.Frag) : List V → Hp → VK → Prop := fun xs H Q => ∃ (x : V) (d : PyData), xs = [x] ∧ Dp K H x d ∧ d.showable = true ∧ d.hasDict = false ∧ d.depth ≤ 100 ∧ d.shown.length ≤ sizeLine ∧ Q (.str d.shown) H
theorem call_reprD {X : Cx} (hg : X.A.guards = some []) (hu : X.A.units + 150 < cLine) : CallR X (.builtin "repr") (rReprD X.K) := by
  intro pins s σ H xs us Q I r h
  obtain ⟨x, d, rfl, hd, h1, h2, h3, h4, q⟩ := h
  obtain ⟨u, rfl, ru⟩ := Vals.one r
  cases hd with
  | non =>
    obtain rfl : u = Value.none := ru
    exact P.repr_of_none ⟨.str "None", H, I.tok _, ⟨_, rfl⟩, q⟩
  | bl b =>
    obtain rfl : u = Value.bool b := ru
    exact P.repr_of_bool ⟨.str (if b then "True" else "False"), H, I.tok _, ⟨_, rfl⟩, q⟩
  | int i =>
    obtain ⟨t, rfl⟩ := ru
    exact P.repr_of_int (of_decide_eq_true h1) ⟨.str (toString i), H, I.tok _, ⟨_, rfl⟩, q⟩
  | str z =>
    obtain ⟨t, rfl⟩ := ru
    exact P.repr_of_str ⟨.str (reprText z), H, I.tok _, ⟨_, rfl⟩, q⟩ h4
  | @lst a ys ds hs ha =>
    obtain ⟨as, rd⟩ := Dp.reads I _ _ _ (.lst hs ha) ru
    obtain rfl : u = Value.ref a := ru
    refine repr_of_reads' rd h1 (PyData.noDict_hsm h2) hg (by omega) (fun b o e => e) (fun h' t tk hk => ?_) h4
    exact ⟨.str _, H, I.kept hk, ⟨_, rfl⟩, q⟩
  | @tup a ys ds hs ha =>
    obtain ⟨as, rd⟩ := Dp.reads I _ _ _ (.tup hs ha) ru
    obtain rfl : u = Value.ref a := ru
    refine repr_of_reads' rd h1 (PyData.noDict_hsm h2) hg (by omega) (fun b o e => e) (fun h' t tk hk => ?_) h4
    exact ⟨.str _, H, I.kept hk, ⟨_, rfl⟩, q⟩
end XA

set_option Elab.async false
set_option linter.all false
set_option maxRecDepth 100000
set_option maxHeartbeats 4000000
/-! XG: the law's own def, walked at the caller itself (nothing is being shown there). -/
namespace XA
open PySem PySem.Spec PyProof.Rows L2

/-- the def at f keeps its promise where it is called at A -/
def FnAt (P : Program) (w : World) (K : PySem.W.Frag) (mg : Str → Option Value) (base : Heap) (CX : CXT) (A : Around) (f : Addr) (fd : FuncData) (ps : List Str) (sp : Sp) : Prop :=
  ∀ (outer : List Env) (s : Shared) (H : Hp) (us : List Value) (vs : List V) (Q : VK) (E : XK), Env0 P w K mg base A outer s H →
    BindsTo s fd ⟨us, []⟩ (ps.zip us) → Vals vs us → sp vs H Q E → codeAny (model P w) A (.call (.ref f) ⟨us, []⟩) (CR CX outer P w H s Q E) s
theorem fnAt_of {P : Program} {w : World} {K : PySem.W.Frag} {mg : Str → Option Value} {base : Heap} {CX : CXT} {A : Around} {k : Nat} {x : Str} {N ps : List Str} {sp : Sp} {st : Stmt} {fd : FuncData}
    (F : FnP K x st fd) (S : FnScope N ps (defScope st)) (len : ∀ vs H Q E, sp vs H Q E → vs.length = ps.length) (hr : Room (k + 1) A)
    (body : ∀ (cdv : Value) (outer : List Env) (s : Shared) (H : Hp) (vs : List V) (Q : VK) (E : XK), Room k (A.deeper (envOfC x (defScope st) s.heap.objs.size (He.ga K x) cdv)) → sp vs H Q E →
      ∃ t, PSs (cxOf CX P w K mg base N x (defScope st) (He.ga K x) cdv A outer s H E) (defBody st) t ∧ t { nx := fun _ H' => Q .non H', rt := Q } (start N vs) H) :
    FnAt P w K mg base CX A (He.ga K x) fd ps sp := by
  obtain ⟨oc, od, dV, kV, doc, pm, an, cdv, ct, osl, rfl, lk, hcd, _, _⟩ := F.ex
  intro outer s H us vs Q E e0 hb r hsp
  have hl := len _ _ _ _ hsp
  have KX : K.In s.heap := by
    apply e0.mod.kin.keeps
    intro b o e
    exact (e0.bs b o e).1
  have lim : s.heap.NoLimit := by
    apply e0.mod.nolimit.keeps
    intro b o e
    exact (e0.bs b o e).1
  have kinds : ∀ y ∈ ps.zip us, (defScope st).names.lookup y.1 = some .local ∨
      ((defScope st).names.lookup y.1 = some .cell ∧ ((cellsFrom (s.heap.objs.size + 1) (defScope st).names []).lookup y.1).isSome = true) := by
    rintro ⟨n, v⟩ hy
    rcases S.par n (List.of_mem_zip hy).1 with q | q
    · exact Or.inl q
    · exact Or.inr ⟨q, PySem.W.cellsFrom_some _ _ _ (.inl q)⟩
  refine codeAny_call_function hr.depth (KX _ _ lk) rfl S.co S.gen rfl (PySem.W.codeRec_of KX hcd) (hb _ _ _ _ ?_)
  apply wpAny_newFunctionEnv_cells S.kind kinds
  intro env he s1 z
  subst he
  refine ⟨lim.keeps z.toInCall.keep, codeAny_func ?_⟩
  obtain ⟨t, ht, hq⟩ := body cdv outer s H vs Q E (hr.deeper _) hsp
  have I := inv_start (CX := CX) (E := E) S hr.hd e0 hl r z
  have run := ht.run [] s1 (start N vs) H _ I hq
  refine wpAny_mono run ?_ (fun e s' hs => hs)
  intro fl s' hs
  cases fl with
  | ret u =>
    obtain ⟨v, σ', H', J, rv, q⟩ := hs
    exact ⟨v, H', J.os, J.bare, J.base, J.hok, rv, q⟩
  | next =>
    obtain ⟨σ', H', J, q⟩ := hs
    exact ⟨.non, H', J.os, J.bare, J.base, J.hok, rfl, q⟩
  | brk =>
    obtain ⟨_, _, _, q⟩ := hs
    exact q.elim
  | cont =>
    obtain ⟨_, _, _, q⟩ := hs
    exact q.elim

theorem law_at {P : Program} {w : World} {K : PySem.W.Frag} {mg mb : Str → Option Value} {fa a : Addr} {fd : FuncData} {x : Str} {sp : Sp} {s₁ : Shared} {vs : List Value} {ns : List Int}
    (KX : K.In s₁.heap) (hns : s₁.heap.Ns mainGlobals mg) (hb : s₁.heap.Ns builtinsNs mb) (hbb : ∀ x : Str, x ≠ "__name__" → mb x = bootBuiltins x) (hlim : s₁.heap.NoLimit) (hg : s₁.gens = #[])
    (ha : s₁.heap.get? a = some { cls := .type "list", data := .seq vs.toArray }) (hi : IntsAre vs ns) (hl : ns.length ≤ sizeLine)
    (F : ∀ base : Heap, K.In base → base.Ns mainGlobals mg → FnAt P w K mg base CX0 callerA fa fd [x] sp) (bind : ∀ (s : Shared) (u : Value), BindsTo s fd ⟨[u], []⟩ [(x, u)])
    (hsp : ∀ H : Hp, Only H → SqL K H a (ns.map V.int) → sp [.ref a] H (fun v _ => v = .bl true) fun _ _ _ => False) :
    codeAny (model P w) callerA (.call (.ref fa) ⟨[.ref a], []⟩) (fun r s' => r = .ok (.ret (.bool true)) ∧ OldK s₁.heap s'.heap ∧ s'.os = s₁.os ∧ AllBare s'.gens) s₁ := by
  have rv := vals_ints hi
  have lenV := hi.length
  have core : ∀ H : Hp, Only H → SqL K H a (ns.map V.int) → HOk P w H s₁.heap → (∀ b, H b ≠ none → b = a) → (H a ≠ none → K.lookup a = none) →
      codeAny (model P w) callerA (.call (.ref fa) ⟨[.ref a], []⟩) (fun r s' => r = .ok (.ret (.bool true)) ∧ OldK s₁.heap s'.heap ∧ s'.os = s₁.os ∧ AllBare s'.gens) s₁ := by
    intro H only hS hok onlyA notK
    have dictFree : ∀ {b : Addr} {o : Obj} {es : Array DictEntry} {ep : Nat}, s₁.heap.get? b = some o → o.data = .dict es ep → H b = none := by
      intro b o es ep e d
      cases q : H b with
      | none => rfl
      | some u =>
        exfalso
        obtain rfl : b = a := onlyA b (by rw [q]; simp)
        rw [ha] at e
        cases e
        exact nomatch (show Data.seq vs.toArray _ = Data.dict es ep from d)
    have toBase : ∀ {b : Addr} {m : Str → Option Value}, s₁.heap.Ns b m → (hidT s₁.heap H).Ns b m := by
      rintro b m ⟨o, es, ep, e, d, r⟩
      exact ⟨o, es, ep, hidT_get e (dictFree e d), d, r⟩
    have kBase : K.In (hidT s₁.heap H) := by
      intro b o e
      apply hidT_get (KX b o e)
      cases q : H b with
      | none => rfl
      | some u =>
        exfalso
        obtain rfl : b = a := onlyA b (by rw [q]; simp)
        rw [notK (by rw [q]; simp)] at e
        cases e
    have modB : Mod K mg (hidT s₁.heap H) := by
      refine ⟨kBase, toBase hns, ⟨mb, toBase hb, hbb⟩, ?_⟩
      obtain ⟨mc, h1, h2⟩ := hlim
      exact ⟨mc, toBase h1, h2⟩
    have e0 : Env0 P w K mg (hidT s₁.heap H) callerA [] s₁ H := by
      refine ⟨rfl, modB, fun b o e => of_hidT e, Nat.le_of_eq (hidT_size _ _), trivial, ?_, hok, .of_eq hg⟩
      intro b hb
      exact absurd (show b ∈ ([] : List Addr) from hb) (by simp)
    refine codeAny_mono (F _ kBase (toBase hns) [] s₁ H [.ref a] [.ref a] _ _ e0 (bind s₁ (.ref a)) (.cons rfl .nil) (hsp H only hS)) ?_
    intro r s' h
    cases r with
    | error e => exact h.elim
    | ok fl =>
      cases fl with
      | next => exact h.elim
      | brk => exact h.elim
      | cont => exact h.elim
      | ret u =>
        obtain ⟨v, H', os, bare, un, hok', r', q⟩ := h
        obtain rfl : v = .bl true := q
        obtain rfl : u = Value.bool true := r'
        refine ⟨rfl, OldK.of_keep ?_, os, bare⟩
        intro b o e
        cases q : H b with
        | none => exact un.keep b o e q (fun z => by simp [frs] at z) (by simp)
        | some u =>
          rcases only b with z | ⟨ob, xs, z⟩
          · rw [q] at z
            cases z
          · obtain ⟨e1, _⟩ := hok b _ z
            obtain ⟨e2, _⟩ := hok' b _ (un.frzs b ob _ z)
            rw [e] at e1
            cases e1
            exact e2
  cases hk : K.lookup a with
  | some o =>
    have e := KX a o hk
    rw [ha] at e
    cases e
    apply core (fun _ => none) (fun _ => Or.inl rfl)
    · exact .inr ⟨_, vs.toArray, _, hk, rfl, rfl, rfl, by rw [List.size_toArray, lenV]; exact hl, by simpa using rv⟩
    · intro b u z
      exact nomatch (show (none : Option HO) = some u from z)
    · intro b z
      exact absurd rfl z
    · intro z
      exact absurd rfl z
  | none =>
    let o1 : Obj := { cls := .type "list", data := .seq vs.toArray }
    let H1 : Hp := upd (fun _ => none) a (.frz o1 (.lst (ns.map V.int)))
    have at1 : H1 a = some (.frz o1 (.lst (ns.map V.int))) := upd_same
    have off1 : ∀ b, b ≠ a → H1 b = none := fun b n => upd_ne n
    apply core H1
    · intro b
      by_cases n : b = a
      · rw [n]
        exact Or.inr ⟨_, _, at1⟩
      · exact Or.inl (off1 b n)
    · exact .inl (.inr ⟨o1, at1⟩)
    · intro b u z
      by_cases n : b = a
      · rw [n] at z ⊢
        rw [at1] at z
        cases z
        exact ⟨ha, by rw [List.length_map]; exact hl, vs, _, rv, ha⟩
      · rw [off1 b n] at z
        cases z
    · intro b z
      by_cases n : b = a
      · exact n
      · exact absurd (off1 b n) z
    · intro _
      exact hk

theorem walk_at {l : PySem.W.OpenLaw} {n : Nat} {q : Program} {loose : List Str} {XP : (Str → Option Value) → Heap → Prop} {YP : World → Heap → Prop} {d : DefRec} {x : Str}
    (hn : l.most = some n) (hn2 : n ≤ sizeLine) (hdf : d.params.defaults = [])
    (F : ∀ (w : World) (mg : Str → Option Value) (fa : Addr) (h : Heap), YP w h → h.Ns mainGlobals mg → mg d.name = some (.ref fa) →
      ∃ (K : PySem.W.Frag) (fd : FuncData) (sp : Sp), K.In h ∧ (∀ (s : Shared) (u : Value), BindsTo s fd ⟨[u], []⟩ [(x, u)]) ∧
        (∀ (H : Hp) (a : Addr) (ns : List Int), ns.length ≤ n → Only H → SqL K H a (ns.map V.int) → sp [.ref a] H (fun v _ => v = .bl true) fun _ _ _ => False) ∧
        ∀ base : Heap, K.In base → base.Ns mainGlobals mg → FnAt l.prog w K mg base CX0 callerA fa fd [x] sp) :
    PySem.W.WalkO q loose XP YP l.row.toRowW d [] (fun f vs => PySem.call f vs) := by
  apply Att.attach_call hn hdf
  intro w s₀ s₁ mg mb fa o pm cd doc a vs ns G Y ho hd hcd hmg hobj hints hlen hg
  obtain ⟨K, fd, sp, KX, hb, hsp, hF⟩ := F w mg fa _ Y G.T.g hmg
  exact law_at KX G.T.g G.T.b G.T.builtins G.T.nolimit hg hobj hints (Nat.le_trans hlen hn2) hF hb (fun H hO hS => hsp H a ns hlen hO hS)
end XA

set_option Elab.async false
set_option linter.all false
set_option maxRecDepth 100000
set_option maxHeartbeats 4000000
/-! XH: matrices as data; comprehensions that gather. -/
namespace XA
open PySem PySem.Spec PyProof.Rows L2

/-! ### numbers -/
def primeN (n : Int) : Bool := decide (2 ≤ n ∧ n ≤ 97) && ((List.range (n - 2).toNat).map fun (i : Nat) => n % (2 + (i : Int))).all (fun r => r != 0)
def primeD : PyData → Bool
  | .int n => primeN n
  | _ => false
def wholeTo : PyData → Int → Bool
  | .int i, m => decide (0 ≤ i ∧ i ≤ m)
  | _, _ => false
theorem primeN_out {n : Int} (h : ¬ (2 ≤ n ∧ n ≤ 97)) : primeN n = false := by
  unfold primeN
  rw [decide_eq_false h, Bool.false_and]
theorem primeN_in {p : Int} (h : primeN p = true) : 2 ≤ p ∧ p ≤ 97 := of_decide_eq_true (Bool.and_eq_true_iff.mp h).1
/-! ### matrices -/
def rowD (row : List Int) : PyData := .tuple (row.map .int)
def matD (r c : Int) (rows : List (List Int)) : PyData := .tuple [.int r, .int c, .tuple (rows.map rowD)]
def isRowD : PyData → Int → Int → Bool
  | .tuple ds, c, p => decide ((ds.length : Int) = c) && ds.all (fun x => wholeTo x (p - 1))
  | _, _, _ => false
def isMatD : PyData → Int → Bool
  | .tuple [r, c, .tuple rows], p => match r, c with
    | .int i, .int j => decide (0 ≤ i ∧ i ≤ 2000) && (decide (0 ≤ j ∧ j ≤ 2000) && (decide ((rows.length : Int) = i) && rows.all (fun row => isRowD row j p)))
    | _, _ => false
  | _, _ => false
theorem len3 {α : Type} : ∀ {xs : List α}, xs.length = 3 → ∃ a b c, xs = [a, b, c]
  | [a, b, c], _ => ⟨a, b, c, rfl⟩
  | [], h => by simp at h
  | [_], h => by simp at h
  | [_, _], h => by simp at h
  | _ :: _ :: _ :: _ :: _, h => by simp at h
theorem isMatD_len {ds : List PyData} (p : Int) (h : ds.length ≠ 3) : isMatD (.tuple ds) p = false := by
  unfold isMatD
  split
  · rename_i e
    injection e with e
    rw [e] at h
    exact absurd rfl h
  · rfl
def onesR (m : Nat) : List (List Int) := (List.range m).map fun row => (List.range m).map fun k => if k = row then 1 else 0
def noughtsR (r c : Nat) : List (List Int) := List.replicate r (List.replicate c 0)
/-! ### comprehensions that gather -/
theorem acc_step {H1 F H4 : Hp} {D : Addr} {l : List V} {y : V} {P : Hp → Prop} (nD : H1 D = none) (s : Same H1 F) (hF : F D = some (.lst l)) (s4 : Same F H4) (len : l.length < 10000)
    (h : ∀ G, Same H1 G → G D = some (.lst (l ++ [y])) → P G) : ∃ acc, H4 D = some (.lst acc) ∧ acc.length < sizeLine ∧ P (upd H4 D (.lst (acc ++ [y]))) := by
  refine ⟨l, s4 _ _ hF, Nat.lt_of_lt_of_le len (by decide), h _ ?_ upd_same⟩
  intro b o e
  rw [upd_ne (ne_of_none e nD)]
  exact s4 _ _ (s _ _ e)
/-! ### data without lists -/
mutual
def noL : PyData → Bool
  | .list _ => false
  | .tuple ds => noLs ds
  | .dict _ => false
  | _ => true
def noLs : List PyData → Bool
  | [] => true
  | d :: ds => noL d && noLs ds
end
section
variable {K : PySem.W.Frag} {H : Hp} {av av' : Addr}
mutual
theorem Da.any : ∀ (d : PyData) (v : V), noL d = true → Da K H av v d → Da K H av' v d
  | .none, _, _, h => by cases h; exact .non
  | .bool b, _, _, h => by cases h; exact .bl b
  | .int i, _, _, h => by cases h; exact .int i
  | .str x, _, _, h => by cases h; exact .str x
  | .list ds, _, n, h => by simp [noL] at n
  | .tuple ds, _, n, h => by
    cases h with
    | tup hs ha => exact .tup hs (DaAll.any ds _ (by simpa [noL] using n) ha)
  | .dict _, _, n, h => by cases h
theorem DaAll.any : ∀ (ds : List PyData) (vs : List V), noLs ds = true → DaAll K H av vs ds → DaAll K H av' vs ds
  | [], _, _, h => by cases h; exact .nil
  | d :: ds, _, n, h => by
    cases h with
    | cons h1 h2 =>
      simp only [noLs, Bool.and_eq_true] at n
      exact .cons (Da.any d _ n.1 h1) (DaAll.any ds _ n.2 h2)
end
end
theorem noLs_ints : ∀ ns : List Int, noLs (ns.map PyData.int) = true
  | [] => rfl
  | n :: r => by
    rw [List.map_cons]
    simp only [noLs, noL, noLs_ints r, Bool.and_self]
theorem noLs_rows : ∀ rows : List (List Int), noLs (rows.map rowD) = true
  | [] => rfl
  | r :: rs => by
    rw [List.map_cons]
    simp only [noLs, rowD, noL, noLs_ints r, noLs_rows rs, Bool.and_self]
theorem noL_mat (r c : Int) (rows : List (List Int)) : noL (matD r c rows) = true := by
  simp only [matD, noL, noLs, noLs_rows, Bool.and_self]
/-- a list at D grows; what is known of data that holds no list at D stays -/
theorem DaAll.grow {K : PySem.W.Frag} {G : Hp} {D : Addr} {vs : List V} {ds : List PyData} {o : HO} {ps : List V} (h : DaAll K G D vs ds) (hD : G D = some (.lst ps)) : DaAll K (L2.upd G D o) D vs ds :=
  h.oth hD fun b u nb e => by rw [upd_ne nb]; exact e
theorem Da.grow {K : PySem.W.Frag} {G : Hp} {D : Addr} {v : V} {d : PyData} {o : HO} {ps : List V} (h : Da K G D v d) (hD : G D = some (.lst ps)) : Da K (L2.upd G D o) D v d :=
  h.oth hD fun b u nb e => by rw [upd_ne nb]; exact e
theorem Da.newT {K : PySem.W.Frag} {G : Hp} {av p : Addr} {vs : List V} {ds : List PyData} (h : DaAll K G av vs ds) (np : G p = none) : Da K (L2.upd G p (.tup vs)) av (.ref p) (.tuple ds) :=
  .tup (.inl (.inl upd_same)) (h.same (same_upd np))
theorem DaAll.rep {K : PySem.W.Frag} {H : Hp} {av : Addr} {v : V} {d : PyData} (h : Da K H av v d) : ∀ n : Nat, DaAll K H av (List.replicate n v) (List.replicate n d)
  | 0 => .nil
  | n + 1 => by
    rw [List.replicate_succ, List.replicate_succ]
    exact .cons h (DaAll.rep h n)
theorem acc_same {H1 F H4 : Hp} {D : Addr} {o : HO} (nD : H1 D = none) (s : Same H1 F) (s4 : Same F H4) : Same H1 (L2.upd H4 D o) := by
  intro b u e
  rw [upd_ne (ne_of_none e nD)]
  exact s4 _ _ (s _ _ e)
theorem lt10 {n : Nat} (h : n < 10000) : n < sizeLine := Nat.lt_of_lt_of_le h (by decide)
/-- a pen whose cells are the list at c -/
def PenC (H : Hp) (pen c : Addr) (n : Int) : Prop := ∃ (cells : List Int) (a l : Int),
  H pen = some (.lst [.ref c, .int a, .int l]) ∧ H c = some (.lst (cells.map V.int)) ∧ cells.length ≤ 12 ∧ 0 ≤ a ∧ a ≤ n
theorem PenC.mono {H : Hp} {pen c : Addr} {n m : Int} (h : PenC H pen c n) (e : n ≤ m) : PenC H pen c m := by
  obtain ⟨cells, a, l, h1, h2, h3, h4, h5⟩ := h
  exact ⟨cells, a, l, h1, h2, h3, h4, by omega⟩
theorem PenC.ne {H : Hp} {pen c : Addr} {n : Int} (h : PenC H pen c n) : c ≠ pen := by
  obtain ⟨cells, a, l, h1, h2, _⟩ := h
  exact pen_ne h1 h2
theorem PenC.same {H H' : Hp} {pen c : Addr} {n : Int} (h : PenC H pen c n) (s : Same H H') : PenC H' pen c n := by
  obtain ⟨cells, a, l, h1, h2, h3⟩ := h
  exact ⟨cells, a, l, s _ _ h1, s _ _ h2, h3⟩
theorem PenC.lst {H : Hp} {pen c : Addr} {n : Int} (h : PenC H pen c n) : ∃ ps, H pen = some (.lst ps) := by
  obtain ⟨cells, a, l, h1, _⟩ := h
  exact ⟨_, h1⟩
/-- a new object is laid, or one changed that is neither -/
theorem PenC.upd {H : Hp} {pen c p : Addr} {n : Int} {o : HO} (h : PenC H pen c n) (h1 : p ≠ pen) (h2 : p ≠ c) : PenC (L2.upd H p o) pen c n := by
  obtain ⟨cells, a, l, g1, g2, g3⟩ := h
  exact ⟨cells, a, l, by rw [upd_ne h1.symm]; exact g1, by rw [upd_ne h2.symm]; exact g2, g3⟩
theorem PenC.new_ne {H : Hp} {pen c p : Addr} {n : Int} (h : PenC H pen c n) (hp : H p = none) : p ≠ pen ∧ p ≠ c := by
  obtain ⟨cells, a, l, g1, g2, _⟩ := h
  exact ⟨(ne_of_none g1 hp).symm, (ne_of_none g2 hp).symm⟩
theorem penC_put {H H' : Hp} {pen c : Addr} {cells : List Int} {a l a' l' n : Int} (h1 : H pen = some (.lst [.ref c, .int a, .int l]))
    (h2 : H c = some (.lst (cells.map V.int))) (h3 : cells.length ≤ 12) (s : Oth H H' pen) (g1 : 0 ≤ a') (g2 : a' ≤ n) :
    PenC (L2.upd H' pen (.lst [.ref c, .int a', .int l'])) pen c n := by
  have ne := pen_ne h1 h2
  exact ⟨cells, a', l', upd_same, by rw [upd_ne ne]; exact s _ _ ne h2, h3, g1, g2⟩
theorem Da.othP {K : PySem.W.Frag} {H H' : Hp} {pen c : Addr} {n : Int} {v : V} {d : PyData} (h : Da K H pen v d) (P : PenC H pen c n) (s : Oth H H' pen) : Da K H' pen v d := by
  obtain ⟨ps, hp⟩ := P.lst
  exact h.oth hp s
theorem DaAll.othP {K : PySem.W.Frag} {H H' : Hp} {pen c : Addr} {n : Int} {vs : List V} {ds : List PyData} (h : DaAll K H pen vs ds) (P : PenC H pen c n) (s : Oth H H' pen) : DaAll K H' pen vs ds := by
  obtain ⟨ps, hp⟩ := P.lst
  exact h.oth hp s
/-- a list that is gathered while the pen draws: one more -/
theorem acc_stepO {H1 F H4 : Hp} {D pen c : Addr} {l : List V} {y : V} {n : Int} {P : Hp → Prop} (nD : H1 D = none) (nP : D ≠ pen) (nc : D ≠ c) (s : Oth H1 F pen) (hF : F D = some (.lst l))
    (s4 : Oth F H4 pen) (p4 : PenC H4 pen c n) (len : l.length < 10000)
    (h : ∀ G, Oth H1 G pen → PenC G pen c n → G D = some (.lst (l ++ [y])) → P G) : ∃ acc, H4 D = some (.lst acc) ∧ acc.length < sizeLine ∧ P (L2.upd H4 D (.lst (acc ++ [y]))) := by
  have hD := s4 _ _ nP hF
  refine ⟨l, hD, Nat.lt_of_lt_of_le len (by decide), h _ ?_ (p4.upd nP nc) upd_same⟩
  intro b o nb e
  rw [upd_ne (ne_of_none e nD)]
  exact s4 _ _ nb (s _ _ nb e)
/-- .. the very list is changed in the heap that the pen left -/
theorem Oth.put {H1 F : Hp} {D pen : Addr} {o : HO} (nD : H1 D = none) (s : Oth H1 F pen) : Oth H1 (L2.upd F D o) pen := by
  intro b u nb e
  rw [upd_ne (ne_of_none e nD)]
  exact s b u nb e
end XA

set_option Elab.async false
set_option linter.all false
set_option maxRecDepth 100000
set_option maxHeartbeats 4000000
/-! XI: rules by a written part that is named (within comprehensions). -/
namespace XA
open PySem PySem.Spec PyProof.Rows L2
def rTupOf (K : PySem.W.Frag) : List V → Hp → VK → Prop := fun xs H Q => ∃ p ys, xs = [.ref p] ∧ ((SqL K H p ys ∧ ∀ l, H l = none → Q (.ref l) (upd H l (.tup ys))) ∨ (SqT K H p ys ∧ Q (.ref p) H))
def rLenZ (K : PySem.W.Frag) : List V → Hp → VK → Prop := fun xs H Q => ∃ x n, xs = [x] ∧ LenV K x H n ∧ Q (.int n) H
section
variable {X : Cx} (K : PySem.W.Frag) (h : X.K = K := by rfl)
include h
theorem ix_listK : IxR X (rIxL K) := h ▸ ix_list
theorem ix_tupK : IxR X (rIxT K) := h ▸ ix_tup
theorem call_isZK : CallR X (.builtin "isinstance") (rIsZ K) := h ▸ call_isZ
theorem call_lenK : CallR X (.builtin "len") (rLenZ K) := h ▸ call_len
theorem call_tupOfK : CallR X (.type "tuple") (rTupOf K) := h ▸ call_tuple_of
theorem op_catDK : OpR X (binaryOp .Add) (rCatD K) := h ▸ op_catD
theorem op_repDK : OpR X (binaryOp .Mult) (rRepD K) := h ▸ op_repD
theorem sl_listK : SlR X (rSlL K) := h ▸ sl_list
theorem sl_tupDK : SlR X (rSlD K) := h ▸ sl_tupD
theorem op_eqDK (hu : X.A.units + 64 < cLine) : OpR X (compareOp .Eq) (rEqD K) := h ▸ op_eqD hu
theorem op_neDK (hu : X.A.units + 64 < cLine) : OpR X (compareOp .NotEq) (rNeD K) := h ▸ op_neD hu
theorem pi_listK {tg l : Expr} {tl : TE} (hl : PE X l tl) : PI X tg l (iList K tl) := h ▸ pi_list hl
theorem pi_tupK {tg l : Expr} {tl : TE} (hl : PE X l tl) : PI X tg l (iTup K tl) := h ▸ pi_tup hl
theorem cr_allK (hc : X.calm = true) : CallR X (.builtin "all") (rAll K) := h ▸ cr_all hc
theorem cr_allIK (hc : X.calm = true) : CallR X (.builtin "all") (rAllI K) := h ▸ cr_allI hc
end
end XA

set_option Elab.async false
set_option linter.all false
set_option maxRecDepth 100000
set_option maxHeartbeats 4000000
/-! XJ: a tuple from behind. -/
namespace XA
open PySem PySem.Spec PyProof.Rows L2 HT
section
variable {prog : Program} {w : World} {A : Around} {E : Value → Shared → Prop} {s : Shared}
theorem places_rev (n : Nat) : Builtin.Slice.slicePlaces ((n : Int) - 1) (-1) (-1) = n := by
  unfold Builtin.Slice.slicePlaces
  rw [if_neg (by decide)]
  have e : (-(-1 : Int)) = 1 := by decide
  rw [e, Int.ediv_one]
  split <;> omega
theorem applied_rev {sl : Addr} {vl vu vs : Value} {n : Nat} {Q : Int × Int × Nat → Shared → Prop} (hs : s.heap.IsSliceOf sl vl vu vs) (pl : IsPart vl none) (pu : IsPart vu none) (ps : IsPart vs (some (-1)))
    (h : Q ((n : Int) - 1, -1, n) s) : wpAny (model prog w) A (Builtin.Slice.sliceApplied (.ref sl) (pure (n : Int))) Q E s := by
  obtain ⟨os, hos, hcs, hds⟩ := id hs
  unfold Builtin.Slice.sliceApplied Builtin.Slice.sliceFields
  refine wpAny_bind (wpAny_bind (wpAny_field hos hds (x := vl) rfl (wpAny_bind (wpAny_field hos hds (x := vu) rfl (wpAny_bind (wpAny_field hos hds (x := vs) rfl (wpAny_pure ?_)))))))
  refine wpAny_bind (slicePart_ ps ?_)
  show wpAny _ _ (if ((-1 : Int) == 0) = true then _ else _) _ _ s
  rw [if_neg (by decide)]
  refine wpAny_bind (slicePart_ pl (wpAny_bind (slicePart_ pu (wpAny_bind (wpAny_pure ?_)))))
  have adj : Builtin.Slice.sliceAdjust none none (-1) (n : Int) = ((n : Int) - 1, -1) := by
    unfold Builtin.Slice.sliceAdjust
    rfl
  show wpAny _ _ (match Builtin.Slice.sliceAdjust none none (-1) (n : Int) with | (lo, hi) => pure (lo, (-1 : Int), Builtin.Slice.slicePlaces lo hi (-1))) _ _ s
  rw [adj]
  show wpAny _ _ (pure ((n : Int) - 1, (-1 : Int), Builtin.Slice.slicePlaces ((n : Int) - 1) (-1) (-1))) _ _ s
  rw [places_rev]
  exact wpAny_pure h
theorem fm_map {α β : Type} {f : α → Option β} {g : α → β} : ∀ l : List α, (∀ k ∈ l, f k = some (g k)) → l.filterMap f = l.map g
  | [], _ => rfl
  | a :: r, h => by
    rw [List.filterMap_cons, h a List.mem_cons_self, List.map_cons, fm_map r fun k hk => h k (List.mem_cons_of_mem _ hk)]
theorem pick_rev (xs : List Value) : ((List.range xs.length).filterMap fun (k : Nat) => xs.toArray[(((xs.length : Nat) : Int) - 1 + (k : Int) * (-1)).toNat]?) = xs.reverse := by
  apply List.ext_getElem?
  intro i
  have key : ∀ k, k < xs.length → xs.toArray[(((xs.length : Nat) : Int) - 1 + (k : Int) * (-1)).toNat]? = some (xs.reverse.getD k default) := by
    intro k hk
    have e : (((xs.length : Nat) : Int) - 1 + (k : Int) * (-1)).toNat = xs.length - 1 - k := by omega
    rw [e, List.getElem?_toArray, List.getD_eq_getElem?_getD, List.getElem?_reverse hk, List.getElem?_eq_getElem (by omega)]
    rfl
  have all : (List.range xs.length).filterMap (fun (k : Nat) => xs.toArray[(((xs.length : Nat) : Int) - 1 + (k : Int) * (-1)).toNat]?) = (List.range xs.length).map fun k => xs.reverse.getD k default := by
    exact fm_map _ fun k hk => key k (List.mem_range.mp hk)
  rw [all, List.getElem?_map]
  by_cases hi : i < xs.length
  · rw [List.getElem?_range hi, List.getElem?_reverse hi, List.getElem?_eq_getElem (by omega)]
    show some (xs.reverse.getD i default) = _
    rw [List.getD_eq_getElem?_getD, List.getElem?_reverse hi, List.getElem?_eq_getElem (by omega)]
    rfl
  · rw [List.getElem?_eq_none (by rw [List.length_range]; omega), List.getElem?_eq_none (by rw [List.length_reverse]; omega)]
    rfl
theorem getItem_rev {t sl : Addr} {its : List Value} {vl vu vs : Value} {Q : Value → Shared → Prop} (ht : IsTup s.heap t its.toArray) (hs : s.heap.IsSliceOf sl vl vu vs) (pl : IsPart vl none) (pu : IsPart vu none) (ps : IsPart vs (some (-1)))
    (h : Q (.ref s.heap.objs.size) { s with heap := s.heap.push { cls := .type "tuple", data := .seq its.reverse.toArray } }) (hsz : its.length ≤ sizeLine) :
    wpAny (model prog w) A (getItem (.ref t) (.ref sl)) Q E s := by
  have htake : sizeOk (.seq its.reverse.toArray) := by
    show its.reverse.toArray.size ≤ sizeLine
    rw [List.size_toArray, List.length_reverse]
    exact hsz
  obtain ⟨os, hos, hcs, hds⟩ := id hs
  have hTs : s.TypeIs (.ref sl) "slice" := ⟨os, hos, hcs⟩
  unfold getItem
  try with_reducible refine wpAny_holding ?_
  first | refine wpAny_bind (wpAny_pure ?_) | skip
  refine wpAny_bind (wpAny_sequenceKey ht.typeIs (by decide) ?_)
  apply wpAny_bind
  apply wpAny_callSpecial?_slot (name := Str.ofString "__getitem__") ht.typeIs PyProof.Rows.slot_tuple_getitem
  refine wpAny_call_entry PyProof.Rows.slot_tuple_getitem ht.typeIs entry_tuple_getitem ?_ (args_tuple_getitem _ _)
  show wpAny _ _ (Builtin.Tuple.tupleItemsOf (.ref t) >>= _) _ _ s
  refine wpAny_bind (tupleItemsOf_ ht ?_)
  refine wpAny_bind (wpAny_typeOf hTs ?_)
  rw [if_pos (by decide)]
  refine wpAny_bind (applied_rev (n := its.toArray.size) hs pl pu ps ?_)
  show wpAny _ _ (if ((((its.toArray.size : Nat) : Int) - 1 == 0) && (-1 : Int) == 1 && its.toArray.size == its.toArray.size) = true then _ else _) _ _ s
  rw [if_neg (by simp)]
  rw [List.size_toArray, pick_rev]
  first
    | exact wpAny_bind (m := Builtin.Tuple.tupleExact _) (wpAny_newObj_type (wpAny_pure ⟨_, rfl, wpAny_pure h⟩) htake)
    | exact wpAny_bind (m := Builtin.Tuple.tupleExact _) (wpAny_newObj_type (wpAny_bind (wpAny_pure (wpAny_pure ⟨_, rfl, wpAny_pure h⟩))) htake)
    | exact wpAny_bind (wpAny_bind (m := Builtin.Tuple.tupleExact _) (wpAny_newObj_type (wpAny_pure (wpAny_pure ⟨_, rfl, wpAny_pure h⟩)) htake))
    | exact wpAny_bind (wpAny_bind (m := Builtin.Tuple.tupleExact _) (wpAny_newObj_type (wpAny_pure ⟨_, rfl, wpAny_pure h⟩) htake))
end
def tRevT (K : PySem.W.Frag) (te : TE) : TE := fun σ H Q => te σ H fun x H1 => ∃ a xs, x = .ref a ∧ SqT K H1 a xs ∧ ∀ p, H1 p = none → Q (.ref p) (upd H1 p (.tup xs.reverse))
theorem pe_revT {X : Cx} {e : Expr} {te : TE} {k : Nat} {p1 p2 p3 pos : Pos} (he : PE X e te) :
    PE X (.Subscript e (.Slice none none (some (.UnaryOp .USub (.Constant (.int 1) k p1) p2)) p3) pos) (tRevT X.K te) := by
  refine ⟨fun pins s σ H Q I h => ?_⟩
  apply Subscript_
  refine thn (he.run pins s σ H _ I h) ?_
  rintro v s1 ⟨x, H1, I1, r1, a, xs, rfl, hx, q⟩
  cases r1
  have step : PO X (some (.UnaryOp .USub (.Constant (.int 1) k p1) p2)) (tPart (tUn (rU fun i => .int (-i)) (tC (.int 1)))) := po_some (pe_un un_neg pe_int)
  apply wpAny_Slice
  refine thn (po_none.run pins s1 σ H1 (fun o G => o = none ∧ G = H1) I1 ⟨rfl, rfl⟩) ?_
  rintro vl s2 ⟨l, H2, I2, pl, rfl, rfl⟩
  refine thn (po_none.run pins s2 σ H2 (fun o G => o = none ∧ G = H2) I2 ⟨rfl, rfl⟩) ?_
  rintro vu s3 ⟨u, H3, I3, pu, rfl, rfl⟩
  refine thn (step.run pins s3 σ H3 (fun o G => o = some (-1) ∧ G = H3) I3 ⟨1, rfl, -1, rfl, rfl, rfl⟩) ?_
  rintro vs s4 ⟨o, H4, I4, ps, rfl, rfl⟩
  have I5 : Inv X pins σ H4 { s4 with heap := s4.heap.push { cls := .type "slice", data := .fields #[vl, vu, vs] } } :=
    I4.kept (t' := s4.toks) fun b ob q => Heap.get?_push_of_some _ q
  obtain ⟨its, r, ht, hz⟩ := I5.tuple hx
  have hlen := r.length
  show wpAny (model X.prog X.w) X.A (subscriptTail e (.Slice none none (some (.UnaryOp .USub (.Constant (.int 1) k p1) p2)) p3) (.ref a) (.ref s4.heap.objs.size)) (EP X pins σ Q) X.xe _
  refine tail_any (ops := [.ref a, .ref s4.heap.objs.size]) ht.typeIs PyProof.Rows.slot_tuple_getitem.lookup ?_ (by with_unfolding_all rfl)
  refine getItem_rev ht (Heap.IsSliceOf.new _ vl vu vs) pl pu ps ?_ (by omega)
  refine ⟨.ref _, _, I5.laid (t' := s4.toks) (o := .tup xs.reverse) (fun b ob q => Heap.get?_push_of_some _ q) (Nat.le_refl _) ?_, rfl, q _ (I5.hok.fresh (Nat.le_refl _))⟩
  exact ⟨by rw [List.length_reverse]; exact hz, _, r.reverse, IsTup.new _ _⟩
theorem DaAll.reverse {K : PySem.W.Frag} {H : Hp} {av : Addr} : ∀ {vs : List V} {ds : List PyData}, DaAll K H av vs ds → DaAll K H av vs.reverse ds.reverse
  | _, _, .nil => .nil
  | _, _, .cons r t => by
    rw [List.reverse_cons, List.reverse_cons]
    exact (DaAll.reverse t).append (.cons r .nil)
end XA

set_option Elab.async false
set_option linter.all false
set_option maxRecDepth 100000
set_option maxHeartbeats 4000000
/-! XK: what is a matrix, and what isn't; data of moderate size. -/
namespace XA
open PySem PySem.Spec PyProof.Rows L2
theorem isMatD_1 {d1 d2 d3 : PyData} {p : Int} (h : wholeTo d1 2000 = false) : isMatD (.tuple [d1, d2, d3]) p = false := by
  cases d1 with
  | int i =>
    cases d3 with
    | tuple rows =>
      cases d2 with
      | int j =>
        show (decide (0 ≤ i ∧ i ≤ 2000) && _) = false
        rw [show decide (0 ≤ i ∧ i ≤ 2000) = false from h, Bool.false_and]
      | _ => rfl
    | _ => rfl
  | _ => cases d3 <;> rfl
theorem isMatD_2 {d1 d2 d3 : PyData} {p : Int} (h : wholeTo d2 2000 = false) : isMatD (.tuple [d1, d2, d3]) p = false := by
  cases d3 with
  | tuple rows =>
    cases d1 with
    | int i =>
      cases d2 with
      | int j =>
        show (decide (0 ≤ i ∧ i ≤ 2000) && (decide (0 ≤ j ∧ j ≤ 2000) && _)) = false
        rw [show decide (0 ≤ j ∧ j ≤ 2000) = false from h, Bool.false_and, Bool.and_false]
      | _ => rfl
    | _ => rfl
  | _ => rfl
theorem isMatD_3 {d1 d2 d3 : PyData} {p : Int} (h : ∀ rows, d3 ≠ .tuple rows) : isMatD (.tuple [d1, d2, d3]) p = false := by
  cases d3 with
  | tuple rows => exact absurd rfl (h rows)
  | _ => rfl
theorem isMatD_in {i j p : Int} {rows : List PyData} (hi : 0 ≤ i ∧ i ≤ 2000) (hj : 0 ≤ j ∧ j ≤ 2000) :
    isMatD (.tuple [.int i, .int j, .tuple rows]) p = (decide ((rows.length : Int) = i) && rows.all (fun row => isRowD row j p)) := by
  show (decide (0 ≤ i ∧ i ≤ 2000) && (decide (0 ≤ j ∧ j ≤ 2000) && _)) = _
  rw [decide_eq_true hi, decide_eq_true hj, Bool.true_and, Bool.true_and]
theorem isMatD_no {d : PyData} {p : Int} (h : isD d "tuple" = false) : isMatD d p = false := by
  cases d <;> first | rfl | (simp [isD, tyD] at h)
theorem tup_of {d : PyData} (h : isD d "tuple" = true) : ∃ ds, d = .tuple ds := by
  cases d <;> first | exact ⟨_, rfl⟩ | (simp [isD, tyD] at h)
theorem int_of {d : PyData} (h : isD d "int" = true) (h2 : isD d "bool" = false) : ∃ i, d = .int i := by
  cases d <;> first | exact ⟨_, rfl⟩ | (simp [isD, tyD] at h h2)
theorem wholeTo_no {d : PyData} {m : Int} (h : isD d "bool" = true ∨ isD d "int" = false) : wholeTo d m = false := by
  cases d <;> first | rfl | (simp [isD, tyD] at h)
theorem wholeTo_int {d : PyData} {m : Int} (h : wholeTo d m = true) : ∃ i, d = .int i ∧ 0 ≤ i ∧ i ≤ m := by
  cases d with
  | int i => exact ⟨i, rfl, of_decide_eq_true h⟩
  | _ => simp [wholeTo] at h
theorem inV_false : ∀ bs : List Bool, inV (.bl false) (bs.map V.bl) = !(bs.all id)
  | [] => rfl
  | b :: r => by
    have ih := inV_false r
    cases b with
    | true =>
      rw [List.map_cons, List.all_cons]
      show (eqV (.bl true) (.bl false) || inV (.bl false) (r.map V.bl)) = _
      rw [ih]
      rfl
    | false => rfl
theorem flat_bls : ∀ bs : List Bool, (bs.map V.bl).all flatV = true
  | [] => rfl
  | b :: r => by
    rw [List.map_cons, List.all_cons, flat_bls r]
    rfl
/-! ### moderate data -/
def Tm : Nat → PyData → Prop
  | _, .none => True
  | _, .bool _ => True
  | _, .int i => i.natAbs.log2 < 120
  | _, .str x => (reprText x).length ≤ 130
  | 0, .list _ => False
  | 0, .tuple _ => False
  | k + 1, .list ds => ds.length ≤ 8 ∧ ∀ d ∈ ds, Tm k d
  | k + 1, .tuple ds => ds.length ≤ 8 ∧ ∀ d ∈ ds, Tm k d
  | _, .dict _ => False
theorem Tm.up : ∀ {k : Nat} {d : PyData}, Tm k d → Tm (k + 1) d
  | k, .none, _ => by cases k <;> trivial
  | k, .bool _, _ => by cases k <;> trivial
  | k, .int _, h => by cases k <;> exact h
  | k, .str _, h => by cases k <;> exact h
  | 0, .list _, h => h.elim
  | 0, .tuple _, h => h.elim
  | k + 1, .list ds, h => ⟨h.1, fun d hd => Tm.up (h.2 d hd)⟩
  | k + 1, .tuple ds, h => ⟨h.1, fun d hd => Tm.up (h.2 d hd)⟩
  | 0, .dict _, h => h.elim
  | k + 1, .dict _, h => h.elim
theorem Tm.le {k m : Nat} {d : PyData} (h : Tm k d) (e : k ≤ m) : Tm m d := by
  induction e with
  | refl => exact h
  | step _ ih => exact ih.up
theorem shown_int (i : Int) : ((PyData.int i).shown).length = (toString i).length := by
  simp only [PyData.shown]
  exact PySem.ofString_length _
def tmB : Nat → Nat
  | 0 => 130
  | k + 1 => 8 * (tmB k + 2) + 3
theorem tmB_ge : ∀ k, 130 ≤ tmB k
  | 0 => Nat.le_refl _
  | k + 1 => by
    have := tmB_ge k
    show 130 ≤ 8 * (tmB k + 2) + 3
    omega
theorem sum_le {B : Nat} : ∀ ls : List Nat, (∀ x ∈ ls, x ≤ B) → ls.sum ≤ ls.length * B
  | [], _ => by simp
  | a :: r, h => by
    have h1 := h a List.mem_cons_self
    have h2 := sum_le r fun x hx => h x (List.mem_cons_of_mem _ hx)
    rw [List.sum_cons, List.length_cons, Nat.succ_mul]
    omega
theorem shownAll_eq : ∀ ds : List PyData, PyData.shownAll ds = ds.map PyData.shown
  | [] => rfl
  | d :: r => by
    rw [List.map_cons, ← shownAll_eq r]
    rfl
theorem showableAll_eq : ∀ ds : List PyData, PyData.showableAll ds = ds.all PyData.showable
  | [] => rfl
  | d :: r => by
    rw [List.all_cons, ← showableAll_eq r]
    rfl
theorem hasDictAll_eq : ∀ ds : List PyData, PyData.hasDictAll ds = ds.any PyData.hasDict
  | [] => rfl
  | d :: r => by
    rw [List.any_cons, ← hasDictAll_eq r]
    rfl
theorem depthAll_le {n : Nat} : ∀ ds : List PyData, (∀ d ∈ ds, d.depth ≤ n) → PyData.depthAll ds ≤ n
  | [], _ => Nat.zero_le _
  | d :: r, h => by
    show max d.depth (PyData.depthAll r) ≤ n
    exact Nat.max_le.mpr ⟨h d List.mem_cons_self, depthAll_le r fun x hx => h x (List.mem_cons_of_mem _ hx)⟩
theorem Tm.ok : ∀ {k : Nat} {d : PyData}, Tm k d → d.showable = true ∧ d.hasDict = false ∧ d.depth ≤ k ∧ d.shown.length ≤ tmB k
  | k, .none, _ => ⟨rfl, rfl, Nat.zero_le _, Nat.le_trans (by decide : (4 : Nat) ≤ 130) (tmB_ge k)⟩
  | k, .bool b, _ => ⟨rfl, rfl, Nat.zero_le _, Nat.le_trans (by cases b <;> decide) (tmB_ge k)⟩
  | k, .int i, h => by
    have h' : i.natAbs.log2 < 120 := by cases k <;> exact h
    refine ⟨decide_eq_true (by omega), rfl, Nat.zero_le _, ?_⟩
    rw [shown_int]
    have := int_text_length_le (k := 120) (by decide) h'
    have := tmB_ge k
    omega
  | k, .str x, h => by
    have h' : (reprText x).length ≤ 130 := by cases k <;> exact h
    exact ⟨rfl, rfl, Nat.zero_le _, Nat.le_trans h' (tmB_ge k)⟩
  | 0, .list _, h => h.elim
  | 0, .tuple _, h => h.elim
  | k + 1, .list ds, h => by
    have ih : ∀ d ∈ ds, d.showable = true ∧ d.hasDict = false ∧ d.depth ≤ k ∧ d.shown.length ≤ tmB k := fun d hd => Tm.ok (h.2 d hd)
    refine ⟨?_, ?_, ?_, ?_⟩
    · show PyData.showableAll ds = true
      rw [showableAll_eq, List.all_eq_true]
      exact fun d hd => (ih d hd).1
    · show PyData.hasDictAll ds = false
      rw [hasDictAll_eq, List.any_eq_false]
      exact fun d hd => by rw [(ih d hd).2.1]; decide
    · show PyData.depthAll ds + 1 ≤ k + 1
      exact Nat.succ_le_succ (depthAll_le ds fun d hd => (ih d hd).2.2.1)
    · show (listText (PyData.shownAll ds)).length ≤ 8 * (tmB k + 2) + 3
      have z := listText_len_le (PyData.shownAll ds)
      rw [shownAll_eq, List.map_map, List.length_map] at z
      have s := sum_le (B := tmB k) (ds.map ((fun x => x.length) ∘ PyData.shown)) (by
        intro x hx
        obtain ⟨d, hd, rfl⟩ := List.mem_map.mp hx
        exact (ih d hd).2.2.2)
      rw [List.length_map] at s
      have s2 := Nat.mul_le_mul_right (tmB k) h.1
      have hl8 := h.1
      rw [shownAll_eq]
      omega
  | k + 1, .tuple ds, h => by
    have ih : ∀ d ∈ ds, d.showable = true ∧ d.hasDict = false ∧ d.depth ≤ k ∧ d.shown.length ≤ tmB k := fun d hd => Tm.ok (h.2 d hd)
    refine ⟨?_, ?_, ?_, ?_⟩
    · show PyData.showableAll ds = true
      rw [showableAll_eq, List.all_eq_true]
      exact fun d hd => (ih d hd).1
    · show PyData.hasDictAll ds = false
      rw [hasDictAll_eq, List.any_eq_false]
      exact fun d hd => by rw [(ih d hd).2.1]; decide
    · show PyData.depthAll ds + 1 ≤ k + 1
      exact Nat.succ_le_succ (depthAll_le ds fun d hd => (ih d hd).2.2.1)
    · show (tupleText (PyData.shownAll ds)).length ≤ 8 * (tmB k + 2) + 3
      have z := tupleText_len_le (PyData.shownAll ds)
      rw [shownAll_eq, List.map_map, List.length_map] at z
      have s := sum_le (B := tmB k) (ds.map ((fun x => x.length) ∘ PyData.shown)) (by
        intro x hx
        obtain ⟨d, hd, rfl⟩ := List.mem_map.mp hx
        exact (ih d hd).2.2.2)
      rw [List.length_map] at s
      have s2 := Nat.mul_le_mul_right (tmB k) h.1
      have hl8 := h.1
      rw [shownAll_eq]
      omega
  | 0, .dict _, h => h.elim
  | k + 1, .dict _, h => h.elim
theorem tmB5 : tmB 5 ≤ sizeLine := by decide
/-- repr of moderate data -/
theorem repr_tm {K : PySem.W.Frag} {H : Hp} {av : Addr} {v : V} {d : PyData} {Q : VK} (h : Da K H av v d) (t : Tm 5 d) (q : Q (.str d.shown) H) : rReprD K [v] H Q := by
  obtain ⟨h1, h2, h3, h4⟩ := t.ok
  exact ⟨v, d, rfl, h.dp, h1, h2, by omega, Nat.le_trans h4 tmB5, q⟩
theorem tm_row {row : List Int} {p : Int} (hl : row.length ≤ 8) (hp : p ≤ 97) (h : ∀ x ∈ row, 0 ≤ x ∧ x < p) : Tm 1 (rowD row) := by
  refine ⟨by rw [List.length_map]; exact hl, ?_⟩
  intro d hd
  obtain ⟨x, hx, rfl⟩ := List.mem_map.mp hd
  obtain ⟨h1, h2⟩ := h x hx
  show x.natAbs.log2 < 120
  by_cases z : x.natAbs = 0
  · rw [z]
    decide
  · exact (Nat.log2_lt z).mpr (Nat.lt_of_lt_of_le (show x.natAbs < 97 by omega) (by decide))
theorem log_small {x : Int} (h : x.natAbs < 10 ^ 30) : x.natAbs.log2 < 120 := by
  by_cases z : x.natAbs = 0
  · rw [z]
    decide
  · exact (Nat.log2_lt z).mpr (Nat.lt_of_lt_of_le h (by decide))
end XA
namespace XA
open PySem PySem.Spec PyProof.Rows L2
/-! ### parts of data -/
def cutD (ds : List PyData) (lo hi : Option Int) : List PyData := (ds.drop (HT.sIx ds.length 0 lo)).take (HT.sIx ds.length ds.length hi - HT.sIx ds.length 0 lo)
theorem cutD_mem {ds : List PyData} {lo hi : Option Int} {d : PyData} (h : d ∈ cutD ds lo hi) : d ∈ ds := List.mem_of_mem_drop (List.mem_of_mem_take h)
theorem cutD_len (ds : List PyData) (lo hi : Option Int) : (cutD ds lo hi).length ≤ ds.length := by
  unfold cutD
  rw [List.length_take, List.length_drop]
  omega
theorem DaAll.cut {K : PySem.W.Frag} {H : Hp} {av : Addr} {vs : List V} {ds : List PyData} (h : DaAll K H av vs ds) (lo hi : Option Int) : DaAll K H av (cutV vs lo hi) (cutD ds lo hi) := by
  unfold cutV cutD
  rw [h.length]
  exact (h.drop _).take _
theorem noLs_all : ∀ ds : List PyData, (∀ d ∈ ds, noL d = true) → noLs ds = true
  | [], _ => rfl
  | d :: r, h => by
    simp only [noLs, h d List.mem_cons_self, noLs_all r fun x hx => h x (List.mem_cons_of_mem _ hx), Bool.and_self]
theorem noLs_mem : ∀ {ds : List PyData}, noLs ds = true → ∀ d ∈ ds, noL d = true
  | d :: r, h, x, hx => by
    simp only [noLs, Bool.and_eq_true] at h
    rcases List.mem_cons.mp hx with e | hx
    · rw [e]
      exact h.1
    · exact noLs_mem h.2 x hx
/-- a list of moderate data at S -/
structure LD (K : PySem.W.Frag) (F : Hp) (pen S : Addr) (vs : List V) (ds : List PyData) : Prop where
  at_ : F S = some (.lst vs)
  da : DaAll K F pen vs ds
  tm : ∀ d ∈ ds, Tm 4 d
  ne : S ≠ pen
theorem LD.same {K : PySem.W.Frag} {F F' : Hp} {pen S : Addr} {vs : List V} {ds : List PyData} (h : LD K F pen S vs ds) (s : Same F F') : LD K F' pen S vs ds :=
  ⟨s _ _ h.at_, h.da.same s, h.tm, h.ne⟩
theorem LD.oth {K : PySem.W.Frag} {F F' : Hp} {pen c S : Addr} {n : Int} {vs : List V} {ds : List PyData} (h : LD K F pen S vs ds) (P : PenC F pen c n) (s : Oth F F' pen) : LD K F' pen S vs ds :=
  ⟨s _ _ h.ne h.at_, h.da.othP P s, h.tm, h.ne⟩
/-- a longer list, new at S' -/
theorem LD.ext {K : PySem.W.Frag} {F : Hp} {pen S S' : Addr} {vs us : List V} {ds es : List PyData} (h : LD K F pen S vs ds) (ha : DaAll K F pen us es) (ht : ∀ d ∈ es, Tm 4 d)
    (n : F S' = none) (ne : S' ≠ pen) : LD K (upd F S' (.lst (vs ++ us))) pen S' (vs ++ us) (ds ++ es) := by
  refine ⟨upd_same, (h.da.append ha).same (same_upd n), ?_, ne⟩
  intro d hd
  rcases List.mem_append.mp hd with hd | hd
  · exact h.tm d hd
  · exact ht d hd
theorem LD.pick {K : PySem.W.Frag} {F : Hp} {pen S : Addr} {vs : List V} {ds : List PyData} (h : LD K F pen S vs ds) {x : V} (hx : x ∈ vs) : ∃ d, Da K F pen x d ∧ Tm 4 d := by
  obtain ⟨i, hi, e⟩ := List.mem_iff_getElem.mp hx
  obtain ⟨d, hd, hda⟩ := h.da.get (i := i) (v := x) (by rw [List.getElem?_eq_getElem hi, e])
  exact ⟨d, hda, h.tm d (List.mem_of_getElem? hd)⟩
theorem tmT {k : Nat} {ds : List PyData} (hl : ds.length ≤ 8) (h : ∀ d ∈ ds, Tm k d) : Tm (k + 1) (.tuple ds) := ⟨hl, h⟩
theorem tmL {k : Nat} {ds : List PyData} (hl : ds.length ≤ 8) (h : ∀ d ∈ ds, Tm k d) : Tm (k + 1) (.list ds) := ⟨hl, h⟩
theorem all1 {α : Type} {P : α → Prop} {a : α} (h : P a) : ∀ x ∈ [a], P x := by
  intro x hx
  rw [List.mem_singleton.mp hx]
  exact h
theorem all2 {α : Type} {P : α → Prop} {a b : α} (h1 : P a) (h2 : P b) : ∀ x ∈ [a, b], P x := by
  intro x hx
  rcases List.mem_cons.mp hx with e | hx
  · rw [e]
    exact h1
  · exact all1 h2 x hx
theorem all3 {α : Type} {P : α → Prop} {a b c : α} (h1 : P a) (h2 : P b) (h3 : P c) : ∀ x ∈ [a, b, c], P x := by
  intro x hx
  rcases List.mem_cons.mp hx with e | hx
  · rw [e]
    exact h1
  · exact all2 h2 h3 x hx
theorem all4 {α : Type} {P : α → Prop} {a b c d : α} (h1 : P a) (h2 : P b) (h3 : P c) (h4 : P d) : ∀ x ∈ [a, b, c, d], P x := by
  intro x hx
  rcases List.mem_cons.mp hx with e | hx
  · rw [e]
    exact h1
  · exact all3 h2 h3 h4 x hx
theorem tmI (k : Nat) {i : Int} (h : i.natAbs < 10 ^ 30) : Tm k (.int i) := by
  cases k <;> exact log_small h
theorem tmB' (k : Nat) (b : Bool) : Tm k (.bool b) := by cases k <;> trivial
theorem tmN (k : Nat) : Tm k .none := by cases k <;> trivial
theorem tmS (k : Nat) {x : Str} (h : (reprText x).length ≤ 130) : Tm k (.str x) := by cases k <;> exact h
theorem sz_le {n : Nat} (h : n ≤ 1000) : n ≤ sizeLine := Nat.le_trans h (by decide)
end XA

set_option Elab.async false
set_option linter.all false
set_option maxRecDepth 100000
set_option maxHeartbeats 4000000
/-! XL: a list of moderate data in the making. -/
namespace XA
open PySem PySem.Spec PyProof.Rows L2
theorem DaAll.hd {K : PySem.W.Frag} {H : Hp} {av : Addr} {v : V} {vs : List V} {d : PyData} {ds : List PyData} (h : DaAll K H av (v :: vs) (d :: ds)) : Da K H av v d := by
  cases h with
  | cons h1 _ => exact h1
theorem DaAll.tl {K : PySem.W.Frag} {H : Hp} {av : Addr} {v : V} {vs : List V} {d : PyData} {ds : List PyData} (h : DaAll K H av (v :: vs) (d :: ds)) : DaAll K H av vs ds := by
  cases h with
  | cons _ h1 => exact h1
/-- a list of moderate data at S -/
structure Ls (j : Nat) (K : PySem.W.Frag) (F : Hp) (pen S : Addr) (vs : List V) (ds : List PyData) : Prop where
  at_ : F S = some (.lst vs)
  da : DaAll K F pen vs ds
  tm : ∀ d ∈ ds, Tm j d
  ne : S ≠ pen
theorem Ls.same {j : Nat} {K : PySem.W.Frag} {F F' : Hp} {pen S : Addr} {vs : List V} {ds : List PyData} (h : Ls j K F pen S vs ds) (s : Same F F') : Ls j K F' pen S vs ds :=
  ⟨s _ _ h.at_, h.da.same s, h.tm, h.ne⟩
theorem Ls.oth {j : Nat} {K : PySem.W.Frag} {F F' : Hp} {pen c S : Addr} {n : Int} {vs : List V} {ds : List PyData} (h : Ls j K F pen S vs ds) (P : PenC F pen c n) (s : Oth F F' pen) : Ls j K F' pen S vs ds :=
  ⟨s _ _ h.ne h.at_, h.da.othP P s, h.tm, h.ne⟩
/-- a longer list, new at S' -/
theorem Ls.ext {j : Nat} {K : PySem.W.Frag} {F : Hp} {pen S S' : Addr} {vs us : List V} {ds es : List PyData} (h : Ls j K F pen S vs ds) (ha : DaAll K F pen us es) (ht : ∀ d ∈ es, Tm j d)
    (n : F S' = Option.none) (ne : S' ≠ pen) : Ls j K (L2.upd F S' (.lst (vs ++ us))) pen S' (vs ++ us) (ds ++ es) := by
  refine ⟨upd_same, (h.da.append ha).same (same_upd n), ?_, ne⟩
  intro d hd
  rcases List.mem_append.mp hd with hd | hd
  · exact h.tm d hd
  · exact ht d hd
theorem Ls.pick {j : Nat} {K : PySem.W.Frag} {F : Hp} {pen S : Addr} {vs : List V} {ds : List PyData} (h : Ls j K F pen S vs ds) {x : V} (hx : x ∈ vs) : ∃ d, Da K F pen x d ∧ Tm j d := by
  obtain ⟨i, hi, e⟩ := List.mem_iff_getElem.mp hx
  obtain ⟨d, hd, hda⟩ := h.da.get (i := i) (v := x) (by rw [List.getElem?_eq_getElem hi, e])
  exact ⟨d, hda, h.tm d (List.mem_of_getElem? hd)⟩
theorem Tm.cut {k : Nat} {ds : List PyData} (lo hi : Option Int) (h : Tm (k + 1) (.tuple ds)) : Tm (k + 1) (.tuple (cutD ds lo hi)) :=
  ⟨Nat.le_trans (cutD_len ds lo hi) h.1, fun d hd => h.2 d (cutD_mem hd)⟩
theorem Tm.snoc {k : Nat} {ds : List PyData} {d : PyData} (h : Tm (k + 1) (.tuple ds)) (hl : ds.length ≤ 7) (hd : Tm k d) : Tm (k + 1) (.tuple (ds ++ [d])) := by
  refine ⟨by rw [List.length_append]; exact Nat.succ_le_succ hl, fun e he => ?_⟩
  rcases List.mem_append.mp he with he | he
  · exact h.2 e he
  · rw [List.mem_singleton.mp he]
    exact hd
theorem Tm.app {k : Nat} {ds es : List PyData} (h : ∀ d ∈ ds, Tm k d) (h' : ∀ d ∈ es, Tm k d) (hl : ds.length + es.length ≤ 8) : Tm (k + 1) (.tuple (ds ++ es)) := by
  refine ⟨by rw [List.length_append]; exact hl, fun e he => ?_⟩
  rcases List.mem_append.mp he with he | he
  · exact h e he
  · exact h' e he
theorem Tm.mid {k : Nat} {ds es : List PyData} {d : PyData} (h1 : ∀ x ∈ ds, Tm k x) (h2 : Tm k d) (h3 : ∀ x ∈ es, Tm k x) (hl : ds.length + 1 + es.length ≤ 8) : Tm (k + 1) (.tuple (ds ++ [d] ++ es)) := by
  refine Tm.app (fun x hx => ?_) h3 (by rw [List.length_append]; exact hl)
  rcases List.mem_append.mp hx with hx | hx
  · exact h1 x hx
  · rw [List.mem_singleton.mp hx]
    exact h2
theorem cutD_pre (ds : List PyData) {i : Int} (h0 : 0 ≤ i) : (cutD ds none (some i)).length ≤ i.toNat := by
  unfold cutD
  rw [List.length_take, HT.sIx_none]
  have e : HT.sIx ds.length ds.length (some i) = min i.toNat ds.length := by
    show (if i < 0 then _ else _) = _
    rw [if_neg (by omega)]
  rw [e]
  omega
theorem cutD_suf (ds : List PyData) {i : Int} (h0 : 0 ≤ i) : (cutD ds (some i) none).length ≤ ds.length - i.toNat := by
  unfold cutD
  rw [List.length_take, List.length_drop, HT.sIx_none]
  have e : HT.sIx ds.length 0 (some i) = min i.toNat ds.length := by
    show (if i < 0 then _ else _) = _
    rw [if_neg (by omega)]
  rw [e]
  omega
/-- the row at a place -/
theorem rowAt {K : PySem.W.Frag} {F : Hp} {av : Addr} {ys : List V} {rows : List (List Int)} {i : Nat} (h : DaAll K F av ys (rows.map rowD)) (hi : i < rows.length) :
    ∃ (b : Addr) (us : List V) (row : List Int), atI ys (i : Int) = some (.ref b) ∧ row ∈ rows ∧ SqT K F b us ∧ DaAll K F av us (row.map .int) ∧ us.length = row.length := by
  obtain ⟨v, hv, hd⟩ := h.getD (i := i) (d := rowD rows[i]) (by rw [List.getElem?_map, List.getElem?_eq_getElem hi]; rfl)
  obtain ⟨b, us, rfl, hS, hA⟩ := (show Da K F av v (.tuple (rows[i].map .int)) from hd).isTup
  have hl := (List.getElem?_eq_some_iff.mp hv).1
  refine ⟨b, us, rows[i], ?_, List.getElem_mem hi, hS, hA, by rw [hA.length, List.length_map]⟩
  exact atI_nat hv
theorem rowAtI {K : PySem.W.Frag} {F : Hp} {av : Addr} {ys : List V} {rows : List (List Int)} {i : Int} (h : DaAll K F av ys (rows.map rowD)) (h0 : 0 ≤ i) (hi : i < rows.length) :
    ∃ (b : Addr) (us : List V) (row : List Int), atI ys i = some (.ref b) ∧ row ∈ rows ∧ SqT K F b us ∧ DaAll K F av us (row.map .int) ∧ us.length = row.length := by
  obtain ⟨b, us, row, z⟩ := rowAt (i := i.toNat) h (by omega)
  rw [Int.toNat_of_nonneg h0] at z
  exact ⟨b, us, row, z⟩
theorem lay_rows : ∀ rows : List (List Int), PyData.canLayAll0 (rows.map rowD) = true
  | [] => rfl
  | n :: r => by
    rw [List.map_cons]
    simp only [PyData.canLayAll0, rowD, PyData.canLay0, lay_ints, lay_rows r, Bool.and_self]
theorem shaped_rows {k : Nat} {rows : List (List Int)} (h : Tm k (.tuple (rows.map rowD))) (hk : k ≤ 64) : SeqAt.shaped (.tuple (rows.map rowD)) = true := by
  unfold SeqAt.shaped
  have d := h.ok.2.2.1
  simp only [PyData.canLay0, lay_rows, Bool.true_and]
  exact decide_eq_true (by omega)
theorem shaped_nilT : SeqAt.shaped (.tuple []) = true := by decide
theorem eqv_rows (rows : List (List Int)) : PyData.eqv (.tuple (rows.map rowD)) (.tuple []) = rows.isEmpty := by
  cases rows with
  | nil => rfl
  | cons n r => rfl
theorem Tm.row {rows : List (List Int)} {row : List Int} (h : Tm 2 (.tuple (rows.map rowD))) (hr : row ∈ rows) : Tm 1 (.tuple (row.map .int)) :=
  h.2 (rowD row) (List.mem_map.mpr ⟨row, hr, rfl⟩)
structure Ds (j : Nat) (K : PySem.W.Frag) (F : Hp) (pen c : Addr) (m : Int) (xv : List V) (xd : List PyData) (us : List V) (es : List PyData) : Prop where
  P : PenC F pen c m
  X : DaAll K F pen xv xd
  I : DaAll K F pen us es
  T : ∀ d ∈ es, Tm j d
section
variable {K : PySem.W.Frag} {F F' : Hp} {pen c S : Addr} {m : Int} {j : Nat} {xv vs us ws : List V} {xd ds es zs : List PyData}
theorem Ds.same (h : Ds j K F pen c m xv xd us es) (s : Same F F') : Ds j K F' pen c m xv xd us es := ⟨h.P.same s, h.X.same s, h.I.same s, h.T⟩
theorem Ds.newT (h : Ds j K F pen c m xv xd us es) {t : Addr} (n : F t = none) (hd : DaAll K F pen ws zs) (ht : Tm j (.tuple zs)) :
    Ds j K (upd F t (.tup ws)) pen c m xv xd (us ++ [.ref t]) (es ++ [.tuple zs]) := by
  refine ⟨h.P.same (same_upd n), h.X.same (same_upd n), (h.I.same (same_upd n)).append (.cons (Da.newT hd n) .nil), ?_⟩
  intro d hd
  rcases List.mem_append.mp hd with hd | hd
  · exact h.T d hd
  · rw [List.mem_singleton.mp hd]
    exact ht
theorem Ds.add (h : Ds j K F pen c m xv xd us es) {v : V} {d : PyData} (hv : Da K F pen v d) (ht : Tm j d) :
    Ds j K F pen c m xv xd (us ++ [v]) (es ++ [d]) := by
  refine ⟨h.P, h.X, h.I.append (.cons hv .nil), ?_⟩
  intro e hd
  rcases List.mem_append.mp hd with hd | hd
  · exact h.T e hd
  · rw [List.mem_singleton.mp hd]
    exact ht
theorem Ds.newL (h : Ds j K F pen c m xv xd us es) {t : Addr} (n : F t = none) (hd : DaAll K F pen ws zs) (ht : Tm j (.list zs)) :
    Ds j K (upd F t (.lst ws)) pen c m xv xd (us ++ [.ref t]) (es ++ [.list zs]) := by
  refine ⟨h.P.same (same_upd n), h.X.same (same_upd n), (h.I.same (same_upd n)).append (.cons (.lst (h.P.new_ne n).1 (.inl (.inl upd_same)) (hd.same (same_upd n))) .nil), ?_⟩
  intro d hd
  rcases List.mem_append.mp hd with hd | hd
  · exact h.T d hd
  · rw [List.mem_singleton.mp hd]
    exact ht
theorem Ds.addX (h : Ds j K F pen c m xv xd us es) {v : V} {d : PyData} (hv : Da K F pen v d) : Ds j K F pen c m (xv ++ [v]) (xd ++ [d]) us es := ⟨h.P, h.X.append (.cons hv .nil), h.I, h.T⟩
theorem Ds.setX (h : Ds j K F pen c m xv xd us es) (hv : DaAll K F pen vs ds) : Ds j K F pen c m vs ds us es := ⟨h.P, hv, h.I, h.T⟩
theorem Ds.lev (h : Ds j K F pen c m xv xd us es) (i : Nat) : Ds i K F pen c m xv xd [] [] := ⟨h.P, h.X, .nil, fun d hd => by cases hd⟩
theorem Ds.oth (h : Ds j K F pen c m xv xd us es) {m' : Int} (s : Oth F F' pen) (P : PenC F' pen c m') : Ds j K F' pen c m' xv xd us es := ⟨P, h.X.othP h.P s, h.I.othP h.P s, h.T⟩
theorem Ds.nix (h : Ds j K F pen c m xv xd us es) : Ds j K F pen c m xv xd [] [] := ⟨h.P, h.X, .nil, fun d hd => by cases hd⟩
theorem Ds.keep (h : Ds j K F pen c m xv xd us es) : Ds j K F pen c m (xv ++ us) (xd ++ es) [] [] := ⟨h.P, h.X.append h.I, .nil, fun d hd => by cases hd⟩
/-- the list itself -/
theorem Ds.list (h : Ds j K F pen c m xv xd us es) (n : F S = Option.none) : Ls j K (upd F S (.lst us)) pen S us es :=
  ⟨upd_same, h.I.same (same_upd n), h.T, (h.P.new_ne n).1⟩
/-- glued behind another -/
theorem Ds.glue (h : Ds j K F pen c m xv xd us es) (hL : Ls j K F pen S vs ds) {N : Addr} (n : F N = Option.none) : Ls j K (upd F N (.lst (vs ++ us))) pen N (vs ++ us) (ds ++ es) :=
  hL.ext h.I h.T n (h.P.new_ne n).1
theorem Da.put {v : V} {d : PyData} {ps : List V} {o : HO} (h : Da K F pen v d) (n : noL d = true) (hS : F S = some (.lst ps)) : Da K (upd F S o) pen v d :=
  Da.any (av := S) d v n ((Da.any (av := pen) d v n h).grow hS)
theorem DaAll.put {ps : List V} {o : HO} : ∀ {us : List V} {es : List PyData}, DaAll K F pen us es → noLs es = true → F S = some (.lst ps) → DaAll K (upd F S o) pen us es
  | _, _, .nil, _, _ => .nil
  | _, _, .cons a b, n, hS => by
    simp only [noLs, Bool.and_eq_true] at n
    exact .cons (a.put n.1 hS) (b.put n.2 hS)
theorem Oth.putS {H G : Hp} {o : HO} (s : Same H G) (n : H S = Option.none) : Oth H (L2.upd G S o) pen := by
  intro b u nb e
  rw [upd_ne (ne_of_none e n)]
  exact s b u e
theorem tmK (j : Nat) : ∀ {k : Nat}, k ≤ 6 → Tm j (.str (Str.ofString (toString (k : Int))))
  | 0, _ => tmS j (by decide +kernel)
  | 1, _ => tmS j (by decide +kernel)
  | 2, _ => tmS j (by decide +kernel)
  | 3, _ => tmS j (by decide +kernel)
  | 4, _ => tmS j (by decide +kernel)
  | 5, _ => tmS j (by decide +kernel)
  | 6, _ => tmS j (by decide +kernel)
  | n + 7, h => absurd h (by omega)
theorem tm20 (k : Nat) {p : Int} (h2 : 2 ≤ p) (h : p ≤ 97) : Tm k (.int (p + 10 ^ (20 : Int).toNat)) := by
  refine tmI _ ?_
  have e20 : (10 : Int) ^ (20 : Int).toNat = 100000000000000000000 := by decide
  rw [e20]
  omega
theorem Tm.rep {k : Nat} {d : PyData} (h : Tm k d) (n : Nat) : ∀ x ∈ (List.replicate n [d]).flatten, Tm k x := by
  intro x hx
  obtain ⟨l, hl, hx⟩ := List.mem_flatten.mp hx
  rw [List.eq_of_mem_replicate hl] at hx
  rw [List.mem_singleton.mp hx]
  exact h
theorem DaAll.repF {v : V} {d : PyData} {H : Hp} {av : Addr} (h : Da K H av v d) : ∀ n : Nat, DaAll K H av (List.replicate n [v]).flatten (List.replicate n [d]).flatten
  | 0 => .nil
  | n + 1 => by
    rw [List.replicate_succ, List.replicate_succ]
    exact .cons h (DaAll.repF h n)
theorem Ds.rep {v : V} {d : PyData} (h : Ds j K F pen c m xv xd [v] [d]) (n : Nat) : Ds j K F pen c m xv xd (List.replicate n [v]).flatten (List.replicate n [d]).flatten :=
  ⟨h.P, h.X, DaAll.repF h.I.hd n, Tm.rep (h.T d (List.mem_singleton.mpr rfl)) n⟩
end
end XA

set_option Elab.async false
set_option linter.all false
set_option maxRecDepth 100000
set_option maxHeartbeats 4000000
/-! XM: two walks in one comprehension. -/
namespace XA
open PySem PySem.Spec PyProof.Rows L2
/-- what the inner walk owes -/
def Inn (J : It) (Nx : Hp → Prop) (g : TG) (tt : TT) (te : TE) (D : Addr) (σ : L2.St) (ws : List Nat) (H0 : Hp) : Prop :=
  ∃ W : Nat → Nat → Hp → Prop, (∃ m, W 0 m H0) ∧ ∀ j k H, W j k H → (J.stop j H ∧ Nx H) ∨
    (J.go j H ∧ ∃ Ny : Hp → Prop, (∀ H', Ny H' → ∃ k', k' < k ∧ W (j + 1) k' H') ∧
      ∀ x H', J.yld j H x H' → g x (wipe σ ws) H' fun τ H5 => wipe τ ws = wipe σ ws ∧ tt τ H5 fun b H6 =>
        if b = true then te τ H6 fun y H7 => ∃ acc, H7 D = some (.lst acc) ∧ acc.length < sizeLine ∧ Ny (L2.upd H7 D (.lst (acc ++ [y]))) else Ny H6)
theorem inn_tup {K : PySem.W.Frag} {a : Addr} {xs : List V} {Nx : Hp → Prop} {g : TG} {tt : TT} {te : TE} {D : Addr} {σ : L2.St} {ws : List Nat} {H0 : Hp} (P : Nat → Hp → Prop) (h0 : P 0 H0)
    (hl : ∀ j H, j ≤ xs.length → P j H → SqT K H a xs)
    (hs : ∀ j x H, xs[j]? = some x → P j H → g x (wipe σ ws) H fun τ H5 => wipe τ ws = wipe σ ws ∧ tt τ H5 fun b H6 =>
      if b = true then te τ H6 fun y H7 => ∃ acc, H7 D = some (.lst acc) ∧ acc.length < sizeLine ∧ P (j + 1) (L2.upd H7 D (.lst (acc ++ [y]))) else P (j + 1) H6)
    (hd : ∀ H, P xs.length H → Nx H) : Inn (Itt K a) Nx g tt te D σ ws H0 := by
  refine ⟨fun j k H => k = xs.length - j ∧ j ≤ xs.length ∧ P j H, ⟨_, rfl, Nat.zero_le _, h0⟩, ?_⟩
  intro j k H w
  obtain ⟨rfl, hj, p⟩ := w
  have s := hl j H hj p
  rcases Nat.lt_or_ge j xs.length with lt | ge
  · refine .inr ⟨⟨xs, xs[j], s, List.getElem?_eq_getElem lt⟩, P (j + 1), fun H' p' => ⟨_, by omega, rfl, lt, p'⟩, ?_⟩
    rintro x H' ⟨rfl, y⟩
    exact hs j x _ (y xs s) p
  · obtain rfl : j = xs.length := by omega
    exact .inl ⟨⟨xs, s, Nat.le_refl _⟩, hd H p⟩
theorem lc2_list {K : PySem.W.Frag} {a : Addr} {xs : List V} {g g1 : TG} {tt tt1 : TT} {wi : TI} {te : TE} {vs ws : List Nat} {σ : L2.St} {H1 : Hp} {D : Addr} {Qd : Hp → Prop} (P : Nat → Hp → Prop)
    (h0 : P 0 (L2.upd H1 D (.lst []))) (hl : ∀ i H, i ≤ xs.length → P i H → SqL K H a xs)
    (hs : ∀ i x H, xs[i]? = some x → P i H → g x (wipe σ vs) H fun τ H2 => wipe τ vs = wipe σ vs ∧ tt τ H2 fun b H3 =>
      if b = true then wi τ H3 fun J H4 => Inn J (P (i + 1)) g1 tt1 te D τ ws H4 else P (i + 1) H3) (hd : ∀ H, P xs.length H → Qd H) :
    ∃ W : Nat → Nat → Hp → Prop, (∃ m, W 0 m (L2.upd H1 D (.lst []))) ∧ ∀ i m H, W i m H → ((Itl K a).stop i H ∧ Qd H) ∨
      ((Itl K a).go i H ∧ ∃ Nx : Hp → Prop, (∀ H', Nx H' → ∃ m', m' < m ∧ W (i + 1) m' H') ∧
        ∀ x H', (Itl K a).yld i H x H' → g x (wipe σ vs) H' fun τ H2 => wipe τ vs = wipe σ vs ∧ tt τ H2 fun b H3 =>
          if b = true then wi τ H3 fun J H4 => Inn J Nx g1 tt1 te D τ ws H4 else Nx H3) := by
  refine ⟨fun i m H => m = xs.length - i ∧ i ≤ xs.length ∧ P i H, ⟨_, rfl, Nat.zero_le _, h0⟩, ?_⟩
  intro i m H w
  obtain ⟨rfl, hj, p⟩ := w
  have s := hl i H hj p
  rcases Nat.lt_or_ge i xs.length with lt | ge
  · refine .inr ⟨⟨xs, xs[i], s, List.getElem?_eq_getElem lt⟩, P (i + 1), fun H' p' => ⟨_, by omega, rfl, lt, p'⟩, ?_⟩
    rintro x H' ⟨rfl, y⟩
    exact hs i x _ (y xs s) p
  · obtain rfl : i = xs.length := by omega
    exact .inl ⟨⟨xs, s, Nat.le_refl _⟩, hd H p⟩
end XA

set_option Elab.async false
set_option linter.all false
set_option maxRecDepth 100000
set_option maxHeartbeats 4000000
/-! XN: data of a size (wider than Tm). -/
namespace XA
open PySem PySem.Spec PyProof.Rows L2
theorem canLayAll_eq : ∀ ds : List PyData, PyData.canLayAll0 ds = ds.all PyData.canLay0
  | [] => rfl
  | d :: r => by
    rw [List.all_cons, ← canLayAll_eq r]
    rfl
/-- at most k deep, shown in at most n letters -/
structure Sz (k n : Nat) (d : PyData) : Prop where
  sh : d.showable = true
  nd : d.hasDict = false
  dp : d.depth ≤ k
  ln : d.shown.length ≤ n
  ly : d.canLay0 = true
theorem Sz.le {k n k' n' : Nat} {d : PyData} (h : Sz k n d) (e1 : k ≤ k') (e2 : n ≤ n') : Sz k' n' d :=
  ⟨h.sh, h.nd, Nat.le_trans h.dp e1, Nat.le_trans h.ln e2, h.ly⟩
theorem Sz.shaped {k n : Nat} {d : PyData} (h : Sz k n d) (e : k ≤ 64) : SeqAt.shaped d = true := by
  unfold SeqAt.shaped
  rw [h.ly, Bool.true_and]
  exact decide_eq_true (Nat.le_trans h.dp e)
theorem szAll {k n m : Nat} {ds : List PyData} (hl : ds.length ≤ m) (h : ∀ d ∈ ds, Sz k n d) :
    PyData.showableAll ds = true ∧ PyData.hasDictAll ds = false ∧ PyData.depthAll ds ≤ k ∧ ((PyData.shownAll ds).map fun x => x.length).sum ≤ m * n ∧ PyData.canLayAll0 ds = true := by
  refine ⟨?_, ?_, depthAll_le ds fun d hd => (h d hd).dp, ?_, ?_⟩
  · rw [showableAll_eq, List.all_eq_true]
    exact fun d hd => (h d hd).sh
  · rw [hasDictAll_eq, List.any_eq_false]
    exact fun d hd => by rw [(h d hd).nd]; decide
  · have s := sum_le (B := n) (ds.map ((fun x => x.length) ∘ PyData.shown)) (by
      intro x hx
      obtain ⟨d, hd, rfl⟩ := List.mem_map.mp hx
      exact (h d hd).ln)
    rw [List.length_map] at s
    rw [shownAll_eq, List.map_map]
    exact Nat.le_trans s (Nat.mul_le_mul_right n hl)
  · rw [canLayAll_eq, List.all_eq_true]
    exact fun d hd => (h d hd).ly
theorem szT {k n m : Nat} {ds : List PyData} (hl : ds.length ≤ m) (h : ∀ d ∈ ds, Sz k n d) : Sz (k + 1) (m * (n + 2) + 3) (.tuple ds) := by
  obtain ⟨h1, h2, h3, h4, h5⟩ := szAll hl h
  refine ⟨h1, h2, Nat.succ_le_succ h3, ?_, h5⟩
  show (tupleText (PyData.shownAll ds)).length ≤ _
  have z := tupleText_len_le (PyData.shownAll ds)
  rw [shownAll_eq] at z h4 ⊢
  rw [List.length_map] at z
  have e : m * (n + 2) = m * n + m * 2 := Nat.mul_add m n 2
  omega
theorem szL {k n m : Nat} {ds : List PyData} (hl : ds.length ≤ m) (h : ∀ d ∈ ds, Sz k n d) : Sz (k + 1) (m * (n + 2) + 3) (.list ds) := by
  obtain ⟨h1, h2, h3, h4, h5⟩ := szAll hl h
  refine ⟨h1, h2, Nat.succ_le_succ h3, ?_, h5⟩
  show (listText (PyData.shownAll ds)).length ≤ _
  have z := listText_len_le (PyData.shownAll ds)
  rw [shownAll_eq] at z h4 ⊢
  rw [List.length_map] at z
  have e : m * (n + 2) = m * n + m * 2 := Nat.mul_add m n 2
  omega
theorem szI (k : Nat) {i : Int} (h : i.natAbs < 10 ^ 30) : Sz k 130 (.int i) := by
  obtain ⟨h1, h2, h3, h4⟩ := (tmI 0 h : Tm 0 (.int i)).ok
  exact ⟨h1, h2, Nat.le_trans h3 (Nat.zero_le _), h4, rfl⟩
theorem szN (k : Nat) : Sz k 4 .none := ⟨rfl, rfl, Nat.zero_le _, by decide, rfl⟩
theorem szB (k : Nat) (b : Bool) : Sz k 5 (.bool b) := ⟨rfl, rfl, Nat.zero_le _, by cases b <;> decide, rfl⟩
theorem szS (k : Nat) {x : Str} {n : Nat} (h : (reprText x).length ≤ n) (h2 : (PyData.str x).canLay0 = true) : Sz k n (.str x) := ⟨rfl, rfl, Nat.zero_le _, h, h2⟩
theorem repr_sz {K : PySem.W.Frag} {H : Hp} {av : Addr} {v : V} {d : PyData} {Q : VK} {k n : Nat} (h : Da K H av v d) (t : Sz k n d) (hk : k ≤ 100) (hn : n ≤ 16777216) (q : Q (.str d.shown) H) : rReprD K [v] H Q :=
  ⟨v, d, rfl, h.dp, t.sh, t.nd, Nat.le_trans t.dp hk, Nat.le_trans t.ln hn, q⟩
theorem szRow {row : List Int} {p : Int} {m : Nat} (hl : row.length ≤ m) (hp : p ≤ 97) (h : ∀ x ∈ row, 0 ≤ x ∧ x < p) : Sz 1 (m * 132 + 3) (rowD row) := by
  refine szT (by rw [List.length_map]; exact hl) ?_
  intro d hd
  obtain ⟨x, hx, rfl⟩ := List.mem_map.mp hd
  obtain ⟨h1, h2⟩ := h x hx
  exact szI 0 (by omega)
def Good' (rows : List (List Int)) (p : Int) (m : Nat) : Prop := ∀ row ∈ rows, row.length ≤ m ∧ ∀ x ∈ row, 0 ≤ x ∧ x < p
theorem szMat {r c : Int} {rows : List (List Int)} {p : Int} {a b : Nat} (h : Good' rows p b) (hp : p ≤ 97) (hl : rows.length ≤ a) (hr : r.natAbs < 10 ^ 30) (hc : c.natAbs < 10 ^ 30) :
    Sz 3 (3 * (a * (b * 132 + 5) + 135) + 3) (matD r c rows) := by
  have t : Sz 2 (a * (b * 132 + 5) + 3) (.tuple (rows.map rowD)) := szT (by rw [List.length_map]; exact hl) (by
    intro d hd
    obtain ⟨row, hr', rfl⟩ := List.mem_map.mp hd
    obtain ⟨g1, g2⟩ := h row hr'
    exact szRow g1 hp g2)
  refine (szT (m := 3) (n := a * (b * 132 + 5) + 133) (by simp) (all3 ((szI _ hr).le (Nat.le_refl _) (by omega)) ((szI _ hc).le (Nat.le_refl _) (by omega)) (t.le (by decide) (by omega)))).le (Nat.le_refl _) (by omega)
theorem eqv_nilL (ds : List PyData) : PyData.eqv (.list ds) (.list []) = ds.isEmpty := by
  cases ds <;> rfl
theorem eqv_nilT (ds : List PyData) : PyData.eqv (.tuple ds) (.tuple []) = ds.isEmpty := by
  cases ds <;> rfl
end XA

set_option Elab.async false
set_option linter.all false
set_option maxRecDepth 100000
set_option maxHeartbeats 4000000
/-! XO: matrices as data, taken apart. -/
namespace XA
open PySem PySem.Spec PyProof.Rows L2
/-- rows of w numbers by p -/
def Good (rows : List (List Int)) (w : Nat) (p : Int) : Prop := ∀ row ∈ rows, row.length = w ∧ ∀ x ∈ row, 0 ≤ x ∧ x < p

def matsD : PyData → Int → Bool
  | .list ds, p => ds.all (fun x => isMatD x p)
  | _, _ => false
theorem lst_of {d : PyData} (h : isD d "list" = true) : ∃ ds, d = .list ds := by
  cases d <;> first | exact ⟨_, rfl⟩ | (simp [isD, tyD] at h)
theorem matsD_no {d : PyData} {p : Int} (h : isD d "list" = false) : matsD d p = false := by
  cases d <;> first | rfl | (simp [isD, tyD] at h)
/-- columns for rows -/
def flipR (k : Nat) (rows : List (List Int)) : List (List Int) := (List.range k).map fun j => rows.map fun row => row.getD j 0
theorem ints_of {m : Int} : ∀ {ds : List PyData}, ds.all (fun x => wholeTo x m) = true → ∃ ns : List Int, ds = ns.map .int ∧ ∀ x ∈ ns, 0 ≤ x ∧ x ≤ m
  | [], _ => ⟨[], rfl, fun x hx => by cases hx⟩
  | d :: r, h => by
    rw [List.all_cons, Bool.and_eq_true] at h
    obtain ⟨i, rfl, i0, i1⟩ := wholeTo_int h.1
    obtain ⟨ns, rfl, hn⟩ := ints_of h.2
    refine ⟨i :: ns, rfl, fun x hx => ?_⟩
    rcases List.mem_cons.mp hx with e | hx
    · rw [e]
      exact ⟨i0, i1⟩
    · exact hn x hx
theorem rows_of {k : Nat} {p : Int} : ∀ {ds : List PyData}, ds.all (fun x => isRowD x k p) = true → ∃ rows : List (List Int), ds = rows.map rowD ∧ Good rows k p
  | [], _ => ⟨[], rfl, fun x hx => by cases hx⟩
  | d :: r, h => by
    rw [List.all_cons, Bool.and_eq_true] at h
    obtain ⟨rows, rfl, hg⟩ := rows_of h.2
    have h1 := h.1
    cases d with
    | tuple ds =>
      have h2 : (decide ((ds.length : Int) = k) && ds.all (fun x => wholeTo x (p - 1))) = true := h1
      rw [Bool.and_eq_true] at h2
      obtain ⟨ns, rfl, hn⟩ := ints_of h2.2
      have hl := of_decide_eq_true h2.1
      rw [List.length_map] at hl
      refine ⟨ns :: rows, rfl, fun row hr => ?_⟩
      rcases List.mem_cons.mp hr with e | hr
      · rw [e]
        exact ⟨by omega, fun x hx => by have := hn x hx; omega⟩
      · exact hg row hr
    | _ => exact absurd (show false = true from h1) (by decide)
theorem matD_of {d : PyData} {p : Int} (h : isMatD d p = true) : ∃ (r k : Nat) (rows : List (List Int)), d = matD r k rows ∧ rows.length = r ∧ r ≤ 2000 ∧ k ≤ 2000 ∧ Good rows k p := by
  cases ht : isD d "tuple" with
  | false => rw [isMatD_no ht] at h; cases h
  | true =>
    obtain ⟨ds, rfl⟩ := tup_of ht
    by_cases hl : ds.length = 3
    · obtain ⟨d1, d2, d3, rfl⟩ := len3 hl
      cases h1 : wholeTo d1 2000 with
      | false => rw [isMatD_1 h1] at h; cases h
      | true =>
        cases h2 : wholeTo d2 2000 with
        | false => rw [isMatD_2 h2] at h; cases h
        | true =>
          cases h3 : isD d3 "tuple" with
          | false =>
            rw [isMatD_3 fun rows z => by rw [z] at h3; simp [isD, tyD] at h3] at h
            cases h
          | true =>
            obtain ⟨rs, rfl⟩ := tup_of h3
            obtain ⟨i, rfl, i0, i1⟩ := wholeTo_int h1
            obtain ⟨j, rfl, j0, j1⟩ := wholeTo_int h2
            obtain ⟨r, rfl⟩ : ∃ n : Nat, i = n := ⟨i.toNat, by omega⟩
            obtain ⟨k, rfl⟩ : ∃ n : Nat, j = n := ⟨j.toNat, by omega⟩
            rw [isMatD_in ⟨i0, i1⟩ ⟨j0, j1⟩, Bool.and_eq_true] at h
            obtain ⟨rows, rfl, hg⟩ := rows_of h.2
            have hl := of_decide_eq_true h.1
            rw [List.length_map] at hl
            exact ⟨r, k, rows, rfl, by omega, by omega, by omega, hg⟩
    · rw [isMatD_len p hl] at h
      cases h
theorem word_is {x y : Str} {A B : Prop} (e : x = y) (h : B) : if (!decide (V.str x = V.str y)) = true then A else B := by
  subst e
  rw [decide_eq_true rfl]
  exact iteF h
theorem matOk {r k : Nat} {rows : List (List Int)} {p : Int} (hl : rows.length = r) (hg : Good rows k p) (hr : r ≤ 2000) (hk : k ≤ 2000) : isMatD (matD r k rows) p = true := by
  show isMatD (.tuple [.int r, .int k, .tuple (rows.map rowD)]) p = true
  rw [isMatD_in ⟨by omega, by omega⟩ ⟨by omega, by omega⟩, Bool.and_eq_true]
  refine ⟨decide_eq_true (by rw [List.length_map, hl]), ?_⟩
  rw [List.all_eq_true]
  intro d hd
  obtain ⟨row, hm, rfl⟩ := List.mem_map.mp hd
  obtain ⟨g0, g1⟩ := hg row hm
  show (decide (((row.map PyData.int).length : Int) = k) && (row.map PyData.int).all (fun x => wholeTo x (p - 1))) = true
  rw [Bool.and_eq_true]
  refine ⟨decide_eq_true (by rw [List.length_map, g0]), ?_⟩
  rw [List.all_eq_true]
  intro x hx
  obtain ⟨z, hz, rfl⟩ := List.mem_map.mp hx
  obtain ⟨z0, z1⟩ := g1 z hz
  exact decide_eq_true ⟨z0, by omega⟩
theorem good_noughts (r k : Nat) {p : Int} (hp : 2 ≤ p) : Good (noughtsR r k) k p := by
  intro row hr
  rw [List.eq_of_mem_replicate hr, List.length_replicate]
  refine ⟨rfl, fun x hx => ?_⟩
  rw [List.eq_of_mem_replicate hx]
  exact ⟨by decide, by omega⟩
theorem good_ones (m : Nat) {p : Int} (hp : 2 ≤ p) : Good (onesR m) m p := by
  intro row hr
  obtain ⟨i, _, rfl⟩ := List.mem_map.mp hr
  refine ⟨by rw [List.length_map, List.length_range], fun x hx => ?_⟩
  obtain ⟨j, _, rfl⟩ := List.mem_map.mp hx
  by_cases e : j = i
  · rw [if_pos e]
    exact ⟨by decide, by omega⟩
  · rw [if_neg e]
    exact ⟨by decide, by omega⟩
theorem tm_mat {r k : Nat} {rows : List (List Int)} {p : Int} (hl : rows.length = r) (hg : Good rows k p) (hr : r ≤ 8) (hk : k ≤ 8) (hp : p ≤ 97) : Tm 5 (matD r k rows) := by
  have t : Tm 2 (.tuple (rows.map rowD)) := tmT (by rw [List.length_map]; omega) (by
    intro d hd
    obtain ⟨row, hr', rfl⟩ := List.mem_map.mp hd
    obtain ⟨g1, g2⟩ := hg row hr'
    exact tm_row (by omega) hp g2)
  exact tmT (by simp) (all3 (tmI _ (by omega)) (tmI _ (by omega)) (t.le (by decide)))
theorem pickD {K : PySem.W.Frag} {H : Hp} {av : Addr} : ∀ {vs : List V} {ds : List PyData}, DaAll K H av vs ds → ∀ x ∈ vs, ∃ d ∈ ds, Da K H av x d
  | _, _, .nil, x, hx => by cases hx
  | _, _, .cons a b, x, hx => by
    rcases List.mem_cons.mp hx with e | hx
    · rw [e]
      exact ⟨_, List.mem_cons_self, a⟩
    · obtain ⟨d, h1, h2⟩ := pickD b x hx
      exact ⟨d, List.mem_cons_of_mem _ h1, h2⟩
theorem depth_mat (r c : Int) (rows : List (List Int)) : (matD r c rows).depth ≤ 3 := by
  have h1 : PyData.depthAll (rows.map rowD) ≤ 1 := depthAll_le _ (by
    intro d hd
    obtain ⟨row, _, rfl⟩ := List.mem_map.mp hd
    show PyData.depthAll (row.map .int) + 1 ≤ 1
    rw [depth_ints]
    exact Nat.le_refl _)
  show max 0 (max 0 (max (PyData.depthAll (rows.map rowD) + 1) 0)) + 1 ≤ 3
  omega
theorem shaped_mat (r c : Int) (rows : List (List Int)) : SeqAt.shaped (matD r c rows) = true := by
  unfold SeqAt.shaped
  rw [Bool.and_eq_true]
  constructor
  · show PyData.canLay0 (.tuple [.int r, .int c, .tuple (rows.map rowD)]) = true
    simp only [PyData.canLay0, PyData.canLayAll0, lay_rows, Bool.and_self]
  · refine decide_eq_true ?_
    have := depth_mat r c rows
    omega
theorem wholeTo_nat {n : Nat} {m : Int} {A : Prop} (hn : (n : Int) ≤ m) (h : wholeTo (.int (n : Int)) m = false) : A := by
  have h' : decide (0 ≤ (n : Int) ∧ (n : Int) ≤ m) = false := h
  rw [decide_eq_true (by omega)] at h'
  cases h'
end XA

set_option Elab.async false
set_option linter.all false
set_option maxRecDepth 100000
set_option maxHeartbeats 4000000
/-! XP: the sum of a tuple; isinstance with several classes; objects of the program's classes. -/
namespace XA
open PySem PySem.Spec PyProof.Rows L2
def rSumT (K : PySem.W.Frag) : List V → Hp → VK → Prop := fun vs H Q => ∃ (a : Addr) (ns : List Int), vs = [V.ref a] ∧ SqT K H a (ns.map V.int) ∧ Q (.int ns.sum) H
theorem cr_sumT {X : Cx} (hc : X.calm = true) : CallR X (.builtin "sum") (rSumT X.K) := by
  intro pins s σ H vs us Q I r h
  obtain ⟨a, ns, rfl, hs, q⟩ := h
  obtain ⟨its, rv, ht, _⟩ := I.tuple hs
  rw [Vals.ref1 r]
  have hi := rv.ints
  obtain ⟨ys, hy⟩ := hi.allInts.items
  have hn : numsOf its.toArray.toList = ns := by
    show numsOf its = ns
    exact hi.numsOf
  have ht2 : s.heap.IsTuple a its.toArray := ht
  rw [hy] at ht2 hn
  rw [nums_intItems] at hn
  refine PySem.W.ktm_sumG (I.ok.hd hc) ht2 fun h' tk t' hk => ⟨.int ns.sum, H, I.kept hk, ⟨t', ?_⟩, q⟩
  rw [preSum_eq, List.take_of_length_le (by simp), hn]
def rIsZT (K : PySem.W.Frag) : List V → Hp → VK → Prop := fun xs H Q => ∃ (x : V) (tp : Addr) (cs : List V) (t : Value) (us : List Value) (b : Bool),
  xs = [x, .ref tp] ∧ H tp = some (.tup cs) ∧ Paired ClsV cs us ∧ TyZ K H x t ∧ PySem.W.kitAny K t us = some b ∧ Q (.bl b) H
theorem call_isZT {X : Cx} : CallR X (.builtin "isinstance") (rIsZT X.K) := by
  intro pins s σ H xs us Q I r h
  obtain ⟨x, tp, cs, t, ws, b, rfl, hT, k, ty, e, q⟩ := h
  cases ty with
  | x ty => exact call_isiT pins s σ H _ us Q I r ⟨x, tp, cs, t, ws, b, rfl, hT, k, ty, e, q⟩
  | @exc a D C hx =>
    obtain ⟨v1, v2, rfl, q1, q2⟩ := vals2 r
    cases (show v2 = Value.ref tp from q2)
    cases (show v1 = Value.ref a from q1)
    obtain ⟨⟨oe, fs, hget, hz, hv⟩, _⟩ := I.hok a _ hx
    have J : PySem.W.InstAt s.heap a oe D none := by
      obtain ⟨oc, od, oda, osl⟩ := oe
      obtain ⟨g1, g2⟩ := hz
      dsimp only at g1 g2 hv
      subst g1 g2 hv
      exact ⟨hget, rfl, rfl, trivial⟩
    obtain ⟨_, its, rv, o, w1, w2, n, w3⟩ := (show ObjOk X.prog X.w H s.heap tp (.tup cs) from I.hok tp _ hT)
    have e3 := ClsV.all k rv
    subst e3
    obtain ⟨oc, od, dt, sl⟩ := o
    dsimp only at w2 w3
    subst w2 w3
    exact PySem.W.kia_tup (PySem.W.handS_kitx_exc C.hg C.hk C.hs C.hd C.ha C.hn C.ht C.hm) I.kIn J w1 e (fun z => nomatch z) fun tk => ⟨.bl b, H, I.tok tk, rfl, q⟩

/-! ### objects -/
/-- the address of a class's method -/
abbrev mAt (K : PySem.W.Frag) (C m : Str) : Addr := He.ma K (He.ga K C) m
abbrev MnP (K : PySem.W.Frag) (C m qual : Str) (st : Stmt) (kws : List (Str × V)) (fd : FuncData) : Prop :=
  FunD K m qual (defArgs st) (defBody st) (defScope st) [] kws (mAt K C m) fd
/-- the class called x is made by n values and the keywords ks, its __init__ keeps its promise -/
structure HasM (P : Program) (w : World) (K : PySem.W.Frag) (mg : Str → Option Value) (base : Heap) (CX : CXT) (k : Nat) (x : Str) (ps : List Str) (n : Nat) (ks : List Str) (sp : Sp) : Prop where
  fn : ∃ fd, FnOk P w K mg base CX k (mAt K x "__init__") fd ps sp ∧ KBn K fd ps (n + 1) ks (fun us ws => us ++ ws) (fun vs zs => vs ++ zs)
  mkr : Mk K (He.ga K x) (mAt K x "__init__")
  gl : mg x = some (.ref (He.ga K x))
section
variable {X : Cx} {CX : CXT} {k n : Nat} {ps ks : List Str} {sp : Sp} {E : XK} {x : Str} {p pos : Pos} {e : Expr} {es : List Expr} {kws : List Keyword} {t tk : TA}
theorem pe_hasM (h : HasM X.prog X.w X.K X.mg X.base CX k x ps n ks sp) (hr : Room (k + 1) X.A) (hx : Passes CX X E) (ha : PA X (e :: es) t) (hkw : PK X kws tk) (hg : Gl X x := by rfl)
    (hall : (backToKw pos (keywordEach kws X.env)).all (·.1.isSome) = true := by rfl)
    (hks : (backToKw pos (keywordEach kws X.env)).filterMap (·.1) = ks := by rfl)
    (hdb : (x == ("__debug__" : Str)) = false := by decide) (he : starEach (e :: es) X.env = (false, eval e X.env) :: starEach es X.env := by rfl)
    (hpl : ((backTo pos (starEach (e :: es) X.env)).any (·.1) || (backToKw pos (keywordEach kws X.env)).any (·.1.isNone)) = false := by rfl) :
    PE X (.Call (.Name x p) (e :: es) kws pos) (tMakeN (He.ga X.K x) n ks.length sp (fun vs zs => vs ++ zs) E t tk) := by
  obtain ⟨fd, F, b⟩ := h.fn
  exact pe_makeN h.mkr F hr hg h.gl b hx ha hkw hall hks hdb he hpl
end
theorem hasM_of {P : Program} {w : World} {K : PySem.W.Frag} {mg : Str → Option Value} {base : Heap} {CX : CXT} {k n : Nat} {x qual : Str} {ps ks : List Str} {sp : Sp} {st : Stmt} {kws : List (Str × V)} {fd : FuncData}
    (F : MnP K x "__init__" qual st kws fd) (G : FnOk P w K mg base CX k (mAt K x "__init__") fd ps sp) (mk : Mk K (He.ga K x) (mAt K x "__init__")) (gl : mg x = some (.ref (He.ga K x)))
    (h : ∀ (kV doc pm : Value) (an : Option Addr) (cdv ct : Value) (us ws : List Value), us.length = n + 1 → ws.length = ks.length →
      bindArgs (PySem.W.fnOf "__init__" qual (defArgs st) (defBody st) (defScope st) .none kV doc pm an cdv ct) ⟨us, ks.zip ws⟩ = pure (ps.zip (us ++ ws))) :
    HasM P w K mg base CX k x ps n ks sp := by
  obtain ⟨oc, od, dV, kV, doc, pm, an, cdv, ct, osl, rfl, lk, hcd, hD, hK⟩ := id F.ex
  rcases hD with ⟨_, rfl⟩ | ⟨e, _⟩
  · exact ⟨⟨_, G, kbn_of (h kV doc pm an cdv ct)⟩, mk, gl⟩
  · exact absurd rfl e
/-- the statements of a class -/
def clsBody : Stmt → List Stmt
  | .ClassDef _ _ _ b _ _ _ _ _ _ _ => b
  | _ => []
end XA

set_option Elab.async false
set_option linter.all false
set_option maxRecDepth 100000
set_option maxHeartbeats 4000000
/-! XQ: comprehensions over zip of tuples. -/
namespace XA
open PySem PySem.Spec PyProof.Rows L2
theorem lc_zipT {K : PySem.W.Frag} {a b : Addr} {xs ys : List V} {g : TG} {tt : TT} {te : TE} {vs : List Nat} {σ : L2.St} {H1 : Hp} {D : Addr} {Qd : Hp → Prop} (hl : xs.length = ys.length) (P : Nat → Hp → Prop)
    (h0 : P 0 (L2.upd H1 D (.lst []))) (hq : ∀ i H, i ≤ xs.length → P i H → SqT K H a xs ∧ SqT K H b ys)
    (hs : ∀ i x y T H, xs[i]? = some x → ys[i]? = some y → P i H → H T = none → g (.ref T) (wipe σ vs) (L2.upd H T (.tup [x, y])) fun τ H2 => wipe τ vs = wipe σ vs ∧ tt τ H2 fun b H3 =>
      if b = true then te τ H3 fun z H4 => ∃ acc, H4 D = some (.lst acc) ∧ acc.length < sizeLine ∧ P (i + 1) (L2.upd H4 D (.lst (acc ++ [z]))) else P (i + 1) H3) (hd : ∀ H, P xs.length H → Qd H) :
    ∃ W : Nat → Nat → Hp → Prop, (∃ m, W 0 m (L2.upd H1 D (.lst []))) ∧ ∀ i m H, W i m H → ((RZ.ItzT K a b).stop i H ∧ Qd H) ∨
      ((RZ.ItzT K a b).go i H ∧ ∃ Nx : Hp → Prop, (∀ H', Nx H' → ∃ m', m' < m ∧ W (i + 1) m' H') ∧
        ∀ x H', (RZ.ItzT K a b).yld i H x H' → g x (wipe σ vs) H' fun τ H2 => wipe τ vs = wipe σ vs ∧ tt τ H2 fun b H3 =>
          if b = true then te τ H3 fun z H4 => ∃ acc, H4 D = some (.lst acc) ∧ acc.length < sizeLine ∧ Nx (L2.upd H4 D (.lst (acc ++ [z]))) else Nx H3) := by
  refine ⟨fun i m H => m = xs.length - i ∧ i ≤ xs.length ∧ P i H, ⟨_, rfl, Nat.zero_le _, h0⟩, ?_⟩
  intro i m H w
  obtain ⟨rfl, hj, p⟩ := w
  obtain ⟨sa, sb⟩ := hq i H hj p
  rcases Nat.lt_or_ge i xs.length with lt | ge
  · have lt2 : i < ys.length := by omega
    refine .inr ⟨⟨xs, ys, _, _, sa, sb, List.getElem?_eq_getElem lt, List.getElem?_eq_getElem lt2⟩, P (i + 1), fun H' p' => ⟨_, by omega, rfl, lt, p'⟩, ?_⟩
    rintro v H' ⟨T, x, y, rfl, nT, rfl, f1, f2⟩
    exact hs i x y T H (f1 xs sa) (f2 ys sb) p nT
  · obtain rfl : i = xs.length := by omega
    exact .inl ⟨⟨xs, ys, sa, sb, .inl (Nat.le_refl _)⟩, hd H p⟩
section
variable {X : Cx} (K : PySem.W.Frag) (h : X.K = K := by rfl)
include h
theorem pg_tupK {es : List Expr} {k : Nat} {t : TGs} {n : Nat} {pos : Pos} (hc : X.calm = true) (hp : PGs X es t)
    (hn : (assignEach es X.env).length = n := by rfl) (hst : (assignEach es X.env).findIdx? (·.1) = none := by rfl) : PG X (.Tuple es k pos) (gTup K n t) := h ▸ pg_tup hc hp hn hst
theorem pe_fldK {e : Expr} {f : Str} {pos : Pos} {ta : TE} (he : PE X e ta) (hb : attributeBase e f X.env (eval e X.env) = eval e X.env) : PE X (.Attribute e f pos) (tFld K ta f) := h ▸ pe_fld he hb
theorem pi_zipAK {e e2 : Expr} {ta : TA} {p pos tpos : Pos} {elts : List Expr} {kk : Nat} (hg : Gl X "zip") (hm : X.mg "zip" = none) (ha : PA X [e, e2] ta)
    (hs : starEach [e, e2] X.env = (false, eval e X.env) :: starEach [e2] X.env := by rfl) (hpl : (backTo pos (starEach [e2] X.env)).any (·.1) = false := by rfl) :
    PI X (.Tuple elts kk tpos) (.Call (.Name "zip" p) [e, e2] [] pos) (RZ.iZipA K ta) := h ▸ RZ.pi_zipA hg hm ha hs hpl
theorem cr_sumTK (hc : X.calm = true) : CallR X (.builtin "sum") (rSumT K) := h ▸ cr_sumT hc
theorem cr_sumK (hc : X.calm = true) : CallR X (.builtin "sum") (rSum K) := h ▸ cr_sum hc
theorem call_isZTK : CallR X (.builtin "isinstance") (rIsZT K) := h ▸ call_isZT
end
/-! ### nets -/
/-- an object of the class Net -/
def NetAt (K : PySem.W.Frag) (H : Hp) (a : Addr) (r ar p : V) : Prop := ∃ dx, H a = some (.ins (He.ga K "Net") dx [("rooms", r), ("arrows", ar), ("prime", p)])
theorem NetAt.same {K : PySem.W.Frag} {H H' : Hp} {a : Addr} {r ar p : V} (h : NetAt K H a r ar p) (s : Same H H') : NetAt K H' a r ar p := by
  obtain ⟨dx, e⟩ := h
  exact ⟨dx, s _ _ e⟩
theorem NetAt.ne {K : PySem.W.Frag} {H : Hp} {a b : Addr} {xs : List V} {r ar p : V} (h : NetAt K H a r ar p) (hb : H b = some (.lst xs)) : a ≠ b := by
  obtain ⟨dx, e⟩ := h
  rintro rfl
  rw [hb] at e
  cases e
theorem NetAt.oth {K : PySem.W.Frag} {H H' : Hp} {a pen c : Addr} {n : Int} {r ar p : V} (h : NetAt K H a r ar p) (P : PenC H pen c n) (s : Oth H H' pen) : NetAt K H' a r ar p := by
  obtain ⟨cells, x, l, h1, _⟩ := P
  have ne := h.ne h1
  obtain ⟨dx, e⟩ := h
  exact ⟨dx, s _ _ ne e⟩
def arrD (x : Int × Int) : PyData := .tuple [.int x.1, .int x.2]
def arrsD (l : List (Int × Int)) : PyData := .tuple (l.map arrD)
def arrowOk (r : Int) : PyData → Bool
  | .tuple [x, y] => wholeTo x (r - 1) && (wholeTo y (r - 1) && !(PyData.eqv x y))
  | _ => false
def roomsOk : PyData → Bool
  | .int r => decide (1 ≤ r ∧ r ≤ 8)
  | _ => false
def arrowsOk (r : Int) : PyData → Bool
  | .tuple ds => decide (ds.length ≤ 12) && ds.all (arrowOk r)
  | _ => false
def netD (dr da : PyData) : Bool := match dr with
  | .int r => decide (1 ≤ r ∧ r ≤ 8) && arrowsOk r da
  | _ => false
def intD : PyData → Int
  | .int i => i
  | _ => 0
def heapD (rooms : Int) : PyData → Bool
  | .tuple ds => decide ((ds.length : Int) = rooms) && (ds.all (fun d => wholeTo d 12) && decide ((ds.map intD).sum ≤ 30))
  | _ => false
def formI (arrows : List (Int × Int)) (xs ys : List Int) : Int :=
  (List.zipWith (· * ·) xs ys).sum - (arrows.map fun a => xs.getD a.1.toNat 0 * ys.getD a.2.toNat 0).sum
theorem heapD_ints (rooms : Int) (ns : List Int) : heapD rooms (.tuple (ns.map .int)) = (decide ((ns.length : Int) = rooms) && (ns.all (fun x => decide (0 ≤ x ∧ x ≤ 12)) && decide (ns.sum ≤ 30))) := by
  have e : ((ns.map PyData.int).map intD) = ns := by
    rw [List.map_map]
    exact List.map_id _
  unfold heapD
  dsimp only
  rw [e, List.length_map, List.all_map]
  rfl
theorem heapD_of {rooms : Int} {d : PyData} (h : heapD rooms d = true) : ∃ ns : List Int, d = .tuple (ns.map .int) ∧ (ns.length : Int) = rooms ∧ (∀ x ∈ ns, 0 ≤ x ∧ x ≤ 12) ∧ ns.sum ≤ 30 := by
  cases d with
  | tuple ds =>
    have h1 : (decide ((ds.length : Int) = rooms) && (ds.all (fun d => wholeTo d 12) && _)) = true := h
    rw [Bool.and_eq_true, Bool.and_eq_true] at h1
    obtain ⟨ns, rfl, hn⟩ := ints_of h1.2.1
    rw [heapD_ints] at h
    rw [Bool.and_eq_true, Bool.and_eq_true] at h
    refine ⟨ns, rfl, of_decide_eq_true h.1, hn, of_decide_eq_true h.2.2⟩
  | _ => cases h
theorem heapD_no {rooms : Int} {d : PyData} (h : isD d "tuple" = false) : heapD rooms d = false := by
  cases d <;> first | rfl | (simp [isD, tyD] at h)
end XA

set_option Elab.async false
set_option linter.all false
set_option maxRecDepth 100000
set_option maxHeartbeats 4000000
/-! XR: zip of a list and a tuple, in either place. -/
namespace XA
open PySem PySem.Spec PyProof.Rows L2
/-- a list (true), a tuple (false) at l; an iterator over such at i -/
def IsQ : Bool → Heap → Addr → Array Value → Prop
  | true, h, l, xs => h.IsList l xs
  | false, h, l, xs => h.IsTuple l xs
def IsI : Bool → Heap → Addr → Addr → Nat → Prop
  | true, h, i, l, n => h.IsListIter i l n
  | false, h, i, l, n => h.IsTupleIter i l n
def itN : Bool → String
  | true => "list_iterator"
  | false => "tuple_iterator"
theorem IsQ.stay {b : Bool} {h h' : Heap} {l : Addr} {xs : Array Value} (q : IsQ b h l xs) (k : ∀ o, h.get? l = some o → h'.get? l = some o) : IsQ b h' l xs := by
  cases b with
  | true =>
    obtain ⟨o, e, r⟩ := (show h.IsList l xs from q)
    exact (⟨o, k o e, r⟩ : h'.IsList l xs)
  | false =>
    obtain ⟨o, e, r⟩ := (show h.IsTuple l xs from q)
    exact (⟨o, k o e, r⟩ : h'.IsTuple l xs)
theorem IsI.stay {b : Bool} {h h' : Heap} {i l : Addr} {n : Nat} (q : IsI b h i l n) (k : ∀ o, h.get? i = some o → h'.get? i = some o) : IsI b h' i l n := by
  cases b with
  | true =>
    obtain ⟨o, e, r⟩ := (show h.IsListIter i l n from q)
    exact (⟨o, k o e, r⟩ : h'.IsListIter i l n)
  | false =>
    obtain ⟨o, e, r⟩ := (show h.IsTupleIter i l n from q)
    exact (⟨o, k o e, r⟩ : h'.IsTupleIter i l n)
theorem IsI.obj {b : Bool} {h : Heap} {i l : Addr} {n : Nat} (q : IsI b h i l n) : ∃ o fs, h.get? i = some o ∧ o.data = .fields fs := by
  cases b with
  | true =>
    obtain ⟨o, e, _, r⟩ := (show h.IsListIter i l n from q)
    exact ⟨o, _, e, r⟩
  | false =>
    obtain ⟨o, e, _, r⟩ := (show h.IsTupleIter i l n from q)
    exact ⟨o, _, e, r⟩
theorem IsQ.lt {b : Bool} {h : Heap} {l : Addr} {xs : Array Value} (q : IsQ b h l xs) : l < h.objs.size := by
  cases b with
  | true =>
    obtain ⟨o, e, _⟩ := (show h.IsList l xs from q)
    exact Heap.lt_size e
  | false =>
    obtain ⟨o, e, _⟩ := (show h.IsTuple l xs from q)
    exact Heap.lt_size e
section
variable {prog : Program} {w : World} {A : Around} {E : Value → Shared → Prop} {s : Shared}
theorem nextQ_one {b : Bool} {i l : Addr} {n : Nat} {xs : Array Value} {x : Value} {Q : Value → Shared → Prop} (hi : IsI b s.heap i l n) (hl : IsQ b s.heap l xs) (hx : xs[n]? = some x)
    (q : ∀ g, IsI b g i l (n + 1) → Heap.SameBut i s.heap g → Q x { s with heap := g }) : wpAny (model prog w) A (Builtin.SmallTypes.nextOf (.ref i)) Q E s := by
  cases b with
  | true => exact wpAny_nextOf_list_item (show s.heap.IsListIter i l n from hi) (show s.heap.IsList l xs from hl) hx q
  | false => exact RZ.nextOf_tuple_item (show s.heap.IsTupleIter i l n from hi) (show s.heap.IsTuple l xs from hl) hx q
theorem nextQ_end {b : Bool} {i l : Addr} {n : Nat} {xs : Array Value} {Q : Value → Shared → Prop} (hh : A.handled = none) (hi : IsI b s.heap i l n) (hl : IsQ b s.heap l xs) (hx : xs[n]? = none)
    (q : ∀ g e, Heap.ExtBut i s.heap g → (∃ o, g.get? e = some o ∧ o.cls = .type "StopIteration") → E (.ref e) { s with heap := g }) : wpAny (model prog w) A (Builtin.SmallTypes.nextOf (.ref i)) Q E s := by
  cases b with
  | true => exact wpAny_nextOf_list_end hh (show s.heap.IsListIter i l n from hi) (show s.heap.IsList l xs from hl) hx q
  | false => exact RZ.nextOf_tuple_end hh (show s.heap.IsTupleIter i l n from hi) (show s.heap.IsTuple l xs from hl) hx q
/-- what the zip object is made of -/
structure Zp (h : Heap) (z TI TO i j : Addr) (f : Value) (a b : Value) : Prop where
  z : IsZip h z TI TO f
  ti : IsPair h TI (.ref i) (.ref j)
  to : IsPair h TO a b
theorem zipQ_one {b c : Bool} {z TI TO i j l m : Addr} {n : Nat} {xs ys : Array Value} {x y u v : Value} {Q : Value → Shared → Prop} (D : ZipApart z TI TO i j l m)
    (Z : Zp s.heap z TI TO i j .none u v) (hi : IsI b s.heap i l n) (hj : IsI c s.heap j m n) (hl : IsQ b s.heap l xs) (hm : IsQ c s.heap m ys) (hx : xs[n]? = some x) (hy : ys[n]? = some y)
    (q : ∀ g, IsZip g z TI TO (rawInt s.heap.objs.size) → IsPair g TO x y → IsI b g i l (n + 1) → IsI c g j m (n + 1) → IsPair g s.heap.objs.size x y → g.objs.size = s.heap.objs.size + 1 →
      (∀ d o, d ≠ z → d ≠ TO → d ≠ i → d ≠ j → s.heap.get? d = some o → g.get? d = some o) → Q (.ref s.heap.objs.size) { s with heap := g }) :
    wpAny (model prog w) A (Builtin.«zip.__next__» ⟨[.ref z], []⟩) (fun r s' => ∃ t, r = .done (.ret t) ∧ Q t s') E s := by
  show wpAny _ _ (field (.ref z) 2 >>= _) _ _ s
  apply wpAny_bind; refine wpAny_field Z.z rfl (x := .bool false) rfl ?_
  show wpAny _ _ (field (.ref z) 3 >>= _) _ _ s
  apply wpAny_bind; refine wpAny_field Z.z rfl (x := .ref TI) rfl ?_
  apply wpAny_bind; refine wpAny_seqItems Z.ti rfl ?_
  show wpAny _ _ (Builtin.SmallTypes.ownedTupleIsFree (.ref z) >>= _) _ _ s
  apply wpAny_bind
  unfold Builtin.SmallTypes.ownedTupleIsFree
  apply wpAny_bind; refine wpAny_field Z.z rfl (x := .none) rfl (wpAny_pure ?_)
  rw [if_pos (by rfl)]
  apply wpAny_bind; apply wpAny_rule
  apply wpAny_bind; refine wpAny_field Z.z rfl (x := .ref TO) rfl ?_
  apply wpAny_bind; refine wpAny_setField_rec Z.z (by simp) fun g1 e1 b1 => ?_
  have Z1 : IsZip g1 z TI TO .ellipsis := e1
  have k1 := b1.extBut
  apply wpAny_bind
  simp only [List.zipIdx_cons, List.zipIdx_nil, List.forIn_cons, List.forIn_nil]
  apply wpAny_bind; apply wpAny_bind; apply wpAny_onRaise
  show wpAny _ _ (Builtin.SmallTypes.nextOf (.ref i) >>= _) _ _ _
  apply wpAny_bind
  refine nextQ_one (hi.stay fun o e => k1 _ _ D.i1z e) (hl.stay fun o e => k1 _ _ D.l1z e) hx fun g2 hi2 b2 => wpAny_pure ?_
  have k2 := b2.extBut
  have T2 : IsPair g2 TO u v := k2 _ _ D.TOi1 (k1 _ _ D.TOz Z.to)
  apply wpAny_bind; refine wpAny_seqItems T2 rfl ?_
  apply wpAny_bind; refine wpAny_updateSeq_pair T2 fun g3 e3 b3 => ?_
  have T3 : IsPair g3 TO x v := e3
  have k3 := b3.extBut
  apply wpAny_bind; refine wpAny_letGo (wpAny_pure ?_)
  apply wpAny_bind; apply wpAny_bind; apply wpAny_onRaise
  show wpAny _ _ (Builtin.SmallTypes.nextOf (.ref j) >>= _) _ _ _
  apply wpAny_bind
  have up3 : ∀ d o, d ≠ z → d ≠ i → d ≠ TO → s.heap.get? d = some o → g3.get? d = some o := fun d o n1 n2 n3 e => k3 _ _ n3 (k2 _ _ n2 (k1 _ _ n1 e))
  refine nextQ_one (hj.stay fun o e => up3 _ _ D.i2z D.i12.symm D.TOi2.symm e) (hm.stay fun o e => up3 _ _ D.l2z D.l2i1 D.l2TO e) hy fun g4 hj4 b4 => wpAny_pure ?_
  have k4 := b4.extBut
  have T4 : IsPair g4 TO x v := k4 _ _ D.TOi2 T3
  apply wpAny_bind; refine wpAny_seqItems T4 rfl ?_
  apply wpAny_bind; refine wpAny_updateSeq_pair T4 fun g5 e5 b5 => ?_
  have T5 : IsPair g5 TO x y := e5
  have k5 := b5.extBut
  apply wpAny_bind; refine wpAny_letGo (wpAny_pure (wpAny_pure ?_))
  apply wpAny_bind; refine wpAny_seqItems T5 rfl ?_
  apply wpAny_bind; refine wpAny_newTuple ?_
  have size5 : g5.objs.size = s.heap.objs.size := by rw [b5.1, b4.1, b3.1, b2.1, b1.1]
  have Z5 : IsZip g5 z TI TO .ellipsis := k5 _ _ D.TOz.symm (k4 _ _ D.i2z.symm (k3 _ _ D.TOz.symm (k2 _ _ D.i1z.symm Z1)))
  have up5 : ∀ d o, d ≠ z → d ≠ TO → d ≠ i → d ≠ j → s.heap.get? d = some o → g5.get? d = some o := fun d o n1 n2 n3 n4 e => k5 _ _ n2 (k4 _ _ n4 (up3 _ _ n1 n3 n2 e))
  have hi5 : IsI b g5 i l (n + 1) := hi2.stay fun o e => k5 _ _ D.TOi1.symm (k4 _ _ D.i12 (k3 _ _ D.TOi1.symm e))
  have hj5 : IsI c g5 j m (n + 1) := hj4.stay fun o e => k5 _ _ D.TOi2.symm e
  have ltz : z < g5.objs.size := Heap.lt_size Z5
  show wpAny _ _ (Builtin.SmallTypes.ownedTupleHandOut (.ref z) (.ref g5.objs.size) >>= _) _ _ _
  apply wpAny_bind
  unfold Builtin.SmallTypes.ownedTupleHandOut
  have Z6 : IsZip (g5.push { cls := .type "tuple", data := .seq #[x, y] }) z TI TO .ellipsis := Heap.get?_push_of_some _ Z5
  apply wpAny_bind; refine wpAny_setField_rec Z6 (by simp) fun g7 e7 b7 => ?_
  have Z7 : IsZip g7 z TI TO (rawInt g5.objs.size) := e7
  refine wpAny_setField_rec Z7 (by simp) fun g8 e8 b8 => ?_
  have Z8 : IsZip g8 z TI TO (rawInt g5.objs.size) := e8
  have up8 : ∀ d o, d ≠ z → g5.get? d = some o → g8.get? d = some o := fun d o n1 e => b8.extBut _ _ n1 (b7.extBut _ _ n1 (Heap.get?_push_of_some _ e))
  have new8 : IsPair g8 g5.objs.size x y := b8.extBut _ _ (Nat.ne_of_gt ltz) (b7.extBut _ _ (Nat.ne_of_gt ltz) (Heap.get?_push_size _ rfl))
  have size8 : g8.objs.size = g5.objs.size + 1 := by rw [b8.1, b7.1, Heap.size_push]
  rw [size5] at Z8 new8 size8
  refine wpAny_pure ⟨_, rfl, ?_⟩
  show Q (.ref g5.objs.size) _
  rw [size5]
  exact q g8 Z8 (up8 _ _ D.TOz T5) (hi5.stay fun o e => up8 _ o D.i1z e) (hj5.stay fun o e => up8 _ o D.i2z e) new8 size8 fun d o n1 n2 n3 n4 e => up8 d o n1 (up5 d o n1 n2 n3 n4 e)
theorem zipQ_end {b c : Bool} {z TI TO i j l m : Addr} {n : Nat} {xs ys : Array Value} {u v : Value} {Q : Fin → Shared → Prop} (hh : A.handled = none) (D : ZipApart z TI TO i j l m)
    (Z : Zp s.heap z TI TO i j .none u v) (hi : IsI b s.heap i l n) (hj : IsI c s.heap j m n) (hl : IsQ b s.heap l xs) (hm : IsQ c s.heap m ys) (hn : xs[n]? = none ∨ ys[n]? = none)
    (q : ∀ g e, (∀ d o, d ≠ z → d ≠ TO → d ≠ i → d ≠ j → s.heap.get? d = some o → g.get? d = some o) → (∃ o, g.get? e = some o ∧ o.cls = .type "StopIteration") → E (.ref e) { s with heap := g }) :
    wpAny (model prog w) A (Builtin.«zip.__next__» ⟨[.ref z], []⟩) Q E s := by
  show wpAny _ _ (field (.ref z) 2 >>= _) _ _ s
  apply wpAny_bind; refine wpAny_field Z.z rfl (x := .bool false) rfl ?_
  show wpAny _ _ (field (.ref z) 3 >>= _) _ _ s
  apply wpAny_bind; refine wpAny_field Z.z rfl (x := .ref TI) rfl ?_
  apply wpAny_bind; refine wpAny_seqItems Z.ti rfl ?_
  show wpAny _ _ (Builtin.SmallTypes.ownedTupleIsFree (.ref z) >>= _) _ _ s
  apply wpAny_bind
  unfold Builtin.SmallTypes.ownedTupleIsFree
  apply wpAny_bind; refine wpAny_field Z.z rfl (x := .none) rfl (wpAny_pure ?_)
  rw [if_pos (by rfl)]
  apply wpAny_bind; apply wpAny_rule
  apply wpAny_bind; refine wpAny_field Z.z rfl (x := .ref TO) rfl ?_
  apply wpAny_bind; refine wpAny_setField_rec Z.z (by simp) fun g1 e1 b1 => ?_
  have Z1 : IsZip g1 z TI TO .ellipsis := e1
  have k1 := b1.extBut
  apply wpAny_bind
  simp only [List.zipIdx_cons, List.zipIdx_nil, List.forIn_cons, List.forIn_nil]
  apply wpAny_bind; apply wpAny_bind; apply wpAny_onRaise
  show wpAny _ _ (Builtin.SmallTypes.nextOf (.ref i) >>= _) _ _ _
  apply wpAny_bind
  have hi1 : IsI b g1 i l n := hi.stay fun o e => k1 _ _ D.i1z e
  have hl1 : IsQ b g1 l xs := hl.stay fun o e => k1 _ _ D.l1z e
  cases hx : xs[n]? with
  | none =>
    refine nextQ_end hh hi1 hl1 hx fun g2 e k2 he => ?_
    obtain ⟨oe, he1, he2⟩ := he
    have Z2 : IsZip g2 z TI TO .ellipsis := k2 _ _ D.i1z.symm Z1
    have nez : e ≠ z := by
      rintro rfl
      rw [Z2] at he1
      cases he1
      simp at he2
    refine wpAny_setField_rec Z2 (by simp) fun g3 _ b3 => ?_
    exact q g3 e (fun d o n1 _ n3 _ h => b3.extBut _ _ n1 (k2 _ _ n3 (k1 _ _ n1 h))) ⟨oe, b3.extBut _ _ nez he1, he2⟩
  | some x =>
    have hy : ys[n]? = none := by
      rcases hn with h | h
      · rw [hx] at h
        cases h
      · exact h
    refine nextQ_one hi1 hl1 hx fun g2 hi2 b2 => wpAny_pure ?_
    have k2 := b2.extBut
    have T2 : IsPair g2 TO u v := k2 _ _ D.TOi1 (k1 _ _ D.TOz Z.to)
    apply wpAny_bind; refine wpAny_seqItems T2 rfl ?_
    apply wpAny_bind; refine wpAny_updateSeq_pair T2 fun g3 e3 b3 => ?_
    have k3 := b3.extBut
    apply wpAny_bind; refine wpAny_letGo (wpAny_pure ?_)
    apply wpAny_bind; apply wpAny_bind; apply wpAny_onRaise
    show wpAny _ _ (Builtin.SmallTypes.nextOf (.ref j) >>= _) _ _ _
    apply wpAny_bind
    have up3 : ∀ d o, d ≠ z → d ≠ i → d ≠ TO → s.heap.get? d = some o → g3.get? d = some o := fun d o n1 n2 n3 e => k3 _ _ n3 (k2 _ _ n2 (k1 _ _ n1 e))
    refine nextQ_end hh (hj.stay fun o e => up3 _ _ D.i2z D.i12.symm D.TOi2.symm e) (hm.stay fun o e => up3 _ _ D.l2z D.l2i1 D.l2TO e) hy fun g4 e k4 he => ?_
    obtain ⟨oe, he1, he2⟩ := he
    have Z4 : IsZip g4 z TI TO .ellipsis := k4 _ _ D.i2z.symm (k3 _ _ D.TOz.symm (k2 _ _ D.i1z.symm Z1))
    have nez : e ≠ z := by
      rintro rfl
      rw [Z4] at he1
      cases he1
      simp at he2
    refine wpAny_setField_rec Z4 (by simp) fun g5 _ b5 => ?_
    exact q g5 e (fun d o n1 n2 n3 n4 h => b5.extBut _ _ n1 (k4 _ _ n4 (up3 _ _ n1 n3 n2 h))) ⟨oe, b5.extBut _ _ nez he1, he2⟩
end
end XA

set_option Elab.async false
set_option linter.all false
set_option maxRecDepth 100000
set_option maxHeartbeats 4000000
/-! XS: zip of lists and tuples as a rule of the layer. -/
namespace XA
open PySem PySem.Spec PyProof.Rows L2
section
variable {prog : Program} {w : World} {A : Around} {E : Value → Shared → Prop} {s : Shared}
theorem stepQ_one {b c : Bool} {z TI TO i j l m : Addr} {n : Nat} {xs ys : Array Value} {x y u v : Value} {Q : Option Value → Shared → Prop} (D : ZipApart z TI TO i j l m)
    (Z : Zp s.heap z TI TO i j .none u v) (hi : IsI b s.heap i l n) (hj : IsI c s.heap j m n) (hl : IsQ b s.heap l xs) (hm : IsQ c s.heap m ys) (hx : xs[n]? = some x) (hy : ys[n]? = some y)
    (q : ∀ g, IsZip g z TI TO (rawInt s.heap.objs.size) → IsPair g TO x y → IsI b g i l (n + 1) → IsI c g j m (n + 1) → IsPair g s.heap.objs.size x y → g.objs.size = s.heap.objs.size + 1 →
      (∀ d o, d ≠ z → d ≠ TO → d ≠ i → d ≠ j → s.heap.get? d = some o → g.get? d = some o) → Q (some (.ref s.heap.objs.size)) { s with heap := g }) :
    wpAny (model prog w) A (pyNext (.ref z)) Q E s := by
  have ty : s.TypeIs (.ref z) "zip" := ⟨_, Z.z, rfl⟩
  unfold pyNext
  apply wpAny_bind; apply wpAny_attempt
  refine wpAny_callSpecial?_slot (name := Str.ofString "__next__") ty F.slot_zip_next (wpAny_call_entry F.slot_zip_next ty F.entry_zip_next ?_ (F.args_zip_next_1 _))
  exact zipQ_one D Z hi hj hl hm hx hy fun g q1 q2 q3 q4 q5 q6 q7 => wpAny_pure (q g q1 q2 q3 q4 q5 q6 q7)
theorem stepQ_end {b c : Bool} {z TI TO i j l m : Addr} {n : Nat} {xs ys : Array Value} {u v : Value} {Q : Option Value → Shared → Prop} (hh : A.handled = none) (D : ZipApart z TI TO i j l m)
    (Z : Zp s.heap z TI TO i j .none u v) (hi : IsI b s.heap i l n) (hj : IsI c s.heap j m n) (hl : IsQ b s.heap l xs) (hm : IsQ c s.heap m ys) (hn : xs[n]? = none ∨ ys[n]? = none)
    (q : ∀ g, (∀ d o, d ≠ z → d ≠ TO → d ≠ i → d ≠ j → s.heap.get? d = some o → g.get? d = some o) → Q none { s with heap := g }) : wpAny (model prog w) A (pyNext (.ref z)) Q E s := by
  have ty : s.TypeIs (.ref z) "zip" := ⟨_, Z.z, rfl⟩
  unfold pyNext
  apply wpAny_bind; apply wpAny_attempt
  refine wpAny_callSpecial?_slot (name := Str.ofString "__next__") ty F.slot_zip_next (wpAny_call_entry F.slot_zip_next ty F.entry_zip_next ?_ (F.args_zip_next_1 _))
  refine zipQ_end hh D Z hi hj hl hm hn fun g e keep he => ?_
  obtain ⟨o, h1, h2⟩ := he
  apply wpAny_bind; refine wpAny_isInstance (T := "StopIteration") (b := true) ⟨o, h1, h2⟩ isSubtype_stop ?_
  exact wpAny_pure (q g keep)
end
/-! ### the zip object is made -/
abbrev zq1 (b : Bool) (h : Heap) (l : Addr) : Heap := h.push { cls := .type (itN b), data := .fields #[.ref l, .int 0 0] }
abbrev zq2 (b c : Bool) (h : Heap) (l m : Addr) : Heap := (zq1 b h l).push { cls := .type (itN c), data := .fields #[.ref m, .int 0 0] }
abbrev zq3 (b c : Bool) (h : Heap) (l m : Addr) : Heap := (zq2 b c h l m).push { cls := .type "tuple", data := .seq #[.ref h.objs.size, .ref (zq1 b h l).objs.size] }
abbrev zq4 (b c : Bool) (h : Heap) (l m : Addr) : Heap := (zq3 b c h l m).push { cls := .type "tuple", data := .seq #[.none, .none] }
abbrev zq5 (b c : Bool) (h : Heap) (l m : Addr) : Heap := (zq4 b c h l m).push { cls := .type "zip", data := .fields #[.none, .bool false, .bool false, .ref (zq2 b c h l m).objs.size, .ref (zq3 b c h l m).objs.size] }
theorem zipQ_new : ∀ (b c : Bool) (l m : Addr) (xs ys : Array Value),
    Meets (Builtin.«zip.__new__» ⟨[.type "zip", .ref l, .ref m], []⟩) (fun _ R s => IsQ b s.heap l xs ∧ IsQ c s.heap m ys ∧
      R (.ok (.ret (.ref (zq4 b c s.heap l m).objs.size))) { s with heap := zq5 b c s.heap l m })
  | true, true, l, m, xs, ys => .of_wp fun prog w A R s h => by
    obtain ⟨hp, g, d, tk, os⟩ := s
    obtain ⟨p1, p2, r⟩ := h
    have sub := sub_zip
    have q1 : Heap.IsList (Shared.heap ⟨hp, g, d, tk, os⟩) l xs := p1
    have q2 : Heap.IsList (Shared.heap ⟨hp.push { cls := .type "list_iterator", data := .fields #[.ref l, .int 0 0] }, g, d, tk, os⟩) m ys := Heap.IsList.push (show Heap.IsList hp m ys from p2) _
    wp_walk using wpAny_pyIter_list q1, wpAny_pyIter_list q2
    exact ⟨_, rfl, r⟩
  | true, false, l, m, xs, ys => .of_wp fun prog w A R s h => by
    obtain ⟨hp, g, d, tk, os⟩ := s
    obtain ⟨p1, p2, r⟩ := h
    have sub := sub_zip
    have q1 : Heap.IsList (Shared.heap ⟨hp, g, d, tk, os⟩) l xs := p1
    have q2 : Heap.IsTuple (Shared.heap ⟨hp.push { cls := .type "list_iterator", data := .fields #[.ref l, .int 0 0] }, g, d, tk, os⟩) m ys := Heap.IsTuple.push (show Heap.IsTuple hp m ys from p2) _
    wp_walk using wpAny_pyIter_list q1, wpAny_pyIter_tuple q2
    exact ⟨_, rfl, r⟩
  | false, true, l, m, xs, ys => .of_wp fun prog w A R s h => by
    obtain ⟨hp, g, d, tk, os⟩ := s
    obtain ⟨p1, p2, r⟩ := h
    have sub := sub_zip
    have q1 : Heap.IsTuple (Shared.heap ⟨hp, g, d, tk, os⟩) l xs := p1
    have q2 : Heap.IsList (Shared.heap ⟨hp.push { cls := .type "tuple_iterator", data := .fields #[.ref l, .int 0 0] }, g, d, tk, os⟩) m ys := Heap.IsList.push (show Heap.IsList hp m ys from p2) _
    wp_walk using wpAny_pyIter_tuple q1, wpAny_pyIter_list q2
    exact ⟨_, rfl, r⟩
  | false, false, l, m, xs, ys => .of_wp fun prog w A R s h => by
    obtain ⟨hp, g, d, tk, os⟩ := s
    obtain ⟨p1, p2, r⟩ := h
    have sub := sub_zip
    have q1 : Heap.IsTuple (Shared.heap ⟨hp, g, d, tk, os⟩) l xs := p1
    have q2 : Heap.IsTuple (Shared.heap ⟨hp.push { cls := .type "tuple_iterator", data := .fields #[.ref l, .int 0 0] }, g, d, tk, os⟩) m ys := Heap.IsTuple.push (show Heap.IsTuple hp m ys from p2) _
    wp_walk using wpAny_pyIter_tuple q1, wpAny_pyIter_tuple q2
    exact ⟨_, rfl, r⟩
theorem isI_new {b : Bool} {h : Heap} {i l : Addr} (e : h.get? i = some { cls := .type (itN b), data := .fields #[.ref l, .int 0 0] }) : IsI b h i l 0 := by
  cases b with
  | true => exact (⟨_, e, rfl, rfl⟩ : h.IsListIter i l 0)
  | false => exact (⟨_, e, rfl, rfl⟩ : h.IsTupleIter i l 0)
theorem call_zipQ {prog : Program} {w : World} {A : Around} {E : Value → Shared → Prop} {s : Shared} {b c : Bool} {l m : Addr} {xs ys : Array Value} {Q : Value → Shared → Prop} (hl : IsQ b s.heap l xs) (hm : IsQ c s.heap m ys)
    (q : ∀ g, Zp g (s.heap.objs.size + 4) (s.heap.objs.size + 2) (s.heap.objs.size + 3) s.heap.objs.size (s.heap.objs.size + 1) .none .none .none → IsI b g s.heap.objs.size l 0 → IsI c g (s.heap.objs.size + 1) m 0 →
      (∀ d o, s.heap.get? d = some o → g.get? d = some o) → Q (.ref (s.heap.objs.size + 4)) { s with heap := g }) :
    wpAny (model prog w) A (call (.type "zip") [.ref l, .ref m]) Q E s := by
  refine callType_new F.called_zip (by decide) (F.typeCall_zip_2 _ _) (F.newCall_zip_2 _ _) (fun obj => F.args_object_init_3 obj _ _) F.entry_zip_new (zipQ_new b c l m xs ys) ⟨hl, hm, ?_⟩
  have n1 : (zq1 b s.heap l).objs.size = s.heap.objs.size + 1 := Heap.size_push ..
  have n2 : (zq2 b c s.heap l m).objs.size = s.heap.objs.size + 2 := by rw [Heap.size_push, n1]
  have n3 : (zq3 b c s.heap l m).objs.size = s.heap.objs.size + 3 := by rw [Heap.size_push, n2]
  have n4 : (zq4 b c s.heap l m).objs.size = s.heap.objs.size + 4 := by rw [Heap.size_push, n3]
  have p5 : (zq5 b c s.heap l m).get? (zq4 b c s.heap l m).objs.size = some _ := Heap.get?_push_size _ rfl
  have p4 : (zq5 b c s.heap l m).get? (zq3 b c s.heap l m).objs.size = some _ := Heap.get?_push_of_some _ (Heap.get?_push_size _ rfl)
  have p3 : (zq5 b c s.heap l m).get? (zq2 b c s.heap l m).objs.size = some _ := Heap.get?_push_of_some _ (Heap.get?_push_of_some _ (Heap.get?_push_size _ rfl))
  have p2 : (zq5 b c s.heap l m).get? (zq1 b s.heap l).objs.size = some { cls := .type (itN c), data := .fields #[.ref m, .int 0 0] } := Heap.get?_push_of_some _ (Heap.get?_push_of_some _ (Heap.get?_push_of_some _ (Heap.get?_push_size _ rfl)))
  have p1 : (zq5 b c s.heap l m).get? s.heap.objs.size = some { cls := .type (itN b), data := .fields #[.ref l, .int 0 0] } := Heap.get?_push_of_some _ (Heap.get?_push_of_some _ (Heap.get?_push_of_some _ (Heap.get?_push_of_some _ (Heap.get?_push_size _ rfl))))
  show _ ∧ _
  rw [n2, n3, n4] at p5
  rw [n1, n2] at p3
  rw [n3] at p4
  rw [n1] at p2
  rw [n4]
  exact ⟨⟨_, p5, rfl⟩, q _ ⟨p5, p3, p4⟩ (isI_new p1) (isI_new p2) fun d o e => Heap.get?_push_of_some _ (Heap.get?_push_of_some _ (Heap.get?_push_of_some _ (Heap.get?_push_of_some _ (Heap.get?_push_of_some _ e))))⟩
/-! ### what is walked -/
def SqB (b : Bool) (K : PySem.W.Frag) (H : Hp) (a : Addr) (xs : List V) : Prop := if b = true then SqL K H a xs else SqT K H a xs
def ItzQ (b c : Bool) (K : PySem.W.Frag) (l m : Addr) : It :=
  ⟨fun n H => ∃ (xs ys : List V) (x y : V), SqB b K H l xs ∧ SqB c K H m ys ∧ xs[n]? = some x ∧ ys[n]? = some y,
    fun n H v H' => ∃ T x y, v = .ref T ∧ H T = none ∧ H' = L2.upd H T (.tup [x, y]) ∧ (∀ xs, SqB b K H l xs → xs[n]? = some x) ∧ ∀ ys, SqB c K H m ys → ys[n]? = some y,
    fun n H => ∃ xs ys : List V, SqB b K H l xs ∧ SqB c K H m ys ∧ (xs.length ≤ n ∨ ys.length ≤ n)⟩
theorem sqB_vals {X : Cx} {pins : List (Addr × Obj)} {σ : L2.St} {H : Hp} {s : Shared} (I : Inv X pins σ H s) : ∀ {b : Bool} {a : Addr} {xs : List V}, SqB b X.K H a xs → ∃ its : List Value, Vals xs its ∧ IsQ b s.heap a its.toArray
  | true, a, xs, h => by
    obtain ⟨its, r, p, _⟩ := I.list (show SqL X.K H a xs from h)
    exact ⟨its, r, p.isList⟩
  | false, a, xs, h => by
    obtain ⟨its, r, p, _⟩ := I.tuple (show SqT X.K H a xs from h)
    exact ⟨its, r, p⟩
theorem sqB_inj {X : Cx} {pins : List (Addr × Obj)} {σ : L2.St} {H : Hp} {s : Shared} (I : Inv X pins σ H s) : ∀ {b : Bool} {a : Addr} {xs ys : List V}, SqB b X.K H a xs → SqB b X.K H a ys → xs = ys
  | true, a, xs, ys, h1, h2 => I.list_inj (show SqL X.K H a xs from h1) (show SqL X.K H a ys from h2)
  | false, a, xs, ys, h1, h2 => I.tuple_inj (show SqT X.K H a xs from h1) (show SqT X.K H a ys from h2)
theorem five {z TI TO i j : Addr} {P : Addr → Prop} {d : Addr} (h : d ∈ [z, TI, TO, i, j]) (h1 : P z) (h2 : P TI) (h3 : P TO) (h4 : P i) (h5 : P j) : P d := by
  simp only [List.mem_cons, List.not_mem_nil, or_false] at h
  rcases h with rfl | rfl | rfl | rfl | rfl
  · exact h1
  · exact h2
  · exact h3
  · exact h4
  · exact h5
theorem turnQ {P : Program} {w : World} {K : PySem.W.Frag} {elts : List Expr} {kk : Nat} {tpos : Pos} {b c : Bool} {l m z TI TO i j : Addr} (D : ZipApart z TI TO i j l m) :
    Turn P w K (.Tuple elts kk tpos) (ItzQ b c K l m) [z, TI, TO, i, j] z (fun n h => (∃ u v, Zp h z TI TO i j .none u v) ∧ IsI b h i l n ∧ IsI c h j m n) where
  mem := by simp
  obj := by
    rintro n h ⟨⟨u, v, Z⟩, hi, hj⟩ d hd
    obtain ⟨o1, f1, e1, d1⟩ := hi.obj
    obtain ⟨o2, f2, e2, d2⟩ := hj.obj
    refine five (P := fun d => ∃ o, h.get? d = some o ∧ ∀ v : Option Value, o.data ≠ Data.cell v) hd ⟨_, Z.z, fun v q => nomatch q⟩ ⟨_, Z.ti, fun v q => nomatch q⟩ ⟨_, Z.to, fun v q => nomatch q⟩ ⟨o1, e1, fun v q => ?_⟩ ⟨o2, e2, fun v q => ?_⟩
    · rw [d1] at q
      cases q
    · rw [d2] at q
      cases q
  keep := by
    rintro n h h' ⟨⟨u, v, Z⟩, hi, hj⟩ k
    exact ⟨⟨u, v, k z (by simp) _ Z.z, k TI (by simp) _ Z.ti, k TO (by simp) _ Z.to⟩, hi.stay fun o e => k i (by simp) o e, hj.stay fun o e => k j (by simp) o e⟩
  item := by
    intro X hP hw hK hc n pins s σ H E I hf st hg
    subst hP hw hK
    obtain ⟨⟨u0, v0, Z⟩, hi, hj⟩ := st
    obtain ⟨xs, ys, x, y, sx, sy, ex, ey⟩ := hg
    obtain ⟨is1, r1, p1⟩ := sqB_vals I sx
    obtain ⟨is2, r2, p2⟩ := sqB_vals I sy
    obtain ⟨u, hu, ru⟩ := r1.get ex
    obtain ⟨v, hv, rv⟩ := r2.get ey
    have lz : z < s.heap.objs.size := Heap.lt_size Z.z
    refine stepQ_one D Z hi hj p1 p2 (x := u) (y := v) (by simpa using hu) (by simpa using hv) fun g z1 to1 i1 j1 new1 _ keep => ?_
    refine ⟨_, rfl, wpAny_letOwnedTupleGo_zip (s := { s with heap := g }) z1 fun g2 z2 same => ?_⟩
    have new2 : g2.get? s.heap.objs.size = some { cls := .type "tuple", data := .seq #[u, v] } := (same.2 _ (Nat.ne_of_gt lz)).trans new1
    have ob : ObjOk X.prog X.w (L2.upd H s.heap.objs.size (.tup [x, y])) g2 s.heap.objs.size (.tup [x, y]) := ⟨by show 2 ≤ sizeLine; decide, [u, v], .cons ru (.cons rv .nil), ⟨_, new2, rfl, _, rfl⟩⟩
    have stay : ∀ d o, d ∉ [z, TI, TO, i, j] → s.heap.get? d = some o → g2.get? d = some o := fun d o nd e =>
      (same.2 d (fun h => nd (by simp [h]))).trans (keep d o (fun h => nd (by simp [h])) (fun h => nd (by simp [h])) (fun h => nd (by simp [h])) (fun h => nd (by simp [h])) e)
    have J : Inv X pins σ (L2.upd H s.heap.objs.size (.tup [x, y])) { s with heap := g2 } := I.turnedNew (t' := s.toks) (ch := [z, TI, TO, i, j]) stay hf (Nat.le_refl _) ob
    refine ⟨.ref s.heap.objs.size, _, J, rfl, ⟨_, x, y, rfl, I.hok.fresh (Nat.le_refl _), rfl, fun l h => by rw [sqB_inj I h sx]; exact ex, fun l h => by rw [sqB_inj I h sy]; exact ey⟩, ⟨⟨u, v, z2, ?_, ?_⟩, ?_, ?_⟩, fun d hd => ?_⟩
    · exact (same.2 _ D.TIz).trans (keep _ _ D.TIz D.TITO D.TIi1 D.TIi2 Z.ti)
    · exact (same.2 _ D.TOz).trans to1
    · exact i1.stay fun o e => (same.2 _ D.i1z).trans e
    · exact j1.stay fun o e => (same.2 _ D.i2z).trans e
    · obtain ⟨o1, f1, e1, _⟩ := hi.obj
      obtain ⟨o2, f2, e2, _⟩ := hj.obj
      have lt : d < s.heap.objs.size := five (P := fun d => d < s.heap.objs.size) hd lz (Heap.lt_size Z.ti) (Heap.lt_size Z.to) (Heap.lt_size e1) (Heap.lt_size e2)
      rw [upd_ne (Nat.ne_of_lt lt)]
      exact (hf d hd).1
  done := by
    intro X hP hw hK hc n pins s σ H E I hf st hg
    subst hP hw hK
    obtain ⟨⟨u0, v0, Z⟩, hi, hj⟩ := st
    obtain ⟨xs, ys, sx, sy, en⟩ := hg
    obtain ⟨is1, r1, p1⟩ := sqB_vals I sx
    obtain ⟨is2, r2, p2⟩ := sqB_vals I sy
    have l1 := r1.length
    have l2 := r2.length
    have ends : is1.toArray[n]? = none ∨ is2.toArray[n]? = none := by
      rcases en with h | h
      · exact .inl (by simp; omega)
      · exact .inr (by simp; omega)
    refine stepQ_end (I.ok.hd hc) D Z hi hj p1 p2 ends fun g keep => ⟨rfl, I.turnedL (t' := s.toks) (ch := [z, TI, TO, i, j]) (fun d o nd e => ?_) hf⟩
    exact keep d o (fun h => nd (by simp [h])) (fun h => nd (by simp [h])) (fun h => nd (by simp [h])) (fun h => nd (by simp [h])) e
  self := fun A n s Q E st h => by
    obtain ⟨⟨u, v, Z⟩, _, _⟩ := st
    exact wpAny_pyIter_zip Z.z h
def iZipQ (b c : Bool) (K : PySem.W.Frag) (ta : TA) : TI := fun σ H R => ta σ H fun vs H1 => ∃ l m xs ys, vs = [.ref l, .ref m] ∧ SqB b K H1 l xs ∧ SqB c K H1 m ys ∧ R (ItzQ b c K l m) H1
theorem pi_zipQ (b c : Bool) {X : Cx} {e e2 : Expr} {ta : TA} {p pos tpos : Pos} {elts : List Expr} {kk : Nat} (hg : Gl X "zip") (hm : X.mg "zip" = none) (ha : PA X [e, e2] ta)
    (hs : starEach [e, e2] X.env = (false, eval e X.env) :: starEach [e2] X.env := by rfl) (hpl : (backTo pos (starEach [e2] X.env)).any (·.1) = false := by rfl) :
    PI X (.Tuple elts kk tpos) (.Call (.Name "zip" p) [e, e2] [] pos) (iZipQ b c X.K ta) := by
  refine ⟨fun pins s σ H R I h => ?_⟩
  refine Call_ ?_
  refine ld_blt I hg hm PyProof.Rows.boot_zip (PyProof.Rows.callWith_type1 (thn (ha.run pos pins s σ H _ I h) fun us s1 hv => ?_) hs hpl)
  obtain ⟨vs, H1, I1, r, q1⟩ := hv
  obtain ⟨l, m, xs, ys, rfl, sx, sy, q⟩ := q1
  obtain ⟨u1, u2, rfl, ru, rv⟩ := vals2 r
  cases (show u1 = Value.ref l from ru)
  cases (show u2 = Value.ref m from rv)
  obtain ⟨is1, r1, p1⟩ := sqB_vals I1 sx
  obtain ⟨is2, r2, p2⟩ := sqB_vals I1 sy
  have new : ∀ d, s1.heap.objs.size ≤ d → FpOk X pins H1 d := fun d hd => I1.fpOk hd (I1.hok.fresh hd)
  refine call_zipQ p1 p2 fun g Z hi hj keep => wpAny_pyIter_zip Z.z ?_
  have J : Inv X pins σ H1 { s1 with heap := g } := I1.kept (t' := s1.toks) keep
  refine ⟨s1.heap.objs.size + 4, [s1.heap.objs.size + 4, s1.heap.objs.size + 2, s1.heap.objs.size + 3, s1.heap.objs.size, s1.heap.objs.size + 1], _, _, H1, rfl, J,
    turnQ (PySem.W.ktu_apart s1.heap.objs.size l m p1.lt p2.lt), ⟨⟨_, _, Z⟩, hi, hj⟩, fun d hd => ?_, q⟩
  exact five (P := fun d => FpOk X pins H1 d) hd (new _ (by omega)) (new _ (by omega)) (new _ (by omega)) (new _ (Nat.le_refl _)) (new _ (by omega))
theorem pi_zipQK (b c : Bool) {X : Cx} (K : PySem.W.Frag) (hK : X.K = K := by rfl) {e e2 : Expr} {ta : TA} {p pos tpos : Pos} {elts : List Expr} {kk : Nat} (hg : Gl X "zip") (hm : X.mg "zip" = none) (ha : PA X [e, e2] ta)
    (hs : starEach [e, e2] X.env = (false, eval e X.env) :: starEach [e2] X.env := by rfl) (hpl : (backTo pos (starEach [e2] X.env)).any (·.1) = false := by rfl) :
    PI X (.Tuple elts kk tpos) (.Call (.Name "zip" p) [e, e2] [] pos) (iZipQ b c K ta) := hK ▸ pi_zipQ b c hg hm ha hs hpl
theorem lc_zipQ {b c : Bool} {K : PySem.W.Frag} {l m : Addr} {xs ys : List V} {g : TG} {tt : TT} {te : TE} {vs : List Nat} {σ : L2.St} {H1 : Hp} {D : Addr} {Qd : Hp → Prop} (hl : xs.length = ys.length) (P : Nat → Hp → Prop)
    (h0 : P 0 (L2.upd H1 D (.lst []))) (hq : ∀ i H, i ≤ xs.length → P i H → SqB b K H l xs ∧ SqB c K H m ys)
    (hs : ∀ i x y T H, xs[i]? = some x → ys[i]? = some y → P i H → H T = none → g (.ref T) (wipe σ vs) (L2.upd H T (.tup [x, y])) fun τ H2 => wipe τ vs = wipe σ vs ∧ tt τ H2 fun b H3 =>
      if b = true then te τ H3 fun z H4 => ∃ acc, H4 D = some (.lst acc) ∧ acc.length < sizeLine ∧ P (i + 1) (L2.upd H4 D (.lst (acc ++ [z]))) else P (i + 1) H3) (hd : ∀ H, P xs.length H → Qd H) :
    ∃ W : Nat → Nat → Hp → Prop, (∃ m, W 0 m (L2.upd H1 D (.lst []))) ∧ ∀ i k H, W i k H → ((ItzQ b c K l m).stop i H ∧ Qd H) ∨
      ((ItzQ b c K l m).go i H ∧ ∃ Nx : Hp → Prop, (∀ H', Nx H' → ∃ m', m' < k ∧ W (i + 1) m' H') ∧
        ∀ x H', (ItzQ b c K l m).yld i H x H' → g x (wipe σ vs) H' fun τ H2 => wipe τ vs = wipe σ vs ∧ tt τ H2 fun b H3 =>
          if b = true then te τ H3 fun z H4 => ∃ acc, H4 D = some (.lst acc) ∧ acc.length < sizeLine ∧ Nx (L2.upd H4 D (.lst (acc ++ [z]))) else Nx H3) := by
  refine ⟨fun i m H => m = xs.length - i ∧ i ≤ xs.length ∧ P i H, ⟨_, rfl, Nat.zero_le _, h0⟩, ?_⟩
  intro i k H w
  obtain ⟨rfl, hj, p⟩ := w
  obtain ⟨sa, sb⟩ := hq i H hj p
  rcases Nat.lt_or_ge i xs.length with lt | ge
  · have lt2 : i < ys.length := by omega
    refine .inr ⟨⟨xs, ys, _, _, sa, sb, List.getElem?_eq_getElem lt, List.getElem?_eq_getElem lt2⟩, P (i + 1), fun H' p' => ⟨_, by omega, rfl, lt, p'⟩, ?_⟩
    rintro v H' ⟨T, x, y, rfl, nT, rfl, f1, f2⟩
    exact hs i x y T H (f1 xs sa) (f2 ys sb) p nT
  · obtain rfl : i = xs.length := by omega
    exact .inl ⟨⟨xs, ys, sa, sb, .inl (Nat.le_refl _)⟩, hd H p⟩
theorem for_zipQ {b c : Bool} {K : PySem.W.Frag} {l m : Addr} {xs ys : List V} {g : TG} {tb : TS} {D : Ends} {σ : L2.St} {H : Hp} (hl : xs.length = ys.length) (P : Nat → L2.St → Hp → Prop) (h0 : P 0 σ H)
    (hq : ∀ i σ H, P i σ H → SqB b K H l xs ∧ SqB c K H m ys)
    (hs : ∀ (i : Nat) (x y : V) (T : Addr) (σ : L2.St) (H : Hp), xs[i]? = some x → ys[i]? = some y → P i σ H → H T = none → g (.ref T) σ (L2.upd H T (.tup [x, y])) fun σ2 H2 => tb { D with nx := P (i + 1), ct := P (i + 1), bk := D.nx } σ2 H2)
    (hd : ∀ σ H, P xs.length σ H → D.nx σ H) :
    ∃ W : Nat → Nat → L2.St → Hp → Prop, (∃ k, W 0 k σ H) ∧ ∀ i k σ H, W i k σ H → ((ItzQ b c K l m).stop i H ∧ D.nx σ H) ∨ ((ItzQ b c K l m).go i H ∧ ∃ N : L2.St → Hp → Prop, (∀ σ' H', N σ' H' → ∃ m', m' < k ∧ W (i + 1) m' σ' H') ∧
        ∀ v H', (ItzQ b c K l m).yld i H v H' → g v σ H' fun σ2 H2 => tb { D with nx := N, ct := N, bk := D.nx } σ2 H2) := by
  refine ⟨fun i k σ H => k = xs.length - i ∧ i ≤ xs.length ∧ P i σ H, ⟨_, rfl, Nat.zero_le _, h0⟩, ?_⟩
  intro i k σ H w
  obtain ⟨rfl, hj, p⟩ := w
  obtain ⟨sa, sb⟩ := hq i σ H p
  rcases Nat.lt_or_ge i xs.length with lt | ge
  · have lt2 : i < ys.length := by omega
    refine .inr ⟨⟨xs, ys, _, _, sa, sb, List.getElem?_eq_getElem lt, List.getElem?_eq_getElem lt2⟩, P (i + 1), fun σ' H' p' => ⟨_, by omega, rfl, lt, p'⟩, ?_⟩
    rintro v H' ⟨T, x, y, rfl, nT, rfl, f1, f2⟩
    exact hs i x y T σ H (f1 xs sa) (f2 ys sb) p nT
  · obtain rfl : i = xs.length := by omega
    exact .inl ⟨⟨xs, ys, sa, sb, .inl (Nat.le_refl _)⟩, hd σ H p⟩
end XA

set_option Elab.async false
set_option linter.all false
set_option maxRecDepth 100000
set_option maxHeartbeats 4000000
/-! XT: enumerate over a tuple. -/
namespace XA
open PySem PySem.Spec PyProof.Rows L2
abbrev itOb (l : Addr) : Obj := { cls := .type "tuple_iterator", data := .fields #[.ref l, .int 0 0] }
abbrev enOb (i : Addr) : Obj := { cls := .type "enumerate", data := .fields #[.none, .bool false, .ref i, rawInt 0, .none, .none] }
theorem enumT_new (l : Addr) (xs : Array Value) :
    Meets (Builtin.«enumerate.__new__» ⟨[.type "enumerate", .ref l], []⟩) (fun _ R s => s.heap.IsTuple l xs ∧
      R (.ok (.ret (.ref (s.heap.push (itOb l)).objs.size))) { s with heap := (s.heap.push (itOb l)).push (enOb s.heap.objs.size) }) :=
  .of_wp fun prog w A R s h => by
    obtain ⟨hp, g, d, tk, os⟩ := s
    obtain ⟨ht, r⟩ := h
    have sub := sub_enumerate
    have hT : Heap.IsTuple (Shared.heap ⟨hp, g, d, tk, os⟩) l xs := ht
    wp_walk
    refine wpAny_stack_any fun st => wpAny_pure ?_
    split
    · rename_i c _ _ _ _ _
      cases (c == Value.type "enumerate") <;> (wp_walk using wpAny_pyIter_tuple hT; exact ⟨_, rfl, r⟩)
    · wp_walk using wpAny_pyIter_tuple hT
      exact ⟨_, rfl, r⟩
theorem call_enumT {prog : Program} {w : World} {A : Around} {E : Value → Shared → Prop} {s : Shared} {l : Addr} {xs : Array Value} {Q : Value → Shared → Prop} (ht : s.heap.IsTuple l xs)
    (q : ∀ g, IsEnum g (s.heap.objs.size + 1) s.heap.objs.size 0 .none → g.IsTupleIter s.heap.objs.size l 0 → (∀ b o, s.heap.get? b = some o → g.get? b = some o) → Q (.ref (s.heap.objs.size + 1)) { s with heap := g }) :
    wpAny (model prog w) A (call (.type "enumerate") [.ref l]) Q E s := by
  refine callType_new F.called_enumerate (by decide) (F.typeCall_enumerate_1 _) (F.newCall_enumerate_1 _) (fun obj => F.args_object_init_2 obj _) F.entry_enumerate_new (enumT_new l xs) ⟨ht, ?_⟩
  have n1 : (s.heap.push (itOb l)).objs.size = s.heap.objs.size + 1 := Heap.size_push ..
  have e : ((s.heap.push (itOb l)).push (enOb s.heap.objs.size)).get? (s.heap.push (itOb l)).objs.size = some (enOb s.heap.objs.size) := Heap.get?_push_size _ rfl
  show _ ∧ _
  rw [n1] at e ⊢
  exact ⟨⟨_, e, rfl⟩, q _ e ⟨_, Heap.get?_push_of_some _ (Heap.get?_push_size _ rfl), rfl, rfl⟩ fun b o h => Heap.get?_push_of_some _ (Heap.get?_push_of_some _ h)⟩
/-- the tuple at a, each item in a new pair with its place -/
def IteT (K : PySem.W.Frag) (a : Addr) : It :=
  ⟨fun n H => ∃ (xs : List V) (x : V), SqT K H a xs ∧ xs[n]? = some x,
    fun n H v H' => ∃ T x, v = .ref T ∧ H T = none ∧ H' = L2.upd H T (.tup [.int (n : Nat), x]) ∧ ∀ xs, SqT K H a xs → xs[n]? = some x,
    fun n H => ∃ xs : List V, SqT K H a xs ∧ xs.length ≤ n⟩
/-- behind the last item, wherever the iterator stands -/
theorem enumT_done {prog : Program} {w : World} {A : Around} {E : Value → Shared → Prop} {s : Shared} {e i a : Addr} {n : Nat} {k : Int} {old : Value} {xs : Array Value} {Q : Option Value → Shared → Prop} (hh : A.handled = none)
    (he : IsEnum s.heap e i k old) (hi : s.heap.IsTupleIter i a n) (ht : s.heap.IsTuple a xs) (ge : xs.size ≤ n) (q : ∀ g, Heap.ExtBut i s.heap g → Q none { s with heap := g }) : wpAny (model prog w) A (pyNext (.ref e)) Q E s := by
  have Dr : Draws prog w A.in1 i [i, a] n (fun _ _ => True) (fun m h => m = n ∧ h.IsTupleIter i a n ∧ h.IsTuple a xs) := {
    live := fun m h st => by
      obtain ⟨_, ⟨o, ho, _⟩, _⟩ := st
      exact ⟨o, ho⟩
    frame := fun m h h' st k => ⟨st.1, st.2.1.at fun o q => k i (by simp) o q, st.2.2.at fun o q => k a (by simp) o q⟩
    item := fun m s Q E lt st _ => absurd st.1 (Nat.ne_of_lt lt)
    done := fun s Q E st h => PySem.wpAny_nextOf_tuple_end hh st.2.1 st.2.2 (by simp; omega) h }
  exact wpAny_pyNext_enum_endD Dr he ⟨rfl, hi, ht⟩ q
theorem two {e i : Addr} {P : Addr → Prop} {d : Addr} (h : d ∈ [e, i]) (h1 : P e) (h2 : P i) : P d := by
  simp only [List.mem_cons, List.not_mem_nil, or_false] at h
  rcases h with rfl | rfl
  · exact h1
  · exact h2
theorem turn_enumT {P : Program} {w : World} {K : PySem.W.Frag} {elts : List Expr} {kk : Nat} {tpos : Pos} (a e i : Addr) (ne : e ≠ i) (na : a ≠ i) (nea : e ≠ a) :
    Turn P w K (.Tuple elts kk tpos) (IteT K a) [e, i] e (fun n h => (∃ old, IsEnum h e i ((n : Nat) : Int) old) ∧ h.IsTupleIter i a n) where
  mem := by simp
  obj := by
    rintro n h ⟨⟨old, he⟩, ⟨o, ho, _, hd⟩⟩ d hd2
    refine two (P := fun d => ∃ o, h.get? d = some o ∧ ∀ v : Option Value, o.data ≠ Data.cell v) hd2 ⟨_, he, fun v q => nomatch q⟩ ⟨o, ho, fun v q => ?_⟩
    rw [hd] at q
    cases q
  keep := by
    rintro n h h' ⟨⟨old, he⟩, hi⟩ k
    exact ⟨⟨old, k e (by simp) _ he⟩, hi.at fun o q => k i (by simp) o q⟩
  item := by
    intro X hP hw hK hc n pins s σ H E I hf st hg
    subst hP hw hK
    obtain ⟨⟨old, he⟩, hi⟩ := st
    obtain ⟨xs, x, sx, ex⟩ := hg
    obtain ⟨its, r, p, _⟩ := I.tuple sx
    have pt : s.heap.IsTuple a its.toArray := p
    obtain ⟨u, hu, ru⟩ := r.get ex
    have lte : e < s.heap.objs.size := Heap.lt_size he
    obtain ⟨oi, hoi, _⟩ := id hi
    have lti : i < s.heap.objs.size := Heap.lt_size hoi
    have ltn : n < its.toArray.size := by
      have := (List.getElem?_eq_some_iff.mp hu).1
      simpa using this
    have Dr := (Draws.tuple (prog := X.prog) (w := X.w) (A := X.A.in1) (I.ok.hd hc) i a na its.toArray)
    refine PySem.wpAny_pyNext_enum_itemC Dr he ⟨hi, pt⟩ ltn ne (by simp [ne, nea]) fun y g tk hy ho st2 hT _ keep => ?_
    obtain rfl : y = u := by
      have z : its.toArray[n]? = some u := by simpa using hu
      rw [z] at hy
      exact (Option.some.inj hy).symm
    refine ⟨_, rfl, wpAny_letOwnedTupleGo_enum (s := { s with heap := g, toks := tk + 1 }) ho fun g2 he2 same => ?_⟩
    have new2 : g2.get? s.heap.objs.size = some { cls := .type "tuple", data := .seq #[.int n tk, y] } := (same.2 _ (Nat.ne_of_gt lte)).trans hT
    have ob : ObjOk X.prog X.w (L2.upd H s.heap.objs.size (.tup [.int (n : Nat), x])) g2 s.heap.objs.size (.tup [.int (n : Nat), x]) := ⟨by show 2 ≤ sizeLine; decide, [.int n tk, y], .cons ⟨_, rfl⟩ (.cons ru .nil), ⟨_, new2, rfl, _, rfl⟩⟩
    have stay : ∀ d o, d ∉ [e, i] → s.heap.get? d = some o → g2.get? d = some o := fun d o nd q =>
      (same.2 d (fun h => nd (by simp [h]))).trans (keep d o (fun h => nd (by simp [h])) (fun h => nd (by simp [h])) q)
    have J : Inv X pins σ (L2.upd H s.heap.objs.size (.tup [.int (n : Nat), x])) { s with heap := g2, toks := tk + 1 } := I.turnedNew (ch := [e, i]) stay hf (Nat.le_refl _) ob
    refine ⟨.ref s.heap.objs.size, _, J, rfl, ⟨_, x, rfl, I.hok.fresh (Nat.le_refl _), rfl, fun ys hy2 => by rw [I.tuple_inj hy2 sx]; exact ex⟩, ⟨⟨y, ?_⟩, st2.1.at fun o q => (same.2 i (Ne.symm ne)).trans q⟩, fun d hd => ?_⟩
    · have e1 : ((n + 1 : Nat) : Int) = (n : Int) + 1 := by omega
      rw [e1]
      exact he2
    · have lt : d < s.heap.objs.size := two (P := fun d => d < s.heap.objs.size) hd lte lti
      rw [upd_ne (Nat.ne_of_lt lt)]
      exact (hf d hd).1
  done := by
    intro X hP hw hK hc n pins s σ H E I hf st hg
    subst hP hw hK
    obtain ⟨⟨old, he⟩, hi⟩ := st
    obtain ⟨xs, sx, hx⟩ := hg
    obtain ⟨its, r, p, _⟩ := I.tuple sx
    have l1 := r.length
    obtain ⟨f0, f1, f2, f3, f4, f5⟩ := hf i (by simp)
    have pt : s.heap.IsTuple a its.toArray := p
    have ge : its.toArray.size ≤ n := by
      rw [List.size_toArray]
      omega
    exact enumT_done (I.ok.hd hc) he hi pt ge fun g keep => ⟨rfl, I.turned (t' := s.toks) (fun b o hb q => keep b o hb q) f0 f1 f3 f4 f5⟩
  self := fun A n s Q E st h => by
    obtain ⟨⟨_, he⟩, _⟩ := st
    exact wpAny_pyIter_enum he h
def iEnumT (K : PySem.W.Frag) (ta : TA) : TI := fun σ H R => ta σ H fun vs H1 => ∃ a xs, vs = [.ref a] ∧ SqT K H1 a xs ∧ R (IteT K a) H1
theorem pi_enumT {X : Cx} {e : Expr} {ta : TA} {p pos tpos : Pos} {elts : List Expr} {kk : Nat} (hg : Gl X "enumerate") (hm : X.mg "enumerate" = none) (ha : PA X [e] ta) (hs : starEach [e] X.env = [(false, eval e X.env)] := by rfl) :
    PI X (.Tuple elts kk tpos) (.Call (.Name "enumerate" p) [e] [] pos) (iEnumT X.K ta) := by
  refine ⟨fun pins s σ H R I h => ?_⟩
  refine Call_ ?_
  refine ld_blt I hg hm boot_enumerate (PyProof.Rows.callWith_type1 (thn (ha.run pos pins s σ H _ I h) fun us s1 hv => ?_) hs rfl)
  obtain ⟨vs, H1, I1, r, q1⟩ := hv
  obtain ⟨a, xs, rfl, sx, q⟩ := q1
  rw [Vals.ref1 r]
  obtain ⟨its, rx, p1, _⟩ := I1.tuple sx
  have pt : s1.heap.IsTuple a its.toArray := p1
  obtain ⟨oa, hoa, _⟩ := id pt
  have lta : a < s1.heap.objs.size := Heap.lt_size hoa
  refine call_enumT pt fun g he hi keep => wpAny_pyIter_enum he ?_
  have J : Inv X pins σ H1 { s1 with heap := g } := I1.kept (t' := s1.toks) keep
  have new : ∀ d, s1.heap.objs.size ≤ d → FpOk X pins H1 d := fun d hd => I1.fpOk hd (I1.hok.fresh hd)
  refine ⟨s1.heap.objs.size + 1, [s1.heap.objs.size + 1, s1.heap.objs.size], _, _, H1, rfl, J, turn_enumT a (s1.heap.objs.size + 1) s1.heap.objs.size (Nat.succ_ne_self _) (Nat.ne_of_lt lta) (Nat.ne_of_gt (Nat.lt_succ_of_lt lta)), ⟨⟨.none, he⟩, hi⟩, fun d hd => ?_, q⟩
  exact two (P := fun d => FpOk X pins H1 d) hd (new _ (by omega)) (new _ (Nat.le_refl _))
theorem pi_enumTK {X : Cx} (K : PySem.W.Frag) (hK : X.K = K := by rfl) {e : Expr} {ta : TA} {p pos tpos : Pos} {elts : List Expr} {kk : Nat} (hg : Gl X "enumerate") (hm : X.mg "enumerate" = none) (ha : PA X [e] ta) (hs : starEach [e] X.env = [(false, eval e X.env)] := by rfl) :
    PI X (.Tuple elts kk tpos) (.Call (.Name "enumerate" p) [e] [] pos) (iEnumT K ta) := hK ▸ pi_enumT hg hm ha hs
theorem lc_enumT {K : PySem.W.Frag} {a : Addr} {xs : List V} {g : TG} {tt : TT} {te : TE} {vs : List Nat} {σ : L2.St} {H1 : Hp} {D : Addr} {Qd : Hp → Prop} (P : Nat → Hp → Prop)
    (h0 : P 0 (L2.upd H1 D (.lst []))) (hq : ∀ i H, i ≤ xs.length → P i H → SqT K H a xs)
    (hs : ∀ i x T H, xs[i]? = some x → P i H → H T = none → g (.ref T) (wipe σ vs) (L2.upd H T (.tup [.int (i : Nat), x])) fun τ H2 => wipe τ vs = wipe σ vs ∧ tt τ H2 fun b H3 =>
      if b = true then te τ H3 fun z H4 => ∃ acc, H4 D = some (.lst acc) ∧ acc.length < sizeLine ∧ P (i + 1) (L2.upd H4 D (.lst (acc ++ [z]))) else P (i + 1) H3) (hd : ∀ H, P xs.length H → Qd H) :
    ∃ W : Nat → Nat → Hp → Prop, (∃ m, W 0 m (L2.upd H1 D (.lst []))) ∧ ∀ i k H, W i k H → ((IteT K a).stop i H ∧ Qd H) ∨
      ((IteT K a).go i H ∧ ∃ Nx : Hp → Prop, (∀ H', Nx H' → ∃ m', m' < k ∧ W (i + 1) m' H') ∧
        ∀ x H', (IteT K a).yld i H x H' → g x (wipe σ vs) H' fun τ H2 => wipe τ vs = wipe σ vs ∧ tt τ H2 fun b H3 =>
          if b = true then te τ H3 fun z H4 => ∃ acc, H4 D = some (.lst acc) ∧ acc.length < sizeLine ∧ Nx (L2.upd H4 D (.lst (acc ++ [z]))) else Nx H3) := by
  refine ⟨fun i m H => m = xs.length - i ∧ i ≤ xs.length ∧ P i H, ⟨_, rfl, Nat.zero_le _, h0⟩, ?_⟩
  intro i k H w
  obtain ⟨rfl, hj, p⟩ := w
  have sa := hq i H hj p
  rcases Nat.lt_or_ge i xs.length with lt | ge
  · refine .inr ⟨⟨xs, _, sa, List.getElem?_eq_getElem lt⟩, P (i + 1), fun H' p' => ⟨_, by omega, rfl, lt, p'⟩, ?_⟩
    rintro v H' ⟨T, x, rfl, nT, rfl, f1⟩
    exact hs i x T H (f1 xs sa) p nT
  · obtain rfl : i = xs.length := by omega
    exact .inl ⟨⟨xs, sa, Nat.le_refl _⟩, hd H p⟩
theorem for_enumT {K : PySem.W.Frag} {a : Addr} {xs : List V} {g : TG} {tb : TS} {D : Ends} {σ : L2.St} {H : Hp} (P : Nat → L2.St → Hp → Prop) (h0 : P 0 σ H) (hq : ∀ i σ H, P i σ H → SqT K H a xs)
    (hs : ∀ (i : Nat) (x : V) (T : Addr) (σ : L2.St) (H : Hp), xs[i]? = some x → P i σ H → H T = none → g (.ref T) σ (L2.upd H T (.tup [.int (i : Nat), x])) fun σ2 H2 => tb { D with nx := P (i + 1), ct := P (i + 1), bk := D.nx } σ2 H2)
    (hd : ∀ σ H, P xs.length σ H → D.nx σ H) :
    ∃ W : Nat → Nat → L2.St → Hp → Prop, (∃ k, W 0 k σ H) ∧ ∀ i k σ H, W i k σ H → ((IteT K a).stop i H ∧ D.nx σ H) ∨ ((IteT K a).go i H ∧ ∃ N : L2.St → Hp → Prop, (∀ σ' H', N σ' H' → ∃ m', m' < k ∧ W (i + 1) m' σ' H') ∧
        ∀ v H', (IteT K a).yld i H v H' → g v σ H' fun σ2 H2 => tb { D with nx := N, ct := N, bk := D.nx } σ2 H2) := by
  refine ⟨fun i k σ H => k = xs.length - i ∧ i ≤ xs.length ∧ P i σ H, ⟨_, rfl, Nat.zero_le _, h0⟩, ?_⟩
  intro i k σ H w
  obtain ⟨rfl, hj, p⟩ := w
  have sa := hq i σ H p
  rcases Nat.lt_or_ge i xs.length with lt | ge
  · refine .inr ⟨⟨xs, _, sa, List.getElem?_eq_getElem lt⟩, P (i + 1), fun σ' H' p' => ⟨_, by omega, rfl, lt, p'⟩, ?_⟩
    rintro v H' ⟨T, x, rfl, nT, rfl, f1⟩
    exact hs i x T σ H (f1 xs sa) p nT
  · obtain rfl : i = xs.length := by omega
    exact .inl ⟨⟨xs, sa, Nat.le_refl _⟩, hd σ H p⟩
end XA

set_option Elab.async false
set_option linter.all false
set_option maxRecDepth 100000
set_option maxHeartbeats 8000000
local macro_rules | `(tactic| walk_at "rd") => `(tactic| dsimp only [L2.tRet, L2.tAndV, L2.tOrV, L2.tNotV, L2.tCB, L2.tCons, L2.tC, L2.tNil, L2.tOp, L2.tIf, L2.tIfS, L2.tSeq, L2.tAsg, L2.tTest, L2.tNot, L2.tAnd, L2.tOr, L2.tB, L2.tChain, L2.tDrop, L2.gName, L2.tCall, L2.tNext, L2.tRetN, L2.tTup, L2.tLst])
namespace K03
open PySem PySem.Spec PyProof.Rows L2 XA
def topS (i : Nat) : Stmt := PySem.Challenge.pw_rootrooms_k03_products_sums_times.main.body.getD i (.Pass ⟨0, 0, 0, 0⟩)
abbrev s_is_whole : Stmt := topS 7
abbrev N_is_whole : List Str := ["thing"]
abbrev P_is_whole : List Str := ["thing"]
theorem sc_is_whole : FnScope N_is_whole P_is_whole (defScope s_is_whole) := ⟨rfl, rfl, rfl, by decide +kernel, rfl, by decide +kernel, by decide +kernel⟩
abbrev s_is_whole_to : Stmt := topS 8
abbrev N_is_whole_to : List Str := ["thing", "most"]
abbrev P_is_whole_to : List Str := ["thing", "most"]
theorem sc_is_whole_to : FnScope N_is_whole_to P_is_whole_to (defScope s_is_whole_to) := ⟨rfl, rfl, rfl, by decide +kernel, rfl, by decide +kernel, by decide +kernel⟩
abbrev s_is_prime : Stmt := topS 11
abbrev N_is_prime : List Str := ["thing", "number"]
abbrev P_is_prime : List Str := ["thing"]
theorem sc_is_prime : FnScope N_is_prime P_is_prime (defScope s_is_prime) := ⟨rfl, rfl, rfl, by decide +kernel, rfl, by decide +kernel, by decide +kernel⟩
abbrev s_need_prime : Stmt := topS 12
abbrev N_need_prime : List Str := ["prime"]
abbrev P_need_prime : List Str := ["prime"]
theorem sc_need_prime : FnScope N_need_prime P_need_prime (defScope s_need_prime) := ⟨rfl, rfl, rfl, by decide +kernel, rfl, by decide +kernel, by decide +kernel⟩
abbrev s_need_matrix : Stmt := topS 15
abbrev N_need_matrix : List Str := ["thing", "prime"]
abbrev P_need_matrix : List Str := ["thing", "prime"]
theorem sc_need_matrix : FnScope N_need_matrix P_need_matrix (defScope s_need_matrix) := ⟨rfl, rfl, rfl, by decide +kernel, rfl, by decide +kernel, by decide +kernel⟩
abbrev s_product : Stmt := topS 16
abbrev N_product : List Str := ["one", "other", "prime", "rows", "between", "numbers", "others", "columns", "below", "row"]
abbrev P_product : List Str := ["one", "other", "prime"]
theorem sc_product : FnScope N_product P_product (defScope s_product) := ⟨rfl, rfl, rfl, by decide +kernel, rfl, by decide +kernel, by decide +kernel⟩
abbrev s_plus : Stmt := topS 17
abbrev N_plus : List Str := ["one", "other", "prime", "rows", "columns", "numbers", "row", "line"]
abbrev P_plus : List Str := ["one", "other", "prime"]
theorem sc_plus : FnScope N_plus P_plus (defScope s_plus) := ⟨rfl, rfl, rfl, by decide +kernel, rfl, by decide +kernel, by decide +kernel⟩
abbrev s_times : Stmt := topS 18
abbrev N_times : List Str := ["number", "one", "prime", "rest", "rows", "columns", "numbers", "row", "x"]
abbrev P_times : List Str := ["number", "one", "prime"]
theorem sc_times : FnScope N_times P_times (defScope s_times) := ⟨rfl, rfl, rfl, by decide +kernel, rfl, by decide +kernel, by decide +kernel⟩
abbrev s_flipped : Stmt := topS 19
abbrev N_flipped : List Str := ["one", "prime", "rows", "columns", "numbers", "k", "row"]
abbrev P_flipped : List Str := ["one", "prime"]
theorem sc_flipped : FnScope N_flipped P_flipped (defScope s_flipped) := ⟨rfl, rfl, rfl, by decide +kernel, rfl, by decide +kernel, by decide +kernel⟩
abbrev s__is_made : Stmt := topS 20
abbrev N__is_made : List Str := ["thing", "prime", "rows", "columns", "numbers", "row"]
abbrev P__is_made : List Str := ["thing", "prime"]
theorem sc__is_made : FnScope N__is_made P__is_made (defScope s__is_made) := ⟨rfl, rfl, rfl, by decide +kernel, rfl, by decide +kernel, by decide +kernel⟩
abbrev s__is_row : Stmt := topS 21
abbrev N__is_row : List Str := ["thing", "columns", "prime", "x"]
abbrev P__is_row : List Str := ["thing", "columns", "prime"]
theorem sc__is_row : FnScope N__is_row P__is_row (defScope s__is_row) := ⟨rfl, rfl, rfl, by decide +kernel, rfl, by decide +kernel, by decide +kernel⟩
abbrev s__combined : Stmt := topS 22
abbrev N__combined : List Str := ["row", "lines", "columns", "prime", "sums", "x", "line", "total", "y"]
abbrev P__combined : List Str := ["row", "lines", "columns", "prime"]
theorem sc__combined : FnScope N__combined P__combined (defScope s__combined) := ⟨rfl, rfl, rfl, by decide +kernel, rfl, by decide +kernel, by decide +kernel⟩
abbrev s__sum : Stmt := topS 23
abbrev N__sum : List Str := ["row", "line", "prime", "x", "y"]
abbrev P__sum : List Str := ["row", "line", "prime"]
theorem sc__sum : FnScope N__sum P__sum (defScope s__sum) := ⟨rfl, rfl, rfl, by decide +kernel, rfl, by decide +kernel, by decide +kernel⟩
abbrev s__law_spread : Stmt := topS 25
abbrev N__law_spread : List Str := ["cell", "at", "primes", "mixed", "one", "two", "three"]
abbrev P__law_spread : List Str := ["cell", "at"]
theorem sc__law_spread : FnScope N__law_spread P__law_spread (defScope s__law_spread) := ⟨rfl, rfl, rfl, by decide +kernel, rfl, by decide +kernel, by decide +kernel⟩
abbrev s__law_open : Stmt := topS 26
abbrev N__law_open : List Str := ["script", "cells", "k", "cell"]
abbrev P__law_open : List Str := ["script"]
theorem sc__law_open : FnScope N__law_open P__law_open (defScope s__law_open) := ⟨rfl, rfl, rfl, by decide +kernel, rfl, by decide +kernel, by decide +kernel⟩
abbrev s__law_anew : Stmt := topS 27
abbrev N__law_anew : List Str := ["pen"]
abbrev P__law_anew : List Str := ["pen"]
theorem sc__law_anew : FnScope N__law_anew P__law_anew (defScope s__law_anew) := ⟨rfl, rfl, rfl, by decide +kernel, rfl, by decide +kernel, by decide +kernel⟩
abbrev s__law_take : Stmt := topS 28
abbrev N__law_take : List Str := ["pen", "many", "at", "cell", "found"]
abbrev P__law_take : List Str := ["pen", "many"]
theorem sc__law_take : FnScope N__law_take P__law_take (defScope s__law_take) := ⟨rfl, rfl, rfl, by decide +kernel, rfl, by decide +kernel, by decide +kernel⟩
abbrev s__law_one : Stmt := topS 29
abbrev N__law_one : List Str := ["pen", "some"]
abbrev P__law_one : List Str := ["pen", "some"]
theorem sc__law_one : FnScope N__law_one P__law_one (defScope s__law_one) := ⟨rfl, rfl, rfl, by decide +kernel, rfl, by decide +kernel, by decide +kernel⟩
abbrev s__law_wrong_number : Stmt := topS 30
abbrev N__law_wrong_number : List Str := ["pen", "some", "p", "spots", "at", "high", "wide", "numbers", "down", "across", "odd", "line", "lines", "one"]
abbrev P__law_wrong_number : List Str := ["pen", "some", "p"]
theorem sc__law_wrong_number : FnScope N__law_wrong_number P__law_wrong_number (defScope s__law_wrong_number) := ⟨rfl, rfl, rfl, by decide +kernel, rfl, by decide +kernel, by decide +kernel⟩
abbrev s__law_prime : Stmt := topS 31
abbrev N__law_prime : List Str := ["pen", "every", "p", "k"]
abbrev P__law_prime : List Str := ["pen"]
theorem sc__law_prime : FnScope N__law_prime P__law_prime (defScope s__law_prime) := ⟨rfl, rfl, rfl, by decide +kernel, rfl, by decide +kernel, by decide +kernel⟩
abbrev s__law_matrix : Stmt := topS 32
abbrev N__law_matrix : List Str := ["pen", "high", "wide", "p", "numbers", "thin", "at", "line", "k"]
abbrev P__law_matrix : List Str := ["pen", "high", "wide", "p"]
theorem sc__law_matrix : FnScope N__law_matrix P__law_matrix (defScope s__law_matrix) := ⟨rfl, rfl, rfl, by decide +kernel, rfl, by decide +kernel, by decide +kernel⟩
abbrev s__law_times : Stmt := topS 33
abbrev N__law_times : List Str := ["one", "other", "p", "numbers", "row", "line", "at", "k"]
abbrev P__law_times : List Str := ["one", "other", "p"]
theorem sc__law_times : FnScope N__law_times P__law_times (defScope s__law_times) := ⟨rfl, rfl, rfl, by decide +kernel, rfl, by decide +kernel, by decide +kernel⟩
abbrev s__law_refusal : Stmt := topS 34
abbrev N__law_refusal : List Str := ["caught", "some"]
abbrev P__law_refusal : List Str := ["caught"]
theorem sc__law_refusal : FnScope N__law_refusal P__law_refusal (defScope s__law_refusal) := ⟨rfl, rfl, rfl, by decide +kernel, rfl, by decide +kernel, by decide +kernel⟩
abbrev s__law_told : Stmt := topS 35
abbrev N__law_told : List Str := ["way", "number", "one", "other", "p", "caught", "found", "e"]
abbrev P__law_told : List Str := ["way", "number", "one", "other", "p"]
theorem sc__law_told : FnScope N__law_told P__law_told (defScope s__law_told) := ⟨rfl, rfl, rfl, by decide +kernel, rfl, by decide +kernel, by decide +kernel⟩
abbrev s__law_due : Stmt := topS 36
abbrev N__law_due : List Str := ["way", "number", "one", "other", "p", "rows", "x", "y", "k", "a", "b", "row"]
abbrev P__law_due : List Str := ["way", "number", "one", "other", "p"]
theorem sc__law_due : FnScope N__law_due P__law_due (defScope s__law_due) := ⟨rfl, rfl, rfl, by decide +kernel, rfl, by decide +kernel, by decide +kernel⟩
abbrev s__law_numbers_right : Stmt := topS 37
abbrev N__law_numbers_right : List Str := ["pen", "one", "some", "p", "wrong", "told", "way"]
abbrev P__law_numbers_right : List Str := ["pen", "one", "some", "p"]
theorem sc__law_numbers_right : FnScope N__law_numbers_right P__law_numbers_right (defScope s__law_numbers_right) := ⟨rfl, rfl, rfl, by decide +kernel, rfl, by decide +kernel, by decide +kernel⟩
abbrev s_law : Stmt := topS 38
abbrev N_law : List Str := ["script", "pen", "turn", "p", "high", "wide", "deep", "one", "some", "number", "handed", "way", "other", "bad", "odd", "first", "second", "q", "wrong", "k"]
abbrev P_law : List Str := ["script"]
theorem sc_law : FnScope N_law P_law (defScope s_law) := ⟨rfl, rfl, rfl, by decide +kernel, rfl, by decide +kernel, by decide +kernel⟩
def excNames : List Str := ["RoomError", "NoPrime", "NoNumber", "NoMatrix", "NoFit"]
structure Txt (K : PySem.W.Frag) (mg : Str → Option Value) : Prop where
  g_RoomError : mg "RoomError" = some (.ref (He.ga K "RoomError"))
  g_NoPrime : mg "NoPrime" = some (.ref (He.ga K "NoPrime"))
  g_NoNumber : mg "NoNumber" = some (.ref (He.ga K "NoNumber"))
  g_NoMatrix : mg "NoMatrix" = some (.ref (He.ga K "NoMatrix"))
  g_NoFit : mg "NoFit" = some (.ref (He.ga K "NoFit"))
  g_is_whole : mg "is_whole" = some (.ref (He.ga K "is_whole"))
  g_is_whole_to : mg "is_whole_to" = some (.ref (He.ga K "is_whole_to"))
  g_is_prime : mg "is_prime" = some (.ref (He.ga K "is_prime"))
  g_need_prime : mg "need_prime" = some (.ref (He.ga K "need_prime"))
  g_need_matrix : mg "need_matrix" = some (.ref (He.ga K "need_matrix"))
  g_product : mg "product" = some (.ref (He.ga K "product"))
  g_plus : mg "plus" = some (.ref (He.ga K "plus"))
  g_times : mg "times" = some (.ref (He.ga K "times"))
  g_flipped : mg "flipped" = some (.ref (He.ga K "flipped"))
  g__is_made : mg "_is_made" = some (.ref (He.ga K "_is_made"))
  g__is_row : mg "_is_row" = some (.ref (He.ga K "_is_row"))
  g__combined : mg "_combined" = some (.ref (He.ga K "_combined"))
  g__sum : mg "_sum" = some (.ref (He.ga K "_sum"))
  g__law_spread : mg "_law_spread" = some (.ref (He.ga K "_law_spread"))
  g__law_open : mg "_law_open" = some (.ref (He.ga K "_law_open"))
  g__law_anew : mg "_law_anew" = some (.ref (He.ga K "_law_anew"))
  g__law_take : mg "_law_take" = some (.ref (He.ga K "_law_take"))
  g__law_one : mg "_law_one" = some (.ref (He.ga K "_law_one"))
  g__law_wrong_number : mg "_law_wrong_number" = some (.ref (He.ga K "_law_wrong_number"))
  g__law_prime : mg "_law_prime" = some (.ref (He.ga K "_law_prime"))
  g__law_matrix : mg "_law_matrix" = some (.ref (He.ga K "_law_matrix"))
  g__law_times : mg "_law_times" = some (.ref (He.ga K "_law_times"))
  g__law_refusal : mg "_law_refusal" = some (.ref (He.ga K "_law_refusal"))
  g__law_told : mg "_law_told" = some (.ref (He.ga K "_law_told"))
  g__law_due : mg "_law_due" = some (.ref (He.ga K "_law_due"))
  g__law_numbers_right : mg "_law_numbers_right" = some (.ref (He.ga K "_law_numbers_right"))
  g_law : mg "law" = some (.ref (He.ga K "law"))
  f_ValueError : mg "ValueError" = none
  f_all : mg "all" = none
  f_bool : mg "bool" = none
  f_enumerate : mg "enumerate" = none
  f_int : mg "int" = none
  f_isinstance : mg "isinstance" = none
  f_len : mg "len" = none
  f_list : mg "list" = none
  f_range : mg "range" = none
  f_repr : mg "repr" = none
  f_sum : mg "sum" = none
  f_tuple : mg "tuple" = none
  f_zip : mg "zip" = none
  c_GREATEST_PRIME : ∃ t, mg "GREATEST_PRIME" = some (.int 97 t)
  c_MOST_ROWS : ∃ t, mg "MOST_ROWS" = some (.int 2000 t)
  x_RoomError : PySem.W.excIn K (He.ga K "RoomError") He.veBase "ValueError.__new__" = true
  k_RoomError : PySem.W.keepIn K (.ref (He.ga K "RoomError")) = true
  b_RoomError : PySem.W.subIn K (.ref (He.ga K "RoomError")) (.type "BaseException") = some true
  t_RoomError : PySem.W.typeIn K (.ref (He.ga K "RoomError")) = some (.type "type")
  e_RoomError : ExcC K (He.ga K "RoomError")
  x_NoPrime : PySem.W.excIn K (He.ga K "NoPrime") He.veBase "ValueError.__new__" = true
  k_NoPrime : PySem.W.keepIn K (.ref (He.ga K "NoPrime")) = true
  b_NoPrime : PySem.W.subIn K (.ref (He.ga K "NoPrime")) (.type "BaseException") = some true
  t_NoPrime : PySem.W.typeIn K (.ref (He.ga K "NoPrime")) = some (.type "type")
  e_NoPrime : ExcC K (He.ga K "NoPrime")
  x_NoNumber : PySem.W.excIn K (He.ga K "NoNumber") He.veBase "ValueError.__new__" = true
  k_NoNumber : PySem.W.keepIn K (.ref (He.ga K "NoNumber")) = true
  b_NoNumber : PySem.W.subIn K (.ref (He.ga K "NoNumber")) (.type "BaseException") = some true
  t_NoNumber : PySem.W.typeIn K (.ref (He.ga K "NoNumber")) = some (.type "type")
  e_NoNumber : ExcC K (He.ga K "NoNumber")
  x_NoMatrix : PySem.W.excIn K (He.ga K "NoMatrix") He.veBase "ValueError.__new__" = true
  k_NoMatrix : PySem.W.keepIn K (.ref (He.ga K "NoMatrix")) = true
  b_NoMatrix : PySem.W.subIn K (.ref (He.ga K "NoMatrix")) (.type "BaseException") = some true
  t_NoMatrix : PySem.W.typeIn K (.ref (He.ga K "NoMatrix")) = some (.type "type")
  e_NoMatrix : ExcC K (He.ga K "NoMatrix")
  x_NoFit : PySem.W.excIn K (He.ga K "NoFit") He.veBase "ValueError.__new__" = true
  k_NoFit : PySem.W.keepIn K (.ref (He.ga K "NoFit")) = true
  b_NoFit : PySem.W.subIn K (.ref (He.ga K "NoFit")) (.type "BaseException") = some true
  t_NoFit : PySem.W.typeIn K (.ref (He.ga K "NoFit")) = some (.type "type")
  e_NoFit : ExcC K (He.ga K "NoFit")
  exm : ∀ x ∈ excNames, PySem.W.exmOne K (.ref (He.ga K x)) (.ref (He.ga K "RoomError")) = some true
  kit : ∀ x ∈ excNames, ∀ y ∈ excNames, PySem.W.kitOne K (.ref (He.ga K x)) (.ref (He.ga K y)) = some (decide (x = y) || decide (y = "RoomError"))
  kitN : ∀ y ∈ excNames, PySem.W.kitOne K (.type "NoneType") (.ref (He.ga K y)) = some false
  kitV : ∀ x ∈ excNames, PySem.W.kitOne K (.ref (He.ga K x)) (.type "ValueError") = some true
end K03

set_option Elab.async false
set_option linter.all false
set_option maxRecDepth 100000
set_option maxHeartbeats 8000000
namespace K03
open PySem PySem.Spec PyProof.Rows L2 XA

/-! ### the program's promises -/
def sp_is_whole (K : PySem.W.Frag) : Sp := fun vs H Q _ => ∃ x d av, vs = [x] ∧ Da K H av x d ∧ Q (.bl (whole d)) H
def sp_is_whole_to (K : PySem.W.Frag) : Sp := fun vs H Q _ => ∃ x d av m, vs = [x, .int m] ∧ Da K H av x d ∧ Q (.bl (wholeTo d m)) H
def sp_is_prime (K : PySem.W.Frag) : Sp := fun vs H Q _ => ∃ x d av, vs = [x] ∧ Da K H av x d ∧ ∀ H', Same H H' → Q (.bl (primeD d)) H'
def sp_need_prime (K : PySem.W.Frag) : Sp := fun vs H Q E => ∃ x d av, vs = [x] ∧ Da K H av x d ∧ ∀ H', Same H H' →
  if primeD d = true then Q .non H' else E (.ref (He.ga K "NoPrime")) none H'
def sp__is_row (K : PySem.W.Frag) : Sp := fun vs H Q _ => ∃ x d av c p, vs = [x, .int c, .int p] ∧ Da K H av x d ∧ c ≤ 2000 ∧ ∀ H', Same H H' → Q (.bl (isRowD d c p)) H'
def sp__is_made (K : PySem.W.Frag) : Sp := fun vs H Q _ => ∃ x d av p, vs = [x, .int p] ∧ Da K H av x d ∧ ∀ H', Same H H' → Q (.bl (isMatD d p)) H'
/-! ### the pen's promises -/
def sp__law_spread : Sp := fun vs H Q _ => ∃ cell a : Int, vs = [.int cell, .int a] ∧ 0 ≤ a ∧ a ≤ 20000 ∧ ∀ (H' : Hp) (r : Int), Same H H' → Q (.int r) H'
def sp__law_open (K : PySem.W.Frag) : Sp := fun vs H Q _ => ∃ (a : Addr) (ns : List Int), vs = [.ref a] ∧ SqL K H a (ns.map V.int) ∧ ns.length ≤ 63 ∧
  ∀ (H' : Hp) (pen c : Addr), H pen = none → Same H H' → PenC H' pen c 0 → Q (.ref pen) H'
def sp__law_anew : Sp := fun vs H Q _ => ∃ (pen c : Addr) (n : Int), vs = [.ref pen] ∧ PenC H pen c n ∧ ∀ H', Oth H H' pen → PenC H' pen c n → Q (.ref pen) H'
def sp__law_take : Sp := fun vs H Q _ => ∃ (pen c : Addr) (m n : Int), vs = [.ref pen, .int m] ∧ PenC H pen c n ∧ n ≤ 10000 ∧ 0 < m ∧ m < 1073741824 ∧
  ∀ (r : Int) (H' : Hp), 0 ≤ r → r < m → Oth H H' pen → PenC H' pen c (n + 1) → Q (.int r) H'
def sp__law_one (K : PySem.W.Frag) : Sp := fun vs H Q _ => ∃ (pen c b : Addr) (xs : List V) (n : Int), vs = [.ref pen, .ref b] ∧ PenC H pen c n ∧ n ≤ 10000 ∧ b ≠ pen ∧ SqL K H b xs ∧ 0 < xs.length ∧
  xs.length ≤ 1000000 ∧ ∀ x ∈ xs, ∀ H', Oth H H' pen → PenC H' pen c (n + 1) → Q x H'
section
variable {P : Program} {w : World} {K : PySem.W.Frag} {mg : Str → Option Value} {base : Heap}
theorem ok_is_whole (T : Txt K mg) {fd : FuncData} (F : FnP K "is_whole" s_is_whole fd) :
    Has P w K mg base CX0 1 "is_whole" P_is_whole (sp_is_whole K) := by
  have G : FnOk P w K mg base CX0 1 (He.ga K "is_whole") fd P_is_whole (sp_is_whole K) := by
    refine F.ok (k := 0) sc_is_whole (fun vs H Q E h => ?_) (fun cdv A outer s H vs Q E hr h => ?_)
    · obtain ⟨x, d, av, rfl, hx, q⟩ := h
      rfl
    · obtain ⟨x, d, av, rfl, hx, q⟩ := h
      refine ⟨_, (PSs.nox (pss_one (ps_ret (pe_and (pe_callB (id := "isinstance") call_isZ (by rfl) T.f_isinstance (by decide +kernel) (pa_cons (pv 0) (pa_cons (pe_bltn (v := .ty "int") (by rfl) T.f_int (by decide +kernel) rfl) pa_nil))) (pe_one (pe_not (pe_callB (id := "isinstance") call_isZ (by rfl) T.f_isinstance (by decide +kernel) (pa_cons (pv 0) (pa_cons (pe_bltn (v := .ty "bool") (by rfl) T.f_bool (by decide +kernel) rfl) pa_nil))))))))), ?_⟩
      refine ⟨x, rfl, ?_⟩
      walk_at "rd"
      refine isz_d hx (Or.inl rfl) ⟨_, rfl, ?_⟩
      refine ite2 (fun c => ?_) (fun c => ?_)
      · refine ⟨x, rfl, ?_⟩
        walk_at "rd"
        refine isz_d hx (Or.inr (Or.inl rfl)) ⟨_, rfl, ?_⟩
        have e : (!isD d "bool") = whole d := by
          cases d <;> first | rfl | (simp [isD, tyD, whole, primeD, wholeTo] at c)
        show Q (.bl (!isD d "bool")) H
        rw [e]
        exact q
      · have e : whole d = false := by
          cases d <;> first | rfl | (simp [isD, tyD, whole, primeD, wholeTo] at c)
        rw [e] at q
        exact q
  exact has_of F G T.g_is_whole (fun _ _ _ _ _ _ us hl => match us, hl with | [_], _ => rfl)
theorem ok_is_whole_to (T : Txt K mg) {fd : FuncData} (F : FnP K "is_whole_to" s_is_whole_to fd)
    (H_is_whole : Has P w K mg base CX0 1 "is_whole" P_is_whole (sp_is_whole K)) :
    Has P w K mg base CX0 2 "is_whole_to" P_is_whole_to (sp_is_whole_to K) := by
  have G : FnOk P w K mg base CX0 2 (He.ga K "is_whole_to") fd P_is_whole_to (sp_is_whole_to K) := by
    refine F.ok (k := 1) sc_is_whole_to (fun vs H Q E h => ?_) (fun cdv A outer s H vs Q E hr h => ?_)
    · obtain ⟨x, d, av, m, rfl, hx, q⟩ := h
      rfl
    · obtain ⟨x, d, av, m, rfl, hx, q⟩ := h
      refine ⟨_, (PSs.nox (pss_one (ps_ret (pe_and (pe_has H_is_whole (hr.mono (by decide)) pass0 (pa_cons (pv 0) pa_nil)) (pe_one (pe_chain op_le op_le pe_int (pv 0) (pv 1))))))), ?_⟩
      refine ⟨x, rfl, x, d, av, rfl, hx, _, rfl, ?_⟩
      cases hw : whole d with
      | false =>
        have e : wholeTo d m = false := by
          cases d <;> first | rfl | (simp [isD, tyD, whole, primeD, wholeTo] at hw)
        rw [e] at q
        exact (if_neg Bool.false_ne_true).mpr q
      | true =>
        obtain ⟨n, rfl⟩ : ∃ n, d = .int n := by
          cases d <;> first | exact ⟨_, rfl⟩ | (simp [isD, tyD, whole, primeD, wholeTo] at hw)
        cases hx
        refine (if_pos rfl).mpr ?_
        refine ⟨_, rfl, 0, n, rfl, rfl, _, rfl, ?_⟩
        refine ite2 (fun c1 => ?_) (fun c1 => ?_)
        · refine ⟨_, rfl, n, m, rfl, rfl, ?_⟩
          have e : wholeTo (.int n) m = decide (n ≤ m) := by
            show decide (0 ≤ n ∧ n ≤ m) = decide (n ≤ m)
            have c1' : 0 ≤ n := of_decide_eq_true c1
            by_cases c2 : n ≤ m
            · rw [decide_eq_true c2, decide_eq_true ⟨c1', c2⟩]
            · rw [decide_eq_false c2, decide_eq_false (fun z => c2 z.2)]
          rw [e] at q
          exact q
        · have e : wholeTo (.int n) m = false := decide_eq_false fun z => c1 (decide_eq_true z.1)
          rw [e] at q
          exact q
  exact has_of F G T.g_is_whole_to (fun _ _ _ _ _ _ us hl => match us, hl with | [_, _], _ => rfl)
theorem ok_is_prime (T : Txt K mg) {fd : FuncData} (F : FnP K "is_prime" s_is_prime fd)
    (H_is_whole : Has P w K mg base CX0 1 "is_whole" P_is_whole (sp_is_whole K)) :
    Has P w K mg base CX0 2 "is_prime" P_is_prime (sp_is_prime K) := by
  have G : FnOk P w K mg base CX0 2 (He.ga K "is_prime") fd P_is_prime (sp_is_prime K) := by
    refine F.ok (k := 1) sc_is_prime (fun vs H Q E h => ?_) (fun cdv A outer s H vs Q E hr h => ?_)
    · obtain ⟨x, d, av, rfl, hx, q⟩ := h
      rfl
    · obtain ⟨x, d, av, rfl, hx, q⟩ := h
      refine ⟨_, (PSs.nox (pss_cons (ps_if (PW.pt (pw_or (pt_not (pt_val (pe_has H_is_whole (hr.mono (by decide)) pass0 (pa_cons (pv 0) pa_nil)))) (pw_or1 (pt_not (pt_chain op_le op_le pe_int (pv 0) (pe_glob (v := .int 97) (by rfl) (T.c_GREATEST_PRIME).choose_spec ⟨_, rfl⟩))))))
   (pss_one (ps_ret pe_bl)) pss_nil)
  (pss_one (ps_ret (pe_callB (id := "all") (cr_allI rfl) (by rfl) T.f_all (by decide +kernel) (pa_cons (pe_lc (own := [("number", 1)]) rfl sc_is_prime.nd (pi_range2 (by rfl) T.f_range (pa_cons pe_int (pa_cons (pv 0) pa_nil))) (blkOk_by (N := N_is_prime) (sc := defScope s_is_prime) (by decide +kernel)) (fun _ _ _ _ _ => pg_name (i := 1) (sc_is_prime.nd) rfl (by first | exact Or.inl rfl | exact Or.inr rfl)) (fun _ _ _ _ _ => pts_nil) (fun _ _ _ _ _ => (pe_op op_modP (pv 0) (pv 1)))) pa_nil)))))), ?_⟩
      have hP : ∀ b : Bool, primeD d = b → ∀ H', Same H H' → Q (.bl b) H' := by
        intro b e H' s
        rw [← e]
        exact q H' s
      refine ⟨_, rfl, x, d, av, rfl, hx, _, rfl, ?_⟩
      cases hi : whole d with
      | false =>
        refine iteT ?_
        refine iteT ?_
        refine hP false ?_ H (Same.refl H)
        cases d <;> first | rfl | (simp [isD, tyD, whole, primeD, wholeTo] at hi)
      | true =>
        obtain ⟨n, rfl⟩ : ∃ n, d = .int n := by
          cases d <;> first | exact ⟨_, rfl⟩ | (simp [isD, tyD, whole, primeD, wholeTo] at hi)
        cases hx
        refine iteF ?_
        refine ⟨_, rfl, 2, n, rfl, rfl, _, rfl, ?_⟩
        refine ite2 (fun c1 => ?_) (fun c1 => ?_)
        · refine ⟨n, 97, rfl, rfl, _, rfl, ?_⟩
          have c1' : 2 ≤ n := of_decide_eq_true c1
          by_cases c2 : n ≤ 97
          · rw [decide_eq_true c2]
            refine iteF ?_
            refine ⟨_, rfl, 2, n, rfl, ⟨by decide, by decide, by omega, by omega⟩, ?_⟩
            intro D hD
            refine lc_range (lo := 2) (n := (n - 2).toNat) (fun i G => Same H G ∧ G D = some (.lst (((List.range i).map fun (i : Nat) => n % (2 + (i : Int))).map V.int))) ⟨same_upd hD, upd_same⟩ ?_ ?_
            · rintro i G hi ⟨sG, hG⟩
              refine ⟨rfl, ?_⟩
              refine ⟨_, rfl, _, rfl, n, 2 + (i : Int), rfl, rfl, by omega, ?_⟩
              refine ⟨_, (Same.refl G) _ _ hG, lt10 (by rw [List.length_map, List.length_map, List.length_range]; omega), acc_same hD sG (Same.refl G), ?_⟩
              rw [upd_same, List.range_succ, List.map_append, List.map_append]
              rfl
            · rintro G ⟨sG, hG⟩
              refine ⟨D, (List.range (n - 2).toNat).map (fun (i : Nat) => n % (2 + (i : Int))), rfl, .inl (.inl hG), ?_⟩
              refine hP _ ?_ _ sG
              show (decide (2 ≤ n ∧ n ≤ 97) && _) = _
              rw [decide_eq_true (⟨c1', c2⟩ : 2 ≤ n ∧ n ≤ 97), Bool.true_and]
          · rw [decide_eq_false c2]
            refine iteT ?_
            refine hP false (primeN_out fun z => c2 z.2) H (Same.refl H)
        · refine ⟨false, rfl, ?_⟩
          refine iteT ?_
          refine hP false (primeN_out fun z => c1 (decide_eq_true z.1)) H (Same.refl H)
  exact has_of F G T.g_is_prime (fun _ _ _ _ _ _ us hl => match us, hl with | [_], _ => rfl)
theorem ok_need_prime (T : Txt K mg) {fd : FuncData} (F : FnP K "need_prime" s_need_prime fd)
    (H_is_prime : Has P w K mg base CX0 2 "is_prime" P_is_prime (sp_is_prime K)) :
    Has P w K mg base (L2.CX P w) 3 "need_prime" P_need_prime (sp_need_prime K) := by
  have G : FnOk P w K mg base (L2.CX P w) 3 (He.ga K "need_prime") fd P_need_prime (sp_need_prime K) := by
    refine F.ok (k := 2) sc_need_prime (fun vs H Q E h => ?_) (fun cdv A outer s H vs Q E hr h => ?_)
    · obtain ⟨x, d, av, rfl, hx, q⟩ := h
      rfl
    · obtain ⟨x, d, av, rfl, hx, q⟩ := h
      refine ⟨_, (pss_one (ps_if (pt_not (pt_val (pe_has H_is_prime (hr.mono (by decide)) pass0 (pa_cons (pv 0) pa_nil))))
   (pss_one (ps_raise rfl (takes_of rfl rfl rfl rfl) (pmk_own PySem.F.excBase_ValueError T.x_NoPrime T.g_NoPrime T.k_NoPrime (raises_own T.b_NoPrime T.t_NoPrime) rfl))) pss_nil)), ?_⟩
      refine ⟨x, rfl, x, d, av, rfl, hx, fun H' s => ⟨_, rfl, ?_⟩⟩
      have q' := q H' s
      by_cases c : primeD d = true
      · rw [if_pos c] at q'
        rw [c]
        exact iteF q'
      · rw [if_neg c] at q'
        rw [Bool.not_eq_true _ |>.mp c]
        exact iteT q'
  exact has_of F G T.g_need_prime (fun _ _ _ _ _ _ us hl => match us, hl with | [_], _ => rfl)
theorem ok__is_row (T : Txt K mg) {fd : FuncData} (F : FnP K "_is_row" s__is_row fd)
    (H_is_whole_to : Has P w K mg base CX0 2 "is_whole_to" P_is_whole_to (sp_is_whole_to K)) :
    Has P w K mg base CX0 3 "_is_row" P__is_row (sp__is_row K) := by
  have G : FnOk P w K mg base CX0 3 (He.ga K "_is_row") fd P__is_row (sp__is_row K) := by
    refine F.ok (k := 2) sc__is_row (fun vs H Q E h => ?_) (fun cdv A outer s H vs Q E hr h => ?_)
    · obtain ⟨x, d, av, c, p, rfl, hx, hc, q⟩ := h
      rfl
    · obtain ⟨x, d, av, c, p, rfl, hx, hc, q⟩ := h
      refine ⟨_, (PSs.nox (pss_cons (ps_if (PW.pt (pw_or (pt_not (pt_val (pe_callB (id := "isinstance") call_isZ (by rfl) T.f_isinstance (by decide +kernel) (pa_cons (pv 0) (pa_cons (pe_bltn (v := .ty "tuple") (by rfl) T.f_tuple (by decide +kernel) rfl) pa_nil))))) (pw_or1 (pt_cmpR op_ne (pe_callB (id := "len") call_len (by rfl) T.f_len (by decide +kernel) (pa_cons (pv 0) pa_nil)) (pv 1) (nomark _)))))
   (pss_one (ps_ret pe_bl)) pss_nil)
  (pss_one (ps_ret (pe_callB (id := "all") (cr_all rfl) (by rfl) T.f_all (by decide +kernel) (pa_cons (pe_lc (own := [("x", 3)]) rfl sc__is_row.nd (pi_tup (pv 0)) (blkOk_by (N := N__is_row) (sc := defScope s__is_row) (by decide +kernel)) (fun _ _ _ _ _ => pg_name (i := 3) (sc__is_row.nd) rfl (by first | exact Or.inl rfl | exact Or.inr rfl)) (fun _ _ _ _ _ => pts_nil) (fun _ _ _ _ _ => (pe_has H_is_whole_to (hr.mono (by decide)) pass0 (pa_cons (pv 3) (pa_cons (pe_op op_sub (pv 2) pe_int) pa_nil))))) pa_nil)))))), ?_⟩
      have hP : ∀ b : Bool, isRowD d c p = b → ∀ H', Same H H' → Q (.bl b) H' := by
        intro b e H' s
        rw [← e]
        exact q H' s
      refine ⟨x, rfl, ?_⟩
      walk_at "rd"
      refine isz_d hx (Or.inr (Or.inr (Or.inl rfl))) ⟨_, rfl, ?_⟩
      cases ht : isD d "tuple" with
      | false =>
        refine iteT ?_
        refine iteT ?_
        refine hP false ?_ H (Same.refl H)
        cases d <;> first | rfl | (simp [isD, tyD, whole, primeD, wholeTo] at ht)
      | true =>
        obtain ⟨ds, rfl⟩ : ∃ ds, d = .tuple ds := by
          cases d <;> first | exact ⟨_, rfl⟩ | (simp [isD, tyD, whole, primeD, wholeTo] at ht)
        refine iteF ?_
        obtain ⟨a, xs, rfl, hS, hA⟩ := hx.isTup
        have hl := hA.length
        refine ⟨_, rfl, .ref a, xs.length, rfl, .inr ⟨_, hS, rfl⟩, _, rfl, rfl, _, rfl, ?_⟩
        by_cases e : ((xs.length : Nat) : Int) = c
        · rw [decide_eq_true (show V.int ((xs.length : Nat) : Int) = V.int c by rw [e])]
          refine iteF ?_
          refine ⟨_, rfl, a, rfl, ⟨_, hS⟩, fun D nD => ?_⟩
          refine lc_tup (K := K) (a := a) (xs := xs) (fun i G => Same H G ∧ G D = some (.lst (((ds.take i).map fun z => wholeTo z (p - 1)).map V.bl))) ⟨same_upd nD, upd_same⟩ (fun i G _ z => Same.seqT z.1 hS) ?_ ?_
          · rintro i v G hi ⟨sG, hG⟩
            obtain ⟨z, hz, hv⟩ := hA.get hi
            have hlt := (List.getElem?_eq_some_iff.mp hi).1
            refine ⟨rfl, ?_⟩
            refine ⟨_, rfl, _, rfl, p, 1, rfl, rfl, v, z, av, _, rfl, hv.same sG, ?_⟩
            refine ⟨_, (Same.refl G) _ _ hG, lt10 (by rw [List.length_map, List.length_map, List.length_take]; omega), acc_same nD sG (Same.refl G), ?_⟩
            rw [upd_same, List.take_add_one, hz, List.map_append, List.map_append]
            rfl
          · rintro G ⟨sG, hG⟩
            refine ⟨D, ds.map fun z => wholeTo z (p - 1), rfl, .inl (.inl (by rw [hG, hl, List.take_length])), ?_⟩
            refine hP _ ?_ _ sG
            show (decide ((ds.length : Int) = c) && _) = _
            rw [decide_eq_true (by omega), Bool.true_and, List.all_map]
            rfl
        · rw [decide_eq_false (show ¬ V.int ((xs.length : Nat) : Int) = V.int c from fun z => e (by injection z))]
          refine iteT ?_
          refine hP false ?_ H (Same.refl H)
          show (decide ((ds.length : Int) = c) && _) = _
          rw [decide_eq_false (by omega), Bool.false_and]
  exact has_of F G T.g__is_row (fun _ _ _ _ _ _ us hl => match us, hl with | [_, _, _], _ => rfl)
theorem ok__is_made (T : Txt K mg) {fd : FuncData} (F : FnP K "_is_made" s__is_made fd)
    (H_is_whole_to : Has P w K mg base CX0 2 "is_whole_to" P_is_whole_to (sp_is_whole_to K))
    (H__is_row : Has P w K mg base CX0 3 "_is_row" P__is_row (sp__is_row K)) :
    Has P w K mg base CX0 4 "_is_made" P__is_made (sp__is_made K) := by
  have G : FnOk P w K mg base CX0 4 (He.ga K "_is_made") fd P__is_made (sp__is_made K) := by
    refine F.ok (k := 3) sc__is_made (fun vs H Q E h => ?_) (fun cdv A outer s H vs Q E hr h => ?_)
    · obtain ⟨x, d, av, p, rfl, hx, q⟩ := h
      rfl
    · obtain ⟨x, d, av, p, rfl, hx, q⟩ := h
      refine ⟨_, (PSs.nox (pss_cons (ps_if (PW.pt (pw_or (pt_not (pt_val (pe_callB (id := "isinstance") call_isZ (by rfl) T.f_isinstance (by decide +kernel) (pa_cons (pv 0) (pa_cons (pe_bltn (v := .ty "tuple") (by rfl) T.f_tuple (by decide +kernel) rfl) pa_nil))))) (pw_or1 (pt_cmpR op_ne (pe_callB (id := "len") call_len (by rfl) T.f_len (by decide +kernel) (pa_cons (pv 0) pa_nil)) pe_int (nomark _)))))
   (pss_one (ps_ret pe_bl)) pss_nil)
  (pss_cons (ps_asg (pv 0) (pg_tup rfl (pgs_cons (pg_name (i := 2) sc__is_made.nd rfl (by first | exact Or.inl rfl | exact Or.inr rfl)) (pgs_cons (pg_name (i := 3) sc__is_made.nd rfl (by first | exact Or.inl rfl | exact Or.inr rfl)) (pgs_cons (pg_name (i := 4) sc__is_made.nd rfl (by first | exact Or.inl rfl | exact Or.inr rfl)) pgs_nil)))))
  (pss_cons (ps_if (PW.pt (pw_or (pt_not (pt_val (pe_has H_is_whole_to (hr.mono (by decide)) pass0 (pa_cons (pv 2) (pa_cons (pe_glob (v := .int 2000) (by rfl) (T.c_MOST_ROWS).choose_spec ⟨_, rfl⟩) pa_nil))))) (pw_or1 (pt_not (pt_val (pe_has H_is_whole_to (hr.mono (by decide)) pass0 (pa_cons (pv 3) (pa_cons (pe_glob (v := .int 2000) (by rfl) (T.c_MOST_ROWS).choose_spec ⟨_, rfl⟩) pa_nil))))))))
   (pss_one (ps_ret pe_bl)) pss_nil)
  (pss_cons (ps_if (PW.pt (pw_or (pt_not (pt_val (pe_callB (id := "isinstance") call_isZ (by rfl) T.f_isinstance (by decide +kernel) (pa_cons (pv 4) (pa_cons (pe_bltn (v := .ty "tuple") (by rfl) T.f_tuple (by decide +kernel) rfl) pa_nil))))) (pw_or1 (pt_cmpR op_ne (pe_callB (id := "len") call_len (by rfl) T.f_len (by decide +kernel) (pa_cons (pv 4) pa_nil)) (pv 2) (nomark _)))))
   (pss_one (ps_ret pe_bl)) pss_nil)
  (pss_one (ps_ret (pe_callB (id := "all") (cr_all rfl) (by rfl) T.f_all (by decide +kernel) (pa_cons (pe_lc (own := [("row", 5)]) rfl sc__is_made.nd (pi_tup (pv 4)) (blkOk_by (N := N__is_made) (sc := defScope s__is_made) (by decide +kernel)) (fun _ _ _ _ _ => pg_name (i := 5) (sc__is_made.nd) rfl (by first | exact Or.inl rfl | exact Or.inr rfl)) (fun _ _ _ _ _ => pts_nil) (fun _ _ _ _ _ => (pe_has H__is_row (hr.mono (by decide)) pass0 (pa_cons (pv 5) (pa_cons (pv 3) (pa_cons (pv 1) pa_nil)))))) pa_nil))))))))), ?_⟩
      have hP : ∀ b : Bool, isMatD d p = b → ∀ H', Same H H' → Q (.bl b) H' := by
        intro b e H' s
        rw [← e]
        exact q H' s
      refine ⟨x, rfl, ?_⟩
      walk_at "rd"
      refine isz_d hx (Or.inr (Or.inr (Or.inl rfl))) ⟨_, rfl, ?_⟩
      cases ht : isD d "tuple" with
      | false =>
        refine iteT ?_
        refine iteT ?_
        refine hP false ?_ H (Same.refl H)
        cases d <;> first | rfl | (simp [isD, tyD, whole, primeD, wholeTo] at ht)
      | true =>
        obtain ⟨ds, rfl⟩ : ∃ ds, d = .tuple ds := by
          cases d <;> first | exact ⟨_, rfl⟩ | (simp [isD, tyD, whole, primeD, wholeTo] at ht)
        refine iteF ?_
        obtain ⟨a, xs, rfl, hS, hA⟩ := hx.isTup
        have hl := hA.length
        refine ⟨_, rfl, .ref a, xs.length, rfl, .inr ⟨_, hS, rfl⟩, rfl, _, rfl, ?_⟩
        by_cases e : xs.length = 3
        · rw [decide_eq_true (show V.int ((xs.length : Nat) : Int) = V.int 3 by rw [e]; rfl)]
          refine iteF ?_
          obtain ⟨x1, x2, x3, rfl⟩ := len3 e
          obtain ⟨d1, d2, d3, rfl⟩ := len3 (show ds.length = 3 by omega)
          cases hA with
          | cons h1 hA =>
            cases hA with
            | cons h2 hA =>
              cases hA with
              | cons h3 hA =>
                refine ⟨_, rfl, a, _, rfl, hS, rfl, _, _, rfl, _, _, rfl, _, _, rfl, rfl, ?_⟩
                refine ⟨_, rfl, x1, d1, av, 2000, rfl, h1, _, rfl, ?_⟩
                cases w1 : wholeTo d1 2000 with
                | false =>
                  refine iteT ?_
                  refine iteT ?_
                  refine hP false ?_ H (Same.refl H)
                  cases d1 with
                  | int i =>
                    cases d3 with
                    | tuple rows =>
                      cases d2 with
                      | int j =>
                        show (decide (0 ≤ i ∧ i ≤ 2000) && _) = false
                        rw [show decide (0 ≤ i ∧ i ≤ 2000) = false from w1, Bool.false_and]
                      | _ => rfl
                    | _ => rfl
                  | _ => cases d3 <;> rfl
                | true =>
                  refine iteF ?_
                  refine ⟨_, rfl, x2, d2, av, 2000, rfl, h2, _, rfl, ?_⟩
                  obtain ⟨i, rfl⟩ : ∃ i, d1 = .int i := by
                    cases d1 <;> first | exact ⟨_, rfl⟩ | (simp [isD, tyD, whole, primeD, wholeTo] at w1)
                  cases w2 : wholeTo d2 2000 with
                  | false =>
                    refine iteT ?_
                    refine hP false ?_ H (Same.refl H)
                    cases d3 with
                    | tuple rows =>
                      cases d2 with
                      | int j =>
                        show (decide (0 ≤ i ∧ i ≤ 2000) && (decide (0 ≤ j ∧ j ≤ 2000) && _)) = false
                        rw [show decide (0 ≤ j ∧ j ≤ 2000) = false from w2, Bool.false_and, Bool.and_false]
                      | _ => rfl
                    | _ => rfl
                  | true =>
                    refine iteF ?_
                    obtain ⟨j, rfl⟩ : ∃ j, d2 = .int j := by
                      cases d2 <;> first | exact ⟨_, rfl⟩ | (simp [isD, tyD, whole, primeD, wholeTo] at w2)
                    cases h1
                    cases h2
                    have w1' : 0 ≤ i ∧ i ≤ 2000 := of_decide_eq_true w1
                    have w2' : 0 ≤ j ∧ j ≤ 2000 := of_decide_eq_true w2
                    refine ⟨_, rfl, ?_⟩
                    walk_at "rd"
                    refine isz_d h3 (Or.inr (Or.inr (Or.inl rfl))) ⟨_, rfl, ?_⟩
                    cases ht3 : isD d3 "tuple" with
                    | false =>
                      refine iteT ?_
                      refine iteT ?_
                      refine hP false ?_ H (Same.refl H)
                      cases d3 <;> first | rfl | (simp [isD, tyD, whole, primeD, wholeTo] at ht3)
                    | true =>
                      obtain ⟨rows, rfl⟩ : ∃ rows, d3 = .tuple rows := by
                        cases d3 <;> first | exact ⟨_, rfl⟩ | (simp [isD, tyD, whole, primeD, wholeTo] at ht3)
                      refine iteF ?_
                      obtain ⟨b, ys, rfl, hS3, hA3⟩ := h3.isTup
                      have hl3 := hA3.length
                      refine ⟨_, rfl, .ref b, ys.length, rfl, .inr ⟨_, hS3, rfl⟩, _, rfl, rfl, _, rfl, ?_⟩
                      by_cases e3 : ((ys.length : Nat) : Int) = i
                      · rw [decide_eq_true (show V.int ((ys.length : Nat) : Int) = V.int i by rw [e3])]
                        refine iteF ?_
                        refine ⟨_, rfl, b, rfl, ⟨_, hS3⟩, fun D nD => ?_⟩
                        refine lc_tup (K := K) (a := b) (xs := ys) (fun i G => Same H G ∧ G D = some (.lst (((rows.take i).map fun z => isRowD z j p).map V.bl))) ⟨same_upd nD, upd_same⟩ (fun i G _ z => Same.seqT z.1 hS3) ?_ ?_
                        · rintro i2 v G hi ⟨sG, hG⟩
                          obtain ⟨z, hz, hv⟩ := hA3.get hi
                          have hlt := (List.getElem?_eq_some_iff.mp hi).1
                          refine ⟨rfl, ?_⟩
                          refine ⟨_, rfl, _, rfl, _, rfl, v, z, av, j, p, rfl, hv.same sG, w2'.2, fun G4 s4 => ?_⟩
                          refine ⟨_, s4 _ _ hG, lt10 (by rw [List.length_map, List.length_map, List.length_take]; omega), acc_same nD sG s4, ?_⟩
                          rw [upd_same, List.take_add_one, hz, List.map_append, List.map_append]
                          rfl
                        · rintro G ⟨sG, hG⟩
                          refine ⟨D, rows.map fun z => isRowD z j p, rfl, .inl (.inl (by rw [hG, hl3, List.take_length])), ?_⟩
                          refine hP _ ?_ _ sG
                          show (decide (0 ≤ i ∧ i ≤ 2000) && (decide (0 ≤ j ∧ j ≤ 2000) && (decide ((rows.length : Int) = i) && _))) = _
                          rw [decide_eq_true w1', decide_eq_true w2', decide_eq_true (by omega : (rows.length : Int) = i), Bool.true_and, Bool.true_and, Bool.true_and, List.all_map]
                          rfl
                      · rw [decide_eq_false (show ¬ V.int ((ys.length : Nat) : Int) = V.int i from fun z => e3 (by injection z))]
                        refine iteT ?_
                        refine hP false ?_ H (Same.refl H)
                        show (decide (0 ≤ i ∧ i ≤ 2000) && (decide (0 ≤ j ∧ j ≤ 2000) && (decide ((rows.length : Int) = i) && _))) = false
                        rw [decide_eq_false (by omega : ¬ (rows.length : Int) = i), Bool.false_and, Bool.and_false, Bool.and_false]
        · rw [decide_eq_false (show ¬ V.int ((xs.length : Nat) : Int) = V.int 3 from fun z => e (by injection z with z; omega))]
          refine iteT ?_
          refine hP false ?_ H (Same.refl H)
          exact isMatD_len p (by omega)
  exact has_of F G T.g__is_made (fun _ _ _ _ _ _ us hl => match us, hl with | [_, _], _ => rfl)
theorem ok__law_spread (T : Txt K mg) {fd : FuncData} (F : FnP K "_law_spread" s__law_spread fd) :
    Has P w K mg base CX0 1 "_law_spread" P__law_spread sp__law_spread := by
  have G : FnOk P w K mg base CX0 1 (He.ga K "_law_spread") fd P__law_spread sp__law_spread := by
    refine F.ok (k := 0) sc__law_spread (fun vs H Q E h => ?_) (fun cdv A outer s H vs Q E hr h => ?_)
    · obtain ⟨cell, a, rfl, ha0, ha1, q⟩ := h
      rfl
    · obtain ⟨cell, a, rfl, ha0, ha1, q⟩ := h
      refine ⟨_, (PSs.nox (pss_cons (ps_if (pt_cmpR op_ge (pv 0) (pe_op op_pow pe_int pe_int) (nomark _))
   (pss_one (ps_ret (pv 0))) pss_nil)
  (pss_cons (ps_set (i := 2) sc__law_spread.nd rfl (by first | exact Or.inl rfl | exact Or.inr rfl) (pe_lst (pa_cons pe_int (pa_cons pe_int (pa_cons pe_int (pa_cons pe_int (pa_cons pe_int (pa_cons pe_int (pa_cons pe_int pa_nil)))))))))
  (pss_cons (ps_set (i := 2) sc__law_spread.nd rfl (by first | exact Or.inl rfl | exact Or.inr rfl) (pe_op op_cat (pv 2) (pe_lst (pa_cons pe_int (pa_cons pe_int (pa_cons pe_int (pa_cons pe_int (pa_cons pe_int (pa_cons pe_int pa_nil)))))))))
  (pss_cons (ps_set (i := 3) sc__law_spread.nd rfl (by first | exact Or.inl rfl | exact Or.inr rfl) (pe_op op_add (pe_op op_add (pe_op op_mul (pe_op op_modP (pv 0) pe_int) (pe_op op_add (pe_op op_mul pe_int (pv 1)) pe_int)) (pe_op op_mul (pv 1) pe_int)) pe_int))
  (pss_cons (ps_set (i := 4) sc__law_spread.nd rfl (by first | exact Or.inl rfl | exact Or.inr rfl) (pe_op op_modP (pe_op op_pow (pv 3) pe_int) (pe_ix ix_list (pv 2) (pe_op op_modP (pv 1) pe_int) (fun _ _ => rfl))))
  (pss_cons (ps_set (i := 5) sc__law_spread.nd rfl (by first | exact Or.inl rfl | exact Or.inr rfl) (pe_op op_modP (pe_op op_pow (pe_op op_add (pe_op op_add (pe_op op_mul (pv 4) (pe_op op_add (pv 1) pe_int)) (pe_op op_modP (pv 0) pe_int)) pe_int) pe_int) (pe_ix ix_list (pv 2) (pe_op op_modP (pe_op op_add (pv 1) pe_int) pe_int) (fun _ _ => rfl))))
  (pss_cons (ps_set (i := 6) sc__law_spread.nd rfl (by first | exact Or.inl rfl | exact Or.inr rfl) (pe_op op_modP (pe_op op_pow (pe_op op_add (pe_op op_add (pv 5) (pe_op op_modP (pv 4) pe_int)) (pv 1)) pe_int) (pe_ix ix_list (pv 2) (pe_op op_modP (pe_op op_add (pv 1) pe_int) pe_int) (fun _ _ => rfl))))
  (pss_one (ps_ret (pe_op op_add (pe_op op_mul (pe_op op_add (pe_op op_mul (pv 4) pe_int) (pv 5)) pe_int) (pv 6)))))))))))), ?_⟩
      refine ⟨_, rfl, _, _, rfl, rfl, ⟨by decide, by decide, by decide⟩, ?_⟩
      refine ⟨_, _, rfl, rfl, _, rfl, ?_⟩
      refine ite2 (fun _ => ?_) (fun _ => ?_)
      · exact ⟨_, rfl, q H cell (Same.refl H)⟩
      refine ⟨by show 7 ≤ sizeLine; decide, fun p1 n1 => ?_⟩
      refine ⟨_, rfl, by show 6 ≤ sizeLine; decide, fun p2 n2 => ?_⟩
      have ne12 : p1 ≠ p2 := ne_of_none upd_same n2
      refine ⟨p1, p2, _, _, rfl, rfl, by rw [upd_ne ne12]; exact upd_same, upd_same, by show 7 + 6 ≤ sizeLine; decide, fun p3 n3 => ?_⟩
      generalize hG : upd (upd (upd H p1 _) p2 _) p3 _ = G
      have sG : Same H G := by
        rw [← hG]
        exact (same_upd n1).trans ((same_upd n2).trans (same_upd n3))
      have hp3 : SqL K G p3 (spreads.map V.int) := by
        rw [← hG]
        exact .inl (.inl upd_same)
      -- mixed
      refine ⟨_, rfl, cell, 1000000007, rfl, rfl, by decide, ?_⟩
      refine ⟨_, rfl, 2, a, rfl, rfl, .inl ⟨by decide, by decide⟩, 2 * a, 69069, rfl, rfl, ?_⟩
      refine ⟨cell % 1000000007, 2 * a + 69069, rfl, rfl, .inl ⟨by omega, by omega⟩, ?_⟩
      refine ⟨_, rfl, a, 40503, rfl, rfl, .inl ⟨by omega, by omega⟩, ?_⟩
      refine ⟨_, _, rfl, rfl, _, _, rfl, rfl, ?_⟩
      have hm : 0 ≤ cell % 1000000007 * (2 * a + 69069) + a * 40503 + 977 ∧ cell % 1000000007 * (2 * a + 69069) + a * 40503 + 977 ≤ 200000000000000 := by
        have z := mul_in (a := cell % 1000000007) (b := 2 * a + 69069) (A := 1000000007) (B := 109069) (by omega) (by omega) (by omega) (by omega)
        omega
      try dsimp only
      generalize cell % 1000000007 * (2 * a + 69069) + a * 40503 + 977 = mixed at hm ⊢
      -- one
      refine ⟨_, rfl, mixed, 3, rfl, rfl, ⟨by decide, by decide, by omega⟩, ?_⟩
      obtain ⟨v1, hv1, hp1, hl1⟩ := spread_at a
      refine ⟨_, rfl, _, rfl, a, 13, rfl, rfl, by decide, p3, _, _, _, rfl, rfl, hp3, hv1, ?_⟩
      refine ⟨_, v1, rfl, rfl, hp1, ?_⟩
      have ho : 0 ≤ mixed ^ (3 : Int).toNat % v1 ∧ mixed ^ (3 : Int).toNat % v1 < 2147483647 := ⟨Int.emod_nonneg _ (by omega), Int.lt_trans (Int.emod_lt_of_pos _ hp1) hl1⟩
      try dsimp only
      generalize mixed ^ (3 : Int).toNat % v1 = one at ho ⊢
      -- two
      refine ⟨_, rfl, _, rfl, a, 3, rfl, rfl, ?_⟩
      refine ⟨one, a + 3, rfl, rfl, .inl ⟨by omega, by omega⟩, ?_⟩
      refine ⟨_, rfl, cell, 65537, rfl, rfl, by decide, ?_⟩
      refine ⟨_, _, rfl, rfl, _, _, rfl, rfl, ?_⟩
      have h2 : 0 ≤ one * (a + 3) + cell % 65537 + 5 ∧ one * (a + 3) + cell % 65537 + 5 < 100000000000000 := by
        have z := mul_in (a := one) (b := a + 3) (A := 2147483647) (B := 20003) (by omega) (by omega) (by omega) (by omega)
        omega
      try dsimp only
      generalize one * (a + 3) + cell % 65537 + 5 = t2 at h2 ⊢
      refine ⟨t2, 5, rfl, rfl, ⟨by decide, by decide, by omega⟩, ?_⟩
      obtain ⟨v2, hv2, hp2, hl2⟩ := spread_at (a + 5)
      refine ⟨_, rfl, _, rfl, a, 5, rfl, rfl, a + 5, 13, rfl, rfl, by decide, p3, _, _, _, rfl, rfl, hp3, hv2, ?_⟩
      refine ⟨_, v2, rfl, rfl, hp2, ?_⟩
      have hw : 0 ≤ t2 ^ (5 : Int).toNat % v2 ∧ t2 ^ (5 : Int).toNat % v2 < 2147483647 := ⟨Int.emod_nonneg _ (by omega), Int.lt_trans (Int.emod_lt_of_pos _ hp2) hl2⟩
      try dsimp only
      generalize t2 ^ (5 : Int).toNat % v2 = two at hw ⊢
      -- three
      refine ⟨_, rfl, _, rfl, one, 1009, rfl, rfl, by decide, two, one % 1009, rfl, rfl, ?_⟩
      refine ⟨_, rfl, _, a, rfl, rfl, _, 3, rfl, rfl, ⟨by decide, by decide, by omega⟩, ?_⟩
      obtain ⟨v3, hv3, hp3', hl3⟩ := spread_at (a + 7)
      refine ⟨_, rfl, _, rfl, a, 7, rfl, rfl, a + 7, 13, rfl, rfl, by decide, p3, _, _, _, rfl, rfl, hp3, hv3, ?_⟩
      refine ⟨_, v3, rfl, rfl, hp3', ?_⟩
      try dsimp only
      generalize (two + one % 1009 + a) ^ (3 : Int).toNat % v3 = three
      -- the end
      refine ⟨_, rfl, one, 2147483647, rfl, rfl, .inl ⟨by omega, by omega⟩, ?_⟩
      refine ⟨_, rfl, _, two, rfl, rfl, _, 2147483647, rfl, rfl, .inr ⟨by decide, by decide⟩, ?_⟩
      refine ⟨_, rfl, _, three, rfl, rfl, ?_⟩
      exact q _ _ sG
  exact has_of F G T.g__law_spread (fun _ _ _ _ _ _ us hl => match us, hl with | [_, _], _ => rfl)
theorem ok__law_open (T : Txt K mg) {fd : FuncData} (F : FnP K "_law_open" s__law_open fd) :
    Has P w K mg base CX0 1 "_law_open" P__law_open (sp__law_open K) := by
  have G : FnOk P w K mg base CX0 1 (He.ga K "_law_open") fd P__law_open (sp__law_open K) := by
    refine F.ok (k := 0) sc__law_open (fun vs H Q E h => ?_) (fun cdv A outer s H vs Q E hr h => ?_)
    · obtain ⟨a, ns, rfl, hS, hlen, q⟩ := h
      rfl
    · obtain ⟨a, ns, rfl, hS, hlen, q⟩ := h
      refine ⟨_, (PSs.nox (pss_cons (ps_set (i := 1) sc__law_open.nd rfl (by first | exact Or.inl rfl | exact Or.inr rfl) (pe_callTy (T := "list") call_list_of (by rfl) T.f_list (by decide +kernel) (pa_cons (pe_slice sl_list (pv 0) po_none (po_some pe_int)) pa_nil)))
  (pss_cons (ps_for PassesOwn.never rfl (pi_enum (by rfl) T.f_enumerate (pa_cons (pe_slice sl_list (pv 0) (po_some pe_int) (po_some pe_int)) pa_nil)) (pg_tup rfl (pgs_cons (pg_name (i := 2) sc__law_open.nd rfl (by first | exact Or.inl rfl | exact Or.inr rfl)) (pgs_cons (pg_name (i := 3) sc__law_open.nd rfl (by first | exact Or.inl rfl | exact Or.inr rfl)) pgs_nil)))
   (pss_one (ps_asg (pe_op op_add (pe_ix ix_list (pv 1) (pe_op op_modP (pv 2) pe_int) (fun _ _ => rfl)) (pv 3)) (pg_sub (pv 1) (pe_op op_modP (pv 2) pe_int) set_list))))
  (pss_one (ps_ret (pe_lst (pa_cons (pv 1) (pa_cons pe_int (pa_cons pe_int pa_nil))))))))), ?_⟩
      refine ⟨_, rfl, 12, rfl, a, ns.map V.int, rfl, hS, fun p1 n1 => ?_⟩
      have s1 := same_upd (o := .lst (cutV (ns.map V.int) none (some 12))) n1
      refine ⟨p1, _, rfl, .inl (.inl (.inl upd_same)), fun p2 n2 => ?_⟩
      have s2 := same_upd (o := .lst (cutV (ns.map V.int) none (some 12))) n2
      generalize hG : upd (upd H p1 _) p2 _ = G
      have sG : Same H G := by
        rw [← hG]
        exact s1.trans s2
      have hc : G p2 = some (.lst ((ns.take 12).map V.int)) := by
        rw [← hG, upd_same, show (12 : Int) = ((12 : Nat) : Int) from rfl, cut_take, List.map_take]
      have n2' : H p2 = none := Same.free s1 n2
      -- the rest of the script
      refine ⟨_, rfl, 12, rfl, 63, rfl, a, ns.map V.int, rfl, sG.seq hS, fun p3 n3 => ?_⟩
      have s3 := same_upd (o := .lst (cutV (ns.map V.int) (some 12) (some 63))) n3
      have h3 : (upd G p3 (.lst (cutV (ns.map V.int) (some 12) (some 63)))) p3 = some (.lst (((ns.drop 12).take 51).map V.int)) := by
        rw [upd_same, show (12 : Int) = ((12 : Nat) : Int) from rfl, show (63 : Int) = ((63 : Nat) : Int) from rfl, cut_mid, List.map_take, List.map_drop]
      have hc3 : (upd G p3 (.lst (cutV (ns.map V.int) (some 12) (some 63)))) p2 = some (.lst ((ns.take 12).map V.int)) := s3 _ _ hc
      have ne32 : p3 ≠ p2 := fun z => by rw [z, hc] at n3; cases n3
      refine ⟨p3, _, rfl, .inl (.inl h3), ?_⟩
      refine for_enumL (xs := ((ns.drop 12).take 51).map V.int)
        (fun i σ F => ∃ (k x : Option V) (cs : List Int), σ = [some (.ref a), some (.ref p2), k, x] ∧ Same H F ∧ F p3 = some (.lst (((ns.drop 12).take 51).map V.int)) ∧
          F p2 = some (.lst (cs.map V.int)) ∧ cs.length = (ns.take 12).length)
        ⟨none, none, ns.take 12, rfl, sG.trans s3, h3, hc3, rfl⟩ (fun i σ F ⟨_, _, _, _, _, h, _⟩ => .inl (.inl h)) ?_ ?_
      · rintro i x T σ F hx ⟨k, x', cs, rfl, sF, hF3, hF2, hl⟩ nT
        obtain ⟨z, hz, rfl⟩ : ∃ z, ((ns.drop 12).take 51)[i]? = some z ∧ V.int z = x := by
          rw [List.getElem?_map] at hx
          cases e : ((ns.drop 12).take 51)[i]? with
          | none => rw [e] at hx; cases hx
          | some z =>
            rw [e] at hx
            exact ⟨z, rfl, Option.some.inj hx⟩
        have hlen : (ns.take 12).length = 12 := by
          have h1 := (List.getElem?_eq_some_iff.mp hz).1
          rw [List.length_take, List.length_drop] at h1
          rw [List.length_take]
          omega
        have nT2 : p2 ≠ T := ne_of_none hF2 nT
        have nT3 : p3 ≠ T := ne_of_none hF3 nT
        have sT := same_upd (o := .tup [.int (i : Nat), .int z]) nT
        -- k, cell = the pair
        refine ⟨T, _, rfl, .inl (.inl upd_same), rfl, _, _, rfl, _, _, rfl, rfl, ?_⟩
        have hF2' : (upd F T (.tup [.int (i : Nat), .int z])) p2 = some (.lst (cs.map V.int)) := sT _ _ hF2
        obtain ⟨y, hk, _⟩ := atI_int (ns := cs) (i := (i : Int) % 12) (by omega) (by omega)
        refine ⟨_, rfl, _, rfl, i, 12, rfl, rfl, by decide, p2, _, _, _, rfl, rfl, .inl (.inl hF2'), hk, ?_⟩
        refine ⟨_, rfl, _, z, rfl, rfl, ?_⟩
        refine ⟨_, rfl, _, rfl, i, 12, rfl, rfl, by decide, ?_⟩
        have hix : ixN (cs.map V.int).length ((i : Int) % 12) = some ((i : Int) % 12).toNat := ixN_in (by omega) (by rw [List.length_map]; omega)
        refine ⟨p2, cs.map V.int, (i : Int) % 12, _, rfl, rfl, hF2', hix, ?_⟩
        refine ⟨_, _, cs.set ((i : Int) % 12).toNat (y + z), rfl, ?_, ?_, ?_, ?_⟩
        · intro b o e
          have nb : b ≠ p2 := ne_of_none e n2'
          rw [upd_ne nb]
          exact sT _ _ (sF _ _ e)
        · rw [upd_ne ne32]
          exact sT _ _ hF3
        · rw [upd_same, List.map_set]
        · rw [List.length_set]
          exact hl
      · rintro σ F ⟨k, x', cs, rfl, sF, hF3, hF2, hl⟩
        refine ⟨_, rfl, by show 3 ≤ sizeLine; decide, fun pen np => ?_⟩
        have sp := same_upd (o := .lst [.ref p2, .int 0, .int 0]) np
        refine q _ pen p2 (Same.free sF np) (sF.trans sp) ⟨cs, 0, 0, upd_same, sp _ _ hF2, ?_, by decide, by decide⟩
        rw [hl, List.length_take]
        omega
  exact has_of F G T.g__law_open (fun _ _ _ _ _ _ us hl => match us, hl with | [_], _ => rfl)
theorem ok__law_anew (T : Txt K mg) {fd : FuncData} (F : FnP K "_law_anew" s__law_anew fd) :
    Has P w K mg base CX0 1 "_law_anew" P__law_anew sp__law_anew := by
  have G : FnOk P w K mg base CX0 1 (He.ga K "_law_anew") fd P__law_anew sp__law_anew := by
    refine F.ok (k := 0) sc__law_anew (fun vs H Q E h => ?_) (fun cdv A outer s H vs Q E hr h => ?_)
    · obtain ⟨pen, c, n, rfl, hp, q⟩ := h
      rfl
    · obtain ⟨pen, c, n, rfl, hp, q⟩ := h
      refine ⟨_, (PSs.nox (pss_cons (ps_asg pe_int (pg_sub (pv 0) pe_int set_list))
  (pss_one (ps_ret (pv 0))))), ?_⟩
      obtain ⟨cells, at0, l, h1, h2, h3, h4, h5⟩ := hp
      refine ⟨_, rfl, ?_⟩
      refine ⟨pen, _, 2, 2, rfl, rfl, h1, rfl, ?_⟩
      refine ⟨_, rfl, q _ (Oth.refl H pen).upd (penC_put h1 h2 h3 (Oth.refl H pen) h4 h5)⟩
  exact has_of F G T.g__law_anew (fun _ _ _ _ _ _ us hl => match us, hl with | [_], _ => rfl)
theorem ok__law_take (T : Txt K mg) {fd : FuncData} (F : FnP K "_law_take" s__law_take fd)
    (H__law_spread : Has P w K mg base CX0 1 "_law_spread" P__law_spread sp__law_spread) :
    Has P w K mg base CX0 2 "_law_take" P__law_take sp__law_take := by
  have G : FnOk P w K mg base CX0 2 (He.ga K "_law_take") fd P__law_take sp__law_take := by
    refine F.ok (k := 1) sc__law_take (fun vs H Q E h => ?_) (fun cdv A outer s H vs Q E hr h => ?_)
    · obtain ⟨pen, c, m, n, rfl, hp, hn, hm0, hm1, q⟩ := h
      rfl
    · obtain ⟨pen, c, m, n, rfl, hp, hn, hm0, hm1, q⟩ := h
      refine ⟨_, (PSs.nox (C8.pss_cut (ps_if (pt_cmpR op_lt (pe_ix ix_list (pv 0) pe_int (fun _ _ => rfl)) (pv 1) (nomark _))
   (pss_cons (ps_set (i := 2) sc__law_take.nd rfl (by first | exact Or.inl rfl | exact Or.inr rfl) (pe_ix ix_list (pv 0) pe_int (fun _ _ => rfl)))
  (pss_cons (ps_set (i := 3) sc__law_take.nd rfl (by first | exact Or.inl rfl | exact Or.inr rfl) pe_int)
  (C8.pss_cut (ps_if (pt_cmpR op_lt (pv 2) (pe_callB (id := "len") call_len (by rfl) T.f_len (by decide +kernel) (pa_cons (pe_ix ix_list (pv 0) pe_int (fun _ _ => rfl)) pa_nil)) (nomark _))
   (pss_one (ps_set (i := 3) sc__law_take.nd rfl (by first | exact Or.inl rfl | exact Or.inr rfl) (pe_ix ix_list (pe_ix ix_list (pv 0) pe_int (fun _ _ => rfl)) (pv 2) (fun _ _ => rfl)))) (pss_one (ps_if (pt_cmpR op_gt (pe_callB (id := "len") call_len (by rfl) T.f_len (by decide +kernel) (pa_cons (pe_ix ix_list (pv 0) pe_int (fun _ _ => rfl)) pa_nil)) pe_int (nomark _))
   (pss_one (ps_set (i := 3) sc__law_take.nd rfl (by first | exact Or.inl rfl | exact Or.inr rfl) (pe_op op_modP (pe_ix ix_list (pe_ix ix_list (pv 0) pe_int (fun _ _ => rfl)) (pe_op op_modP (pe_op op_add (pe_op op_mul (pv 2) pe_int) pe_int) (pe_callB (id := "len") call_len (by rfl) T.f_len (by decide +kernel) (pa_cons (pe_ix ix_list (pv 0) pe_int (fun _ _ => rfl)) pa_nil))) (fun _ _ => rfl)) (pe_op op_add (pe_op op_pow pe_int pe_int) (pv 2))))) pss_nil)))
  (pss_cons (ps_asg (pe_op op_add (pv 2) pe_int) (pg_sub (pv 0) pe_int set_list))
  (pss_one (ps_asg (pe_has H__law_spread (hr.mono (by decide)) pass0 (pa_cons (pv 3) (pa_cons (pv 2) pa_nil))) (pg_sub (pv 0) pe_int set_list))))))) pss_nil)
  (pss_cons (ps_set (i := 4) sc__law_take.nd rfl (by first | exact Or.inl rfl | exact Or.inr rfl) (pe_op op_modP (pe_ix ix_list (pv 0) pe_int (fun _ _ => rfl)) (pv 1)))
  (pss_cons (ps_asg (pe_op op_divP (pe_ix ix_list (pv 0) pe_int (fun _ _ => rfl)) (pv 1)) (pg_sub (pv 0) pe_int set_list))
  (pss_one (ps_ret (pv 4))))))), ?_⟩
      obtain ⟨cells, a, l, h1, h2, h3, h4, h5⟩ := hp
      refine ⟨fun σ F => ∃ (x y : Option V) (a' l' : Int), σ = [some (.ref pen), some (.int m), x, y, none] ∧ Oth H F pen ∧ F pen = some (.lst [.ref c, .int a', .int l']) ∧ 0 ≤ a' ∧ a' ≤ n + 1, ?_, ?_⟩
      · refine ⟨_, rfl, pen, _, 2, .int l, rfl, rfl, .inl (.inl h1), rfl, _, rfl, l, m, rfl, rfl, _, rfl, ?_⟩
        refine ite2 (fun _ => ?_) (fun _ => ?_)
        · refine ⟨_, rfl, pen, _, 1, .int a, rfl, rfl, .inl (.inl h1), rfl, ?_⟩
          refine ⟨fun σ F => ∃ x : Int, σ = [some (.ref pen), some (.int m), some (.int a), some (.int x), none] ∧ F = H, ?_, ?_⟩
          · refine ⟨_, rfl, _, rfl, pen, _, 0, .ref c, rfl, rfl, .inl (.inl h1), rfl, .ref c, cells.length, rfl, .inl ⟨_, .inl (.inl h2), by rw [List.length_map]⟩, ?_⟩
            refine ⟨a, _, rfl, rfl, _, rfl, ?_⟩
            refine ite2 (fun c1 => ?_) (fun c1 => ?_)
            · have c1' : a < cells.length := of_decide_eq_true c1
              obtain ⟨y, hk, _⟩ := atI_int h4 c1'
              refine ⟨_, rfl, pen, _, 0, .ref c, rfl, rfl, .inl (.inl h1), rfl, _, rfl, c, _, a, _, rfl, rfl, .inl (.inl h2), hk, ?_⟩
              exact ⟨_, rfl, rfl⟩
            · refine ⟨_, rfl, pen, _, 0, .ref c, rfl, rfl, .inl (.inl h1), rfl, .ref c, cells.length, rfl, .inl ⟨_, .inl (.inl h2), by rw [List.length_map]⟩, ?_⟩
              refine ⟨(cells.length : Nat), 0, rfl, rfl, _, rfl, ?_⟩
              refine ite2 (fun c2 => ?_) (fun c2 => ?_)
              · have c2' : (0 : Int) < cells.length := of_decide_eq_true c2
                refine ⟨_, rfl, pen, _, 0, .ref c, rfl, rfl, .inl (.inl h1), rfl, ?_⟩
                refine ⟨_, rfl, a, 5, rfl, rfl, .inr ⟨by decide, by decide⟩, a * 5, 3, rfl, rfl, ?_⟩
                refine ⟨_, rfl, pen, _, 0, .ref c, rfl, rfl, .inl (.inl h1), rfl, .ref c, cells.length, rfl, .inl ⟨_, .inl (.inl h2), by rw [List.length_map]⟩, ?_⟩
                refine ⟨a * 5 + 3, (cells.length : Nat), rfl, rfl, c2', ?_⟩
                have b1 := Int.emod_nonneg (a * 5 + 3) (show (cells.length : Int) ≠ 0 by omega)
                have b2 := Int.emod_lt_of_pos (a * 5 + 3) c2'
                try dsimp only
                generalize hi : (a * 5 + 3) % (cells.length : Int) = i at b1 b2 ⊢
                obtain ⟨y, hk, _⟩ := atI_int b1 b2
                refine ⟨c, _, i, _, rfl, rfl, .inl (.inl h2), hk, ?_⟩
                refine ⟨10, 17, rfl, rfl, ⟨by decide, by decide, by decide⟩, _, rfl, _, a, rfl, rfl, ?_⟩
                refine ⟨_, _, rfl, rfl, ?_, ⟨_, rfl, rfl⟩⟩
                have e17 : (10 : Int) ^ (17 : Int).toNat = 100000000000000000 := by decide
                rw [e17]
                omega
              · exact ⟨0, rfl, rfl⟩
          · rintro σ F ⟨x, rfl, rfl⟩
            refine ⟨_, rfl, a, 1, rfl, rfl, _, rfl, pen, _, 1, 1, rfl, rfl, h1, rfl, ?_⟩
            refine ⟨_, rfl, _, rfl, x, a, rfl, h4, by omega, fun G r sG => ?_⟩
            have nc := pen_ne h1 h2
            have hpG : G pen = some (.lst [.ref c, .int (a + 1), .int l]) := sG _ _ upd_same
            refine ⟨_, rfl, pen, _, 2, 2, rfl, rfl, hpG, rfl, ?_⟩
            refine ⟨_, _, a + 1, r, rfl, ?_, upd_same, by omega, by omega⟩
            intro b o nb e
            rw [upd_ne nb]
            exact sG _ _ (by rw [upd_ne nb]; exact e)
        · exact ⟨_, _, a, l, rfl, Oth.refl H pen, h1, h4, by omega⟩
      · rintro σ F ⟨x, y, a', l', rfl, oF, hF, g1, g2⟩
        refine ⟨_, rfl, pen, _, 2, .int l', rfl, rfl, .inl (.inl hF), rfl, _, rfl, l', m, rfl, rfl, hm0, ?_⟩
        refine ⟨_, rfl, pen, _, 2, .int l', rfl, rfl, .inl (.inl hF), rfl, _, rfl, l', m, rfl, rfl, ⟨hm0, hm1⟩, ?_⟩
        refine ⟨_, rfl, pen, _, 2, 2, rfl, rfl, hF, rfl, ?_⟩
        refine ⟨_, rfl, q _ _ (Int.emod_nonneg _ (by omega)) (Int.emod_lt_of_pos _ hm0) oF.upd ?_⟩
        exact penC_put h1 h2 h3 oF g1 g2
  exact has_of F G T.g__law_take (fun _ _ _ _ _ _ us hl => match us, hl with | [_, _], _ => rfl)
theorem ok__law_one (T : Txt K mg) {fd : FuncData} (F : FnP K "_law_one" s__law_one fd)
    (H__law_take : Has P w K mg base CX0 2 "_law_take" P__law_take sp__law_take) :
    Has P w K mg base CX0 3 "_law_one" P__law_one (sp__law_one K) := by
  have G : FnOk P w K mg base CX0 3 (He.ga K "_law_one") fd P__law_one (sp__law_one K) := by
    refine F.ok (k := 2) sc__law_one (fun vs H Q E h => ?_) (fun cdv A outer s H vs Q E hr h => ?_)
    · obtain ⟨pen, c, b, xs, n, rfl, hp, hn, nb, hS, hl0, hl1, q⟩ := h
      rfl
    · obtain ⟨pen, c, b, xs, n, rfl, hp, hn, nb, hS, hl0, hl1, q⟩ := h
      refine ⟨_, (PSs.nox (pss_one (ps_ret (pe_ix ix_list (pv 1) (pe_has H__law_take (hr.mono (by decide)) pass0 (pa_cons (pv 0) (pa_cons (pe_callB (id := "len") call_len (by rfl) T.f_len (by decide +kernel) (pa_cons (pv 1) pa_nil)) pa_nil))) (fun _ _ => rfl))))), ?_⟩
      refine ⟨_, rfl, _, rfl, _, rfl, .ref b, xs.length, rfl, .inl ⟨_, hS, rfl⟩, ?_⟩
      refine ⟨pen, c, (xs.length : Nat), n, rfl, hp, hn, by omega, by omega, fun r H' r0 r1 oH hP => ?_⟩
      obtain ⟨x, hx, hk, _⟩ := atI_in r0 r1
      exact ⟨b, xs, r, x, rfl, rfl, oH.seq nb hS, hk, q x hx H' oH hP⟩
  exact has_of F G T.g__law_one (fun _ _ _ _ _ _ us hl => match us, hl with | [_, _], _ => rfl)
end
end K03

set_option Elab.async false
set_option linter.all false
set_option maxRecDepth 100000
set_option maxHeartbeats 8000000
namespace K03
open PySem PySem.Spec PyProof.Rows L2 XA

def divs (n : Int) (m : Nat) : List Int := ((List.range m).map fun (i : Nat) => 2 + (i : Int)).filter fun k => n % k == 0
theorem divs_succ (n : Int) (m : Nat) : divs n (m + 1) = divs n m ++ (if (n % (2 + (m : Int)) == 0) = true then [2 + (m : Int)] else []) := by
  unfold divs
  rw [List.range_succ, List.map_append, List.filter_append]
  congr 1
  simp only [List.map_cons, List.map_nil, List.filter_cons, List.filter_nil]
theorem divs_len (n : Int) : ∀ m, (divs n m).length ≤ m
  | 0 => Nat.le_refl _
  | m + 1 => by
    have h := divs_len n m
    rw [divs_succ, List.length_append]
    split <;> simp <;> omega
theorem divs_prime {n : Int} (h2 : 2 ≤ n) (h97 : n ≤ 97) : (divs n (n - 2).toNat).isEmpty = primeN n := by
  have e : (divs n (n - 2).toNat).isEmpty = ((List.range (n - 2).toNat).map fun (i : Nat) => n % (2 + (i : Int))).all (fun r => r != 0) := by
    unfold divs
    rw [List.all_map, Bool.eq_iff_iff, List.isEmpty_iff, List.filter_eq_nil_iff, List.all_eq_true]
    constructor
    · intro h i hi
      have := h _ (List.mem_map.mpr ⟨i, hi, rfl⟩)
      simpa using this
    · intro h k hk
      obtain ⟨i, hi, rfl⟩ := List.mem_map.mp hk
      have := h i hi
      simpa using this
  rw [e]
  unfold primeN
  rw [decide_eq_true ⟨h2, h97⟩, Bool.true_and]
def plist (m : Nat) : List Int := ((List.range m).map fun (i : Nat) => 2 + (i : Int)).filter primeN
theorem plist_succ (m : Nat) : plist (m + 1) = plist m ++ (if primeN (2 + (m : Int)) = true then [2 + (m : Int)] else []) := by
  unfold plist
  rw [List.range_succ, List.map_append, List.filter_append]
  congr 1
  simp only [List.map_cons, List.map_nil, List.filter_cons, List.filter_nil]
theorem plist_len (m : Nat) : (plist m).length ≤ m := by
  unfold plist
  refine Nat.le_trans (List.length_filter_le _ _) ?_
  rw [List.length_map, List.length_range]
  exact Nat.le_refl _
theorem plist_in {m : Nat} {p : Int} (h : p ∈ plist m) : primeN p = true := (List.mem_filter.mp h).2
def sp__law_prime (K : PySem.W.Frag) : Sp := fun vs H Q _ => ∃ (pen c : Addr) (n : Int), vs = [.ref pen] ∧ PenC H pen c n ∧ n ≤ 9000 ∧
  ∀ (p : Int) (H' : Hp), primeN p = true → Oth H H' pen → PenC H' pen c (n + 3) → Q (.int p) H'
def sp__law_matrix (K : PySem.W.Frag) : Sp := fun vs H Q _ => ∃ (pen c : Addr) (h w : Nat) (p n : Int), vs = [.ref pen, .int h, .int w, .int p] ∧ PenC H pen c n ∧ n ≤ 9000 ∧ h ≤ 8 ∧ w ≤ 8 ∧
  2 ≤ p ∧ p ≤ 97 ∧ ∀ (v : V) (rows : List (List Int)) (H' : Hp), rows.length = h → Good rows w p → Da K H' pen v (matD h w rows) → Oth H H' pen → PenC H' pen c (n + 200) → Q v H'

def sp_need_matrix (K : PySem.W.Frag) : Sp := fun vs H Q E => ∃ x d av p, vs = [x, .int p] ∧ Da K H av x d ∧ ∀ H', Same H H' →
  (isMatD d p = true → Q .non H') ∧ (isMatD d p = false → E (.ref (He.ga K "NoMatrix")) none H')
def sp_flipped (K : PySem.W.Frag) : Sp := fun vs H Q E => ∃ x d y e av, vs = [x, y] ∧ Da K H av x d ∧ Da K H av y e ∧ ∀ H', Same H H' →
  (primeD e = false → E (.ref (He.ga K "NoPrime")) none H') ∧ ∀ p, e = .int p → primeN p = true → (isMatD d p = false → E (.ref (He.ga K "NoMatrix")) none H') ∧
    ∀ (r k : Nat) (rows : List (List Int)), d = matD r k rows → rows.length = r → r ≤ 2000 → k ≤ 2000 → Good rows k p → ∀ v, (∀ av, Da K H' av v (matD k r (flipR k rows))) → Q v H'
section
variable {P : Program} {w : World} {K : PySem.W.Frag} {mg : Str → Option Value} {base : Heap}
theorem ok__law_prime (T : Txt K mg) {fd : FuncData} (F : FnP K "_law_prime" s__law_prime fd)
    (H__law_one : Has P w K mg base CX0 3 "_law_one" P__law_one (sp__law_one K)) :
    Has P w K mg base CX0 4 "_law_prime" P__law_prime (sp__law_prime K) := by
  have G : FnOk P w K mg base CX0 4 (He.ga K "_law_prime") fd P__law_prime (sp__law_prime K) := by
    refine F.ok (k := 3) sc__law_prime (fun vs H Q E h => ?_) (fun cdv A outer s H vs Q E hr h => ?_)
    · obtain ⟨pen, c, n, rfl, hp, hn, q⟩ := h
      rfl
    · obtain ⟨pen, c, n, rfl, hp, hn, q⟩ := h
      refine ⟨_, (PSs.nox (pss_cons (ps_setLc (i := 1) (own := [("p", 2)]) rfl sc__law_prime.nd rfl rfl (sw_true rfl rfl rfl (by decide +kernel)) (pi_range2 (by rfl) T.f_range (pa_cons pe_int (pa_cons pe_int pa_nil))) (blkOk_by (N := N__law_prime) (sc := defScope s__law_prime) (by decide +kernel)) (fun _ _ _ _ _ => pg_name (i := 2) (sc__law_prime.nd) rfl (by first | exact Or.inl rfl | exact Or.inr rfl)) (fun _ _ _ _ _ => (pts_one (pt_cmpR (op_eqDK K (hu := hr.units)) (pe_lc (own := [("k", 3)]) rfl sc__law_prime.nd (pi_range2 (by rfl) T.f_range (pa_cons pe_int (pa_cons (pv 2) pa_nil))) (blkOk_by (by show blkC N__law_prime (relS _ (defScope s__law_prime)) _ _ = true; decide +kernel)) (fun _ _ _ _ _ => pg_name (i := 3) (sc__law_prime.nd) rfl (by first | exact Or.inl rfl | exact Or.inr rfl)) (fun _ _ _ _ _ => (pts_one (pt_cmpR op_eq (pe_op op_modP (pv 2) (pv 3)) pe_int (nomark _)))) (fun _ _ _ _ _ => (pv 3))) (pe_lst pa_nil) (nomark _)))) (fun _ _ _ _ _ => (pv 2)))
  (pss_one (ps_ret (pe_has H__law_one (hr.mono (by decide)) pass0 (pa_cons (pv 0) (pa_cons (pe_lst (pa_cons pe_int (pa_cons pe_int (pa_cons pe_int (pa_cons pe_int (pa_cons pe_int (pa_cons (pe_has H__law_one (hr.mono (by decide)) pass0 (pa_cons (pv 0) (pa_cons (pv 1) pa_nil))) (pa_cons (pe_has H__law_one (hr.mono (by decide)) pass0 (pa_cons (pv 0) (pa_cons (pv 1) pa_nil))) pa_nil)))))))) pa_nil))))))), ?_⟩
      refine ⟨2, 98, rfl, ⟨by decide, by decide, by decide, by decide⟩, fun D nD => ?_⟩
      have eD := hp.new_ne nD
      refine lc_range (lo := 2) (n := 96) (fun i G => Same H G ∧ G D = some (.lst ((plist i).map V.int))) ⟨same_upd nD, upd_same⟩ ?_ ?_
      · rintro i G hi ⟨sG, hG⟩
        refine ⟨rfl, ?_⟩
        have b2 : (2 : Int) ≤ 2 + (i : Int) := by omega
        have b97 : 2 + (i : Int) ≤ 97 := by omega
        refine ⟨_, rfl, 2, 2 + (i : Int), rfl, ⟨by decide, by decide, by omega, by omega⟩, fun E nE => ?_⟩
        refine lc_range (lo := 2) (n := (2 + (i : Int) - 2).toNat) (fun j F => Same G F ∧ F E = some (.lst ((divs (2 + (i : Int)) j).map V.int))) ⟨same_upd nE, upd_same⟩ ?_ ?_
        · rintro j F hj ⟨sF, hF⟩
          refine ⟨rfl, ?_⟩
          refine ⟨_, rfl, _, rfl, 2 + (i : Int), 2 + (j : Int), rfl, rfl, by omega, rfl, _, rfl, ?_⟩
          refine ite2 (fun c3 => ?_) (fun c3 => ?_)
          · have c3' : (2 + (i : Int)) % (2 + (j : Int)) = 0 := by
              have z := of_decide_eq_true c3
              injection z
            refine ⟨_, rfl, _, hF, lt10 (by rw [List.length_map]; have := divs_len (2 + (i : Int)) j; omega), acc_same nE sF (Same.refl F), ?_⟩
            rw [upd_same, divs_succ, if_pos (by rw [c3']; rfl), List.map_append]
            rfl
          · have c4 : ¬ ((2 + (i : Int)) % (2 + (j : Int)) == 0) = true := fun z => c3 (by
              have z' : (2 + (i : Int)) % (2 + (j : Int)) = 0 := by simpa using z
              exact decide_eq_true (by rw [z']))
            refine ⟨sF, ?_⟩
            rw [divs_succ, if_neg c4, List.append_nil]
            exact hF
        · rintro F ⟨sF, hF⟩
          refine ⟨Nat.zero_le _, fun q nq => ?_⟩
          have sq := same_upd (o := .lst []) nq
          refine ⟨.list ((divs (2 + (i : Int)) (2 + (i : Int) - 2).toNat).map PyData.int), .list [], .lst (.inl (.inl (sq _ _ hF))) (dpAll_ints _), .lst (.inl (.inl upd_same)) .nil, shaped_ints _, shaped_ints [], ?_⟩
          rw [eqv_nil, divs_prime b2 b97]
          have sA := sF.trans sq
          refine ⟨_, rfl, ?_⟩
          refine ite2 (fun c => ?_) (fun c => ?_)
          · refine ⟨_, rfl, _, sA _ _ hG, lt10 (by rw [List.length_map]; have := plist_len i; omega), acc_same nD sG sA, ?_⟩
            rw [upd_same, plist_succ, if_pos c, List.map_append]
            rfl
          · refine ⟨sG.trans sA, ?_⟩
            rw [plist_succ, if_neg c, List.append_nil]
            exact sA _ _ hG
      rintro G ⟨sG, hG⟩
      have PG := hp.same sG
      have lens : 0 < ((plist 96).map V.int).length ∧ ((plist 96).map V.int).length ≤ 1000000 := by
        rw [List.length_map]
        exact ⟨by decide +kernel, by have := plist_len 96; omega⟩
      refine ⟨_, rfl, _, rfl, _, rfl, pen, c, D, _, n, rfl, PG, by omega, eD.1, .inl (.inl hG), lens.1, lens.2, fun x1 hx1 G1 o1 P1 => ?_⟩
      refine ⟨_, rfl, _, rfl, pen, c, D, _, n + 1, rfl, P1, by omega, eD.1, .inl (.inl (o1 _ _ eD.1 hG)), lens.1, lens.2, fun x2 hx2 G2 o2 P2 => ?_⟩
      obtain ⟨p1, m1, rfl⟩ := List.mem_map.mp hx1
      obtain ⟨p2, m2, rfl⟩ := List.mem_map.mp hx2
      refine ⟨by show 7 ≤ sizeLine; decide, fun L nL => ?_⟩
      have eL := P2.new_ne nL
      have sL := same_upd (o := .lst [.int 2, .int 3, .int 2, .int 5, .int 3, .int p1, .int p2]) nL
      refine ⟨pen, c, L, _, n + 2, rfl, (P2.same sL).mono (by omega), by omega, eL.1, .inl (.inl upd_same), by show 0 < 7; decide, by show 7 ≤ 1000000; decide, fun x hx G3 o3 P3 => ?_⟩
      have o := (((Oth.of_same sG).trans o1).trans o2).trans ((Oth.of_same sL).trans o3)
      have fin : ∀ z, primeN z = true → x = .int z → Q x G3 := by
        rintro z hz rfl
        exact q z G3 hz o (P3.mono (by omega))
      simp only [List.mem_cons, List.not_mem_nil, or_false] at hx
      rcases hx with e | e | e | e | e | e | e
      · exact fin 2 (by decide +kernel) e
      · exact fin 3 (by decide +kernel) e
      · exact fin 2 (by decide +kernel) e
      · exact fin 5 (by decide +kernel) e
      · exact fin 3 (by decide +kernel) e
      · exact fin p1 (plist_in m1) e
      · exact fin p2 (plist_in m2) e
  exact has_of F G T.g__law_prime (fun _ _ _ _ _ _ us hl => match us, hl with | [_], _ => rfl)
theorem ok__law_matrix (T : Txt K mg) {fd : FuncData} (F : FnP K "_law_matrix" s__law_matrix fd)
    (H__law_take : Has P w K mg base CX0 2 "_law_take" P__law_take sp__law_take) :
    Has P w K mg base CX0 3 "_law_matrix" P__law_matrix (sp__law_matrix K) := by
  have G : FnOk P w K mg base CX0 3 (He.ga K "_law_matrix") fd P__law_matrix (sp__law_matrix K) := by
    refine F.ok (k := 2) sc__law_matrix (fun vs H Q E h => ?_) (fun cdv A outer s H vs Q E hr h => ?_)
    · obtain ⟨pen, c, h, w, p, n, rfl, hp, hn, hh, hw, hp2, hp97, q⟩ := h
      rfl
    · obtain ⟨pen, c, h, w, p, n, rfl, hp, hn, hh, hw, hp2, hp97, q⟩ := h
      refine ⟨_, (PSs.nox (pss_cons (ps_set (i := 4) sc__law_matrix.nd rfl (by first | exact Or.inl rfl | exact Or.inr rfl) (pe_lst pa_nil))
  (pss_cons (ps_set (i := 5) sc__law_matrix.nd rfl (by first | exact Or.inl rfl | exact Or.inr rfl) (pe_has H__law_take (hr.mono (by decide)) pass0 (pa_cons (pv 0) (pa_cons pe_int pa_nil))))
  (pss_cons (ps_for PassesOwn.never rfl (pi_range1 (by rfl) T.f_range (pa_cons (pv 1) pa_nil)) (pg_name (i := 6) sc__law_matrix.nd rfl (by first | exact Or.inl rfl | exact Or.inr rfl))
   (pss_cons (ps_setLc (i := 7) (own := [("k", 8)]) rfl sc__law_matrix.nd rfl rfl (sw_true rfl rfl rfl (by decide +kernel)) (pi_range1 (by rfl) T.f_range (pa_cons (pv 2) pa_nil)) (blkOk_by (N := N__law_matrix) (sc := defScope s__law_matrix) (by decide +kernel)) (fun _ _ _ _ _ => pg_name (i := 8) (sc__law_matrix.nd) rfl (by first | exact Or.inl rfl | exact Or.inr rfl)) (fun _ _ _ _ _ => pts_nil) (fun _ _ _ _ _ => (pe_op op_mul (pe_has H__law_take (hr.mono (by decide)) pass0 (pa_cons (pv 0) (pa_cons (pv 3) pa_nil))) (pe_callTy (T := "int") call_int1 (by rfl) T.f_int (by decide +kernel) (pa_cons (pe_or (pe_cmpR op_gt (pv 5) pe_int (nomark _)) (pe_one (pe_cmpR op_eq (pe_has H__law_take (hr.mono (by decide)) pass0 (pa_cons (pv 0) (pa_cons pe_int pa_nil))) pe_int (nomark _)))) pa_nil)))))
  (C8.pss_cut (ps_if (PW.pt (pw_and (pt_cmpR op_gt (pv 6) pe_int (nomark _)) (pw_and1 (pt_cmpR op_eq (pe_has H__law_take (hr.mono (by decide)) pass0 (pa_cons (pv 0) (pa_cons pe_int pa_nil))) pe_int (nomark _)))))
   (pss_one (ps_set (i := 7) sc__law_matrix.nd rfl (by first | exact Or.inl rfl | exact Or.inr rfl) (pe_ix ix_list (pv 4) (pe_un un_neg pe_int) (fun _ _ => rfl)))) pss_nil)
  (pss_one (ps_expr (pe_bm PySem.F.plainAttrs_list PySem.F.slot_list_append PySem.F.type_list_append mt_append (pv 4) (pa_cons (pe_callTy (T := "tuple") call_tuple_of (by rfl) T.f_tuple (by decide +kernel) (pa_cons (pv 7) pa_nil)) pa_nil)))))))
  (pss_one (ps_ret (pe_tup (pa_cons (pv 1) (pa_cons (pv 2) (pa_cons (pe_callTy (T := "tuple") call_tuple_of (by rfl) T.f_tuple (by decide +kernel) (pa_cons (pv 4) pa_nil)) pa_nil)))))))))), ?_⟩
      refine ⟨Nat.zero_le _, fun L nL => ?_⟩
      have eL := hp.new_ne nL
      have sL := same_upd (o := .lst []) nL
      refine ⟨_, rfl, pen, c, 3, n, rfl, hp.same sL, by omega, by decide, by decide, fun thin G0 t0 t1 o0 P0 => ?_⟩
      have oH0 : Oth H G0 pen := (Oth.of_same sL).trans o0
      have hL0 : G0 L = some (.lst []) := o0 _ _ eL.1 upd_same
      refine ⟨_, rfl, h, rfl, by omega, by omega, ?_⟩
      refine for_range (lo := 0) (n := ((h : Nat) : Int).toNat) (fun i σ F => ∃ atv lv, σ = [some (.ref pen), some (.int h), some (.int w), some (.int p), some (.ref L), some (.int thin), atv, lv, none] ∧
        Oth H F pen ∧ PenC F pen c (n + 1 + 17 * i) ∧ ∃ vs rows, F L = some (.lst vs) ∧ DaAll K F pen vs (rows.map rowD) ∧ rows.length = i ∧ Good rows w p)
        ⟨none, none, rfl, oH0, P0.mono (by omega), [], [], hL0, .nil, rfl, fun r hr => by cases hr⟩ ?_ ?_
      · rintro i σ F hi ⟨atv, lv, rfl, oF, PF, vs, rows, hL, hA, hlen, hgood⟩
        have hi' : i < h := by omega
        -- the line
        refine ⟨_, rfl, w, rfl, by omega, by omega, fun D nD => ?_⟩
        have eD := PF.new_ne nD
        have nDL : L ≠ D := ne_of_none hL nD
        refine lc_range (lo := 0) (n := ((w : Nat) : Int).toNat) (fun j G => Oth F G pen ∧ PenC G pen c (n + 1 + 17 * i + 2 * j) ∧ ∃ xs : List Int, G D = some (.lst (xs.map V.int)) ∧ xs.length = j ∧ ∀ x ∈ xs, 0 ≤ x ∧ x < p)
          ⟨Oth.of_same (same_upd nD), (PF.same (same_upd nD)).mono (by omega), [], upd_same, rfl, fun x hx => by cases hx⟩ ?_ ?_
        · rintro j G hj ⟨oG, PG, xs, hG, hxl, hxs⟩
          refine ⟨rfl, ?_⟩
          refine ⟨_, rfl, _, rfl, pen, c, p, _, rfl, PG, by omega, by omega, by omega, fun r G1 r0 r1 o1 P1 => ?_⟩
          have last : ∀ (z : Int) (G2 : Hp), 0 ≤ z → z < p → Oth G G2 pen → PenC G2 pen c (n + 1 + 17 * i + 2 * j + 2) → ∃ acc, G2 D = some (.lst acc) ∧ acc.length < sizeLine ∧
              (Oth F (upd G2 D (.lst (acc ++ [.int z]))) pen ∧ PenC (upd G2 D (.lst (acc ++ [.int z]))) pen c (n + 1 + 17 * i + 2 * ((j + 1 : Nat) : Int)) ∧
                ∃ xs : List Int, (upd G2 D (.lst (acc ++ [.int z]))) D = some (.lst (xs.map V.int)) ∧ xs.length = j + 1 ∧ ∀ x ∈ xs, 0 ≤ x ∧ x < p) := by
            intro z G2 z0 z1 o2 P2
            refine ⟨_, o2 _ _ eD.1 hG, lt10 (by rw [List.length_map]; omega), Oth.put nD (oG.trans o2), (P2.upd eD.1 eD.2).mono (by omega), xs ++ [z], ?_, ?_, ?_⟩
            · rw [upd_same, List.map_append]
              rfl
            · rw [List.length_append, hxl]
              rfl
            · intro x hx
              rcases List.mem_append.mp hx with hx | hx
              · exact hxs x hx
              · rw [List.mem_singleton] at hx
                rw [hx]
                exact ⟨z0, z1⟩
          refine ⟨_, rfl, thin, 0, rfl, rfl, _, rfl, ?_⟩
          refine ite2 (fun _ => ?_) (fun _ => ?_)
          · refine .inr ⟨true, rfl, r, 1, rfl, rfl, .inl ⟨by omega, by omega⟩, ?_⟩
            exact last (r * 1) G1 (by omega) (by omega) o1 (P1.mono (by omega))
          · refine ⟨_, rfl, pen, c, 2, _, rfl, P1, by omega, by decide, by decide, fun r2 G2 _ _ o2 P2 => ?_⟩
            refine ⟨rfl, .inr ⟨_, rfl, r, _, rfl, rfl, .inl ⟨by omega, by omega⟩, ?_⟩⟩
            cases decide (V.int r2 = V.int 0) with
            | true => exact last (r * 1) G2 (by omega) (by omega) (o1.trans o2) (P2.mono (by omega))
            | false => exact last (r * 0) G2 (by omega) (by omega) (o1.trans o2) (P2.mono (by omega))
        · rintro G ⟨oG, PG, xs, hG, hxl, hxs⟩
          rw [Int.toNat_natCast] at PG hxl
          have hLG := oG _ _ eL.1 hL
          have hAG := hA.othP PF oG
          -- a row now and then twice
          refine ⟨fun σ F2 => ∃ (lv2 : V) (row : List Int), σ = [some (.ref pen), some (.int h), some (.int w), some (.int p), some (.ref L), some (.int thin), some (.int (0 + (i : Int))), some lv2, none] ∧
            Oth G F2 pen ∧ PenC F2 pen c (n + 1 + 17 * i + 2 * w + 1) ∧ row.length = w ∧ (∀ x ∈ row, 0 ≤ x ∧ x < p) ∧
            ((∃ b, lv2 = .ref b ∧ b ≠ L ∧ SqL K F2 b (row.map V.int)) ∨ Da K F2 pen lv2 (rowD row)), ?_, ?_⟩
          · refine ⟨_, rfl, 0 + (i : Int), 0, rfl, rfl, _, rfl, ?_⟩
            refine ite2 (fun c1 => ?_) (fun c1 => ?_)
            · have c1' : 0 < 0 + (i : Int) := of_decide_eq_true c1
              refine ⟨_, rfl, pen, c, 4, _, rfl, PG, by omega, by decide, by decide, fun r G1 r0 r1 o1 P1 => ?_⟩
              refine ⟨rfl, _, rfl, ?_⟩
              refine ite2 (fun c2 => ?_) (fun c2 => ?_)
              · have hv := hAG.length
                rw [List.length_map] at hv
                obtain ⟨last, hlast⟩ : ∃ v, vs[vs.length - 1]? = some v := ⟨_, List.getElem?_eq_getElem (by omega)⟩
                obtain ⟨d, hd, hda⟩ := hAG.get hlast
                rw [List.getElem?_map] at hd
                cases e : rows[vs.length - 1]? with
                | none =>
                  rw [e] at hd
                  cases hd
                | some row =>
                  rw [e] at hd
                  obtain rfl : rowD row = d := Option.some.inj hd
                  obtain ⟨g1, g2⟩ := hgood row (List.mem_of_getElem? e)
                  have hat : atI vs (-1) = some last := by
                    have z := hlast
                    unfold atI ixN
                    rw [if_neg (by omega), if_pos (by omega)]
                    show vs[(-1 + (vs.length : Int)).toNat]? = some last
                    rw [show (-1 + (vs.length : Int)).toNat = vs.length - 1 by omega]
                    exact z
                  refine ⟨_, rfl, 1, rfl, L, vs, -1, last, rfl, rfl, .inl (.inl (o1 _ _ eL.1 hLG)), hat, ?_⟩
                  exact ⟨last, row, rfl, o1, P1.mono (by omega), g1, g2, .inr (hda.othP PG o1)⟩
              · exact ⟨.ref D, xs, rfl, o1, P1.mono (by omega), hxl, hxs, .inl ⟨D, rfl, nDL.symm, .inl (.inl (o1 _ _ eD.1 hG))⟩⟩
            · exact ⟨.ref D, xs, rfl, Oth.refl G pen, PG.mono (by omega), hxl, hxs, .inl ⟨D, rfl, nDL.symm, .inl (.inl hG)⟩⟩
          · rintro σ F2 ⟨lv2, row, rfl, o2, P2, hrl, hrx, hrow⟩
            have hL2 := o2 _ _ eL.1 hLG
            have hA2 := hAG.othP PG o2
            have hv := hA2.length
            rw [List.length_map] at hv
            have fin : ∀ (tv : V) (F3 : Hp), Same F2 F3 → Da K F3 pen tv (rowD row) → ∃ atv lv, ([some (.ref pen), some (.int h), some (.int w), some (.int p), some (.ref L), some (.int thin), some (.int (0 + (i : Int))), some lv2, none] : L2.St) =
                  [some (.ref pen), some (.int h), some (.int w), some (.int p), some (.ref L), some (.int thin), atv, lv, none] ∧
                Oth H (upd F3 L (.lst (vs ++ [tv]))) pen ∧ PenC (upd F3 L (.lst (vs ++ [tv]))) pen c (n + 1 + 17 * ((i + 1 : Nat) : Int)) ∧
                ∃ vs' rows', (upd F3 L (.lst (vs ++ [tv]))) L = some (.lst vs') ∧ DaAll K (upd F3 L (.lst (vs ++ [tv]))) pen vs' (rows'.map rowD) ∧ rows'.length = i + 1 ∧ Good rows' w p := by
              intro tv F3 s3 hd3
              have hL3 := s3 _ _ hL2
              refine ⟨_, _, rfl, ?_, ?_, vs ++ [tv], rows ++ [row], upd_same, ?_, ?_, ?_⟩
              · exact Oth.put nL (((oF.trans oG).trans o2).trans (Oth.of_same s3))
              · exact ((P2.same s3).upd eL.1 eL.2).mono (by omega)
              · rw [List.map_append]
                have a1 : DaAll K F3 L (vs ++ [tv]) (rows.map rowD ++ [row].map rowD) := by
                  refine DaAll.append (DaAll.any _ _ (noLs_rows _) (hA2.same s3)) (.cons (Da.any _ _ ?_ hd3) .nil)
                  exact (by simp only [rowD, noL, noLs_ints] : noL (rowD row) = true)
                refine DaAll.any (av := L) _ _ ?_ (a1.grow hL3)
                rw [← List.map_append]
                exact noLs_rows _
              · rw [List.length_append, hlen]
                rfl
              · intro r hr
                rcases List.mem_append.mp hr with hr | hr
                · exact hgood r hr
                · rw [List.mem_singleton] at hr
                  rw [hr]
                  exact ⟨hrl, hrx⟩
            rcases hrow with ⟨b, rfl, hb, hS⟩ | hd
            · refine ⟨_, rfl, .inl ⟨rfl, _, .inl (.inl hL2)⟩, _, rfl, b, _, rfl, .inl ⟨hS, fun t nt => ?_⟩⟩
              have st := same_upd (o := .tup (row.map V.int)) nt
              refine ⟨L, vs, .ref t, rfl, rfl, st _ _ hL2, lt10 (by omega), ?_⟩
              exact fin (.ref t) _ st (Da.newT (DaAll.ints row) nt)
            · obtain ⟨b, ys, rfl, hS, hAl⟩ := (show Da K F2 pen lv2 (.tuple (row.map .int)) from hd).isTup
              refine ⟨_, rfl, .inl ⟨rfl, _, .inl (.inl hL2)⟩, _, rfl, b, _, rfl, .inr ⟨hS, ?_⟩⟩
              refine ⟨L, vs, .ref b, rfl, rfl, hL2, lt10 (by omega), ?_⟩
              exact fin (.ref b) _ (Same.refl F2) hd
      · rintro σ F ⟨atv, lv, rfl, oF, PF, vs, rows, hL, hA, hlen, hgood⟩
        rw [Int.toNat_natCast] at PF hlen
        refine ⟨_, rfl, _, rfl, _, rfl, L, vs, rfl, .inl ⟨.inl (.inl hL), fun t nt => ?_⟩⟩
        refine ⟨by show 3 ≤ sizeLine; decide, fun t2 nt2 => ?_⟩
        have s1 := same_upd (o := .tup vs) nt
        have s2 := same_upd (o := .tup [.int h, .int w, .ref t]) nt2
        refine q _ rows _ hlen hgood ?_ ((oF.trans (Oth.of_same s1)).trans (Oth.of_same s2)) (((PF.same s1).same s2).mono (by omega))
        exact Da.newT (.cons (.int _) (.cons (.int _) (.cons (Da.newT hA nt) .nil))) nt2
  exact has_of F G T.g__law_matrix (fun _ _ _ _ _ _ us hl => match us, hl with | [_, _, _, _], _ => rfl)
theorem ok_need_matrix (T : Txt K mg) {fd : FuncData} (F : FnP K "need_matrix" s_need_matrix fd)
    (H__is_made : Has P w K mg base CX0 4 "_is_made" P__is_made (sp__is_made K)) :
    Has P w K mg base (L2.CX P w) 5 "need_matrix" P_need_matrix (sp_need_matrix K) := by
  have G : FnOk P w K mg base (L2.CX P w) 5 (He.ga K "need_matrix") fd P_need_matrix (sp_need_matrix K) := by
    refine F.ok (k := 4) sc_need_matrix (fun vs H Q E h => ?_) (fun cdv A outer s H vs Q E hr h => ?_)
    · obtain ⟨x, d, av, p, rfl, hx, q⟩ := h
      rfl
    · obtain ⟨x, d, av, p, rfl, hx, q⟩ := h
      refine ⟨_, (pss_one (ps_if (pt_not (pt_val (pe_has H__is_made (hr.mono (by decide)) pass0 (pa_cons (pv 0) (pa_cons (pv 1) pa_nil)))))
   (pss_one (ps_raise rfl (takes_of rfl rfl rfl rfl) (pmk_own PySem.F.excBase_ValueError T.x_NoMatrix T.g_NoMatrix T.k_NoMatrix (raises_own T.b_NoMatrix T.t_NoMatrix) rfl))) pss_nil)), ?_⟩
      refine ⟨_, rfl, _, rfl, x, d, av, p, rfl, hx, fun H1 s1 => ?_⟩
      cases e : isMatD d p with
      | true =>
        refine ⟨_, rfl, ?_⟩
        refine iteF ?_
        exact (q H1 s1).1 e
      | false =>
        refine ⟨_, rfl, ?_⟩
        refine iteT ?_
        exact (q H1 s1).2 e
  exact has_of F G T.g_need_matrix (fun _ _ _ _ _ _ us hl => match us, hl with | [_, _], _ => rfl)
theorem ok_flipped (T : Txt K mg) {fd : FuncData} (F : FnP K "flipped" s_flipped fd)
    (H_need_prime : Has P w K mg base (L2.CX P w) 3 "need_prime" P_need_prime (sp_need_prime K))
    (H_need_matrix : Has P w K mg base (L2.CX P w) 5 "need_matrix" P_need_matrix (sp_need_matrix K)) :
    HasK P w K mg base (L2.CX P w) 6 "flipped" P_flipped 1 ["prime"] (sp_flipped K) := by
  have G : FnOk P w K mg base (L2.CX P w) 6 (He.ga K "flipped") fd P_flipped (sp_flipped K) := by
    refine F.ok (k := 5) sc_flipped (fun vs H Q E h => ?_) (fun cdv A outer s H vs Q E hr h => ?_)
    · obtain ⟨x, d, y, e, av, rfl, hx, hy, q⟩ := h
      rfl
    · obtain ⟨x, d, y, e, av, rfl, hx, hy, q⟩ := h
      refine ⟨_, (pss_cons (ps_expr (pe_has H_need_prime (hr.mono (by decide)) (passes_call (takes_of rfl rfl rfl rfl) (fun _ _ _ _ h => h)) (pa_cons (pv 1) pa_nil)))
  (pss_cons (ps_expr (pe_has H_need_matrix (hr.mono (by decide)) (passes_call (takes_of rfl rfl rfl rfl) (fun _ _ _ _ h => h)) (pa_cons (pv 0) (pa_cons (pv 1) pa_nil))))
  (pss_cons (ps_asg (pv 0) (pg_tup rfl (pgs_cons (pg_name (i := 2) sc_flipped.nd rfl (by first | exact Or.inl rfl | exact Or.inr rfl)) (pgs_cons (pg_name (i := 3) sc_flipped.nd rfl (by first | exact Or.inl rfl | exact Or.inr rfl)) (pgs_cons (pg_name (i := 4) sc_flipped.nd rfl (by first | exact Or.inl rfl | exact Or.inr rfl)) pgs_nil)))))
  (pss_one (ps_ret (pe_tup (pa_cons (pv 3) (pa_cons (pv 2) (pa_cons (pe_callTy (T := "tuple") call_tuple_of (by rfl) T.f_tuple (by decide +kernel) (pa_cons (pe_lc (own := [("k", 5)]) rfl sc_flipped.nd (pi_range1 (by rfl) T.f_range (pa_cons (pv 3) pa_nil)) (blkOk_by (N := N_flipped) (sc := defScope s_flipped) (by decide +kernel)) (fun _ _ _ _ _ => pg_name (i := 5) (sc_flipped.nd) rfl (by first | exact Or.inl rfl | exact Or.inr rfl)) (fun _ _ _ _ _ => pts_nil) (fun _ _ _ _ _ => (pe_callTy (T := "tuple") (call_tupOfK K) (by rfl) T.f_tuple (by decide +kernel) (pa_cons (pe_lc (own := [("row", 6)]) rfl sc_flipped.nd (pi_tupK K (hl := (pv 4))) (blkOk_by (by show blkC N_flipped (relS _ (defScope s_flipped)) _ _ = true; decide +kernel)) (fun _ _ _ _ _ => pg_name (i := 6) (sc_flipped.nd) rfl (by first | exact Or.inl rfl | exact Or.inr rfl)) (fun _ _ _ _ _ => pts_nil) (fun _ _ _ _ _ => (pe_ix (ix_tupK K) (pv 6) (pv 5) (fun _ _ => rfl)))) pa_nil)))) pa_nil)) pa_nil))))))))), ?_⟩
      refine ⟨_, rfl, y, e, av, rfl, hy, fun H1 s1 => ?_⟩
      refine ite2 (fun c => ?_) (fun c => ?_)
      · obtain ⟨p, rfl⟩ : ∃ p, e = .int p := by
          cases e <;> first | exact ⟨_, rfl⟩ | (simp [isD, tyD, whole, primeD, wholeTo] at c)
        cases hy
        refine ⟨_, rfl, _, rfl, x, d, av, p, rfl, hx.same s1, fun H2 s2 => ⟨fun c2 => ?_, fun c2 => ?_⟩⟩
        · obtain ⟨r, k, rows, rfl, hl, hr, hk, hg⟩ := matD_of c2
          obtain ⟨a, xs, rfl, hS, hA⟩ := (show Da K H2 av x (.tuple [.int r, .int k, .tuple (rows.map rowD)]) from hx.same (s1.trans s2)).isTup
          cases hA with
          | cons h1 hA =>
          cases hA with
          | cons h2 hA =>
          cases hA with
          | cons hN hA =>
          cases hA
          cases h1
          cases h2
          obtain ⟨an, ys, rfl, hSn, hAn⟩ := hN.isTup
          have hly := hAn.length
          rw [List.length_map] at hly
          refine ⟨_, rfl, a, _, rfl, hS, rfl, _, _, rfl, _, _, rfl, _, _, rfl, rfl, ?_⟩
          refine ⟨_, rfl, _, rfl, _, rfl, k, rfl, by omega, by omega, fun D nD => ?_⟩
          refine lc_range (lo := 0) (n := ((k : Nat) : Int).toNat) (fun i G => Same H2 G ∧ ∃ vs, G D = some (.lst vs) ∧ DaAll K G D vs (((flipR k rows).take i).map rowD)) ⟨same_upd nD, [], upd_same, .nil⟩ ?_ ?_
          · rintro i G hi ⟨sG, vs, hG, hA⟩
            have hi' : i < k := by omega
            refine ⟨rfl, ?_⟩
            have hSnG := Same.seqT sG hSn
            refine ⟨_, rfl, an, rfl, ⟨_, hSnG⟩, fun E nE => ?_⟩
            refine lc_tup (K := K) (a := an) (xs := ys) (fun n F => Same G F ∧ F E = some (.lst (((rows.take n).map fun row => row.getD i 0).map V.int))) ⟨same_upd nE, upd_same⟩ (fun n F _ w => Same.seqT w.1 hSnG) ?_ ?_
            · rintro n u F hu ⟨sF, hF⟩
              obtain ⟨du, hdu, hvu⟩ := hAn.get hu
              rw [List.getElem?_map] at hdu
              cases er : rows[n]? with
              | none =>
                rw [er] at hdu
                cases hdu
              | some row =>
                rw [er] at hdu
                obtain rfl : rowD row = du := Option.some.inj hdu
                obtain ⟨g0, g1⟩ := hg row (List.mem_of_getElem? er)
                obtain ⟨b, us, rfl, hSb, hAb⟩ := (show Da K F av u (.tuple (row.map .int)) from (hvu.same sG).same sF).isTup
                have hus := hAb.isInts
                subst hus
                have hat : atI (row.map V.int) (0 + (i : Int)) = some (.int (row.getD i 0)) := by
                  rw [Int.zero_add]
                  refine atI_nat ?_
                  rw [List.getElem?_map, List.getElem?_eq_getElem (by omega), List.getD_eq_getElem?_getD, List.getElem?_eq_getElem (by omega)]
                  rfl
                refine ⟨rfl, ?_⟩
                refine ⟨_, rfl, _, rfl, b, _, 0 + (i : Int), _, rfl, rfl, hSb, hat, ?_⟩
                have hlt := (List.getElem?_eq_some_iff.mp er).1
                refine ⟨_, hF, lt10 (by rw [List.length_map, List.length_map, List.length_take]; omega), acc_same nE sF (Same.refl F), ?_⟩
                rw [upd_same, List.take_add_one, er, List.map_append, List.map_append]
                rfl
            · rintro F ⟨sF, hF⟩
              rw [hly, List.take_length] at hF
              have hrow : (flipR k rows)[i]? = some (rows.map fun row => row.getD i 0) := by
                unfold flipR
                rw [List.getElem?_map, List.getElem?_range hi']
                rfl
              refine ⟨E, _, rfl, .inl ⟨.inl (.inl hF), fun t nt => ?_⟩⟩
              have st := same_upd (o := .tup ((rows.map fun row => row.getD i 0).map V.int)) nt
              have sGt := sF.trans st
              have lenV := hA.length
              rw [List.length_map, List.length_take] at lenV
              have gD := sGt _ _ hG
              refine ⟨vs, gD, lt10 (by omega), acc_same nD (sG.trans sF) st, vs ++ [.ref t], upd_same, ?_⟩
              rw [List.take_add_one, hrow, List.map_append]
              refine DaAll.append ((hA.same sGt).grow gD) (.cons (Da.grow (ps := vs) ?_ gD) .nil)
              exact Da.newT (DaAll.ints _) nt
          · rintro G ⟨sG, vs, hG, hA⟩
            rw [Int.toNat_natCast] at hA
            rw [List.take_of_length_le (by unfold flipR; rw [List.length_map, List.length_range]; exact Nat.le_refl _)] at hA
            refine ⟨D, vs, rfl, .inl ⟨.inl (.inl hG), fun t nt => ?_⟩⟩
            refine ⟨sz_le (by simp), fun t2 nt2 => ?_⟩
            refine ((q _ ((((s1.trans s2).trans sG).trans (same_upd nt)).trans (same_upd nt2))).2 p rfl c).2 r k rows rfl hl hr hk hg _ fun av => ?_
            refine Da.any (av := D) _ _ (noL_mat _ _ _) ?_
            exact Da.newT (.cons (.int _) (.cons (.int _) (.cons (Da.newT hA nt) .nil))) nt2
        · exact ((q H2 (s1.trans s2)).2 p rfl c).1 c2
      · exact (q H1 s1).1 (Bool.not_eq_true _ |>.mp c)
  exact hasK_of (n := 1) F G T.g_flipped (fun _ _ _ _ _ _ us ws hl hm => match us, ws, hl, hm with | [_], [_], _, _ => rfl)
end
end K03

set_option Elab.async false
set_option linter.all false
set_option maxRecDepth 100000
set_option maxHeartbeats 8000000
namespace K03
open PySem PySem.Spec PyProof.Rows L2 XA

def sumR (p : Int) (xs ys : List Int) : List Int := List.zipWith (fun x y => (x + y) % p) xs ys
def plusR (p : Int) (rows lines : List (List Int)) : List (List Int) := List.zipWith (sumR p) rows lines
def timesR (p n : Int) (rows : List (List Int)) : List (List Int) := rows.map fun row => row.map fun x => n * x % p
def dotR (k : Nat) (row : List Int) (lines : List (List Int)) (i : Nat) : List Int := (List.range k).map fun j => ((List.range i).map fun t => row.getD t 0 * (lines.getD t []).getD j 0).sum
def prodR (p : Int) (k : Nat) (rows lines : List (List Int)) : List (List Int) := rows.map fun row => (dotR k row lines lines.length).map (· % p)
theorem dot_len (k : Nat) (row : List Int) (lines : List (List Int)) (i : Nat) : (dotR k row lines i).length = k := by
  unfold dotR
  rw [List.length_map, List.length_range]
theorem dot_succ {k i : Nat} {row line : List Int} {lines : List (List Int)} {x : Int} (hx : row[i]? = some x) (hl : lines[i]? = some line) (hk : line.length = k) :
    dotR k row lines (i + 1) = List.zipWith (fun t y => t + x * y) (dotR k row lines i) line := by
  apply List.ext_getElem?
  intro j
  unfold dotR
  rw [List.getElem?_map, List.getElem?_zipWith, List.getElem?_map]
  by_cases hj : j < k
  · rw [List.getElem?_range hj, List.getElem?_eq_getElem (show j < line.length by omega)]
    show some _ = some _
    congr 1
    show ((List.range (i + 1)).map fun t => row.getD t 0 * (lines.getD t []).getD j 0).sum = ((List.range i).map fun t => row.getD t 0 * (lines.getD t []).getD j 0).sum + x * line[j]
    rw [List.range_succ, List.map_append, List.sum_append]
    show _ + ([row.getD i 0 * (lines.getD i []).getD j 0]).sum = _
    have e1 : row.getD i 0 = x := by rw [List.getD_eq_getElem?_getD, hx]; rfl
    have e2 : (lines.getD i []).getD j 0 = line[j] := by
      rw [List.getD_eq_getElem?_getD, List.getD_eq_getElem?_getD, hl]
      show (line[j]?).getD 0 = _
      rw [List.getElem?_eq_getElem (show j < line.length by omega)]
      rfl
    rw [e1, e2]
    simp
  · rw [List.getElem?_eq_none (by rw [List.length_range]; omega)]
    rfl
theorem dot_zero {k i : Nat} {row line : List Int} {lines : List (List Int)} (hx : row[i]? = some 0) (hl : lines[i]? = some line) (hk : line.length = k) : dotR k row lines (i + 1) = dotR k row lines i := by
  rw [dot_succ hx hl hk]
  apply List.ext_getElem?
  intro j
  rw [List.getElem?_zipWith]
  have h := dot_len k row lines i
  by_cases hj : j < k
  · rw [List.getElem?_eq_getElem (show j < (dotR k row lines i).length by omega), List.getElem?_eq_getElem (show j < line.length by omega)]
    show some ((dotR k row lines i)[j] + 0 * line[j]) = _
    rw [Int.zero_mul, Int.add_zero]
  · rw [List.getElem?_eq_none (show (dotR k row lines i).length ≤ j by omega)]
def MOk (r k : Nat) (rows : List (List Int)) (p : Int) : Prop := rows.length = r ∧ r ≤ 2000 ∧ k ≤ 2000 ∧ Good rows k p
theorem MOk.is {r k : Nat} {rows : List (List Int)} {p : Int} (h : MOk r k rows p) : isMatD (matD r k rows) p = true := matOk h.1 h.2.2.2 h.2.1 h.2.2.1
theorem matParts {K : PySem.W.Frag} {F : Hp} {av : Addr} {x : V} {r k : Int} {rows : List (List Int)} (h : Da K F av x (matD r k rows)) :
    ∃ (b an : Addr) (ys : List V), x = .ref b ∧ SqT K F b [.int r, .int k, .ref an] ∧ SqT K F an ys ∧ DaAll K F av ys (rows.map rowD) := by
  obtain ⟨b, zs, rfl, hS, hA⟩ := (show Da K F av x (.tuple [.int r, .int k, .tuple (rows.map rowD)]) from h).isTup
  cases hA with
  | cons h1 hA =>
  cases hA with
  | cons h2 hA =>
  cases hA with
  | cons hN hA =>
  cases hA
  cases h1
  cases h2
  obtain ⟨an, ys, rfl, hSn, hAn⟩ := hN.isTup
  exact ⟨b, an, ys, rfl, hS, hSn, hAn⟩
theorem rowOf {K : PySem.W.Frag} {F : Hp} {av : Addr} {ys : List V} {rows : List (List Int)} {i : Nat} {v : V} (h : DaAll K F av ys (rows.map rowD)) (hv : ys[i]? = some v) :
    ∃ (row : List Int) (b : Addr), rows[i]? = some row ∧ v = .ref b ∧ SqT K F b (row.map V.int) := by
  obtain ⟨d, hd, hda⟩ := h.get hv
  rw [List.getElem?_map] at hd
  cases e : rows[i]? with
  | none =>
    rw [e] at hd
    cases hd
  | some row =>
    rw [e] at hd
    obtain rfl : rowD row = d := Option.some.inj hd
    obtain ⟨b, us, rfl, hS, hA⟩ := (show Da K F av v (.tuple (row.map .int)) from hda).isTup
    rw [hA.isInts] at hS
    exact ⟨row, b, rfl, rfl, hS⟩
theorem mapInt {ns : List Int} {i : Nat} {u : V} (h : (ns.map V.int)[i]? = some u) : ∃ m, ns[i]? = some m ∧ u = .int m := by
  rw [List.getElem?_map] at h
  cases e : ns[i]? with
  | none =>
    rw [e] at h
    cases h
  | some m =>
    rw [e] at h
    exact ⟨m, rfl, (Option.some.inj h).symm⟩
def sp__sum (K : PySem.W.Frag) : Sp := fun vs H Q _ => ∃ (a b : Addr) (xs ys : List Int) (p : Int), vs = [.ref a, .ref b, .int p] ∧ SqT K H a (xs.map V.int) ∧ SqT K H b (ys.map V.int) ∧ xs.length = ys.length ∧ xs.length ≤ 2000 ∧ 0 < p ∧
  ∀ H' t, Same H H' → SqT K H' t ((sumR p xs ys).map V.int) → Q (.ref t) H'
def sp__combined (K : PySem.W.Frag) : Sp := fun vs H Q _ => ∃ (a b av : Addr) (row : List Int) (ys : List V) (lines : List (List Int)) (k : Nat) (p : Int), vs = [.ref a, .ref b, .int k, .int p] ∧ SqT K H a (row.map V.int) ∧ SqT K H b ys ∧
  DaAll K H av ys (lines.map rowD) ∧ row.length = lines.length ∧ k ≤ 2000 ∧ Good lines k p ∧ (∀ x ∈ row, 0 ≤ x ∧ x < p) ∧ 2 ≤ p ∧ p ≤ 97 ∧
  ∀ H' t, Same H H' → SqT K H' t (((dotR k row lines lines.length).map (· % p)).map V.int) → Q (.ref t) H'
def sp_product (K : PySem.W.Frag) : Sp := fun vs H Q E => ∃ x d y e z f av, vs = [x, y, z] ∧ Da K H av x d ∧ Da K H av y e ∧ Da K H av z f ∧ ∀ H', Same H H' →
  (primeD f = false → E (.ref (He.ga K "NoPrime")) none H') ∧ ∀ p, f = .int p → primeN p = true → ((isMatD d p && isMatD e p) = false → E (.ref (He.ga K "NoMatrix")) none H') ∧
    ∀ (r m m' k : Nat) (rows lines : List (List Int)), d = matD r m rows → MOk r m rows p → e = matD m' k lines → MOk m' k lines p → (m ≠ m' → E (.ref (He.ga K "NoFit")) none H') ∧
      (m = m' → ∀ v, (∀ av, Da K H' av v (matD r k (prodR p k rows lines))) → Q v H')
def sp_plus (K : PySem.W.Frag) : Sp := fun vs H Q E => ∃ x d y e z f av, vs = [x, y, z] ∧ Da K H av x d ∧ Da K H av y e ∧ Da K H av z f ∧ ∀ H', Same H H' →
  (primeD f = false → E (.ref (He.ga K "NoPrime")) none H') ∧ ∀ p, f = .int p → primeN p = true → ((isMatD d p && isMatD e p) = false → E (.ref (He.ga K "NoMatrix")) none H') ∧
    ∀ (r m m' k : Nat) (rows lines : List (List Int)), d = matD r m rows → MOk r m rows p → e = matD m' k lines → MOk m' k lines p → (¬ (r = m' ∧ m = k) → E (.ref (He.ga K "NoFit")) none H') ∧
      ((r = m' ∧ m = k) → ∀ v, (∀ av, Da K H' av v (matD r m (plusR p rows lines))) → Q v H')
def sp_times (K : PySem.W.Frag) : Sp := fun vs H Q E => ∃ w c x d z f av, vs = [w, x, z] ∧ Da K H av w c ∧ Da K H av x d ∧ Da K H av z f ∧ ∀ H', Same H H' →
  (primeD f = false → E (.ref (He.ga K "NoPrime")) none H') ∧ ∀ p, f = .int p → primeN p = true → (whole c = false → E (.ref (He.ga K "NoNumber")) none H') ∧ ∀ n, c = .int n → (isMatD d p = false → E (.ref (He.ga K "NoMatrix")) none H') ∧
    ∀ (r m : Nat) (rows : List (List Int)), d = matD r m rows → MOk r m rows p → ∀ v, (∀ av, Da K H' av v (matD r m (timesR p n rows))) → Q v H'
theorem matD_MOk {d : PyData} {p : Int} (h : isMatD d p = true) : ∃ (r k : Nat) (rows : List (List Int)), d = matD r k rows ∧ MOk r k rows p := by
  obtain ⟨r, k, rows, e, h1, h2, h3, h4⟩ := matD_of h
  exact ⟨r, k, rows, e, h1, h2, h3, h4⟩
section
variable {P : Program} {w : World} {K : PySem.W.Frag} {mg : Str → Option Value} {base : Heap}
theorem ok__sum (T : Txt K mg) {fd : FuncData} (F : FnP K "_sum" s__sum fd) :
    Has P w K mg base CX0 1 "_sum" P__sum (sp__sum K) := by
  have G : FnOk P w K mg base CX0 1 (He.ga K "_sum") fd P__sum (sp__sum K) := by
    refine F.ok (k := 0) sc__sum (fun vs H Q E h => ?_) (fun cdv A outer s H vs Q E hr h => ?_)
    · obtain ⟨a, b, xs, ys, p, rfl, hS1, hS2, hl, hl2, hp0, q⟩ := h
      rfl
    · obtain ⟨a, b, xs, ys, p, rfl, hS1, hS2, hl, hl2, hp0, q⟩ := h
      refine ⟨_, (PSs.nox (pss_one (ps_ret (pe_callTy (T := "tuple") call_tuple_of (by rfl) T.f_tuple (by decide +kernel) (pa_cons (pe_lc (own := [("x", 3), ("y", 4)]) rfl sc__sum.nd (pi_zipQ false false (by rfl) T.f_zip (pa_cons (pv 0) (pa_cons (pv 1) pa_nil))) (blkOk_by (N := N__sum) (sc := defScope s__sum) (by decide +kernel)) (fun _ _ _ _ _ => (pg_tupK K (n := 2) (hc := rfl) (hp := (pgs_cons (pg_name (i := 3) sc__sum.nd rfl (by first | exact Or.inl rfl | exact Or.inr rfl)) (pgs_cons (pg_name (i := 4) sc__sum.nd rfl (by first | exact Or.inl rfl | exact Or.inr rfl)) pgs_nil))))) (fun _ _ _ _ _ => pts_nil) (fun _ _ _ _ _ => (pe_op op_modP (pe_op op_add (pv 3) (pv 4)) (pv 2)))) pa_nil))))), ?_⟩
      generalize hz : sumR p xs ys = zs at q
      have hzl : zs.length = xs.length := by rw [← hz]; unfold sumR; rw [List.length_zipWith, hl, Nat.min_self]
      refine ⟨_, rfl, _, rfl, a, b, _, _, rfl, hS1, hS2, fun D nD => ?_⟩
      refine lc_zipQ (b := false) (c := false) (K := K) (l := a) (m := b) (xs := xs.map V.int) (ys := ys.map V.int) (by rw [List.length_map, List.length_map, hl]) (fun i G => Same H G ∧ G D = some (.lst ((zs.take i).map V.int))) ⟨same_upd nD, upd_same⟩
        (fun i G _ z => ⟨Same.seqT z.1 hS1, Same.seqT z.1 hS2⟩) ?_ ?_
      · rintro i u v t G hu hv ⟨sG, hG⟩ nt
        obtain ⟨m, hm, rfl⟩ := mapInt hu
        obtain ⟨n, hn, rfl⟩ := mapInt hv
        have st := same_upd (o := .tup [V.int m, V.int n]) nt
        refine ⟨t, _, rfl, .inl (.inl upd_same), rfl, _, _, rfl, _, _, rfl, rfl, rfl, ?_⟩
        have hzi : zs[i]? = some ((m + n) % p) := by
          rw [← hz]
          unfold sumR
          rw [List.getElem?_zipWith, hm, hn]
        have hlt := (List.getElem?_eq_some_iff.mp hm).1
        refine ⟨_, rfl, _, rfl, m, n, rfl, rfl, _, rfl, m + n, p, rfl, rfl, hp0, ?_⟩
        refine ⟨_, st _ _ hG, lt10 (by rw [List.length_map, List.length_take]; omega), acc_same nD sG st, ?_⟩
        rw [upd_same, List.take_add_one, hzi, List.map_append]
        rfl
      rintro G ⟨sG, hG⟩
      rw [List.length_map, ← hzl, List.take_length] at hG
      refine ⟨D, _, rfl, .inl ⟨.inl (.inl hG), fun t nt => ?_⟩⟩
      exact q _ t (sG.trans (same_upd nt)) (.inl (.inl upd_same))
  exact has_of F G T.g__sum (fun _ _ _ _ _ _ us hl => match us, hl with | [_, _, _], _ => rfl)
theorem ok__combined (T : Txt K mg) {fd : FuncData} (F : FnP K "_combined" s__combined fd) :
    Has P w K mg base CX0 1 "_combined" P__combined (sp__combined K) := by
  have G : FnOk P w K mg base CX0 1 (He.ga K "_combined") fd P__combined (sp__combined K) := by
    refine F.ok (k := 0) sc__combined (fun vs H Q E h => ?_) (fun cdv A outer s H vs Q E hr h => ?_)
    · obtain ⟨a, b, av, row, ys, lines, k, p, rfl, hR, hY, hA, hlen, hk, hgood, hrow, hp2, hp97, q⟩ := h
      rfl
    · obtain ⟨a, b, av, row, ys, lines, k, p, rfl, hR, hY, hA, hlen, hk, hgood, hrow, hp2, hp97, q⟩ := h
      refine ⟨_, (PSs.nox (pss_cons (ps_set (i := 4) sc__combined.nd rfl (by first | exact Or.inl rfl | exact Or.inr rfl) (pe_op op_rep (pe_lst (pa_cons pe_int pa_nil)) (pv 2)))
  (pss_cons (ps_for PassesOwn.never rfl (pi_zipQ false false (by rfl) T.f_zip (pa_cons (pv 0) (pa_cons (pv 1) pa_nil))) (pg_tup rfl (pgs_cons (pg_name (i := 5) sc__combined.nd rfl (by first | exact Or.inl rfl | exact Or.inr rfl)) (pgs_cons (pg_name (i := 6) sc__combined.nd rfl (by first | exact Or.inl rfl | exact Or.inr rfl)) pgs_nil)))
   (pss_one (ps_if (pt_truth (pv 5) (fun _ => rfl))
   (pss_one (ps_setLc (i := 4) (own := [("total", 7), ("y", 8)]) rfl sc__combined.nd rfl rfl (sw_true rfl rfl rfl (by decide +kernel)) (pi_zipQ true false (by rfl) T.f_zip (pa_cons (pv 4) (pa_cons (pv 6) pa_nil))) (blkOk_by (N := N__combined) (sc := defScope s__combined) (by decide +kernel)) (fun _ _ _ _ _ => (pg_tupK K (n := 2) (hc := rfl) (hp := (pgs_cons (pg_name (i := 7) sc__combined.nd rfl (by first | exact Or.inl rfl | exact Or.inr rfl)) (pgs_cons (pg_name (i := 8) sc__combined.nd rfl (by first | exact Or.inl rfl | exact Or.inr rfl)) pgs_nil))))) (fun _ _ _ _ _ => pts_nil) (fun _ _ _ _ _ => (pe_op op_add (pv 7) (pe_op op_mul (pv 5) (pv 8)))))) pss_nil)))
  (pss_one (ps_ret (pe_callTy (T := "tuple") call_tuple_of (by rfl) T.f_tuple (by decide +kernel) (pa_cons (pe_lc (own := [("total", 7)]) rfl sc__combined.nd (pi_list (pv 4)) (blkOk_by (N := N__combined) (sc := defScope s__combined) (by decide +kernel)) (fun _ _ _ _ _ => pg_name (i := 7) (sc__combined.nd) rfl (by first | exact Or.inl rfl | exact Or.inr rfl)) (fun _ _ _ _ _ => pts_nil) (fun _ _ _ _ _ => (pe_op op_modP (pv 7) (pv 3)))) pa_nil))))))), ?_⟩
      refine ⟨sz_le (by simp), fun L0 nL0 => ?_⟩
      refine ⟨_, rfl, L0, k, [.int 0], rfl, rfl, upd_same, by omega, by omega, Nat.le_trans (show 1 * ((k : Nat) : Int).toNat ≤ 2000 by omega) (by decide), fun S nS => ?_⟩
      have s0 := (same_upd (o := .lst [V.int 0]) nL0).trans (same_upd (o := .lst (List.replicate ((k : Nat) : Int).toNat [V.int 0]).flatten) nS)
      have eRep : (List.replicate ((k : Nat) : Int).toNat [V.int 0]).flatten = (dotR k row lines 0).map V.int := by
        rw [Int.toNat_natCast, List.flatten_replicate_singleton]
        unfold dotR
        apply List.ext_getElem?
        intro j
        rw [List.map_map, List.getElem?_map]
        by_cases hj : j < k
        · rw [List.getElem?_range hj, List.getElem?_replicate_of_lt hj]
          rfl
        · rw [List.getElem?_eq_none (show (List.replicate k (V.int 0)).length ≤ j by rw [List.length_replicate]; omega), List.getElem?_eq_none (show (List.range k).length ≤ j by rw [List.length_range]; omega)]
          rfl
      have hS0 : (upd (upd H L0 (.lst [.int 0])) S (.lst (List.replicate ((k : Nat) : Int).toNat [V.int 0]).flatten)) S = some (.lst ((dotR k row lines 0).map V.int)) := by rw [upd_same, eRep]
      generalize upd (upd H L0 (.lst [V.int 0])) S (.lst (List.replicate ((k : Nat) : Int).toNat [V.int 0]).flatten) = H0 at s0 hS0 ⊢
      have hR := Same.seqT s0 hR
      have hY := Same.seqT s0 hY
      have hA := hA.same s0
      have hyl := hA.length
      rw [List.length_map] at hyl
      refine ⟨_, rfl, _, rfl, a, b, _, _, rfl, hR, hY, ?_⟩
      refine for_zipQ (b := false) (c := false) (K := K) (l := a) (m := b) (xs := row.map V.int) (ys := ys) (by rw [List.length_map]; omega)
        (fun i σ G => ∃ (T : Addr) (xv lv : Option V), σ = [some (.ref a), some (.ref b), some (.int k), some (.int p), some (.ref T), xv, lv, none, none] ∧ Same H0 G ∧ G T = some (.lst ((dotR k row lines i).map V.int)))
        ⟨S, none, none, rfl, Same.refl H0, hS0⟩ (fun i σ G ⟨_, _, _, _, s, _⟩ => ⟨Same.seqT s hR, Same.seqT s hY⟩) ?_ ?_
      · rintro i u v t σ G hu hv ⟨T, xv, lv, rfl, sG, hT⟩ nt
        obtain ⟨x, hx, rfl⟩ := mapInt hu
        obtain ⟨line, bl, hline, rfl, hSl⟩ := rowOf (hA.same sG) hv
        obtain ⟨w1, w2⟩ := hgood line (List.mem_of_getElem? hline)
        obtain ⟨x0, x1⟩ := hrow x (List.mem_of_getElem? hx)
        have st := same_upd (o := .tup [V.int x, .ref bl]) nt
        refine ⟨t, _, rfl, .inl (.inl upd_same), rfl, _, _, rfl, _, _, rfl, rfl, ?_⟩
        have hT := st _ _ hT
        have sG := sG.trans st
        have hSl := Same.seqT st hSl
        generalize upd G t (.tup [V.int x, .ref bl]) = G1 at hT sG hSl ⊢
        refine ⟨_, rfl, _, rfl, ?_⟩
        by_cases ex : x = 0
        · subst ex
          refine (if_neg (by decide)).mpr ?_
          refine ⟨T, _, _, rfl, sG, ?_⟩
          rw [dot_zero hx hline w1]
          exact hT
        · refine (if_pos (by simp [ex])).mpr ?_
          have hdl := dot_len k row lines i
          generalize hd : dotR k row lines i = sums at hT hdl
          generalize hz : List.zipWith (fun t y => t + x * y) sums line = zs
          have hzl : zs.length = k := by rw [← hz, List.length_zipWith, hdl, w1, Nat.min_self]
          refine ⟨_, rfl, _, rfl, T, bl, _, _, rfl, .inl (.inl hT), hSl, fun D nD => ?_⟩
          refine lc_zipQ (b := true) (c := false) (K := K) (l := T) (m := bl) (xs := sums.map V.int) (ys := line.map V.int) (by rw [List.length_map, List.length_map, hdl, w1]) (fun j F => Same G1 F ∧ F D = some (.lst ((zs.take j).map V.int))) ⟨same_upd nD, upd_same⟩
            (fun j F _ z => ⟨.inl (.inl (z.1 _ _ hT)), Same.seqT z.1 hSl⟩) ?_ ?_
          · rintro j u v t F hu hv ⟨sF, hF⟩ nt
            obtain ⟨m, hm, rfl⟩ := mapInt hu
            obtain ⟨y, hy, rfl⟩ := mapInt hv
            have st := same_upd (o := .tup [V.int m, V.int y]) nt
            refine ⟨t, _, rfl, .inl (.inl upd_same), rfl, _, _, rfl, _, _, rfl, rfl, rfl, ?_⟩
            have hzj : zs[j]? = some (m + x * y) := by rw [← hz, List.getElem?_zipWith, hm, hy]
            have hlt := (List.getElem?_eq_some_iff.mp hm).1
            refine ⟨_, rfl, _, rfl, _, rfl, x, y, rfl, rfl, .inl ⟨by omega, by omega⟩, m, x * y, rfl, rfl, ?_⟩
            refine ⟨_, st _ _ hF, lt10 (by rw [List.length_map, List.length_take]; omega), acc_same nD sF st, ?_⟩
            rw [upd_same, List.take_add_one, hzj, List.map_append]
            rfl
          · rintro F ⟨sF, hF⟩
            rw [List.length_map, hdl, ← hzl, List.take_length] at hF
            refine ⟨D, _, _, rfl, sG.trans sF, ?_⟩
            rw [hF, dot_succ hx hline w1, hd, hz]
      · rintro σ G ⟨T, xv, lv, rfl, sG, hT⟩
        rw [List.length_map, hlen] at hT
        have hdl := dot_len k row lines lines.length
        generalize hd : dotR k row lines lines.length = sums at hT hdl q
        refine ⟨_, rfl, T, rfl, ⟨_, .inl (.inl hT)⟩, fun D nD => ?_⟩
        refine lc_list (K := K) (a := T) (xs := sums.map V.int) (fun j F => Same G F ∧ F D = some (.lst (((sums.take j).map (· % p)).map V.int))) ⟨same_upd nD, upd_same⟩ (fun j F _ z => .inl (.inl (z.1 _ _ hT))) ?_ ?_
        · rintro j u F hu ⟨sF, hF⟩
          obtain ⟨m, hm, rfl⟩ := mapInt hu
          have hlt := (List.getElem?_eq_some_iff.mp hm).1
          refine ⟨rfl, ?_⟩
          refine ⟨_, rfl, _, rfl, m, p, rfl, rfl, by omega, ?_⟩
          refine ⟨_, hF, lt10 (by rw [List.length_map, List.length_map, List.length_take]; omega), acc_same nD sF (Same.refl F), ?_⟩
          rw [upd_same, List.take_add_one, hm, List.map_append, List.map_append]
          rfl
        · rintro F ⟨sF, hF⟩
          rw [List.length_map, List.take_length] at hF
          refine ⟨D, _, rfl, .inl ⟨.inl (.inl hF), fun t nt => ?_⟩⟩
          exact q _ t (((s0.trans sG).trans sF).trans (same_upd nt)) (.inl (.inl upd_same))
  exact has_of F G T.g__combined (fun _ _ _ _ _ _ us hl => match us, hl with | [_, _, _, _], _ => rfl)
theorem ok_product (T : Txt K mg) {fd : FuncData} (F : FnP K "product" s_product fd)
    (H_need_prime : Has P w K mg base (L2.CX P w) 3 "need_prime" P_need_prime (sp_need_prime K))
    (H_need_matrix : Has P w K mg base (L2.CX P w) 5 "need_matrix" P_need_matrix (sp_need_matrix K))
    (H__combined : Has P w K mg base CX0 1 "_combined" P__combined (sp__combined K)) :
    HasK P w K mg base (L2.CX P w) 6 "product" P_product 2 ["prime"] (sp_product K) := by
  have G : FnOk P w K mg base (L2.CX P w) 6 (He.ga K "product") fd P_product (sp_product K) := by
    refine F.ok (k := 5) sc_product (fun vs H Q E h => ?_) (fun cdv A outer s H vs Q E hr h => ?_)
    · obtain ⟨x, d, y, e, z, f, av, rfl, hx, hy, hz, q⟩ := h
      rfl
    · obtain ⟨x, d, y, e, z, f, av, rfl, hx, hy, hz, q⟩ := h
      refine ⟨_, (pss_cons (ps_expr (pe_has H_need_prime (hr.mono (by decide)) (passes_call (takes_of rfl rfl rfl rfl) (fun _ _ _ _ h => h)) (pa_cons (pv 2) pa_nil)))
  (pss_cons (ps_expr (pe_has H_need_matrix (hr.mono (by decide)) (passes_call (takes_of rfl rfl rfl rfl) (fun _ _ _ _ h => h)) (pa_cons (pv 0) (pa_cons (pv 2) pa_nil))))
  (pss_cons (ps_expr (pe_has H_need_matrix (hr.mono (by decide)) (passes_call (takes_of rfl rfl rfl rfl) (fun _ _ _ _ h => h)) (pa_cons (pv 1) (pa_cons (pv 2) pa_nil))))
  (pss_cons (ps_asg (pv 0) (pg_tup rfl (pgs_cons (pg_name (i := 3) sc_product.nd rfl (by first | exact Or.inl rfl | exact Or.inr rfl)) (pgs_cons (pg_name (i := 4) sc_product.nd rfl (by first | exact Or.inl rfl | exact Or.inr rfl)) (pgs_cons (pg_name (i := 5) sc_product.nd rfl (by first | exact Or.inl rfl | exact Or.inr rfl)) pgs_nil)))))
  (pss_cons (ps_asg (pv 1) (pg_tup rfl (pgs_cons (pg_name (i := 6) sc_product.nd rfl (by first | exact Or.inl rfl | exact Or.inr rfl)) (pgs_cons (pg_name (i := 7) sc_product.nd rfl (by first | exact Or.inl rfl | exact Or.inr rfl)) (pgs_cons (pg_name (i := 8) sc_product.nd rfl (by first | exact Or.inl rfl | exact Or.inr rfl)) pgs_nil)))))
  (pss_cons (ps_if (pt_cmpR op_ne (pv 4) (pv 6) (nomark _))
   (pss_one (ps_raise rfl (takes_of rfl rfl rfl rfl) (pmk_own PySem.F.excBase_ValueError T.x_NoFit T.g_NoFit T.k_NoFit (raises_own T.b_NoFit T.t_NoFit) rfl))) pss_nil)
  (pss_one (ps_ret (pe_tup (pa_cons (pv 3) (pa_cons (pv 7) (pa_cons (pe_callTy (T := "tuple") call_tuple_of (by rfl) T.f_tuple (by decide +kernel) (pa_cons (pe_lc (own := [("row", 9)]) rfl sc_product.nd (pi_tup (pv 5)) (blkOk_by (N := N_product) (sc := defScope s_product) (by decide +kernel)) (fun _ _ _ _ _ => pg_name (i := 9) (sc_product.nd) rfl (by first | exact Or.inl rfl | exact Or.inr rfl)) (fun _ _ _ _ _ => pts_nil) (fun _ _ _ _ _ => (pe_has H__combined (hr.mono (by decide)) pass0 (pa_cons (pv 9) (pa_cons (pv 8) (pa_cons (pv 7) (pa_cons (pv 2) pa_nil))))))) pa_nil)) pa_nil)))))))))))), ?_⟩
      refine ⟨_, rfl, z, f, av, rfl, hz, fun H1 s1 => ?_⟩
      refine ite2 (fun c => ?_) (fun c => ?_)
      rotate_left
      · exact (q H1 s1).1 (Bool.not_eq_true _ |>.mp c)
      obtain ⟨p, rfl⟩ : ∃ p, f = .int p := by
        cases f <;> first | exact ⟨_, rfl⟩ | (simp [isD, tyD, whole, primeD, wholeTo] at c)
      cases hz
      have hp2 := primeN_in c
      
      refine ⟨_, rfl, _, rfl, x, d, av, p, rfl, hx.same s1, fun H2 s2 => ⟨fun c2 => ?_, fun c2 => ?_⟩⟩
      rotate_left
      · refine ((q H2 (s1.trans s2)).2 p rfl c).1 ?_
        rw [c2, Bool.false_and]
      have s12 := s1.trans s2
      refine ⟨_, rfl, _, rfl, y, e, av, p, rfl, hy.same s12, fun H3 s3 => ⟨fun c3 => ?_, fun c3 => ?_⟩⟩
      rotate_left
      · refine ((q H3 (s12.trans s3)).2 p rfl c).1 ?_
        rw [c3, Bool.and_false]
      have s13 := s12.trans s3
      obtain ⟨r, m, rows, rfl, ok1⟩ := matD_MOk c2
      obtain ⟨m', k, lines, rfl, ok2⟩ := matD_MOk c3
      obtain ⟨b1, n1, ys1, rfl, hS1, hN1, hA1⟩ := matParts (hx.same s13)
      obtain ⟨b2, n2, ys2, rfl, hS2, hN2, hA2⟩ := matParts (hy.same s13)
      have hy1 := hA1.length
      have hy2 := hA2.length
      rw [List.length_map] at hy1 hy2
      obtain ⟨o1, o2, o3, o4⟩ := ok1
      obtain ⟨t1, t2, t3, t4⟩ := ok2
      
      refine ⟨_, rfl, b1, _, rfl, hS1, rfl, _, _, rfl, _, _, rfl, _, _, rfl, rfl, ?_⟩
      refine ⟨_, rfl, b2, _, rfl, hS2, rfl, _, _, rfl, _, _, rfl, _, _, rfl, rfl, ?_⟩
      refine ⟨_, rfl, _, rfl, rfl, _, rfl, ?_⟩
      have fin := ((q H3 s13).2 p rfl c).2 r m m' k rows lines rfl ⟨o1, o2, o3, o4⟩ rfl ⟨t1, t2, t3, t4⟩
      by_cases em : m = m'
      rotate_left
      · rw [decide_eq_false (show ¬ V.int (m : Int) = V.int (m' : Int) from fun z => em (by injection z with z; omega))]
        refine iteT ?_
        exact fin.1 em
      subst em
      rw [decide_eq_true rfl]
      refine iteF ?_
      refine ⟨_, rfl, _, rfl, _, rfl, n1, rfl, ⟨_, hN1⟩, fun D nD => ?_⟩
      refine lc_tup (K := K) (a := n1) (xs := ys1) (fun i G => Same H3 G ∧ ∃ vs, G D = some (.lst vs) ∧ DaAll K G D vs ((prodR p k (rows.take i) lines).map rowD)) ⟨same_upd nD, [], upd_same, .nil⟩ (fun i G _ z => Same.seqT z.1 hN1) ?_ ?_
      · rintro i u G hu ⟨sG, vs, hG, hV⟩
        obtain ⟨row, b, hrow, rfl, hSb⟩ := rowOf (hA1.same sG) hu
        obtain ⟨w1, w2⟩ := o4 row (List.mem_of_getElem? hrow)
        refine ⟨rfl, ?_⟩
        refine ⟨_, rfl, _, rfl, _, rfl, _, rfl, b, n2, av, row, ys2, lines, k, p, rfl, hSb, Same.seqT sG hN2, hA2.same sG, by omega, t3, t4, w2, hp2.1, hp2.2, fun G2 t s2' ht => ?_⟩
        have hlt := (List.getElem?_eq_some_iff.mp hrow).1
        have lv := hV.length
        have el : (prodR p k (rows.take i) lines).length = i := by
          unfold prodR
          rw [List.length_map, List.length_take]
          omega
        rw [List.length_map, el] at lv
        have gD := s2' _ _ hG
        refine ⟨vs, gD, lt10 (by omega), acc_same nD sG s2', vs ++ [.ref t], upd_same, ?_⟩
        have e : prodR p k (rows.take (i + 1)) lines = prodR p k (rows.take i) lines ++ [(dotR k row lines lines.length).map (· % p)] := by
          unfold prodR
          rw [List.take_add_one, hrow, List.map_append]
          rfl
        rw [e, List.map_append]
        refine DaAll.append ((hV.same s2').grow gD) (.cons (Da.grow (ps := vs) ?_ gD) .nil)
        exact .tup ht (DaAll.ints _)
      rintro G ⟨sG, vs, hG, hV⟩
      rw [hy1, List.take_length] at hV
      refine ⟨D, vs, rfl, .inl ⟨.inl (.inl hG), fun t nt => ?_⟩⟩
      refine ⟨sz_le (by simp), fun w nw => ?_⟩
      refine ((((q _ (((s13.trans sG).trans (same_upd nt)).trans (same_upd nw))).2 p rfl c).2 r m m k rows lines rfl ⟨o1, o2, o3, o4⟩ rfl ⟨t1, t2, t3, t4⟩).2 rfl) _ fun av => ?_
      refine Da.any (av := D) _ _ (noL_mat _ _ _) ?_
      exact Da.newT (.cons (.int _) (.cons (.int _) (.cons (Da.newT hV nt) .nil))) nw
  exact hasK_of (n := 2) F G T.g_product (fun _ _ _ _ _ _ us ws hl hm => match us, ws, hl, hm with | [_, _], [_], _, _ => rfl)
theorem ok_plus (T : Txt K mg) {fd : FuncData} (F : FnP K "plus" s_plus fd)
    (H_need_prime : Has P w K mg base (L2.CX P w) 3 "need_prime" P_need_prime (sp_need_prime K))
    (H_need_matrix : Has P w K mg base (L2.CX P w) 5 "need_matrix" P_need_matrix (sp_need_matrix K))
    (H__sum : Has P w K mg base CX0 1 "_sum" P__sum (sp__sum K)) :
    HasK P w K mg base (L2.CX P w) 6 "plus" P_plus 2 ["prime"] (sp_plus K) := by
  have G : FnOk P w K mg base (L2.CX P w) 6 (He.ga K "plus") fd P_plus (sp_plus K) := by
    refine F.ok (k := 5) sc_plus (fun vs H Q E h => ?_) (fun cdv A outer s H vs Q E hr h => ?_)
    · obtain ⟨x, d, y, e, z, f, av, rfl, hx, hy, hz, q⟩ := h
      rfl
    · obtain ⟨x, d, y, e, z, f, av, rfl, hx, hy, hz, q⟩ := h
      refine ⟨_, (pss_cons (ps_expr (pe_has H_need_prime (hr.mono (by decide)) (passes_call (takes_of rfl rfl rfl rfl) (fun _ _ _ _ h => h)) (pa_cons (pv 2) pa_nil)))
  (pss_cons (ps_expr (pe_has H_need_matrix (hr.mono (by decide)) (passes_call (takes_of rfl rfl rfl rfl) (fun _ _ _ _ h => h)) (pa_cons (pv 0) (pa_cons (pv 2) pa_nil))))
  (pss_cons (ps_expr (pe_has H_need_matrix (hr.mono (by decide)) (passes_call (takes_of rfl rfl rfl rfl) (fun _ _ _ _ h => h)) (pa_cons (pv 1) (pa_cons (pv 2) pa_nil))))
  (pss_cons (ps_if (pt_cmpR (op_neD hr.units) (pe_slice sl_tupD (pv 0) po_none (po_some pe_int)) (pe_slice sl_tupD (pv 1) po_none (po_some pe_int)) (nomark _))
   (pss_one (ps_raise rfl (takes_of rfl rfl rfl rfl) (pmk_own PySem.F.excBase_ValueError T.x_NoFit T.g_NoFit T.k_NoFit (raises_own T.b_NoFit T.t_NoFit) rfl))) pss_nil)
  (pss_cons (ps_asg (pv 0) (pg_tup rfl (pgs_cons (pg_name (i := 3) sc_plus.nd rfl (by first | exact Or.inl rfl | exact Or.inr rfl)) (pgs_cons (pg_name (i := 4) sc_plus.nd rfl (by first | exact Or.inl rfl | exact Or.inr rfl)) (pgs_cons (pg_name (i := 5) sc_plus.nd rfl (by first | exact Or.inl rfl | exact Or.inr rfl)) pgs_nil)))))
  (pss_one (ps_ret (pe_tup (pa_cons (pv 3) (pa_cons (pv 4) (pa_cons (pe_callTy (T := "tuple") call_tuple_of (by rfl) T.f_tuple (by decide +kernel) (pa_cons (pe_lc (own := [("row", 6), ("line", 7)]) rfl sc_plus.nd (pi_zipQ false false (by rfl) T.f_zip (pa_cons (pv 5) (pa_cons (pe_ix ix_tup (pv 1) pe_int (fun _ _ => rfl)) pa_nil))) (blkOk_by (N := N_plus) (sc := defScope s_plus) (by decide +kernel)) (fun _ _ _ _ _ => (pg_tupK K (n := 2) (hc := rfl) (hp := (pgs_cons (pg_name (i := 6) sc_plus.nd rfl (by first | exact Or.inl rfl | exact Or.inr rfl)) (pgs_cons (pg_name (i := 7) sc_plus.nd rfl (by first | exact Or.inl rfl | exact Or.inr rfl)) pgs_nil))))) (fun _ _ _ _ _ => pts_nil) (fun _ _ _ _ _ => (pe_has H__sum (hr.mono (by decide)) pass0 (pa_cons (pv 6) (pa_cons (pv 7) (pa_cons (pv 2) pa_nil)))))) pa_nil)) pa_nil))))))))))), ?_⟩
      refine ⟨_, rfl, z, f, av, rfl, hz, fun H1 s1 => ?_⟩
      refine ite2 (fun c => ?_) (fun c => ?_)
      rotate_left
      · exact (q H1 s1).1 (Bool.not_eq_true _ |>.mp c)
      obtain ⟨p, rfl⟩ : ∃ p, f = .int p := by
        cases f <;> first | exact ⟨_, rfl⟩ | (simp [isD, tyD, whole, primeD, wholeTo] at c)
      cases hz
      have hp2 := primeN_in c
      
      refine ⟨_, rfl, _, rfl, x, d, av, p, rfl, hx.same s1, fun H2 s2 => ⟨fun c2 => ?_, fun c2 => ?_⟩⟩
      rotate_left
      · refine ((q H2 (s1.trans s2)).2 p rfl c).1 ?_
        rw [c2, Bool.false_and]
      have s12 := s1.trans s2
      refine ⟨_, rfl, _, rfl, y, e, av, p, rfl, hy.same s12, fun H3 s3 => ⟨fun c3 => ?_, fun c3 => ?_⟩⟩
      rotate_left
      · refine ((q H3 (s12.trans s3)).2 p rfl c).1 ?_
        rw [c3, Bool.and_false]
      have s13 := s12.trans s3
      obtain ⟨r, m, rows, rfl, ok1⟩ := matD_MOk c2
      obtain ⟨m', k, lines, rfl, ok2⟩ := matD_MOk c3
      obtain ⟨b1, n1, ys1, rfl, hS1, hN1, hA1⟩ := matParts (hx.same s13)
      obtain ⟨b2, n2, ys2, rfl, hS2, hN2, hA2⟩ := matParts (hy.same s13)
      have hy1 := hA1.length
      have hy2 := hA2.length
      rw [List.length_map] at hy1 hy2
      obtain ⟨o1, o2, o3, o4⟩ := ok1
      obtain ⟨t1, t2, t3, t4⟩ := ok2
      
      refine ⟨_, rfl, 2, rfl, b1, _, rfl, hS1, fun c1 G1 u1 hc1 => ?_⟩
      refine ⟨_, rfl, 2, rfl, b2, _, rfl, Same.seqT u1 hS2, fun c2' G2 u2 hc2 => ?_⟩
      have u12 := u1.trans u2
      refine ⟨.tuple [.int r, .int m], .tuple [.int m', .int k], .tup (Same.seqT u2 hc1) (.cons (.int _) (.cons (.int _) .nil)), .tup hc2 (.cons (.int _) (.cons (.int _) .nil)), rfl, rfl, _, rfl, ?_⟩
      have ev : PyData.eqv (.tuple [.int r, .int m]) (.tuple [.int m', .int k]) = decide (r = m' ∧ m = k) := by
        show ((r : Int) == (m' : Int) && ((m : Int) == (k : Int) && true)) = _
        rw [Bool.and_true, Bool.eq_iff_iff, Bool.and_eq_true, beq_iff_eq, beq_iff_eq, decide_eq_true_iff]
        omega
      rw [ev]
      have s13 := s13.trans u12
      have hS1 := Same.seqT u12 hS1
      have hS2 := Same.seqT u12 hS2
      have hN1 := Same.seqT u12 hN1
      have hN2 := Same.seqT u12 hN2
      have hA1 := hA1.same u12
      have hA2 := hA2.same u12
      have fin := ((q G2 s13).2 p rfl c).2 r m m' k rows lines rfl ⟨o1, o2, o3, o4⟩ rfl ⟨t1, t2, t3, t4⟩
      by_cases em : r = m' ∧ m = k
      rotate_left
      · rw [decide_eq_false em]
        refine iteT ?_
        exact fin.1 em
      rw [decide_eq_true em]
      refine iteF ?_
      obtain ⟨rfl, rfl⟩ := em
      refine ⟨_, rfl, b1, _, rfl, hS1, rfl, _, _, rfl, _, _, rfl, _, _, rfl, rfl, ?_⟩
      generalize hz : plusR p rows lines = zs
      have hzl : zs.length = r := by rw [← hz]; unfold plusR; rw [List.length_zipWith, o1, t1, Nat.min_self]
      refine ⟨_, rfl, _, rfl, _, rfl, _, rfl, b2, _, 2, .ref n2, rfl, rfl, hS2, rfl, n1, n2, _, _, rfl, hN1, hN2, fun D nD => ?_⟩
      refine lc_zipQ (b := false) (c := false) (K := K) (l := n1) (m := n2) (xs := ys1) (ys := ys2) (by omega) (fun i G => Same G2 G ∧ ∃ vs, G D = some (.lst vs) ∧ DaAll K G D vs ((zs.take i).map rowD)) ⟨same_upd nD, [], upd_same, .nil⟩
        (fun i G _ z => ⟨Same.seqT z.1 hN1, Same.seqT z.1 hN2⟩) ?_ ?_
      · rintro i u v t G hu hv ⟨sG, vs, hG, hV⟩ nt
        obtain ⟨row, bb, hrow, rfl, hSb⟩ := rowOf (hA1.same sG) hu
        obtain ⟨line, bc, hline, rfl, hSc⟩ := rowOf (hA2.same sG) hv
        obtain ⟨w1, w2⟩ := o4 row (List.mem_of_getElem? hrow)
        obtain ⟨w3, w4⟩ := t4 line (List.mem_of_getElem? hline)
        have st := same_upd (o := .tup [V.ref bb, .ref bc]) nt
        refine ⟨t, _, rfl, .inl (.inl upd_same), rfl, _, _, rfl, _, _, rfl, rfl, rfl, ?_⟩
        refine ⟨_, rfl, _, rfl, _, rfl, bb, bc, row, line, p, rfl, Same.seqT st hSb, Same.seqT st hSc, by omega, by omega, by omega, fun F w sF hw => ?_⟩
        have hzi : zs[i]? = some (sumR p row line) := by
          rw [← hz]
          unfold plusR
          rw [List.getElem?_zipWith, hrow, hline]
        have hlt := (List.getElem?_eq_some_iff.mp hrow).1
        have lv := hV.length
        rw [List.length_map, List.length_take] at lv
        have stF := st.trans sF
        have gD := stF _ _ hG
        refine ⟨vs, gD, lt10 (by omega), acc_same nD sG stF, vs ++ [.ref w], upd_same, ?_⟩
        rw [List.take_add_one, hzi, List.map_append]
        refine DaAll.append ((hV.same stF).grow gD) (.cons (Da.grow (ps := vs) ?_ gD) .nil)
        exact .tup hw (DaAll.ints _)
      rintro G ⟨sG, vs, hG, hV⟩
      rw [show ys1.length = zs.length by omega, List.take_length] at hV
      refine ⟨D, vs, rfl, .inl ⟨.inl (.inl hG), fun t nt => ?_⟩⟩
      refine ⟨sz_le (by simp), fun w nw => ?_⟩
      refine ((((q _ (((s13.trans sG).trans (same_upd nt)).trans (same_upd nw))).2 p rfl c).2 r m r m rows lines rfl ⟨o1, o2, o3, o4⟩ rfl ⟨t1, t2, t3, t4⟩).2 ⟨rfl, rfl⟩) _ fun av => ?_
      rw [hz]
      refine Da.any (av := D) _ _ (noL_mat _ _ _) ?_
      exact Da.newT (.cons (.int _) (.cons (.int _) (.cons (Da.newT hV nt) .nil))) nw
  exact hasK_of (n := 2) F G T.g_plus (fun _ _ _ _ _ _ us ws hl hm => match us, ws, hl, hm with | [_, _], [_], _, _ => rfl)
theorem ok_times (T : Txt K mg) {fd : FuncData} (F : FnP K "times" s_times fd)
    (H_is_whole : Has P w K mg base CX0 1 "is_whole" P_is_whole (sp_is_whole K))
    (H_need_prime : Has P w K mg base (L2.CX P w) 3 "need_prime" P_need_prime (sp_need_prime K))
    (H_need_matrix : Has P w K mg base (L2.CX P w) 5 "need_matrix" P_need_matrix (sp_need_matrix K)) :
    HasK P w K mg base (L2.CX P w) 6 "times" P_times 2 ["prime"] (sp_times K) := by
  have G : FnOk P w K mg base (L2.CX P w) 6 (He.ga K "times") fd P_times (sp_times K) := by
    refine F.ok (k := 5) sc_times (fun vs H Q E h => ?_) (fun cdv A outer s H vs Q E hr h => ?_)
    · obtain ⟨w, c', x, d, z, f, av, rfl, hw, hx, hz, q⟩ := h
      rfl
    · obtain ⟨w, c', x, d, z, f, av, rfl, hw, hx, hz, q⟩ := h
      refine ⟨_, (pss_cons (ps_expr (pe_has H_need_prime (hr.mono (by decide)) (passes_call (takes_of rfl rfl rfl rfl) (fun _ _ _ _ h => h)) (pa_cons (pv 2) pa_nil)))
  (pss_cons (ps_if (pt_not (pt_val (pe_has H_is_whole (hr.mono (by decide)) pass0 (pa_cons (pv 0) pa_nil))))
   (pss_one (ps_raise rfl (takes_of rfl rfl rfl rfl) (pmk_own PySem.F.excBase_ValueError T.x_NoNumber T.g_NoNumber T.k_NoNumber (raises_own T.b_NoNumber T.t_NoNumber) rfl))) pss_nil)
  (pss_cons (ps_expr (pe_has H_need_matrix (hr.mono (by decide)) (passes_call (takes_of rfl rfl rfl rfl) (fun _ _ _ _ h => h)) (pa_cons (pv 1) (pa_cons (pv 2) pa_nil))))
  (pss_cons (ps_set (i := 3) sc_times.nd rfl (by first | exact Or.inl rfl | exact Or.inr rfl) (pe_op op_modP (pv 0) (pv 2)))
  (pss_cons (ps_asg (pv 1) (pg_tup rfl (pgs_cons (pg_name (i := 4) sc_times.nd rfl (by first | exact Or.inl rfl | exact Or.inr rfl)) (pgs_cons (pg_name (i := 5) sc_times.nd rfl (by first | exact Or.inl rfl | exact Or.inr rfl)) (pgs_cons (pg_name (i := 6) sc_times.nd rfl (by first | exact Or.inl rfl | exact Or.inr rfl)) pgs_nil)))))
  (pss_one (ps_ret (pe_tup (pa_cons (pv 4) (pa_cons (pv 5) (pa_cons (pe_callTy (T := "tuple") call_tuple_of (by rfl) T.f_tuple (by decide +kernel) (pa_cons (pe_lc (own := [("row", 7)]) rfl sc_times.nd (pi_tup (pv 6)) (blkOk_by (N := N_times) (sc := defScope s_times) (by decide +kernel)) (fun _ _ _ _ _ => pg_name (i := 7) (sc_times.nd) rfl (by first | exact Or.inl rfl | exact Or.inr rfl)) (fun _ _ _ _ _ => pts_nil) (fun _ _ _ _ _ => (pe_callTy (T := "tuple") (call_tupOfK K) (by rfl) T.f_tuple (by decide +kernel) (pa_cons (pe_lc (own := [("x", 8)]) rfl sc_times.nd (pi_tupK K (hl := (pv 7))) (blkOk_by (by show blkC N_times (relS _ (defScope s_times)) _ _ = true; decide +kernel)) (fun _ _ _ _ _ => pg_name (i := 8) (sc_times.nd) rfl (by first | exact Or.inl rfl | exact Or.inr rfl)) (fun _ _ _ _ _ => pts_nil) (fun _ _ _ _ _ => (pe_op op_modP (pe_op op_mul (pv 3) (pv 8)) (pv 2)))) pa_nil)))) pa_nil)) pa_nil))))))))))), ?_⟩
      refine ⟨_, rfl, z, f, av, rfl, hz, fun H1 s1 => ?_⟩
      refine ite2 (fun c => ?_) (fun c => ?_)
      rotate_left
      · exact (q H1 s1).1 (Bool.not_eq_true _ |>.mp c)
      obtain ⟨p, rfl⟩ : ∃ p, f = .int p := by
        cases f <;> first | exact ⟨_, rfl⟩ | (simp [isD, tyD, whole, primeD, wholeTo] at c)
      cases hz
      have hp2 := primeN_in c
      
      refine ⟨w, rfl, w, c', av, rfl, hw.same s1, _, rfl, ?_⟩
      cases ew : whole c' with
      | false =>
        refine iteT ?_
        exact ((q H1 s1).2 p rfl c).1 ew
      | true =>
        refine iteF ?_
        obtain ⟨n, rfl⟩ : ∃ n, c' = .int n := by
          cases c' <;> first | exact ⟨_, rfl⟩ | (simp [whole] at ew)
        cases hw
        refine ⟨_, rfl, _, rfl, x, d, av, p, rfl, hx.same s1, fun H2 s2 => ⟨fun c2 => ?_, fun c2 => ?_⟩⟩
        rotate_left
        · exact (((q H2 (s1.trans s2)).2 p rfl c).2 n rfl).1 c2
        have s12 := s1.trans s2
        obtain ⟨r, m, rows, rfl, ok1⟩ := matD_MOk c2
        obtain ⟨b1, n1, ys1, rfl, hS1, hN1, hA1⟩ := matParts (hx.same s12)
        have hy1 := hA1.length
        rw [List.length_map] at hy1
        obtain ⟨o1, o2, o3, o4⟩ := ok1
        refine ⟨_, rfl, _, rfl, n, p, rfl, rfl, by omega, ?_⟩
        refine ⟨_, rfl, b1, _, rfl, hS1, rfl, _, _, rfl, _, _, rfl, _, _, rfl, rfl, ?_⟩
        have nb1 := Int.emod_nonneg n (show p ≠ 0 by omega)
        have nb2 := Int.emod_lt_of_pos n (show 0 < p by omega)
        have hmul : ∀ x : Int, n % p * x % p = n * x % p := fun x => by rw [Int.mul_emod, Int.emod_emod, ← Int.mul_emod]
        try dsimp only
        generalize n % p = rest at nb1 nb2 hmul ⊢
        refine ⟨_, rfl, _, rfl, _, rfl, n1, rfl, ⟨_, hN1⟩, fun D nD => ?_⟩
        refine lc_tup (K := K) (a := n1) (xs := ys1) (fun i G => Same H2 G ∧ ∃ vs, G D = some (.lst vs) ∧ DaAll K G D vs ((timesR p n (rows.take i)).map rowD)) ⟨same_upd nD, [], upd_same, .nil⟩ (fun i G _ z => Same.seqT z.1 hN1) ?_ ?_
        · rintro i u G hu ⟨sG, vs, hG, hV⟩
          obtain ⟨row, b, hrow, rfl, hSb⟩ := rowOf (hA1.same sG) hu
          obtain ⟨w1, w2⟩ := o4 row (List.mem_of_getElem? hrow)
          refine ⟨rfl, ?_⟩
          refine ⟨_, rfl, b, rfl, ⟨_, hSb⟩, fun E nE => ?_⟩
          refine lc_tup (K := K) (a := b) (xs := row.map V.int) (fun j F => Same G F ∧ F E = some (.lst (((row.take j).map fun x => n * x % p).map V.int))) ⟨same_upd nE, upd_same⟩ (fun j F _ z => Same.seqT z.1 hSb) ?_ ?_
          · rintro j u F hu ⟨sF, hF⟩
            obtain ⟨y, hy, rfl⟩ := mapInt hu
            have hlt := (List.getElem?_eq_some_iff.mp hy).1
            refine ⟨rfl, ?_⟩
            refine ⟨_, rfl, _, rfl, rest, y, rfl, rfl, .inl ⟨by omega, by omega⟩, _, rfl, rest * y, p, rfl, rfl, by omega, ?_⟩
            refine ⟨_, hF, lt10 (by rw [List.length_map, List.length_map, List.length_take]; omega), acc_same nE sF (Same.refl F), ?_⟩
            rw [upd_same, List.take_add_one, hy, List.map_append, List.map_append]
            show some (HO.lst (_ ++ [V.int (rest * y % p)])) = some (HO.lst (_ ++ [V.int (n * y % p)]))
            rw [hmul]
          · rintro F ⟨sF, hF⟩
            rw [List.length_map, List.take_length] at hF
            refine ⟨E, _, rfl, .inl ⟨.inl (.inl hF), fun t nt => ?_⟩⟩
            have st := same_upd (o := .tup ((row.map fun x => n * x % p).map V.int)) nt
            have sGt := sF.trans st
            have hlt := (List.getElem?_eq_some_iff.mp hrow).1
            have lv := hV.length
            have el : (timesR p n (rows.take i)).length = i := by
              unfold timesR
              rw [List.length_map, List.length_take]
              omega
            rw [List.length_map, el] at lv
            have gD := sGt _ _ hG
            refine ⟨vs, gD, lt10 (by omega), acc_same nD (sG.trans sF) st, vs ++ [.ref t], upd_same, ?_⟩
            have e : timesR p n (rows.take (i + 1)) = timesR p n (rows.take i) ++ [row.map fun x => n * x % p] := by
              unfold timesR
              rw [List.take_add_one, hrow, List.map_append]
              rfl
            rw [e, List.map_append]
            refine DaAll.append ((hV.same sGt).grow gD) (.cons (Da.grow (ps := vs) ?_ gD) .nil)
            exact Da.newT (DaAll.ints _) nt
        rintro G ⟨sG, vs, hG, hV⟩
        rw [hy1, List.take_length] at hV
        refine ⟨D, vs, rfl, .inl ⟨.inl (.inl hG), fun t nt => ?_⟩⟩
        refine ⟨sz_le (by simp), fun w nw => ?_⟩
        refine (((q _ (((s12.trans sG).trans (same_upd nt)).trans (same_upd nw))).2 p rfl c).2 n rfl).2 r m rows rfl ⟨o1, o2, o3, o4⟩ _ fun av => ?_
        refine Da.any (av := D) _ _ (noL_mat _ _ _) ?_
        exact Da.newT (.cons (.int _) (.cons (.int _) (.cons (Da.newT hV nt) .nil))) nw
  exact hasK_of (n := 2) F G T.g_times (fun _ _ _ _ _ _ us ws hl hm => match us, ws, hl, hm with | [_, _], [_], _, _ => rfl)
end
end K03

set_option Elab.async false
set_option linter.all false
set_option maxRecDepth 100000
set_option maxHeartbeats 8000000
namespace K03
open PySem PySem.Spec PyProof.Rows L2 XA

theorem rows_inj {u v : List (List Int)} (h : u.map rowD = v.map rowD) : u = v := by
  induction u generalizing v with
  | nil =>
    cases v with
    | nil => rfl
    | cons _ _ => cases h
  | cons s t ih =>
    cases v with
    | nil => cases h
    | cons s' t' =>
      rw [List.map_cons, List.map_cons] at h
      injection h with g1 g2
      rw [ih g2]
      unfold rowD at g1
      injection g1 with g1
      have ihh : ∀ {u v : List Int}, u.map PyData.int = v.map PyData.int → u = v := by
        intro u
        induction u with
        | nil =>
          intro v h
          cases v with
          | nil => rfl
          | cons _ _ => cases h
        | cons a b ih3 =>
          intro v h
          cases v with
          | nil => cases h
          | cons a' b' =>
            rw [List.map_cons, List.map_cons] at h
            injection h with w1 w2
            injection w1 with w1
            rw [ih3 w2, w1]
      rw [ihh g1]
theorem matD_inj {r k r' k' : Nat} {rows rows' : List (List Int)} (h : matD r k rows = matD r' k' rows') : r = r' ∧ k = k' ∧ rows = rows' := by
  unfold matD at h
  injection h with h
  injection h with q1 h
  injection h with q2 h
  injection h with q3 h
  injection q1 with q1
  injection q2 with q2
  injection q3 with q3
  exact ⟨Int.ofNat.inj q1, Int.ofNat.inj q2, rows_inj q3⟩
def one3 (p : Int) (d : PyData) (g : Nat → Nat → List (List Int) → PyData) (r : PyData) : Prop :=
  (isMatD d p = false ∧ r = .str "matrix") ∨ ∃ (a m : Nat) (rows : List (List Int)), d = matD a m rows ∧ MOk a m rows p ∧ g a m rows = r
def two3 (p : Int) (d e : PyData) (g : Nat → Nat → Nat → Nat → List (List Int) → List (List Int) → PyData) (r : PyData) : Prop :=
  ((isMatD d p && isMatD e p) = false ∧ r = .str "matrix") ∨ ∃ (a m m' k : Nat) (rows lines : List (List Int)), d = matD a m rows ∧ MOk a m rows p ∧ e = matD m' k lines ∧ MOk m' k lines p ∧ g a m m' k rows lines = r
def g0 (p : Int) (a m m' k : Nat) (rows lines : List (List Int)) : PyData := if m = m' then matD a k (prodR p k rows lines) else .str "fit"
def g1 (p : Int) (a m m' k : Nat) (rows lines : List (List Int)) : PyData := if a = m' ∧ m = k then matD a m (plusR p rows lines) else .str "fit"
def g2 (p n : Int) (a m : Nat) (rows : List (List Int)) : PyData := matD a m (timesR p n rows)
def g3 (a m : Nat) (rows : List (List Int)) : PyData := matD m a (flipR m rows)
def told3 (way : Int) (c d e f r : PyData) : Prop := (primeD f = false ∧ r = .str "prime") ∨ ∃ p, f = .int p ∧ primeN p = true ∧
  ((way = 0 ∧ two3 p d e (g0 p) r) ∨ (way = 1 ∧ two3 p d e (g1 p) r) ∨ (way = 2 ∧ ((whole c = false ∧ r = .str "number") ∨ ∃ n, c = .int n ∧ one3 p d (g2 p n) r)) ∨ (way = 3 ∧ one3 p d g3 r))
def due3 (way n p : Int) (a m m' k : Nat) (rows lines : List (List Int)) : PyData :=
  if way = 0 then g0 p a m m' k rows lines else if way = 1 then g1 p a m m' k rows lines else if way = 2 then g2 p n a m rows else g3 a m rows
def sp__law_refusal (K : PySem.W.Frag) : Sp := fun vs H Q _ => ∃ (v : V) (D : Str) (t : Str), vs = [v] ∧ isExc K H v D ∧ ((D = "NoPrime" ∧ t = "prime") ∨ (D = "NoNumber" ∧ t = "number") ∨ (D = "NoMatrix" ∧ t = "matrix") ∨ (D = "NoFit" ∧ t = "fit")) ∧
  ∀ H', Same H H' → Q (.str t) H'
def sp__law_told (K : PySem.W.Frag) : Sp := fun vs H Q _ => ∃ way w c x d y e z f r av, vs = [.int way, w, x, y, z] ∧ Da K H av w c ∧ Da K H av x d ∧ Da K H av y e ∧ Da K H av z f ∧ told3 way c d e f r ∧
  ∀ H' v, Same H H' → (∀ av, Da K H' av v r) → Q v H'
def sp__law_times (K : PySem.W.Frag) : Sp := fun vs H Q _ => ∃ (x y : V) (a m k : Nat) (rows lines : List (List Int)) (p : Int) (av : Addr), vs = [x, y, .int p] ∧ Da K H av x (matD a m rows) ∧ Da K H av y (matD m k lines) ∧ MOk a m rows p ∧ MOk m k lines p ∧ 2 ≤ p ∧ p ≤ 97 ∧
  ∀ H' v, Same H H' → (∀ av, Da K H' av v (matD a k (prodR p k rows lines))) → Q v H'
def sp__law_due (K : PySem.W.Frag) : Sp := fun vs H Q _ => ∃ (way n : Int) (x y : V) (a m m' k : Nat) (rows lines : List (List Int)) (p : Int) (av : Addr), vs = [.int way, .int n, x, y, .int p] ∧ Da K H av x (matD a m rows) ∧ Da K H av y (matD m' k lines) ∧ MOk a m rows p ∧ MOk m' k lines p ∧ 2 ≤ p ∧ p ≤ 97 ∧
  0 ≤ way ∧ way ≤ 3 ∧ ∀ H' v, Same H H' → (∀ av, Da K H' av v (due3 way n p a m m' k rows lines)) → Q v H'
section
variable {P : Program} {w : World} {K : PySem.W.Frag} {mg : Str → Option Value} {base : Heap}
theorem ok__law_refusal (T : Txt K mg) {fd : FuncData} (F : FnP K "_law_refusal" s__law_refusal fd) :
    Has P w K mg base CX0 1 "_law_refusal" P__law_refusal (sp__law_refusal K) := by
  have G : FnOk P w K mg base CX0 1 (He.ga K "_law_refusal") fd P__law_refusal (sp__law_refusal K) := by
    refine F.ok (k := 0) sc__law_refusal (fun vs H Q E h => ?_) (fun cdv A outer s H vs Q E hr h => ?_)
    · obtain ⟨v, D, t, rfl, he, hD, q⟩ := h
      rfl
    · obtain ⟨v, D, t, rfl, he, hD, q⟩ := h
      refine ⟨_, (PSs.nox (pss_cons (ps_set (i := 1) sc__law_refusal.nd rfl (by first | exact Or.inl rfl | exact Or.inr rfl) (pe_lst (pa_cons (pe_callB (id := "isinstance") call_isZ (by rfl) T.f_isinstance (by decide +kernel) (pa_cons (pv 0) (pa_cons (pe_glob (v := .ref (He.ga K "NoPrime")) (by rfl) T.g_NoPrime rfl) pa_nil))) (pa_cons (pe_callB (id := "isinstance") call_isZ (by rfl) T.f_isinstance (by decide +kernel) (pa_cons (pv 0) (pa_cons (pe_glob (v := .ref (He.ga K "NoNumber")) (by rfl) T.g_NoNumber rfl) pa_nil))) (pa_cons (pe_callB (id := "isinstance") call_isZ (by rfl) T.f_isinstance (by decide +kernel) (pa_cons (pv 0) (pa_cons (pe_glob (v := .ref (He.ga K "NoMatrix")) (by rfl) T.g_NoMatrix rfl) pa_nil))) pa_nil)))))
  (pss_cons (ps_expr (pe_bm PySem.F.plainAttrs_list PySem.F.slot_list_append PySem.F.type_list_append mt_append (pv 1) (pa_cons (pe_callB (id := "isinstance") call_isZ (by rfl) T.f_isinstance (by decide +kernel) (pa_cons (pv 0) (pa_cons (pe_glob (v := .ref (He.ga K "NoFit")) (by rfl) T.g_NoFit rfl) pa_nil))) pa_nil)))
  (pss_cons (ps_if (PW.pt (pw_or (pt_cmpR op_ne (pe_bm PySem.F.plainAttrs_list PySem.F.slot_list_count PySem.F.type_list_count mt_countB (pv 1) (pa_cons pe_bl pa_nil)) pe_int (nomark _)) (pw_or1 (pt_not (pt_val (pe_callB (id := "isinstance") call_isZ (by rfl) T.f_isinstance (by decide +kernel) (pa_cons (pv 0) (pa_cons (pe_bltn (v := .ty "ValueError") (by rfl) T.f_ValueError (by decide +kernel) rfl) pa_nil))))))))
   (pss_one (ps_ret pe_str)) pss_nil)
  (pss_one (ps_ret (pe_ix ix_list (pe_lst (pa_cons pe_str (pa_cons pe_str (pa_cons pe_str (pa_cons pe_str pa_nil))))) (pe_bm PySem.F.plainAttrs_list PySem.F.slot_list_index PySem.F.type_list_index mt_index (pv 1) (pa_cons pe_bl pa_nil)) (fun _ _ => rfl)))))))), ?_⟩
      rcases hD with ⟨rfl, rfl⟩ | ⟨rfl, rfl⟩ | ⟨rfl, rfl⟩ | ⟨rfl, rfl⟩
      · refine ⟨_, rfl, ?_⟩
        walk_at "rd"
        refine isz_exc T.e_NoPrime he (Same.refl H) ((T.kit "NoPrime" (by decide) "NoPrime" (by decide)).trans (by decide +kernel : _ = some true)) ⟨_, rfl, ?_⟩
        refine isz_exc T.e_NoPrime he (Same.refl H) ((T.kit "NoPrime" (by decide) "NoNumber" (by decide)).trans (by decide +kernel : _ = some false)) ⟨_, rfl, ?_⟩
        refine isz_exc T.e_NoPrime he (Same.refl H) ((T.kit "NoPrime" (by decide) "NoMatrix" (by decide)).trans (by decide +kernel : _ = some false)) ⟨by show 3 ≤ sizeLine; decide, fun l nl => ?_⟩
        have s1 := same_upd (o := .lst [.bl true, .bl false, .bl false]) nl
        refine ⟨_, rfl, .inl ⟨rfl, _, .inl (.inl upd_same)⟩, _, rfl, ?_⟩
        walk_at "rd"
        refine isz_exc T.e_NoPrime he s1 ((T.kit "NoPrime" (by decide) "NoFit" (by decide)).trans (by decide +kernel : _ = some false)) ⟨l, _, _, rfl, rfl, upd_same, by show 3 < sizeLine; decide, ?_⟩
        rw [upd_upd]
        have s2 := same_upd (o := .lst ([.bl true, .bl false, .bl false] ++ [.bl false])) nl
        have hl : SqL K (upd H l (.lst ([.bl true, .bl false, .bl false] ++ [.bl false]))) l ([true, false, false, false].map V.bl) := .inl (.inl upd_same)
        refine ⟨_, rfl, .inl ⟨rfl, _, hl⟩, l, [true, false, false, false], true, rfl, rfl, hl, ?_⟩
        refine ⟨rfl, _, rfl, ?_⟩
        refine (if_neg (by decide)).mpr ?_
        refine ⟨_, rfl, ?_⟩
        try walk_at "rd"
        refine isz_excT T.e_NoPrime he s2 (T.kitV "NoPrime" (by decide)) ⟨_, rfl, ?_⟩
        refine (if_neg (by decide)).mpr ?_
        refine ⟨by show 4 ≤ sizeLine; decide, fun t nt => ?_⟩
        have s3 := same_upd (o := .lst [.str "prime", .str "number", .str "matrix", .str "fit"]) nt
        refine ⟨_, rfl, .inl ⟨rfl, _, s3.seq hl⟩, l, [true, false, false, false].map V.bl, .bl true, 0, .bl true, rfl, rfl, s3.seq hl, rfl, by decide, rfl, by decide, ?_, ?_⟩
        · intro m z hm e
          have : m = 0 ∨ m = 1 ∨ m = 2 := by omega
          rcases this with rfl | rfl | rfl <;> first | omega | (cases e; rfl)
        exact ⟨t, _, 0, .str "prime", rfl, rfl, .inl (.inl upd_same), rfl, q _ (s2.trans s3)⟩
      · refine ⟨_, rfl, ?_⟩
        walk_at "rd"
        refine isz_exc T.e_NoNumber he (Same.refl H) ((T.kit "NoNumber" (by decide) "NoPrime" (by decide)).trans (by decide +kernel : _ = some false)) ⟨_, rfl, ?_⟩
        refine isz_exc T.e_NoNumber he (Same.refl H) ((T.kit "NoNumber" (by decide) "NoNumber" (by decide)).trans (by decide +kernel : _ = some true)) ⟨_, rfl, ?_⟩
        refine isz_exc T.e_NoNumber he (Same.refl H) ((T.kit "NoNumber" (by decide) "NoMatrix" (by decide)).trans (by decide +kernel : _ = some false)) ⟨by show 3 ≤ sizeLine; decide, fun l nl => ?_⟩
        have s1 := same_upd (o := .lst [.bl false, .bl true, .bl false]) nl
        refine ⟨_, rfl, .inl ⟨rfl, _, .inl (.inl upd_same)⟩, _, rfl, ?_⟩
        walk_at "rd"
        refine isz_exc T.e_NoNumber he s1 ((T.kit "NoNumber" (by decide) "NoFit" (by decide)).trans (by decide +kernel : _ = some false)) ⟨l, _, _, rfl, rfl, upd_same, by show 3 < sizeLine; decide, ?_⟩
        rw [upd_upd]
        have s2 := same_upd (o := .lst ([.bl false, .bl true, .bl false] ++ [.bl false])) nl
        have hl : SqL K (upd H l (.lst ([.bl false, .bl true, .bl false] ++ [.bl false]))) l ([false, true, false, false].map V.bl) := .inl (.inl upd_same)
        refine ⟨_, rfl, .inl ⟨rfl, _, hl⟩, l, [false, true, false, false], true, rfl, rfl, hl, ?_⟩
        refine ⟨rfl, _, rfl, ?_⟩
        refine (if_neg (by decide)).mpr ?_
        refine ⟨_, rfl, ?_⟩
        try walk_at "rd"
        refine isz_excT T.e_NoNumber he s2 (T.kitV "NoNumber" (by decide)) ⟨_, rfl, ?_⟩
        refine (if_neg (by decide)).mpr ?_
        refine ⟨by show 4 ≤ sizeLine; decide, fun t nt => ?_⟩
        have s3 := same_upd (o := .lst [.str "prime", .str "number", .str "matrix", .str "fit"]) nt
        refine ⟨_, rfl, .inl ⟨rfl, _, s3.seq hl⟩, l, [false, true, false, false].map V.bl, .bl true, 1, .bl true, rfl, rfl, s3.seq hl, rfl, by decide, rfl, by decide, ?_, ?_⟩
        · intro m z hm e
          have : m = 0 ∨ m = 1 ∨ m = 2 := by omega
          rcases this with rfl | rfl | rfl <;> first | omega | (cases e; rfl)
        exact ⟨t, _, 1, .str "number", rfl, rfl, .inl (.inl upd_same), rfl, q _ (s2.trans s3)⟩
      · refine ⟨_, rfl, ?_⟩
        walk_at "rd"
        refine isz_exc T.e_NoMatrix he (Same.refl H) ((T.kit "NoMatrix" (by decide) "NoPrime" (by decide)).trans (by decide +kernel : _ = some false)) ⟨_, rfl, ?_⟩
        refine isz_exc T.e_NoMatrix he (Same.refl H) ((T.kit "NoMatrix" (by decide) "NoNumber" (by decide)).trans (by decide +kernel : _ = some false)) ⟨_, rfl, ?_⟩
        refine isz_exc T.e_NoMatrix he (Same.refl H) ((T.kit "NoMatrix" (by decide) "NoMatrix" (by decide)).trans (by decide +kernel : _ = some true)) ⟨by show 3 ≤ sizeLine; decide, fun l nl => ?_⟩
        have s1 := same_upd (o := .lst [.bl false, .bl false, .bl true]) nl
        refine ⟨_, rfl, .inl ⟨rfl, _, .inl (.inl upd_same)⟩, _, rfl, ?_⟩
        walk_at "rd"
        refine isz_exc T.e_NoMatrix he s1 ((T.kit "NoMatrix" (by decide) "NoFit" (by decide)).trans (by decide +kernel : _ = some false)) ⟨l, _, _, rfl, rfl, upd_same, by show 3 < sizeLine; decide, ?_⟩
        rw [upd_upd]
        have s2 := same_upd (o := .lst ([.bl false, .bl false, .bl true] ++ [.bl false])) nl
        have hl : SqL K (upd H l (.lst ([.bl false, .bl false, .bl true] ++ [.bl false]))) l ([false, false, true, false].map V.bl) := .inl (.inl upd_same)
        refine ⟨_, rfl, .inl ⟨rfl, _, hl⟩, l, [false, false, true, false], true, rfl, rfl, hl, ?_⟩
        refine ⟨rfl, _, rfl, ?_⟩
        refine (if_neg (by decide)).mpr ?_
        refine ⟨_, rfl, ?_⟩
        try walk_at "rd"
        refine isz_excT T.e_NoMatrix he s2 (T.kitV "NoMatrix" (by decide)) ⟨_, rfl, ?_⟩
        refine (if_neg (by decide)).mpr ?_
        refine ⟨by show 4 ≤ sizeLine; decide, fun t nt => ?_⟩
        have s3 := same_upd (o := .lst [.str "prime", .str "number", .str "matrix", .str "fit"]) nt
        refine ⟨_, rfl, .inl ⟨rfl, _, s3.seq hl⟩, l, [false, false, true, false].map V.bl, .bl true, 2, .bl true, rfl, rfl, s3.seq hl, rfl, by decide, rfl, by decide, ?_, ?_⟩
        · intro m z hm e
          have : m = 0 ∨ m = 1 ∨ m = 2 := by omega
          rcases this with rfl | rfl | rfl <;> first | omega | (cases e; rfl)
        exact ⟨t, _, 2, .str "matrix", rfl, rfl, .inl (.inl upd_same), rfl, q _ (s2.trans s3)⟩
      · refine ⟨_, rfl, ?_⟩
        walk_at "rd"
        refine isz_exc T.e_NoFit he (Same.refl H) ((T.kit "NoFit" (by decide) "NoPrime" (by decide)).trans (by decide +kernel : _ = some false)) ⟨_, rfl, ?_⟩
        refine isz_exc T.e_NoFit he (Same.refl H) ((T.kit "NoFit" (by decide) "NoNumber" (by decide)).trans (by decide +kernel : _ = some false)) ⟨_, rfl, ?_⟩
        refine isz_exc T.e_NoFit he (Same.refl H) ((T.kit "NoFit" (by decide) "NoMatrix" (by decide)).trans (by decide +kernel : _ = some false)) ⟨by show 3 ≤ sizeLine; decide, fun l nl => ?_⟩
        have s1 := same_upd (o := .lst [.bl false, .bl false, .bl false]) nl
        refine ⟨_, rfl, .inl ⟨rfl, _, .inl (.inl upd_same)⟩, _, rfl, ?_⟩
        walk_at "rd"
        refine isz_exc T.e_NoFit he s1 ((T.kit "NoFit" (by decide) "NoFit" (by decide)).trans (by decide +kernel : _ = some true)) ⟨l, _, _, rfl, rfl, upd_same, by show 3 < sizeLine; decide, ?_⟩
        rw [upd_upd]
        have s2 := same_upd (o := .lst ([.bl false, .bl false, .bl false] ++ [.bl true])) nl
        have hl : SqL K (upd H l (.lst ([.bl false, .bl false, .bl false] ++ [.bl true]))) l ([false, false, false, true].map V.bl) := .inl (.inl upd_same)
        refine ⟨_, rfl, .inl ⟨rfl, _, hl⟩, l, [false, false, false, true], true, rfl, rfl, hl, ?_⟩
        refine ⟨rfl, _, rfl, ?_⟩
        refine (if_neg (by decide)).mpr ?_
        refine ⟨_, rfl, ?_⟩
        try walk_at "rd"
        refine isz_excT T.e_NoFit he s2 (T.kitV "NoFit" (by decide)) ⟨_, rfl, ?_⟩
        refine (if_neg (by decide)).mpr ?_
        refine ⟨by show 4 ≤ sizeLine; decide, fun t nt => ?_⟩
        have s3 := same_upd (o := .lst [.str "prime", .str "number", .str "matrix", .str "fit"]) nt
        refine ⟨_, rfl, .inl ⟨rfl, _, s3.seq hl⟩, l, [false, false, false, true].map V.bl, .bl true, 3, .bl true, rfl, rfl, s3.seq hl, rfl, by decide, rfl, by decide, ?_, ?_⟩
        · intro m z hm e
          have : m = 0 ∨ m = 1 ∨ m = 2 := by omega
          rcases this with rfl | rfl | rfl <;> first | omega | (cases e; rfl)
        exact ⟨t, _, 3, .str "fit", rfl, rfl, .inl (.inl upd_same), rfl, q _ (s2.trans s3)⟩
  exact has_of F G T.g__law_refusal (fun _ _ _ _ _ _ us hl => match us, hl with | [_], _ => rfl)
theorem ok__law_told (T : Txt K mg) {fd : FuncData} (F : FnP K "_law_told" s__law_told fd)
    (H_product : HasK P w K mg base (L2.CX P w) 6 "product" P_product 2 ["prime"] (sp_product K))
    (H_plus : HasK P w K mg base (L2.CX P w) 6 "plus" P_plus 2 ["prime"] (sp_plus K))
    (H_times : HasK P w K mg base (L2.CX P w) 6 "times" P_times 2 ["prime"] (sp_times K))
    (H_flipped : HasK P w K mg base (L2.CX P w) 6 "flipped" P_flipped 1 ["prime"] (sp_flipped K))
    (H__law_refusal : Has P w K mg base CX0 1 "_law_refusal" P__law_refusal (sp__law_refusal K)) :
    Has P w K mg base CX0 7 "_law_told" P__law_told (sp__law_told K) := by
  have G : FnOk P w K mg base CX0 7 (He.ga K "_law_told") fd P__law_told (sp__law_told K) := by
    refine F.ok (k := 6) sc__law_told (fun vs H Q E h => ?_) (fun cdv A outer s H vs Q E hr h => ?_)
    · obtain ⟨way, w, c', x, d, y, e, z, f, r, av, rfl, hw, hx, hy, hz, ht, q⟩ := h
      rfl
    · obtain ⟨way, w, c', x, d, y, e, z, f, r, av, rfl, hw, hx, hy, hz, ht, q⟩ := h
      refine ⟨_, (PSs.nox (pss_cons (ps_asg (pe_tup (pa_cons pe_non (pa_cons pe_non pa_nil))) (pg_tup rfl (pgs_cons (pg_name (i := 5) sc__law_told.nd rfl (by first | exact Or.inl rfl | exact Or.inr rfl)) (pgs_cons (pg_name (i := 6) sc__law_told.nd rfl (by first | exact Or.inl rfl | exact Or.inr rfl)) pgs_nil))))
  (C8.pss_cut (ps_try_asK (i := 7) (c := .ref (He.ga K "RoomError")) rfl rfl rfl sc__law_told.nd rfl rfl ⟨rfl, by decide, Or.inl T.g_RoomError⟩ takes0
  (fun W pn xe tk _ => (pss_one (ps_if (pt_cmpR op_eq (pv 0) pe_int (nomark _))
   (pss_one (ps_set (i := 6) sc__law_told.nd rfl (by first | exact Or.inl rfl | exact Or.inr rfl) (pe_hasKS H_product (hr.mono (by decide)) (fun σ => passAt tk σ) (pa_cons (pv 2) (pa_cons (pv 3) pa_nil)) (pk_cons (pv 4) pk_nil)))) (pss_one (ps_if (pt_cmpR op_eq (pv 0) pe_int (nomark _))
   (pss_one (ps_set (i := 6) sc__law_told.nd rfl (by first | exact Or.inl rfl | exact Or.inr rfl) (pe_hasKS H_plus (hr.mono (by decide)) (fun σ => passAt tk σ) (pa_cons (pv 2) (pa_cons (pv 3) pa_nil)) (pk_cons (pv 4) pk_nil)))) (pss_one (ps_if (pt_cmpR op_eq (pv 0) pe_int (nomark _))
   (pss_one (ps_set (i := 6) sc__law_told.nd rfl (by first | exact Or.inl rfl | exact Or.inr rfl) (pe_hasKS H_times (hr.mono (by decide)) (fun σ => passAt tk σ) (pa_cons (pv 1) (pa_cons (pv 2) pa_nil)) (pk_cons (pv 4) pk_nil)))) (pss_one (ps_set (i := 6) sc__law_told.nd rfl (by first | exact Or.inl rfl | exact Or.inr rfl) (pe_hasKS H_flipped (hr.mono (by decide)) (fun σ => passAt tk σ) (pa_cons (pv 2) pa_nil) (pk_cons (pv 4) pk_nil)))))))))))
  (fun a oe cls d pn hz hf => (pss_one (ps_set (i := 5) sc__law_told.nd rfl (by first | exact Or.inl rfl | exact Or.inr rfl) (pv 7)))))
  (pss_one (ps_ret (pe_ifExp (pt_cmpR op_isN (pv 5) pe_non (nomark _)) (pv 6) (pe_has H__law_refusal (hr.mono (by decide)) pass0 (pa_cons (pv 5) pa_nil)))))))), ?_⟩
      refine ⟨sz_le (by simp), fun t0 nt0 => ⟨t0, _, rfl, .inl (.inl upd_same), rfl, _, _, rfl, _, _, rfl, rfl, ?_⟩⟩
      have s0 := same_upd (o := .tup [.non, .non]) nt0
      have hw := hw.same s0
      have hx := hx.same s0
      have hy := hy.same s0
      have hz := hz.same s0
      have q := fun H' v (s : Same (upd H t0 (.tup [.non, .non])) H') => q H' v (s0.trans s)
      generalize upd H t0 (.tup [.non, .non]) = H0 at hw hx hy hz q ⊢
      refine ⟨fun σ F => Same H0 F ∧ ∃ (cv fv : V) (ev : Option V), σ = [some (.int way), some w, some x, some y, some z, some cv, some fv, ev] ∧ ((cv = .non ∧ ∀ av, Da K F av fv r) ∨
         (∃ D t, isExc K F cv D ∧ r = .str t ∧ ((D = "NoPrime" ∧ t = "prime") ∨ (D = "NoNumber" ∧ t = "number") ∨ (D = "NoMatrix" ∧ t = "matrix") ∨ (D = "NoFit" ∧ t = "fit")))), ?_, ?_⟩
      · refine ⟨_, rfl, rfl, _, rfl, ?_⟩
        by_cases w0 : way = 0
        · subst w0
          rw [decide_eq_true rfl]
          refine iteT ?_
          refine ⟨_, rfl, _, rfl, _, rfl, rfl, rfl, x, d, y, e, z, f, av, rfl, hx, hy, hz, fun H1 s1 => ⟨fun c => ?_, fun p ef hp => ?_⟩⟩
          · rcases ht with ⟨_, hr⟩ | ⟨p, ef, hp, _⟩
            · exact ⟨true, T.exm "NoPrime" (by decide), fun z => (nomatch z), fun _ a ha => ⟨_, rfl, s1.trans (same_upd ha), .ref a, _, _, rfl, .inr ⟨"NoPrime", "prime", ⟨a, rfl, upd_same⟩, hr, Or.inl ⟨rfl, rfl⟩⟩⟩⟩
            · subst ef
              exact absurd (show primeN p = false from c) (by rw [hp]; decide)
          have ht := ht.resolve_left (fun h => by rw [ef] at h; exact absurd (show primeN p = false from h.1) (by rw [hp]; decide))
          obtain ⟨p', ef', _, ht⟩ := ht
          rw [ef] at ef'
          injection ef' with ep
          subst ep
          have ht : two3 p d e (g0 p) r := by
            rcases ht with ⟨_, h⟩ | ⟨h, _⟩ | ⟨h, _⟩ | ⟨h, _⟩
            · exact h
            · omega
            · omega
            · omega
          refine ⟨fun c => ?_, fun a m m' k rows lines ed ok1 ee ok2 => ?_⟩
          · rcases ht with ⟨_, hr⟩ | ⟨a, m, m', k, rows, lines, ed, ok1, ee, ok2, _⟩
            · exact ⟨true, T.exm "NoMatrix" (by decide), fun z => (nomatch z), fun _ a ha => ⟨_, rfl, s1.trans (same_upd ha), .ref a, _, _, rfl, .inr ⟨"NoMatrix", "matrix", ⟨a, rfl, upd_same⟩, hr, Or.inr (Or.inr (Or.inl ⟨rfl, rfl⟩))⟩⟩⟩
            · rw [ed, ee, ok1.is, ok2.is] at c
              cases c
          rcases ht with ⟨h, _⟩ | ⟨a', b', m'', k', rows', lines', ed', _, ee', _, hr⟩
          · rw [ed, ee, ok1.is, ok2.is] at h
            cases h
          obtain ⟨rfl, rfl, rfl⟩ := matD_inj (ed.symm.trans ed')
          obtain ⟨rfl, rfl, rfl⟩ := matD_inj (ee.symm.trans ee')
          unfold g0 at hr
          refine ⟨fun c => ?_, fun c v hv => ?_⟩
          · rw [if_neg c] at hr
            have hr := hr.symm
            exact ⟨true, T.exm "NoFit" (by decide), fun z => (nomatch z), fun _ a ha => ⟨_, rfl, s1.trans (same_upd ha), .ref a, _, _, rfl, .inr ⟨"NoFit", "fit", ⟨a, rfl, upd_same⟩, hr, Or.inr (Or.inr (Or.inr ⟨rfl, rfl⟩))⟩⟩⟩
          · rw [if_pos c] at hr
            exact ⟨s1, .non, v, _, rfl, .inl ⟨rfl, fun av => by rw [← hr]; exact hv av⟩⟩
        rw [decide_eq_false (show ¬ V.int way = V.int 0 from fun z => w0 (by injection z))]
        refine iteF ?_
        refine ⟨_, rfl, rfl, _, rfl, ?_⟩
        by_cases w1 : way = 1
        · subst w1
          rw [decide_eq_true rfl]
          refine iteT ?_
          refine ⟨_, rfl, _, rfl, _, rfl, rfl, rfl, x, d, y, e, z, f, av, rfl, hx, hy, hz, fun H1 s1 => ⟨fun c => ?_, fun p ef hp => ?_⟩⟩
          · rcases ht with ⟨_, hr⟩ | ⟨p, ef, hp, _⟩
            · exact ⟨true, T.exm "NoPrime" (by decide), fun z => (nomatch z), fun _ a ha => ⟨_, rfl, s1.trans (same_upd ha), .ref a, _, _, rfl, .inr ⟨"NoPrime", "prime", ⟨a, rfl, upd_same⟩, hr, Or.inl ⟨rfl, rfl⟩⟩⟩⟩
            · subst ef
              exact absurd (show primeN p = false from c) (by rw [hp]; decide)
          have ht := ht.resolve_left (fun h => by rw [ef] at h; exact absurd (show primeN p = false from h.1) (by rw [hp]; decide))
          obtain ⟨p', ef', _, ht⟩ := ht
          rw [ef] at ef'
          injection ef' with ep
          subst ep
          have ht : two3 p d e (g1 p) r := by
            rcases ht with ⟨h, _⟩ | ⟨_, h⟩ | ⟨h, _⟩ | ⟨h, _⟩
            · omega
            · exact h
            · omega
            · omega
          refine ⟨fun c => ?_, fun a m m' k rows lines ed ok1 ee ok2 => ?_⟩
          · rcases ht with ⟨_, hr⟩ | ⟨a, m, m', k, rows, lines, ed, ok1, ee, ok2, _⟩
            · exact ⟨true, T.exm "NoMatrix" (by decide), fun z => (nomatch z), fun _ a ha => ⟨_, rfl, s1.trans (same_upd ha), .ref a, _, _, rfl, .inr ⟨"NoMatrix", "matrix", ⟨a, rfl, upd_same⟩, hr, Or.inr (Or.inr (Or.inl ⟨rfl, rfl⟩))⟩⟩⟩
            · rw [ed, ee, ok1.is, ok2.is] at c
              cases c
          rcases ht with ⟨h, _⟩ | ⟨a', b', m'', k', rows', lines', ed', _, ee', _, hr⟩
          · rw [ed, ee, ok1.is, ok2.is] at h
            cases h
          obtain ⟨rfl, rfl, rfl⟩ := matD_inj (ed.symm.trans ed')
          obtain ⟨rfl, rfl, rfl⟩ := matD_inj (ee.symm.trans ee')
          unfold g1 at hr
          refine ⟨fun c => ?_, fun c v hv => ?_⟩
          · rw [if_neg c] at hr
            have hr := hr.symm
            exact ⟨true, T.exm "NoFit" (by decide), fun z => (nomatch z), fun _ a ha => ⟨_, rfl, s1.trans (same_upd ha), .ref a, _, _, rfl, .inr ⟨"NoFit", "fit", ⟨a, rfl, upd_same⟩, hr, Or.inr (Or.inr (Or.inr ⟨rfl, rfl⟩))⟩⟩⟩
          · rw [if_pos c] at hr
            exact ⟨s1, .non, v, _, rfl, .inl ⟨rfl, fun av => by rw [← hr]; exact hv av⟩⟩
        rw [decide_eq_false (show ¬ V.int way = V.int 1 from fun z => w1 (by injection z))]
        refine iteF ?_
        refine ⟨_, rfl, rfl, _, rfl, ?_⟩
        by_cases w2 : way = 2
        · subst w2
          rw [decide_eq_true rfl]
          refine iteT ?_
          refine ⟨_, rfl, _, rfl, _, rfl, rfl, rfl, w, c', x, d, z, f, av, rfl, hw, hx, hz, fun H1 s1 => ⟨fun c => ?_, fun p ef hp => ?_⟩⟩
          · rcases ht with ⟨_, hr⟩ | ⟨p, ef, hp, _⟩
            · exact ⟨true, T.exm "NoPrime" (by decide), fun z => (nomatch z), fun _ a ha => ⟨_, rfl, s1.trans (same_upd ha), .ref a, _, _, rfl, .inr ⟨"NoPrime", "prime", ⟨a, rfl, upd_same⟩, hr, Or.inl ⟨rfl, rfl⟩⟩⟩⟩
            · subst ef
              exact absurd (show primeN p = false from c) (by rw [hp]; decide)
          have ht := ht.resolve_left (fun h => by rw [ef] at h; exact absurd (show primeN p = false from h.1) (by rw [hp]; decide))
          obtain ⟨p', ef', _, ht⟩ := ht
          rw [ef] at ef'
          injection ef' with ep
          subst ep
          have ht : (whole c' = false ∧ r = .str "number") ∨ ∃ n, c' = .int n ∧ one3 p d (g2 p n) r := by
            rcases ht with ⟨h, _⟩ | ⟨h, _⟩ | ⟨_, h⟩ | ⟨h, _⟩
            · omega
            · omega
            · exact h
            · omega
          refine ⟨fun c => ?_, fun n ec => ⟨fun c => ?_, fun a m rows ed ok1 v hv => ?_⟩⟩
          · rcases ht with ⟨_, hr⟩ | ⟨n, ec, _⟩
            · exact ⟨true, T.exm "NoNumber" (by decide), fun z => (nomatch z), fun _ a ha => ⟨_, rfl, s1.trans (same_upd ha), .ref a, _, _, rfl, .inr ⟨"NoNumber", "number", ⟨a, rfl, upd_same⟩, hr, Or.inr (Or.inl ⟨rfl, rfl⟩)⟩⟩⟩
            · rw [ec] at c
              cases c
          · rcases ht with ⟨h, _⟩ | ⟨n', ec', ⟨_, hr⟩ | ⟨a, m, rows, ed, ok1, _⟩⟩
            · rw [ec] at h
              cases h
            · exact ⟨true, T.exm "NoMatrix" (by decide), fun z => (nomatch z), fun _ a ha => ⟨_, rfl, s1.trans (same_upd ha), .ref a, _, _, rfl, .inr ⟨"NoMatrix", "matrix", ⟨a, rfl, upd_same⟩, hr, Or.inr (Or.inr (Or.inl ⟨rfl, rfl⟩))⟩⟩⟩
            · rw [ed, ok1.is] at c
              cases c
          · rcases ht with ⟨h, _⟩ | ⟨n', ec', ⟨h, _⟩ | ⟨a', m', rows', ed', _, hr⟩⟩
            · rw [ec] at h
              cases h
            · rw [ed, ok1.is] at h
              cases h
            · obtain ⟨rfl, rfl, rfl⟩ := matD_inj (ed.symm.trans ed')
              rw [ec] at ec'
              injection ec' with en
              subst en
              exact ⟨s1, .non, v, _, rfl, .inl ⟨rfl, fun av => by rw [← hr]; exact hv av⟩⟩
        rw [decide_eq_false (show ¬ V.int way = V.int 2 from fun z => w2 (by injection z))]
        refine iteF ?_
        refine ⟨_, rfl, _, rfl, rfl, rfl, x, d, z, f, av, rfl, hx, hz, fun H1 s1 => ⟨fun c => ?_, fun p ef hp => ?_⟩⟩
        · rcases ht with ⟨_, hr⟩ | ⟨p, ef, hp, _⟩
          · exact ⟨true, T.exm "NoPrime" (by decide), fun z => (nomatch z), fun _ a ha => ⟨_, rfl, s1.trans (same_upd ha), .ref a, _, _, rfl, .inr ⟨"NoPrime", "prime", ⟨a, rfl, upd_same⟩, hr, Or.inl ⟨rfl, rfl⟩⟩⟩⟩
          · subst ef
            exact absurd (show primeN p = false from c) (by rw [hp]; decide)
        have ht := ht.resolve_left (fun h => by rw [ef] at h; exact absurd (show primeN p = false from h.1) (by rw [hp]; decide))
        obtain ⟨p', ef', _, ht⟩ := ht
        rw [ef] at ef'
        injection ef' with ep
        subst ep
        have ht : one3 p d g3 r := by
          rcases ht with ⟨h, _⟩ | ⟨h, _⟩ | ⟨h, _⟩ | ⟨_, h⟩
          · omega
          · omega
          · omega
          · exact h
        refine ⟨fun c => ?_, fun a m rows ed h1 h2 h3 h4 v hv => ?_⟩
        · rcases ht with ⟨_, hr⟩ | ⟨a, m, rows, ed, ok1, _⟩
          · exact ⟨true, T.exm "NoMatrix" (by decide), fun z => (nomatch z), fun _ a ha => ⟨_, rfl, s1.trans (same_upd ha), .ref a, _, _, rfl, .inr ⟨"NoMatrix", "matrix", ⟨a, rfl, upd_same⟩, hr, Or.inr (Or.inr (Or.inl ⟨rfl, rfl⟩))⟩⟩⟩
          · rw [ed, ok1.is] at c
            cases c
        · have ok1 : MOk a m rows p := ⟨h1, h2, h3, h4⟩
          rcases ht with ⟨h, _⟩ | ⟨a', m', rows', ed', _, hr⟩
          · rw [ed, ok1.is] at h
            cases h
          · obtain ⟨rfl, rfl, rfl⟩ := matD_inj (ed.symm.trans ed')
            exact ⟨s1, .non, v, _, rfl, .inl ⟨rfl, fun av => by rw [← hr]; exact hv av⟩⟩
      · rintro σ F ⟨sF, cv, fv, ev, rfl, ⟨rfl, hf⟩ | ⟨D, t, he, rfl, hD⟩⟩
        · refine ⟨_, rfl, rfl, _, rfl, ?_⟩
          rw [decide_eq_true rfl]
          refine iteT ?_
          exact ⟨_, rfl, q F fv sF hf⟩
        · obtain ⟨a, rfl, ha⟩ := he
          refine ⟨_, rfl, rfl, _, rfl, ?_⟩
          rw [decide_eq_false (fun z => nomatch z)]
          refine iteF ?_
          refine ⟨_, rfl, ?_⟩
          exact ⟨.ref a, D, t, rfl, ⟨a, rfl, ha⟩, hD, fun H' s => q H' _ (sF.trans s) fun av => .str t⟩
  exact has_of F G T.g__law_told (fun _ _ _ _ _ _ us hl => match us, hl with | [_, _, _, _, _], _ => rfl)
end
end K03

set_option Elab.async false
set_option linter.all false
set_option maxRecDepth 100000
set_option maxHeartbeats 8000000
namespace K03
open PySem PySem.Spec PyProof.Rows L2 XA
section
variable {P : Program} {w : World} {K : PySem.W.Frag} {mg : Str → Option Value} {base : Heap}
theorem ok__law_times (T : Txt K mg) {fd : FuncData} (F : FnP K "_law_times" s__law_times fd) :
    Has P w K mg base CX0 1 "_law_times" P__law_times (sp__law_times K) := by
  have G : FnOk P w K mg base CX0 1 (He.ga K "_law_times") fd P__law_times (sp__law_times K) := by
    refine F.ok (k := 0) sc__law_times (fun vs H Q E h => ?_) (fun cdv A outer s H vs Q E hr h => ?_)
    · obtain ⟨x, y, a, m, k, rows, lines, p, av, rfl, hx, hy, ok1, ok2, hp2, hp97, q⟩ := h
      rfl
    · obtain ⟨x, y, a, m, k, rows, lines, p, av, rfl, hx, hy, ok1, ok2, hp2, hp97, q⟩ := h
      refine ⟨_, (PSs.nox (pss_cons (ps_set (i := 3) sc__law_times.nd rfl (by first | exact Or.inl rfl | exact Or.inr rfl) (pe_lst pa_nil))
  (pss_cons (ps_for PassesOwn.never rfl (pi_tup (pe_ix ix_tup (pv 0) pe_int (fun _ _ => rfl))) (pg_name (i := 4) sc__law_times.nd rfl (by first | exact Or.inl rfl | exact Or.inr rfl))
   (pss_cons (ps_setLc (i := 5) (own := [("at", 6)]) rfl sc__law_times.nd rfl rfl (sw_true rfl rfl rfl (by decide +kernel)) (pi_range1 (by rfl) T.f_range (pa_cons (pe_ix ix_tup (pv 1) pe_int (fun _ _ => rfl)) pa_nil)) (blkOk_by (N := N__law_times) (sc := defScope s__law_times) (by decide +kernel)) (fun _ _ _ _ _ => pg_name (i := 6) (sc__law_times.nd) rfl (by first | exact Or.inl rfl | exact Or.inr rfl)) (fun _ _ _ _ _ => pts_nil) (fun _ _ _ _ _ => (pe_op op_modP (pe_callB (id := "sum") (cr_sumK K (hc := rfl)) (by rfl) T.f_sum (by decide +kernel) (pa_cons (pe_lc (own := [("k", 7)]) rfl sc__law_times.nd (pi_range1 (by rfl) T.f_range (pa_cons (pe_ix (ix_tupK K) (pv 0) pe_int (fun _ _ => rfl)) pa_nil)) (blkOk_by (by show blkC N__law_times (relS _ (defScope s__law_times)) _ _ = true; decide +kernel)) (fun _ _ _ _ _ => pg_name (i := 7) (sc__law_times.nd) rfl (by first | exact Or.inl rfl | exact Or.inr rfl)) (fun _ _ _ _ _ => pts_nil) (fun _ _ _ _ _ => (pe_op op_mul (pe_ix (ix_tupK K) (pv 4) (pv 7) (fun _ _ => rfl)) (pe_ix (ix_tupK K) (pe_ix (ix_tupK K) (pe_ix (ix_tupK K) (pv 1) pe_int (fun _ _ => rfl)) (pv 7) (fun _ _ => rfl)) (pv 6) (fun _ _ => rfl))))) pa_nil)) (pv 2))))
  (pss_one (ps_expr (pe_bm PySem.F.plainAttrs_list PySem.F.slot_list_append PySem.F.type_list_append mt_append (pv 3) (pa_cons (pe_callTy (T := "tuple") call_tuple_of (by rfl) T.f_tuple (by decide +kernel) (pa_cons (pv 5) pa_nil)) pa_nil))))))
  (pss_one (ps_ret (pe_tup (pa_cons (pe_ix ix_tup (pv 0) pe_int (fun _ _ => rfl)) (pa_cons (pe_ix ix_tup (pv 1) pe_int (fun _ _ => rfl)) (pa_cons (pe_callTy (T := "tuple") call_tuple_of (by rfl) T.f_tuple (by decide +kernel) (pa_cons (pv 3) pa_nil)) pa_nil))))))))), ?_⟩
      obtain ⟨b1, n1, ys1, rfl, hS1, hN1, hA1⟩ := matParts hx
      obtain ⟨b2, n2, ys2, rfl, hS2, hN2, hA2⟩ := matParts hy
      have hy1 := hA1.length
      have hy2 := hA2.length
      rw [List.length_map] at hy1 hy2
      obtain ⟨o1, o2, o3, o4⟩ := ok1
      obtain ⟨t1, t2, t3, t4⟩ := ok2
      
      refine ⟨Nat.zero_le _, fun L nL => ?_⟩
      have sL := same_upd (o := .lst []) nL
      have hL : (upd H L (.lst [])) L = some (.lst []) := upd_same
      have qN := q
      have hS1 := Same.seqT sL hS1
      have hS2 := Same.seqT sL hS2
      have hN1 := Same.seqT sL hN1
      have hN2 := Same.seqT sL hN2
      have hA1 := hA1.same sL
      have hA2 := hA2.same sL
      have nLH := nL
      have oldL : ∀ b o, H b = some o → b ≠ L := fun b o e => ne_of_none e nL
      generalize hH0 : upd H L (.lst []) = H0 at hL hS1 hS2 hN1 hN2 hA1 hA2 ⊢
      have keepL : ∀ {F : Hp} {o : HO}, (∀ b u, b ≠ L → H0 b = some u → F b = some u) → (∀ b u, b ≠ L → H0 b = some u → (upd F L o) b = some u) := by
        intro F o h b u nb e
        rw [upd_ne nb]
        exact h b u nb e
      have mvT : ∀ {F : Hp}, (∀ b u, b ≠ L → H0 b = some u → F b = some u) → ∀ {b : Addr} {xs : List V}, SqT K H0 b xs → SqT K F b xs := by
        rintro F h b xs ((e | ⟨o, e⟩) | e)
        · exact .inl (.inl (h _ _ (by rintro rfl; rw [hL] at e; cases e) e))
        · exact .inl (.inr ⟨o, h _ _ (by rintro rfl; rw [hL] at e; cases e) e⟩)
        · exact .inr e
      have mvA : ∀ {F : Hp}, (∀ b u, b ≠ L → H0 b = some u → F b = some u) → ∀ {ys : List V} {rr : List (List Int)}, DaAll K H0 av ys (rr.map rowD) → DaAll K F av ys (rr.map rowD) := by
        intro F h ys rr hh
        exact DaAll.any _ _ (noLs_rows _) ((DaAll.any (av' := L) _ _ (noLs_rows _) hh).oth hL h)
      refine ⟨_, rfl, b1, _, 2, .ref n1, rfl, rfl, hS1, rfl, n1, rfl, ⟨_, hN1⟩, ?_⟩
      refine for_tup (K := K) (a := n1) (xs := ys1) (fun i σ F => ∃ rv lv, σ = [some (.ref b1), some (.ref b2), some (.int p), some (.ref L), rv, lv, none, none] ∧ (∀ b u, b ≠ L → H0 b = some u → F b = some u) ∧
          ∃ vs, F L = some (.lst vs) ∧ DaAll K F av vs ((prodR p k (rows.take i) lines).map rowD))
        ⟨none, none, rfl, fun b u _ e => e, [], hL, .nil⟩ (fun i σ F _ ⟨_, _, _, s, _⟩ => mvT s hN1) ?_ ?_
      · rintro i u σ F hu ⟨rv, lv, rfl, kF, vs, hF, hV⟩
        obtain ⟨row, b, hrow, rfl, hSb⟩ := rowOf (mvA kF hA1) hu
        obtain ⟨w1, w2⟩ := o4 row (List.mem_of_getElem? hrow)
        have hS2F := mvT kF hS2
        have hS1F := mvT kF hS1
        have hN2F := mvT kF hN2
        have hA2F := mvA kF hA2
        refine ⟨_, rfl, b2, _, 1, .int k, rfl, rfl, hS2F, rfl, k, rfl, by omega, by omega, fun D nD => ?_⟩
        refine lc_range (lo := 0) (n := ((k : Nat) : Int).toNat) (fun j G => Same F G ∧ G D = some (.lst (((List.range j).map fun j => ((List.range lines.length).map fun t => row.getD t 0 * (lines.getD t []).getD j 0).sum % p).map V.int))) ⟨same_upd nD, upd_same⟩ ?_ ?_
        · rintro j G hj ⟨sG, hG⟩
          have hj' : j < k := by omega
          refine ⟨rfl, ?_⟩
          refine ⟨_, rfl, b1, _, 1, .int m, rfl, rfl, Same.seqT sG hS1F, rfl, m, rfl, by omega, by omega, fun D2 nD2 => ?_⟩
          refine lc_range (lo := 0) (n := ((m : Nat) : Int).toNat) (fun t G2 => Same G G2 ∧ G2 D2 = some (.lst (((List.range t).map fun t => row.getD t 0 * (lines.getD t []).getD j 0).map V.int))) ⟨same_upd nD2, upd_same⟩ ?_ ?_
          · rintro t G2 ht ⟨sG2, hG2⟩
            have ht' : t < m := by omega
            refine ⟨rfl, ?_⟩
            have s2 := sG.trans sG2
            have hline : lines[t]? = some lines[t] := List.getElem?_eq_getElem (by omega)
            obtain ⟨w3, w4⟩ := t4 lines[t] (List.getElem_mem _)
            obtain ⟨vb, hvb, hdb⟩ := (hA2F.same s2).getD (i := t) (d := rowD lines[t]) (by rw [List.getElem?_map, hline]; rfl)
            obtain ⟨bb, us, rfl, hSbb, hAbb⟩ := (show Da K G2 av vb (.tuple (lines[t].map .int)) from hdb).isTup
            rw [hAbb.isInts] at hSbb
            have at1 : atI (row.map V.int) (0 + (t : Int)) = some (.int (row.getD t 0)) := by
              rw [Int.zero_add]
              refine atI_nat ?_
              rw [List.getElem?_map, List.getElem?_eq_getElem (by omega), List.getD_eq_getElem?_getD, List.getElem?_eq_getElem (by omega)]
              rfl
            have at2 : atI ys2 (0 + (t : Int)) = some (.ref bb) := by
              rw [Int.zero_add]
              exact atI_nat hvb
            have at3 : atI (lines[t].map V.int) (0 + (j : Int)) = some (.int ((lines.getD t []).getD j 0)) := by
              rw [Int.zero_add]
              refine atI_nat ?_
              rw [List.getElem?_map, List.getElem?_eq_getElem (by omega), List.getD_eq_getElem?_getD, List.getD_eq_getElem?_getD, hline]
              show _ = some (V.int ((lines[t][j]?).getD 0))
              rw [List.getElem?_eq_getElem (by omega)]
              rfl
            have hb := w2 (row.getD t 0) (by
              rw [List.getD_eq_getElem?_getD, List.getElem?_eq_getElem (show t < row.length by omega)]
              exact List.getElem_mem _)
            refine ⟨_, rfl, _, rfl, b, _, 0 + (t : Int), _, rfl, rfl, Same.seqT s2 hSb, at1, _, rfl, b2, _, 2, .ref n2, rfl, rfl, Same.seqT s2 hS2F, rfl, _, rfl, n2, _, 0 + (t : Int), .ref bb, rfl, rfl, Same.seqT s2 hN2F, at2,
              _, rfl, bb, _, 0 + (j : Int), _, rfl, rfl, hSbb, at3, row.getD t 0, (lines.getD t []).getD j 0, rfl, rfl, .inl ⟨by omega, by omega⟩, ?_⟩
            refine ⟨_, hG2, lt10 (by rw [List.length_map, List.length_map, List.length_range]; omega), acc_same nD2 sG2 (Same.refl G2), ?_⟩
            rw [upd_same, List.range_succ, List.map_append, List.map_append]
            rfl
          · rintro G2 ⟨sG2, hG2⟩
            rw [Int.toNat_natCast] at hG2
            refine ⟨D2, _, rfl, .inl (.inl hG2), _, rfl, _, p, rfl, rfl, by omega, ?_⟩
            refine ⟨_, sG2 _ _ hG, lt10 (by rw [List.length_map, List.length_map, List.length_range]; omega), acc_same nD sG sG2, ?_⟩
            rw [upd_same, List.range_succ, List.map_append, List.map_append, ← t1]
            rfl
        · rintro G ⟨sG, hG⟩
          rw [Int.toNat_natCast] at hG
          have eD : (List.range k).map (fun j => ((List.range lines.length).map fun t => row.getD t 0 * (lines.getD t []).getD j 0).sum % p) = (dotR k row lines lines.length).map (· % p) := by
            unfold dotR
            rw [List.map_map]
            rfl
          rw [eD] at hG
          have hGL := sG _ _ hF
          refine ⟨_, rfl, .inl ⟨rfl, _, .inl (.inl hGL)⟩, _, rfl, D, _, rfl, .inl ⟨.inl (.inl hG), fun t nt => ?_⟩⟩
          have st := same_upd (o := .tup (((dotR k row lines lines.length).map (· % p)).map V.int)) nt
          have lv := hV.length
          have hlt := (List.getElem?_eq_some_iff.mp hrow).1
          have el : (prodR p k (rows.take i) lines).length = i := by
            unfold prodR
            rw [List.length_map, List.length_take]
            omega
          rw [List.length_map, el] at lv
          have sGt := sG.trans st
          have hTL := sGt _ _ hF
          refine ⟨L, vs, .ref t, rfl, rfl, hTL, lt10 (by omega), ?_⟩
          refine ⟨_, _, rfl, keepL fun b u nb e => sGt _ _ (kF b u nb e), vs ++ [.ref t], upd_same, ?_⟩
          have e : prodR p k (rows.take (i + 1)) lines = prodR p k (rows.take i) lines ++ [(dotR k row lines lines.length).map (· % p)] := by
            unfold prodR
            rw [List.take_add_one, hrow, List.map_append]
            rfl
          rw [e, List.map_append]
          have row1 : Da K (upd G t (.tup (((dotR k row lines lines.length).map (· % p)).map V.int))) av (.ref t) (rowD ((dotR k row lines lines.length).map (· % p))) := Da.newT (DaAll.ints _) nt
          have all := (hV.same sGt).append (.cons row1 .nil)
          have e2 : List.map rowD (prodR p k (rows.take i) lines) ++ [rowD ((dotR k row lines lines.length).map (· % p))] = List.map rowD (prodR p k (rows.take i) lines ++ [(dotR k row lines lines.length).map (· % p)]) := by
            rw [List.map_append]
            rfl
          show DaAll K _ av _ (List.map rowD (prodR p k (rows.take i) lines) ++ [rowD ((dotR k row lines lines.length).map (· % p))])
          rw [e2] at all ⊢
          exact DaAll.any (av := L) _ _ (noLs_rows _) ((DaAll.any (av' := L) _ _ (noLs_rows _) all).grow hTL)
      · rintro σ F ⟨rv, lv, rfl, kF, vs, hF, hV⟩
        rw [hy1, List.take_length] at hV
        refine ⟨_, rfl, b1, _, 0, .int a, rfl, rfl, mvT kF hS1, rfl, _, rfl, b2, _, 1, .int k, rfl, rfl, mvT kF hS2, rfl, _, rfl, L, vs, rfl, .inl ⟨.inl (.inl hF), fun t nt => ?_⟩⟩
        refine ⟨sz_le (by simp), fun w nw => ?_⟩
        have st := (same_upd (o := .tup vs) nt).trans (same_upd (o := .tup [.int a, .int k, .ref t]) nw)
        refine qN _ _ (fun b o e => st _ _ (kF b o (oldL b o e) (by rw [← hH0, upd_ne (oldL b o e)]; exact e))) fun av' => ?_
        refine Da.any (av := av) _ _ (noL_mat _ _ _) ?_
        exact Da.newT (.cons (.int _) (.cons (.int _) (.cons (Da.newT hV nt) .nil))) nw
  exact has_of F G T.g__law_times (fun _ _ _ _ _ _ us hl => match us, hl with | [_, _, _], _ => rfl)
theorem ok__law_due (T : Txt K mg) {fd : FuncData} (F : FnP K "_law_due" s__law_due fd)
    (H__law_times : Has P w K mg base CX0 1 "_law_times" P__law_times (sp__law_times K)) :
    Has P w K mg base CX0 2 "_law_due" P__law_due (sp__law_due K) := by
  have G : FnOk P w K mg base CX0 2 (He.ga K "_law_due") fd P__law_due (sp__law_due K) := by
    refine F.ok (k := 1) sc__law_due (fun vs H Q E h => ?_) (fun cdv A outer s H vs Q E hr h => ?_)
    · obtain ⟨way, n, x, y, a, m, m', k, rows, lines, p, av, rfl, hx, hy, ok1, ok2, hp2, hp97, hw0, hw3, q⟩ := h
      rfl
    · obtain ⟨way, n, x, y, a, m, m', k, rows, lines, p, av, rfl, hx, hy, ok1, ok2, hp2, hp97, hw0, hw3, q⟩ := h
      refine ⟨_, (PSs.nox (pss_cons (ps_if (pt_cmpR op_eq (pv 0) pe_int (nomark _))
   (pss_one (ps_ret (pe_ifExp (pt_cmpR op_eq (pe_ix ix_tup (pv 2) pe_int (fun _ _ => rfl)) (pe_ix ix_tup (pv 3) pe_int (fun _ _ => rfl)) (nomark _)) (pe_has H__law_times (hr.mono (by decide)) pass0 (pa_cons (pv 2) (pa_cons (pv 3) (pa_cons (pv 4) pa_nil)))) pe_str))) pss_nil)
  (pss_cons (ps_if (pt_cmpR op_eq (pv 0) pe_int (nomark _))
   (pss_cons (ps_if (pt_cmpR (op_neD hr.units) (pe_slice sl_tupD (pv 2) po_none (po_some pe_int)) (pe_slice sl_tupD (pv 3) po_none (po_some pe_int)) (nomark _))
   (pss_one (ps_ret pe_str)) pss_nil)
  (pss_cons (ps_setLc (i := 5) (own := [("x", 6), ("y", 7)]) rfl sc__law_due.nd rfl rfl (sw_true rfl rfl rfl (by decide +kernel)) (pi_zipQ false false (by rfl) T.f_zip (pa_cons (pe_ix ix_tup (pv 2) pe_int (fun _ _ => rfl)) (pa_cons (pe_ix ix_tup (pv 3) pe_int (fun _ _ => rfl)) pa_nil))) (blkOk_by (N := N__law_due) (sc := defScope s__law_due) (by decide +kernel)) (fun _ _ _ _ _ => (pg_tupK K (n := 2) (hc := rfl) (hp := (pgs_cons (pg_name (i := 6) sc__law_due.nd rfl (by first | exact Or.inl rfl | exact Or.inr rfl)) (pgs_cons (pg_name (i := 7) sc__law_due.nd rfl (by first | exact Or.inl rfl | exact Or.inr rfl)) pgs_nil))))) (fun _ _ _ _ _ => pts_nil) (fun _ _ _ _ _ => (pe_callTy (T := "tuple") (call_tupOfK K) (by rfl) T.f_tuple (by decide +kernel) (pa_cons (pe_lc (own := [("a", 9), ("b", 10)]) rfl sc__law_due.nd (pi_zipQK false false K (hg := by rfl) (hm := T.f_zip) (ha := (pa_cons (pv 6) (pa_cons (pv 7) pa_nil)))) (blkOk_by (by show blkC N__law_due (relS _ (defScope s__law_due)) _ _ = true; decide +kernel)) (fun _ _ _ _ _ => (pg_tupK K (n := 2) (hc := rfl) (hp := (pgs_cons (pg_name (i := 9) sc__law_due.nd rfl (by first | exact Or.inl rfl | exact Or.inr rfl)) (pgs_cons (pg_name (i := 10) sc__law_due.nd rfl (by first | exact Or.inl rfl | exact Or.inr rfl)) pgs_nil))))) (fun _ _ _ _ _ => pts_nil) (fun _ _ _ _ _ => (pe_op op_modP (pe_op op_add (pv 9) (pv 10)) (pv 4)))) pa_nil))))
  (pss_one (ps_ret (pe_tup (pa_cons (pe_ix ix_tup (pv 2) pe_int (fun _ _ => rfl)) (pa_cons (pe_ix ix_tup (pv 2) pe_int (fun _ _ => rfl)) (pa_cons (pe_callTy (T := "tuple") call_tuple_of (by rfl) T.f_tuple (by decide +kernel) (pa_cons (pv 5) pa_nil)) pa_nil)))))))) pss_nil)
  (pss_cons (ps_if (pt_cmpR op_eq (pv 0) pe_int (nomark _))
   (pss_one (ps_ret (pe_tup (pa_cons (pe_ix ix_tup (pv 2) pe_int (fun _ _ => rfl)) (pa_cons (pe_ix ix_tup (pv 2) pe_int (fun _ _ => rfl)) (pa_cons (pe_callTy (T := "tuple") call_tuple_of (by rfl) T.f_tuple (by decide +kernel) (pa_cons (pe_lc (own := [("row", 11)]) rfl sc__law_due.nd (pi_tup (pe_ix ix_tup (pv 2) pe_int (fun _ _ => rfl))) (blkOk_by (N := N__law_due) (sc := defScope s__law_due) (by decide +kernel)) (fun _ _ _ _ _ => pg_name (i := 11) (sc__law_due.nd) rfl (by first | exact Or.inl rfl | exact Or.inr rfl)) (fun _ _ _ _ _ => pts_nil) (fun _ _ _ _ _ => (pe_callTy (T := "tuple") (call_tupOfK K) (by rfl) T.f_tuple (by decide +kernel) (pa_cons (pe_lc (own := [("a", 9)]) rfl sc__law_due.nd (pi_tupK K (hl := (pv 11))) (blkOk_by (by show blkC N__law_due (relS _ (defScope s__law_due)) _ _ = true; decide +kernel)) (fun _ _ _ _ _ => pg_name (i := 9) (sc__law_due.nd) rfl (by first | exact Or.inl rfl | exact Or.inr rfl)) (fun _ _ _ _ _ => pts_nil) (fun _ _ _ _ _ => (pe_op op_modP (pe_op op_mul (pv 1) (pv 9)) (pv 4)))) pa_nil)))) pa_nil)) pa_nil)))))) pss_nil)
  (pss_one (ps_ret (pe_tup (pa_cons (pe_ix ix_tup (pv 2) pe_int (fun _ _ => rfl)) (pa_cons (pe_ix ix_tup (pv 2) pe_int (fun _ _ => rfl)) (pa_cons (pe_callTy (T := "tuple") call_tuple_of (by rfl) T.f_tuple (by decide +kernel) (pa_cons (pe_lc (own := [("k", 8)]) rfl sc__law_due.nd (pi_range1 (by rfl) T.f_range (pa_cons (pe_ix ix_tup (pv 2) pe_int (fun _ _ => rfl)) pa_nil)) (blkOk_by (N := N__law_due) (sc := defScope s__law_due) (by decide +kernel)) (fun _ _ _ _ _ => pg_name (i := 8) (sc__law_due.nd) rfl (by first | exact Or.inl rfl | exact Or.inr rfl)) (fun _ _ _ _ _ => pts_nil) (fun _ _ _ _ _ => (pe_callTy (T := "tuple") (call_tupOfK K) (by rfl) T.f_tuple (by decide +kernel) (pa_cons (pe_lc (own := [("row", 11)]) rfl sc__law_due.nd (pi_tupK K (hl := (pe_ix (ix_tupK K) (pv 2) pe_int (fun _ _ => rfl)))) (blkOk_by (by show blkC N__law_due (relS _ (defScope s__law_due)) _ _ = true; decide +kernel)) (fun _ _ _ _ _ => pg_name (i := 11) (sc__law_due.nd) rfl (by first | exact Or.inl rfl | exact Or.inr rfl)) (fun _ _ _ _ _ => pts_nil) (fun _ _ _ _ _ => (pe_ix (ix_tupK K) (pv 11) (pv 8) (fun _ _ => rfl)))) pa_nil)))) pa_nil)) pa_nil)))))))))), ?_⟩
      obtain ⟨b1, n1, ys1, rfl, hS1, hN1, hA1⟩ := matParts hx
      obtain ⟨b2, n2, ys2, rfl, hS2, hN2, hA2⟩ := matParts hy
      have hy1 := hA1.length
      have hy2 := hA2.length
      rw [List.length_map] at hy1 hy2
      obtain ⟨o1, o2, o3, o4⟩ := ok1
      obtain ⟨t1, t2, t3, t4⟩ := ok2
      
      by_cases w0 : way = 0
      · subst w0
        refine ⟨_, rfl, rfl, _, rfl, ?_⟩
        rw [decide_eq_true rfl]
        refine iteT ?_
        refine ⟨_, rfl, b1, _, 1, .int m, rfl, rfl, hS1, rfl, _, rfl, b2, _, 0, .int m', rfl, rfl, hS2, rfl, rfl, _, rfl, ?_⟩
        have q' := q
        unfold due3 g0 at q'
        rw [if_pos rfl] at q'
        by_cases em : m = m'
        · subst em
          rw [if_pos rfl] at q'
          rw [decide_eq_true rfl]
          refine iteT ?_
          exact ⟨_, rfl, _, rfl, _, rfl, .ref b1, .ref b2, a, m, k, rows, lines, p, av, rfl, hx, hy, ⟨o1, o2, o3, o4⟩, ⟨t1, t2, t3, t4⟩, hp2, hp97, q'⟩
        · rw [if_neg em] at q'
          rw [decide_eq_false (show ¬ V.int (m : Int) = V.int (m' : Int) from fun z => em (by injection z with z; omega))]
          refine iteF ?_
          exact q' _ _ (Same.refl H) fun av => .str _
      refine ⟨_, rfl, rfl, _, rfl, ?_⟩
      rw [decide_eq_false (show ¬ V.int way = V.int 0 from fun z => w0 (by injection z))]
      refine iteF ?_
      refine ⟨_, rfl, rfl, _, rfl, ?_⟩
      by_cases w1 : way = 1
      · subst w1
        rw [decide_eq_true rfl]
        refine iteT ?_
        have q' := q
        unfold due3 g1 at q'
        rw [if_neg (by decide), if_pos rfl] at q'
        refine ⟨_, rfl, 2, rfl, b1, _, rfl, hS1, fun c1 G1 u1 hc1 => ?_⟩
        refine ⟨_, rfl, 2, rfl, b2, _, rfl, Same.seqT u1 hS2, fun c2' G2 u2 hc2 => ?_⟩
        have u12 := u1.trans u2
        refine ⟨.tuple [.int a, .int m], .tuple [.int m', .int k], .tup (Same.seqT u2 hc1) (.cons (.int _) (.cons (.int _) .nil)), .tup hc2 (.cons (.int _) (.cons (.int _) .nil)), rfl, rfl, _, rfl, ?_⟩
        have ev : PyData.eqv (.tuple [.int a, .int m]) (.tuple [.int m', .int k]) = decide (a = m' ∧ m = k) := by
          show ((a : Int) == (m' : Int) && ((m : Int) == (k : Int) && true)) = _
          rw [Bool.and_true, Bool.eq_iff_iff, Bool.and_eq_true, beq_iff_eq, beq_iff_eq, decide_eq_true_iff]
          omega
        rw [ev]
        by_cases em : a = m' ∧ m = k
        rotate_left
        · rw [decide_eq_false em]
          refine iteT ?_
          rw [if_neg em] at q'
          exact q' _ _ u12 fun av => .str _
        rw [decide_eq_true em]
        refine iteF ?_
        rw [if_pos em] at q'
        obtain ⟨rfl, rfl⟩ := em
        have hS1 := Same.seqT u12 hS1
        have hS2 := Same.seqT u12 hS2
        have hN1 := Same.seqT u12 hN1
        have hN2 := Same.seqT u12 hN2
        have hA1 := hA1.same u12
        have hA2 := hA2.same u12
        generalize hz : plusR p rows lines = zs at q'
        have hzl : zs.length = a := by rw [← hz]; unfold plusR; rw [List.length_zipWith, o1, t1, Nat.min_self]
        refine ⟨_, rfl, b1, _, 2, .ref n1, rfl, rfl, hS1, rfl, _, rfl, b2, _, 2, .ref n2, rfl, rfl, hS2, rfl, n1, n2, _, _, rfl, hN1, hN2, fun D nD => ?_⟩
        refine lc_zipQ (b := false) (c := false) (K := K) (l := n1) (m := n2) (xs := ys1) (ys := ys2) (by omega) (fun i G => Same G2 G ∧ ∃ vs, G D = some (.lst vs) ∧ DaAll K G D vs ((zs.take i).map rowD)) ⟨same_upd nD, [], upd_same, .nil⟩
          (fun i G _ z => ⟨Same.seqT z.1 hN1, Same.seqT z.1 hN2⟩) ?_ ?_
        · rintro i u v t G hu hv ⟨sG, vs, hG, hV⟩ nt
          obtain ⟨row, bb, hrow, rfl, hSb⟩ := rowOf (hA1.same sG) hu
          obtain ⟨line, bc, hline, rfl, hSc⟩ := rowOf (hA2.same sG) hv
          obtain ⟨w1, w2⟩ := o4 row (List.mem_of_getElem? hrow)
          obtain ⟨w3, w4⟩ := t4 line (List.mem_of_getElem? hline)
          have st := same_upd (o := .tup [V.ref bb, .ref bc]) nt
          refine ⟨t, _, rfl, .inl (.inl upd_same), rfl, _, _, rfl, _, _, rfl, rfl, rfl, ?_⟩
          have hSb := Same.seqT st hSb
          have hSc := Same.seqT st hSc
          have gD := st _ _ hG
          generalize upd G t (.tup [V.ref bb, .ref bc]) = G3 at st hSb hSc gD ⊢
          generalize hs : sumR p row line = ss
          have hsl : ss.length = row.length := by rw [← hs]; unfold sumR; rw [List.length_zipWith, w1, w3, Nat.min_self]
          refine ⟨_, rfl, _, rfl, bb, bc, _, _, rfl, hSb, hSc, fun E nE => ?_⟩
          refine lc_zipQ (b := false) (c := false) (K := K) (l := bb) (m := bc) (xs := row.map V.int) (ys := line.map V.int) (by rw [List.length_map, List.length_map, w1, w3]) (fun j F => Same G3 F ∧ F E = some (.lst ((ss.take j).map V.int))) ⟨same_upd nE, upd_same⟩
            (fun j F _ z => ⟨Same.seqT z.1 hSb, Same.seqT z.1 hSc⟩) ?_ ?_
          · rintro j u v t F hu hv ⟨sF, hF⟩ nt
            obtain ⟨x, hx, rfl⟩ := mapInt hu
            obtain ⟨y, hy, rfl⟩ := mapInt hv
            have st := same_upd (o := .tup [V.int x, .int y]) nt
            refine ⟨t, _, rfl, .inl (.inl upd_same), rfl, _, _, rfl, _, _, rfl, rfl, rfl, ?_⟩
            have hsj : ss[j]? = some ((x + y) % p) := by
              rw [← hs]
              unfold sumR
              rw [List.getElem?_zipWith, hx, hy]
            have hlt := (List.getElem?_eq_some_iff.mp hx).1
            refine ⟨_, rfl, _, rfl, x, y, rfl, rfl, _, rfl, x + y, p, rfl, rfl, by omega, ?_⟩
            refine ⟨_, st _ _ hF, lt10 (by rw [List.length_map, List.length_take]; omega), acc_same nE sF st, ?_⟩
            rw [upd_same, List.take_add_one, hsj, List.map_append]
            rfl
          · rintro F ⟨sF, hF⟩
            rw [List.length_map, ← hsl, List.take_length] at hF
            refine ⟨E, _, rfl, .inl ⟨.inl (.inl hF), fun w nw => ?_⟩⟩
            have sw := same_upd (o := .tup (ss.map V.int)) nw
            have hzi : zs[i]? = some ss := by
              rw [← hz, ← hs]
              unfold plusR
              rw [List.getElem?_zipWith, hrow, hline]
            have hlt := (List.getElem?_eq_some_iff.mp hrow).1
            have lv := hV.length
            rw [List.length_map, List.length_take] at lv
            have stF := (st.trans sF).trans sw
            have gD2 := stF _ _ hG
            refine ⟨vs, gD2, lt10 (by omega), acc_same nD sG stF, vs ++ [.ref w], upd_same, ?_⟩
            rw [List.take_add_one, hzi, List.map_append]
            refine DaAll.append ((hV.same stF).grow gD2) (.cons (Da.grow (ps := vs) ?_ gD2) .nil)
            exact Da.newT (DaAll.ints _) nw
        rintro G ⟨sG, vs, hG, hV⟩
        rw [show ys1.length = zs.length by omega, List.take_length] at hV
        refine ⟨_, rfl, b1, _, 0, .int a, rfl, rfl, Same.seqT sG hS1, rfl, _, rfl, b1, _, 1, .int m, rfl, rfl, Same.seqT sG hS1, rfl, _, rfl, D, vs, rfl, .inl ⟨.inl (.inl hG), fun t nt => ?_⟩⟩
        refine ⟨sz_le (by simp), fun w nw => ?_⟩
        refine q' _ _ (((u12.trans sG).trans (same_upd nt)).trans (same_upd nw)) fun av => ?_
        refine Da.any (av := D) _ _ (noL_mat _ _ _) ?_
        exact Da.newT (.cons (.int _) (.cons (.int _) (.cons (Da.newT hV nt) .nil))) nw
      rw [decide_eq_false (show ¬ V.int way = V.int 1 from fun z => w1 (by injection z))]
      refine iteF ?_
      refine ⟨_, rfl, rfl, _, rfl, ?_⟩
      by_cases w2 : way = 2
      · subst w2
        rw [decide_eq_true rfl]
        refine iteT ?_
        have q' := q
        unfold due3 g2 at q'
        rw [if_neg (by decide), if_neg (by decide), if_pos rfl] at q'
        refine ⟨_, rfl, b1, _, 0, .int a, rfl, rfl, hS1, rfl, _, rfl, b1, _, 1, .int m, rfl, rfl, hS1, rfl, _, rfl, b1, _, 2, .ref n1, rfl, rfl, hS1, rfl, n1, rfl, ⟨_, hN1⟩, fun D nD => ?_⟩
        refine lc_tup (K := K) (a := n1) (xs := ys1) (fun i G => Same H G ∧ ∃ vs, G D = some (.lst vs) ∧ DaAll K G D vs ((timesR p n (rows.take i)).map rowD)) ⟨same_upd nD, [], upd_same, .nil⟩ (fun i G _ z => Same.seqT z.1 hN1) ?_ ?_
        · rintro i u G hu ⟨sG, vs, hG, hV⟩
          obtain ⟨row, b, hrow, rfl, hSb⟩ := rowOf (hA1.same sG) hu
          obtain ⟨w1, w2⟩ := o4 row (List.mem_of_getElem? hrow)
          refine ⟨rfl, ?_⟩
          refine ⟨_, rfl, b, rfl, ⟨_, hSb⟩, fun E nE => ?_⟩
          refine lc_tup (K := K) (a := b) (xs := row.map V.int) (fun j F => Same G F ∧ F E = some (.lst (((row.take j).map fun x => n * x % p).map V.int))) ⟨same_upd nE, upd_same⟩ (fun j F _ z => Same.seqT z.1 hSb) ?_ ?_
          · rintro j u F hu ⟨sF, hF⟩
            obtain ⟨y, hy, rfl⟩ := mapInt hu
            have hlt := (List.getElem?_eq_some_iff.mp hy).1
            obtain ⟨y0, y1⟩ := w2 y (List.mem_of_getElem? hy)
            refine ⟨rfl, ?_⟩
            refine ⟨_, rfl, _, rfl, n, y, rfl, rfl, .inr ⟨by omega, by omega⟩, _, rfl, n * y, p, rfl, rfl, by omega, ?_⟩
            refine ⟨_, hF, lt10 (by rw [List.length_map, List.length_map, List.length_take]; omega), acc_same nE sF (Same.refl F), ?_⟩
            rw [upd_same, List.take_add_one, hy, List.map_append, List.map_append]
            rfl
          · rintro F ⟨sF, hF⟩
            rw [List.length_map, List.take_length] at hF
            refine ⟨E, _, rfl, .inl ⟨.inl (.inl hF), fun t nt => ?_⟩⟩
            have st := same_upd (o := .tup ((row.map fun x => n * x % p).map V.int)) nt
            have sGt := sF.trans st
            have hlt := (List.getElem?_eq_some_iff.mp hrow).1
            have lv := hV.length
            have el : (timesR p n (rows.take i)).length = i := by
              unfold timesR
              rw [List.length_map, List.length_take]
              omega
            rw [List.length_map, el] at lv
            have gD := sGt _ _ hG
            refine ⟨vs, gD, lt10 (by omega), acc_same nD (sG.trans sF) st, vs ++ [.ref t], upd_same, ?_⟩
            have e : timesR p n (rows.take (i + 1)) = timesR p n (rows.take i) ++ [row.map fun x => n * x % p] := by
              unfold timesR
              rw [List.take_add_one, hrow, List.map_append]
              rfl
            rw [e, List.map_append]
            refine DaAll.append ((hV.same sGt).grow gD) (.cons (Da.grow (ps := vs) ?_ gD) .nil)
            exact Da.newT (DaAll.ints _) nt
        rintro G ⟨sG, vs, hG, hV⟩
        rw [hy1, List.take_length] at hV
        refine ⟨D, vs, rfl, .inl ⟨.inl (.inl hG), fun t nt => ?_⟩⟩
        refine ⟨sz_le (by simp), fun w nw => ?_⟩
        refine q' _ _ ((sG.trans (same_upd nt)).trans (same_upd nw)) fun av => ?_
        refine Da.any (av := D) _ _ (noL_mat _ _ _) ?_
        exact Da.newT (.cons (.int _) (.cons (.int _) (.cons (Da.newT hV nt) .nil))) nw
      rw [decide_eq_false (show ¬ V.int way = V.int 2 from fun z => w2 (by injection z))]
      refine iteF ?_
      have q' := q
      unfold due3 g3 at q'
      rw [if_neg w0, if_neg w1, if_neg w2] at q'
      refine ⟨_, rfl, b1, _, 1, .int m, rfl, rfl, hS1, rfl, _, rfl, b1, _, 0, .int a, rfl, rfl, hS1, rfl, _, rfl, b1, _, 1, .int m, rfl, rfl, hS1, rfl, m, rfl, by omega, by omega, fun D nD => ?_⟩
      refine lc_range (lo := 0) (n := ((m : Nat) : Int).toNat) (fun i G => Same H G ∧ ∃ vs, G D = some (.lst vs) ∧ DaAll K G D vs (((flipR m rows).take i).map rowD)) ⟨same_upd nD, [], upd_same, .nil⟩ ?_ ?_
      · rintro i G hi ⟨sG, vs, hG, hV⟩
        have hi' : i < m := by omega
        refine ⟨rfl, ?_⟩
        have hNG := Same.seqT sG hN1
        refine ⟨_, rfl, b1, _, 2, .ref n1, rfl, rfl, Same.seqT sG hS1, rfl, n1, rfl, ⟨_, hNG⟩, fun E nE => ?_⟩
        refine lc_tup (K := K) (a := n1) (xs := ys1) (fun j F => Same G F ∧ F E = some (.lst (((rows.take j).map fun row => row.getD i 0).map V.int))) ⟨same_upd nE, upd_same⟩ (fun j F _ z => Same.seqT z.1 hNG) ?_ ?_
        · rintro j u F hu ⟨sF, hF⟩
          obtain ⟨row, b, hrow, rfl, hSb⟩ := rowOf ((hA1.same sG).same sF) hu
          obtain ⟨w1, w2⟩ := o4 row (List.mem_of_getElem? hrow)
          have hat : atI (row.map V.int) (0 + (i : Int)) = some (.int (row.getD i 0)) := by
            rw [Int.zero_add]
            refine atI_nat ?_
            rw [List.getElem?_map, List.getElem?_eq_getElem (by omega), List.getD_eq_getElem?_getD, List.getElem?_eq_getElem (by omega)]
            rfl
          refine ⟨rfl, ?_⟩
          refine ⟨_, rfl, _, rfl, b, _, 0 + (i : Int), _, rfl, rfl, hSb, hat, ?_⟩
          have hlt := (List.getElem?_eq_some_iff.mp hrow).1
          refine ⟨_, hF, lt10 (by rw [List.length_map, List.length_map, List.length_take]; omega), acc_same nE sF (Same.refl F), ?_⟩
          rw [upd_same, List.take_add_one, hrow, List.map_append, List.map_append]
          rfl
        · rintro F ⟨sF, hF⟩
          rw [hy1, List.take_length] at hF
          have hrow : (flipR m rows)[i]? = some (rows.map fun row => row.getD i 0) := by
            unfold flipR
            rw [List.getElem?_map, List.getElem?_range hi']
            rfl
          refine ⟨E, _, rfl, .inl ⟨.inl (.inl hF), fun t nt => ?_⟩⟩
          have st := same_upd (o := .tup ((rows.map fun row => row.getD i 0).map V.int)) nt
          have sGt := sF.trans st
          have lenV := hV.length
          rw [List.length_map, List.length_take] at lenV
          have gD := sGt _ _ hG
          refine ⟨vs, gD, lt10 (by omega), acc_same nD (sG.trans sF) st, vs ++ [.ref t], upd_same, ?_⟩
          rw [List.take_add_one, hrow, List.map_append]
          refine DaAll.append ((hV.same sGt).grow gD) (.cons (Da.grow (ps := vs) ?_ gD) .nil)
          exact Da.newT (DaAll.ints _) nt
      · rintro G ⟨sG, vs, hG, hV⟩
        rw [Int.toNat_natCast] at hV
        rw [List.take_of_length_le (by unfold flipR; rw [List.length_map, List.length_range]; exact Nat.le_refl _)] at hV
        refine ⟨D, vs, rfl, .inl ⟨.inl (.inl hG), fun t nt => ?_⟩⟩
        refine ⟨sz_le (by simp), fun w nw => ?_⟩
        refine q' _ _ ((sG.trans (same_upd nt)).trans (same_upd nw)) fun av => ?_
        refine Da.any (av := D) _ _ (noL_mat _ _ _) ?_
        exact Da.newT (.cons (.int _) (.cons (.int _) (.cons (Da.newT hV nt) .nil))) nw
  exact has_of F G T.g__law_due (fun _ _ _ _ _ _ us hl => match us, hl with | [_, _, _, _, _], _ => rfl)
end
end K03

set_option Elab.async false
set_option linter.all false
set_option maxRecDepth 100000
set_option maxHeartbeats 8000000
namespace K03
open PySem PySem.Spec PyProof.Rows L2 XA

theorem _root_.XA.Oth.seqTP {K : PySem.W.Frag} {H H' : Hp} {pen c a : Addr} {n : Int} {xs : List V} (e : Oth H H' pen) (P : PenC H pen c n) (h : SqT K H a xs) : SqT K H' a xs := by
  obtain ⟨ps, hp⟩ := P.lst
  exact Oth.seqT e hp h
def sp__law_wrong_number (K : PySem.W.Frag) : Sp := fun vs H Q _ => ∃ (pen c : Addr) (sv : V) (a m : Nat) (rows : List (List Int)) (p n : Int) (av : Addr), vs = [.ref pen, sv, .int p] ∧ PenC H pen c n ∧ n ≤ 9000 ∧ Da K H av sv (.tuple [matD a m rows]) ∧ MOk a m rows p ∧ a ≤ 10 ∧ m ≤ 10 ∧ 2 ≤ p ∧ p ≤ 97 ∧
  (∀ H', Oth H H' pen → PenC H' pen c (n + 10) → Q .non H') ∧ ∀ H' v d, Oth H H' pen → PenC H' pen c (n + 10) → (∀ av, Da K H' av v (.tuple [d])) → noL d = true → isMatD d p = false → Q v H'
theorem isRow_bad {ds : List PyData} {d : PyData} {j p : Int} (hm : d ∈ ds) (h : wholeTo d (p - 1) = false) : isRowD (.tuple ds) j p = false := by
  show (decide ((ds.length : Int) = j) && ds.all (fun x => wholeTo x (p - 1))) = false
  rw [Bool.and_eq_false_iff]
  refine .inr ?_
  rw [List.all_eq_false]
  exact ⟨d, hm, by rw [h]; decide⟩
theorem isMat_bad {ds : List PyData} {d : PyData} {i j p : Int} (hm : d ∈ ds) (h : isRowD d j p = false) : isMatD (.tuple [.int i, .int j, .tuple ds]) p = false := by
  show (decide (0 ≤ i ∧ i ≤ 2000) && (decide (0 ≤ j ∧ j ≤ 2000) && (decide ((ds.length : Int) = i) && ds.all (fun row => isRowD row j p)))) = false
  have e : ds.all (fun row => isRowD row j p) = false := by
    rw [List.all_eq_false]
    exact ⟨d, hm, by rw [h]; decide⟩
  rw [e, Bool.and_false, Bool.and_false, Bool.and_false]
theorem noL_mem {ds : List PyData} (h : noLs ds = true) : ∀ d ∈ ds, noL d = true := by
  induction ds with
  | nil => intro d hd; cases hd
  | cons a r ih =>
    intro d hd
    have h2 : (noL a && noLs r) = true := by simpa only [noLs] using h
    rw [Bool.and_eq_true] at h2
    rcases List.mem_cons.mp hd with e | hd
    · rw [e]; exact h2.1
    · exact ih h2.2 d hd
theorem cutD_sub {ds : List PyData} {lo hi : Option Int} {d : PyData} (h : d ∈ cutD ds lo hi) : d ∈ ds := List.mem_of_mem_drop (List.mem_of_mem_take h)
theorem cutV_len (xs : List V) (lo hi : Option Int) : (cutV xs lo hi).length ≤ xs.length := by
  unfold cutV
  rw [List.length_take, List.length_drop]
  omega
section
variable {P : Program} {w : World} {K : PySem.W.Frag} {mg : Str → Option Value} {base : Heap}
theorem ok__law_wrong_number (T : Txt K mg) {fd : FuncData} (F : FnP K "_law_wrong_number" s__law_wrong_number fd)
    (H__law_take : Has P w K mg base CX0 2 "_law_take" P__law_take sp__law_take)
    (H__law_one : Has P w K mg base CX0 3 "_law_one" P__law_one (sp__law_one K)) :
    Has P w K mg base CX0 4 "_law_wrong_number" P__law_wrong_number (sp__law_wrong_number K) := by
  have G : FnOk P w K mg base CX0 4 (He.ga K "_law_wrong_number") fd P__law_wrong_number (sp__law_wrong_number K) := by
    refine F.ok (k := 3) sc__law_wrong_number (fun vs H Q E h => ?_) (fun cdv A outer s H vs Q E hr h => ?_)
    · obtain ⟨pen, c, sv, a, m, rows, p, n, av, rfl, hp, hn, hx, ok, ha10, hm10, hp2, hp97, q0, q1⟩ := h
      rfl
    · obtain ⟨pen, c, sv, a, m, rows, p, n, av, rfl, hp, hn, hx, ok, ha10, hm10, hp2, hp97, q0, q1⟩ := h
      refine ⟨_, (PSs.nox (pss_cons (ps_setLc (i := 3) (own := [("at", 4), ("one", 13)]) rfl sc__law_wrong_number.nd rfl rfl (sw_true rfl rfl rfl (by decide +kernel)) (pi_enumT (by rfl) T.f_enumerate (pa_cons (pv 1) pa_nil)) (blkOk_by (N := N__law_wrong_number) (sc := defScope s__law_wrong_number) (by decide +kernel)) (fun _ _ _ _ _ => (pg_tupK K (n := 2) (hc := rfl) (hp := (pgs_cons (pg_name (i := 4) sc__law_wrong_number.nd rfl (by first | exact Or.inl rfl | exact Or.inr rfl)) (pgs_cons (pg_name (i := 13) sc__law_wrong_number.nd rfl (by first | exact Or.inl rfl | exact Or.inr rfl)) pgs_nil))))) (fun _ _ _ _ _ => (pts_one (pt_cmpR op_gt (pe_op op_mul (pe_ix (ix_tupK K) (pv 13) pe_int (fun _ _ => rfl)) (pe_ix (ix_tupK K) (pv 13) pe_int (fun _ _ => rfl))) pe_int (nomark _)))) (fun _ _ _ _ _ => (pv 4)))
  (pss_cons (ps_if (pt_cmpR (op_eqD hr.units) (pv 3) (pe_lst pa_nil) (nomark _))
   (pss_one (ps_ret pe_non)) pss_nil)
  (pss_cons (ps_set (i := 4) sc__law_wrong_number.nd rfl (by first | exact Or.inl rfl | exact Or.inr rfl) (pe_has H__law_one (hr.mono (by decide)) pass0 (pa_cons (pv 0) (pa_cons (pv 3) pa_nil))))
  (pss_cons (ps_asg (pe_ix ix_tup (pv 1) (pv 4) (fun _ _ => rfl)) (pg_tup rfl (pgs_cons (pg_name (i := 5) sc__law_wrong_number.nd rfl (by first | exact Or.inl rfl | exact Or.inr rfl)) (pgs_cons (pg_name (i := 6) sc__law_wrong_number.nd rfl (by first | exact Or.inl rfl | exact Or.inr rfl)) (pgs_cons (pg_name (i := 7) sc__law_wrong_number.nd rfl (by first | exact Or.inl rfl | exact Or.inr rfl)) pgs_nil)))))
  (pss_cons (ps_par (i := 8) (j := 9) (by rfl) sc__law_wrong_number.nd rfl rfl (by decide) rfl rfl (pa_cons (pe_has H__law_take (hr.mono (by decide)) pass0 (pa_cons (pv 0) (pa_cons (pv 5) pa_nil))) (pa_cons (pe_has H__law_take (hr.mono (by decide)) pass0 (pa_cons (pv 0) (pa_cons (pv 6) pa_nil))) pa_nil)) (by rfl))
  (pss_cons (ps_set (i := 10) sc__law_wrong_number.nd rfl (by first | exact Or.inl rfl | exact Or.inr rfl) (pe_has H__law_one (hr.mono (by decide)) pass0 (pa_cons (pv 0) (pa_cons (pe_lst (pa_cons (pv 2) (pa_cons (pe_op op_sub pe_int pe_int) (pa_cons pe_bl (pa_cons pe_str (pa_cons pe_non (pa_cons (pe_op op_add (pv 2) pe_int) (pa_cons (pe_tup (pa_cons pe_int pa_nil)) pa_nil)))))))) pa_nil))))
  (pss_cons (ps_set (i := 11) sc__law_wrong_number.nd rfl (by first | exact Or.inl rfl | exact Or.inr rfl) (pe_op op_catD (pe_op op_catD (pe_slice sl_tupD (pe_ix ix_tup (pv 7) (pv 8) (fun _ _ => rfl)) po_none (po_some (pv 9))) (pe_tup (pa_cons (pv 10) pa_nil))) (pe_slice sl_tupD (pe_ix ix_tup (pv 7) (pv 8) (fun _ _ => rfl)) (po_some (pe_op op_add (pv 9) pe_int)) po_none)))
  (pss_cons (ps_set (i := 12) sc__law_wrong_number.nd rfl (by first | exact Or.inl rfl | exact Or.inr rfl) (pe_op op_catD (pe_op op_catD (pe_slice sl_tupD (pv 7) po_none (po_some (pv 8))) (pe_tup (pa_cons (pv 11) pa_nil))) (pe_slice sl_tupD (pv 7) (po_some (pe_op op_add (pv 8) pe_int)) po_none)))
  (pss_one (ps_ret (pe_op op_catD (pe_op op_catD (pe_slice sl_tupD (pv 1) po_none (po_some (pv 4))) (pe_tup (pa_cons (pe_tup (pa_cons (pv 5) (pa_cons (pv 6) (pa_cons (pv 12) pa_nil)))) pa_nil))) (pe_slice sl_tupD (pv 1) (po_some (pe_op op_add (pv 4) pe_int)) po_none))))))))))))), ?_⟩
      obtain ⟨sb, xs1, rfl, hS, hA⟩ := hx.isTup
      have hxl := hA.length
      obtain ⟨x, rfl⟩ : ∃ x, xs1 = [x] := by
        match xs1, hxl with
        | [x], _ => exact ⟨x, rfl⟩
      have hx : Da K H av x (matD a m rows) := by
        cases hA with
        | cons h1 _ => exact h1
      clear hA hxl
      obtain ⟨b, bn, ys, rfl, hSb, hNb, hAb⟩ := matParts hx
      obtain ⟨ok1, ok2, ok3, ok4⟩ := ok
      have hyl := hAb.length
      rw [List.length_map] at hyl
      refine ⟨_, rfl, sb, [.ref b], rfl, hS, fun D nD => ?_⟩
      have eD := hp.new_ne nD
      have sD := same_upd (o := .lst []) nD
      refine lc_enumT (K := K) (a := sb) (xs := [.ref b]) (fun i F => F D = some (.lst (if i = 0 then [] else if (a : Int) * m > 0 then [.int 0] else [])) ∧ Same H F) ⟨upd_same, sD⟩ (fun i F _ h => Same.seqT h.2 hS) ?_ ?_
      · rintro i u t F hu ⟨hF, sF⟩ nt
        obtain rfl : i = 0 := by
          match i, hu with
          | 0, _ => rfl
          | i + 1, h => simp at h
        obtain rfl : u = .ref b := by simpa using hu.symm
        have st := same_upd (o := .tup [.int ((0 : Nat) : Int), .ref b]) nt
        have hSt := Same.seqT (sF.trans st) hSb
        rw [if_pos rfl] at hF
        have hFt := st _ _ hF
        refine ⟨t, _, rfl, .inl (.inl upd_same), rfl, _, _, rfl, _, _, rfl, rfl, rfl, ?_⟩
        refine ⟨_, rfl, b, _, 0, .int a, rfl, rfl, hSt, rfl, _, rfl, b, _, 1, .int m, rfl, rfl, hSt, rfl, (a : Int), (m : Int), rfl, rfl, .inl ⟨by omega, by omega⟩, _, _, rfl, rfl, _, rfl, ?_⟩
        by_cases c0 : (a : Int) * m > 0
        · rw [decide_eq_true c0]
          refine iteT ?_
          refine ⟨_, rfl, _, hFt, by decide, ?_, acc_same nD sF st⟩
          rw [upd_same, if_neg (show ¬ (0 + 1 = 0) by omega), if_pos c0]
          rfl
        · rw [decide_eq_false c0]
          refine iteF ?_
          refine ⟨?_, sF.trans st⟩
          rw [hFt, if_neg (show ¬ (0 + 1 = 0) by omega), if_neg c0]
      rintro F ⟨hF, sF⟩
      rw [if_neg (show ¬ ([V.ref b] : List V).length = 0 by simp)] at hF
      have PF := hp.same sF
      have oF : Oth H F pen := Oth.of_same sF
      refine ⟨_, rfl, sz_le (by simp), fun L nL => ?_⟩
      have sL := same_upd (o := .lst []) nL
      by_cases c0 : (a : Int) * m > 0
      rotate_left
      · rw [if_neg c0] at hF
        refine ⟨.list [], .list [], .lst (.inl (.inl (sL _ _ hF))) .nil, .lst (.inl (.inl upd_same)) .nil, rfl, rfl, _, rfl, ?_⟩
        refine iteT ?_
        exact q0 _ (oF.trans (Oth.of_same sL)) ((PF.same sL).mono (by omega))
      rw [if_pos c0] at hF
      refine ⟨.list [.int 0], .list [], .lst (.inl (.inl (sL _ _ hF))) (.cons (.int _) .nil), .lst (.inl (.inl upd_same)) .nil, rfl, rfl, _, rfl, ?_⟩
      refine iteF ?_
      have ha1 : 1 ≤ a := by
        rcases Nat.eq_zero_or_pos a with e | e
        · subst e
          simp at c0
        · exact e
      have hm1 : 1 ≤ m := by
        rcases Nat.eq_zero_or_pos m with e | e
        · subst e
          simp at c0
        · exact e
      have sHL := sF.trans sL
      refine ⟨_, rfl, _, rfl, pen, c, D, _, n, rfl, PF.same sL, by omega, eD.1, .inl (.inl (sL _ _ hF)), by decide, by decide, fun x hx G0 o0 P0 => ?_⟩
      obtain rfl : x = .int 0 := by simpa using hx
      have oth0 := (Oth.of_same (pen := pen) sHL).trans o0
      have hAp : DaAll K H pen ys (rows.map rowD) := DaAll.any (av' := pen) _ _ (noLs_rows _) hAb
      have hS := oth0.seqTP hp hS
      have hSb := oth0.seqTP hp hSb
      have hNb := oth0.seqTP hp hNb
      have hAp := hAp.othP hp oth0
      clear hAb hx hF sF sL sHL nL PF oF sD nD eD o0
      refine ⟨_, rfl, _, rfl, sb, _, 0, .ref b, rfl, rfl, hS, rfl, b, _, rfl, hSb, rfl, _, _, rfl, _, _, rfl, _, _, rfl, rfl, ?_⟩
      refine ⟨_, rfl, _, rfl, pen, c, a, _, rfl, P0, by omega, by omega, by omega, fun down F1 d0 d1 o1 P1 => ⟨_, rfl, _, rfl, pen, c, m, _, rfl, P1, by omega, by omega, by omega, fun across F2 a0 a1 o2 P2 => ?_⟩⟩
      have o12 := o1.trans o2
      have oH2 := oth0.trans o12
      have hS := o12.seqTP P0 hS
      have hNb := o12.seqTP P0 hNb
      have hAp := hAp.othP P0 o12
      clear hSb
      -- what stands there instead
      refine ⟨_, _, rfl, _, rfl, _, rfl, 0, 1, rfl, rfl, _, rfl, p, 5, rfl, rfl, sz_le (by simp), fun t1 nt1 => ⟨sz_le (by simp), fun l1 nl1 => ?_⟩⟩
      have st1 := same_upd (o := .tup [V.int 0]) nt1
      have xt1 : Da K (upd F2 t1 (.tup [.int 0])) pen (.ref t1) (.tuple [.int 0]) := Da.newT (.cons (.int 0) .nil) nt1
      have P2 := P2.same st1
      have e1 := P2.new_ne nl1
      have hS := Same.seqT st1 hS
      have hNb := Same.seqT st1 hNb
      have hAp := hAp.same st1
      have oH2 := oH2.trans (Oth.of_same st1)
      generalize upd F2 t1 (.tup [V.int 0]) = F3 at xt1 P2 hS hNb hAp oH2 nl1 ⊢
      generalize hX : ([.int p, .int (0 - 1), .bl true, .str (Str.ofString "1"), .non, .int (p + 5), .ref t1] : List V) = X at nl1 ⊢
      have lX : X.length = 7 := by rw [← hX]; rfl
      have sl1 := same_upd (o := .lst X) nl1
      have hXD : DaAll K (upd F3 l1 (.lst X)) pen X [.int p, .int (0 - 1), .bool true, .str (Str.ofString "1"), .none, .int (p + 5), .tuple [.int 0]] := by
        have z : DaAll K F3 pen X [.int p, .int (0 - 1), .bool true, .str (Str.ofString "1"), .none, .int (p + 5), .tuple [.int 0]] := by
          rw [← hX]
          exact .cons (.int _) (.cons (.int _) (.cons (.bl _) (.cons (.str _) (.cons .non (.cons (.int _) (.cons xt1 .nil))))))
        exact z.same sl1
      have hl1 : (upd F3 l1 (.lst X)) l1 = some (.lst X) := upd_same
      have P2 := P2.same sl1
      have hS := Same.seqT sl1 hS
      have hNb := Same.seqT sl1 hNb
      have hAp := hAp.same sl1
      have oH2 := oH2.trans (Oth.of_same sl1)
      generalize upd F3 l1 (.lst X) = F4 at hl1 hXD P2 hS hNb hAp oH2 ⊢
      refine ⟨pen, c, l1, X, _, rfl, P2, by omega, e1.1, .inl (.inl hl1), by omega, by omega, fun odd hodd F5 o5 P5 => ?_⟩
      obtain ⟨dO, mO, hO⟩ := pickD (hXD.othP P2 o5) odd hodd
      have badO : wholeTo dO (p - 1) = false := by
        simp only [List.mem_cons, List.not_mem_nil, or_false] at mO
        rcases mO with rfl | rfl | rfl | rfl | rfl | rfl | rfl
        · exact decide_eq_false (show ¬ (0 ≤ p ∧ p ≤ p - 1) by omega)
        · exact decide_eq_false (show ¬ ((0 : Int) ≤ 0 - 1 ∧ 0 - 1 ≤ p - 1) by omega)
        · rfl
        · rfl
        · rfl
        · exact decide_eq_false (show ¬ (0 ≤ p + 5 ∧ p + 5 ≤ p - 1) by omega)
        · rfl
      have nlO : noL dO = true := by
        simp only [List.mem_cons, List.not_mem_nil, or_false] at mO
        rcases mO with rfl | rfl | rfl | rfl | rfl | rfl | rfl <;> rfl
      have hS := o5.seqTP P2 hS
      have hNb := o5.seqTP P2 hNb
      have hAp := hAp.othP P2 o5
      have oH5 := oH2.trans o5
      clear hXD hl1 hodd oH2 hX lX mO xt1 st1 sl1
      -- the line
      obtain ⟨D, rfl⟩ : ∃ D : Nat, down = D := ⟨down.toNat, by omega⟩
      obtain ⟨B, rfl⟩ : ∃ B : Nat, across = B := ⟨across.toNat, by omega⟩
      obtain ⟨yr, hyr⟩ : ∃ yr, ys[D]? = some yr := ⟨_, List.getElem?_eq_getElem (by omega)⟩
      obtain ⟨row, rb, hrow, rfl, hSr⟩ := rowOf hAp hyr
      have hrl := (ok4 row (List.mem_of_getElem? hrow)).1
      have bigR : ∀ {lo hi : Option Int}, (cutV (row.map V.int) lo hi).length ≤ 10 := by
        intro lo hi
        have := cutV_len (row.map V.int) lo hi
        rw [List.length_map] at this
        omega
      have bigN : ∀ {lo hi : Option Int}, (cutV ys lo hi).length ≤ 10 := by
        intro lo hi
        have := cutV_len ys lo hi
        omega
      refine ⟨_, rfl, _, rfl, bn, _, D, .ref rb, rfl, rfl, hNb, atI_nat hyr, _, rfl, B, rfl, rb, _, rfl, hSr, fun p1 G1 s1 hp1 => ?_⟩
      refine ⟨_, rfl, sz_le (by simp), fun t2 nt2 => ?_⟩
      have st2 := same_upd (o := .tup [odd]) nt2
      refine ⟨p1, t2, _, _, rfl, rfl, Same.seqT st2 hp1, .inl (.inl upd_same), sz_le (by show (cutV (row.map V.int) none (some (B : Int))).length + 1 ≤ 1000; have := bigR (lo := none) (hi := some (B : Int)); omega), fun p2 G2 s2 hp2 => ?_⟩
      have sA := (s1.trans st2).trans s2
      refine ⟨_, rfl, _, rfl, bn, _, D, .ref rb, rfl, rfl, Same.seqT sA hNb, atI_nat hyr, _, rfl, B, 1, rfl, rfl, (B : Int) + 1, rfl, rb, _, rfl, Same.seqT sA hSr, fun p3 G3 s3 hp3 => ?_⟩
      refine ⟨p2, p3, _, _, rfl, rfl, Same.seqT s3 hp2, hp3, sz_le (by rw [List.length_append]; have := bigR (lo := none) (hi := some (B : Int)); have := bigR (lo := some ((B : Int) + 1)) (hi := none); show _ + 1 + _ ≤ 1000; omega), fun p4 G4 s4 hp4 => ?_⟩
      have sB := (sA.trans s3).trans s4
      obtain ⟨hRowA⟩ : Nonempty (DaAll K F5 pen (row.map V.int) (row.map .int)) := ⟨DaAll.ints _⟩
      have dL : Da K G4 pen (.ref p4) (.tuple ((cutD (row.map .int) none (some (B : Int)) ++ [dO]) ++ cutD (row.map .int) (some ((B : Int) + 1)) none)) :=
        .tup hp4 ((((hRowA.cut none (some (B : Int))).append (.cons hO .nil)).append (hRowA.cut (some ((B : Int) + 1)) none)).same sB)
      generalize hLd : (PyData.tuple ((cutD (row.map .int) none (some (B : Int)) ++ [dO]) ++ cutD (row.map .int) (some ((B : Int) + 1)) none)) = Ld at dL
      have badL : isRowD Ld m p = false := by
        rw [← hLd]
        exact isRow_bad (d := dO) (by simp) badO
      have nlL : noL Ld = true := by
        rw [← hLd]
        refine noLs_all _ fun d hd => ?_
        rcases List.mem_append.mp hd with hd | hd
        · rcases List.mem_append.mp hd with hd | hd
          · obtain ⟨i, _, rfl⟩ := List.mem_map.mp (cutD_sub hd)
            rfl
          · rw [List.mem_singleton] at hd
            rw [hd]
            exact nlO
        · obtain ⟨i, _, rfl⟩ := List.mem_map.mp (cutD_sub hd)
          rfl
      have hS := Same.seqT sB hS
      have hNb := Same.seqT sB hNb
      have hAp := hAp.same sB
      have P6 := P5.same sB
      have oH6 := oH5.trans (Oth.of_same sB)
      clear hO badO nlO hLd hRowA s1 st2 s2 s3 s4 sA sB hp1 hp2 hp3 hp4 hSr oH5 P5 bigR hyr
      -- the lines
      refine ⟨_, rfl, _, rfl, D, rfl, bn, _, rfl, hNb, fun p5 G5 s5 hp5 => ?_⟩
      refine ⟨_, rfl, sz_le (by simp), fun t3 nt3 => ?_⟩
      have st3 := same_upd (o := .tup [.ref p4]) nt3
      refine ⟨p5, t3, _, _, rfl, rfl, Same.seqT st3 hp5, .inl (.inl upd_same), sz_le (by show (cutV ys none (some (D : Int))).length + 1 ≤ 1000; have := bigN (lo := none) (hi := some (D : Int)); omega), fun p6 G6 s6 hp6 => ?_⟩
      have sA := (s5.trans st3).trans s6
      refine ⟨_, rfl, _, rfl, D, 1, rfl, rfl, (D : Int) + 1, rfl, bn, _, rfl, Same.seqT sA hNb, fun p7 G7 s7 hp7 => ?_⟩
      refine ⟨p6, p7, _, _, rfl, rfl, Same.seqT s7 hp6, hp7, sz_le (by rw [List.length_append]; have := bigN (lo := none) (hi := some (D : Int)); have := bigN (lo := some ((D : Int) + 1)) (hi := none); show _ + 1 + _ ≤ 1000; omega), fun p8 G8 s8 hp8 => ?_⟩
      have sB := (sA.trans s7).trans s8
      have dM : Da K G8 pen (.ref p8) (.tuple ((cutD (rows.map rowD) none (some (D : Int)) ++ [Ld]) ++ cutD (rows.map rowD) (some ((D : Int) + 1)) none)) :=
        .tup hp8 ((((hAp.cut none (some (D : Int))).append (.cons dL .nil)).append (hAp.cut (some ((D : Int) + 1)) none)).same sB)
      generalize hMd : (cutD (rows.map rowD) none (some (D : Int)) ++ [Ld]) ++ cutD (rows.map rowD) (some ((D : Int) + 1)) none = Md at dM
      have badM : isMatD (.tuple [.int a, .int m, .tuple Md]) p = false := by
        rw [← hMd]
        exact isMat_bad (d := Ld) (by simp) badL
      have nlM : noL (.tuple [.int a, .int m, .tuple Md]) = true := by
        have h : noLs Md = true := by
          rw [← hMd]
          have hr := noLs_rows rows
          refine noLs_all _ fun d hd => ?_
          rcases List.mem_append.mp hd with hd | hd
          · rcases List.mem_append.mp hd with hd | hd
            · exact noL_mem hr d (cutD_sub hd)
            · rw [List.mem_singleton] at hd
              rw [hd]
              exact nlL
          · exact noL_mem hr d (cutD_sub hd)
        simp only [noL, noLs, h, Bool.and_self]
      have hS := Same.seqT sB hS
      have P7 := P6.same sB
      have oH7 := oH6.trans (Oth.of_same sB)
      clear hMd dL badL nlL hNb hAp P6 oH6 s5 st3 s6 s7 s8 sA sB hp5 hp6 hp7 hp8 bigN
      -- the tuple of one
      refine ⟨_, rfl, _, rfl, 0, rfl, sb, _, rfl, hS, fun q1' G9 s9 hq1 => ?_⟩
      refine ⟨_, rfl, _, rfl, _, rfl, sz_le (by simp), fun t4 nt4 => ⟨sz_le (by simp), fun t5 nt5 => ?_⟩⟩
      have st4 := same_upd (o := .tup [.int a, .int m, .ref p8]) nt4
      have st5 := same_upd (o := .tup [.ref t4]) nt5
      have dT : Da K (upd G9 t4 (.tup [.int a, .int m, .ref p8])) pen (.ref t4) (.tuple [.int a, .int m, .tuple Md]) := Da.newT (.cons (.int _) (.cons (.int _) (.cons (dM.same s9) .nil))) nt4
      refine ⟨q1', t5, _, _, rfl, rfl, Same.seqT (st4.trans st5) hq1, .inl (.inl upd_same), sz_le (show 0 + 1 ≤ 1000 by decide), fun q2 G10 s10 hq2 => ?_⟩
      have sA := ((s9.trans st4).trans st5).trans s10
      refine ⟨_, rfl, _, rfl, 0, 1, rfl, rfl, 0 + 1, rfl, sb, _, rfl, Same.seqT sA hS, fun q3 G11 s11 hq3 => ?_⟩
      refine ⟨q2, q3, _, _, rfl, rfl, Same.seqT s11 hq2, hq3, sz_le (show 1 + 0 ≤ 1000 by decide), fun q4 G12 s12 hq4 => ?_⟩
      have sB := (sA.trans s11).trans s12
      refine q1 _ _ _ (oH7.trans (Oth.of_same sB)) ((P7.same sB).mono (by omega)) (fun av' => ?_) nlM badM
      have e : ((cutV [V.ref b] none (some 0) ++ [.ref t4]) ++ cutV [V.ref b] (some (0 + 1)) none) = [.ref t4] := rfl
      rw [e] at hq4
      have z : Da K G12 pen (.ref q4) (.tuple [.tuple [.int a, .int m, .tuple Md]]) := .tup hq4 (.cons (dT.same ((st5.trans s10).trans (s11.trans s12))) .nil)
      refine Da.any (av := pen) _ _ ?_ z
      show (noL (.tuple [.int a, .int m, .tuple Md]) && noLs []) = true
      rw [nlM]
      rfl
  exact has_of F G T.g__law_wrong_number (fun _ _ _ _ _ _ us hl => match us, hl with | [_, _, _], _ => rfl)
end
end K03

set_option Elab.async false
set_option linter.all false
set_option maxRecDepth 100000
set_option maxHeartbeats 8000000
namespace K03
open PySem PySem.Spec PyProof.Rows L2 XA

def sp__law_numbers_right (K : PySem.W.Frag) : Sp := fun vs H Q _ => ∃ (pen c S : Addr) (ov : V) (xs : List V) (ds : List PyData) (a m : Nat) (rows : List (List Int)) (p n : Int), vs = [.ref pen, ov, .ref S, .int p] ∧ PenC H pen c n ∧ n ≤ 9000 ∧ Da K H pen ov (matD a m rows) ∧ MOk a m rows p ∧ a ≤ 10 ∧ m ≤ 10 ∧ primeN p = true ∧
  S ≠ pen ∧ SqL K H S xs ∧ DaAll K H pen xs ds ∧ xs.length = 3 ∧ ∀ H', Oth H H' pen → PenC H' pen c (n + 10) → Q (.bl true) H'
theorem told_bad1 {way p : Int} {d e : PyData} (h0 : 0 ≤ way) (h4 : way < 4) (hp : primeN p = true) (hd : isMatD d p = false) : told3 way (.int 2) d e (.int p) (.str "matrix") := by
  refine .inr ⟨p, rfl, hp, ?_⟩
  rcases (show way = 0 ∨ way = 1 ∨ way = 2 ∨ way = 3 by omega) with e | e | e | e
  · exact .inl ⟨e, .inl ⟨by rw [hd, Bool.false_and], rfl⟩⟩
  · exact .inr (.inl ⟨e, .inl ⟨by rw [hd, Bool.false_and], rfl⟩⟩)
  · exact .inr (.inr (.inl ⟨e, .inr ⟨2, rfl, .inl ⟨hd, rfl⟩⟩⟩))
  · exact .inr (.inr (.inr ⟨e, .inl ⟨hd, rfl⟩⟩))
theorem told_bad2 {way p : Int} {d e : PyData} (h0 : 0 ≤ way) (h4 : way < 2) (hp : primeN p = true) (hd : isMatD e p = false) : told3 way (.int 2) d e (.int p) (.str "matrix") := by
  refine .inr ⟨p, rfl, hp, ?_⟩
  rcases (show way = 0 ∨ way = 1 by omega) with e | e
  · exact .inl ⟨e, .inl ⟨by rw [hd, Bool.and_false], rfl⟩⟩
  · exact .inr (.inl ⟨e, .inl ⟨by rw [hd, Bool.and_false], rfl⟩⟩)
theorem dpRep {K : PySem.W.Frag} {F : Hp} (t : Str) : ∀ n : Nat, DpAll K F (List.replicate n (V.str t)) (List.replicate n (.str t))
  | 0 => .nil
  | n + 1 => .cons (.str _) (dpRep t n)
section
variable {P : Program} {w : World} {K : PySem.W.Frag} {mg : Str → Option Value} {base : Heap}
theorem ok__law_numbers_right (T : Txt K mg) {fd : FuncData} (F : FnP K "_law_numbers_right" s__law_numbers_right fd)
    (H__law_wrong_number : Has P w K mg base CX0 4 "_law_wrong_number" P__law_wrong_number (sp__law_wrong_number K))
    (H__law_told : Has P w K mg base CX0 7 "_law_told" P__law_told (sp__law_told K)) :
    Has P w K mg base CX0 8 "_law_numbers_right" P__law_numbers_right (sp__law_numbers_right K) := by
  have G : FnOk P w K mg base CX0 8 (He.ga K "_law_numbers_right") fd P__law_numbers_right (sp__law_numbers_right K) := by
    refine F.ok (k := 7) sc__law_numbers_right (fun vs H Q E h => ?_) (fun cdv A outer s H vs Q E hr h => ?_)
    · obtain ⟨pen, c, S, ov, xs, ds, a, m, rows, p, n, rfl, hp, hn, ho, ok, ha10, hm10, hprime, hSn, hS, hxs, hxl, q⟩ := h
      rfl
    · obtain ⟨pen, c, S, ov, xs, ds, a, m, rows, p, n, rfl, hp, hn, ho, ok, ha10, hm10, hprime, hSn, hS, hxs, hxl, q⟩ := h
      refine ⟨_, (PSs.nox (pss_cons (ps_set (i := 4) sc__law_numbers_right.nd rfl (by first | exact Or.inl rfl | exact Or.inr rfl) (pe_has H__law_wrong_number (hr.mono (by decide)) pass0 (pa_cons (pv 0) (pa_cons (pe_tup (pa_cons (pv 1) pa_nil)) (pa_cons (pv 3) pa_nil)))))
  (pss_cons (ps_if (pt_cmpR op_isN (pv 4) pe_non (nomark _))
   (pss_one (ps_ret pe_bl)) pss_nil)
  (pss_cons (ps_setLc (i := 5) (own := [("way", 6)]) rfl sc__law_numbers_right.nd rfl rfl (sw_true rfl rfl rfl (by decide +kernel)) (pi_range1 (by rfl) T.f_range (pa_cons pe_int pa_nil)) (blkOk_by (N := N__law_numbers_right) (sc := defScope s__law_numbers_right) (by decide +kernel)) (fun _ _ _ _ _ => pg_name (i := 6) (sc__law_numbers_right.nd) rfl (by first | exact Or.inl rfl | exact Or.inr rfl)) (fun _ _ _ _ _ => pts_nil) (fun _ _ _ _ _ => (pe_has H__law_told (hr.mono (by decide)) pass0 (pa_cons (pv 6) (pa_cons pe_int (pa_cons (pe_ix (ix_tupK K) (pv 4) pe_int (fun _ _ => rfl)) (pa_cons (pe_ix (ix_listK K) (pv 2) pe_int (fun _ _ => rfl)) (pa_cons (pv 3) pa_nil))))))))
  (pss_one (ps_ret (pe_cmpR (op_eqD hr.units) (pe_op op_cat (pv 5) (pe_lc (own := [("way", 6)]) rfl sc__law_numbers_right.nd (pi_range1 (by rfl) T.f_range (pa_cons pe_int pa_nil)) (blkOk_by (N := N__law_numbers_right) (sc := defScope s__law_numbers_right) (by decide +kernel)) (fun _ _ _ _ _ => pg_name (i := 6) (sc__law_numbers_right.nd) rfl (by first | exact Or.inl rfl | exact Or.inr rfl)) (fun _ _ _ _ _ => pts_nil) (fun _ _ _ _ _ => (pe_has H__law_told (hr.mono (by decide)) pass0 (pa_cons (pv 6) (pa_cons pe_int (pa_cons (pe_ix (ix_listK K) (pv 2) (pv 6) (fun _ _ => rfl)) (pa_cons (pe_ix (ix_tupK K) (pv 4) pe_int (fun _ _ => rfl)) (pa_cons (pv 3) pa_nil))))))))) (pe_op op_rep (pe_lst (pa_cons pe_str pa_nil)) pe_int) (nomark _)))))))), ?_⟩
      have hp2 := primeN_in hprime
      refine ⟨_, rfl, _, rfl, sz_le (by simp), fun t nt => ?_⟩
      have st := same_upd (o := .tup [ov]) nt
      have dt : Da K (upd H t (.tup [ov])) pen (.ref t) (.tuple [matD a m rows]) := Da.newT (.cons ho .nil) nt
      refine ⟨_, rfl, pen, c, .ref t, a, m, rows, p, n, pen, rfl, hp.same st, hn, dt, ok, ha10, hm10, by omega, by omega, fun H1 o1 P1 => ?_, fun H1 v d o1 P1 hv nl bad => ?_⟩
      · refine ⟨_, rfl, rfl, _, rfl, ?_⟩
        rw [decide_eq_true rfl]
        refine iteT ?_
        exact q _ ((Oth.of_same st).trans o1) P1
      obtain ⟨wb, ws, rfl, hW, hWA⟩ := (hv pen).isTup
      refine ⟨_, rfl, rfl, _, rfl, ?_⟩
      rw [decide_eq_false (fun z => nomatch z)]
      refine iteF ?_
      have oH1 : Oth H H1 pen := (Oth.of_same st).trans o1
      obtain ⟨ps, hps⟩ := hp.lst
      have hS : SqL K H1 S xs := Oth.seq oH1 hSn hS
      have hxs := hxs.othP hp oH1
      obtain ⟨w0, rfl⟩ : ∃ w0, ws = [w0] := by
        have hl := hWA.length
        match ws, hl with
        | [w0], _ => exact ⟨w0, rfl⟩
      have hw0 : Da K H1 pen w0 d := by
        cases hWA with
        | cons h _ => exact h
      obtain ⟨x0, x1, x2, rfl⟩ : ∃ x0 x1 x2, xs = [x0, x1, x2] := len3 hxl
      obtain ⟨d0, d1, d2, rfl⟩ : ∃ d0 d1 d2, ds = [d0, d1, d2] := len3 (hxs.length ▸ hxl)
      have hx0 : Da K H1 pen x0 d0 := by
        cases hxs with
        | cons h _ => exact h
      have hx1 : Da K H1 pen x1 d1 := by
        cases hxs with
        | cons _ h => cases h with
          | cons h _ => exact h
      refine ⟨4, rfl, by decide, by decide, fun D nD => ?_⟩
      refine lc_range (lo := 0) (n := 4) (fun j G => Same H1 G ∧ G D = some (.lst (List.replicate j (.str (Str.ofString "matrix"))))) ⟨same_upd nD, upd_same⟩ ?_ ?_
      · rintro j G hj ⟨sG, hG⟩
        refine ⟨rfl, ?_⟩
        refine ⟨_, rfl, _, rfl, wb, _, 0, w0, rfl, rfl, Same.seqT sG hW, rfl, _, rfl, S, _, 0, x0, rfl, rfl, sG.seq hS, rfl, _, rfl, ?_⟩
        refine ⟨0 + (j : Int), .int 2, .int 2, w0, d, x0, d0, .int p, .int p, _, pen, rfl, .int _, hw0.same sG, hx0.same sG, .int _, told_bad1 (by omega) (by omega) hprime bad, fun G1 v1 s1 hv1 => ?_⟩
        have e : v1 = .str (Str.ofString "matrix") := by
          cases hv1 pen
          rfl
        subst e
        refine ⟨_, s1 _ _ hG, lt10 (by rw [List.length_replicate]; omega), acc_same nD sG s1, ?_⟩
        rw [upd_same, List.replicate_succ']
      rintro G ⟨sG, hG⟩
      refine ⟨_, rfl, 2, rfl, by decide, by decide, fun D2 nD2 => ?_⟩
      refine lc_range (lo := 0) (n := 2) (fun j F => Same G F ∧ F D2 = some (.lst (List.replicate j (.str (Str.ofString "matrix"))))) ⟨same_upd nD2, upd_same⟩ ?_ ?_
      · rintro j F hj ⟨sF, hF⟩
        have s2 := sG.trans sF
        refine ⟨rfl, ?_⟩
        obtain ⟨x, dx, hat, hdx⟩ : ∃ x dx, atI [x0, x1, x2] (0 + (j : Int)) = some x ∧ Da K H1 pen x dx := by
          rcases (show j = 0 ∨ j = 1 by omega) with rfl | rfl
          · exact ⟨x0, d0, rfl, hx0⟩
          · exact ⟨x1, d1, rfl, hx1⟩
        refine ⟨_, rfl, _, rfl, _, rfl, S, _, 0 + (j : Int), x, rfl, rfl, s2.seq hS, hat, _, rfl, wb, _, 0, w0, rfl, rfl, Same.seqT s2 hW, rfl, _, rfl, ?_⟩
        refine ⟨0 + (j : Int), .int 2, .int 2, x, dx, w0, d, .int p, .int p, _, pen, rfl, .int _, hdx.same s2, hw0.same s2, .int _, told_bad2 (by omega) (by omega) hprime bad, fun G1 v1 s1 hv1 => ?_⟩
        have e : v1 = .str (Str.ofString "matrix") := by
          cases hv1 pen
          rfl
        subst e
        refine ⟨_, s1 _ _ hF, lt10 (by rw [List.length_replicate]; omega), acc_same nD2 sF s1, ?_⟩
        rw [upd_same, List.replicate_succ']
      rintro F ⟨sF, hF⟩
      refine ⟨D, D2, _, _, rfl, rfl, sF _ _ hG, hF, sz_le (by decide), fun M nM => ?_⟩
      have sM := same_upd (o := .lst (List.replicate 4 (V.str (Str.ofString "matrix")) ++ List.replicate 2 (V.str (Str.ofString "matrix")))) nM
      refine ⟨sz_le (by simp), fun L nL => ?_⟩
      have sL := same_upd (o := .lst [V.str (Str.ofString "matrix")]) nL
      refine ⟨L, 6, _, rfl, rfl, upd_same, by decide, by decide, sz_le (by decide), fun R nR => ?_⟩
      have sR := same_upd (o := .lst (List.replicate (6 : Int).toNat [V.str (Str.ofString "matrix")]).flatten) nR
      have eM : (upd (upd (upd F M (.lst (List.replicate 4 (V.str (Str.ofString "matrix")) ++ List.replicate 2 (V.str (Str.ofString "matrix"))))) L (.lst [V.str (Str.ofString "matrix")])) R (.lst (List.replicate (6 : Int).toNat [V.str (Str.ofString "matrix")]).flatten)) M = some (.lst (List.replicate 6 (V.str (Str.ofString "matrix")))) := sR _ _ (sL _ _ upd_same)
      have eR : (upd (upd (upd F M (.lst (List.replicate 4 (V.str (Str.ofString "matrix")) ++ List.replicate 2 (V.str (Str.ofString "matrix"))))) L (.lst [V.str (Str.ofString "matrix")])) R (.lst (List.replicate (6 : Int).toNat [V.str (Str.ofString "matrix")]).flatten)) R = some (.lst (List.replicate 6 (V.str (Str.ofString "matrix")))) := upd_same
      refine ⟨_, _, .lst (.inl (.inl eM)) (dpRep _ 6), .lst (.inl (.inl eR)) (dpRep _ 6), by decide +kernel, by decide +kernel, ?_⟩
      have e : PyData.eqv (.list (List.replicate 6 (.str (Str.ofString "matrix")))) (.list (List.replicate 6 (.str (Str.ofString "matrix")))) = true := by decide +kernel
      rw [e]
      exact q _ (oH1.trans (Oth.of_same ((sG.trans sF).trans ((sM.trans sL).trans sR)))) (P1.same ((sG.trans sF).trans ((sM.trans sL).trans sR)))
  exact has_of F G T.g__law_numbers_right (fun _ _ _ _ _ _ us hl => match us, hl with | [_, _, _, _], _ => rfl)
end
end K03

set_option Elab.async false
set_option linter.all false
set_option maxRecDepth 100000
set_option maxHeartbeats 8000000
namespace K03
open PySem PySem.Spec PyProof.Rows L2 XA

def sp_law (K : PySem.W.Frag) : Sp := fun vs H Q _ => ∃ (a : Addr) (ns : List Int), vs = [.ref a] ∧ SqL K H a (ns.map V.int) ∧ ns.length ≤ 63 ∧ ∀ H', Q (.bl true) H'
theorem seq_asg {te : TE} {g : TG} {u : TS} {D : Ends} {σ : L2.St} {H : Hp} (J : V → Hp → Prop) (h : ∀ R : VK, (∀ v F, J v F → R v F) → te σ H R) (k : ∀ v F, J v F → g v σ F (u D)) : tSeq (tAsg te g) u D σ H := h _ k
theorem isMat_len {i j p : Int} {ds : List PyData} (h : (ds.length : Int) ≠ i) : isMatD (.tuple [.int i, .int j, .tuple ds]) p = false := by
  show (decide (0 ≤ i ∧ i ≤ 2000) && (decide (0 ≤ j ∧ j ≤ 2000) && (decide ((ds.length : Int) = i) && ds.all (fun row => isRowD row j p)))) = false
  rw [decide_eq_false h, Bool.false_and, Bool.and_false, Bool.and_false]
theorem name_of {i : Nat} {v : V} {σ : L2.St} {H : Hp} {k : L2.St → Hp → Prop} (h : k (σ.set i (some v)) H) : gName i v σ H k := h
theorem next_of {D : Ends} {σ : L2.St} {H : Hp} (h : D.nx σ H) : tNext D σ H := h
theorem tm_mat {r k : Nat} {rows : List (List Int)} {p : Int} (hp : p ≤ 97) (hl : rows.length ≤ 8) (hr : r ≤ 8) (hk : k ≤ 8) (h : ∀ row ∈ rows, row.length ≤ 8 ∧ ∀ x ∈ row, 0 ≤ x ∧ x < p) : Tm 3 (matD r k rows) := by
  refine tmT (by show 3 ≤ 8; decide) fun d hd => ?_
  simp only [List.mem_cons, List.not_mem_nil, or_false] at hd
  rcases hd with rfl | rfl | rfl
  · exact tmI _ (by omega)
  · exact tmI _ (by omega)
  · refine tmT (by rw [List.length_map]; exact hl) fun d hd => ?_
    obtain ⟨row, hm, rfl⟩ := List.mem_map.mp hd
    obtain ⟨h1, h2⟩ := h row hm
    exact tm_row h1 hp h2
theorem mod_in {p : Int} (hp : 2 ≤ p) (x : Int) : 0 ≤ x % p ∧ x % p < p := ⟨Int.emod_nonneg _ (by omega), Int.emod_lt_of_pos _ (by omega)⟩
theorem mem_zw {f : Int → Int → Int} {z : Int} : ∀ {xs ys : List Int}, z ∈ List.zipWith f xs ys → ∃ x y, z = f x y
  | [], _, h => by simp at h
  | _ :: _, [], h => by simp at h
  | x :: xs, y :: ys, h => by
    rw [List.zipWith_cons_cons] at h
    rcases List.mem_cons.mp h with e | h
    · exact ⟨x, y, e⟩
    · exact mem_zw h
theorem mem_zr {p : Int} {z : List Int} : ∀ {xs ys : List (List Int)}, z ∈ List.zipWith (sumR p) xs ys → ∃ x ∈ xs, ∃ y, z = sumR p x y
  | [], _, h => by simp at h
  | _ :: _, [], h => by simp at h
  | x :: xs, y :: ys, h => by
    rw [List.zipWith_cons_cons] at h
    rcases List.mem_cons.mp h with e | h
    · exact ⟨x, List.mem_cons_self, y, e⟩
    · obtain ⟨a, ha, b, e⟩ := mem_zr h
      exact ⟨a, List.mem_cons_of_mem _ ha, b, e⟩
theorem tm_due {way n p : Int} {a m m' k : Nat} {rows lines : List (List Int)} (hp2 : 2 ≤ p) (hp : p ≤ 97) (o1 : MOk a m rows p) (o2 : MOk m' k lines p) (h1 : a ≤ 8) (h2 : m ≤ 8) (h4 : k ≤ 8) : Tm 5 (due3 way n p a m m' k rows lines) := by
  obtain ⟨l1, _, _, g1'⟩ := o1
  obtain ⟨l2, _, _, g2'⟩ := o2
  have up : ∀ {d : PyData}, Tm 3 d → Tm 5 d := fun t => t.up.up
  have wf : ∀ x : Str, (reprText x).length ≤ 130 → Tm 5 (.str x) := fun x h => tmS _ h
  unfold due3 g0 g1 g2 g3
  split
  · split
    · refine up (tm_mat hp (by unfold prodR; rw [List.length_map]; omega) h1 h4 fun row hr => ?_)
      obtain ⟨r, hr, rfl⟩ := List.mem_map.mp hr
      refine ⟨by rw [List.length_map, dot_len]; exact h4, fun x hx => ?_⟩
      obtain ⟨y, _, rfl⟩ := List.mem_map.mp hx
      exact mod_in hp2 y
    · exact wf _ (by decide +kernel)
  · split
    · split
      · refine up (tm_mat hp (by unfold plusR; rw [List.length_zipWith]; omega) h1 h2 fun row hrow => ?_)
        obtain ⟨r, hr, s, rfl⟩ := mem_zr hrow
        refine ⟨by unfold sumR; have := (g1' r hr).1; rw [List.length_zipWith]; omega, fun x hx => ?_⟩
        obtain ⟨u, v, rfl⟩ := mem_zw hx
        exact mod_in hp2 _
      · exact wf _ (by decide +kernel)
    · split
      · refine up (tm_mat hp (by unfold timesR; rw [List.length_map]; omega) h1 h2 fun row hrow => ?_)
        obtain ⟨r, hr, rfl⟩ := List.mem_map.mp hrow
        refine ⟨by have := (g1' r hr).1; rw [List.length_map]; omega, fun x hx => ?_⟩
        obtain ⟨y, _, rfl⟩ := List.mem_map.mp hx
        exact mod_in hp2 _
      · refine up (tm_mat hp (by unfold flipR; rw [List.length_map, List.length_range]; exact h2) h2 h1 fun row hr => ?_)
        obtain ⟨i, hi, rfl⟩ := List.mem_map.mp hr
        refine ⟨by rw [List.length_map]; omega, fun x hx => ?_⟩
        obtain ⟨r, hr, rfl⟩ := List.mem_map.mp hx
        rw [List.getD_eq_getElem?_getD]
        cases e : r[i]? with
        | none => exact ⟨Int.le_refl _, by show (0 : Int) < p; omega⟩
        | some y => exact (g1' r hr).2 y (List.mem_of_getElem? e)
theorem told_due {way n p : Int} {a m m' k : Nat} {rows lines : List (List Int)} (h0 : 0 ≤ way) (h4 : way < 4) (hp : primeN p = true) (o1 : MOk a m rows p) (o2 : MOk m' k lines p) :
    told3 way (.int n) (matD a m rows) (matD m' k lines) (.int p) (due3 way n p a m m' k rows lines) := by
  refine .inr ⟨p, rfl, hp, ?_⟩
  unfold due3
  rcases (show way = 0 ∨ way = 1 ∨ way = 2 ∨ way = 3 by omega) with rfl | rfl | rfl | rfl
  · exact .inl ⟨rfl, .inr ⟨a, m, m', k, rows, lines, rfl, o1, rfl, o2, rfl⟩⟩
  · exact .inr (.inl ⟨rfl, .inr ⟨a, m, m', k, rows, lines, rfl, o1, rfl, o2, rfl⟩⟩)
  · exact .inr (.inr (.inl ⟨rfl, .inr ⟨n, rfl, .inr ⟨a, m, rows, rfl, o1, rfl⟩⟩⟩))
  · exact .inr (.inr (.inr ⟨rfl, .inr ⟨a, m, rows, rfl, o1, rfl⟩⟩))
theorem told_odd {way n p : Int} {d e : PyData} (h0 : 0 ≤ way) (h4 : way < 4) (hp : primeN p = true) (hb : isMatD d p = false ∨ (isMatD e p = false ∧ way < 2)) : told3 way (.int n) d e (.int p) (.str "matrix") := by
  have hb2 : way < 2 → (isMatD d p && isMatD e p) = false := by
    intro h
    rcases hb with h1 | ⟨h1, _⟩
    · rw [h1, Bool.false_and]
    · rw [h1, Bool.and_false]
  have hb1 : 2 ≤ way → isMatD d p = false := by
    intro h
    rcases hb with h1 | ⟨_, h1⟩
    · exact h1
    · omega
  refine .inr ⟨p, rfl, hp, ?_⟩
  rcases (show way = 0 ∨ way = 1 ∨ way = 2 ∨ way = 3 by omega) with rfl | rfl | rfl | rfl
  · exact .inl ⟨rfl, .inl ⟨hb2 (by decide), rfl⟩⟩
  · exact .inr (.inl ⟨rfl, .inl ⟨hb2 (by decide), rfl⟩⟩)
  · exact .inr (.inr (.inl ⟨rfl, .inr ⟨n, rfl, .inl ⟨hb1 (by decide), rfl⟩⟩⟩))
  · exact .inr (.inr (.inr ⟨rfl, .inl ⟨hb1 (by decide), rfl⟩⟩))
section
variable {P : Program} {w : World} {K : PySem.W.Frag} {mg : Str → Option Value} {base : Heap}
theorem okF_law (T : Txt K mg) {fd : FuncData} (F : FnP K "law" s_law fd)
    (H__law_open : Has P w K mg base CX0 1 "_law_open" P__law_open (sp__law_open K))
    (H__law_anew : Has P w K mg base CX0 1 "_law_anew" P__law_anew sp__law_anew)
    (H__law_take : Has P w K mg base CX0 2 "_law_take" P__law_take sp__law_take)
    (H__law_one : Has P w K mg base CX0 3 "_law_one" P__law_one (sp__law_one K))
    (H__law_prime : Has P w K mg base CX0 4 "_law_prime" P__law_prime (sp__law_prime K))
    (H__law_matrix : Has P w K mg base CX0 3 "_law_matrix" P__law_matrix (sp__law_matrix K))
    (H__law_told : Has P w K mg base CX0 7 "_law_told" P__law_told (sp__law_told K))
    (H__law_due : Has P w K mg base CX0 2 "_law_due" P__law_due (sp__law_due K))
    (H__law_numbers_right : Has P w K mg base CX0 8 "_law_numbers_right" P__law_numbers_right (sp__law_numbers_right K)) :
    FnAt P w K mg base CX0 callerA (He.ga K "law") fd P_law (sp_law K) := by
  refine fnAt_of (k := 8) F sc_law (fun vs H Q E h => ?_) ⟨rfl, by decide, by decide⟩ (fun cdv outer s H vs Q E hr h => ?_)
  · obtain ⟨a, ns, rfl, hS, hlen, q⟩ := h
    rfl
  · obtain ⟨a, ns, rfl, hS, hlen, q⟩ := h
    refine ⟨_, (PSs.nox (pss_cons (ps_set (i := 1) sc_law.nd rfl (by first | exact Or.inl rfl | exact Or.inr rfl) (pe_has H__law_open (hr.mono (by decide)) pass0 (pa_cons (pv 0) pa_nil)))
  (pss_cons (ps_for PassesOwn.never rfl (pi_range1 (by rfl) T.f_range (pa_cons pe_int pa_nil)) (pg_name (i := 2) sc_law.nd rfl (by first | exact Or.inl rfl | exact Or.inr rfl))
   (pss_cons (ps_set (i := 3) sc_law.nd rfl (by first | exact Or.inl rfl | exact Or.inr rfl) (pe_has H__law_prime (hr.mono (by decide)) pass0 (pa_cons (pe_has H__law_anew (hr.mono (by decide)) pass0 (pa_cons (pv 1) pa_nil)) pa_nil)))
  (pss_cons (ps_par3 (i := 4) (j := 5) (l := 6) (by rfl) sc_law.nd rfl rfl rfl (by decide) (by decide) (by decide) rfl rfl rfl (pa_cons (pe_has H__law_take (hr.mono (by decide)) pass0 (pa_cons (pv 1) (pa_cons pe_int pa_nil))) (pa_cons (pe_has H__law_take (hr.mono (by decide)) pass0 (pa_cons (pv 1) (pa_cons pe_int pa_nil))) (pa_cons (pe_has H__law_take (hr.mono (by decide)) pass0 (pa_cons (pv 1) (pa_cons pe_int pa_nil))) pa_nil))) (by rfl) (by rfl))
  (pss_cons (ps_set (i := 7) sc_law.nd rfl (by first | exact Or.inl rfl | exact Or.inr rfl) (pe_has H__law_matrix (hr.mono (by decide)) pass0 (pa_cons (pv 1) (pa_cons (pv 4) (pa_cons (pv 5) (pa_cons (pv 3) pa_nil))))))
  (pss_cons (ps_set (i := 8) sc_law.nd rfl (by first | exact Or.inl rfl | exact Or.inr rfl) (pe_lst (pa_cons (pe_has H__law_matrix (hr.mono (by decide)) pass0 (pa_cons (pv 1) (pa_cons (pv 5) (pa_cons (pv 6) (pa_cons (pv 3) pa_nil))))) (pa_cons (pe_has H__law_matrix (hr.mono (by decide)) pass0 (pa_cons (pv 1) (pa_cons (pv 4) (pa_cons (pv 5) (pa_cons (pv 3) pa_nil))))) (pa_cons (pe_has H__law_matrix (hr.mono (by decide)) pass0 (pa_cons (pv 1) (pa_cons (pv 6) (pa_cons (pv 5) (pa_cons (pv 3) pa_nil))))) pa_nil)))))
  (pss_cons (ps_set (i := 9) sc_law.nd rfl (by first | exact Or.inl rfl | exact Or.inr rfl) (pe_has H__law_one (hr.mono (by decide)) pass0 (pa_cons (pv 1) (pa_cons (pe_lst (pa_cons pe_int (pa_cons pe_int (pa_cons (pe_op op_sub pe_int pe_int) (pa_cons (pv 3) (pa_cons (pe_op op_add (pe_op op_pow pe_int pe_int) pe_int) (pa_cons (pe_op op_sub pe_int (pe_has H__law_take (hr.mono (by decide)) pass0 (pa_cons (pv 1) (pa_cons pe_int pa_nil)))) pa_nil))))))) pa_nil))))
  (pss_cons (ps_set (i := 10) sc_law.nd rfl (by first | exact Or.inl rfl | exact Or.inr rfl) (pe_callB (id := "repr") (call_reprD rfl (by show (callerA.deeper _).units + 150 < cLine; have := hr.un; omega)) (by rfl) T.f_repr (by decide +kernel) (pa_cons (pe_tup (pa_cons (pv 7) (pa_cons (pv 8) pa_nil))) pa_nil)))
  (pss_cons (ps_for PassesOwn.never rfl (pi_range1 (by rfl) T.f_range (pa_cons pe_int pa_nil)) (pg_name (i := 11) sc_law.nd rfl (by first | exact Or.inl rfl | exact Or.inr rfl))
   (pss_one (ps_for PassesOwn.never rfl (pi_list (pv 8)) (pg_name (i := 12) sc_law.nd rfl (by first | exact Or.inl rfl | exact Or.inr rfl))
   (pss_one (ps_if (pt_cmpR op_ne (pe_callB (id := "repr") (call_reprD rfl (by show (callerA.deeper _).units + 150 < cLine; have := hr.un; omega)) (by rfl) T.f_repr (by decide +kernel) (pa_cons (pe_has H__law_told (hr.mono (by decide)) pass0 (pa_cons (pv 11) (pa_cons (pv 9) (pa_cons (pv 7) (pa_cons (pv 12) (pa_cons (pv 3) pa_nil)))))) pa_nil)) (pe_callB (id := "repr") (call_reprD rfl (by show (callerA.deeper _).units + 150 < cLine; have := hr.un; omega)) (by rfl) T.f_repr (by decide +kernel) (pa_cons (pe_has H__law_due (hr.mono (by decide)) pass0 (pa_cons (pv 11) (pa_cons (pv 9) (pa_cons (pv 7) (pa_cons (pv 12) (pa_cons (pv 3) pa_nil)))))) pa_nil)) (nomark _))
   (pss_one (ps_ret pe_bl)) pss_nil)))))
  (pss_cons (ps_if (pt_cmpR op_ne (pe_callB (id := "repr") (call_reprD rfl (by show (callerA.deeper _).units + 150 < cLine; have := hr.un; omega)) (by rfl) T.f_repr (by decide +kernel) (pa_cons (pe_tup (pa_cons (pv 7) (pa_cons (pv 8) pa_nil))) pa_nil)) (pv 10) (nomark _))
   (pss_one (ps_ret pe_bl)) pss_nil)
  (pss_cons (ps_setLc (i := 13) (own := [("k", 19)]) rfl sc_law.nd rfl rfl (sw_true rfl rfl rfl (by decide +kernel)) (pi_range1 (by rfl) T.f_range (pa_cons pe_int pa_nil)) (blkOk_by (N := N_law) (sc := defScope s_law) (by decide +kernel)) (fun _ _ _ _ _ => pg_name (i := 19) (sc_law.nd) rfl (by first | exact Or.inl rfl | exact Or.inr rfl)) (fun _ _ _ _ _ => pts_nil) (fun _ _ _ _ _ => (pe_cmpR op_eq (pe_has H__law_take (hr.mono (by decide)) pass0 (pa_cons (pv 1) (pa_cons pe_int pa_nil))) pe_int (nomark _))))
  (pss_cons (ps_set (i := 14) sc_law.nd rfl (by first | exact Or.inl rfl | exact Or.inr rfl) (pe_lst (pa_cons pe_non (pa_cons pe_int (pa_cons (pe_slice sl_tupD (pv 7) po_none (po_some pe_int)) (pa_cons (pe_callTy (T := "list") call_list_of (by rfl) T.f_list (by decide +kernel) (pa_cons (pv 7) pa_nil)) (pa_cons (pe_tup (pa_cons (pv 4) (pa_cons (pv 5) (pa_cons (pe_op op_catD (pe_ix ix_tup (pv 7) pe_int (fun _ _ => rfl)) (pe_tup (pa_cons (pe_op op_repD (pe_tup (pa_cons (pv 3) pa_nil)) (pv 5)) pa_nil))) pa_nil)))) (pa_cons pe_str (pa_cons (pe_tup (pa_cons pe_int (pa_cons pe_int (pa_cons (pe_tup (pa_cons (pe_tup pa_nil) pa_nil)) pa_nil)))) pa_nil)))))))))
  (pss_cons (ps_set (i := 15) sc_law.nd rfl (by first | exact Or.inl rfl | exact Or.inr rfl) (pe_ifExp (pt_val (pe_ix ix_list (pv 13) pe_int (fun _ _ => rfl))) (pe_has H__law_one (hr.mono (by decide)) pass0 (pa_cons (pv 1) (pa_cons (pv 14) pa_nil))) (pv 7)))
  (pss_cons (ps_set (i := 16) sc_law.nd rfl (by first | exact Or.inl rfl | exact Or.inr rfl) (pe_ifExp (pt_val (pe_ix ix_list (pv 13) pe_int (fun _ _ => rfl))) (pe_has H__law_one (hr.mono (by decide)) pass0 (pa_cons (pv 1) (pa_cons (pv 14) pa_nil))) (pe_ix ix_list (pv 8) pe_int (fun _ _ => rfl))))
  (pss_cons (ps_set (i := 17) sc_law.nd rfl (by first | exact Or.inl rfl | exact Or.inr rfl) (pe_ifExp (pt_val (pe_ix ix_list (pv 13) pe_int (fun _ _ => rfl))) (pe_has H__law_one (hr.mono (by decide)) pass0 (pa_cons (pv 1) (pa_cons (pe_lst (pa_cons pe_int (pa_cons pe_int (pa_cons pe_int (pa_cons pe_non (pa_cons pe_bl (pa_cons pe_str (pa_cons pe_int pa_nil)))))))) pa_nil))) (pv 3)))
  (pss_cons (ps_for PassesOwn.never rfl (pi_range1 (by rfl) T.f_range (pa_cons pe_int pa_nil)) (pg_name (i := 11) sc_law.nd rfl (by first | exact Or.inl rfl | exact Or.inr rfl))
   (pss_cons (ps_set (i := 18) sc_law.nd rfl (by first | exact Or.inl rfl | exact Or.inr rfl) (pe_ifExp (pt_val (pe_ix ix_list (pv 13) pe_int (fun _ _ => rfl))) pe_str (pe_ifExp (PW.pt (pw_or (pt_val (pe_ix ix_list (pv 13) pe_int (fun _ _ => rfl))) (pw_or1 (PW.pt (pw_and (pt_val (pe_ix ix_list (pv 13) pe_int (fun _ _ => rfl))) (pw_and1 (pt_cmpR op_lt (pv 11) pe_int (nomark _)))))))) pe_str pe_non)))
  (pss_one (ps_if (PW.pt (pw_and (pt_cmpR op_notN (pv 18) pe_non (nomark _)) (pw_and1 (pt_cmpR op_ne (pe_has H__law_told (hr.mono (by decide)) pass0 (pa_cons (pv 11) (pa_cons (pv 9) (pa_cons (pv 15) (pa_cons (pv 16) (pa_cons (pv 17) pa_nil)))))) (pv 18) (nomark _)))))
   (pss_one (ps_ret pe_bl)) pss_nil))))
  (pss_cons (ps_set (i := 14) sc_law.nd rfl (by first | exact Or.inl rfl | exact Or.inr rfl) (pe_has H__law_one (hr.mono (by decide)) pass0 (pa_cons (pv 1) (pa_cons (pe_lst (pa_cons pe_non (pa_cons pe_bl (pa_cons pe_str (pa_cons (pe_tup (pa_cons pe_int pa_nil)) (pa_cons (pe_lst (pa_cons pe_int pa_nil)) pa_nil)))))) pa_nil))))
  (pss_cons (ps_if (PW.pt (pw_or (pt_cmpR op_ne (pe_has H__law_told (hr.mono (by decide)) pass0 (pa_cons pe_int (pa_cons (pv 14) (pa_cons (pv 15) (pa_cons (pv 16) (pa_cons (pv 3) pa_nil)))))) pe_str (nomark _)) (pw_or1 (pt_cmpR op_ne (pe_has H__law_told (hr.mono (by decide)) pass0 (pa_cons pe_int (pa_cons (pv 14) (pa_cons (pv 15) (pa_cons (pv 16) (pa_cons pe_int pa_nil)))))) pe_str (nomark _)))))
   (pss_one (ps_ret pe_bl)) pss_nil)
  (pss_one (ps_if (pt_not (pt_val (pe_has H__law_numbers_right (hr.mono (by decide)) pass0 (pa_cons (pv 1) (pa_cons (pv 7) (pa_cons (pv 8) (pa_cons (pv 3) pa_nil)))))))
   (pss_one (ps_ret pe_bl)) pss_nil)))))))))))))))))))
  (pss_one (ps_ret pe_bl))))), ?_⟩
    refine ⟨_, rfl, a, ns, rfl, hS, hlen, fun H1 pen c npen s1 P1 => ?_⟩
    refine ⟨6, rfl, by decide, by decide, ?_⟩
    refine for_range (lo := 0) (n := 6) (fun i σ F => ∃ v2 v3 v4 v5 v6 v7 v8 v9 v10 v11 v12 v13 v14 v15 v16 v17 v18 v19, σ = [some (.ref a), some (.ref pen), v2, v3, v4, v5, v6, v7, v8, v9, v10, v11, v12, v13, v14, v15, v16, v17, v18, v19] ∧ PenC F pen c (900 * i))
      ⟨_, _, _, _, _, _, _, _, _, _, _, _, _, _, _, _, _, _, rfl, P1.mono (by decide)⟩ ?_ ?_
    rotate_left
    · rintro σ F ⟨v2, v3, v4, v5, v6, v7, v8, v9, v10, v11, v12, v13, v14, v15, v16, v17, v18, v19, rfl, P⟩
      exact q _
    rintro i σ F hi ⟨v2, v3, v4, v5, v6, v7, v8, v9, v10, v11, v12, v13, v14, v15, v16, v17, v18, v19, rfl, P⟩
    refine ⟨_, rfl, pen, c, _, rfl, P, fun Fa oa Pa => ⟨pen, c, _, rfl, Pa, by omega, fun p Fb hprime ob Pb => ?_⟩⟩
    have hp2 := primeN_in hprime
    refine ⟨_, rfl, pen, c, 6, _, rfl, Pb, by omega, by decide, by decide, fun h Fc h0 h5 oc Pc => ⟨_, rfl, pen, c, 6, _, rfl, Pc, by omega, by decide, by decide, fun w Fd w0 w5 od Pd => ⟨_, rfl, pen, c, 6, _, rfl, Pd, by omega, by decide, by decide, fun z Fe z0 z5 oe Pe => ?_⟩⟩⟩
    refine ⟨_, _, _, rfl, ?_⟩
    obtain ⟨h, rfl⟩ : ∃ m : Nat, h = m := ⟨h.toNat, by omega⟩
    obtain ⟨w, rfl⟩ : ∃ m : Nat, w = m := ⟨w.toNat, by omega⟩
    obtain ⟨z, rfl⟩ : ∃ m : Nat, z = m := ⟨z.toNat, by omega⟩
    refine ⟨_, rfl, _, rfl, _, rfl, _, rfl, pen, c, h, w, p, _, rfl, Pe, by omega, by omega, by omega, by omega, by omega, fun ov rows F0 hrl hrg ho o0 P0 => ?_⟩
    refine ⟨_, rfl, _, rfl, _, rfl, _, rfl, pen, c, w, z, p, _, rfl, P0, by omega, by omega, by omega, by omega, by omega, fun x0 l0 F1 h0l h0g hx0 o1 P1 => ?_⟩
    have ho := ho.othP P0 o1
    refine ⟨_, rfl, _, rfl, _, rfl, _, rfl, pen, c, h, w, p, _, rfl, P1, by omega, by omega, by omega, by omega, by omega, fun x1 l1 F2 h1l h1g hx1 o2 P2 => ?_⟩
    have ho := ho.othP P1 o2
    have hx0 := hx0.othP P1 o2
    refine ⟨_, rfl, _, rfl, _, rfl, _, rfl, pen, c, z, w, p, _, rfl, P2, by omega, by omega, by omega, by omega, by omega, fun x2 l2 F3 h2l h2g hx2 o3 P3 => ?_⟩
    have ho := ho.othP P2 o3
    have hx0 := hx0.othP P2 o3
    have hx1 := hx1.othP P2 o3
    refine ⟨sz_le (by simp), fun S nS => ?_⟩
    have sS := same_upd (o := .lst [x0, x1, x2]) nS
    have eS := P3.new_ne nS
    have hLS : (upd F3 S (.lst [x0, x1, x2])) S = some (.lst [x0, x1, x2]) := upd_same
    have ho := ho.same sS
    have hX : DaAll K (upd F3 S (.lst [x0, x1, x2])) pen [x0, x1, x2] [matD w z l0, matD h w l1, matD z w l2] := .cons (hx0.same sS) (.cons (hx1.same sS) (.cons (hx2.same sS) .nil))
    have okO : MOk h w rows p := ⟨hrl, by omega, by omega, hrg⟩
    have ok0 : MOk w z l0 p := ⟨h0l, by omega, by omega, h0g⟩
    have ok1 : MOk h w l1 p := ⟨h1l, by omega, by omega, h1g⟩
    have ok2 : MOk z w l2 p := ⟨h2l, by omega, by omega, h2g⟩
    have P3 := P3.same sS
    clear hx0 hx1 hx2 sS nS oa ob oc od oe o0 o1 o2 o3 Pa Pb Pc Pd Pe P0 P1 P2 s1
    generalize upd F3 S (.lst [x0, x1, x2]) = G0 at hLS ho hX P3 ⊢
    refine name_of ?_
    dsimp only
    refine seq_asg (fun v F => ∃ nb : Int, v = .int nb ∧ Oth G0 F pen ∧ PenC F pen c (900 * i + 3 + 1 + 1 + 1 + 200 + 200 + 200 + 200 + 1 + 1)) ?_ ?_
    · intro R k
      refine ⟨_, rfl, 0, 1, rfl, rfl, _, rfl, 10, 20, rfl, rfl, ⟨by decide, by decide, by decide⟩, _, 7, rfl, rfl, _, rfl, pen, c, 300, _, rfl, P3, by omega, by decide, by decide, fun t F t0 t1 o P => ⟨0, t, rfl, rfl, sz_le (by simp), fun l nl => ?_⟩⟩
      refine ⟨pen, c, l, _, _, rfl, P.same (same_upd nl), by omega, (P.new_ne nl).1, .inl (.inl upd_same), by simp, by simp, fun x hx F2 o2 P2 => k _ _ ?_⟩
      have hx : ∃ nb : Int, x = .int nb := by
        simp only [List.mem_cons, List.not_mem_nil, or_false] at hx
        rcases hx with rfl | rfl | rfl | rfl | rfl | rfl <;> exact ⟨_, rfl⟩
      obtain ⟨nb, rfl⟩ := hx
      exact ⟨nb, rfl, (o.trans (Oth.of_same (same_upd nl))).trans o2, P2⟩
    rintro v G1 ⟨nb, rfl, o1, P4⟩
    have ho := ho.othP P3 o1
    have hX := hX.othP P3 o1
    have hLS := o1 _ _ eS.1 hLS
    clear P3 o1
    generalize hn : (900 * (i : Int) + 3 + 1 + 1 + 1 + 200 + 200 + 200 + 200 + 1 + 1) = n4 at P4
    have hn4 : n4 ≤ 8000 := by omega
    have hn5 : n4 + 60 ≤ 900 * ((i + 1 : Nat) : Int) := by omega
    clear hn
    obtain ⟨dD, hdD⟩ : ∃ dD, dD = PyData.tuple [matD h w rows, .list [matD w z l0, matD h w l1, matD z w l2]] := ⟨_, rfl⟩
    have tD : Tm 5 dD := by
      have tm : ∀ {r k : Nat} {l : List (List Int)}, MOk r k l p → r ≤ 8 → k ≤ 8 → Tm 3 (matD r k l) := by
        intro r k l o h1 h2
        obtain ⟨e1, _, _, e2⟩ := o
        exact tm_mat hp2.2 (by omega) h1 h2 fun row hr => ⟨by have := (e2 row hr).1; omega, (e2 row hr).2⟩
      rw [hdD]
      refine tmT (by show 2 ≤ 8; decide) fun d hd => ?_
      simp only [List.mem_cons, List.not_mem_nil, or_false] at hd
      rcases hd with rfl | rfl
      · exact (tm okO (by omega) (by omega)).up
      · refine tmL (by show 3 ≤ 8; decide) fun d hd => ?_
        simp only [List.mem_cons, List.not_mem_nil, or_false] at hd
        rcases hd with rfl | rfl | rfl
        · exact tm ok0 (by omega) (by omega)
        · exact tm ok1 (by omega) (by omega)
        · exact tm ok2 (by omega) (by omega)
    have DD : ∀ {F : Hp} {t : Addr}, Same G1 F → F t = none → Da K (upd F t (.tup [ov, .ref S])) pen (.ref t) dD := by
      intro F t sF nt
      have st := same_upd (o := .tup [ov, .ref S]) nt
      rw [hdD]
      exact .tup (.inl (.inl upd_same)) (.cons ((ho.same sF).same st) (.cons (.lst eS.1 (.inl (.inl (st _ _ (sF _ _ hLS)))) ((hX.same sF).same st)) .nil))
    refine name_of ?_
    refine ⟨_, rfl, _, rfl, sz_le (by simp), fun t nt => ?_⟩
    try walk_at "rd"
    refine repr_tm (av := pen) (d := dD) (DD (Same.refl G1) nt) tD ?_
    have st := same_upd (o := .tup [ov, .ref S]) nt
    have sG2 := same_upd (o := .tup [ov, .ref S]) nt
    have ho2 := ho.same sG2
    have hX2 := hX.same sG2
    have hLS2 := sG2 _ _ hLS
    have P5 := P4.same sG2
    have DD2 : ∀ {F : Hp} {t : Addr}, Same (upd G1 t (.tup [ov, .ref S])) F → True := fun _ => trivial
    have DD : ∀ {F : Hp} {t' : Addr}, Same (upd G1 t (.tup [ov, .ref S])) F → F t' = none → Da K (upd F t' (.tup [ov, .ref S])) pen (.ref t') dD := fun sF n => DD (sG2.trans sF) n
    clear DD2 ho hX hLS P4 st
    generalize upd G1 t (.tup [ov, .ref S]) = G2 at ho2 hX2 hLS2 P5 DD ⊢
    clear sG2 nt t
    -- told, and due
    refine ⟨4, rfl, by decide, by decide, ?_⟩
    refine for_range (lo := 0) (n := 4) (fun j σ F => ∃ v11 v12, σ = [some (.ref a), some (.ref pen), some (.int (0 + (i : Int))), some (.int p), some (.int h), some (.int w), some (.int z), some ov, some (.ref S), some (.int nb), some (.str dD.shown), v11, v12, v13, v14, v15, v16, v17, v18, v19] ∧ Same G2 F)
      ⟨_, _, rfl, Same.refl G2⟩ ?_ ?_
    · rintro j σ F hj ⟨v11, v12, rfl, sF⟩
      refine ⟨_, rfl, S, rfl, ⟨_, .inl (.inl (sF _ _ hLS2))⟩, ?_⟩
      refine for_list (K := K) (a := S) (xs := [x0, x1, x2]) (fun _ σ F => ∃ v12, σ = [some (.ref a), some (.ref pen), some (.int (0 + (i : Int))), some (.int p), some (.int h), some (.int w), some (.int z), some ov, some (.ref S), some (.int nb), some (.str dD.shown), some (.int (0 + (j : Int))), v12, v13, v14, v15, v16, v17, v18, v19] ∧ Same G2 F)
        ⟨_, rfl, sF⟩ (fun _ σ F _ ⟨_, _, s⟩ => .inl (.inl (s _ _ hLS2))) ?_ ?_
      · rintro j2 x σ F2 hx ⟨v12, rfl, sF2⟩
        obtain ⟨d, hd, hdx⟩ := pickD (hX2.same sF2) x (List.mem_of_getElem? hx)
        obtain ⟨r', k', l', rfl, okx, hk'⟩ : ∃ (r' k' : Nat) (l' : List (List Int)), d = matD r' k' l' ∧ MOk r' k' l' p ∧ k' ≤ 8 := by
          simp only [List.mem_cons, List.not_mem_nil, or_false] at hd
          rcases hd with rfl | rfl | rfl
          · exact ⟨_, _, _, rfl, ok0, by omega⟩
          · exact ⟨_, _, _, rfl, ok1, by omega⟩
          · exact ⟨_, _, _, rfl, ok2, by omega⟩
        have tDue : Tm 5 (due3 (0 + (j : Int)) nb p h w r' k' rows l') := tm_due hp2.1 hp2.2 okO okx (by omega) (by omega) hk'
        refine ⟨_, rfl, _, rfl, _, rfl, _, rfl, _, rfl, 0 + (j : Int), .int nb, .int nb, ov, _, x, _, .int p, .int p, _, pen, rfl, .int _, ho2.same sF2, hdx, .int _, told_due (by omega) (by omega) hprime okO okx, fun F3 v s3 hv => ?_⟩
        try walk_at "rd"
        refine repr_tm (av := pen) (hv pen) tDue ?_
        have sF3 := sF2.trans s3
        refine ⟨_, rfl, _, rfl, _, rfl, _, rfl, _, rfl, 0 + (j : Int), nb, ov, x, h, w, r', k', rows, l', p, pen, rfl, ho2.same sF3, hdx.same s3, okO, okx, hp2.1, hp2.2, by omega, by omega, fun F4 v s4 hv => ?_⟩
        try walk_at "rd"
        refine repr_tm (av := pen) (hv pen) tDue ?_
        refine ⟨rfl, _, rfl, ?_⟩
        refine word_is rfl ?_
        exact ⟨_, rfl, sF3.trans s4⟩
      · rintro σ F2 ⟨v12, rfl, s⟩
        exact ⟨_, _, rfl, s⟩
    rintro σ F ⟨v11, v12, rfl, sF⟩
    -- nothing has been changed
    refine ⟨_, rfl, _, rfl, sz_le (by simp), fun t nt => ?_⟩
    dsimp only [L2.tNil]
    refine repr_tm (av := pen) (d := dD) (DD sF nt) tD ?_
    refine ⟨_, rfl, rfl, _, rfl, ?_⟩
    refine word_is rfl ?_
    have sA := sF.trans (same_upd (o := .tup [ov, .ref S]) nt)
    have ho := ho2.same sA
    have hX := hX2.same sA
    have hLS := sA _ _ hLS2
    have P6 := P5.same sA
    clear ho2 hX2 hLS2 P5 DD tD sF sA hdD nt
    generalize upd F t (.tup [ov, .ref S]) = G3 at ho hX hLS P6 ⊢
    refine next_of ?_
    dsimp only
    refine seq_asg (fun v F => ∃ (D : Addr) (bs : List Bool), v = .ref D ∧ D ≠ pen ∧ D ≠ S ∧ F D = some (.lst (bs.map V.bl)) ∧ bs.length = 3 ∧ Oth G3 F pen ∧ PenC F pen c (n4 + 3)) ?_ ?_
    · intro R k
      refine ⟨3, rfl, by decide, by decide, fun D nD => ?_⟩
      have eD := P6.new_ne nD
      have nDS : D ≠ S := fun e => by rw [e, hLS] at nD; cases nD
      refine lc_range (lo := 0) (n := 3) (fun j F => Oth G3 F pen ∧ PenC F pen c (n4 + j) ∧ ∃ bs : List Bool, F D = some (.lst (bs.map V.bl)) ∧ bs.length = j) ⟨Oth.of_same (same_upd nD), (P6.same (same_upd nD)).mono (by omega), [], upd_same, rfl⟩ ?_ ?_
      · rintro j F hj ⟨oF, PF, bs, hF, hb⟩
        refine ⟨rfl, ?_⟩
        refine ⟨_, rfl, pen, c, 3, _, rfl, PF, by omega, by decide, by decide, fun t F2 t0 t1 o2 P2 => ⟨rfl, ?_⟩⟩
        have hF2 := o2 _ _ eD.1 hF
        refine ⟨_, hF2, lt10 (by rw [List.length_map]; omega), Oth.put nD (oF.trans o2), (P2.upd eD.1 eD.2).mono (by omega), bs ++ [decide (V.int t = V.int 0)], ?_, by rw [List.length_append, hb]; rfl⟩
        rw [upd_same, List.map_append]
        rfl
      · rintro F ⟨oF, PF, bs, hF, hb⟩
        exact k _ _ ⟨D, bs, rfl, eD.1, nDS, hF, hb, oF, PF⟩
    rintro v G4 ⟨BD, bs, rfl, BDp, BDS, hBD, hbl, o4, P7⟩
    obtain ⟨b0, b1, b2, rfl⟩ : ∃ b0 b1 b2, bs = [b0, b1, b2] := len3 hbl
    have hLS := o4 _ _ eS.1 hLS
    have ho := ho.othP P6 o4
    have hX := hX.othP P6 o4
    clear o4 P6 hbl
    obtain ⟨b, bn, ys, rfl, hSb, hNb, hAb⟩ := matParts ho
    have hyl : ys.length = h := by rw [hAb.length, List.length_map, hrl]
    refine name_of ?_
    -- what is no matrix
    refine seq_asg (fun v F => ∃ (O : Addr) (xs : List V) (ds : List PyData), v = .ref O ∧ O ≠ pen ∧ F O = some (.lst xs) ∧ xs.length = 7 ∧ DaAll K F pen xs ds ∧ (∀ d ∈ ds, isMatD d p = false) ∧ Same G4 F) ?_ ?_
    · intro R k
      refine ⟨_, rfl, 2, rfl, b, _, rfl, hSb, fun p1 H1 s1 hp1 => ?_⟩
      have d1 : Da K H1 pen (.ref p1) (.tuple [.int h, .int w]) := .tup (show SqT K H1 p1 [.int h, .int w] from hp1) (.cons (.int _) (.cons (.int _) .nil))
      have hSb1 := Same.seqT s1 hSb
      have hNb1 := Same.seqT s1 hNb
      have hA1 := hAb.same s1
      refine ⟨_, rfl, b, _, rfl, .inr hSb1, fun l2 nl2 => ?_⟩
      have s2 := same_upd (o := .lst [.int h, .int w, .ref bn]) nl2
      have d2 : Da K (upd H1 l2 (.lst [.int h, .int w, .ref bn])) pen (.ref l2) (.list [.int h, .int w, .tuple (rows.map rowD)]) :=
        .lst ((P7.same s1).new_ne nl2).1 (.inl (.inl upd_same)) (.cons (.int _) (.cons (.int _) (.cons (.tup (Same.seqT s2 hNb1) (hA1.same s2)) .nil)))
      have d1 := d1.same s2
      have hSb2 := Same.seqT s2 hSb1
      have hNb2 := Same.seqT s2 hNb1
      have hA2 := hA1.same s2
      have s12 := s1.trans s2
      clear s1 s2 hp1 hSb1 hNb1 hA1
      generalize upd H1 l2 (.lst [.int h, .int w, .ref bn]) = H2 at d1 d2 hSb2 hNb2 hA2 s12 ⊢
      refine ⟨_, rfl, _, rfl, _, rfl, b, _, 2, .ref bn, rfl, rfl, hSb2, rfl, _, rfl, sz_le (by simp), fun t3 nt3 => ?_⟩
      have s3 := same_upd (o := .tup [V.int p]) nt3
      refine ⟨_, rfl, t3, w, [.int p], rfl, rfl, .inl (.inl upd_same), by simp, by omega, by simp; omega, fun p4 H4 s4 hp4 => ?_⟩
      have s34 := s3.trans s4
      rw [Int.toNat_natCast, List.flatten_replicate_singleton] at hp4
      have dr : Da K H4 pen (.ref p4) (.tuple (List.replicate w (.int p))) := .tup hp4 (DaAll.rep (.int p) w)
      refine ⟨sz_le (by simp), fun t5 nt5 => ?_⟩
      have s5 := same_upd (o := .tup [V.ref p4]) nt5
      refine ⟨bn, t5, _, _, rfl, rfl, Same.seqT (s34.trans s5) hNb2, .inl (.inl upd_same), sz_le (by show ys.length + 1 ≤ 1000; omega), fun p6 H6 s6 hp6 => ?_⟩
      have s36 := (s34.trans s5).trans s6
      have d6 : Da K H6 pen (.ref p6) (.tuple (rows.map rowD ++ [.tuple (List.replicate w (.int p))])) := .tup hp6 ((hA2.same s36).append (.cons ((dr.same s5).same s6) .nil))
      refine ⟨sz_le (by simp), fun t7 nt7 => ?_⟩
      have s7 := same_upd (o := .tup [.int h, .int w, .ref p6]) nt7
      have d3 : Da K (upd H6 t7 (.tup [.int h, .int w, .ref p6])) pen (.ref t7) (.tuple [.int h, .int w, .tuple (rows.map rowD ++ [.tuple (List.replicate w (.int p))])]) := Da.newT (.cons (.int _) (.cons (.int _) (.cons d6 .nil))) nt7
      have s27 := s36.trans s7
      have d1 := d1.same s27
      have d2 := d2.same s27
      have sG7 := s12.trans s27
      clear s3 s4 s34 s5 s6 s36 s7 s27 hp4 dr hp6 d6 hSb2 hNb2 hA2 s12
      generalize upd H6 t7 (.tup [.int h, .int w, .ref p6]) = H7 at d1 d2 d3 sG7 ⊢
      refine ⟨sz_le (by simp), fun t8 nt8 => ⟨sz_le (by simp), fun t9 nt9 => ⟨sz_le (by simp), fun t10 nt10 => ⟨sz_le (by simp), fun O nO => ?_⟩⟩⟩⟩
      have s8 := same_upd (o := .tup []) nt8
      have s9 := same_upd (o := .tup [V.ref t8]) nt9
      have s10 := same_upd (o := .tup [V.int 0, .int 0, .ref t9]) nt10
      have e8 : Da K (upd H7 t8 (.tup [])) pen (.ref t8) (.tuple []) := Da.newT .nil nt8
      have e9 : Da K (upd (upd H7 t8 (.tup [])) t9 (.tup [.ref t8])) pen (.ref t9) (.tuple [.tuple []]) := Da.newT (.cons e8 .nil) nt9
      have e10 : Da K (upd (upd (upd H7 t8 (.tup [])) t9 (.tup [.ref t8])) t10 (.tup [.int 0, .int 0, .ref t9])) pen (.ref t10) (.tuple [.int 0, .int 0, .tuple [.tuple []]]) := Da.newT (.cons (.int 0) (.cons (.int 0) (.cons e9 .nil))) nt10
      have sO := same_upd (o := .lst [V.non, .int 0, .ref p1, .ref l2, .ref t7, .str (Str.ofString "m"), .ref t10]) nO
      have s80 := (s8.trans s9).trans s10
      have sAll := (sG7.trans s80).trans sO
      have eO := (P7.same (sG7.trans s80)).new_ne nO
      refine k _ _ ⟨O, _, [.none, .int 0, .tuple [.int h, .int w], .list [.int h, .int w, .tuple (rows.map rowD)], .tuple [.int h, .int w, .tuple (rows.map rowD ++ [.tuple (List.replicate w (.int p))])], .str (Str.ofString "m"), .tuple [.int 0, .int 0, .tuple [.tuple []]]],
        rfl, eO.1, upd_same, rfl, ?_, ?_, sAll⟩
      · exact .cons .non (.cons (.int 0) (.cons ((d1.same s80).same sO) (.cons ((d2.same s80).same sO) (.cons ((d3.same s80).same sO) (.cons (.str _) (.cons (e10.same sO) .nil))))))
      · intro d hd
        simp only [List.mem_cons, List.not_mem_nil, or_false] at hd
        rcases hd with rfl | rfl | rfl | rfl | rfl | rfl | rfl
        · rfl
        · rfl
        · rfl
        · rfl
        · refine isMat_len ?_
          rw [List.length_append, List.length_map, hrl]
          show ((h + 1 : Nat) : Int) ≠ h
          omega
        · rfl
        · exact isMat_len (by decide)
    rintro v G5 ⟨O, os, od, rfl, eO, hO, hol, hOA, hbad, s5⟩
    have hLS := s5 _ _ hLS
    have hBD := s5 _ _ hBD
    have ho := ho.same s5
    have hX := hX.same s5
    have P8 := P7.same s5
    clear s5 P7 hSb hNb hAb
    refine name_of ?_
    -- the first
    refine seq_asg (fun v F => ∃ d, Da K F pen v d ∧ (b0 = true → isMatD d p = false) ∧ Oth G5 F pen ∧ PenC F pen c (n4 + 4)) ?_ ?_
    · intro R k
      refine ⟨_, rfl, BD, _, 0, .bl b0, rfl, rfl, .inl (.inl hBD), rfl, b0, rfl, ?_⟩
      cases b0 with
      | true =>
        refine iteT ?_
        refine ⟨_, rfl, _, rfl, pen, c, O, os, _, rfl, P8, by omega, eO, .inl (.inl hO), by omega, by omega, fun x hx F o P => k _ _ ?_⟩
        obtain ⟨d, hd, hdx⟩ := pickD (hOA.othP P8 o) x hx
        exact ⟨d, hdx, fun _ => hbad d hd, o, P.mono (by omega)⟩
      | false =>
        refine iteF ?_
        exact ⟨_, rfl, k _ _ ⟨matD h w rows, ho, fun e => (by cases e), Oth.refl _ _, P8.mono (by omega)⟩⟩
    rintro f1 G6 ⟨d1, hd1, bad1, o6, P9⟩
    have hLS := o6 _ _ eS.1 hLS
    have hBD := o6 _ _ BDp hBD
    have hO := o6 _ _ eO hO
    have ho := ho.othP P8 o6
    have hX := hX.othP P8 o6
    have hOA := hOA.othP P8 o6
    clear o6 P8
    refine name_of ?_
    -- the second
    refine seq_asg (fun v F => ∃ d, Da K F pen v d ∧ (b1 = true → isMatD d p = false) ∧ Oth G6 F pen ∧ PenC F pen c (n4 + 5)) ?_ ?_
    · intro R k
      refine ⟨_, rfl, BD, _, 1, .bl b1, rfl, rfl, .inl (.inl hBD), rfl, b1, rfl, ?_⟩
      cases b1 with
      | true =>
        refine iteT ?_
        refine ⟨_, rfl, _, rfl, pen, c, O, os, _, rfl, P9, by omega, eO, .inl (.inl hO), by omega, by omega, fun x hx F o P => k _ _ ?_⟩
        obtain ⟨d, hd, hdx⟩ := pickD (hOA.othP P9 o) x hx
        exact ⟨d, hdx, fun _ => hbad d hd, o, P.mono (by omega)⟩
      | false =>
        refine iteF ?_
        refine ⟨_, rfl, S, _, 0, x0, rfl, rfl, .inl (.inl hLS), rfl, k _ _ ⟨matD w z l0, ?_, fun e => (by cases e), Oth.refl _ _, P9.mono (by omega)⟩⟩
        cases hX with
        | cons h _ => exact h
    rintro f2 G7 ⟨d2, hd2, bad2, o7, P10⟩
    have hLS := o7 _ _ eS.1 hLS
    have hBD := o7 _ _ BDp hBD
    have ho := ho.othP P9 o7
    have hX := hX.othP P9 o7
    have hd1 := hd1.othP P9 o7
    clear o7 P9 hO hOA hbad hol eO
    refine name_of ?_
    -- the prime
    refine seq_asg (fun v F => ∃ f, Da K F pen v f ∧ (b2 = true → primeD f = false) ∧ (b2 = false → f = .int p) ∧ Oth G7 F pen ∧ PenC F pen c (n4 + 6)) ?_ ?_
    · intro R k
      refine ⟨_, rfl, BD, _, 2, .bl b2, rfl, rfl, .inl (.inl hBD), rfl, b2, rfl, ?_⟩
      cases b2 with
      | true =>
        refine iteT ?_
        refine ⟨_, rfl, sz_le (by simp), fun l nl => ?_⟩
        refine ⟨pen, c, l, _, _, rfl, P10.same (same_upd nl), by omega, (P10.new_ne nl).1, .inl (.inl upd_same), by simp, by simp, fun x hx F o P => k _ _ ?_⟩
        have o' : Oth G7 F pen := (Oth.of_same (same_upd nl)).trans o
        have P' := P.mono (m := n4 + 6) (by omega)
        simp only [List.mem_cons, List.not_mem_nil, or_false] at hx
        rcases hx with rfl | rfl | rfl | rfl | rfl | rfl | rfl
        · exact ⟨.int 0, .int _, fun _ => (by decide +kernel), fun e => (by cases e), o', P'⟩
        · exact ⟨.int 1, .int _, fun _ => (by decide +kernel), fun e => (by cases e), o', P'⟩
        · exact ⟨.int 6, .int _, fun _ => (by decide +kernel), fun e => (by cases e), o', P'⟩
        · exact ⟨.none, .non, fun _ => rfl, fun e => (by cases e), o', P'⟩
        · exact ⟨.bool true, .bl _, fun _ => rfl, fun e => (by cases e), o', P'⟩
        · exact ⟨.str (Str.ofString "2"), .str _, fun _ => rfl, fun e => (by cases e), o', P'⟩
        · exact ⟨.int 100, .int _, fun _ => (by decide +kernel), fun e => (by cases e), o', P'⟩
      | false =>
        refine iteF ?_
        exact ⟨_, rfl, k _ _ ⟨.int p, .int p, fun e => (by cases e), fun _ => rfl, Oth.refl _ _, P10.mono (by omega)⟩⟩
    rintro qv G8 ⟨f, hf, badf, goodf, o8, P11⟩
    have hLS := o8 _ _ eS.1 hLS
    have hBD := o8 _ _ BDp hBD
    have ho := ho.othP P10 o8
    have hX := hX.othP P10 o8
    have hd1 := hd1.othP P10 o8
    have hd2 := hd2.othP P10 o8
    clear o8 P10
    refine name_of ?_
    -- what is refused
    refine ⟨4, rfl, by decide, by decide, ?_⟩
    refine for_range (lo := 0) (n := 4) (fun j σ F => ∃ v11 v18, σ = [some (.ref a), some (.ref pen), some (.int (0 + (i : Int))), some (.int p), some (.int h), some (.int w), some (.int z), some (.ref b), some (.ref S), some (.int nb), some (.str dD.shown), v11, v12, some (.ref BD), some (.ref O), some f1, some f2, some qv, v18, v19] ∧ Same G8 F)
      ⟨_, _, rfl, Same.refl G8⟩ ?_ ?_
    · rintro j σ F hj ⟨v11, v18, rfl, sF⟩
      have hBDF := sF _ _ hBD
      refine name_of ?_
      refine seq_asg (fun v F2 => F2 = F ∧ (v = .non ∨ ∃ t : Str, v = .str t ∧ told3 (0 + (j : Int)) (.int nb) d1 d2 f (.str t))) ?_ ?_
      · intro R k
        refine ⟨_, rfl, BD, _, 2, .bl b2, rfl, rfl, .inl (.inl hBDF), rfl, b2, rfl, ?_⟩
        cases b2 with
        | true =>
          refine iteT ?_
          exact k _ _ ⟨rfl, .inr ⟨_, rfl, .inl ⟨badf rfl, rfl⟩⟩⟩
        | false =>
          refine iteF ?_
          have ef := goodf rfl
          refine ⟨_, rfl, BD, _, 0, .bl b0, rfl, rfl, .inl (.inl hBDF), rfl, b0, rfl, ?_⟩
          cases b0 with
          | true =>
            refine iteT ?_
            refine iteT ?_
            exact k _ _ ⟨rfl, .inr ⟨_, rfl, by rw [ef]; exact told_odd (by omega) (by omega) hprime (.inl (bad1 rfl))⟩⟩
          | false =>
            refine iteF ?_
            refine ⟨_, rfl, BD, _, 1, .bl b1, rfl, rfl, .inl (.inl hBDF), rfl, b1, rfl, ?_⟩
            cases b1 with
            | true =>
              refine iteT ?_
              refine ⟨_, rfl, 0 + (j : Int), 2, rfl, rfl, _, rfl, ?_⟩
              by_cases c2 : 0 + (j : Int) < 2
              · rw [decide_eq_true c2]
                refine iteT ?_
                exact k _ _ ⟨rfl, .inr ⟨_, rfl, by rw [ef]; exact told_odd (by omega) (by omega) hprime (.inr ⟨bad2 rfl, c2⟩)⟩⟩
              · rw [decide_eq_false c2]
                refine iteF ?_
                exact k _ _ ⟨rfl, .inl rfl⟩
            | false =>
              refine iteF ?_
              refine iteF ?_
              exact k _ _ ⟨rfl, .inl rfl⟩
      rintro v _ ⟨rfl, rfl | ⟨t, rfl, ht⟩⟩
      · refine ⟨_, rfl, rfl, _, rfl, ?_⟩
        rw [decide_eq_true rfl]
        refine iteF ?_
        refine iteF ?_
        exact ⟨_, _, rfl, sF⟩
      · refine ⟨_, rfl, rfl, _, rfl, ?_⟩
        rw [decide_eq_false (fun z => nomatch z)]
        refine iteT ?_
        refine ⟨_, rfl, _, rfl, _, rfl, _, rfl, _, rfl, 0 + (j : Int), .int nb, .int nb, f1, d1, f2, d2, qv, f, _, pen, rfl, .int _, hd1.same sF, hd2.same sF, hf.same sF, ht, fun F3 v s3 hv => ?_⟩
        have e : v = .str t := by
          cases hv pen
          rfl
        subst e
        refine ⟨_, rfl, rfl, _, rfl, ?_⟩
        refine word_is rfl ?_
        exact ⟨_, _, rfl, sF.trans s3⟩
    rintro σ F ⟨v11, v18, rfl, sF⟩
    have hLS := sF _ _ hLS
    have ho := ho.same sF
    have hX := hX.same sF
    have hd1 := hd1.same sF
    have hd2 := hd2.same sF
    have P11 := P11.same sF
    clear sF hBD hf badf goodf bad1 bad2
    dsimp only
    refine seq_asg (fun v G => ∃ d, Da K G pen v d ∧ whole d = false ∧ Oth F G pen ∧ PenC G pen c (n4 + 7)) ?_ ?_
    · intro R k
      refine ⟨_, rfl, sz_le (by simp), fun t nt => ⟨sz_le (by simp), fun l nl => ⟨sz_le (by simp), fun L nL => ?_⟩⟩⟩
      have st := same_upd (o := .tup [V.int 1]) nt
      have sl := same_upd (o := .lst [V.int 1]) nl
      have sL := same_upd (o := .lst [V.non, .bl true, .str (Str.ofString "1"), .ref t, .ref l]) nL
      have e1 : Da K (upd F t (.tup [.int 1])) pen (.ref t) (.tuple [.int 1]) := Da.newT (.cons (.int 1) .nil) nt
      have e2 : Da K (upd (upd F t (.tup [.int 1])) l (.lst [.int 1])) pen (.ref l) (.list [.int 1]) := .lst ((P11.same st).new_ne nl).1 (.inl (.inl upd_same)) (.cons (.int 1) .nil)
      have all : DaAll K (upd (upd (upd F t (.tup [.int 1])) l (.lst [.int 1])) L (.lst [V.non, .bl true, .str (Str.ofString "1"), .ref t, .ref l])) pen [V.non, .bl true, .str (Str.ofString "1"), .ref t, .ref l] [.none, .bool true, .str (Str.ofString "1"), .tuple [.int 1], .list [.int 1]] :=
        .cons .non (.cons (.bl _) (.cons (.str _) (.cons ((e1.same sl).same sL) (.cons (e2.same sL) .nil))))
      have sA := (st.trans sl).trans sL
      refine ⟨pen, c, L, _, _, rfl, P11.same sA, by omega, ((P11.same (st.trans sl)).new_ne nL).1, .inl (.inl upd_same), by simp, by simp, fun x hx G o P => k _ _ ?_⟩
      obtain ⟨d, hd, hdx⟩ := pickD (all.othP (P11.same sA) o) x hx
      refine ⟨d, hdx, ?_, (Oth.of_same sA).trans o, P.mono (by omega)⟩
      simp only [List.mem_cons, List.not_mem_nil, or_false] at hd
      rcases hd with rfl | rfl | rfl | rfl | rfl <;> rfl
    rintro ow G9 ⟨dw, hdw, badw, o9, P12⟩
    have hLS := o9 _ _ eS.1 hLS
    have ho := ho.othP P11 o9
    have hX := hX.othP P11 o9
    have hd1 := hd1.othP P11 o9
    have hd2 := hd2.othP P11 o9
    clear o9 P11
    refine name_of ?_
    refine ⟨_, rfl, _, rfl, _, rfl, _, rfl, 2, ow, dw, f1, d1, f2, d2, .int p, .int p, .str (Str.ofString "number"), pen, rfl, hdw, hd1, hd2, .int _, .inr ⟨p, rfl, hprime, .inr (.inr (.inl ⟨rfl, .inl ⟨badw, rfl⟩⟩))⟩, fun F3 v s3 hv => ?_⟩
    have e : v = .str (Str.ofString "number") := by
      cases hv pen
      rfl
    subst e
    refine ⟨rfl, _, rfl, ?_⟩
    refine word_is rfl ?_
    refine ⟨_, rfl, _, rfl, _, rfl, 2, ow, dw, f1, d1, f2, d2, .int 4, .int 4, .str (Str.ofString "prime"), pen, rfl, hdw.same s3, hd1.same s3, hd2.same s3, .int _, .inl ⟨by decide +kernel, rfl⟩, fun F4 v s4 hv => ?_⟩
    have e : v = .str (Str.ofString "prime") := by
      cases hv pen
      rfl
    subst e
    refine ⟨rfl, _, rfl, ?_⟩
    refine word_is rfl ?_
    have s34 := s3.trans s4
    refine ⟨_, rfl, _, rfl, _, rfl, _, rfl, pen, c, S, _, _, _, h, w, rows, p, _, rfl, P12.same s34, by omega, ho.same s34, okO, by omega, by omega, hprime, eS.1, .inl (.inl (s34 _ _ hLS)), hX.same s34, rfl, fun F5 o5 P5 => ⟨true, rfl, ?_⟩⟩
    refine iteF ?_
    exact ⟨_, _, _, _, _, _, _, _, _, _, _, _, _, _, _, _, _, _, rfl, P5.mono (by omega)⟩
end
end K03

set_option Elab.async false
set_option linter.all false
set_option maxRecDepth 100000
set_option maxHeartbeats 8000000
namespace K03
open PySem PySem.Spec PyProof.Rows L2 XA
def d_is_whole : He.DefD := ⟨("is_whole", none), "is_whole", "is_whole", defArgs s_is_whole, defBody s_is_whole, defScope s_is_whole, [], []⟩
def d_is_whole_to : He.DefD := ⟨("is_whole_to", none), "is_whole_to", "is_whole_to", defArgs s_is_whole_to, defBody s_is_whole_to, defScope s_is_whole_to, [], []⟩
def d_is_prime : He.DefD := ⟨("is_prime", none), "is_prime", "is_prime", defArgs s_is_prime, defBody s_is_prime, defScope s_is_prime, [], []⟩
def d_need_prime : He.DefD := ⟨("need_prime", none), "need_prime", "need_prime", defArgs s_need_prime, defBody s_need_prime, defScope s_need_prime, [], []⟩
def d_need_matrix : He.DefD := ⟨("need_matrix", none), "need_matrix", "need_matrix", defArgs s_need_matrix, defBody s_need_matrix, defScope s_need_matrix, [], []⟩
def d_product : He.DefD := ⟨("product", none), "product", "product", defArgs s_product, defBody s_product, defScope s_product, [], []⟩
def d_plus : He.DefD := ⟨("plus", none), "plus", "plus", defArgs s_plus, defBody s_plus, defScope s_plus, [], []⟩
def d_times : He.DefD := ⟨("times", none), "times", "times", defArgs s_times, defBody s_times, defScope s_times, [], []⟩
def d_flipped : He.DefD := ⟨("flipped", none), "flipped", "flipped", defArgs s_flipped, defBody s_flipped, defScope s_flipped, [], []⟩
def d__is_made : He.DefD := ⟨("_is_made", none), "_is_made", "_is_made", defArgs s__is_made, defBody s__is_made, defScope s__is_made, [], []⟩
def d__is_row : He.DefD := ⟨("_is_row", none), "_is_row", "_is_row", defArgs s__is_row, defBody s__is_row, defScope s__is_row, [], []⟩
def d__combined : He.DefD := ⟨("_combined", none), "_combined", "_combined", defArgs s__combined, defBody s__combined, defScope s__combined, [], []⟩
def d__sum : He.DefD := ⟨("_sum", none), "_sum", "_sum", defArgs s__sum, defBody s__sum, defScope s__sum, [], []⟩
def d__law_spread : He.DefD := ⟨("_law_spread", none), "_law_spread", "_law_spread", defArgs s__law_spread, defBody s__law_spread, defScope s__law_spread, [], []⟩
def d__law_open : He.DefD := ⟨("_law_open", none), "_law_open", "_law_open", defArgs s__law_open, defBody s__law_open, defScope s__law_open, [], []⟩
def d__law_anew : He.DefD := ⟨("_law_anew", none), "_law_anew", "_law_anew", defArgs s__law_anew, defBody s__law_anew, defScope s__law_anew, [], []⟩
def d__law_take : He.DefD := ⟨("_law_take", none), "_law_take", "_law_take", defArgs s__law_take, defBody s__law_take, defScope s__law_take, [], []⟩
def d__law_one : He.DefD := ⟨("_law_one", none), "_law_one", "_law_one", defArgs s__law_one, defBody s__law_one, defScope s__law_one, [], []⟩
def d__law_wrong_number : He.DefD := ⟨("_law_wrong_number", none), "_law_wrong_number", "_law_wrong_number", defArgs s__law_wrong_number, defBody s__law_wrong_number, defScope s__law_wrong_number, [], []⟩
def d__law_prime : He.DefD := ⟨("_law_prime", none), "_law_prime", "_law_prime", defArgs s__law_prime, defBody s__law_prime, defScope s__law_prime, [], []⟩
def d__law_matrix : He.DefD := ⟨("_law_matrix", none), "_law_matrix", "_law_matrix", defArgs s__law_matrix, defBody s__law_matrix, defScope s__law_matrix, [], []⟩
def d__law_times : He.DefD := ⟨("_law_times", none), "_law_times", "_law_times", defArgs s__law_times, defBody s__law_times, defScope s__law_times, [], []⟩
def d__law_refusal : He.DefD := ⟨("_law_refusal", none), "_law_refusal", "_law_refusal", defArgs s__law_refusal, defBody s__law_refusal, defScope s__law_refusal, [], []⟩
def d__law_told : He.DefD := ⟨("_law_told", none), "_law_told", "_law_told", defArgs s__law_told, defBody s__law_told, defScope s__law_told, [], []⟩
def d__law_due : He.DefD := ⟨("_law_due", none), "_law_due", "_law_due", defArgs s__law_due, defBody s__law_due, defScope s__law_due, [], []⟩
def d__law_numbers_right : He.DefD := ⟨("_law_numbers_right", none), "_law_numbers_right", "_law_numbers_right", defArgs s__law_numbers_right, defBody s__law_numbers_right, defScope s__law_numbers_right, [], []⟩
def d_law : He.DefD := ⟨("law", none), "law", "law", defArgs s_law, defBody s_law, defScope s_law, [], []⟩
def dfs : List He.DefD := [d_is_whole, d_is_whole_to, d_is_prime, d_need_prime, d_need_matrix, d_product, d_plus, d_times, d_flipped, d__is_made, d__is_row, d__combined, d__sum, d__law_spread, d__law_open, d__law_anew, d__law_take, d__law_one, d__law_wrong_number, d__law_prime, d__law_matrix, d__law_times, d__law_refusal, d__law_told, d__law_due, d__law_numbers_right, d_law]
def fas : List He.Fa := [.glo "RoomError", .glo "NoPrime", .glo "NoNumber", .glo "NoMatrix", .glo "NoFit", .glo "is_whole", .glo "is_whole_to", .glo "is_prime", .glo "need_prime", .glo "need_matrix", .glo "product", .glo "plus", .glo "times", .glo "flipped", .glo "_is_made", .glo "_is_row", .glo "_combined", .glo "_sum", .glo "_law_spread", .glo "_law_open", .glo "_law_anew", .glo "_law_take", .glo "_law_one", .glo "_law_wrong_number", .glo "_law_prime", .glo "_law_matrix", .glo "_law_times", .glo "_law_refusal", .glo "_law_told", .glo "_law_due", .glo "_law_numbers_right", .glo "law", .free "ValueError", .free "all", .free "bool", .free "enumerate", .free "int", .free "isinstance", .free "len", .free "list", .free "range", .free "repr", .free "sum", .free "tuple", .free "zip", .int "GREATEST_PRIME" 97, .int "MOST_ROWS" 2000, .exc "RoomError", .exc "NoPrime", .exc "NoNumber", .exc "NoMatrix", .exc "NoFit"]
def exB (K : PySem.W.Frag) : Bool :=
  (excNames.all fun x => decide (PySem.W.findIn K (.ref (He.ga K x)) "__getattribute__" = some (some (.builtin "BaseException.__getattribute__"))) &&
    decide (PySem.W.findIn K (.ref (He.ga K x)) "__getattr__" = some none) && decide (PySem.W.subIn K (.ref (He.ga K x)) (.type "BaseException") = some true) &&
    PySem.W.hasDictIn K (He.ga K x) && decide (PySem.W.findIn K (.ref (He.ga K x)) "__class__" = some (some (.builtin "object.__class__"))) &&
    decide (PySem.W.specialIn K (.builtin "object.__class__") "__get__" = some (some (.builtin "getset_descriptor.__get__"))) &&
    decide (PySem.W.takesIn K (.builtin "object.__class__") = some true) && decide (PySem.W.mroIn K (He.ga K x) (.type "object") = some true)) &&
  (excNames.all fun x => decide (PySem.W.exmOne K (.ref (He.ga K x)) (.ref (He.ga K "RoomError")) = some true)) &&
  (excNames.all fun x => excNames.all fun y => decide (PySem.W.kitOne K (.ref (He.ga K x)) (.ref (He.ga K y)) = some (decide (x = y) || decide (y = "RoomError")))) &&
  (excNames.all fun y => decide (PySem.W.kitOne K (.type "NoneType") (.ref (He.ga K y)) = some false)) && (excNames.all fun x => decide (PySem.W.kitOne K (.ref (He.ga K x)) (.type "ValueError") = some true))
abbrev R : PySem.W.OpenRow := PySem.W.OpenLaw.row PySem.Challenge.rw_rootrooms_k03_products_sums_times
abbrev hk : PySem.W.Hook := He.hookX 5 fas dfs [] [] exB
def ob (s : PySem.W.SharedT) : He.AlX := He.obsX 5 fas dfs [] [] exB (HandSHeadRun.getT s)
theorem ob_eq (s : PySem.W.SharedT) : ob s = hk.obs s.abs := He.obsX_eq (HandSHeadRun.getT_eq s)
def loose0 : List Str := ["RoomError", "NoPrime", "NoNumber", "NoMatrix", "NoFit", "is_whole", "is_whole_to", "GREATEST_PRIME", "is_prime", "need_prime", "MOST_ROWS", "need_matrix", "product", "plus", "times", "flipped"]
def loose1 : List Str := ["_is_made", "_is_row", "_combined", "_sum", "_law_spread", "_law_open", "_law_anew", "_law_take", "_law_one", "_law_wrong_number", "_law_prime", "_law_matrix", "_law_times", "_law_refusal", "_law_told", "_law_due"]
def loose2 : List Str := ["_law_numbers_right"]
def looseNames : List Str := loose0 ++ loose1 ++ loose2
theorem run (w : World) : HandSHeadRun.RunEq R (PySem.W.view R.prog [38]) hk ob 4000 looseNames w := by
  intro os
  kernel_rfl


theorem txt_of {w : World} {h : Heap} {K : PySem.W.Frag} {mg : Str → Option Value} (X : K.In h) (G : h.Ns mainGlobals mg) (c : He.SaysX fas dfs [] [] exB w h K) : Txt K mg := by
  have D : He.SaysD fas dfs K := c.t.d
  have m := c.more
  simp only [exB, Bool.and_eq_true, List.all_eq_true, decide_eq_true_eq] at m
  obtain ⟨⟨⟨⟨m1, m2⟩, m3⟩, m4⟩, m5⟩ := m
  have ec : ∀ x ∈ excNames, ExcC K (He.ga K x) := by
    intro x hx
    obtain ⟨⟨⟨⟨⟨⟨⟨a1, a2⟩, a3⟩, a4⟩, a5⟩, a6⟩, a7⟩, a8⟩ := m1 x hx
    exact ⟨a1, a2, a3, a4, a5, a6, a7, a8⟩
  exact {
    g_RoomError := He.glo_ok X G (D.fact 0)
    g_NoPrime := He.glo_ok X G (D.fact 1)
    g_NoNumber := He.glo_ok X G (D.fact 2)
    g_NoMatrix := He.glo_ok X G (D.fact 3)
    g_NoFit := He.glo_ok X G (D.fact 4)
    g_is_whole := He.glo_ok X G (D.fact 5)
    g_is_whole_to := He.glo_ok X G (D.fact 6)
    g_is_prime := He.glo_ok X G (D.fact 7)
    g_need_prime := He.glo_ok X G (D.fact 8)
    g_need_matrix := He.glo_ok X G (D.fact 9)
    g_product := He.glo_ok X G (D.fact 10)
    g_plus := He.glo_ok X G (D.fact 11)
    g_times := He.glo_ok X G (D.fact 12)
    g_flipped := He.glo_ok X G (D.fact 13)
    g__is_made := He.glo_ok X G (D.fact 14)
    g__is_row := He.glo_ok X G (D.fact 15)
    g__combined := He.glo_ok X G (D.fact 16)
    g__sum := He.glo_ok X G (D.fact 17)
    g__law_spread := He.glo_ok X G (D.fact 18)
    g__law_open := He.glo_ok X G (D.fact 19)
    g__law_anew := He.glo_ok X G (D.fact 20)
    g__law_take := He.glo_ok X G (D.fact 21)
    g__law_one := He.glo_ok X G (D.fact 22)
    g__law_wrong_number := He.glo_ok X G (D.fact 23)
    g__law_prime := He.glo_ok X G (D.fact 24)
    g__law_matrix := He.glo_ok X G (D.fact 25)
    g__law_times := He.glo_ok X G (D.fact 26)
    g__law_refusal := He.glo_ok X G (D.fact 27)
    g__law_told := He.glo_ok X G (D.fact 28)
    g__law_due := He.glo_ok X G (D.fact 29)
    g__law_numbers_right := He.glo_ok X G (D.fact 30)
    g_law := He.glo_ok X G (D.fact 31)
    f_ValueError := He.free_ok X G (D.fact 32)
    f_all := He.free_ok X G (D.fact 33)
    f_bool := He.free_ok X G (D.fact 34)
    f_enumerate := He.free_ok X G (D.fact 35)
    f_int := He.free_ok X G (D.fact 36)
    f_isinstance := He.free_ok X G (D.fact 37)
    f_len := He.free_ok X G (D.fact 38)
    f_list := He.free_ok X G (D.fact 39)
    f_range := He.free_ok X G (D.fact 40)
    f_repr := He.free_ok X G (D.fact 41)
    f_sum := He.free_ok X G (D.fact 42)
    f_tuple := He.free_ok X G (D.fact 43)
    f_zip := He.free_ok X G (D.fact 44)
    c_GREATEST_PRIME := He.int_ok X G (D.fact 45)
    c_MOST_ROWS := He.int_ok X G (D.fact 46)
    x_RoomError := (He.exc_ok (D.fact 47)).1
    k_RoomError := (He.exc_ok (D.fact 47)).2.1
    b_RoomError := (He.exc_ok (D.fact 47)).2.2.1
    t_RoomError := (He.exc_ok (D.fact 47)).2.2.2
    e_RoomError := ec _ (by decide)
    x_NoPrime := (He.exc_ok (D.fact 48)).1
    k_NoPrime := (He.exc_ok (D.fact 48)).2.1
    b_NoPrime := (He.exc_ok (D.fact 48)).2.2.1
    t_NoPrime := (He.exc_ok (D.fact 48)).2.2.2
    e_NoPrime := ec _ (by decide)
    x_NoNumber := (He.exc_ok (D.fact 49)).1
    k_NoNumber := (He.exc_ok (D.fact 49)).2.1
    b_NoNumber := (He.exc_ok (D.fact 49)).2.2.1
    t_NoNumber := (He.exc_ok (D.fact 49)).2.2.2
    e_NoNumber := ec _ (by decide)
    x_NoMatrix := (He.exc_ok (D.fact 50)).1
    k_NoMatrix := (He.exc_ok (D.fact 50)).2.1
    b_NoMatrix := (He.exc_ok (D.fact 50)).2.2.1
    t_NoMatrix := (He.exc_ok (D.fact 50)).2.2.2
    e_NoMatrix := ec _ (by decide)
    x_NoFit := (He.exc_ok (D.fact 51)).1
    k_NoFit := (He.exc_ok (D.fact 51)).2.1
    b_NoFit := (He.exc_ok (D.fact 51)).2.2.1
    t_NoFit := (He.exc_ok (D.fact 51)).2.2.2
    e_NoFit := ec _ (by decide)
    exm := m2
    kit := m3
    kitN := m4, kitV := m5 }
theorem law_ok {P : Program} {w w' : World} {K : PySem.W.Frag} {h : Heap} {mg : Str → Option Value} {f : Addr} (X : K.In h) (G : h.Ns mainGlobals mg) (hfa : mg ("law" : Str) = some (.ref f)) (c : He.SaysX fas dfs [] [] exB w' h K) :
    ∃ fd : FuncData, (∀ (s : Shared) (v : Value), BindsTo s fd ⟨[v], []⟩ [("script", v)]) ∧
      ∀ base : Heap, K.In base → base.Ns mainGlobals mg → FnAt P w K mg base CX0 callerA f fd ["script"] (sp_law K) := by
  have T := txt_of X G c
  have D : He.SaysD fas dfs K := c.t.d
  obtain ⟨fd_is_whole, F_is_whole⟩ := D.def_ 0 (d := d_is_whole) rfl
  have F_is_whole : FnP K "is_whole" s_is_whole fd_is_whole := F_is_whole
  obtain ⟨fd_is_whole_to, F_is_whole_to⟩ := D.def_ 1 (d := d_is_whole_to) rfl
  have F_is_whole_to : FnP K "is_whole_to" s_is_whole_to fd_is_whole_to := F_is_whole_to
  obtain ⟨fd_is_prime, F_is_prime⟩ := D.def_ 2 (d := d_is_prime) rfl
  have F_is_prime : FnP K "is_prime" s_is_prime fd_is_prime := F_is_prime
  obtain ⟨fd_need_prime, F_need_prime⟩ := D.def_ 3 (d := d_need_prime) rfl
  have F_need_prime : FnP K "need_prime" s_need_prime fd_need_prime := F_need_prime
  obtain ⟨fd_need_matrix, F_need_matrix⟩ := D.def_ 4 (d := d_need_matrix) rfl
  have F_need_matrix : FnP K "need_matrix" s_need_matrix fd_need_matrix := F_need_matrix
  obtain ⟨fd_product, F_product⟩ := D.def_ 5 (d := d_product) rfl
  have F_product : FnP K "product" s_product fd_product := F_product
  obtain ⟨fd_plus, F_plus⟩ := D.def_ 6 (d := d_plus) rfl
  have F_plus : FnP K "plus" s_plus fd_plus := F_plus
  obtain ⟨fd_times, F_times⟩ := D.def_ 7 (d := d_times) rfl
  have F_times : FnP K "times" s_times fd_times := F_times
  obtain ⟨fd_flipped, F_flipped⟩ := D.def_ 8 (d := d_flipped) rfl
  have F_flipped : FnP K "flipped" s_flipped fd_flipped := F_flipped
  obtain ⟨fd__is_made, F__is_made⟩ := D.def_ 9 (d := d__is_made) rfl
  have F__is_made : FnP K "_is_made" s__is_made fd__is_made := F__is_made
  obtain ⟨fd__is_row, F__is_row⟩ := D.def_ 10 (d := d__is_row) rfl
  have F__is_row : FnP K "_is_row" s__is_row fd__is_row := F__is_row
  obtain ⟨fd__combined, F__combined⟩ := D.def_ 11 (d := d__combined) rfl
  have F__combined : FnP K "_combined" s__combined fd__combined := F__combined
  obtain ⟨fd__sum, F__sum⟩ := D.def_ 12 (d := d__sum) rfl
  have F__sum : FnP K "_sum" s__sum fd__sum := F__sum
  obtain ⟨fd__law_spread, F__law_spread⟩ := D.def_ 13 (d := d__law_spread) rfl
  have F__law_spread : FnP K "_law_spread" s__law_spread fd__law_spread := F__law_spread
  obtain ⟨fd__law_open, F__law_open⟩ := D.def_ 14 (d := d__law_open) rfl
  have F__law_open : FnP K "_law_open" s__law_open fd__law_open := F__law_open
  obtain ⟨fd__law_anew, F__law_anew⟩ := D.def_ 15 (d := d__law_anew) rfl
  have F__law_anew : FnP K "_law_anew" s__law_anew fd__law_anew := F__law_anew
  obtain ⟨fd__law_take, F__law_take⟩ := D.def_ 16 (d := d__law_take) rfl
  have F__law_take : FnP K "_law_take" s__law_take fd__law_take := F__law_take
  obtain ⟨fd__law_one, F__law_one⟩ := D.def_ 17 (d := d__law_one) rfl
  have F__law_one : FnP K "_law_one" s__law_one fd__law_one := F__law_one
  obtain ⟨fd__law_wrong_number, F__law_wrong_number⟩ := D.def_ 18 (d := d__law_wrong_number) rfl
  have F__law_wrong_number : FnP K "_law_wrong_number" s__law_wrong_number fd__law_wrong_number := F__law_wrong_number
  obtain ⟨fd__law_prime, F__law_prime⟩ := D.def_ 19 (d := d__law_prime) rfl
  have F__law_prime : FnP K "_law_prime" s__law_prime fd__law_prime := F__law_prime
  obtain ⟨fd__law_matrix, F__law_matrix⟩ := D.def_ 20 (d := d__law_matrix) rfl
  have F__law_matrix : FnP K "_law_matrix" s__law_matrix fd__law_matrix := F__law_matrix
  obtain ⟨fd__law_times, F__law_times⟩ := D.def_ 21 (d := d__law_times) rfl
  have F__law_times : FnP K "_law_times" s__law_times fd__law_times := F__law_times
  obtain ⟨fd__law_refusal, F__law_refusal⟩ := D.def_ 22 (d := d__law_refusal) rfl
  have F__law_refusal : FnP K "_law_refusal" s__law_refusal fd__law_refusal := F__law_refusal
  obtain ⟨fd__law_told, F__law_told⟩ := D.def_ 23 (d := d__law_told) rfl
  have F__law_told : FnP K "_law_told" s__law_told fd__law_told := F__law_told
  obtain ⟨fd__law_due, F__law_due⟩ := D.def_ 24 (d := d__law_due) rfl
  have F__law_due : FnP K "_law_due" s__law_due fd__law_due := F__law_due
  obtain ⟨fd__law_numbers_right, F__law_numbers_right⟩ := D.def_ 25 (d := d__law_numbers_right) rfl
  have F__law_numbers_right : FnP K "_law_numbers_right" s__law_numbers_right fd__law_numbers_right := F__law_numbers_right
  obtain ⟨fd_law, F_law⟩ := D.def_ 26 (d := d_law) rfl
  have F_law : FnP K "law" s_law fd_law := F_law
  have e := hfa.symm.trans T.g_law
  cases e
  have b := FunD.bindsA (ps := ["script"]) F_law fun _ _ _ _ _ _ us hl => match us, hl with | [_], _ => rfl
  refine ⟨fd_law, fun s v => b s [v] rfl, fun base _ _ => ?_⟩
  have H_is_whole := ok_is_whole (P := P) (w := w) (base := base) T F_is_whole
  have H__combined := ok__combined (P := P) (w := w) (base := base) T F__combined
  have H__sum := ok__sum (P := P) (w := w) (base := base) T F__sum
  have H__law_spread := ok__law_spread (P := P) (w := w) (base := base) T F__law_spread
  have H__law_open := ok__law_open (P := P) (w := w) (base := base) T F__law_open
  have H__law_anew := ok__law_anew (P := P) (w := w) (base := base) T F__law_anew
  have H__law_times := ok__law_times (P := P) (w := w) (base := base) T F__law_times
  have H__law_refusal := ok__law_refusal (P := P) (w := w) (base := base) T F__law_refusal
  have H_is_whole_to := ok_is_whole_to (P := P) (w := w) (base := base) T F_is_whole_to H_is_whole
  have H_is_prime := ok_is_prime (P := P) (w := w) (base := base) T F_is_prime H_is_whole
  have H__law_take := ok__law_take (P := P) (w := w) (base := base) T F__law_take H__law_spread
  have H__law_due := ok__law_due (P := P) (w := w) (base := base) T F__law_due H__law_times
  have H_need_prime := ok_need_prime (P := P) (w := w) (base := base) T F_need_prime H_is_prime
  have H__is_row := ok__is_row (P := P) (w := w) (base := base) T F__is_row H_is_whole_to
  have H__law_one := ok__law_one (P := P) (w := w) (base := base) T F__law_one H__law_take
  have H__law_matrix := ok__law_matrix (P := P) (w := w) (base := base) T F__law_matrix H__law_take
  have H__is_made := ok__is_made (P := P) (w := w) (base := base) T F__is_made H_is_whole_to H__is_row
  have H__law_wrong_number := ok__law_wrong_number (P := P) (w := w) (base := base) T F__law_wrong_number H__law_take H__law_one
  have H__law_prime := ok__law_prime (P := P) (w := w) (base := base) T F__law_prime H__law_one
  have H_need_matrix := ok_need_matrix (P := P) (w := w) (base := base) T F_need_matrix H__is_made
  have H_product := ok_product (P := P) (w := w) (base := base) T F_product H_need_prime H_need_matrix H__combined
  have H_plus := ok_plus (P := P) (w := w) (base := base) T F_plus H_need_prime H_need_matrix H__sum
  have H_times := ok_times (P := P) (w := w) (base := base) T F_times H_is_whole H_need_prime H_need_matrix
  have H_flipped := ok_flipped (P := P) (w := w) (base := base) T F_flipped H_need_prime H_need_matrix
  have H__law_told := ok__law_told (P := P) (w := w) (base := base) T F__law_told H_product H_plus H_times H_flipped H__law_refusal
  have H__law_numbers_right := ok__law_numbers_right (P := P) (w := w) (base := base) T F__law_numbers_right H__law_wrong_number H__law_told
  exact okF_law (P := P) (w := w) (base := base) T F_law H__law_open H__law_anew H__law_take H__law_one H__law_prime H__law_matrix H__law_told H__law_due H__law_numbers_right
end K03
open PySem PySem.W PySem.Calls PyProof.Rows
set_option maxRecDepth 100000 in
set_option maxHeartbeats 0 in
theorem PySem.Challenge.cw_rootrooms_k03_products_sums_times_holds : PySem.Challenge.rw_rootrooms_k03_products_sums_times.Holds := by
  w_on; o_law
  refine HandSHeadRun.head_any (r := OpenLaw.row PySem.Challenge.rw_rootrooms_k03_products_sums_times) (q := view (OpenLaw.row PySem.Challenge.rw_rootrooms_k03_products_sums_times).prog [38]) (H := K03.hk) (ob := K03.ob) (M := 4000) (loose := K03.looseNames) (d := HandSHeadRun.topDef (OpenLaw.row PySem.Challenge.rw_rootrooms_k03_products_sums_times).prog 38) (kwd := []) K03.ob_eq
    (by kernel_rfl) (fun s => by kernel_rfl) K03.run (by kernel_rfl) (by kernel_rfl) (by kernel_rfl) (by rfl) (by first | assumption | decide +kernel) (by decide +kernel) ⟨rfl, rfl, rfl, rfl, rfl, by decide +kernel⟩ ?hw ?hc
  case hw => w_witness2
  case hc =>
    refine XA.walk_at (l := PySem.Challenge.rw_rootrooms_k03_products_sums_times) (n := 63) (x := "script") rfl (by decide) (by kernel_rfl) ?F
    intro w mg fa h Y G hmg0
    obtain ⟨K, KX, c⟩ := Y
    have hmg : mg ("law" : PySem.Str) = some (.ref fa) := by
      have e : (HandSHeadRun.topDef (OpenLaw.row PySem.Challenge.rw_rootrooms_k03_products_sums_times).prog 38).name = ("law" : PySem.Str) := by kernel_rfl
      rw [← e]
      exact hmg0
    obtain ⟨fd, hb, hF⟩ := K03.law_ok (P := (PySem.Challenge.rw_rootrooms_k03_products_sums_times).prog) (w := w) KX G hmg c
    exact ⟨K, fd, K03.sp_law K, KX, hb, fun H a ns hl _ hS => ⟨a, ns, rfl, hS, hl, fun _ => rfl⟩, hF⟩

