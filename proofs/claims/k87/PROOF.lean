import PyProof.Rows.All
import Wide.All
import OpenK.AllK
import Wide.FinOn
import HandS.ForMost
import HandS.ForExc
import HandS.ExcInit
import HandS.ExcField
import HandS.TryMany
import HandS.IsInst
import HandS.Gcd
import HandS.Wide
import HandS.TupMul
import HandS.TupAny
import HandS.TupLe
import HandS.Deep
import HandS.Flow
import HandS.Defaults
import HandS.Evl
import HandS.More
import KE.KMathGC
import KE.KTupSum
import HandS.Walk
import KE.GoesMore
import HandS.Style
import PyProof.WalksMore
import PyProof.WalkInts
import PyProof.P3Eq
import PySem.Challenge.RW_upforgood_k87_numbers_of_stars
set_option Elab.async false
set_option linter.all false
set_option maxRecDepth 100000
set_option maxHeartbeats 4000000
namespace L2.U
open PySem PySem.Spec PyProof.Rows Evl

/-! ## several except clauses, each with a name or without one -/
structure Clause where
  cls : Value
  slot : Option Nat
  rd : Addr → Value → Option Addr → TS
def afterC : Option Nat → Ends → Ends
  | none, D => D
  | some i, D => ⟨fun s h => D.nx (s.set i none) h, D.rt, fun s h => D.bk (s.set i none) h, fun s h => D.ct (s.set i none) h⟩
def holdC : Option Nat → Addr → St → St
  | none, _, s => s
  | some i, a, s => s.set i (some (.ref a))
def wishC (K : PySem.W.Frag) (Wo : WX) (D : Ends) : List Clause → WX
  | [] => Wo
  | c :: r => fun cls d s h => ∃ b, PySem.W.exmOne K cls c.cls = some b ∧
      (b = true → ∀ a, h a = none → c.rd a cls d (afterC c.slot D) (holdC c.slot a s) h) ∧ (b = false → wishC K Wo D r cls d s h)
abbrev SuiteOk (X : Cx) (body : List Stmt) (rd : Addr → Value → Option Addr → TS) : Prop :=
  ∀ (a : Addr) (o : Obj) (cls : Value) (d : Option Addr) (pn : List (Addr × Obj)), Zc cls d o → (∃ vs, o.data = .fields vs) → PSs (X.suite a ((a, o) :: pn)) body (rd a cls d)
inductive ClauseOk (X : Cx) : ExceptHandler → Clause → Prop
  | bare {x : Str} {c : Value} {rd} {b0 : Stmt} {su : List Stmt} {np p : Pos} (hc : Names X x c) (hs : SuiteOk X (b0 :: su) rd) :
      ClauseOk X (.ExceptHandler (some (.Name x np)) none (b0 :: su) p) ⟨c, none, rd⟩
  | named {x n : Str} {i : Nat} {c : Value} {rd} {b0 : Stmt} {su : List Stmt} {np p : Pos} (hN : X.N.Nodup) (hi : X.N[i]? = some n)
      (hl : X.env.kindOf n = some .local) (hc : Names X x c) (hs : SuiteOk X (b0 :: su) rd) :
      ClauseOk X (.ExceptHandler (some (.Name x np)) (some n) (b0 :: su) p) ⟨c, some i, rd⟩
inductive ClausesOk (X : Cx) : List ExceptHandler → List Clause → Prop
  | nil : ClausesOk X [] []
  | cons {h c hs cs} (a : ClauseOk X h c) (r : ClausesOk X hs cs) : ClausesOk X (h :: hs) (c :: cs)
section
variable {X : Cx} {body : List Stmt} {h0 : ExceptHandler} {hds : List ExceptHandler} {cs : List Clause} {pos : Pos} {tb : WX → TS} {Wo : WX}
theorem ps_tryC (hs : X.stack = X.env :: X.outer) (hf : X.env.frame = some X.env.locals) (tk : Takes X Wo)
    (hb : ∀ (W : WX) (pn : List (Addr × Obj)) (xe : Value → Shared → Prop), Takes (X.tr pn xe) W → PassesOwn (model X.prog X.w) X.A X.env xe → PSs (X.tr pn xe) body (tb W))
    (hh : ClausesOk X (h0 :: hds) cs) : PS X (.Try body (h0 :: hds) [] [] pos) (fun D s h => tb (wishC X.K Wo D cs) D s h) := by
  constructor
  intro pins s σ H D I h
  have ok := I.ok
  have frames : X.A.frames = some (X.env :: X.outer) := by rw [ok.frames, hs]
  refine wpAny_Try_except ?_
  let caught : Value → Shared → Prop := fun e s1 =>
    wpAny (model X.prog X.w) X.A (noteFrame e X.env) (fun _ s2 => wpAny (model X.prog X.w) X.A (setFlight e none)
      (fun _ s3 => wpAny (model X.prog X.w) X.A (handleBy e X.env (h0 :: hds)) (SP X pins D) X.xe s3) X.xe s2) X.xe s1
  have takesB : Takes (X.tr (X.pn ++ pins) caught) (wishC X.K Wo D cs) := by
    rintro u s' ⟨a, B, sI, pins', σ', H', cls, d, rfl, J0, nb, up, sky, na, os, ag, w⟩
    have J : Inv X pins σ' H' sI := J0.ofTry ok
    have sky1 : Sky B (X.env :: X.outer) a (Zc cls d) X.env.locals s'.heap := hs ▸ sky
    show wpAny _ X.A (noteFrame (.ref a) X.env) _ _ _
    refine Sky.land Zc.steady frames hf sky1 fun h3 fl up3 => ?_
    have J3 : Inv X pins σ' H' { s' with heap := h3 } := J.landed nb fl.1 (up.trans up3) os ag
    obtain ⟨o3, v3, g3, z3, d3⟩ := fl.there
    have out : a ∉ frs (X.env :: X.outer) := by
      intro hm
      obtain ⟨_, o', e', no⟩ := fl.2.2.1.mem hm
      rw [g3] at e'
      cases e'
      exact no _ d3
    have nL : a ≠ X.env.locals := by
      intro z
      exact out (List.mem_filterMap.mpr ⟨X.env, List.mem_cons_self, z ▸ hf⟩)
    have nF : a ∉ X.fs := by
      intro hm
      obtain ⟨e, he, q⟩ := List.mem_filterMap.mp hm
      exact out (List.mem_filterMap.mpr ⟨e, List.mem_cons_of_mem _ he, q⟩)
    have S3 := J3.suite g3 d3 na nL nF
    have ty : PySem.W.Looks (model X.prog X.w) h3 (typeOf (.ref a)) cls := fun A Q E t k q => wpAny_typeOf_ref (k _ _ g3) (by rw [z3.1]; exact q)
    have asked : ∀ {x : Str} {c : Value} {np : Pos} {Q E : Value → Shared → Prop}, Names X x c → Q c { s' with heap := h3 } →
        wpAny (model X.prog X.w) (X.A.mark (some (.ref a))) (eval (.Name x np) X.env) Q E { s' with heap := h3 } := by
      rintro x c np Q E ⟨hg, hd, hm | ⟨hm, hv, hn⟩⟩ q
      · exact ld_glob (X := X.suite a ((a, o3) :: (X.pn ++ pins))) S3 hg hm q hd
      · exact ld_blt (X := X.suite a ((a, o3) :: (X.pn ++ pins))) S3 hg hm hv q hn hd
    have run : ∀ {l : List ExceptHandler} {k : List Clause}, ClausesOk X l k → wishC X.K Wo D k cls d σ' H' →
        wpAny (model X.prog X.w) X.A (handleBy (.ref a) X.env l) (SP X pins D) X.xe { s' with heap := h3 } := by
      intro l k hk
      induction hk with
      | nil =>
        intro w
        refine wpAny_handleBy_nil ?_
        obtain ⟨_, _, _, oe, vs, T, oT, ts, he, _, hd, h1, _⟩ := id fl
        unfold PySem.passOn
        refine wpAny_bind (wpAny_field he hd h1 ?_)
        rw [if_neg (by simp : ¬ ((Value.ref T == Value.none) = true))]
        have up : wpAny (model X.prog X.w) X.A (setFlight (.ref a) X.env.frame)
            (fun _ t => wpAny (model X.prog X.w) X.A (throw (.ref a) : Sem Flow) (SP X pins D) X.xe t) X.xe { s' with heap := h3 } := by
          rw [hf]
          refine HandSPX.setFlight_upZ fl fun h4 hh4 up4 => wpAny_throw (tk _ _ ?_)
          refine ⟨a, B, sI, pins, σ', H', cls, d, rfl, J, nb, (up.trans up3).trans up4, .inr (.inr ?_), na, os, ag, w⟩
          rw [hs]
          exact hh4
        first
          | exact wpAny_bind (wpAny_pure (wpAny_bind up))
          | exact wpAny_bind up
      | @cons h1 c hs1 cs1 hc1 _ ih =>
        rintro ⟨b, mb, yes, no⟩
        have LM := PySem.W.exm_one (M := model X.prog X.w) J3.kIn ty mb
        cases hc1 with
        | @bare x c rd b0 su np p hc hsu =>
          refine wpAny_handleBy_cons (codeAny_handlers_test ?_) (by intro q; cases q)
          refine asked hc (LM.here ?_)
          cases b with
          | false => exact ih (no rfl)
          | true =>
            refine codeAny_handlers_suite (HandSPX.lands_againZ fl fun h4 fl4 up4 => ?_)
            have J4 : Inv X pins σ' H' { s' with heap := h4 } := J.landed nb fl4.1 ((up.trans up3).trans up4) os ag
            obtain ⟨o4, v4, g4, z4, d4⟩ := fl4.there
            refine wpAny_mono ((hsu a o4 cls d (X.pn ++ pins) z4 ⟨_, d4⟩).run [] _ _ H' _ (J4.suite g4 d4 na nL nF) (yes rfl a na)) ?_ (fun _ _ z => False.elim z)
            intro f s6 sp
            cases f with
            | ret u => obtain ⟨v6, σ6, H6, S6, r6, q6⟩ := sp; exact ⟨_, _, _, S6.unsuite ok, r6, q6⟩
            | next => obtain ⟨σ6, H6, S6, q6⟩ := sp; exact ⟨_, _, S6.unsuite ok, q6⟩
            | brk => obtain ⟨σ6, H6, S6, q6⟩ := sp; exact ⟨_, _, S6.unsuite ok, q6⟩
            | cont => obtain ⟨σ6, H6, S6, q6⟩ := sp; exact ⟨_, _, S6.unsuite ok, q6⟩
        | @named x n i c rd b0 su np p hN hi hl hc hsu =>
          refine wpAny_handleBy_cons (codeAny_handlers_test ?_) (by intro q; cases q)
          refine asked hc (LM.here ?_)
          cases b with
          | false => exact ih (no rfl)
          | true =>
            refine codeAny_handlers_suite_as (HandSPX.lands_againZ fl fun h4 fl4 up4 => ?_)
            have J4 : Inv X pins σ' H' { s' with heap := h4 } := J.landed nb fl4.1 ((up.trans up3).trans up4) os ag
            obtain ⟨o4, v4, g4, z4, d4⟩ := fl4.there
            refine store_ok (X := X.suite a ((a, o4) :: (X.pn ++ pins))) (v := .ref a) (J4.suite g4 d4 na nL nF) hN hi (.inl hl) rfl (fun s5 S5 => ?_) (.inr hl)
            refine wpAny_mono ((hsu a o4 cls d (X.pn ++ pins) z4 ⟨_, d4⟩).run [] s5 _ H' _ S5 (yes rfl a na)) ?_ (fun _ _ z => False.elim z)
            intro f s6 sp
            have gone : ∀ {σ6 : St} {H6 : Hp} {Q : Shared → Prop}, Inv (X.suite a ((a, o4) :: (X.pn ++ pins))) [] σ6 H6 s6 → (∀ t, Inv X pins (σ6.set i none) H6 t → Q t) →
                wpAny (model X.prog X.w) X.A (do bindName X.env n .none; unbindBehindTheSuite X.env n p) (fun _ t => Q t) X.xe s6 := fun S6 hq => gone_ok (S6.unsuite ok) hN hi hl hq
            cases f with
            | ret u => obtain ⟨v6, σ6, H6, S6, r6, q6⟩ := sp; exact gone S6 fun t J7 => ⟨_, _, _, J7, r6, q6⟩
            | next => obtain ⟨σ6, H6, S6, q6⟩ := sp; exact gone S6 fun t J7 => ⟨_, _, J7, q6⟩
            | brk => obtain ⟨σ6, H6, S6, q6⟩ := sp; exact gone S6 fun t J7 => ⟨_, _, J7, q6⟩
            | cont => obtain ⟨σ6, H6, S6, q6⟩ := sp; exact gone S6 fun t J7 => ⟨_, _, J7, q6⟩
    exact run hh w
  refine wpAny_mono ((hb (wishC X.K Wo D cs) (X.pn ++ pins) caught takesB PassesOwn.looking).run [] s σ H D (I.toTry _) h) ?_ (fun e s1 he => he)
  intro f s1 sp
  cases f with
  | ret u => obtain ⟨v, σ', H', J', r, q⟩ := sp; exact ⟨v, σ', H', J'.ofTry ok, r, q⟩
  | next => obtain ⟨σ', H', J', q⟩ := sp; exact wpAny_execs_nil ⟨σ', H', J'.ofTry ok, q⟩
  | brk => obtain ⟨σ', H', J', q⟩ := sp; exact ⟨σ', H', J'.ofTry ok, q⟩
  | cont => obtain ⟨σ', H', J', q⟩ := sp; exact ⟨σ', H', J'.ofTry ok, q⟩
end

/-! ## f(k = v, ..): keywords alone -/
def tCallKw (sp : Sp) (pm : List V → List V) (E : St → XK) (tk : TA) : TE := fun σ H Q => tk σ H fun zs H1 => sp (pm zs) H1 Q (E σ)
section
variable {X : Cx} {CX : CXT} {k : Nat} {f : Addr} {fd : FuncData} {ps ks : List Str} {sp : Sp} {E : St → XK} {x : Str} {p pos : Pos} {kws : List Keyword} {tk : TA}
  {g : List Value → List Value → List Value} {gV : List V → List V → List V}
theorem pe_callKw (F : FnOk X.prog X.w X.K X.mg X.base CX k f fd ps sp) (hr : Room k X.A) (hg : Gl X x) (hm : X.mg x = some (.ref f)) (hk : PySem.W.keepIn X.K (.ref f) = true)
    (hb : KBinds X.K fd ps ks g gV) (hx : ∀ σ, PassesAt CX X σ (E σ)) (hkw : PK X kws tk)
    (hall : (backToKw pos (keywordEach kws X.env)).all (·.1.isSome) = true := by rfl) (hks : (backToKw pos (keywordEach kws X.env)).filterMap (·.1) = ks := by rfl)
    (hdb : (x == ("__debug__" : Str)) = false := by decide)
    (hpl : ((backTo pos (starEach [] X.env)).any (·.1) || (backToKw pos (keywordEach kws X.env)).any (·.1.isNone)) = false := by rfl) :
    PE X (.Call (.Name x p) [] kws pos) (tCallKw sp (gV []) E tk) := by
  constructor
  intro pins s σ H Q I h
  refine wpAny_Call_Name_kw (ld_glob I hg hm ?_ hdb)
  refine PySem.W.callWith_KW0 (h₀ := X.base) I.ok.mod.kin hk hall (thn (hkw.run pos pins s σ H _ I h) ?_) hpl
  rintro ws s2 ⟨zs, H2, I2, rz, q2⟩
  refine ⟨I2.kIn, ?_⟩
  rw [hks]
  have r2 : Vals (gV [] zs) (g [] ws) := hb.rel .nil rz
  have hl : (g [] ws).length = ps.length := by rw [← r2.length]; exact F.len _ _ _ _ q2
  refine wpAny_call (codeAny_mono (F.run X.A X.stack s2 H2 ⟨[], ks.zip ws⟩ (g [] ws) (gV [] zs) Q (E σ) hr I2.env0 (hb.to s2 [] ws I2.kIn hl) r2 q2) ?_)
  intro r s' hq
  cases r with
  | error e => exact hx σ pins H2 s2 e s' I2 hq
  | ok fl => cases fl with
    | ret u => exact I2.after hq
    | next => exact False.elim hq
    | brk => exact False.elim hq
    | cont => exact False.elim hq
end

/-! ## math.comb, and tuple * int with few turns -/
section
variable {X : Cx}
def rComb : List V → Hp → VK → Prop := fun vs H Q => ∃ a b : Int, vs = [.int a, .int b] ∧ 0 ≤ a ∧ a ≤ 1000 ∧ 0 ≤ b ∧ b ≤ 1000 ∧ Q (.int (PySem.W.mcComb a b)) H
theorem cr_comb : CallR X (.builtin "math.comb") rComb := by
  intro pins s σ H vs us Q I r h
  obtain ⟨a, b, rfl, h1, h2, h3, h4, q⟩ := h
  obtain ⟨u1, u2, rfl, r1, r2⟩ := vals2 r
  obtain ⟨t, rfl⟩ := r1
  obtain ⟨u, rfl⟩ := r2
  exact PySem.W.mc_comb h1 h3 (by omega) (by omega) fun _ => ⟨.int _, H, I.tok _, ⟨_, rfl⟩, q⟩
end

/-! ## sum of a list or a tuple of ints; x *= y of great ints; a for over a list or a tuple -/
section
variable {X : Cx}
def rSumS (K : PySem.W.Frag) : List V → Hp → VK → Prop := fun vs H Q => ∃ (a : Addr) (ns : List Int), vs = [V.ref a] ∧ (SqL K H a (ns.map V.int) ∨ SqT K H a (ns.map V.int)) ∧ Q (.int ns.sum) H
theorem cr_sumS (hc : X.calm = true) : CallR X (.builtin "sum") (rSumS X.K) := by
  intro pins s σ H vs us Q I r h
  obtain ⟨a, ns, e, hs | hs, q⟩ := h
  · exact cr_sum hc pins s σ H vs us Q I r ⟨a, ns, e, hs, q⟩
  · subst e
    obtain ⟨its, rv, hl, _⟩ := I.tuple hs
    rw [Vals.ref1 r]
    have hi := rv.ints
    have hl2 : s.heap.IsTuple a its.toArray := hl
    obtain ⟨xs, ex⟩ := hi.allInts.items
    have hn : numsOf (intItems xs).toList = ns := by rw [← ex]; exact hi.numsOf
    rw [nums_intItems] at hn
    rw [ex] at hl2
    refine PySem.W.ktm_sumG (I.ok.hd hc) hl2 fun h' tk t' hk => ?_
    rw [preSum_eq, List.take_of_length_le (by simp), hn]
    exact ⟨.int _, H, I.kept hk, ⟨_, rfl⟩, q⟩
theorem ip_mulC : PIp X .Mult (fun x y H Q => ∃ i j, x = .int i ∧ y = .int j ∧ CMul i j ∧ Q (.int (i * j)) H) := by
  intro pins s σ H x y v u Q I r1 r2 h
  obtain ⟨i, j, rfl, rfl, hc, q⟩ := h
  obtain ⟨t, rfl⟩ := r1
  obtain ⟨t', rfl⟩ := r2
  exact imul_int ⟨.int _, H, I.tok _, ⟨_, rfl⟩, q⟩ hc.ok
def iSeq (K : PySem.W.Frag) (tl : TE) : TI := fun σ H R => iList K tl σ H R ∨ iTup K tl σ H R
theorem pi_seq {tg l : Expr} {tl : TE} (hl : PE X l tl) : PI X tg l (iSeq X.K tl) := by
  constructor
  intro pins s σ H R I h
  rcases h with h | h
  · exact (pi_list hl).run pins s σ H R I h
  · exact (pi_tup hl).run pins s σ H R I h
end

/-! ## how keywords bind -/
def kw1 {α : Type} : List α → List α → List α
  | [], [a] => [a]
  | _, _ => []
def kw12 {α : Type} : List α → List α → List α
  | [], [a, b] => [a, b]
  | _, _ => []
def kw21 {α : Type} : List α → List α → List α
  | [], [a, b] => [b, a]
  | _, _ => []
theorem kw1_rel {vs : List V} {us : List Value} {zs : List V} {ws : List Value} (r : Vals vs us) (t : Vals zs ws) : Vals (kw1 vs zs) (kw1 us ws) := by
  cases r with
  | cons _ _ => exact .nil
  | nil => cases t with
    | nil => exact .nil
    | cons a t => cases t with
      | nil => exact .cons a .nil
      | cons _ _ => exact .nil
theorem kw12_rel {vs : List V} {us : List Value} {zs : List V} {ws : List Value} (r : Vals vs us) (t : Vals zs ws) : Vals (kw12 vs zs) (kw12 us ws) := by
  cases r with
  | cons _ _ => exact .nil
  | nil => cases t with
    | nil => exact .nil
    | cons a t => cases t with
      | nil => exact .nil
      | cons b t => cases t with
        | nil => exact .cons a (.cons b .nil)
        | cons _ _ => exact .nil
theorem kw21_rel {vs : List V} {us : List Value} {zs : List V} {ws : List Value} (r : Vals vs us) (t : Vals zs ws) : Vals (kw21 vs zs) (kw21 us ws) := by
  cases r with
  | cons _ _ => exact .nil
  | nil => cases t with
    | nil => exact .nil
    | cons a t => cases t with
      | nil => exact .nil
      | cons b t => cases t with
        | nil => exact .cons b (.cons a .nil)
        | cons _ _ => exact .nil
theorem kb1 {K : PySem.W.Frag} {x qual : Str} {st : Stmt} {f : Addr} {fd : FuncData} {p k : Str} (F : Fun K x qual st f fd)
    (h : ∀ (kV doc pm : Value) (an : Option Addr) (cdv ct : Value) (u : Value), bindArgs (PySem.W.fnOf x qual (defArgs st) (defBody st) (defScope st) .none kV doc pm an cdv ct) ⟨[], [(k, u)]⟩ = pure [(p, u)]) : KBinds K fd [p] [k] kw1 kw1 := by
  obtain ⟨oc, od, kV, doc, pm, an, cdv, ct, osl, rfl, lk, hcd⟩ := F.ex
  refine ⟨fun s us ws _ hl => ?_, kw1_rel⟩
  match us, ws, hl with
  | [], [u], _ => exact .of_eq (h kV doc pm an cdv ct u)
theorem kb12 {K : PySem.W.Frag} {x qual : Str} {st : Stmt} {f : Addr} {fd : FuncData} {p q k l : Str} (F : Fun K x qual st f fd)
    (h : ∀ (kV doc pm : Value) (an : Option Addr) (cdv ct : Value) (u w : Value), bindArgs (PySem.W.fnOf x qual (defArgs st) (defBody st) (defScope st) .none kV doc pm an cdv ct) ⟨[], [(k, u), (l, w)]⟩ = pure [(p, u), (q, w)]) : KBinds K fd [p, q] [k, l] kw12 kw12 := by
  obtain ⟨oc, od, kV, doc, pm, an, cdv, ct, osl, rfl, lk, hcd⟩ := F.ex
  refine ⟨fun s us ws _ hl => ?_, kw12_rel⟩
  match us, ws, hl with
  | [], [u, w], _ => exact .of_eq (h kV doc pm an cdv ct u w)
theorem kb21 {K : PySem.W.Frag} {x qual : Str} {st : Stmt} {f : Addr} {fd : FuncData} {p q k l : Str} (F : Fun K x qual st f fd)
    (h : ∀ (kV doc pm : Value) (an : Option Addr) (cdv ct : Value) (u w : Value), bindArgs (PySem.W.fnOf x qual (defArgs st) (defBody st) (defScope st) .none kV doc pm an cdv ct) ⟨[], [(k, u), (l, w)]⟩ = pure [(p, w), (q, u)]) : KBinds K fd [p, q] [k, l] kw21 kw21 := by
  obtain ⟨oc, od, kV, doc, pm, an, cdv, ct, osl, rfl, lk, hcd⟩ := F.ex
  refine ⟨fun s us ws _ hl => ?_, kw21_rel⟩
  match us, ws, hl with
  | [], [u, w], _ => exact .of_eq (h kV doc pm an cdv ct u w)

/-! ## tuple * int -/
theorem tmul0 (l : Addr) (items : Array Value) (n : Nat) (dd : Option Addr) (sl : Array (Option Value)) (u : Tok) (hne : items.isEmpty = false) :
    Meets (Builtin.«tuple.__mul__» ⟨[.ref l, .int 0 u], []⟩) (fun _ R s => s.heap.get? l = some { cls := .type "tuple", dict := dd, data := .seq items n, slots := sl } ∧
      R (.ok (.ret (Value.ref s.heap.objs.size))) { s with heap := s.heap.push { cls := Value.type "tuple", data := Data.seq #[] } }) :=
  .of_wp fun prog w A R s h => by
    obtain ⟨hp, g, d, tk, os⟩ := s
    obtain ⟨hl, h⟩ := h
    have f1 := AutoSeq1.idx_int
    have c1 : (items.isEmpty || (0 : Int) == 1) = false := by rw [hne]; rfl
    wp_walk using wpAny_loadPart' hl
    exact ⟨_, rfl, h⟩
theorem tmul1 (l : Addr) (items : Array Value) (n : Nat) (dd : Option Addr) (sl : Array (Option Value)) (u : Tok) (hne : items.isEmpty = false) :
    Meets (Builtin.«tuple.__mul__» ⟨[.ref l, .int 1 u], []⟩) (fun _ R s => s.heap.get? l = some { cls := .type "tuple", dict := dd, data := .seq items n, slots := sl } ∧
      R (.ok (.ret (Value.ref l))) s) :=
  .of_wp fun prog w A R s h => by
    obtain ⟨hp, g, d, tk, os⟩ := s
    obtain ⟨hl, h⟩ := h
    have f1 := AutoSeq1.idx_int
    wp_walk using wpAny_loadPart' hl
    exact ⟨_, rfl, h⟩

def rRepA (K : PySem.W.Frag) : R2 := fun x y H Q => ∃ (l : Addr) (k : Int) (xs : List V), x = .ref l ∧ y = .int k ∧ SqT K H l xs ∧ xs ≠ [] ∧ 0 ≤ k ∧ k ≤ 1000 ∧ xs.length ≤ 1000 ∧
  ∀ p H', Ex H H' → SqT K H' p (List.replicate k.toNat xs).flatten → Q (.ref p) H'
theorem op_repA {X : Cx} : OpR X (binaryOp .Mult) (rRepA X.K) := by
  intro pins s σ H x y v u Q I rx ry h
  obtain ⟨l, k, xs, rfl, rfl, hT, hne, h0, h1, hz, q⟩ := h
  by_cases h2 : 2 ≤ k
  · exact op_repT pins s σ H (.ref l) (.int k) v u Q I rx ry ⟨l, k, xs, rfl, rfl, hT, hne, h2, h1, hz, fun p hp => q p _ (Ex.new hp) (st_of upd_same)⟩
  · cases rx
    obtain ⟨t, rfl⟩ := ry
    obtain ⟨its, r, ⟨⟨cls, dd, data, sl⟩, ho, hc, n, hd⟩, hs⟩ := I.tuple hT
    simp only at hc hd
    subst hc hd
    have hle : its.length = xs.length := r.length.symm
    have hi : its.toArray.isEmpty = false := by
      cases its with
      | nil => exact absurd (List.eq_nil_of_length_eq_zero hle.symm) hne
      | cons a b => rfl
    rcases (by omega : k = 0 ∨ k = 1) with rfl | rfl
    · refine wpAny_binaryOp_repeat_ref (T := "tuple") (U := "int") (by decide) ⟨_, ho, rfl⟩ (fun s' => typeIs_int s' 0 t) noFill_tuple_mul F.fills_int_mul F.slot_int_rmul repeat_tuple F.slot_int_index.lookup
        (call_meets F.slot_int_rmul (typeIs_int s 0 t) F.entry_int_rmul (F.args_int_rmul_2 _ _) (int_rmul_tuple 0 t l its.toArray n dd sl)
          ⟨ho, rfl, ⟨_, ho, rfl⟩, call_meets F.slot_tuple_mul ⟨_, ho, rfl⟩ F.entry_tuple_mul (F.args_tuple_mul_2 _ _) (tmul0 l its.toArray n dd sl t hi) ⟨ho, ?_⟩⟩)
      refine ⟨.ref s.heap.objs.size, _, I.laid (t' := s.toks) (o := .tup []) (fun b ob e => Heap.get?_push_of_some _ e) (Nat.le_refl _) ?_, rfl, q _ _ (Ex.new (I.hok.fresh (Nat.le_refl _))) (st_of upd_same)⟩
      exact ⟨Nat.zero_le _, [], .nil, IsTup.new _ _⟩
    · refine wpAny_binaryOp_repeat_ref (T := "tuple") (U := "int") (by decide) ⟨_, ho, rfl⟩ (fun s' => typeIs_int s' 1 t) noFill_tuple_mul F.fills_int_mul F.slot_int_rmul repeat_tuple F.slot_int_index.lookup
        (call_meets F.slot_int_rmul (typeIs_int s 1 t) F.entry_int_rmul (F.args_int_rmul_2 _ _) (int_rmul_tuple 1 t l its.toArray n dd sl)
          ⟨ho, rfl, ⟨_, ho, rfl⟩, call_meets F.slot_tuple_mul ⟨_, ho, rfl⟩ F.entry_tuple_mul (F.args_tuple_mul_2 _ _) (tmul1 l its.toArray n dd sl t hi) ⟨ho, ?_⟩⟩)
      refine ⟨.ref l, H, I, rfl, q _ _ (Ex.refl H) ?_⟩
      have e : (List.replicate (Int.toNat 1) xs).flatten = xs := by simp
      rw [e]
      exact hT

/-! ## a def of the text, in one bundle -/
structure DefAt (K : PySem.W.Frag) (mg : Str → Option Value) (x : Str) (st : Stmt) (ps : List Str) where
  a : Addr
  fd : FuncData
  F : Fun K x x st a fd
  m : mg x = some (.ref a)
  b : Binds K fd ps []
theorem pass0At {X : Cx} {σ : St} : PassesAt CX0 X σ E0 := fun _ _ _ _ _ _ h => h.elim

/-! ## heaps: all but one object stands -/
def But (b : Addr) (H H' : Hp) : Prop := ∀ a o, a ≠ b → H a = some o → H' a = some o
theorem But.of {b : Addr} {H H' : Hp} (e : Ex H H') : But b H H' := fun a o _ h => e a o h
theorem But.trans {b : Addr} {H H1 H2 : Hp} (x : But b H H1) (y : But b H1 H2) : But b H H2 := fun a o n h => y a o n (x a o n h)
theorem But.ex {b : Addr} {H H1 H2 : Hp} (x : But b H H1) (y : Ex H1 H2) : But b H H2 := fun a o n h => y a o (x a o n h)
theorem But.pre {b : Addr} {H H1 H2 : Hp} (x : Ex H H1) (y : But b H1 H2) : But b H H2 := fun a o n h => y a o n (x a o h)
theorem But.upd {b : Addr} {H : Hp} {o : HO} : But b H (upd H b o) := fun a u n h => by rw [upd_ne n]; exact h
theorem But.none {b p : Addr} {H H' : Hp} {o : HO} (x : But b H H') (hb : H b = some o) (h : H' p = none) : p ≠ b → H p = none := fun n => by
  cases e : H p with
  | none => rfl
  | some u => rw [x p u n e] at h; cases h
theorem ne_new {H : Hp} {p b : Addr} {o : HO} (h : H p = none) (hb : H b = some o) : p ≠ b := fun e => by rw [e, hb] at h; cases h
/-- what is frozen or written stands whatever happens to b; a tracked list that is no b, too -/
theorem But.sql {K : PySem.W.Frag} {b a : Addr} {H H' : Hp} {xs : List V} (x : But b H H') (n : a ≠ b) (h : SqL K H a xs) : SqL K H' a xs := by
  rcases h with (h | ⟨o, h⟩) | h
  · exact .inl (.inl (x _ _ n h))
  · exact .inl (.inr ⟨o, x _ _ n h⟩)
  · exact .inr h
theorem But.sqt {K : PySem.W.Frag} {b a : Addr} {H H' : Hp} {xs : List V} (x : But b H H') (n : a ≠ b) (h : SqT K H a xs) : SqT K H' a xs := by
  rcases h with (h | ⟨o, h⟩) | h
  · exact .inl (.inl (x _ _ n h))
  · exact .inl (.inr ⟨o, x _ _ n h⟩)
  · exact .inr h

/-! ## the box of draws: digits, flag, seed, count; n draws are left -/
def BoxAt (H : Hp) (b : Addr) (n : Nat) : Prop := ∃ (d m c : Int) (f : Bool), H b = some (.lst [.int d, .bl f, .int m, .int c]) ∧ 0 ≤ d ∧ 0 ≤ m ∧ m < 2147483648 ∧ 0 ≤ c ∧ c + n ≤ 1000000
theorem BoxAt.some {H : Hp} {b : Addr} {n : Nat} (h : BoxAt H b n) : ∃ o, H b = some o := by
  obtain ⟨d, m, c, f, h, _⟩ := h
  exact ⟨_, h⟩
theorem BoxAt.le {H : Hp} {b : Addr} {n k : Nat} (h : BoxAt H b n) (l : k ≤ n) : BoxAt H b k := by
  obtain ⟨d, m, c, f, h, h1, h2, h3, h4, h5⟩ := h
  exact ⟨d, m, c, f, h, h1, h2, h3, h4, by omega⟩
theorem BoxAt.ex {H H' : Hp} {b : Addr} {n : Nat} (h : BoxAt H b n) (e : Ex H H') : BoxAt H' b n := by
  obtain ⟨d, m, c, f, h, r⟩ := h
  exact ⟨d, m, c, f, e _ _ h, r⟩
theorem BoxAt.ne {H : Hp} {b p : Addr} {n : Nat} (h : BoxAt H b n) (hp : H p = none) : p ≠ b := by
  obtain ⟨d, m, c, f, h, _⟩ := h
  exact ne_new hp h
def spCell (K : PySem.W.Frag) : Sp := fun vs H Q _ => ∃ (a : Addr) (ns : List Int) (k : Int), vs = [.ref a, .int k] ∧ SqL K H a (ns.map V.int) ∧ 0 ≤ k ∧ k ≤ 1000 ∧ ∀ (v : Int) H', Ex H H' → Q (.int v) H'
def spBox : Sp := fun vs H Q _ => ∃ g : Int, vs = [.int g] ∧ ∀ p H', H p = none → Ex H H' → BoxAt H' p 1000000 → Q (.ref p) H'
def spTake : Sp := fun vs H Q _ => ∃ (b : Addr) (m : Int) (n : Nat), vs = [.ref b, .int m] ∧ 0 < m ∧ m < 1073741824 ∧ BoxAt H b (n + 1) ∧
  ∀ r H', 0 ≤ r → r < m → BoxAt H' b n → But b H H' → Q (.int r) H'

/-! ## types of data -/
theorem tyL {K : PySem.W.Frag} {H : Hp} {a : Addr} {xs : List V} (h : SqL K H a xs) : TyX K H (.ref a) (.type "list") := by
  rcases h with (h | ⟨o, h⟩) | ⟨o, its, n, hk, hc, _⟩
  · exact .base (.lst h)
  · exact .base (.frz h)
  · exact .kList hk hc
theorem tyT {K : PySem.W.Frag} {H : Hp} {a : Addr} {xs : List V} (h : SqT K H a xs) : TyX K H (.ref a) (.type "tuple") := by
  rcases h with (h | ⟨o, h⟩) | ⟨o, its, n, hk, hc, _⟩
  · exact .base (.tup h)
  · exact .fTuple h
  · exact .kTuple hk hc
/-- two values that hold the same, at most n lists and tuples within one another -/
inductive Sm (K : PySem.W.Frag) (H : Hp) : Nat → V → V → Prop
  | non {n} : Sm K H n .non .non
  | bl {n} (b : Bool) : Sm K H n (.bl b) (.bl b)
  | int {n} (i : Int) : Sm K H n (.int i) (.int i)
  | str {n} (z : Str) (h : z.length ≤ 1000) : Sm K H n (.str z) (.str z)
  | lst {n} {a b : Addr} {xs ys : List V} (h1 : SqL K H a xs) (h2 : SqL K H b ys) (hl : xs.length = ys.length) (hz : xs.length ≤ 1000)
      (all : ∀ (i : Nat) (x y : V), xs[i]? = some x → ys[i]? = some y → Sm K H n x y) : Sm K H (n + 1) (.ref a) (.ref b)
  | tup {n} {a b : Addr} {xs ys : List V} (h1 : SqT K H a xs) (h2 : SqT K H b ys) (hl : xs.length = ys.length) (hz : xs.length ≤ 1000)
      (all : ∀ (i : Nat) (x y : V), xs[i]? = some x → ys[i]? = some y → Sm K H n x y) : Sm K H (n + 1) (.ref a) (.ref b)
theorem Sm.ex {K : PySem.W.Frag} {H H' : Hp} (e : Ex H H') {n : Nat} {x y : V} (h : Sm K H n x y) : Sm K H' n x y := by
  induction h with
  | non => exact .non
  | bl b => exact .bl b
  | int i => exact .int i
  | str z h => exact .str z h
  | lst h1 h2 hl hz _ ih => exact .lst (ex_l e h1) (ex_l e h2) hl hz ih
  | tup h1 h2 hl hz _ ih => exact .tup (ex_t e h1) (ex_t e h2) hl hz ih
theorem Sm.succ {K : PySem.W.Frag} {H : Hp} {n : Nat} {x y : V} (h : Sm K H n x y) : Sm K H (n + 1) x y := by
  induction h with
  | non => exact .non
  | bl b => exact .bl b
  | int i => exact .int i
  | str z h => exact .str z h
  | lst h1 h2 hl hz _ ih => exact .lst h1 h2 hl hz ih
  | tup h1 h2 hl hz _ ih => exact .tup h1 h2 hl hz ih
theorem Sm.le {K : PySem.W.Frag} {H : Hp} {n m : Nat} {x y : V} (h : Sm K H n x y) (l : n ≤ m) : Sm K H m x y := by
  induction l with
  | refl => exact h
  | step _ ih => exact ih.succ
theorem Sm.ints {K : PySem.W.Frag} {H : Hp} {n : Nat} {ns : List Int} : ∀ (i : Nat) (x y : V), (ns.map V.int)[i]? = some x → (ns.map V.int)[i]? = some y → Sm K H n x y := by
  intro i x y h1 h2
  rw [h1] at h2
  cases h2
  rw [List.getElem?_map] at h1
  cases e : ns[i]? with
  | none => rw [e] at h1; cases h1
  | some z => rw [e] at h1; cases h1; exact .int z
def spSame (K : PySem.W.Frag) (n : Nat) : Sp := fun vs H Q _ => ∃ x y, vs = [x, y] ∧ Sm K H n x y ∧ ∀ H', Ex H H' → Q (.bl true) H'
theorem cut_one {z : Str} {k : Nat} {c : Nat} (h : z.cps.toList[k]? = some c) : cutS z (some (k : Int)) (some ((k : Int) + 1)) = ⟨#[c]⟩ := by
  have hk := (List.getElem?_eq_some_iff.mp h).1
  have hz : z.cps.toList.length = z.length := Array.length_toList
  unfold cutS
  have e : ((k : Int) + 1) = ((k + 1 : Nat) : Int) := by omega
  rw [e, HT.sIx_nat, HT.sIx_nat, Nat.min_eq_left (by omega), Nat.min_eq_left (by omega)]
  have e2 : k + 1 - k = 1 := by omega
  rw [e2, List.drop_eq_getElem_cons hk]
  have e3 := (List.getElem?_eq_some_iff.mp h).2
  simp [e3]

/-! ## the rules whose reading speaks of the written part, with it named (within a comprehension's block) -/
section
variable {X : Cx}
def rLen (K : PySem.W.Frag) : List V → Hp → VK → Prop := fun xs H Q => ∃ x n, xs = [x] ∧ LenV K x H n ∧ Q (.int (n : Nat)) H
def rListOf (K : PySem.W.Frag) : List V → Hp → VK → Prop := fun xs H Q => ∃ p ys, xs = [.ref p] ∧ (SqL K H p ys ∨ SqT K H p ys) ∧ ∀ l, H l = none → Q (.ref l) (upd H l (.lst ys))
def rTupOf (K : PySem.W.Frag) : List V → Hp → VK → Prop := fun xs H Q => ∃ p ys, xs = [.ref p] ∧ ((SqL K H p ys ∧ ∀ l, H l = none → Q (.ref l) (upd H l (.tup ys))) ∨ (SqT K H p ys ∧ Q (.ref p) H))
theorem kix (K : PySem.W.Frag) (h : X.K = K := by rfl) : IxR X (rIx K) := by subst h; exact ix_seq
theorem kixl (K : PySem.W.Frag) (h : X.K = K := by rfl) : IxR X (rIxL K) := by subst h; exact ix_list
theorem kixt (K : PySem.W.Frag) (h : X.K = K := by rfl) : IxR X (rIxT K) := by subst h; exact ix_tup
theorem klen (K : PySem.W.Frag) (h : X.K = K := by rfl) : CallR X (.builtin "len") (rLen K) := by subst h; exact call_len
theorem klist (K : PySem.W.Frag) (h : X.K = K := by rfl) : CallR X (.type "list") (rListOf K) := by subst h; exact call_list_of
theorem ktuple (K : PySem.W.Frag) (h : X.K = K := by rfl) : CallR X (.type "tuple") (rTupOf K) := by subst h; exact call_tuple_of
theorem kisi (K : PySem.W.Frag) (h : X.K = K := by rfl) : CallR X (.builtin "isinstance") (rIsi K) := by subst h; exact call_isi
theorem kisiT (K : PySem.W.Frag) (h : X.K = K := by rfl) : CallR X (.builtin "isinstance") (rIsiT K) := by subst h; exact call_isiT
theorem keqD (K : PySem.W.Frag) (hu : X.A.units + 64 < cLine) (h : X.K = K := by rfl) : OpR X (compareOp .Eq) (rEqD K) := by subst h; exact op_eqD hu
theorem kneD (K : PySem.W.Frag) (hu : X.A.units + 64 < cLine) (h : X.K = K := by rfl) : OpR X (compareOp .NotEq) (rNeD K) := by subst h; exact op_neD hu
theorem kin (K : PySem.W.Frag) (h : X.K = K := by rfl) : OpR X (compareOp .In) (rIn K false) := by subst h; exact op_in_seq
theorem knotin (K : PySem.W.Frag) (h : X.K = K := by rfl) : OpR X (compareOp .NotIn) (rIn K true) := by subst h; exact op_notIn_seq
theorem kcatA (K : PySem.W.Frag) (h : X.K = K := by rfl) : OpR X (binaryOp .Add) (rCatA K) := by subst h; exact op_catA
theorem krepA (K : PySem.W.Frag) (h : X.K = K := by rfl) : OpR X (binaryOp .Mult) (rRepA K) := by subst h; exact op_repA
theorem kslL (K : PySem.W.Frag) (h : X.K = K := by rfl) : SlR X (rSlL K) := by subst h; exact sl_list
theorem kslT (K : PySem.W.Frag) (h : X.K = K := by rfl) : SlR X (rSlA K) := by subst h; exact sl_tupA
theorem ksum (K : PySem.W.Frag) (hc : X.calm = true) (h : X.K = K := by rfl) : CallR X (.builtin "sum") (rSumS K) := by subst h; exact cr_sumS hc
theorem kall (K : PySem.W.Frag) (hc : X.calm = true) (h : X.K = K := by rfl) : CallR X (.builtin "all") (rAll K) := by subst h; exact cr_all hc
theorem kpil (K : PySem.W.Frag) {tg l : Expr} {tl : TE} (hl : PE X l tl) (h : X.K = K := by rfl) : PI X tg l (iList K tl) := by subst h; exact pi_list hl
theorem kpit (K : PySem.W.Frag) {tg l : Expr} {tl : TE} (hl : PE X l tl) (h : X.K = K := by rfl) : PI X tg l (iTup K tl) := by subst h; exact pi_tup hl
theorem kpis (K : PySem.W.Frag) {tg l : Expr} {tl : TE} (hl : PE X l tl) (h : X.K = K := by rfl) : PI X tg l (iSeq K tl) := by subst h; exact pi_seq hl
end

/-! ## own errors with one attribute -/
structure ErrAt (K : PySem.W.Frag) (mg : Str → Option Value) (x qi : Str) (st : Stmt) (f : Str) where
  C : Addr
  fI : Addr
  fd : FuncData
  F : Fun K "__init__" qi st fI fd
  b : Binds K fd ["self", f] []
  T : OexC K C
  iC : PySem.W.findIn K (.ref C) "__init__" = some (some (.ref fI))
  tI : PySem.W.typeIn K (.ref fI) = some (.type "function")
  gC : mg x = some (.ref C)
  nf : PySem.W.findIn K (.ref C) f = some none
  xf : XfC K C
def spInit (C : Addr) (f : Str) : Sp := fun vs H Q _ => ∃ (a : Addr) (y : V), vs = [.ref a, y] ∧ H a = some (exo a C none) ∧
  ∀ d, H d = none → d ≠ a → Q .non (upd (upd H d (exd d [(f, y)])) a (exo a C (some d)))
theorem raised {C a : Addr} {H : Hp} {f : Str} {y : V} {Q : XK} {E : XK} (ha : H a = none) (q : ∀ d H', Ex H H' → H' d = some (.xd [(f, y)]) → Q (.ref C) (some d) H') :
    spInit C f [.ref a, y] (upd H a (exo a C none)) (fun v H2 => v = .non ∧ ∃ (d : Addr) (fs : List (Str × V)), H2 a = some (exo a C (some d)) ∧ H2 d = some (exd d fs) ∧ H d = none ∧ Q (.ref C) (some d) (upd (del H2 a) d (.xd fs))) E := by
  refine ⟨a, y, rfl, upd_same, fun d hd nd => ⟨rfl, d, [(f, y)], upd_same, ?_, ?_, ?_⟩⟩
  · rw [upd_ne nd]; exact upd_same
  · rw [upd_ne nd] at hd; exact hd
  · rw [upd_ne nd] at hd
    refine q d _ (fun b o hb => ?_) upd_same
    have h1 : b ≠ a := ne_of_none hb ha
    have h2 : b ≠ d := ne_of_none hb hd
    rw [upd_ne h2, del_ne h1, upd_ne h1, upd_ne h2, upd_ne h1]
    exact hb
/-- a check: it lets what is right, else raises the error of C with the very value -/
def spChk (C : Addr) (ok : Int → Prop) : Sp := fun vs H Q E => ∃ i : Int, vs = [.int i] ∧ (ok i → ∀ H', Ex H H' → Q .non H') ∧
  (¬ ok i → ∀ d H', Ex H H' → H' d = some (.xd [("given", .int i)]) → E (.ref C) (some d) H')
end L2.U


set_option Elab.async false
set_option linter.all false
set_option maxRecDepth 100000
set_option maxHeartbeats 4000000
namespace L2.U
open PySem PySem.Spec PyProof.Rows Evl
open Sem (wp)
open AutoSeq1 (wpAny_loadPart')
/-! ### enumerate(tuple), and enumerate of a list or a tuple -/
theorem meets_enumT (l : Addr) (items : Array Value) (n : Nat) (dct : Option Addr) (sl : Array (Option Value)) :
    Meets (Builtin.«enumerate.__new__» ⟨[.type "enumerate", .ref l], []⟩) (fun _ R s => s.heap.get? l = some { cls := .type "tuple", dict := dct, data := .seq items n, slots := sl } ∧
      R (.ok (.ret (.ref (s.heap.push { cls := .type "tuple_iterator", data := .fields #[.ref l, .int 0 0] }).objs.size)))
        { s with heap := (s.heap.push { cls := .type "tuple_iterator", data := .fields #[.ref l, .int 0 0] }).push { cls := .type "enumerate", data := .fields #[.none, .bool false, .ref s.heap.objs.size, rawInt 0, .none, .none] } }) :=
  .of_wp fun prog w A R s h => by
    obtain ⟨hp, g, d, tk, os⟩ := s
    obtain ⟨hl, h⟩ := h
    have hsub := sub_enumerate
    have hL : Heap.IsTuple (Shared.heap ⟨hp, g, d, tk, os⟩) l items := ⟨_, hl, rfl, n, rfl⟩
    wp_walk using wpAny_loadPart' hl
    refine wpAny_stack_any fun st => wpAny_pure ?_
    split
    · rename_i c _ _ _ _ _
      cases (c == Value.type "enumerate")
      · wp_walk using wpAny_loadPart' hl, wpAny_pyIter_tuple hL
        exact ⟨_, rfl, h⟩
      · wp_walk using wpAny_loadPart' hl, wpAny_pyIter_tuple hL
        exact ⟨_, rfl, h⟩
    · wp_walk using wpAny_loadPart' hl, wpAny_pyIter_tuple hL
      exact ⟨_, rfl, h⟩
theorem call_enumT {prog : Program} {w : World} {A : Around} {E : Value → Shared → Prop} {s : Shared} {l : Addr} {items : Array Value} {Q : Value → Shared → Prop} (hL : s.heap.IsTuple l items)
    (h : ∀ h', IsEnum h' (s.heap.objs.size + 1) s.heap.objs.size 0 .none → h'.IsTupleIter s.heap.objs.size l 0 → h'.objs.size = s.heap.objs.size + 2 →
      (∀ b o, s.heap.get? b = some o → h'.get? b = some o) → Q (.ref (s.heap.objs.size + 1)) { s with heap := h' }) :
    wpAny (model prog w) A (call (.type "enumerate") [.ref l]) Q E s := by
  obtain ⟨⟨c, dct, dt, sl⟩, hl, hc, n, hd⟩ := hL
  replace hc : c = .type "tuple" := hc
  replace hd : dt = .seq items n := hd
  subst hc hd
  refine callType_new F.called_enumerate (by decide) (F.typeCall_enumerate_1 _) (F.newCall_enumerate_1 _) (fun obj => F.args_object_init_2 obj _) F.entry_enumerate_new
    (meets_enumT l items n dct sl) ⟨hl, ?_⟩
  have hz : (s.heap.push { cls := .type "tuple_iterator", data := .fields #[.ref l, .int 0 0] }).objs.size = s.heap.objs.size + 1 := Heap.size_push ..
  show _ ∧ _
  rw [hz]
  have he : IsEnum ((s.heap.push { cls := .type "tuple_iterator", data := .fields #[.ref l, .int 0 0] }).push
      { cls := .type "enumerate", data := .fields #[.none, .bool false, .ref s.heap.objs.size, rawInt 0, .none, .none] }) (s.heap.objs.size + 1) s.heap.objs.size 0 .none := by
    have := Heap.get?_push_size (s.heap.push { cls := .type "tuple_iterator", data := .fields #[.ref l, .int 0 0] })
      (o := { cls := .type "enumerate", data := .fields #[.none, .bool false, .ref s.heap.objs.size, rawInt 0, .none, .none] }) rfl
    rw [hz] at this
    exact this
  refine ⟨⟨_, he, rfl⟩, h _ he ⟨_, Heap.get?_push_of_some _ (Heap.get?_push_size _ rfl), rfl, rfl⟩ (by rw [Heap.size_push, hz]) fun b o x => Heap.get?_push_of_some _ (Heap.get?_push_of_some _ x)⟩
def IteT (K : PySem.W.Frag) (a : Addr) : It :=
  ⟨fun i H => ∃ (xs : List V) (x : V), SqT K H a xs ∧ xs[i]? = some x, fun i H v H' => ∃ T x, v = .ref T ∧ H T = none ∧ H' = upd H T (.tup [.int (i : Nat), x]) ∧ ∀ xs, SqT K H a xs → xs[i]? = some x, fun i H => ∃ xs : List V, SqT K H a xs ∧ xs.length ≤ i⟩
theorem turn_enumT {P : Program} {w : World} {K : PySem.W.Frag} {elts : List Expr} {kk : Nat} {tpos : Pos} (a e it : Addr) (hai : a ≠ it) (hae : a ≠ e) :
    Turn P w K (.Tuple elts kk tpos) (IteT K a) [e, it] e (fun i h => (∃ old, IsEnum h e it ((i : Nat) : Int) old) ∧ h.IsTupleIter it a i ∧ e ≠ it) where
  mem := by simp
  obj := fun i h st b hb => by
    obtain ⟨⟨old, he⟩, ⟨o, ho, hc, hd⟩, _⟩ := st
    have e' : b = e ∨ b = it := by simpa using hb
    rcases e' with z | z
    · rw [z]; exact ⟨_, he, fun v q => nomatch q⟩
    · rw [z]; exact ⟨o, ho, fun v q => by rw [hd] at q; cases q⟩
  keep := fun i h h' st k => let ⟨⟨old, he⟩, hi, hne⟩ := st; ⟨⟨old, k e (by simp) _ he⟩, hi.at fun o q => k it (by simp) o q, hne⟩
  item := by
    intro X hP hw hK hc i pins s σ H E I hf st hg
    subst hP hw hK
    obtain ⟨⟨old, he⟩, hit, hne⟩ := st
    obtain ⟨xs, x, hq, hx⟩ := hg
    obtain ⟨its, rv, p, hz⟩ := I.tuple hq
    have p' : s.heap.IsTuple a its.toArray := p
    obtain ⟨u, hu, ru⟩ := rv.get hx
    have hel : e < s.heap.objs.size := Heap.lt_size he
    have hil : it < s.heap.objs.size := by obtain ⟨_, q, _⟩ := hit; exact Heap.lt_size q
    have hlt : i < its.toArray.size := by simpa using (List.getElem?_eq_some_iff.mp hu).1
    refine wpAny_pyNext_enum_itemD (Draws.tuple (prog := X.prog) (w := X.w) (A := X.A.in1) (I.ok.hd hc) it a hai its.toArray) he ⟨hit, p'⟩ hlt hne (by simp [hne, Ne.symm hae]) fun v h' tk hv ho hst hT hsz hk => ?_
    obtain ⟨hit', p2⟩ := hst
    have hvu : v = u := by
      have h2 : its.toArray[i]? = some u := by simpa using hu
      rw [h2] at hv
      exact (Option.some.inj hv).symm
    subst hvu
    refine ⟨_, rfl, wpAny_letOwnedTupleGo_enum (s := { s with heap := h', toks := tk + 1 }) ho fun h'' he' sb => ?_⟩
    have hT2 : h''.get? s.heap.objs.size = some { cls := .type "tuple", data := .seq #[.int i tk, v] } := (sb.2 _ (Nat.ne_of_gt hel)).trans hT
    have new : ObjOk X.prog X.w (upd H s.heap.objs.size (.tup [.int (i : Nat), x])) h'' s.heap.objs.size (.tup [.int (i : Nat), x]) :=
      ⟨by show 2 ≤ sizeLine; decide, [.int i tk, v], .cons ⟨_, rfl⟩ (.cons ru .nil), ⟨_, hT2, rfl, _, rfl⟩⟩
    have I1 : Inv X pins σ (upd H s.heap.objs.size (.tup [.int (i : Nat), x])) { s with heap := h'', toks := tk + 1 } :=
      I.turnedNew (ch := [e, it]) (fun b ob hb q => (sb.2 b (fun z => hb (by simp [z]))).trans (hk b ob (fun z => hb (by simp [z])) (fun z => hb (by simp [z])) q)) hf (Nat.le_refl _) new
    refine ⟨.ref s.heap.objs.size, _, I1, rfl, ⟨_, x, rfl, I.hok.fresh (Nat.le_refl _), rfl, fun ys hy => by rw [I.tuple_inj hy hq]; exact hx⟩, ⟨⟨v, ?_⟩, hit'.at fun o q => (sb.2 it (Ne.symm hne)).trans q, hne⟩, fun b hb => ?_⟩
    · have e1 : ((i + 1 : Nat) : Int) = (i : Int) + 1 := by omega
      rw [e1]; exact he'
    · have hb' : b < s.heap.objs.size := by
        have e' : b = e ∨ b = it := by simpa using hb
        rcases e' with z | z
        · rw [z]; exact hel
        · rw [z]; exact hil
      rw [upd_ne (Nat.ne_of_lt hb')]
      exact (hf b hb).1
  done := by
    intro X hP hw hK hc i pins s σ H E I hf st hg
    subst hP hw hK
    obtain ⟨⟨old, he⟩, hit, hne⟩ := st
    obtain ⟨xs, hq, hx⟩ := hg
    obtain ⟨its, rv, p, hz⟩ := I.tuple hq
    have p' : s.heap.IsTuple a its.toArray := p
    obtain ⟨f0, f1, f2, f3, f4, f5⟩ := hf it (by simp)
    have hl := rv.length
    have full : Draws X.prog X.w X.A.in1 it [it, a] i (fun _ _ => True) (fun j h => j = i ∧ h.IsTupleIter it a j ∧ h.IsTuple a its.toArray) :=
      { live := fun j h st => let ⟨_, ⟨o, ho, _⟩, _⟩ := st; ⟨o, ho⟩
        frame := fun j h h' st hk => ⟨st.1, st.2.1.at fun o e => hk it (by simp) o e, by
          obtain ⟨o, ho, r⟩ := st.2.2
          exact ⟨o, hk a (by simp) o ho, r⟩⟩
        item := fun j s Q E hj st hQ => absurd st.1 (Nat.ne_of_lt hj)
        done := fun s Q E st hE => wpAny_nextOf_tuple_end (show X.A.in1.handled = none from I.ok.hd hc) st.2.1 st.2.2 (by simp; omega) hE }
    exact wpAny_pyNext_enum_endD full he ⟨rfl, hit, p'⟩ fun h' eb => ⟨rfl, I.turned (t' := s.toks) (fun b o hb q => eb b o hb q) f0 f1 f3 f4 f5⟩
  self := fun A i s Q E st h => let ⟨⟨_, he⟩, _⟩ := st; wpAny_pyIter_enum he h
def iEnumT (K : PySem.W.Frag) (ta : TA) : TI := fun σ H R => ta σ H fun vs H1 => ∃ a xs, vs = [.ref a] ∧ SqT K H1 a xs ∧ R (IteT K a) H1
theorem pi_enumT {X : Cx} {e : Expr} {ta : TA} {p pos tpos : Pos} {elts : List Expr} {kk : Nat} (hg : Gl X "enumerate") (hm : X.mg "enumerate" = none) (ha : PA X [e] ta) (hs : starEach [e] X.env = [(false, eval e X.env)] := by rfl) :
    PI X (.Tuple elts kk tpos) (.Call (.Name "enumerate" p) [e] [] pos) (iEnumT X.K ta) := by
  refine ⟨fun pins s σ H R I h => ?_⟩
  refine Call_ (ld_blt I hg hm boot_enumerate (PyProof.Rows.callWith_type1 (thn (ha.run pos pins s σ H _ I h) fun us s1 ⟨vs, H1, I1, r1, q1⟩ => ?_) hs rfl))
  obtain ⟨a, xs, ex, hq, q⟩ := q1
  subst ex
  cases r1 with
  | cons r rr =>
    cases rr
    cases r
    obtain ⟨its, rv, p', hz⟩ := I1.tuple hq
    have p2 : s1.heap.IsTuple a its.toArray := p'
    have hal : a < s1.heap.objs.size := by obtain ⟨_, q, _⟩ := p2; exact Heap.lt_size q
    refine call_enumT p2 fun h' he hit hsz hk => wpAny_pyIter_enum he ?_
    have I2 : Inv X pins σ H1 { s1 with heap := h' } := I1.kept (t' := s1.toks) hk
    refine ⟨s1.heap.objs.size + 1, [s1.heap.objs.size + 1, s1.heap.objs.size], _, _, H1, rfl, I2, turn_enumT a (s1.heap.objs.size + 1) s1.heap.objs.size (Nat.ne_of_lt hal) (Nat.ne_of_lt (Nat.lt_succ_of_lt hal)), ⟨⟨.none, he⟩, hit, Nat.succ_ne_self _⟩, fun b hb => ?_, q⟩
    have e' : b = s1.heap.objs.size + 1 ∨ b = s1.heap.objs.size := by simpa using hb
    have hle : s1.heap.objs.size ≤ b := by
      rcases e' with z | z
      · rw [z]; exact Nat.le_add_right _ _
      · rw [z]; exact Nat.le_refl _
    exact I1.fpOk hle (I1.hok.fresh hle)
def iEnumS (K : PySem.W.Frag) (ta : TA) : TI := fun σ H R => iEnum K ta σ H R ∨ iEnumT K ta σ H R
theorem pi_enumS {X : Cx} {e : Expr} {ta : TA} {p pos tpos : Pos} {elts : List Expr} {kk : Nat} (hg : Gl X "enumerate") (hm : X.mg "enumerate" = none) (ha : PA X [e] ta) (hs : starEach [e] X.env = [(false, eval e X.env)] := by rfl) :
    PI X (.Tuple elts kk tpos) (.Call (.Name "enumerate" p) [e] [] pos) (iEnumS X.K ta) := by
  refine ⟨fun pins s σ H R I h => ?_⟩
  rcases h with h | h
  · exact (pi_enum hg hm ha hs).run pins s σ H R I h
  · exact (pi_enumT hg hm ha hs).run pins s σ H R I h
section
variable {K : PySem.W.Frag} {a : Addr} {xs : List V}
theorem walk_enumT : Walk (IteT K a) xs.length (fun H => SqT K H a xs) (YPair (fun i => some (.int (i : Nat))) (fun i => xs[i]?)) := by
  refine ⟨fun i _ hi q => ⟨xs, xs[i], q, by simp [hi]⟩, fun _ q => ⟨xs, q, Nat.le_refl _⟩, fun i H v H' _ q y => ?_⟩
  obtain ⟨T, x, h1, h2, h3, h4⟩ := y
  exact ⟨T, .int (i : Nat), x, h1, h2, h3, rfl, h4 xs q⟩
/-- for i, x in enumerate(xs) with two names as the target: the pair is a new tuple that nobody keeps -/
theorem for_enum {tb : TS} {D : Ends} {σ : L2.St} {H : Hp} {p q : Nat} {ta : TA} (ea : ∀ R : List V → Hp → Prop, R [.ref a] H → ta σ H R) (hx : SqL K H a xs ∨ SqT K H a xs) (Pv : Nat → L2.St → Hp → Prop) (h0 : Pv 0 σ H)
    (hG : ∀ i σ H', i ≤ xs.length → Pv i σ H' → Ex H H')
    (hs : ∀ i x σ H' T, xs[i]? = some x → Pv i σ H' → H' T = none → tb { D with nx := Pv (i + 1), ct := Pv (i + 1), bk := D.nx } ((σ.set p (some (.int (i : Int)))).set q (some x)) (upd H' T (.tup [.int (i : Int), x]))) (hd : ∀ σ H, Pv xs.length σ H → D.nx σ H) :
    tFor (iEnumS K ta) (gTup K 2 (gCons (gName p) (gCons (gName q) gNil))) tb D σ H := by
  have turn : ∀ i v σ' H1 H2, i < xs.length → Pv i σ' H1 → YPair (fun i => some (V.int (i : Nat))) (fun i => xs[i]?) i H1 v H2 → gTup K 2 (gCons (gName p) (gCons (gName q) gNil)) v σ' H2 fun σ2 H3 => tb { D with nx := Pv (i + 1), ct := Pv (i + 1), bk := D.nx } σ2 H3 := by
    rintro i v σ' H1 H2 hi pv ⟨T, u, x, rfl, hT, rfl, h1, h2⟩
    cases Option.some.inj h1
    exact ⟨T, _, rfl, SqT.of upd_same, rfl, _, _, rfl, _, _, rfl, rfl, hs i x σ' H1 T h2 pv hT⟩
  rcases hx with hx | hx
  · exact .inl (ea _ ⟨a, xs, rfl, hx, for_it walk_enum Pv h0 (fun i σ' H' hi pv => ex_l (hG i σ' H' hi pv) hx) turn hd⟩)
  · exact .inr (ea _ ⟨a, xs, rfl, hx, for_it walk_enumT Pv h0 (fun i σ' H' hi pv => ex_t (hG i σ' H' hi pv) hx) turn hd⟩)
end
end L2.U


set_option Elab.async false
set_option linter.all false
set_option maxRecDepth 100000
set_option maxHeartbeats 4000000
namespace L2.U
open PySem PySem.Spec PyProof.Rows Evl
/-! ### min of a list or a tuple of ints -/
section
variable {prog : Program} {w : World} {A : Around} {E : Value → Shared → Prop} {s : Shared} {l : Addr} {xs : Array (Int × Tok)}
theorem iter_intTup {Q : Value → Shared → Prop} (hl : s.heap.IsTuple l (intItems xs))
    (h : ∀ s₂ : Shared, s₂ = { s with heap := s.heap.push { cls := .type "tuple_iterator", data := .fields #[.ref l, .int 0 0] } } →
      (s₂.heap.IsTupleIter s.heap.objs.size l 0 ∧ s₂.heap.IsTuple l (intItems xs)) → (∀ b ∈ [s.heap.objs.size, l], b < s₂.heap.objs.size) → l ≠ s.heap.objs.size → Q (.ref s.heap.objs.size) s₂) :
    wpAny (model prog w) A (pyIter (.ref l)) Q E s := by
  have hlt : l < s.heap.objs.size := by obtain ⟨_, e, _⟩ := hl; exact Heap.lt_size e
  refine wpAny_pyIter_tuple hl (h _ rfl ⟨⟨_, Heap.get?_push_size _ rfl, rfl, rfl⟩, hl.push _⟩ (fun b hb => ?_) (Nat.ne_of_lt hlt))
  show b < (s.heap.push _).objs.size
  rw [Heap.size_push]
  rcases List.mem_cons.mp hb with rfl | hb
  · exact Nat.lt_succ_self _
  · rcases List.mem_cons.mp hb with rfl | hb
    · exact Nat.lt_succ_of_lt hlt
    · cases hb
theorem old_keptT {h' : Heap} (hk : ∀ b o, b ∉ [s.heap.objs.size] → (s.heap.push { cls := .type "tuple_iterator", data := .fields #[.ref l, .int 0 0] }).get? b = some o → h'.get? b = some o) :
    ∀ b o, s.heap.get? b = some o → h'.get? b = some o := fun b o e => by
  refine hk b o (fun hm => ?_) (Heap.get?_push_of_some _ e)
  rcases List.mem_cons.mp hm with e1 | hm
  · exact absurd (e1 ▸ Heap.lt_size e) (Nat.lt_irrefl _)
  · cases hm
theorem min_intTup {Q : Value → Shared → Prop} (hh : A.handled = none) (hl : s.heap.IsTuple l (intItems xs)) (hne : 0 < xs.size)
    (h : ∀ v h' tk, (intItems xs)[argBest (fun i j => decide (numAt xs i < numAt xs j)) (xs.size - 1)]? = some v → (∀ b o, s.heap.get? b = some o → h'.get? b = some o) → Q v { s with heap := h', toks := tk }) :
    wpAny (model prog w) A (call (.builtin "min") [.ref l]) Q E s := by
  refine call_min_walk (iter_intTup hl fun s₂ e st hfp hlI => ?_)
  subst e
  refine ⟨_, _, _, _, _, _, _, rfl, Walks.tuple (A := A.in1) hh _ l hlI (intItems xs), st, hfp, by simpa [intItems] using hne, CmpOf.ints_lt (numAt xs) (fun _ _ => intItems_at), fun v h' tk hP hk => ?_⟩
  exact h v h' tk (by simpa [intItems] using hP) (old_keptT hk)
theorem min_rawT {its : List Value} {ns : List Int} {Q : Value → Shared → Prop} (hh : A.handled = none) (hl : s.heap.IsTuple l its.toArray) (hi : IntsAre its ns) (hne : 0 < ns.length)
    (h : ∀ h' tk M t', (∀ b o, s.heap.get? b = some o → h'.get? b = some o) → M ∈ ns → (∀ a, a ∈ ns → M ≤ a) → Q (.int M t') { s with heap := h', toks := tk }) : wpAny (model prog w) A (call (.builtin "min") [.ref l]) Q E s := by
  obtain ⟨xs, e⟩ := hi.allInts.items
  have hn : numsOf (intItems xs).toList = ns := by rw [← e]; exact hi.numsOf
  rw [nums_intItems] at hn
  subst hn
  rw [e] at hl
  have hsz : 0 < xs.size := by simpa using hne
  refine min_intTup hh hl hsz fun v h' tk hv hk => ?_
  obtain ⟨t, rfl⟩ := intItems_at hv
  obtain ⟨h1, h2⟩ := argBest_lt (numAt xs) (xs.size - 1)
  refine h h' tk _ t hk ?_ fun a ha => ?_
  · rw [numAt_eq]; exact PySem.getD_mem (by rw [List.length_map, Array.length_toList]; omega)
  · obtain ⟨j, hj, rfl⟩ := mem_getD ha
    rw [List.length_map, Array.length_toList] at hj
    rw [← numAt_eq]; exact h2 j (by omega)
end
section
variable {X : Cx}
def rMinS (K : PySem.W.Frag) : List V → Hp → VK → Prop := fun vs H Q => ∃ (a : Addr) (ns : List Int), vs = [V.ref a] ∧ (SqL K H a (ns.map V.int) ∨ SqT K H a (ns.map V.int)) ∧ 0 < ns.length ∧ ∀ m, m ∈ ns → (∀ y, y ∈ ns → m ≤ y) → Q (.int m) H
theorem cr_minS (hc : X.calm = true) : CallR X (.builtin "min") (rMinS X.K) := by
  intro pins s σ H vs us Q I r h
  obtain ⟨a, ns, e, hs | hs, hne, q⟩ := h
  · exact cr_min hc pins s σ H vs us Q I r ⟨a, ns, e, hs, hne, q⟩
  · subst e
    obtain ⟨its, rv, hl, _⟩ := I.tuple hs
    rw [Vals.ref1 r]
    exact min_rawT (I.ok.hd hc) (show s.heap.IsTuple a its.toArray from hl) rv.ints hne fun h' tk m t' hk h1 h2 => ⟨.int _, H, I.kept hk, ⟨_, rfl⟩, q m h1 h2⟩
theorem kminS (K : PySem.W.Frag) (hc : X.calm = true) (h : X.K = K := by rfl) : CallR X (.builtin "min") (rMinS K) := by subst h; exact cr_minS hc
end
end L2.U


set_option Elab.async false
set_option linter.all false
set_option maxRecDepth 100000
set_option maxHeartbeats 4000000
namespace L2.U
open PySem PySem.Spec PyProof.Rows Evl
def top (i : Nat) : Stmt := PySem.Challenge.pw_upforgood_k87_numbers_of_stars.main.body.getD i (.Pass ⟨0, 0, 0, 0⟩)
abbrev s_is_integer : Stmt := top 2
theorem sc_is_integer : FnScope ["value"] ["value"] (defScope s_is_integer) := ⟨rfl, rfl, rfl, by decide +kernel, rfl, by decide +kernel, by decide +kernel⟩
abbrev s_is_between : Stmt := top 3
theorem sc_is_between : FnScope ["value", "low", "high"] ["value", "low", "high"] (defScope s_is_between) := ⟨rfl, rfl, rfl, by decide +kernel, rfl, by decide +kernel, by decide +kernel⟩
abbrev s_is_from : Stmt := top 4
theorem sc_is_from : FnScope ["value", "low"] ["value", "low"] (defScope s_is_from) := ⟨rfl, rfl, rfl, by decide +kernel, rfl, by decide +kernel, by decide +kernel⟩
abbrev s_is_list : Stmt := top 5
theorem sc_is_list : FnScope ["value"] ["value"] (defScope s_is_list) := ⟨rfl, rfl, rfl, by decide +kernel, rfl, by decide +kernel, by decide +kernel⟩
abbrev s_are_from : Stmt := top 7
theorem sc_are_from : FnScope ["values", "low", "value"] ["values", "low"] (defScope s_are_from) := ⟨rfl, rfl, rfl, by decide +kernel, rfl, by decide +kernel, by decide +kernel⟩
abbrev s_law_cell : Stmt := top 51
theorem sc_law_cell : FnScope ["script", "k"] ["script", "k"] (defScope s_law_cell) := ⟨rfl, rfl, rfl, by decide +kernel, rfl, by decide +kernel, by decide +kernel⟩
abbrev s_law_box : Stmt := top 52
theorem sc_law_box : FnScope ["great"] ["great"] (defScope s_law_box) := ⟨rfl, rfl, rfl, by decide +kernel, rfl, by decide +kernel, by decide +kernel⟩
abbrev s_law_take : Stmt := top 53
theorem sc_law_take : FnScope ["box", "many", "digit", "mixed"] ["box", "many"] (defScope s_law_take) := ⟨rfl, rfl, rfl, by decide +kernel, rfl, by decide +kernel, by decide +kernel⟩
abbrev s_law_same : Stmt := top 54
theorem sc_law_same : FnScope ["told", "due", "k"] ["told", "due"] (defScope s_law_same) := ⟨rfl, rfl, rfl, by decide +kernel, rfl, by decide +kernel, by decide +kernel⟩
structure TA1 (K : PySem.W.Frag) (mg : Str → Option Value) where
  is_integer : DefAt K mg "is_integer" s_is_integer ["value"]
  is_between : DefAt K mg "is_between" s_is_between ["value", "low", "high"]
  is_from : DefAt K mg "is_from" s_is_from ["value", "low"]
  is_list : DefAt K mg "is_list" s_is_list ["value"]
  are_from : DefAt K mg "are_from" s_are_from ["values", "low"]
  law_cell : DefAt K mg "_law_cell" s_law_cell ["script", "k"]
  law_box : DefAt K mg "_law_box" s_law_box ["great"]
  law_take : DefAt K mg "_law_take" s_law_take ["box", "many"]
  law_same : DefAt K mg "_law_same" s_law_same ["told", "due"]
  z_int : mg "int" = none
  z_bool : mg "bool" = none
  z_str : mg "str" = none
  z_list : mg "list" = none
  z_tuple : mg "tuple" = none
  z_len : mg "len" = none
  z_sum : mg "sum" = none
  z_abs : mg "abs" = none
  z_all : mg "all" = none
  z_range : mg "range" = none
  z_isinstance : mg "isinstance" = none
section
variable {P : Program} {w : World} {K : PySem.W.Frag} {mg : Str → Option Value} {base : Heap}
def isI : V → Bool
  | .int _ => true
  | _ => false
/-- a value of one of the kinds of data -/
def Dat (K : PySem.W.Frag) (H : Hp) (x : V) : Prop := ∃ t, t ∈ ["NoneType", "bool", "int", "str", "list", "tuple", "dict"] ∧ TyX K H x (.type t) ∧ isI x = decide (t = "int")
theorem Dat.int {H : Hp} {i : Int} : Dat K H (.int i) := ⟨"int", by decide, .base (.int i), rfl⟩
theorem Dat.ex {H H' : Hp} {x : V} (e : Ex H H') (h : Dat K H x) : Dat K H' x := by
  obtain ⟨t, ht, ty, hi⟩ := h
  refine ⟨t, ht, ?_, hi⟩
  cases ty with
  | base b =>
    refine .base ?_
    cases b with
    | non => exact .non
    | bl x => exact .bl x
    | int i => exact .int i
    | str z => exact .str z
    | flt z => exact .flt z
    | lst h => exact .lst (e _ _ h)
    | frz h => exact .frz (e _ _ h)
    | tup h => exact .tup (e _ _ h)
    | dK h => exact .dK (e _ _ h)
    | dT h => exact .dT (e _ _ h)
  | byt b => exact .byt b
  | set h => exact .set (e _ _ h)
  | kList a b => exact .kList a b
  | kTuple a b => exact .kTuple a b
  | kDict a b => exact .kDict a b
  | fTuple h => exact .fTuple (e _ _ h)
  | fDict h => exact .fDict (e _ _ h)
def spIsInteger (K : PySem.W.Frag) : Sp := fun vs H Q _ => ∃ x, vs = [x] ∧ Dat K H x ∧ Q (.bl (isI x)) H
theorem ok_is_integer (T : TA1 K mg) : FnOk P w K mg base CX0 1 T.is_integer.a T.is_integer.fd ["value"] (spIsInteger K) := by
  refine T.is_integer.F.ok sc_is_integer (fun vs H Q E h => ?_) (fun cdv A outer s H vs Q E hr h => ?_)
  · obtain ⟨x, rfl, _⟩ := h; rfl
  obtain ⟨x, rfl, ⟨t, ht, ty, hi⟩, q⟩ := h
  refine ⟨_, (pss_one (ps_ret (pe_and (pe_callB (kisi K) (by rfl) T.z_isinstance (by decide +kernel) (pa_cons (pv 0) (pa_cons (pe_bltn (v := .ty "int") rfl T.z_int (by decide +kernel) rfl) pa_nil))) (pe_one (pe_not (pe_callB (kisi K) (by rfl) T.z_isinstance (by decide +kernel) (pa_cons (pv 0) (pa_cons (pe_bltn (v := .ty "bool") rfl T.z_bool (by decide +kernel) rfl) pa_nil)))))))), ?_⟩
  simp only [List.mem_cons, List.not_mem_nil, or_false] at ht
  rcases ht with rfl | rfl | rfl | rfl | rfl | rfl | rfl
  · refine ⟨_, rfl, _, _, _, _, _, rfl, .ty "int", ty, kit_ty (r := false) (by decide +kernel), false, rfl, iteF ?_⟩
    rw [hi] at q; exact q
  · refine ⟨_, rfl, _, _, _, _, _, rfl, .ty "int", ty, kit_ty (r := true) (by decide +kernel), true, rfl, iteT ?_⟩
    refine ⟨_, rfl, _, _, _, _, _, rfl, .ty "bool", ty, kit_ty (r := true) (by decide +kernel), true, rfl, ?_⟩
    rw [hi] at q; exact q
  · refine ⟨_, rfl, _, _, _, _, _, rfl, .ty "int", ty, kit_ty (r := true) (by decide +kernel), true, rfl, iteT ?_⟩
    refine ⟨_, rfl, _, _, _, _, _, rfl, .ty "bool", ty, kit_ty (r := false) (by decide +kernel), false, rfl, ?_⟩
    rw [hi] at q; exact q
  all_goals
    refine ⟨_, rfl, _, _, _, _, _, rfl, .ty "int", ty, kit_ty (r := false) (by decide +kernel), false, rfl, iteF ?_⟩
    rw [hi] at q; exact q
def spIsFrom (K : PySem.W.Frag) : Sp := fun vs H Q _ => ∃ (x : V) (lo : Int), vs = [x, .int lo] ∧ Dat K H x ∧ ∀ b, (∀ i, x = .int i → b = decide (lo ≤ i)) → (isI x = false → b = false) → Q (.bl b) H
theorem isI_int {x : V} (h : isI x = true) : ∃ i, x = .int i := by
  cases x <;> first | exact ⟨_, rfl⟩ | cases h
theorem ok_is_from (T : TA1 K mg) : FnOk P w K mg base CX0 2 T.is_from.a T.is_from.fd ["value", "low"] (spIsFrom K) := by
  refine T.is_from.F.ok sc_is_from (fun vs H Q E h => ?_) (fun cdv A outer s H vs Q E hr h => ?_)
  · obtain ⟨x, lo, rfl, _⟩ := h; rfl
  obtain ⟨x, lo, rfl, hd, q⟩ := h
  refine ⟨_, (pss_one (ps_ret (pe_and (pe_call (ok_is_integer T) (hr.mono (by decide)) rfl T.is_integer.m T.is_integer.F.kp T.is_integer.b .nil pass0 (pa_cons (pv 0) pa_nil)) (pe_one (pe_cmpR op_le (pv 1) (pv 0) (nomark _)))))), ?_⟩
  refine ⟨_, rfl, _, rfl, hd, isI x, rfl, ?_⟩
  cases hx : isI x with
  | false => exact q false (fun i e => by rw [e] at hx; cases hx) (fun _ => rfl)
  | true =>
    obtain ⟨i, rfl⟩ := isI_int hx
    refine ⟨_, rfl, _, rfl, _, _, rfl, rfl, q _ (fun j e => by cases e; rfl) (fun e => by cases e)⟩
def spIsBetween (K : PySem.W.Frag) : Sp := fun vs H Q _ => ∃ (x : V) (lo hi : Int), vs = [x, .int lo, .int hi] ∧ Dat K H x ∧ ∀ b, (∀ i, x = .int i → b = decide (lo ≤ i ∧ i ≤ hi)) → (isI x = false → b = false) → Q (.bl b) H
theorem ok_is_between (T : TA1 K mg) : FnOk P w K mg base CX0 2 T.is_between.a T.is_between.fd ["value", "low", "high"] (spIsBetween K) := by
  refine T.is_between.F.ok sc_is_between (fun vs H Q E h => ?_) (fun cdv A outer s H vs Q E hr h => ?_)
  · obtain ⟨x, lo, hi, rfl, _⟩ := h; rfl
  obtain ⟨x, lo, hi, rfl, hd, q⟩ := h
  refine ⟨_, (pss_one (ps_ret (pe_and (pe_call (ok_is_integer T) (hr.mono (by decide)) rfl T.is_integer.m T.is_integer.F.kp T.is_integer.b .nil pass0 (pa_cons (pv 0) pa_nil)) (pe_one (pe_chain op_le op_le (pv 1) (pv 0) (pv 2)))))), ?_⟩
  refine ⟨_, rfl, _, rfl, hd, isI x, rfl, ?_⟩
  cases hx : isI x with
  | false => exact q false (fun i e => by rw [e] at hx; cases hx) (fun _ => rfl)
  | true =>
    obtain ⟨i, rfl⟩ := isI_int hx
    refine ⟨_, rfl, _, rfl, _, _, rfl, rfl, _, rfl, ite2 (fun c => ?_) (fun c => ?_)⟩
    · refine ⟨_, rfl, _, _, rfl, rfl, q _ (fun j e => ?_) (fun e => by cases e)⟩
      cases e
      have c' := of_decide_eq_true c
      simp [c']
    · refine q _ (fun j e => ?_) (fun e => by cases e)
      cases e
      have c' := of_decide_eq_false (Bool.eq_false_iff.mpr c)
      simp [c']
/-! ### data: what a value holds -/
inductive Rd (K : PySem.W.Frag) (ok : Addr → Prop) (H : Hp) : Nat → V → PyData → Prop
  | non {n} : Rd K ok H n .non .none
  | bl {n} (b : Bool) : Rd K ok H n (.bl b) (.bool b)
  | int {n} (i : Int) : Rd K ok H n (.int i) (.int i)
  | str {n} (z : Str) (h : z.length ≤ 1000) (h2 : PyData.strOk z = true) : Rd K ok H n (.str z) (.str z)
  | lst {n} {a : Addr} {xs : List V} {ds : List PyData} (h : H a = some (.lst xs)) (ha : ok a) (hl : xs.length = ds.length) (hz : xs.length ≤ 900)
      (all : ∀ (i : Nat) (x : V) (d : PyData), xs[i]? = some x → ds[i]? = some d → Rd K ok H n x d) : Rd K ok H (n + 1) (.ref a) (.list ds)
  | tup {n} {a : Addr} {xs : List V} {ds : List PyData} (h : SqT K H a xs) (ha : ok a) (hl : xs.length = ds.length) (hz : xs.length ≤ 900)
      (all : ∀ (i : Nat) (x : V) (d : PyData), xs[i]? = some x → ds[i]? = some d → Rd K ok H n x d) : Rd K ok H (n + 1) (.ref a) (.tuple ds)
def RdL (K : PySem.W.Frag) (ok : Addr → Prop) (H : Hp) (n : Nat) (xs : List V) (ds : List PyData) : Prop :=
  xs.length = ds.length ∧ ∀ (i : Nat) (x : V) (d : PyData), xs[i]? = some x → ds[i]? = some d → Rd K ok H n x d
section
variable {ok : Addr → Prop} {H H' : Hp} {n : Nat} {x y : V} {d : PyData}
theorem Rd.keep (kl : ∀ a xs, ok a → H a = some (.lst xs) → H' a = some (.lst xs)) (kt : ∀ a xs, ok a → SqT K H a xs → SqT K H' a xs) (h : Rd K ok H n x d) : Rd K ok H' n x d := by
  induction h with
  | non => exact .non
  | bl b => exact .bl b
  | int i => exact .int i
  | str z h h2 => exact .str z h h2
  | lst h1 ha hl hz _ ih => exact .lst (kl _ _ ha h1) ha hl hz ih
  | tup h1 ha hl hz _ ih => exact .tup (kt _ _ ha h1) ha hl hz ih
theorem Rd.ex (e : Ex H H') (h : Rd K ok H n x d) : Rd K ok H' n x d := h.keep (fun _ _ _ => e _ _) (fun _ _ _ => ex_t e)
theorem Rd.but {b : Addr} (k : But b H H') (hb : ∀ a, ok a → a ≠ b) (h : Rd K ok H n x d) : Rd K ok H' n x d :=
  h.keep (fun _ _ ha hs => k _ _ (hb _ ha) hs) (fun _ _ ha hs => k.sqt (hb _ ha) hs)
theorem Rd.of {ok' : Addr → Prop} (w : ∀ a, ok a → ok' a) (h : Rd K ok H n x d) : Rd K ok' H n x d := by
  induction h with
  | non => exact .non
  | bl b => exact .bl b
  | int i => exact .int i
  | str z h h2 => exact .str z h h2
  | lst h1 ha hl hz _ ih => exact .lst h1 (w _ ha) hl hz ih
  | tup h1 ha hl hz _ ih => exact .tup h1 (w _ ha) hl hz ih
theorem Rd.succ (h : Rd K ok H n x d) : Rd K ok H (n + 1) x d := by
  induction h with
  | non => exact .non
  | bl b => exact .bl b
  | int i => exact .int i
  | str z h h2 => exact .str z h h2
  | lst h1 ha hl hz _ ih => exact .lst h1 ha hl hz ih
  | tup h1 ha hl hz _ ih => exact .tup h1 ha hl hz ih
theorem Rd.le {m : Nat} (h : Rd K ok H n x d) (l : n ≤ m) : Rd K ok H m x d := by
  induction l with
  | refl => exact h
  | step _ ih => exact ih.succ
theorem RdL.ex {xs : List V} {ds : List PyData} (e : Ex H H') (h : RdL K ok H n xs ds) : RdL K ok H' n xs ds := ⟨h.1, fun i x d hx hd => (h.2 i x d hx hd).ex e⟩
theorem RdL.but {b : Addr} {xs : List V} {ds : List PyData} (k : But b H H') (hb : ∀ a, ok a → a ≠ b) (h : RdL K ok H n xs ds) : RdL K ok H' n xs ds := ⟨h.1, fun i x d hx hd => (h.2 i x d hx hd).but k hb⟩
theorem Rd.sm (h : Rd K ok H n x d) : ∀ {ok' : Addr → Prop} {y : V}, Rd K ok' H n y d → Sm K H n x y := by
  induction h with
  | non => intro ok' y h2; cases h2; exact .non
  | bl b => intro ok' y h2; cases h2; exact .bl b
  | int i => intro ok' y h2; cases h2; exact .int i
  | str z h h3 => intro ok' y h2; cases h2; exact .str z h
  | lst h1 ha hl hz all ih =>
    intro ok' y h2
    cases h2 with
    | lst h1' ha' hl' hz' all' =>
      refine .lst (SqL.of h1) (SqL.of h1') (by omega) (by omega) fun i x y hx hy => ?_
      have hi := (List.getElem?_eq_some_iff.mp hx).1
      exact ih i x _ hx (List.getElem?_eq_getElem (by omega)) (all' i y _ hy (List.getElem?_eq_getElem (by omega)))
  | tup h1 ha hl hz all ih =>
    intro ok' y h2
    cases h2 with
    | tup h1' ha' hl' hz' all' =>
      refine .tup h1 h1' (by omega) (by omega) fun i x y hx hy => ?_
      have hi := (List.getElem?_eq_some_iff.mp hx).1
      exact ih i x _ hx (List.getElem?_eq_getElem (by omega)) (all' i y _ hy (List.getElem?_eq_getElem (by omega)))
theorem dpAll_of {xs : List V} : ∀ {ds : List PyData}, xs.length = ds.length → (∀ (i : Nat) (x : V) (d : PyData), xs[i]? = some x → ds[i]? = some d → Dp K H x d) → DpAll K H xs ds := by
  induction xs with
  | nil => intro ds hl _; cases ds with
    | nil => exact .nil
    | cons d r => cases hl
  | cons x r ih => intro ds hl h; cases ds with
    | nil => cases hl
    | cons d r2 => exact .cons (h 0 x d rfl rfl) (ih (Nat.succ.inj hl) fun i x d hx hd => h (i + 1) x d hx hd)
theorem Rd.dp (h : Rd K ok H n x d) : Dp K H x d := by
  induction h with
  | non => exact .non
  | bl b => exact .bl b
  | int i => exact .int i
  | str z h h2 => exact .str z
  | lst h1 ha hl hz _ ih => exact .lst (SqL.of h1) (dpAll_of hl ih)
  | tup h1 ha hl hz _ ih => exact .tup h1 (dpAll_of hl ih)
theorem layAll_of : ∀ {ds : List PyData} {n : Nat}, (∀ d ∈ ds, d.canLay0 = true ∧ d.depth ≤ n) → PyData.canLayAll0 ds = true ∧ PyData.depthAll ds ≤ n
  | [], n, _ => by simp [PyData.canLayAll0, PyData.depthAll]
  | d :: r, n, h => by
    have h1 := h d (by simp)
    have h2 := layAll_of (ds := r) (n := n) fun z hz => h z (by simp [hz])
    simp only [PyData.canLayAll0, PyData.depthAll, h1.1, h2.1, Bool.and_self, true_and]
    omega
theorem Rd.lay (h : Rd K ok H n x d) : d.canLay0 = true ∧ d.depth ≤ n := by
  induction h with
  | non => simp [PyData.canLay0, PyData.depth]
  | bl b => simp [PyData.canLay0, PyData.depth]
  | int i => simp [PyData.canLay0, PyData.depth]
  | str z h h2 => simp [PyData.canLay0, PyData.depth, h2]
  | @lst n a xs ds h1 ha hl hz all ih =>
    have := layAll_of (ds := ds) (n := n) fun d hd => by
      obtain ⟨i, hi⟩ := List.mem_iff_getElem?.mp hd
      have hlt := (List.getElem?_eq_some_iff.mp hi).1
      exact ih i _ d (List.getElem?_eq_getElem (by omega)) hi
    simp only [PyData.canLay0, PyData.depth, this.1, true_and]
    omega
  | @tup n a xs ds h1 ha hl hz all ih =>
    have := layAll_of (ds := ds) (n := n) fun d hd => by
      obtain ⟨i, hi⟩ := List.mem_iff_getElem?.mp hd
      have hlt := (List.getElem?_eq_some_iff.mp hi).1
      exact ih i _ d (List.getElem?_eq_getElem (by omega)) hi
    simp only [PyData.canLay0, PyData.depth, this.1, true_and]
    omega
theorem Rd.shaped (h : Rd K ok H n x d) (hn : n ≤ 64) : SeqAt.shaped d = true := by
  have := h.lay
  unfold SeqAt.shaped
  rw [this.1, decide_eq_true (by omega)]
  rfl
theorem Rd.dat (h : Rd K ok H n x d) : Dat K H x := by
  cases h with
  | non => exact ⟨"NoneType", by decide, .base .non, rfl⟩
  | bl b => exact ⟨"bool", by decide, .base (.bl b), rfl⟩
  | int i => exact .int
  | str z h h2 => exact ⟨"str", by decide, .base (.str z), rfl⟩
  | lst h1 => exact ⟨"list", by decide, tyL (SqL.of h1), rfl⟩
  | tup h1 => exact ⟨"tuple", by decide, tyT h1, rfl⟩
end
def fromD (lo : Int) : PyData → Bool
  | .int i => decide (lo ≤ i)
  | _ => false
def betwD (lo hi : Int) : PyData → Bool
  | .int i => decide (lo ≤ i ∧ i ≤ hi)
  | _ => false
def isSeq : PyData → Bool
  | .list _ => true
  | .tuple _ => true
  | _ => false
theorem rd_from {ok : Addr → Prop} {H : Hp} {n : Nat} {x : V} {d : PyData} {lo : Int} {b : Bool} (h : Rd K ok H n x d) (h1 : ∀ i, x = .int i → b = decide (lo ≤ i)) (h2 : isI x = false → b = false) : b = fromD lo d := by
  cases h <;> first | exact h1 _ rfl | exact h2 rfl
theorem rd_betw {ok : Addr → Prop} {H : Hp} {n : Nat} {x : V} {d : PyData} {lo hi : Int} {b : Bool} (h : Rd K ok H n x d) (h1 : ∀ i, x = .int i → b = decide (lo ≤ i ∧ i ≤ hi)) (h2 : isI x = false → b = false) : b = betwD lo hi d := by
  cases h <;> first | exact h1 _ rfl | exact h2 rfl
def spIsList (K : PySem.W.Frag) : Sp := fun vs H Q _ => ∃ x d n ok, vs = [x] ∧ Rd K ok H n x d ∧ ∀ H', Ex H H' → Q (.bl (isSeq d)) H'
theorem ok_is_list (T : TA1 K mg) : FnOk P w K mg base CX0 1 T.is_list.a T.is_list.fd ["value"] (spIsList K) := by
  refine T.is_list.F.ok sc_is_list (fun vs H Q E h => ?_) (fun cdv A outer s H vs Q E hr h => ?_)
  · obtain ⟨x, d, n, ok, rfl, _⟩ := h; rfl
  obtain ⟨x, d, n, ok, rfl, h, q⟩ := h
  refine ⟨_, (pss_one (ps_ret (pe_callB (kisiT K) (by rfl) T.z_isinstance (by decide +kernel) (pa_cons (pv 0) (pa_cons (pe_tup (pa_cons (pe_bltn (v := .ty "list") rfl T.z_list (by decide +kernel) rfl) (pa_cons (pe_bltn (v := .ty "tuple") rfl T.z_tuple (by decide +kernel) rfl) pa_nil))) pa_nil))))), ?_⟩
  refine ⟨_, rfl, (by show 2 ≤ sizeLine; decide), fun p hp => ?_⟩
  have q1 := q _ (Ex.new (o := .tup [.ty "list", .ty "tuple"]) hp)
  cases h with
  | non => exact ⟨_, p, [.ty "list", .ty "tuple"], _, [.type "list", .type "tuple"], false, rfl, upd_same, .cons (.ty _) (.cons (.ty _) .nil), .base .non, rfl, q1⟩
  | bl b => exact ⟨_, p, [.ty "list", .ty "tuple"], _, [.type "list", .type "tuple"], false, rfl, upd_same, .cons (.ty _) (.cons (.ty _) .nil), .base (.bl b), rfl, q1⟩
  | int i => exact ⟨_, p, [.ty "list", .ty "tuple"], _, [.type "list", .type "tuple"], false, rfl, upd_same, .cons (.ty _) (.cons (.ty _) .nil), .base (.int i), rfl, q1⟩
  | str z _ _ => exact ⟨_, p, [.ty "list", .ty "tuple"], _, [.type "list", .type "tuple"], false, rfl, upd_same, .cons (.ty _) (.cons (.ty _) .nil), .base (.str z), rfl, q1⟩
  | lst h1 => exact ⟨_, p, [.ty "list", .ty "tuple"], _, [.type "list", .type "tuple"], true, rfl, upd_same, .cons (.ty _) (.cons (.ty _) .nil), tyL (SqL.of ((Ex.new hp) _ _ h1)), rfl, q1⟩
  | tup h1 => exact ⟨_, p, [.ty "list", .ty "tuple"], _, [.type "list", .type "tuple"], true, rfl, upd_same, .cons (.ty _) (.cons (.ty _) .nil), tyT (ex_t (Ex.new hp) h1), rfl, q1⟩
theorem at_get {xs : List V} {k : Int} (h0 : 0 ≤ k) (h : k < (xs.length : Int)) : ∃ v, atI xs k = some v ∧ xs[k.toNat]? = some v := by
  have hk : k.toNat < xs.length := by omega
  refine ⟨xs[k.toNat], ?_, List.getElem?_eq_getElem hk⟩
  exact at_of (by omega) (List.getElem?_eq_getElem hk)
theorem ints_get {ns : List Int} {i : Nat} {v : V} (h : (ns.map V.int)[i]? = some v) : ∃ z, ns[i]? = some z ∧ v = .int z := by
  rw [List.getElem?_map] at h
  cases e : ns[i]? with
  | none => rw [e] at h; cases h
  | some z => rw [e] at h; exact ⟨z, rfl, (Option.some.inj h).symm⟩
theorem cutV_ints (ns : List Int) (lo hi : Option Int) : ∃ ms : List Int, cutV (ns.map V.int) lo hi = ms.map V.int := by
  refine ⟨(ns.drop (HT.sIx (ns.map V.int).length 0 lo)).take (HT.sIx (ns.map V.int).length (ns.map V.int).length hi - HT.sIx (ns.map V.int).length 0 lo), ?_⟩
  unfold cutV
  rw [List.map_take, List.map_drop]
theorem ok_law_cell (T : TA1 K mg) : FnOk P w K mg base CX0 1 T.law_cell.a T.law_cell.fd ["script", "k"] (spCell K) := by
  refine T.law_cell.F.ok sc_law_cell (fun vs H Q E h => ?_) (fun cdv A outer s H vs Q E hr h => ?_)
  · obtain ⟨a, ns, k, rfl, _⟩ := h; rfl
  obtain ⟨a, ns, k, rfl, hS, h0, h1, q⟩ := h
  refine ⟨_, (pss_one (ps_ret (pe_ifExp (pt_cmpR op_lt (pv 1) (pe_callB (klen K) (by rfl) T.z_len (by decide +kernel) (pa_cons (pv 0) pa_nil)) (nomark _)) (pe_ix (kixl K) (pv 0) (pv 1) (fun _ _ => rfl)) (pe_op op_add (pe_op op_mul pe_int (pv 1)) (pe_op op_mod (pe_callTy call_int1 (by rfl) T.z_int (by decide +kernel) (pa_cons (pe_callB (ksum K rfl) (by rfl) T.z_sum (by decide +kernel) (pa_cons (pe_slice (kslL K) (pv 0) po_none (po_some pe_int)) pa_nil)) pa_nil)) pe_int))))), ?_⟩
  refine ⟨_, rfl, _, rfl, _, _, rfl, .inl ⟨_, hS, rfl⟩, _, _, rfl, rfl, _, rfl, ite2 (fun c => ?_) (fun c => ?_)⟩
  · have c' := of_decide_eq_true c
    obtain ⟨v, hv, hg⟩ := at_get h0 c'
    obtain ⟨z, _, rfl⟩ := ints_get hg
    exact ⟨_, rfl, _, rfl, _, _, _, _, rfl, rfl, hS, hv, q _ _ (Ex.refl _)⟩
  · refine ⟨_, rfl, _, _, rfl, rfl, .inl ⟨by decide, by decide⟩, _, rfl, _, rfl, _, _, rfl, hS, fun p hp => ?_⟩
    obtain ⟨ms, em⟩ := cutV_ints ns none (some 1)
    rw [em]
    refine ⟨p, ms, rfl, .inl (SqL.of upd_same), .inl ⟨_, rfl, _, _, rfl, rfl, (show (0 : Int) < 1000033 by decide), _, _, rfl, rfl, q _ _ (Ex.new hp)⟩⟩
theorem ok_law_box (T : TA1 K mg) : FnOk P w K mg base CX0 1 T.law_box.a T.law_box.fd ["great"] spBox := by
  refine T.law_box.F.ok sc_law_box (fun vs H Q E h => ?_) (fun cdv A outer s H vs Q E hr h => ?_)
  · obtain ⟨g, rfl, _⟩ := h; rfl
  obtain ⟨g, rfl, q⟩ := h
  refine ⟨_, (pss_one (ps_ret (pe_lst (pa_cons (pe_callB call_abs (by rfl) T.z_abs (by decide +kernel) (pa_cons (pv 0) pa_nil)) (pa_cons (pe_cmpR op_ge (pe_callB call_abs (by rfl) T.z_abs (by decide +kernel) (pa_cons (pv 0) pa_nil)) (pe_op op_pow pe_int pe_int) (nomark _)) (pa_cons (pe_op op_mod (pe_callTy call_int1 (by rfl) T.z_int (by decide +kernel) (pa_cons (pe_callB call_abs (by rfl) T.z_abs (by decide +kernel) (pa_cons (pv 0) pa_nil)) pa_nil)) pe_int) (pa_cons pe_int pa_nil))))))), ?_⟩
  refine ⟨_, rfl, _, rfl, _, rfl, _, rfl, _, _, rfl, rfl, ⟨by decide, by decide, by decide⟩, _, _, rfl, rfl, _, rfl, _, rfl, .inl ⟨_, rfl, _, _, rfl, rfl, (show (0 : Int) < 2147483629 by decide), (by show 4 ≤ sizeLine; decide), fun p hp => ?_⟩⟩
  refine q p _ hp (Ex.new hp) ⟨_, _, _, _, upd_same, ?_, ?_, ?_, by decide, by decide⟩
  · split <;> omega
  · omega
  · omega
theorem fmod_in {a m : Int} (h : 0 < m) : 0 ≤ a % m ∧ a % m < m := by
  exact ⟨Int.emod_nonneg _ (by omega), Int.emod_lt_of_pos _ h⟩
theorem ok_law_take (T : TA1 K mg) : FnOk P w K mg base CX0 1 T.law_take.a T.law_take.fd ["box", "many"] spTake := by
  refine T.law_take.F.ok sc_law_take (fun vs H Q E h => ?_) (fun cdv A outer s H vs Q E hr h => ?_)
  · obtain ⟨b, m, n, rfl, _⟩ := h; rfl
  obtain ⟨b, m, n, rfl, m0, m1, ⟨d, sd, c, f, hb, d0, s0, s1, c0, c1⟩, q⟩ := h
  have hL := SqL.of (K := K) hb
  refine ⟨_, (pss_cut (ps_if (PW.pt (pw_and (pt_val (pe_ix (kixl K) (pv 0) pe_int (fun _ _ => rfl))) (pw_and1 (pt_cmpR op_gt (pe_ix (kixl K) (pv 0) pe_int (fun _ _ => rfl)) pe_int (nomark _))))) (pss_cons (ps_set (i := 2) sc_law_take.nd rfl (Or.inl rfl) (pe_op op_mod (pe_callTy call_int1 (by rfl) T.z_int (by decide +kernel) (pa_cons (pe_ix (kixl K) (pv 0) pe_int (fun _ _ => rfl)) pa_nil)) (pv 1)))
    (pss_cons (ps_asg (pe_op op_fdiv (pe_ix (kixl K) (pv 0) pe_int (fun _ _ => rfl)) (pv 1)) (pg_sub (pv 0) pe_int set_list))
    (pss_one (ps_ret (pv 2))))) pss_nil)
    (pss_cons (ps_asg (pe_op op_add (pe_ix (kixl K) (pv 0) pe_int (fun _ _ => rfl)) pe_int) (pg_sub (pv 0) pe_int set_list))
    (pss_cons (ps_set (i := 3) sc_law_take.nd rfl (Or.inl rfl) (pe_op op_mod (pe_callTy call_int1 (by rfl) T.z_int (by decide +kernel) (pa_cons (pe_op op_pow (pe_op op_add (pe_op op_add (pe_ix (kixl K) (pv 0) pe_int (fun _ _ => rfl)) (pe_op op_mul pe_int (pe_ix (kixl K) (pv 0) pe_int (fun _ _ => rfl)))) pe_int) pe_int) pa_nil)) pe_int))
    (pss_one (ps_ret (pe_op op_mod (pe_callTy call_int1 (by rfl) T.z_int (by decide +kernel) (pa_cons (pe_op op_fdiv (pe_op op_mod (pe_callTy call_int1 (by rfl) T.z_int (by decide +kernel) (pa_cons (pe_op op_pow (pe_op op_add (pe_op op_mul (pv 3) pe_int) (pe_op op_mul pe_int (pe_ix (kixl K) (pv 0) pe_int (fun _ _ => rfl)))) pe_int) pa_nil)) pe_int) pe_int) pa_nil)) (pv 1))))))), ?_⟩
  have mres : ∀ x : Int, 0 ≤ x % m ∧ x % m < m := fun x => fmod_in m0
  have fm : ∀ {a k : Int}, 0 ≤ a → 0 < k → 0 ≤ a % k ∧ a % k < k := fun _ h => fmod_in h
  refine ⟨fun σ' H' => σ' = [some (.ref b), some (.int m), none, none] ∧ H' = H, ?_, ?_⟩
  · refine ⟨_, rfl, _, _, _, _, rfl, rfl, hL, rfl, f, rfl, ?_⟩
    cases f with
    | false => exact ⟨rfl, rfl⟩
    | true =>
      refine ⟨_, rfl, _, _, _, _, rfl, rfl, hL, rfl, _, _, rfl, rfl, _, rfl, ite2 (fun c => ?_) (fun _ => ⟨rfl, rfl⟩)⟩
      refine ⟨_, rfl, _, _, _, _, rfl, rfl, hL, rfl, .inl ⟨_, rfl, _, rfl, _, _, rfl, rfl, m0, ?_⟩⟩
      refine ⟨_, rfl, _, _, _, _, rfl, rfl, hL, rfl, _, rfl, _, _, rfl, rfl, ⟨by omega, by omega⟩, ?_⟩
      refine ⟨_, rfl, b, _, 0, 0, rfl, rfl, hb, rfl, ?_⟩
      refine ⟨_, rfl, q _ _ (mres _).1 (mres _).2 ⟨_, _, _, _, upd_same, ?_, s0, s1, c0, by omega⟩ But.upd⟩
      exact Int.ediv_nonneg d0 (by omega)
  · rintro σ' H' ⟨rfl, rfl⟩
    refine ⟨_, rfl, _, _, _, _, rfl, rfl, hL, rfl, _, _, rfl, rfl, ?_⟩
    refine ⟨_, rfl, b, _, 3, 3, rfl, rfl, hb, rfl, ?_⟩
    have hb2 : upd H' b (.lst [.int d, .bl f, .int sd, .int (c + 1)]) b = some (.lst [.int d, .bl f, .int sd, .int (c + 1)]) := upd_same
    have hL2 := SqL.of (K := K) hb2
    have r1 := @fmod_in ((sd + 15486277 * (c + 1) + 179424673) ^ (5 : Int).toNat) 2147483647 (by decide)
    refine ⟨_, rfl, _, _, _, _, rfl, rfl, hL2, rfl, ?_⟩
    refine ⟨_, rfl, _, _, _, _, rfl, rfl, hL2, rfl, _, _, rfl, rfl, .inl ⟨by decide, by decide⟩, _, _, rfl, rfl, _, _, rfl, rfl, ?_⟩
    refine ⟨_, _, rfl, rfl, ⟨by decide, by decide, by omega⟩, .inl ⟨_, rfl, _, _, rfl, rfl, (show (0 : Int) < 2147483647 by decide), ?_⟩⟩
    refine ⟨_, rfl, _, _, rfl, rfl, .inr ⟨by decide, by decide⟩, ?_⟩
    refine ⟨_, rfl, _, _, _, _, rfl, rfl, hL2, rfl, _, _, rfl, rfl, .inl ⟨by decide, by decide⟩, _, _, rfl, rfl, ?_⟩
    refine ⟨_, _, rfl, rfl, ⟨by decide, by decide, by omega⟩, .inl ⟨_, rfl, _, _, rfl, rfl, (show (0 : Int) < 2147483587 by decide), ?_⟩⟩
    refine ⟨_, _, rfl, rfl, ⟨by decide, by decide⟩, .inl ⟨_, rfl, _, rfl, _, _, rfl, rfl, m0, ?_⟩⟩
    exact q _ _ (mres _).1 (mres _).2 ⟨_, _, _, _, hb2, d0, s0, s1, by omega, by omega⟩ But.upd
/-! ### the law's own sameness -/
theorem none_left {sp : Sp} {f : Addr} {fd : FuncData} {ps : List Str} (no : ∀ vs H Q E, ¬ sp vs H Q E) : FnOk P w K mg base CX0 0 f fd ps sp :=
  ⟨fun vs H Q E h => absurd h (no vs H Q E), fun A outer s H args us vs Q E _ _ _ _ h => absurd h (no vs H Q E)⟩
theorem isi_at {H : Hp} {x : V} {t u : String} {b : Bool} {Q : VK} (ty : TyX K H x (.type t)) (h : kitB t u = some b) (q : Q (.bl b) H) : rIsi K [x, .ty u] H Q :=
  ⟨x, .ty u, _, _, b, rfl, .ty u, ty, kit_ty h, q⟩
def spS (K : PySem.W.Frag) : Nat → Sp
  | 0 => fun _ _ _ _ => False
  | n + 1 => spSame K n
theorem no_given {n : Nat} {v : Nat → V} : given n (fun _ => false) v = [] := by
  unfold given
  rw [List.filter_eq_nil_iff.mpr (by intro a _; decide)]
  rfl
theorem eq_empty {ta : TE} {σ : L2.St} {H : Hp} {xs : List V} (hx : xs = []) (h : EvL ta σ H xs) : Ev (tOp (rEqD K) ta (tLst tNil)) σ H (.bl true) := by
  subst hx
  exact ev_opLL h (el_lst ea_nil (Nat.zero_le _)) fun p q H1 hp hq _ => rv_val fun H2 e2 Q k =>
    ⟨.list [], .list [], .lst (SqL.of (e2 _ _ hp)) .nil, .lst (SqL.of (e2 _ _ hq)) .nil, rfl, rfl, k⟩
theorem same_step (T : TA1 K mg) (n : Nat) (ih : FnOk P w K mg base CX0 n T.law_same.a T.law_same.fd ["told", "due"] (spS K n)) :
    FnOk P w K mg base CX0 (n + 1) T.law_same.a T.law_same.fd ["told", "due"] (spS K (n + 1)) := by
  refine T.law_same.F.ok sc_law_same (fun vs H Q E h => ?_) (fun cdv A outer s H vs Q E hr h => ?_)
  · obtain ⟨x, y, rfl, _⟩ := h; rfl
  obtain ⟨x, y, rfl, hS, q⟩ := h
  refine ⟨_, (pss_cons (ps_if (PW.pt (pw_or (pt_cmpR op_isN (pv 1) pe_non (nomark _)) (pw_or1 (pt_val (pe_callB (kisi K) (by rfl) T.z_isinstance (by decide +kernel) (pa_cons (pv 1) (pa_cons (pe_bltn (v := .ty "bool") rfl T.z_bool (by decide +kernel) rfl) pa_nil))))))) (pss_one (ps_ret (pe_ifExp (pt_cmpR op_isN (pv 1) pe_non (nomark _)) (pe_cmpR op_isN (pv 0) pe_non (nomark _)) (pe_and (pe_callB (kisi K) (by rfl) T.z_isinstance (by decide +kernel) (pa_cons (pv 0) (pa_cons (pe_bltn (v := .ty "bool") rfl T.z_bool (by decide +kernel) rfl) pa_nil))) (pe_one (pe_cmpR op_eq (pe_cmpR op_is_bl (pv 0) pe_bl (nomark _)) (pe_cmpR op_is_bl (pv 1) pe_bl (nomark _)) (nomark _))))))) pss_nil)
    (pss_cons (ps_if (pt_val (pe_callB (kisi K) (by rfl) T.z_isinstance (by decide +kernel) (pa_cons (pv 1) (pa_cons (pe_bltn (v := .ty "int") rfl T.z_int (by decide +kernel) rfl) pa_nil)))) (pss_one (ps_ret (pe_and (pe_callB (kisi K) (by rfl) T.z_isinstance (by decide +kernel) (pa_cons (pv 0) (pa_cons (pe_bltn (v := .ty "int") rfl T.z_int (by decide +kernel) rfl) pa_nil))) (pe_and (pe_not (pe_callB (kisi K) (by rfl) T.z_isinstance (by decide +kernel) (pa_cons (pv 0) (pa_cons (pe_bltn (v := .ty "bool") rfl T.z_bool (by decide +kernel) rfl) pa_nil)))) (pe_one (pe_cmpR op_eq (pe_op op_sub (pe_callTy call_int1 (by rfl) T.z_int (by decide +kernel) (pa_cons (pv 0) pa_nil)) (pv 1)) pe_int (nomark _))))))) pss_nil)
    (pss_cons (ps_if (pt_val (pe_callB (kisi K) (by rfl) T.z_isinstance (by decide +kernel) (pa_cons (pv 1) (pa_cons (pe_bltn (v := .ty "str") rfl T.z_str (by decide +kernel) rfl) pa_nil)))) (pss_one (ps_ret (pe_and (pe_callB (kisi K) (by rfl) T.z_isinstance (by decide +kernel) (pa_cons (pv 0) (pa_cons (pe_bltn (v := .ty "str") rfl T.z_str (by decide +kernel) rfl) pa_nil))) (pe_and (pe_cmpR op_eq (pe_callB (klen K) (by rfl) T.z_len (by decide +kernel) (pa_cons (pv 0) pa_nil)) (pe_callB (klen K) (by rfl) T.z_len (by decide +kernel) (pa_cons (pv 1) pa_nil)) (nomark _)) (pe_one (pe_cmpR (keqD K hr.units) (pe_lc (own := [("k", 2)]) (g := gName 2) (by rfl) sc_law_same.nd (pi_range1 rfl T.z_range (pa_cons (pe_callB (klen K) (by rfl) T.z_len (by decide +kernel) (pa_cons (pv 1) pa_nil)) pa_nil)) (blkOk_by (own := [("k", 2)]) (N := ["told", "due", "k"]) (sc := defScope s_law_same) (by decide +kernel)) (fun _ _ _ _ _ => (pg_name (i := 2) sc_law_same.nd rfl (Or.inl rfl))) (fun _ _ _ _ _ => (pts_one (pt_cmpR op_ne (pe_slice sl_str (pv 0) (po_some (pv 2)) (po_some (pe_op op_add (pv 2) pe_int))) (pe_ix (kix K) (pv 1) (pv 2) (fun _ _ => rfl)) (nomark _)))) (fun _ _ _ _ _ => (pv 2))) (pe_lst pa_nil) (nomark _))))))) pss_nil)
    (pss_cons (ps_if (PW.pt (pw_or (pt_cmpR op_ne (pe_callB (kisi K) (by rfl) T.z_isinstance (by decide +kernel) (pa_cons (pv 0) (pa_cons (pe_bltn (v := .ty "list") rfl T.z_list (by decide +kernel) rfl) pa_nil))) (pe_callB (kisi K) (by rfl) T.z_isinstance (by decide +kernel) (pa_cons (pv 1) (pa_cons (pe_bltn (v := .ty "list") rfl T.z_list (by decide +kernel) rfl) pa_nil))) (nomark _)) (pw_or1 (pt_cmpR op_ne (pe_callB (kisi K) (by rfl) T.z_isinstance (by decide +kernel) (pa_cons (pv 0) (pa_cons (pe_bltn (v := .ty "tuple") rfl T.z_tuple (by decide +kernel) rfl) pa_nil))) (pe_callB (kisi K) (by rfl) T.z_isinstance (by decide +kernel) (pa_cons (pv 1) (pa_cons (pe_bltn (v := .ty "tuple") rfl T.z_tuple (by decide +kernel) rfl) pa_nil))) (nomark _))))) (pss_one (ps_ret pe_bl)) pss_nil)
    (pss_one (ps_ret (pe_and (pe_cmpR op_eq (pe_callB (klen K) (by rfl) T.z_len (by decide +kernel) (pa_cons (pv 0) pa_nil)) (pe_callB (klen K) (by rfl) T.z_len (by decide +kernel) (pa_cons (pv 1) pa_nil)) (nomark _)) (pe_one (pe_cmpR (keqD K hr.units) (pe_lc (own := [("k", 2)]) (g := gName 2) (by rfl) sc_law_same.nd (pi_range1 rfl T.z_range (pa_cons (pe_callB (klen K) (by rfl) T.z_len (by decide +kernel) (pa_cons (pv 1) pa_nil)) pa_nil)) (blkOk_by (own := [("k", 2)]) (N := ["told", "due", "k"]) (sc := defScope s_law_same) (by decide +kernel)) (fun _ _ _ _ _ => (pg_name (i := 2) sc_law_same.nd rfl (Or.inl rfl))) (fun _ _ _ _ _ => (pts_one (pt_not (pt_val (pe_call (ih) hr rfl T.law_same.m T.law_same.F.kp T.law_same.b .nil pass0 (pa_cons (pe_ix (kix K) (pv 0) (pv 2) (fun _ _ => rfl)) (pa_cons (pe_ix (kix K) (pv 1) (pv 2) (fun _ _ => rfl)) pa_nil))))))) (fun _ _ _ _ _ => (pv 2))) (pe_lst pa_nil) (nomark _)))))))))), ?_⟩
  cases hS with
  | non => exact ⟨_, rfl, rfl, _, rfl, iteT (iteT ⟨_, rfl, rfl, _, rfl, iteT ⟨_, rfl, rfl, q _ (Ex.refl _)⟩⟩)⟩
  | bl b =>
    refine ⟨_, rfl, rfl, _, rfl, iteF ⟨_, rfl, _, _, _, _, true, rfl, .ty _, (.base (.bl b)), kit_ty (by decide +kernel), ⟨_, rfl, iteT ⟨_, rfl, rfl, _, rfl, iteF ?_⟩⟩⟩⟩
    refine ⟨_, rfl, _, _, _, _, true, rfl, .ty _, (.base (.bl b)), kit_ty (by decide +kernel), ⟨_, rfl, iteT ⟨_, rfl, _, _, rfl, rfl, _, rfl, _, _, rfl, rfl, rfl, ?_⟩⟩⟩
    rw [decide_eq_true (rfl : V.bl (decide (b = true)) = V.bl (decide (b = true)))]
    exact q _ (Ex.refl _)
  | int i =>
    refine ⟨_, rfl, rfl, _, rfl, iteF ⟨_, rfl, _, _, _, _, false, rfl, .ty _, (.base (.int i)), kit_ty (by decide +kernel), ⟨_, rfl, iteF ?_⟩⟩⟩
    refine ⟨_, rfl, _, _, _, _, true, rfl, .ty _, (.base (.int i)), kit_ty (by decide +kernel), ⟨_, rfl, iteT ?_⟩⟩
    refine ⟨_, rfl, _, _, _, _, true, rfl, .ty _, (.base (.int i)), kit_ty (by decide +kernel), ⟨_, rfl, iteT ?_⟩⟩
    refine ⟨_, rfl, _, _, _, _, false, rfl, .ty _, (.base (.int i)), kit_ty (by decide +kernel), ⟨_, rfl, _, rfl, iteT ?_⟩⟩
    refine ⟨_, rfl, .inl ⟨_, rfl, _, rfl, _, _, rfl, rfl, rfl, ?_⟩⟩
    show Q (V.bl (decide (V.int (i - i) = V.int 0))) H
    rw [Int.sub_self]
    exact q _ (Ex.refl _)
  | str z hz =>
    have hz' : z.length ≤ sizeLine := Nat.le_trans hz (by decide)
    refine ⟨_, rfl, rfl, _, rfl, iteF ⟨_, rfl, _, _, _, _, false, rfl, .ty _, (.base (.str z)), kit_ty (by decide +kernel), ⟨_, rfl, iteF ?_⟩⟩⟩
    refine ⟨_, rfl, _, _, _, _, false, rfl, .ty _, (.base (.str z)), kit_ty (by decide +kernel), ⟨_, rfl, iteF ?_⟩⟩
    refine ⟨_, rfl, _, _, _, _, true, rfl, .ty _, (.base (.str z)), kit_ty (by decide +kernel), ⟨_, rfl, iteT ?_⟩⟩
    refine ⟨_, rfl, _, _, _, _, true, rfl, .ty _, (.base (.str z)), kit_ty (by decide +kernel), ⟨_, rfl, iteT ?_⟩⟩
    refine ⟨_, rfl, _, z.length, rfl, ⟨hz', rfl⟩, _, rfl, _, z.length, rfl, ⟨hz', rfl⟩, rfl, _, rfl, ?_⟩
    rw [if_pos (decide_eq_true rfl)]
    refine eq_empty (no_given (n := (z.length : Int).toNat) (v := fun _ => V.non)) ?_ H (Ex.refl _) Q (fun H2 e2 => q H2 e2)
    refine el_lcR1 (fun _ => false) (fun _ => V.non) ?_ ⟨by omega, by omega⟩ (fun _ => rfl) ?_ (fun _ _ _ _ hf => nomatch hf)
    · exact fun H1 e Q' k => ⟨_, rfl, _, z.length, rfl, ⟨hz', rfl⟩, k H1 (Ex.refl _)⟩
    · intro i H1 e hi
      have hz2 : i < z.cps.toList.length := by
        have e2 : z.cps.toList.length = z.length := Array.length_toList
        omega
      have hat : atI z.cps.toList (i : Int) = some z.cps.toList[i] := atI_nat (List.getElem?_eq_getElem hz2)
      have hc := cut_one (List.getElem?_eq_getElem hz2)
      intro H2 e2 Q2 k2
      refine ⟨_, rfl, _, rfl, _, rfl, _, rfl, _, _, rfl, rfl, _, rfl, z, rfl, hz', _, rfl, _, rfl, .inr (.inr ⟨z, _, _, rfl, rfl, hz', hat, rfl, _, rfl, ?_⟩)⟩
      rw [hc, decide_eq_true rfl]
      exact k2 H2 (Ex.refl _)
  | @lst n a b xs ys h1 h2 hl hl1 all =>
    refine ⟨_, rfl, rfl, _, rfl, iteF ⟨_, rfl, _, _, _, _, false, rfl, .ty _, (tyL h2), kit_ty (by decide +kernel), ⟨_, rfl, iteF ?_⟩⟩⟩
    refine ⟨_, rfl, _, _, _, _, false, rfl, .ty _, (tyL h2), kit_ty (by decide +kernel), ⟨_, rfl, iteF ?_⟩⟩
    refine ⟨_, rfl, _, _, _, _, false, rfl, .ty _, (tyL h2), kit_ty (by decide +kernel), ⟨_, rfl, iteF ?_⟩⟩
    refine ⟨_, rfl, _, _, _, _, true, rfl, .ty _, (tyL h1), kit_ty (by decide +kernel), ⟨_, rfl, _, _, _, _, true, rfl, .ty _, (tyL h2), kit_ty (by decide +kernel), ⟨rfl, _, rfl, iteF ?_⟩⟩⟩
    refine ⟨_, rfl, _, _, _, _, false, rfl, .ty _, (tyL h1), kit_ty (by decide +kernel), ⟨_, rfl, _, _, _, _, false, rfl, .ty _, (tyL h2), kit_ty (by decide +kernel), ⟨rfl, _, rfl, iteF ?_⟩⟩⟩
    refine ⟨_, rfl, _, xs.length, rfl, .inl ⟨_, h1, rfl⟩, _, rfl, _, ys.length, rfl, .inl ⟨_, h2, rfl⟩, rfl, _, rfl, ?_⟩
    rw [if_pos (decide_eq_true (by rw [hl]))]
    refine eq_empty (no_given (n := (ys.length : Int).toNat) (v := fun _ => V.non)) ?_ H (Ex.refl _) Q (fun H2 e2 => q H2 e2)
    refine el_lcR1 (fun _ => false) (fun _ => V.non) ?_ ⟨by omega, by omega⟩ (fun _ => rfl) ?_ (fun _ _ _ _ hf => nomatch hf)
    · exact fun H1 e Q' k => ⟨_, rfl, _, ys.length, rfl, .inl ⟨_, ex_l e h2, rfl⟩, k H1 (Ex.refl _)⟩
    · intro i H1 e hi H2 e2 Q2 k2
      have hy : ys[i]? = some ys[i] := List.getElem?_eq_getElem (by omega)
      have hx : xs[i]? = some xs[i] := List.getElem?_eq_getElem (by omega)
      refine ⟨_, rfl, _, rfl, .inl ⟨_, _, _, _, rfl, rfl, ex_l (e.trans e2) h1, atI_nat hx, _, rfl, _, rfl, .inl ⟨_, _, _, _, rfl, rfl, ex_l (e.trans e2) h2, atI_nat hy, ?_⟩⟩⟩
      exact ⟨_, _, rfl, (all i _ _ hx hy).ex (e.trans e2), fun H3 e3 => ⟨true, rfl, k2 H3 e3⟩⟩
  | @tup n a b xs ys h1 h2 hl hl1 all =>
    refine ⟨_, rfl, rfl, _, rfl, iteF ⟨_, rfl, _, _, _, _, false, rfl, .ty _, (tyT h2), kit_ty (by decide +kernel), ⟨_, rfl, iteF ?_⟩⟩⟩
    refine ⟨_, rfl, _, _, _, _, false, rfl, .ty _, (tyT h2), kit_ty (by decide +kernel), ⟨_, rfl, iteF ?_⟩⟩
    refine ⟨_, rfl, _, _, _, _, false, rfl, .ty _, (tyT h2), kit_ty (by decide +kernel), ⟨_, rfl, iteF ?_⟩⟩
    refine ⟨_, rfl, _, _, _, _, false, rfl, .ty _, (tyT h1), kit_ty (by decide +kernel), ⟨_, rfl, _, _, _, _, false, rfl, .ty _, (tyT h2), kit_ty (by decide +kernel), ⟨rfl, _, rfl, iteF ?_⟩⟩⟩
    refine ⟨_, rfl, _, _, _, _, true, rfl, .ty _, (tyT h1), kit_ty (by decide +kernel), ⟨_, rfl, _, _, _, _, true, rfl, .ty _, (tyT h2), kit_ty (by decide +kernel), ⟨rfl, _, rfl, iteF ?_⟩⟩⟩
    refine ⟨_, rfl, _, xs.length, rfl, .inr ⟨_, h1, rfl⟩, _, rfl, _, ys.length, rfl, .inr ⟨_, h2, rfl⟩, rfl, _, rfl, ?_⟩
    rw [if_pos (decide_eq_true (by rw [hl]))]
    refine eq_empty (no_given (n := (ys.length : Int).toNat) (v := fun _ => V.non)) ?_ H (Ex.refl _) Q (fun H2 e2 => q H2 e2)
    refine el_lcR1 (fun _ => false) (fun _ => V.non) ?_ ⟨by omega, by omega⟩ (fun _ => rfl) ?_ (fun _ _ _ _ hf => nomatch hf)
    · exact fun H1 e Q' k => ⟨_, rfl, _, ys.length, rfl, .inr ⟨_, ex_t e h2, rfl⟩, k H1 (Ex.refl _)⟩
    · intro i H1 e hi H2 e2 Q2 k2
      have hy : ys[i]? = some ys[i] := List.getElem?_eq_getElem (by omega)
      have hx : xs[i]? = some xs[i] := List.getElem?_eq_getElem (by omega)
      refine ⟨_, rfl, _, rfl, .inr (.inl ⟨_, _, _, _, rfl, rfl, ex_t (e.trans e2) h1, atI_nat hx, _, rfl, _, rfl, .inr (.inl ⟨_, _, _, _, rfl, rfl, ex_t (e.trans e2) h2, atI_nat hy, ?_⟩)⟩)⟩
      exact ⟨_, _, rfl, (all i _ _ hx hy).ex (e.trans e2), fun H3 e3 => ⟨true, rfl, k2 H3 e3⟩⟩
theorem ok_same (T : TA1 K mg) : ∀ n, FnOk P w K mg base CX0 n T.law_same.a T.law_same.fd ["told", "due"] (spS K n)
  | 0 => none_left fun _ _ _ _ h => h
  | n + 1 => same_step T n (ok_same T n)
theorem ok_law_same (T : TA1 K mg) : FnOk P w K mg base CX0 9 T.law_same.a T.law_same.fd ["told", "due"] (spSame K 8) := ok_same T 9
end
end L2.U


set_option Elab.async false
set_option linter.all false
set_option maxRecDepth 100000
set_option maxHeartbeats 4000000
namespace L2.U
open PySem PySem.Spec PyProof.Rows Evl

abbrev s_arrangements : Stmt := top 21
theorem sc_arrangements : FnScope ["parts", "result", "total", "part"] ["parts"] (defScope s_arrangements) := ⟨rfl, rfl, rfl, by decide +kernel, rfl, by decide +kernel, by decide +kernel⟩
abbrev s_even_parts : Stmt := top 22
theorem sc_even_parts : FnScope ["total", "many", "low", "greater"] ["total", "many"] (defScope s_even_parts) := ⟨rfl, rfl, rfl, by decide +kernel, rfl, by decide +kernel, by decide +kernel⟩
abbrev s_most_arranged : Stmt := top 23
theorem sc_most_arranged : FnScope ["total", "rounds", "rest"] ["total", "rounds", "rest"] (defScope s_most_arranged) := ⟨rfl, rfl, rfl, by decide +kernel, rfl, by decide +kernel, by decide +kernel⟩
abbrev s_check_number : Stmt := top 24
theorem sc_check_number : FnScope ["number"] ["number"] (defScope s_check_number) := ⟨rfl, rfl, rfl, by decide +kernel, rfl, by decide +kernel, by decide +kernel⟩
abbrev s_check_many : Stmt := top 25
theorem sc_check_many : FnScope ["many"] ["many"] (defScope s_check_many) := ⟨rfl, rfl, rfl, by decide +kernel, rfl, by decide +kernel, by decide +kernel⟩
abbrev s_are_between : Stmt := top 6
theorem sc_are_between : FnScope ["values", "low", "high", "value"] ["values", "low", "high"] (defScope s_are_between) := ⟨rfl, rfl, rfl, by decide +kernel, rfl, by decide +kernel, by decide +kernel⟩
abbrev s_greatest_by : Stmt := top 27
theorem sc_greatest_by : FnScope ["kinds", "parts"] ["kinds", "parts"] (defScope s_greatest_by) := ⟨rfl, rfl, rfl, by decide +kernel, rfl, by decide +kernel, by decide +kernel⟩
abbrev s_gathered : Stmt := top 31
theorem sc_gathered : FnScope ["kinds", "answers", "many"] ["kinds", "answers"] (defScope s_gathered) := ⟨rfl, rfl, rfl, by decide +kernel, rfl, by decide +kernel, by decide +kernel⟩
abbrev s_spread : Stmt := top 32
theorem sc_spread : FnScope ["kinds", "answers"] ["kinds", "answers"] (defScope s_spread) := ⟨rfl, rfl, rfl, by decide +kernel, rfl, by decide +kernel, by decide +kernel⟩
abbrev s_are_numbers : Stmt := top 33
theorem sc_are_numbers : FnScope ["value", "low"] ["value", "low"] (defScope s_are_numbers) := ⟨rfl, rfl, rfl, by decide +kernel, rfl, by decide +kernel, by decide +kernel⟩
abbrev s_can_tell : Stmt := top 38
theorem sc_can_tell : FnScope ["row", "own", "other", "least"] ["row", "own", "other"] (defScope s_can_tell) := ⟨rfl, rfl, rfl, by decide +kernel, rfl, by decide +kernel, by decide +kernel⟩
abbrev s_is_row : Stmt := top 39
theorem sc_is_row : FnScope ["value"] ["value"] (defScope s_is_row) := ⟨rfl, rfl, rfl, by decide +kernel, rfl, by decide +kernel, by decide +kernel⟩
abbrev s_stairs_by : Stmt := top 40
theorem sc_stairs_by : FnScope ["row", "told", "found", "number"] ["row", "told"] (defScope s_stairs_by) := ⟨rfl, rfl, rfl, by decide +kernel, rfl, by decide +kernel, by decide +kernel⟩
abbrev s_stair : Stmt := top 41
theorem sc_stair : FnScope ["number", "told", "further", "needs", "rest", "kinds"] ["number", "told", "further"] (defScope s_stair) := ⟨rfl, rfl, rfl, by decide +kernel, rfl, by decide +kernel, by decide +kernel⟩
abbrev s_least : Stmt := top 42
theorem sc_least : FnScope ["number", "told", "needs", "least", "rest", "values", "answers", "both"] ["number", "told", "needs"] (defScope s_least) := ⟨rfl, rfl, rfl, by decide +kernel, rfl, by decide +kernel, by decide +kernel⟩
abbrev s_need : Stmt := top 43
theorem sc_need : FnScope ["further", "rest", "kinds", "least"] ["further", "rest"] (defScope s_need) := ⟨rfl, rfl, rfl, by decide +kernel, rfl, by decide +kernel, by decide +kernel⟩
abbrev s_fewest_answers : Stmt := top 44
theorem sc_fewest_answers : FnScope ["number", "values", "answers", "many"] ["number", "values"] (defScope s_fewest_answers) := ⟨rfl, rfl, rfl, by decide +kernel, rfl, by decide +kernel, by decide +kernel⟩
abbrev s_told_by_kinds : Stmt := top 45
theorem sc_told_by_kinds : FnScope ["most", "rest", "kinds"] ["most"] (defScope s_told_by_kinds) := ⟨rfl, rfl, rfl, by decide +kernel, rfl, by decide +kernel, by decide +kernel⟩
abbrev s_told_by : Stmt := top 46
theorem sc_told_by : FnScope ["kinds", "rest", "rounds"] ["kinds", "rest"] (defScope s_told_by) := ⟨rfl, rfl, rfl, by decide +kernel, rfl, by decide +kernel, by decide +kernel⟩
abbrev s_check_row_and_kinds : Stmt := top 47
theorem sc_check_row_and_kinds : FnScope ["row", "own", "other"] ["row", "own", "other"] (defScope s_check_row_and_kinds) := ⟨rfl, rfl, rfl, by decide +kernel, rfl, by decide +kernel, by decide +kernel⟩
abbrev s_check_row : Stmt := top 48
theorem sc_check_row : FnScope ["row"] ["row"] (defScope s_check_row) := ⟨rfl, rfl, rfl, by decide +kernel, rfl, by decide +kernel, by decide +kernel⟩
abbrev s_check_kinds : Stmt := top 49
theorem sc_check_kinds : FnScope ["own", "other"] ["own", "other"] (defScope s_check_kinds) := ⟨rfl, rfl, rfl, by decide +kernel, rfl, by decide +kernel, by decide +kernel⟩
abbrev s_init_InvalidNumber : Stmt := inClass (top 10) 0
theorem sc_init_InvalidNumber : FnScope ["self", "given"] ["self", "given"] (defScope s_init_InvalidNumber) := ⟨rfl, rfl, rfl, by decide +kernel, rfl, by decide +kernel, by decide +kernel⟩
abbrev s_init_InvalidMany : Stmt := inClass (top 11) 0
theorem sc_init_InvalidMany : FnScope ["self", "given"] ["self", "given"] (defScope s_init_InvalidMany) := ⟨rfl, rfl, rfl, by decide +kernel, rfl, by decide +kernel, by decide +kernel⟩
abbrev s_init_InvalidParts : Stmt := inClass (top 12) 0
theorem sc_init_InvalidParts : FnScope ["self", "given"] ["self", "given"] (defScope s_init_InvalidParts) := ⟨rfl, rfl, rfl, by decide +kernel, rfl, by decide +kernel, by decide +kernel⟩
abbrev s_init_InvalidRest : Stmt := inClass (top 13) 0
theorem sc_init_InvalidRest : FnScope ["self", "given"] ["self", "given"] (defScope s_init_InvalidRest) := ⟨rfl, rfl, rfl, by decide +kernel, rfl, by decide +kernel, by decide +kernel⟩
structure TA2 (K : PySem.W.Frag) (mg : Str → Option Value) extends TA1 K mg where
  arrangements : DefAt K mg "arrangements" s_arrangements ["parts"]
  even_parts : DefAt K mg "even_parts" s_even_parts ["total", "many"]
  most_arranged : DefAt K mg "most_arranged" s_most_arranged ["total", "rounds", "rest"]
  check_number : DefAt K mg "_check_number" s_check_number ["number"]
  check_many : DefAt K mg "_check_many" s_check_many ["many"]
  are_between : DefAt K mg "are_between" s_are_between ["values", "low", "high"]
  greatest_by : DefAt K mg "greatest_by" s_greatest_by ["kinds", "parts"]
  gathered : DefAt K mg "gathered" s_gathered ["kinds", "answers"]
  spread : DefAt K mg "spread" s_spread ["kinds", "answers"]
  are_numbers : DefAt K mg "_are_numbers" s_are_numbers ["value", "low"]
  can_tell : DefAt K mg "can_tell" s_can_tell ["row", "own", "other"]
  is_row : DefAt K mg "is_row" s_is_row ["value"]
  stairs_by : DefAt K mg "stairs_by" s_stairs_by ["row", "told"]
  stair : DefAt K mg "_stair" s_stair ["number", "told", "further"]
  least : DefAt K mg "_least" s_least ["number", "told", "needs"]
  need : DefAt K mg "_need" s_need ["further", "rest"]
  fewest_answers : DefAt K mg "_fewest_answers" s_fewest_answers ["number", "values"]
  told_by_kinds : DefAt K mg "told_by_kinds" s_told_by_kinds ["most"]
  told_by : DefAt K mg "_told_by" s_told_by ["kinds", "rest"]
  check_row_and_kinds : DefAt K mg "check_row_and_kinds" s_check_row_and_kinds ["row", "own", "other"]
  check_row : DefAt K mg "_check_row" s_check_row ["row"]
  check_kinds : DefAt K mg "_check_kinds" s_check_kinds ["own", "other"]
  InvalidNumber : ErrAt K mg "InvalidNumber" "InvalidNumber.__init__" s_init_InvalidNumber "given"
  InvalidMany : ErrAt K mg "InvalidMany" "InvalidMany.__init__" s_init_InvalidMany "given"
  InvalidParts : ErrAt K mg "InvalidParts" "InvalidParts.__init__" s_init_InvalidParts "given"
  InvalidRest : ErrAt K mg "InvalidRest" "InvalidRest.__init__" s_init_InvalidRest "given"
  t_HIGHEST : Tok
  c_HIGHEST : mg "HIGHEST" = some (.int 64 t_HIGHEST)
  t_MOST_KINDS_stars : Tok
  c_MOST_KINDS_stars : mg "MOST_KINDS_stars" = some (.int 8 t_MOST_KINDS_stars)
  t_MOST_OTHERS : Tok
  c_MOST_OTHERS : mg "MOST_OTHERS" = some (.int 4 t_MOST_OTHERS)
  t_MOST_NUMBERS : Tok
  c_MOST_NUMBERS : mg "MOST_NUMBERS" = some (.int 16 t_MOST_NUMBERS)
  t_GREATEST : Tok
  c_GREATEST : mg "GREATEST" = some (.int 100000000000000000000000000000000000000000000000000 t_GREATEST)
  t_MOST_KINDS_rows : Tok
  c_MOST_KINDS_rows : mg "MOST_KINDS_rows" = some (.int 16 t_MOST_KINDS_rows)
  c_comb : mg "comb" = some (.builtin "math.comb")
  z_max : mg "max" = none
  z_min : mg "min" = none
  z_enumerate : mg "enumerate" = none
section
variable {P : Program} {w : World} {K : PySem.W.Frag} {mg : Str → Option Value} {base : Heap}
section
variable {X : Cx}
theorem kmax (K : PySem.W.Frag) (hc : X.calm = true) (h : X.K = K := by rfl) : CallR X (.builtin "max") (rMax K) := by subst h; exact cr_max hc
theorem kmin (K : PySem.W.Frag) (hc : X.calm = true) (h : X.K = K := by rfl) : CallR X (.builtin "min") (rMin K) := by subst h; exact cr_min hc
end
theorem two_le : 2 ≤ sizeLine := by decide
theorem ok_init_InvalidNumber (T : ErrAt K mg "InvalidNumber" "InvalidNumber.__init__" s_init_InvalidNumber "given") : FnOk P w K mg base CX0 1 T.fI T.fd ["self", "given"] (spInit T.C "given") := by
  refine T.F.ok sc_init_InvalidNumber (fun vs H Q E h => ?_) (fun cdv A outer s H vs Q E hr h => ?_)
  · obtain ⟨a, y, rfl, _⟩ := h; rfl
  obtain ⟨a, y, rfl, ha, q⟩ := h
  exact ⟨_, pss_one (ps_ost (pv 0) (pv 1)), _, rfl, _, rfl, a, T.C, rfl, T.T, T.nf, .inl ⟨ha, fun d hd nd => q d hd nd⟩⟩
theorem ok_init_InvalidMany (T : ErrAt K mg "InvalidMany" "InvalidMany.__init__" s_init_InvalidMany "given") : FnOk P w K mg base CX0 1 T.fI T.fd ["self", "given"] (spInit T.C "given") := by
  refine T.F.ok sc_init_InvalidMany (fun vs H Q E h => ?_) (fun cdv A outer s H vs Q E hr h => ?_)
  · obtain ⟨a, y, rfl, _⟩ := h; rfl
  obtain ⟨a, y, rfl, ha, q⟩ := h
  exact ⟨_, pss_one (ps_ost (pv 0) (pv 1)), _, rfl, _, rfl, a, T.C, rfl, T.T, T.nf, .inl ⟨ha, fun d hd nd => q d hd nd⟩⟩
theorem ok_init_InvalidParts (T : ErrAt K mg "InvalidParts" "InvalidParts.__init__" s_init_InvalidParts "given") : FnOk P w K mg base CX0 1 T.fI T.fd ["self", "given"] (spInit T.C "given") := by
  refine T.F.ok sc_init_InvalidParts (fun vs H Q E h => ?_) (fun cdv A outer s H vs Q E hr h => ?_)
  · obtain ⟨a, y, rfl, _⟩ := h; rfl
  obtain ⟨a, y, rfl, ha, q⟩ := h
  exact ⟨_, pss_one (ps_ost (pv 0) (pv 1)), _, rfl, _, rfl, a, T.C, rfl, T.T, T.nf, .inl ⟨ha, fun d hd nd => q d hd nd⟩⟩
theorem ok_init_InvalidRest (T : ErrAt K mg "InvalidRest" "InvalidRest.__init__" s_init_InvalidRest "given") : FnOk P w K mg base CX0 1 T.fI T.fd ["self", "given"] (spInit T.C "given") := by
  refine T.F.ok sc_init_InvalidRest (fun vs H Q E h => ?_) (fun cdv A outer s H vs Q E hr h => ?_)
  · obtain ⟨a, y, rfl, _⟩ := h; rfl
  obtain ⟨a, y, rfl, ha, q⟩ := h
  exact ⟨_, pss_one (ps_ost (pv 0) (pv 1)), _, rfl, _, rfl, a, T.C, rfl, T.T, T.nf, .inl ⟨ha, fun d hd nd => q d hd nd⟩⟩
/-- a check of any data: it lets what is right, else raises the error of C with the very value -/
def spChkD (K : PySem.W.Frag) (C : Addr) (okD : PyData → Bool) : Sp := fun vs H Q E => ∃ x d n ok, vs = [x] ∧ Rd K ok H n x d ∧ (okD d = true → ∀ H', Ex H H' → Q .non H') ∧
  (okD d = false → ∀ e H', Ex H H' → H' e = some (.xd [("given", x)]) → E (.ref C) (some e) H')
def num64 (d : PyData) : Bool := betwD 0 64 d
def many64 (d : PyData) : Bool := betwD 1 64 d
theorem ok_check_number (T : TA2 K mg) : FnOk P w K mg base (L2.CX P w) 4 T.check_number.a T.check_number.fd ["number"] (spChkD K T.InvalidNumber.C num64) := by
  refine T.check_number.F.okX sc_check_number (fun vs H Q E h => ?_) (fun cdv A outer s H vs Q E hr h => ?_)
  · obtain ⟨x, d, n, ok, rfl, _⟩ := h; rfl
  obtain ⟨x, d, n, ok, rfl, h, q1, q2⟩ := h
  refine ⟨_, (pss_one (ps_if (pt_not (pt_val (pe_call (ok_is_between T.toTA1) (hr.mono (by decide)) rfl T.is_between.m T.is_between.F.kp T.is_between.b .nil pass0 (pa_cons (pv 0) (pa_cons pe_int (pa_cons (pe_glob (v := .int 64) rfl T.c_HIGHEST ⟨_, rfl⟩) pa_nil)))))) (pss_one (ps_raise rfl (takes_of rfl rfl rfl rfl) (pmk_oex T.InvalidNumber.T T.InvalidNumber.iC T.InvalidNumber.tI (ok_init_InvalidNumber T.InvalidNumber) (hr.mono (by decide)) T.InvalidNumber.b .nil pass0 rfl T.InvalidNumber.gC (by exact (pa_cons (pv 0) pa_nil))))) pss_nil)), ?_⟩
  refine ⟨_, rfl, _, _, _, rfl, h.dat, fun b h1 h2 => ⟨b, rfl, ?_⟩⟩
  have hb := rd_betw h h1 h2
  subst hb
  cases c : betwD 0 64 d with
  | true => exact q1 c _ (Ex.refl _)
  | false => exact ⟨_, rfl, (by show 1 ≤ 1000; decide), fun a ha => raised ha fun e H' ex he => q2 c e H' ex he⟩
theorem ok_check_many (T : TA2 K mg) : FnOk P w K mg base (L2.CX P w) 4 T.check_many.a T.check_many.fd ["many"] (spChkD K T.InvalidMany.C many64) := by
  refine T.check_many.F.okX sc_check_many (fun vs H Q E h => ?_) (fun cdv A outer s H vs Q E hr h => ?_)
  · obtain ⟨x, d, n, ok, rfl, _⟩ := h; rfl
  obtain ⟨x, d, n, ok, rfl, h, q1, q2⟩ := h
  refine ⟨_, (pss_one (ps_if (pt_not (pt_val (pe_call (ok_is_between T.toTA1) (hr.mono (by decide)) rfl T.is_between.m T.is_between.F.kp T.is_between.b .nil pass0 (pa_cons (pv 0) (pa_cons pe_int (pa_cons (pe_glob (v := .int 64) rfl T.c_HIGHEST ⟨_, rfl⟩) pa_nil)))))) (pss_one (ps_raise rfl (takes_of rfl rfl rfl rfl) (pmk_oex T.InvalidMany.T T.InvalidMany.iC T.InvalidMany.tI (ok_init_InvalidMany T.InvalidMany) (hr.mono (by decide)) T.InvalidMany.b .nil pass0 rfl T.InvalidMany.gC (by exact (pa_cons (pv 0) pa_nil))))) pss_nil)), ?_⟩
  refine ⟨_, rfl, _, _, _, rfl, h.dat, fun b h1 h2 => ⟨b, rfl, ?_⟩⟩
  have hb := rd_betw h h1 h2
  subst hb
  cases c : betwD 1 64 d with
  | true => exact q1 c _ (Ex.refl _)
  | false => exact ⟨_, rfl, (by show 1 ≤ 1000; decide), fun a ha => raised ha fun e H' ex he => q2 c e H' ex he⟩
theorem betw_int {lo hi : Int} {ok : Addr → Prop} {H : Hp} {n : Nat} {x : V} {d : PyData} (h : Rd K ok H n x d) (c : betwD lo hi d = true) : ∃ i, x = .int i ∧ d = .int i ∧ lo ≤ i ∧ i ≤ hi := by
  cases h with
  | int i => exact ⟨i, rfl, rfl, of_decide_eq_true c⟩
  | non => cases c
  | bl _ => cases c
  | str _ _ _ => cases c
  | lst _ _ _ _ _ => cases c
  | tup _ _ _ _ _ => cases c

def evenOf (i j : Int) : List Int := List.replicate (i - i / j * j).toNat (i / j + 1) ++ List.replicate (j - (i - i / j * j)).toNat (i / j)
def spEven (K : PySem.W.Frag) (C D : Addr) : Sp := fun vs H Q E => ∃ x y dx dy n ok, vs = [x, y] ∧ Rd K ok H n x dx ∧ Rd K ok H n y dy ∧
  (num64 dx = true → many64 dy = true → ∀ p H', Ex H H' → (∀ i j, x = .int i → y = .int j → SqT K H' p ((evenOf i j).map V.int)) → Q (.ref p) H') ∧
  (num64 dx = false → ∀ e H', Ex H H' → H' e = some (.xd [("given", x)]) → E (.ref C) (some e) H') ∧
  (num64 dx = true → many64 dy = false → ∀ e H', Ex H H' → H' e = some (.xd [("given", y)]) → E (.ref D) (some e) H')
theorem rep_one {n : Nat} {x : V} : (List.replicate n [x]).flatten = List.replicate n x := by
  induction n with
  | zero => rfl
  | succ n ih => rw [List.replicate_succ, List.flatten_cons, ih, List.replicate_succ]; rfl
theorem even_map {i j : Int} : (List.replicate (i - i / j * j).toNat (V.int (i / j + 1)) ++ List.replicate (j - (i - i / j * j)).toNat (V.int (i / j))) = (evenOf i j).map V.int := by
  unfold evenOf
  rw [List.map_append, List.map_replicate, List.map_replicate]
theorem ok_even_parts (T : TA2 K mg) : FnOk P w K mg base (L2.CX P w) 5 T.even_parts.a T.even_parts.fd ["total", "many"] (spEven K T.InvalidNumber.C T.InvalidMany.C) := by
  refine T.even_parts.F.okX sc_even_parts (fun vs H Q E h => ?_) (fun cdv A outer s H vs Q E hr h => ?_)
  · obtain ⟨x, y, dx, dy, n, ok, rfl, _⟩ := h; rfl
  obtain ⟨x, y, dx, dy, n, ok, rfl, hx, hy, q1', q2, q3⟩ := h
  refine ⟨_, (pss_cons (ps_expr (by exact (pe_callS (ok_check_number T) (hr.mono (by decide)) rfl T.check_number.m T.check_number.F.kp T.check_number.b (fun σ => passAt (takes_of rfl rfl rfl rfl) σ) (pa_cons (pv 0) pa_nil))))
    (pss_cons (ps_expr (by exact (pe_callS (ok_check_many T) (hr.mono (by decide)) rfl T.check_many.m T.check_many.F.kp T.check_many.b (fun σ => passAt (takes_of rfl rfl rfl rfl) σ) (pa_cons (pv 1) pa_nil))))
    (pss_cons (ps_set (i := 2) sc_even_parts.nd rfl (Or.inl rfl) (pe_op op_fdiv (pv 0) (pv 1)))
    (pss_cons (ps_set (i := 3) sc_even_parts.nd rfl (Or.inl rfl) (pe_op op_sub (pv 0) (pe_op op_mul (pv 2) (pv 1))))
    (pss_one (ps_ret (pe_op (kcatA K) (pe_op (krepA K) (pe_tup (pa_cons (pe_op op_add (pv 2) pe_int) pa_nil)) (pv 3)) (pe_op (krepA K) (pe_tup (pa_cons (pv 2) pa_nil)) (pe_op op_sub (pv 1) (pv 3)))))))))), ?_⟩
  refine ⟨_, rfl, x, dx, n, ok, rfl, hx, fun c H1 e1 => ?_, fun no e H1 e1 he => q2 no e H1 e1 he⟩
  refine ⟨_, rfl, y, dy, n, ok, rfl, hy.ex e1, fun c2 H2 e2 => ?_, fun no e H2 e2 he => q3 c no e H2 (e1.trans e2) he⟩
  obtain ⟨i, rfl, rfl, i0, i1⟩ := betw_int hx c
  obtain ⟨j, rfl, rfl, j0, j1⟩ := betw_int hy c2
  have q1 : ∀ p H', Ex H H' → SqT K H' p (List.replicate (i - i / j * j).toNat (V.int (i / j + 1)) ++ List.replicate (j - (i - i / j * j)).toNat (V.int (i / j))) → Q (.ref p) H' := fun p H' e h => q1' c c2 p H' e fun i' j' ei ej => by
    cases ei; cases ej; rw [even_map] at h; exact h
  have d2 : i / j * j ≤ i := Int.ediv_mul_le _ (by omega)
  have d3 : i - i / j * j < j := by
    have := Int.lt_ediv_add_one_mul_self i (show 0 < j by omega)
    have e : (i / j + 1) * j = i / j * j + j := by rw [Int.add_mul, Int.one_mul]
    omega
  refine ⟨_, rfl, _, rfl, _, _, rfl, rfl, ⟨by omega, by omega⟩, ?_⟩
  refine ⟨_, rfl, _, rfl, _, rfl, _, _, rfl, rfl, .inr ⟨by omega, by omega⟩, _, _, rfl, rfl, ?_⟩
  refine ⟨_, rfl, _, _, rfl, rfl, (by show 1 ≤ sizeLine; decide), fun p hp => ?_⟩
  refine ⟨_, rfl, p, _, _, rfl, rfl, st_of upd_same, by simp, by omega, by omega, (by show 1 ≤ 1000; decide), fun r H3 e3 hr3 => ?_⟩
  refine ⟨_, rfl, (by show 1 ≤ sizeLine; decide), fun p2 hp2 => ?_⟩
  refine ⟨_, rfl, _, rfl, _, _, rfl, rfl, p2, _, _, rfl, rfl, st_of upd_same, by simp, by omega, by omega, (by show 1 ≤ 1000; decide), fun r2 H4 e4 hr4 => ?_⟩
  rw [rep_one] at hr3 hr4
  have hr3' := ex_t e4 (ex_t (Ex.new hp2) hr3)
  have e5 : Ex H H4 := (((e1.trans e2).trans (Ex.new hp)).trans e3).trans ((Ex.new hp2).trans e4)
  refine ⟨r, r2, _, _, rfl, rfl, hr3', hr4, ?_, ?_, ?_, ?_⟩
  · rw [List.length_replicate, List.length_replicate]
    exact Nat.le_trans (show _ ≤ 1000 by omega) (by decide)
  · intro z
    refine q1 r2 _ e5 ?_
    rw [z]
    exact hr4
  · intro _ z
    refine q1 r _ e5 ?_
    rw [z, List.append_nil]
    exact hr3'
  · intro _ _ p5 hp5
    exact q1 p5 _ (e5.trans (Ex.new hp5)) (st_of upd_same)
/-! ### comprehensions over a list or a tuple -/
theorem given_all {n : Nat} {v : Nat → V} : given n (fun _ => true) v = (List.range n).map v := by
  unfold given
  rw [List.filter_eq_self.mpr (by intro a _; rfl)]
theorem el_lcT {σ : L2.St} {H : Hp} {a : Addr} {xs : List V} {tl te : TE} {t : TT} {j : Nat} {vs : List Nat} (f : Nat → Bool) (v : Nat → V) (h : Ev tl σ H (.ref a)) (hx : SqT K H a xs) (hz : xs.length ≤ 40000)
    (hw : ∀ x, wipe ((wipe σ vs).set j (some x)) vs = wipe σ vs) (ht : ∀ (i : Nat) (x : V) H1, Ex H H1 → xs[i]? = some x → EvT t ((wipe σ vs).set j (some x)) H1 (f i))
    (he : ∀ (i : Nat) (x : V) H1, Ex H H1 → xs[i]? = some x → f i = true → Ev te ((wipe σ vs).set j (some x)) H1 (v i)) : EvL (tLc (iTup K tl) (gName j) t te vs) σ H (given xs.length f v) := by
  intro H0 e Q q
  refine h H0 e _ fun H1 e1 => ?_
  have e01 := e.trans e1
  refine ⟨a, rfl, ⟨xs, ex_t e01 hx⟩, fun Dl hD => lc_tup (xs := xs) (Cw H1 f v Dl) ⟨hD, Ex.new hD, upd_same⟩ (fun i H' _ p => ex_t (e01.trans p.2.1) hx) ?_ ?_⟩
  · intro i x H' hi p
    have hlt := (List.getElem?_eq_some_iff.mp hi).1
    exact ⟨hw x, cw_turn p (by omega) (ht i x H1 e01 hi) (fun hf => he i x H1 e01 hi hf)⟩
  · exact fun H' p => q Dl H' (fresh_back e1 p.1) (e1.trans p.2.1) p.2.2
theorem el_lcL {σ : L2.St} {H : Hp} {a : Addr} {xs : List V} {tl te : TE} {t : TT} {j : Nat} {vs : List Nat} (f : Nat → Bool) (v : Nat → V) (h : Ev tl σ H (.ref a)) (hx : SqL K H a xs) (hz : xs.length ≤ 40000)
    (hw : ∀ x, wipe ((wipe σ vs).set j (some x)) vs = wipe σ vs) (ht : ∀ (i : Nat) (x : V) H1, Ex H H1 → xs[i]? = some x → EvT t ((wipe σ vs).set j (some x)) H1 (f i))
    (he : ∀ (i : Nat) (x : V) H1, Ex H H1 → xs[i]? = some x → f i = true → Ev te ((wipe σ vs).set j (some x)) H1 (v i)) : EvL (tLc (iList K tl) (gName j) t te vs) σ H (given xs.length f v) := by
  intro H0 e Q q
  refine h H0 e _ fun H1 e1 => ?_
  have e01 := e.trans e1
  refine ⟨a, rfl, ⟨xs, ex_l e01 hx⟩, fun Dl hD => lc_list (xs := xs) (Cw H1 f v Dl) ⟨hD, Ex.new hD, upd_same⟩ (fun i H' _ p => ex_l (e01.trans p.2.1) hx) ?_ ?_⟩
  · intro i x H' hi p
    have hlt := (List.getElem?_eq_some_iff.mp hi).1
    exact ⟨hw x, cw_turn p (by omega) (ht i x H1 e01 hi) (fun hf => he i x H1 e01 hi hf)⟩
  · exact fun H' p => q Dl H' (fresh_back e1 p.1) (e1.trans p.2.1) p.2.2
/-! ### all of a list or tuple are ints from lo on -/
def itemsD : PyData → List PyData
  | .list ds => ds
  | .tuple ds => ds
  | _ => []
/-- an address of a list or a tuple that holds data -/
theorem rd_seq {ok : Addr → Prop} {H : Hp} {n : Nat} {x : V} {d : PyData} (h : Rd K ok H n x d) (s : isSeq d = true) : ∃ a xs, x = .ref a ∧ (SqL K H a xs ∧ d = .list (itemsD d) ∨ SqT K H a xs ∧ d = .tuple (itemsD d)) ∧ xs.length = (itemsD d).length ∧ xs.length ≤ 1000 ∧
    ∀ (i : Nat) (x : V) (e : PyData), xs[i]? = some x → (itemsD d)[i]? = some e → Rd K ok H (n - 1) x e := by
  cases h with
  | lst h ha hl hz all => exact ⟨_, _, rfl, .inl ⟨SqL.of h, rfl⟩, hl, by omega, all⟩
  | tup h ha hl hz all => exact ⟨_, _, rfl, .inr ⟨h, rfl⟩, hl, by omega, all⟩
  | non => cases s
  | bl _ => cases s
  | int _ => cases s
  | str _ _ _ => cases s
def spAreFrom (K : PySem.W.Frag) : Sp := fun vs H Q _ => ∃ x d n ok lo, vs = [x, .int lo] ∧ Rd K ok H n x d ∧ isSeq d = true ∧ ∀ H', Ex H H' → Q (.bl ((itemsD d).all (fromD lo))) H'
theorem ok_are_from (T : TA2 K mg) : FnOk P w K mg base CX0 3 T.are_from.a T.are_from.fd ["values", "low"] (spAreFrom K) := by
  refine T.are_from.F.ok sc_are_from (fun vs H Q E h => ?_) (fun cdv A outer s H vs Q E hr h => ?_)
  · obtain ⟨x, d, n, ok, lo, rfl, _⟩ := h; rfl
  obtain ⟨x, d, n, ok, lo, rfl, h, sq, q⟩ := h
  obtain ⟨a, xs, rfl, hs, hl, hz, all⟩ := rd_seq h sq
  refine ⟨_, (pss_one (ps_ret (pe_callB (kall K rfl) (by rfl) T.z_all (by decide +kernel) (pa_cons (pe_lc (own := [("value", 2)]) (g := gName 2) (by rfl) sc_are_from.nd (kpis K (pv 0)) (blkOk_by (own := [("value", 2)]) (N := ["values", "low", "value"]) (sc := defScope s_are_from) (by decide +kernel)) (fun _ _ _ _ _ => (pg_name (i := 2) sc_are_from.nd rfl (Or.inl rfl))) (fun _ _ _ _ _ => pts_nil) (fun _ _ _ _ _ => (pe_call (ok_is_from T.toTA1) (hr.mono (by decide)) rfl T.is_from.m T.is_from.F.kp T.is_from.b .nil pass0 (pa_cons (pv 2) (pa_cons (pv 1) pa_nil))))) pa_nil)))), ?_⟩
  have fin : ∀ (p : Addr) (H2 : Hp), H p = none → Ex H H2 → H2 p = some (.lst (given xs.length (fun _ => true) (fun i => .bl (fromD lo ((itemsD d).getD i .none))))) → ∃ (a : Addr) (bs : List Bool), [V.ref p] = [V.ref a] ∧ SqL K H2 a (bs.map V.bl) ∧ Q (.bl (bs.all id)) H2 := by
    intro p H2 _ e2 h2
    rw [given_all] at h2
    refine ⟨p, (itemsD d).map (fromD lo), rfl, ?_, ?_⟩
    · have e : (List.range xs.length).map (fun i => V.bl (fromD lo ((itemsD d).getD i .none))) = ((itemsD d).map (fromD lo)).map V.bl := by
        apply List.ext_getElem?
        intro i
        rw [List.getElem?_map, List.getElem?_map, List.getElem?_map]
        by_cases c : i < xs.length
        · rw [List.getElem?_range c, List.getElem?_eq_getElem (show i < (itemsD d).length by omega)]
          simp [List.getD_eq_getElem?_getD, List.getElem?_eq_getElem (show i < (itemsD d).length by omega)]
        · rw [List.getElem?_eq_none (by rw [List.length_range]; omega), List.getElem?_eq_none (show (itemsD d).length ≤ i by omega)]
          rfl
      rw [e] at h2
      exact SqL.of h2
    · rw [List.all_map]
      exact q H2 e2
  have he : ∀ (i : Nat) (x : V) (H1 : Hp), Ex H H1 → xs[i]? = some x → Ev (tCall (spIsFrom K) [] E0 (tCons (tVar 2) (tCons (tVar 1) tNil))) ((wipe (start ["values", "low", "value"] [.ref a, .int lo]) [2]).set 2 (some x)) H1 (.bl (fromD lo ((itemsD d).getD i .none))) := by
    intro i x H1 e1 hx H2 e2 Q2 k2
    have hi := (List.getElem?_eq_some_iff.mp hx).1
    have hd : (itemsD d)[i]? = some ((itemsD d)[i]'(by omega)) := List.getElem?_eq_getElem _
    have r := (all i x _ hx hd).ex (e1.trans e2)
    have g : (itemsD d).getD i .none = (itemsD d)[i]'(by omega) := by rw [List.getD_eq_getElem?_getD, hd]; rfl
    refine ⟨_, rfl, _, rfl, _, _, rfl, r.dat, fun b h1 h2 => ?_⟩
    rw [rd_from r h1 h2, ← g]
    exact k2 H2 (Ex.refl _)
  rcases hs with ⟨hs, _⟩ | ⟨hs, _⟩
  · exact .inl ((el_lcL (t := tYes) (σ := start ["values", "low", "value"] [.ref a, .int lo]) (vs := [2]) (fun _ => true) (fun i => .bl (fromD lo ((itemsD d).getD i .none))) (ev_var rfl) hs (by omega) (fun _ => rfl) (fun i x H1 _ _ H2 _ Q k => k H2 (Ex.refl _)) (fun i x H1 e1 hx _ => he i x H1 e1 hx)) H (Ex.refl _) (fun v H2 => rAll K [v] H2 Q) fin)
  · exact .inr ((el_lcT (t := tYes) (σ := start ["values", "low", "value"] [.ref a, .int lo]) (vs := [2]) (fun _ => true) (fun i => .bl (fromD lo ((itemsD d).getD i .none))) (ev_var rfl) hs (by omega) (fun _ => rfl) (fun i x H1 _ _ H2 _ Q k => k H2 (Ex.refl _)) (fun i x H1 e1 hx _ => he i x H1 e1 hx)) H (Ex.refl _) (fun v H2 => rAll K [v] H2 Q) fin)

/-- what arrangements reckons -/
def arr : Int → List Int → Int
  | _, [] => 1
  | t, p :: r => PySem.W.mcComb (t + p) p * arr (t + p) r
def arrUp (l : List Int) : Int × Int := l.foldl (fun s p => (s.1 * PySem.W.mcComb (s.2 + p) p, s.2 + p)) (1, 0)
theorem arrUp_more {l : List Int} {i : Nat} {z : Int} (h : l[i]? = some z) : arrUp (l.take (i + 1)) = ((arrUp (l.take i)).1 * PySem.W.mcComb ((arrUp (l.take i)).2 + z) z, (arrUp (l.take i)).2 + z) := by
  obtain ⟨hi, e⟩ := List.getElem?_eq_some_iff.mp h
  rw [← List.take_append_getElem hi, e]
  unfold arrUp
  rw [List.foldl_append]
  rfl
theorem arrUp_two (l : List Int) (i : Nat) : (arrUp (l.take i)).2 = (l.take i).sum := by
  have gen : ∀ (m : List Int) (s : Int × Int), (m.foldl (fun s p => (s.1 * PySem.W.mcComb (s.2 + p) p, s.2 + p)) s).2 = s.2 + m.sum := by
    intro m
    induction m with
    | nil => intro s; simp
    | cons a r ih => intro s; rw [List.foldl_cons, ih, List.sum_cons]; exact Int.add_assoc _ _ _
  have g := gen (l.take i) (1, 0)
  unfold arrUp
  rw [g]
  exact Int.zero_add _
theorem nn_sum {l : List Int} (h : ∀ n ∈ l, 0 ≤ n) : 0 ≤ l.sum := by
  induction l with
  | nil => exact Int.le_refl _
  | cons a r ih =>
    rw [List.sum_cons]
    have h1 := h a List.mem_cons_self
    have h2 := ih fun n hn => h n (List.mem_cons_of_mem _ hn)
    omega
theorem part_le {l : List Int} (h : ∀ n ∈ l, 0 ≤ n) {i : Nat} {z : Int} (hz : l[i]? = some z) : 0 ≤ z ∧ 0 ≤ (l.take i).sum ∧ (l.take i).sum + z ≤ l.sum := by
  obtain ⟨hi, e⟩ := List.getElem?_eq_some_iff.mp hz
  have h1 : 0 ≤ z := h z (e ▸ List.getElem_mem hi)
  have h2 : 0 ≤ (l.take i).sum := nn_sum fun n hn => h n (List.mem_of_mem_take hn)
  have h3 : 0 ≤ (l.drop (i + 1)).sum := nn_sum fun n hn => h n (List.mem_of_mem_drop hn)
  have h4 : l.sum = (l.take i).sum + (z + (l.drop (i + 1)).sum) := by
    conv => lhs; rw [← List.take_append_drop i l, List.drop_eq_getElem_cons hi, e]
    rw [List.sum_append, List.sum_cons]
  omega
theorem comb_lt {a b : Int} (ha : 0 ≤ a) (h : a ≤ 64) (hb : 0 ≤ b) (hb2 : b ≤ 64) : 0 ≤ PySem.W.mcComb a b ∧ PySem.W.mcComb a b < 2 ^ 64 := by
  have key : ∀ n : Fin 65, ∀ k : Fin 65, 0 ≤ PySem.W.mcComb (n.val : Int) (k.val : Int) ∧ PySem.W.mcComb (n.val : Int) (k.val : Int) < 2 ^ 64 := by decide +kernel
  have := key ⟨a.toNat, by omega⟩ ⟨b.toNat, by omega⟩
  simpa [Int.toNat_of_nonneg ha, Int.toNat_of_nonneg hb] using this

def intD : PyData → Int
  | .int i => i
  | _ => 0
def intsD (d : PyData) : List Int := (itemsD d).map intD
def partsD (d : PyData) : Bool := isSeq d && (itemsD d).all (fromD 0) && decide ((intsD d).sum ≤ 64)
theorem ints_of {ok : Addr → Prop} {H : Hp} {n : Nat} {xs : List V} : ∀ {ds : List PyData} {xs : List V} {lo : Int}, xs.length = ds.length → (∀ (i : Nat) (x : V) (e : PyData), xs[i]? = some x → ds[i]? = some e → Rd K ok H n x e) → ds.all (fromD lo) = true →
    xs = (ds.map intD).map V.int ∧ ∀ z ∈ ds.map intD, lo ≤ z := by
  intro ds
  induction ds with
  | nil => intro xs lo hl _ _; cases xs with
    | nil => exact ⟨rfl, by simp⟩
    | cons _ _ => cases hl
  | cons d r ih => intro xs lo hl h ha; cases xs with
    | nil => cases hl
    | cons x xs =>
      rw [List.all_cons, Bool.and_eq_true] at ha
      have h0 := h 0 x d rfl rfl
      obtain ⟨e, f⟩ := ih (Nat.succ.inj hl) (fun i x e hx he => h (i + 1) x e hx he) ha.2
      have ha1 := ha.1
      cases h0 with
      | int i =>
        have hi : lo ≤ i := of_decide_eq_true ha1
        refine ⟨?_, ?_⟩
        · rw [List.map_cons, List.map_cons, ← e]; rfl
        · intro z hz
          rcases List.mem_cons.mp hz with rfl | hz
          · exact hi
          · exact f z hz
      | non => cases ha1
      | bl _ => cases ha1
      | str _ _ _ => cases ha1
      | lst _ _ _ _ _ => cases ha1
      | tup _ _ _ _ _ => cases ha1
def spArr (K : PySem.W.Frag) (C : Addr) : Sp := fun vs H Q E => ∃ x d n ok, vs = [x] ∧ Rd K ok H n x d ∧
  (partsD d = true → ∀ H', Ex H H' → Q (.int (arrUp (intsD d)).1) H') ∧
  (partsD d = false → ∀ e H', Ex H H' → H' e = some (.xd [("given", x)]) → E (.ref C) (some e) H')
theorem ok_arrangements (T : TA2 K mg) : FnOk P w K mg base (L2.CX P w) 5 T.arrangements.a T.arrangements.fd ["parts"] (spArr K T.InvalidParts.C) := by
  refine T.arrangements.F.okX sc_arrangements (fun vs H Q E h => ?_) (fun cdv A outer s H vs Q E hr h => ?_)
  · obtain ⟨x, d, n, ok, rfl, _⟩ := h; rfl
  obtain ⟨x, d, n, ok, rfl, h, q1, q2⟩ := h
  refine ⟨_, (pss_cons (ps_if (PW.pt (pw_or (pt_not (pt_val (pe_call (ok_is_list T.toTA1) (hr.mono (by decide)) rfl T.is_list.m T.is_list.F.kp T.is_list.b .nil pass0 (pa_cons (pv 0) pa_nil)))) (pw_or (pt_not (pt_val (pe_call (ok_are_from T) (hr.mono (by decide)) rfl T.are_from.m T.are_from.F.kp T.are_from.b .nil pass0 (pa_cons (pv 0) (pa_cons pe_int pa_nil))))) (pw_or1 (pt_cmpR op_gt (pe_callB (ksum K rfl) (by rfl) T.z_sum (by decide +kernel) (pa_cons (pv 0) pa_nil)) (pe_glob (v := .int 64) rfl T.c_HIGHEST ⟨_, rfl⟩) (nomark _)))))) (pss_one (ps_raise rfl (takes_of rfl rfl rfl rfl) (pmk_oex T.InvalidParts.T T.InvalidParts.iC T.InvalidParts.tI (ok_init_InvalidParts T.InvalidParts) (hr.mono (by decide)) T.InvalidParts.b .nil pass0 rfl T.InvalidParts.gC (by exact (pa_cons (pv 0) pa_nil))))) pss_nil)
    (pss_cons (ps_set (i := 1) sc_arrangements.nd rfl (Or.inl rfl) pe_int)
    (pss_cons (ps_set (i := 2) sc_arrangements.nd rfl (Or.inl rfl) pe_int)
    (pss_cons (ps_for (passes_of rfl) rfl (kpis K (pv 0)) (pg_name (i := 3) sc_arrangements.nd rfl (Or.inl rfl)) (pss_cons (ps_aug (i := 2) sc_arrangements.nd rfl (Or.inl rfl) (pv 3) ip_add)
    (pss_one (ps_aug (i := 1) sc_arrangements.nd rfl (Or.inl rfl) (pe_callBfun cr_comb rfl T.c_comb (pa_cons (pv 2) (pa_cons (pv 3) pa_nil))) ip_mulC))))
    (pss_one (ps_ret (pv 1))))))), ?_⟩
  refine ⟨_, rfl, x, d, n, ok, rfl, h, fun H1 e1 => ⟨isSeq d, rfl, ?_⟩⟩
  cases sq : isSeq d with
  | false => exact ⟨_, rfl, (by show 1 ≤ 1000; decide), fun a ha => raised ha fun e H' ex he => q2 (by unfold partsD; rw [sq]; rfl) e H' (e1.trans ex) he⟩
  | true =>
  have h1 := h.ex e1
  refine ⟨_, rfl, x, d, n, ok, 0, rfl, h1, sq, fun H2 e2 => ⟨_, rfl, ?_⟩⟩
  cases al : (itemsD d).all (fromD 0) with
  | false => exact ⟨_, rfl, (by show 1 ≤ 1000; decide), fun a ha => raised ha fun e H' ex he => q2 (by unfold partsD; rw [sq, al]; rfl) e H' ((e1.trans e2).trans ex) he⟩
  | true =>
  obtain ⟨a, xs, rfl, hs, hl, hz, all⟩ := rd_seq (h1.ex e2) sq
  obtain ⟨hxs, hall⟩ := ints_of (xs := xs) hl all al
  have e12 := e1.trans e2
  obtain ⟨ns, hns⟩ : ∃ ns, ns = intsD d := ⟨_, rfl⟩
  have hxs' : xs = ns.map V.int := by rw [hns]; exact hxs
  rw [hxs'] at hs
  have exs : SqL K H2 a (ns.map V.int) ∨ SqT K H2 a (ns.map V.int) := hs.imp (fun z => z.1) (fun z => z.1)
  have hall : ∀ z ∈ ns, 0 ≤ z := by rw [hns]; exact hall
  refine ⟨_, rfl, a, ns, rfl, exs, _, _, rfl, rfl, _, rfl, ite2 (fun c => ?_) (fun c => ?_)⟩
  · have c' : ¬ ns.sum ≤ 64 := by have := of_decide_eq_true c; omega
    exact ⟨_, rfl, (by show 1 ≤ 1000; decide), fun x hx => raised hx fun e H' ex he => q2 (by unfold partsD; rw [sq, al, ← hns, decide_eq_false c']; rfl) e H' (e12.trans ex) he⟩
  · have c' : ns.sum ≤ 64 := by
      have := of_decide_eq_false (Bool.eq_false_iff.mpr c)
      omega
    have okp : partsD d = true := by unfold partsD; rw [sq, al, ← hns, decide_eq_true c']; rfl
    rw [← hns] at q1
    have turn : ∀ (i : Nat) (x : V) (σ : L2.St), (ns.map V.int)[i]? = some x → (∃ v, σ = [some (.ref a), some (.int (arrUp (ns.take i)).1), some (.int (arrUp (ns.take i)).2), v]) →
        gName 3 x σ H2 fun σ2 H3 => tSeq (tAug 2 (tVar 3) (ipI fun i j => i + j)) (tAug 1 (tCB rComb (tCons (tVar 2) (tCons (tVar 3) tNil))) (fun x y H Q => ∃ i j, x = .int i ∧ y = .int j ∧ CMul i j ∧ Q (.int (i * j)) H))
          { nx := fun σ' H' => H' = H2 ∧ ∃ v, σ' = [some (.ref a), some (.int (arrUp (ns.take (i + 1))).1), some (.int (arrUp (ns.take (i + 1))).2), v], rt := Q } σ2 H3 := by
      rintro i x σ hx ⟨v, rfl⟩
      obtain ⟨z, hz, rfl⟩ := ints_get hx
      have hp := part_le hall hz
      have hm := arrUp_more hz
      have h2 := arrUp_two ns i
      have hc := @comb_lt ((arrUp (ns.take i)).2 + z) z (by omega) (by omega) hp.1 (by omega)
      refine ⟨_, rfl, _, rfl, _, _, rfl, rfl, ?_⟩
      refine ⟨_, rfl, _, rfl, _, rfl, _, _, rfl, (show 0 ≤ (arrUp (ns.take i)).2 + z by omega), (show (arrUp (ns.take i)).2 + z ≤ 1000 by omega), hp.1, by omega, _, _, rfl, rfl, .inr ⟨(show -(2 ^ 64) < PySem.W.mcComb ((arrUp (ns.take i)).2 + z) z by omega), hc.2⟩, rfl, some (.int z), ?_⟩
      rw [hm]
      rfl
    have fin : ∀ σ H', (H' = H2 ∧ ∃ v, σ = [some (.ref a), some (.int (arrUp (ns.take (ns.map V.int).length)).1), some (.int (arrUp (ns.take (ns.map V.int).length)).2), v]) → tRet (tVar 1) { nx := fun _ H' => Q .non H', rt := Q } σ H' := by
      rintro σ H' ⟨rfl, v, rfl⟩
      rw [List.length_map, List.take_length]
      exact ⟨_, rfl, q1 okp _ e12⟩
    rcases exs with hs2 | hs2
    · exact .inl ⟨_, rfl, a, rfl, ⟨_, hs2⟩, for_list (xs := ns.map V.int) (fun i σ H' => H' = H2 ∧ ∃ v, σ = [some (.ref a), some (.int (arrUp (ns.take i)).1), some (.int (arrUp (ns.take i)).2), v]) ⟨rfl, none, rfl⟩
        (fun i σ H' _ ⟨e, _⟩ => e ▸ hs2) (fun i x σ H' hx ⟨e, hv⟩ => e ▸ turn i x σ hx hv) fin⟩
    · exact .inr ⟨_, rfl, a, rfl, ⟨_, hs2⟩, for_tup (xs := ns.map V.int) (fun i σ H' => H' = H2 ∧ ∃ v, σ = [some (.ref a), some (.int (arrUp (ns.take i)).1), some (.int (arrUp (ns.take i)).2), v]) ⟨rfl, none, rfl⟩
        (fun i σ H' _ ⟨e, _⟩ => e ▸ hs2) (fun i x σ H' hx ⟨e, hv⟩ => e ▸ turn i x σ hx hv) fin⟩

def mostA (t r s : Int) : Int := if t - s < r then 0 else (arrUp (evenOf (t - s) r ++ [s])).1
def spMost (K : PySem.W.Frag) (C D F : Addr) : Sp := fun vs H Q E => ∃ x y z dx dy dz n ok, vs = [x, y, z] ∧ Rd K ok H n x dx ∧ Rd K ok H n y dy ∧ Rd K ok H n z dz ∧
  (num64 dx = true → many64 dy = true → num64 dz = true → ∀ H', Ex H H' → Q (.int (mostA (intD dx) (intD dy) (intD dz))) H') ∧
  (num64 dx = false → ∀ e H', Ex H H' → H' e = some (.xd [("given", x)]) → E (.ref C) (some e) H') ∧
  (num64 dx = true → many64 dy = false → ∀ e H', Ex H H' → H' e = some (.xd [("given", y)]) → E (.ref D) (some e) H') ∧
  (num64 dx = true → many64 dy = true → num64 dz = false → ∀ e H', Ex H H' → H' e = some (.xd [("given", z)]) → E (.ref F) (some e) H')
theorem even_sum {i j : Int} (h0 : 0 ≤ i) (hj : 1 ≤ j) : (evenOf i j).length = j.toNat ∧ (evenOf i j).sum = i ∧ ∀ x ∈ evenOf i j, 0 ≤ x := by
  have d2 : i / j * j ≤ i := Int.ediv_mul_le _ (by omega)
  have d0 : 0 ≤ i / j := Int.ediv_nonneg h0 (by omega)
  have d3 : i - i / j * j < j := by
    have := Int.lt_ediv_add_one_mul_self i (show 0 < j by omega)
    have e : (i / j + 1) * j = i / j * j + j := by rw [Int.add_mul, Int.one_mul]
    omega
  generalize hg : i - i / j * j = g at *
  have sums : ∀ (n : Nat) (x : Int), (List.replicate n x).sum = n * x := by
    intro n x
    induction n with
    | zero => simp
    | succ n ih => rw [List.replicate_succ, List.sum_cons, ih]; rw [Int.natCast_succ, Int.add_mul, Int.one_mul, Int.add_comm]
  unfold evenOf
  rw [hg]
  refine ⟨by rw [List.length_append, List.length_replicate, List.length_replicate]; omega, ?_, ?_⟩
  · rw [List.sum_append, sums, sums, Int.toNat_of_nonneg (by omega), Int.toNat_of_nonneg (by omega), Int.mul_add, Int.sub_mul, Int.mul_one, Int.mul_comm j]
    omega
  · intro x hx
    rw [List.mem_append] at hx
    rcases hx with hx | hx
    · rw [List.eq_of_mem_replicate hx]; omega
    · rw [List.eq_of_mem_replicate hx]; omega
theorem okr_most_arranged (T : TA2 K mg) : FnOk P w K mg base (L2.CX P w) 6 T.most_arranged.a T.most_arranged.fd ["total", "rounds", "rest"] (spMost K T.InvalidNumber.C T.InvalidMany.C T.InvalidRest.C) := by
  refine T.most_arranged.F.okX sc_most_arranged (fun vs H Q E h => ?_) (fun cdv A outer s H vs Q E hr h => ?_)
  · obtain ⟨x, y, z, dx, dy, dz, n, ok, rfl, _⟩ := h; rfl
  obtain ⟨x, y, z, dx, dy, dz, n, ok, rfl, hx, hy, hz, q1, q2, q3, q4⟩ := h
  refine ⟨_, (pss_cons (ps_expr (by exact (pe_callS (ok_check_number T) (hr.mono (by decide)) rfl T.check_number.m T.check_number.F.kp T.check_number.b (fun σ => passAt (takes_of rfl rfl rfl rfl) σ) (pa_cons (pv 0) pa_nil))))
    (pss_cons (ps_expr (by exact (pe_callS (ok_check_many T) (hr.mono (by decide)) rfl T.check_many.m T.check_many.F.kp T.check_many.b (fun σ => passAt (takes_of rfl rfl rfl rfl) σ) (pa_cons (pv 1) pa_nil))))
    (pss_cons (ps_if (pt_not (pt_val (pe_call (ok_is_between T.toTA1) (hr.mono (by decide)) rfl T.is_between.m T.is_between.F.kp T.is_between.b .nil pass0 (pa_cons (pv 2) (pa_cons pe_int (pa_cons (pe_glob (v := .int 64) rfl T.c_HIGHEST ⟨_, rfl⟩) pa_nil)))))) (pss_one (ps_raise rfl (takes_of rfl rfl rfl rfl) (pmk_oex T.InvalidRest.T T.InvalidRest.iC T.InvalidRest.tI (ok_init_InvalidRest T.InvalidRest) (hr.mono (by decide)) T.InvalidRest.b .nil pass0 rfl T.InvalidRest.gC (by exact (pa_cons (pv 2) pa_nil))))) pss_nil)
    (pss_cons (ps_if (pt_cmpR op_lt (pe_op op_sub (pv 0) (pv 2)) (pv 1) (nomark _)) (pss_one (ps_ret pe_int)) pss_nil)
    (pss_one (ps_ret (by exact (pe_callS (ok_arrangements T) (hr.mono (by decide)) rfl T.arrangements.m T.arrangements.F.kp T.arrangements.b (fun σ => passAt (takes_of rfl rfl rfl rfl) σ) (pa_cons (pe_op (kcatA K) (by exact (pe_callS (ok_even_parts T) (hr.mono (by decide)) rfl T.even_parts.m T.even_parts.F.kp T.even_parts.b (fun σ => passAt (takes_of rfl rfl rfl rfl) σ) (pa_cons (pe_op op_sub (pv 0) (pv 2)) (pa_cons (pv 1) pa_nil)))) (pe_tup (pa_cons (pv 2) pa_nil))) pa_nil))))))))), ?_⟩
  refine ⟨_, rfl, x, dx, n, ok, rfl, hx, fun c H1 e1 => ?_, fun no e H1 e1 he => q2 no e H1 e1 he⟩
  refine ⟨_, rfl, y, dy, n, ok, rfl, hy.ex e1, fun c2 H2 e2 => ?_, fun no e H2 e2 he => q3 c no e H2 (e1.trans e2) he⟩
  have e12 := e1.trans e2
  obtain ⟨i, rfl, rfl, i0, i1⟩ := betw_int hx c
  obtain ⟨j, rfl, rfl, j0, j1⟩ := betw_int hy c2
  have hz2 := hz.ex e12
  refine ⟨_, rfl, _, _, _, rfl, hz2.dat, fun b h1 h2 => ⟨b, rfl, ?_⟩⟩
  have hb := rd_betw hz2 h1 h2
  subst hb
  cases c3 : betwD 0 64 dz with
  | false => exact ⟨_, rfl, (by show 1 ≤ 1000; decide), fun a ha => raised ha fun e H' ex he => q4 c c2 c3 e H' (e12.trans ex) he⟩
  | true =>
  obtain ⟨k, rfl, rfl, k0, k1⟩ := betw_int hz c3
  have q := q1 c c2 c3
  refine ⟨_, rfl, _, rfl, _, _, rfl, rfl, _, rfl, _, _, rfl, rfl, _, rfl, ite2 (fun c4 => ?_) (fun c4 => ?_)⟩
  · have := of_decide_eq_true c4
    have e : mostA (intD (.int i)) (intD (.int j)) (intD (.int k)) = 0 := if_pos this
    rw [e] at q
    exact q _ e12
  · have c5 : ¬ (i - k < j) := of_decide_eq_false (Bool.eq_false_iff.mpr c4)
    have e : mostA (intD (.int i)) (intD (.int j)) (intD (.int k)) = (arrUp (evenOf (i - k) j ++ [k])).1 := if_neg c5
    rw [e] at q
    have cn : num64 (.int (i - k)) = true := decide_eq_true ⟨by omega, by omega⟩
    refine ⟨_, rfl, _, rfl, _, _, rfl, rfl, _, rfl, .int (i - k), .int j, .int (i - k), .int j, 0, fun _ => True, rfl, .int _, .int _, fun _ _ p H3 e3 hp => ?_, fun no => absurd cn (by rw [no]; decide), fun _ no => absurd c2 (by rw [no]; decide)⟩
    have hp3 := hp _ _ rfl rfl
    obtain ⟨f1, f2, f3⟩ := even_sum (i := i - k) (j := j) (by omega) (by omega)
    refine ⟨_, rfl, (by show 1 ≤ sizeLine; decide), fun p2 hp2 => ?_⟩
    have e4 := Ex.new (o := .tup [.int k]) hp2
    have ds : ((evenOf (i - k) j).map V.int ++ [V.int k]) = (evenOf (i - k) j ++ [k]).map V.int := by rw [List.map_append]; rfl
    have lenE : (evenOf (i - k) j ++ [k]).length ≤ 900 := by rw [List.length_append, f1]; show _ + 1 ≤ 900; omega
    have sumE : (evenOf (i - k) j ++ [k]).sum = i := by rw [List.sum_append, f2]; simp
    have allE : ∀ x ∈ evenOf (i - k) j ++ [k], 0 ≤ x := by
      intro x hx
      rcases List.mem_append.mp hx with h | h
      · exact f3 x h
      · obtain rfl := List.mem_singleton.mp h; exact k0
    have go : ∀ (p5 : Addr) (H5 : Hp), Ex H H5 → SqT K H5 p5 ((evenOf (i - k) j ++ [k]).map V.int) → spArr K T.InvalidParts.C [.ref p5] H5 Q E := by
      intro p5 H5 e5 h5
      have ri : Rd K (fun _ => True) H5 1 (.ref p5) (.tuple ((evenOf (i - k) j ++ [k]).map PyData.int)) := .tup h5 trivial (by rw [List.length_map, List.length_map]) (by rw [List.length_map]; exact lenE) fun m x d hx hd => by
        obtain ⟨z, hz, rfl⟩ := ints_get hx
        rw [List.getElem?_map, hz] at hd
        obtain rfl := Option.some.inj hd
        exact .int z
      have ii : intsD (.tuple ((evenOf (i - k) j ++ [k]).map PyData.int)) = evenOf (i - k) j ++ [k] := by
        show ((evenOf (i - k) j ++ [k]).map PyData.int).map intD = _
        rw [List.map_map]
        exact List.map_id _
      have pd : partsD (.tuple ((evenOf (i - k) j ++ [k]).map PyData.int)) = true := by
        unfold partsD
        rw [ii, decide_eq_true (by rw [sumE]; exact i1), Bool.and_true, Bool.and_eq_true]
        refine ⟨rfl, ?_⟩
        show ((evenOf (i - k) j ++ [k]).map PyData.int).all (fromD 0) = true
        rw [List.all_eq_true]
        intro d hd
        obtain ⟨z, hz, rfl⟩ := List.mem_map.mp hd
        exact decide_eq_true (allE z hz)
      refine ⟨_, _, _, _, rfl, ri, fun _ H6 e6 => ?_, fun no => absurd pd (by rw [no]; decide)⟩
      rw [ii]
      exact q _ (e5.trans e6)
    have e34 := (e12.trans e3).trans e4
    refine ⟨p, p2, _, _, rfl, rfl, ex_t e4 hp3, st_of upd_same, ?_, ?_, ?_, ?_⟩
    · rw [List.length_map, f1]; exact Nat.le_trans (show _ + 1 ≤ 1000 by omega) (by decide)
    · intro z
      refine go p2 _ e34 ?_
      rw [← ds, z]
      exact st_of upd_same
    · intro _ z; cases z
    · intro _ _ p5 hp5
      refine go p5 _ (e34.trans (Ex.new hp5)) ?_
      rw [← ds]
      exact st_of upd_same

def spAreBetween (K : PySem.W.Frag) : Sp := fun vs H Q _ => ∃ x d n ok lo hi, vs = [x, .int lo, .int hi] ∧ Rd K ok H n x d ∧ isSeq d = true ∧ ∀ H', Ex H H' → Q (.bl ((itemsD d).all (betwD lo hi))) H'
theorem ok_are_between (T : TA2 K mg) : FnOk P w K mg base CX0 3 T.are_between.a T.are_between.fd ["values", "low", "high"] (spAreBetween K) := by
  refine T.are_between.F.ok sc_are_between (fun vs H Q E h => ?_) (fun cdv A outer s H vs Q E hr h => ?_)
  · obtain ⟨x, d, n, ok, lo, hi, rfl, _⟩ := h; rfl
  obtain ⟨x, d, n, ok, lo, hi, rfl, h, sq, q⟩ := h
  obtain ⟨a, xs, rfl, hs, hl, hz, all⟩ := rd_seq h sq
  refine ⟨_, (pss_one (ps_ret (pe_callB (kall K rfl) (by rfl) T.z_all (by decide +kernel) (pa_cons (pe_lc (own := [("value", 3)]) (g := gName 3) (by rfl) sc_are_between.nd (kpis K (pv 0)) (blkOk_by (own := [("value", 3)]) (N := ["values", "low", "high", "value"]) (sc := defScope s_are_between) (by decide +kernel)) (fun _ _ _ _ _ => (pg_name (i := 3) sc_are_between.nd rfl (Or.inl rfl))) (fun _ _ _ _ _ => pts_nil) (fun _ _ _ _ _ => (pe_call (ok_is_between T.toTA1) (hr.mono (by decide)) rfl T.is_between.m T.is_between.F.kp T.is_between.b .nil pass0 (pa_cons (pv 3) (pa_cons (pv 1) (pa_cons (pv 2) pa_nil)))))) pa_nil)))), ?_⟩
  have fin : ∀ (p : Addr) (H2 : Hp), H p = none → Ex H H2 → H2 p = some (.lst (given xs.length (fun _ => true) (fun i => .bl (betwD lo hi ((itemsD d).getD i .none))))) → ∃ (a : Addr) (bs : List Bool), [V.ref p] = [V.ref a] ∧ SqL K H2 a (bs.map V.bl) ∧ Q (.bl (bs.all id)) H2 := by
    intro p H2 _ e2 h2
    rw [given_all] at h2
    refine ⟨p, (itemsD d).map (betwD lo hi), rfl, ?_, ?_⟩
    · have e : (List.range xs.length).map (fun i => V.bl (betwD lo hi ((itemsD d).getD i .none))) = ((itemsD d).map (betwD lo hi)).map V.bl := by
        apply List.ext_getElem?
        intro i
        rw [List.getElem?_map, List.getElem?_map, List.getElem?_map]
        by_cases c : i < xs.length
        · rw [List.getElem?_range c, List.getElem?_eq_getElem (show i < (itemsD d).length by omega)]
          simp [List.getD_eq_getElem?_getD, List.getElem?_eq_getElem (show i < (itemsD d).length by omega)]
        · rw [List.getElem?_eq_none (by rw [List.length_range]; omega), List.getElem?_eq_none (show (itemsD d).length ≤ i by omega)]
          rfl
      rw [e] at h2
      exact SqL.of h2
    · rw [List.all_map]
      exact q H2 e2
  have he : ∀ (i : Nat) (x : V) (H1 : Hp), Ex H H1 → xs[i]? = some x → Ev (tCall (spIsBetween K) [] E0 (tCons (tVar 3) (tCons (tVar 1) (tCons (tVar 2) tNil)))) ((wipe (start ["values", "low", "high", "value"] [.ref a, .int lo, .int hi]) [3]).set 3 (some x)) H1 (.bl (betwD lo hi ((itemsD d).getD i .none))) := by
    intro i x H1 e1 hx H2 e2 Q2 k2
    have hi := (List.getElem?_eq_some_iff.mp hx).1
    have hd : (itemsD d)[i]? = some ((itemsD d)[i]'(by omega)) := List.getElem?_eq_getElem _
    have r := (all i x _ hx hd).ex (e1.trans e2)
    have g : (itemsD d).getD i .none = (itemsD d)[i]'(by omega) := by rw [List.getD_eq_getElem?_getD, hd]; rfl
    refine ⟨_, rfl, _, rfl, _, rfl, _, _, _, rfl, r.dat, fun b h1 h2 => ?_⟩
    rw [rd_betw r h1 h2, ← g]
    exact k2 H2 (Ex.refl _)
  rcases hs with ⟨hs, _⟩ | ⟨hs, _⟩
  · exact .inl ((el_lcL (t := tYes) (σ := start ["values", "low", "high", "value"] [.ref a, .int lo, .int hi]) (vs := [3]) (fun _ => true) (fun i => .bl (betwD lo hi ((itemsD d).getD i .none))) (ev_var rfl) hs (by omega) (fun _ => rfl) (fun i x H1 _ _ H2 _ Q k => k H2 (Ex.refl _)) (fun i x H1 e1 hx _ => he i x H1 e1 hx)) H (Ex.refl _) (fun v H2 => rAll K [v] H2 Q) fin)
  · exact .inr ((el_lcT (t := tYes) (σ := start ["values", "low", "high", "value"] [.ref a, .int lo, .int hi]) (vs := [3]) (fun _ => true) (fun i => .bl (betwD lo hi ((itemsD d).getD i .none))) (ev_var rfl) hs (by omega) (fun _ => rfl) (fun i x H1 _ _ H2 _ Q k => k H2 (Ex.refl _)) (fun i x H1 e1 hx _ => he i x H1 e1 hx)) H (Ex.refl _) (fun v H2 => rAll K [v] H2 Q) fin)


theorem rdl_ints {ok : Addr → Prop} {H : Hp} {n : Nat} (ns : List Int) : RdL K ok H n (ns.map V.int) (ns.map PyData.int) := by
  refine ⟨by rw [List.length_map, List.length_map], fun i x d hx hd => ?_⟩
  obtain ⟨z, hz, rfl⟩ := ints_get hx
  rw [List.getElem?_map, hz] at hd
  obtain rfl := Option.some.inj hd
  exact .int z
/-- the greatest arrangements of i kinds in j parts -/
def gr (i j : Int) : Int := (arrUp (evenOf i j)).1
theorem ints_dat (ns : List Int) : intsD (.tuple (ns.map PyData.int)) = ns := by
  unfold intsD itemsD
  rw [List.map_map]
  exact List.map_id _
theorem parts_dat {ns : List Int} (h0 : ∀ x ∈ ns, 0 ≤ x) (h : ns.sum ≤ 64) : partsD (.tuple (ns.map PyData.int)) = true := by
  unfold partsD
  rw [ints_dat, decide_eq_true h, Bool.and_true]
  show (true && (ns.map PyData.int).all (fromD 0)) = true
  rw [Bool.true_and, List.all_eq_true]
  intro x hx
  obtain ⟨z, hz, rfl⟩ := List.mem_map.mp hx
  exact decide_eq_true (h0 z hz)
def spGr : Sp := fun vs H Q _ => ∃ i j : Int, vs = [.int i, .int j] ∧ 0 ≤ i ∧ i ≤ 64 ∧ 1 ≤ j ∧ j ≤ 64 ∧ ∀ H', Ex H H' → Q (.int (gr i j)) H'
theorem okr_greatest_by (T : TA2 K mg) : FnOk P w K mg base (L2.CX P w) 6 T.greatest_by.a T.greatest_by.fd ["kinds", "parts"] spGr := by
  refine T.greatest_by.F.okX sc_greatest_by (fun vs H Q E h => ?_) (fun cdv A outer s H vs Q E hr h => ?_)
  · obtain ⟨i, j, rfl, _⟩ := h; rfl
  obtain ⟨i, j, rfl, i0, i1, j0, j1, q⟩ := h
  refine ⟨_, (pss_one (ps_ret (by exact (pe_callS (ok_arrangements T) (hr.mono (by decide)) rfl T.arrangements.m T.arrangements.F.kp T.arrangements.b (fun σ => passAt (takes_of rfl rfl rfl rfl) σ) (pa_cons (by exact (pe_callS (ok_even_parts T) (hr.mono (by decide)) rfl T.even_parts.m T.even_parts.F.kp T.even_parts.b (fun σ => passAt (takes_of rfl rfl rfl rfl) σ) (pa_cons (pv 0) (pa_cons (pv 1) pa_nil)))) pa_nil))))), ?_⟩
  have ni : num64 (.int i) = true := decide_eq_true ⟨i0, i1⟩
  have nj : many64 (.int j) = true := decide_eq_true ⟨j0, j1⟩
  obtain ⟨el, es, e0⟩ := even_sum i0 j0
  refine ⟨_, rfl, _, rfl, _, _, .int i, .int j, 0, fun _ => True, rfl, .int i, .int j, fun _ _ p H1 e1 hp => ?_, fun no => absurd ni (by rw [no]; decide), fun _ no => absurd nj (by rw [no]; decide)⟩
  have hp' := hp i j rfl rfl
  have rd := rdl_ints (K := K) (ok := fun _ => True) (H := H1) (n := 0) (evenOf i j)
  have pd := parts_dat e0 (by rw [es]; exact i1)
  refine ⟨_, .tuple ((evenOf i j).map PyData.int), 1, fun _ => True, rfl, .tup hp' trivial rd.1 (by rw [List.length_map, el]; omega) rd.2, fun _ H2 e2 => ?_, fun no => absurd pd (by rw [no]; decide)⟩
  rw [ints_dat]
  exact q H2 (e1.trans e2)

end
end L2.U

set_option Elab.async false
set_option linter.all false
set_option maxRecDepth 100000
set_option maxHeartbeats 4000000
namespace L2.U
open PySem PySem.Spec PyProof.Rows Evl

section
variable {P : Program} {w : World} {K : PySem.W.Frag} {mg : Str → Option Value} {base : Heap}
/-- what never raises -/
theorem fn_calm {k : Nat} {f : Addr} {fd : FuncData} {ps : List Str} {sp sp' : Sp} (F : FnOk P w K mg base (L2.CX P w) k f fd ps sp) (h : ∀ vs H Q E, sp' vs H Q E → sp vs H Q E0) : FnOk P w K mg base CX0 k f fd ps sp' := by
  refine ⟨fun vs H Q E q => F.len vs H Q E0 (h _ _ _ _ q), fun A outer s H args us vs Q E hr he hb hv hs => codeAny_mono (F.run A outer s H args us vs Q E0 hr he hb hv (h _ _ _ _ hs)) fun r s' hq => ?_⟩
  cases r with
  | error e =>
    obtain ⟨_, _, _, _, _, _, _, _, _, _, _, _, hE⟩ := hq
    exact hE.elim
  | ok fl => cases fl <;> exact hq
theorem ok_greatest_by (T : TA2 K mg) : FnOk P w K mg base CX0 6 T.greatest_by.a T.greatest_by.fd ["kinds", "parts"] spGr := fn_calm (okr_greatest_by T) fun _ _ _ _ h => h
def spMostI : Sp := fun vs H Q _ => ∃ t r s : Int, vs = [.int t, .int r, .int s] ∧ 0 ≤ t ∧ t ≤ 64 ∧ 1 ≤ r ∧ r ≤ 64 ∧ 0 ≤ s ∧ s ≤ 64 ∧ ∀ H', Ex H H' → Q (.int (mostA t r s)) H'
theorem ok_most_arranged (T : TA2 K mg) : FnOk P w K mg base CX0 6 T.most_arranged.a T.most_arranged.fd ["total", "rounds", "rest"] spMostI := fn_calm (okr_most_arranged T) fun vs H Q E h => by
  obtain ⟨t, r, s, rfl, t0, t1, r0, r1, s0, s1, q⟩ := h
  have n1 : num64 (.int t) = true := decide_eq_true ⟨t0, t1⟩
  have n2 : many64 (.int r) = true := decide_eq_true ⟨r0, r1⟩
  have n3 : num64 (.int s) = true := decide_eq_true ⟨s0, s1⟩
  exact ⟨.int t, .int r, .int s, .int t, .int r, .int s, 0, fun _ => True, rfl, .int _, .int _, .int _, fun _ _ _ => q, fun no => absurd n1 (by rw [no]; decide), fun _ no => absurd n2 (by rw [no]; decide), fun _ _ no => absurd n3 (by rw [no]; decide)⟩
theorem RdL.of {ok ok' : Addr → Prop} {H : Hp} {n : Nat} {xs : List V} {ds : List PyData} (w : ∀ a, ok a → ok' a) (h : RdL K ok H n xs ds) : RdL K ok' H n xs ds := ⟨h.1, fun i x d hx hd => (h.2 i x d hx hd).of w⟩
theorem RdL.snoc {ok : Addr → Prop} {H : Hp} {n : Nat} {xs : List V} {ds : List PyData} {x : V} {d : PyData} (h : RdL K ok H n xs ds) (r : Rd K ok H n x d) : RdL K ok H n (xs ++ [x]) (ds ++ [d]) := by
  refine ⟨by rw [List.length_append, List.length_append, h.1]; rfl, fun i y e hy he => ?_⟩
  by_cases c : i < xs.length
  · rw [List.getElem?_append_left c] at hy
    rw [List.getElem?_append_left (by rw [← h.1]; exact c)] at he
    exact h.2 i y e hy he
  · have hi := (List.getElem?_eq_some_iff.mp hy).1
    rw [List.length_append, List.length_singleton] at hi
    have e1 : i = xs.length := by omega
    subst e1
    rw [List.getElem?_append_right (Nat.le_refl _), Nat.sub_self] at hy
    rw [h.1, List.getElem?_append_right (Nat.le_refl _), Nat.sub_self] at he
    cases Option.some.inj hy
    cases Option.some.inj he
    exact r
theorem tyes {σ : L2.St} {H : Hp} {F G : Hp → Prop} (h : F H) : tYes σ H (fun b H3 => if b = true then F H3 else G H3) := by
  show if true = true then F H else G H
  rw [if_pos rfl]
  exact h
/-- a comprehension over a range that makes data -/
theorem lc_rd {σ : L2.St} {H : Hp} {ta : TA} {te : TE} {j m : Nat} {vs : List Nat} {n : Int} {d : Nat → PyData} (h : EvA ta σ H [.int n]) (hn : 0 ≤ n ∧ n ≤ 900) (hw : ∀ x, wipe ((wipe σ vs).set j (some x)) vs = wipe σ vs)
    (he : ∀ (i : Nat) H1, Ex H H1 → (i : Int) < n → ∀ Q : VK, (∀ x H2, Ex H1 H2 → Rd K (fun a => H1 a = none) H2 m x (d i) → Q x H2) → te ((wipe σ vs).set j (some (.int (i : Int)))) H1 Q)
    {Q : VK} (q : ∀ p H', Ex H H' → Rd K (fun a => H a = none) H' (m + 1) (.ref p) (.list ((List.range n.toNat).map d)) → Q (.ref p) H') : tLc (iRng1 ta) (gName j) tYes te vs σ H Q := by
  refine h H (Ex.refl _) _ fun H1 e1 => ⟨n, rfl, by omega, by omega, fun D hD => ?_⟩
  refine lc_range (lo := 0) (n := n.toNat) (fun i H' => Ex H1 H' ∧ ∃ xs, H' D = some (.lst xs) ∧ xs.length = i ∧ RdL K (fun a => H1 a = none ∧ a ≠ D) H' m xs ((List.range i).map d)) ⟨Ex.new hD, [], upd_same, rfl, rfl, fun i x e hx _ => by cases hx⟩ (fun i H' hi p => ⟨hw _, ?_⟩) (fun H' p => ?_)
  · obtain ⟨p1, xs, p2, p3, p4⟩ := p
    have e0 : (0 : Int) + (i : Int) = (i : Int) := Int.zero_add _
    show tYes _ H' (fun b H3 => if b = true then te ((wipe σ vs).set j (some (.int ((0 : Int) + (i : Int))))) H3 fun y H4 => ∃ acc, H4 D = some (.lst acc) ∧ acc.length < sizeLine ∧ _ else _)
    rw [e0]
    refine tyes ?_
    refine he i H' (e1.trans p1) (by omega) _ fun x H2 e2 rx => ⟨xs, e2 _ _ p2, small1000 (by omega), (p1.trans e2).mut hD, xs ++ [x], upd_same, by rw [List.length_append, p3]; rfl, ?_⟩
    rw [List.range_succ, List.map_append]
    refine RdL.snoc ?_ ?_
    · have r1 := p4.ex e2
      exact r1.but (b := D) But.upd (fun a ha => ha.2)
    · have nD : ∀ a, H' a = none → H1 a = none ∧ a ≠ D := fun a ha => ⟨fresh_back p1 ha, fun z => by rw [z, p2] at ha; cases ha⟩
      exact (rx.of nD).but (b := D) But.upd (fun a ha => ha.2)
  · obtain ⟨p1, xs, p2, p3, p4⟩ := p
    have fr : ∀ a, H1 a = none → H a = none := fun a ha => fresh_back e1 ha
    have r := p4.of (ok' := fun a => H a = none) (fun a ha => fr a ha.1)
    exact q D H' (e1.trans p1) (.lst p2 (fr D hD) r.1 (by omega) r.2)
theorem el_lcR2 {σ : L2.St} {H : Hp} {ta : TA} {t : TT} {te : TE} {j : Nat} {vs : List Nat} {lo n : Int} (f : Nat → Bool) (v : Nat → V) (h : EvA ta σ H [.int lo, .int n]) (hn : 0 ≤ lo ∧ lo ≤ 40000 ∧ -40000 ≤ n ∧ n ≤ 40000) (hw : ∀ x, wipe ((wipe σ vs).set j (some x)) vs = wipe σ vs)
    (ht : ∀ (i : Nat) H1, Ex H H1 → lo + (i : Int) < n → EvT t ((wipe σ vs).set j (some (.int (lo + (i : Int))))) H1 (f i)) (he : ∀ (i : Nat) H1, Ex H H1 → lo + (i : Int) < n → f i = true → Ev te ((wipe σ vs).set j (some (.int (lo + (i : Int))))) H1 (v i)) :
    EvL (tLc (iRng2 ta) (gName j) t te vs) σ H (given (n - lo).toNat f v) := fun H0 e Q q => h H0 e _ fun H1 e1 => ⟨lo, n, rfl, ⟨by omega, by omega, by omega, by omega⟩, fun Dl hD =>
  lc_range (lo := lo) (n := (n - lo).toNat) (Cw H1 f v Dl) ⟨hD, Ex.new hD, upd_same⟩ (fun i H' hi p => ⟨hw _, cw_turn p (by omega) (ht i H1 (e.trans e1) (by omega)) (fun hf => he i H1 (e.trans e1) (by omega) hf)⟩) (fun H' p => q Dl H' (fresh_back e1 p.1) (e1.trans p.2.1) p.2.2)⟩
/-! ### what is told by kinds -/
def toldBy (k r : Nat) : List Int := (List.range (k - r)).map fun i : Nat => mostA (k : Int) ((i : Int) + 1) (r : Int)
def listI (l : List Int) : PyData := .list (l.map PyData.int)
def toldK (m : Nat) : List (List (List Int)) := (List.range (m + 1)).map fun k => (List.range k).map fun r => toldBy k r
def list2 (l : List (List Int)) : PyData := .list (l.map listI)
def list3 (l : List (List (List Int))) : PyData := .list (l.map list2)
def spToldBy (K : PySem.W.Frag) : Sp := fun vs H Q _ => ∃ k r : Nat, vs = [.int (k : Int), .int (r : Int)] ∧ k ≤ 16 ∧ r < k ∧ ∀ p H', Ex H H' → Rd K (fun a => H a = none) H' 1 (.ref p) (listI (toldBy k r)) → Q (.ref p) H'
theorem ok_told_by (T : TA2 K mg) : FnOk P w K mg base CX0 7 T.told_by.a T.told_by.fd ["kinds", "rest"] (spToldBy K) := by
  refine T.told_by.F.ok sc_told_by (fun vs H Q E h => ?_) (fun cdv A outer s H vs Q E hr h => ?_)
  · obtain ⟨k, r, rfl, _⟩ := h; rfl
  obtain ⟨k, r, rfl, hk, hrk, q⟩ := h
  refine ⟨_, (pss_one (ps_ret (pe_lc (own := [("rounds", 2)]) (g := gName 2) (by rfl) sc_told_by.nd (pi_range2 rfl T.z_range (pa_cons pe_int (pa_cons (pe_op op_add (pe_op op_sub (pv 0) (pv 1)) pe_int) pa_nil))) (blkOk_by (own := [("rounds", 2)]) (N := ["kinds", "rest", "rounds"]) (sc := defScope s_told_by) (by decide +kernel)) (fun _ _ _ _ _ => (pg_name (i := 2) sc_told_by.nd rfl (Or.inl rfl))) (fun _ _ _ _ _ => pts_nil) (fun _ _ _ _ _ => (pe_call (ok_most_arranged T) (hr.mono (by decide)) rfl T.most_arranged.m T.most_arranged.F.kp T.most_arranged.b .nil pass0 (pa_cons (pv 0) (pa_cons (pv 2) (pa_cons (pv 1) pa_nil)))))))), ?_⟩
  have one : ∀ (i : Nat) H1, Ex H H1 → (1 : Int) + (i : Int) < ((k : Int) - (r : Int)) + 1 → true = true → Ev (tCall spMostI [] E0 (tCons (tVar 0) (tCons (tVar 2) (tCons (tVar 1) tNil)))) ((wipe [some (.int (k : Int)), some (.int (r : Int)), none] [2]).set 2 (some (.int ((1 : Int) + (i : Int))))) H1 (.int (mostA (k : Int) ((1 : Int) + (i : Int)) (r : Int))) :=
    fun i H1 e1 hi _ H2 e2 Q2 k2 => ⟨_, rfl, _, rfl, _, rfl, _, _, _, rfl, by omega, by omega, by omega, by omega, by omega, by omega, fun H3 e3 => k2 H3 e3⟩
  refine (el_lcR2 (σ := [some (.int (k : Int)), some (.int (r : Int)), none]) (vs := [2]) (t := tYes) (fun _ => true) (fun i => .int (mostA (k : Int) ((1 : Int) + (i : Int)) (r : Int))) (ea_cons ev_c (ea_cons (ev_op (ev_op (ev_var rfl) (ev_var rfl) rv_I0) ev_c rv_I0) ea_nil)) ⟨by decide, by decide, by omega, by omega⟩ (fun _ => rfl) (fun i H1 _ _ H2 _ Q k => k H2 (Ex.refl _)) one) H (Ex.refl _) _ fun p H1 hp e1 h1 => q p H1 e1 ?_
  have eq : given (((k : Int) - (r : Int)) + 1 - 1).toNat (fun _ => true) (fun i => V.int (mostA (k : Int) ((1 : Int) + (i : Int)) (r : Int))) = (toldBy k r).map V.int := by
    rw [given_all]
    unfold toldBy
    rw [List.map_map, show (((k : Int) - (r : Int)) + 1 - 1).toNat = k - r by omega]
    apply List.map_congr_left
    intro i _
    show V.int _ = V.int _
    rw [Int.add_comm 1]
  rw [eq] at h1
  have rd := rdl_ints (K := K) (ok := fun a => H a = none) (H := H1) (n := 0) (toldBy k r)
  exact .lst h1 hp rd.1 (by unfold toldBy; rw [List.length_map, List.length_map, List.length_range]; omega) rd.2
def dumEnv (sc : Scope) : Env := { scope := sc, locals := 0, globals := 0, cells := [], qual := "", func := none, code := .none, frame := none, builtins := 0 }
def lcs_told_by_kinds : Scope := relabel (match (defBody s_told_by_kinds).getD 0 (.Pass ⟨0, 0, 0, 0⟩) with
  | .Return (some (.ListComp _ _ sc _)) _ => sc
  | _ => defScope s_told_by_kinds) (dumEnv (defScope s_told_by_kinds))
def spToldK (K : PySem.W.Frag) : Sp := fun vs H Q _ => ∃ m : Nat, vs = [.int (m : Int)] ∧ m ≤ 16 ∧ ∀ p H', Ex H H' → Rd K (fun a => H a = none) H' 3 (.ref p) (list3 (toldK m)) → Q (.ref p) H'
theorem ok_told_by_kinds (T : TA2 K mg) : FnOk P w K mg base CX0 8 T.told_by_kinds.a T.told_by_kinds.fd ["most"] (spToldK K) := by
  refine T.told_by_kinds.F.ok sc_told_by_kinds (fun vs H Q E h => ?_) (fun cdv A outer s H vs Q E hr h => ?_)
  · obtain ⟨m, rfl, _⟩ := h; rfl
  obtain ⟨m, rfl, hm, q⟩ := h
  refine ⟨_, (pss_one (ps_ret (pe_lc (own := [("kinds", 2)]) (g := gName 2) (by rfl) sc_told_by_kinds.nd (pi_range1 rfl T.z_range (pa_cons (pe_op op_add (pv 0) pe_int) pa_nil)) (blkOk_by (own := [("kinds", 2)]) (N := ["most", "rest", "kinds"]) (sc := defScope s_told_by_kinds) (by decide +kernel)) (fun _ _ _ _ _ => (pg_name (i := 2) sc_told_by_kinds.nd rfl (Or.inr rfl))) (fun _ _ _ _ _ => pts_nil) (fun _ _ _ _ _ => (pe_lc (own := [("rest", 1)]) (g := gName 1) (by rfl) sc_told_by_kinds.nd (pi_range1 rfl T.z_range (pa_cons (pv 2) pa_nil)) (blkOk_by (own := [("rest", 1)]) (N := ["most", "rest", "kinds"]) (sc := lcs_told_by_kinds) (by decide +kernel)) (fun _ _ _ _ _ => (pg_name (i := 1) sc_told_by_kinds.nd rfl (Or.inl rfl))) (fun _ _ _ _ _ => pts_nil) (fun _ _ _ _ _ => (pe_call (ok_told_by T) (hr.mono (by decide)) rfl T.told_by.m T.told_by.F.kp T.told_by.b .nil pass0 (pa_cons (pv 2) (pa_cons (pv 1) pa_nil))))))))), ?_⟩
  refine lc_rd (K := K) (σ := [some (.int (m : Int)), none, none]) (vs := [2]) (m := 2) (d := fun k => list2 ((List.range k).map fun r => toldBy k r)) (ea_cons (ev_op (ev_var rfl) ev_c rv_I0) ea_nil) ⟨by omega, by omega⟩ (fun _ => rfl) (fun k H1 e1 hk Q1 q1 => ?_) (fun p H' e r => q p H' e ?_)
  · refine lc_rd (K := K) (σ := [some (.int (m : Int)), none, some (.int (k : Int))]) (vs := [1]) (m := 1) (d := fun r => listI (toldBy k r)) (ea_cons (ev_var rfl) ea_nil) ⟨by omega, by omega⟩ (fun _ => rfl) (fun r H2 e2 hr Q2 q2 => ?_) (fun p H' e r => q1 _ H' e ?_)
    · exact ⟨_, rfl, _, rfl, k, r, rfl, by omega, by omega, fun p H3 e3 r3 => q2 _ H3 e3 r3⟩
    · have e1 : list2 ((List.range k).map fun r => toldBy k r) = .list ((List.range (k : Int).toNat).map fun r => listI (toldBy k r)) := by
        unfold list2
        rw [List.map_map]
        rfl
      rw [e1]
      exact r
  · have e1 : list3 (toldK m) = .list ((List.range ((m : Int) + 1).toNat).map fun k => list2 ((List.range k).map fun r => toldBy k r)) := by
      unfold list3 toldK
      rw [List.map_map, show ((m : Int) + 1).toNat = m + 1 by omega]
      rfl
    rw [e1]
    exact r
/-! ### the least numbers of answers -/
def optV : Option Int → V
  | none => .non
  | some i => .int i
def fstO {α : Type} (p : α → Bool) : Nat → List α → Option Int
  | _, [] => none
  | k, x :: r => if p x then some (k : Int) else fstO p (k + 1) r
theorem fstO_drop {α : Type} {p : α → Bool} {l : List α} {i : Nat} {x : α} (h : l[i]? = some x) (hp : p x = false) : fstO p i (l.drop i) = fstO p (i + 1) (l.drop (i + 1)) := by
  obtain ⟨hi, e⟩ := List.getElem?_eq_some_iff.mp h
  rw [List.drop_eq_getElem_cons hi, e]
  show (if p x then _ else _) = _
  rw [if_neg (by rw [hp]; decide)]
theorem fstO_hit {α : Type} {p : α → Bool} {l : List α} {i : Nat} {x : α} (h : l[i]? = some x) (hp : p x = true) : fstO p i (l.drop i) = some (i : Int) := by
  obtain ⟨hi, e⟩ := List.getElem?_eq_some_iff.mp h
  rw [List.drop_eq_getElem_cons hi, e]
  show (if p x then _ else _) = _
  rw [if_pos hp]
def fewest (n : Int) (l : List Int) : Option Int := fstO (fun v => decide (n ≤ v)) 0 l
def spFewest (K : PySem.W.Frag) : Sp := fun vs H Q _ => ∃ (n : Int) (a : Addr) (l : List Int), vs = [.int n, .ref a] ∧ SqL K H a (l.map V.int) ∧ ∀ H', Ex H H' → Q (optV (fewest n l)) H'
theorem ok_fewest_answers (T : TA2 K mg) : FnOk P w K mg base CX0 1 T.fewest_answers.a T.fewest_answers.fd ["number", "values"] (spFewest K) := by
  refine T.fewest_answers.F.ok sc_fewest_answers (fun vs H Q E h => ?_) (fun cdv A outer s H vs Q E hr h => ?_)
  · obtain ⟨n, a, l, rfl, _⟩ := h; rfl
  obtain ⟨n, a, l, rfl, hl, q⟩ := h
  refine ⟨_, (pss_cons (ps_for PassesOwn.never rfl (pi_enumS (by rfl) T.z_enumerate (pa_cons (pv 1) pa_nil)) (pg_tup (by rfl) (pgs_cons (pg_name (i := 2) sc_fewest_answers.nd rfl (Or.inl rfl)) (pgs_cons (pg_name (i := 3) sc_fewest_answers.nd rfl (Or.inl rfl)) pgs_nil))) (pss_one (ps_if (pt_cmpR op_ge (pv 3) (pv 0) (nomark _)) (pss_one (ps_ret (pv 2))) pss_nil)))
    (pss_one (ps_ret pe_non))), ?_⟩
  refine for_enum (p := 2) (q := 3) (xs := l.map V.int) (fun R r => ⟨_, rfl, r⟩) (.inl hl) (fun i σ H' => Ex H H' ∧ fewest n l = fstO (fun v => decide (n ≤ v)) i (l.drop i) ∧ ∃ x y, σ = [some (.int n), some (.ref a), x, y]) ⟨Ex.refl _, rfl, _, _, rfl⟩ (fun i σ H' _ p => p.1) ?_ ?_
  · rintro i x σ H' t hx ⟨e, hf, x2, y2, rfl⟩ ht
    obtain ⟨z, hz, rfl⟩ := ints_get hx
    refine ⟨_, rfl, _, rfl, _, _, rfl, rfl, _, rfl, ite2 (fun c => ?_) (fun c => ?_)⟩
    · have c' := of_decide_eq_true c
      refine ⟨_, rfl, ?_⟩
      have := q _ (e.trans (Ex.new (o := .tup [.int (i : Int), .int z]) ht))
      rw [hf, fstO_hit hz (decide_eq_true c')] at this
      exact this
    · have c' := of_decide_eq_false (Bool.eq_false_iff.mpr c)
      exact ⟨e.trans (Ex.new ht), hf.trans (fstO_drop hz (decide_eq_false c')), _, _, rfl⟩
  · rintro σ H' ⟨e, hf, x2, y2, rfl⟩
    have := q _ e
    rw [hf, List.length_map, List.drop_length] at this
    exact this
def needF (os : List (Option Int)) (r : Int) : Option Int := fstO (fun o => match o with | some l => decide (l ≤ r) | none => false) 0 os
def spNeed (K : PySem.W.Frag) : Sp := fun vs H Q _ => ∃ (a : Addr) (os : List (Option Int)) (r : Int), vs = [.ref a, .int r] ∧ SqL K H a (os.map optV) ∧ ∀ H', Ex H H' → Q (optV (needF os r)) H'
theorem opts_get {os : List (Option Int)} {i : Nat} {v : V} (h : (os.map optV)[i]? = some v) : ∃ o, os[i]? = some o ∧ v = optV o := by
  rw [List.getElem?_map] at h
  cases e : os[i]? with
  | none => rw [e] at h; cases h
  | some z => rw [e] at h; exact ⟨z, rfl, (Option.some.inj h).symm⟩
theorem ok_need (T : TA2 K mg) : FnOk P w K mg base CX0 1 T.need.a T.need.fd ["further", "rest"] (spNeed K) := by
  refine T.need.F.ok sc_need (fun vs H Q E h => ?_) (fun cdv A outer s H vs Q E hr h => ?_)
  · obtain ⟨a, os, r, rfl, _⟩ := h; rfl
  obtain ⟨a, os, r, rfl, hl, q⟩ := h
  refine ⟨_, (pss_cons (ps_for PassesOwn.never rfl (pi_enumS (by rfl) T.z_enumerate (pa_cons (pv 0) pa_nil)) (pg_tup (by rfl) (pgs_cons (pg_name (i := 2) sc_need.nd rfl (Or.inl rfl)) (pgs_cons (pg_name (i := 3) sc_need.nd rfl (Or.inl rfl)) pgs_nil))) (pss_one (ps_if (PW.pt (pw_and (pt_cmpR op_notN (pv 3) pe_non (nomark _)) (pw_and1 (pt_cmpR op_le (pv 3) (pv 1) (nomark _))))) (pss_one (ps_ret (pv 2))) pss_nil)))
    (pss_one (ps_ret pe_non))), ?_⟩
  refine for_enum (p := 2) (q := 3) (xs := os.map optV) (fun R r => ⟨_, rfl, r⟩) (.inl hl) (fun i σ H' => Ex H H' ∧ needF os r = fstO (fun o => match o with | some l => decide (l ≤ r) | none => false) i (os.drop i) ∧ ∃ x y, σ = [some (.ref a), some (.int r), x, y]) ⟨Ex.refl _, rfl, _, _, rfl⟩ (fun i σ H' _ p => p.1) ?_ ?_
  · rintro i x σ H' t hx ⟨e, hf, x2, y2, rfl⟩ ht
    obtain ⟨o, ho, rfl⟩ := opts_get hx
    cases o with
    | none => exact ⟨_, rfl, rfl, _, rfl, iteF (iteF ⟨e.trans (Ex.new ht), hf.trans (fstO_drop ho rfl), _, _, rfl⟩)⟩
    | some l =>
      refine ⟨_, rfl, rfl, _, rfl, iteT ⟨_, rfl, _, rfl, _, _, rfl, rfl, _, rfl, ite2 (fun c => ?_) (fun c => ?_)⟩⟩
      · have c' := of_decide_eq_true c
        refine ⟨_, rfl, ?_⟩
        have := q _ (e.trans (Ex.new (o := .tup [.int (i : Int), .int l]) ht))
        rw [hf, fstO_hit ho (decide_eq_true c')] at this
        exact this
      · have c' := of_decide_eq_false (Bool.eq_false_iff.mpr c)
        exact ⟨e.trans (Ex.new ht), hf.trans (fstO_drop ho (decide_eq_false c')), _, _, rfl⟩
  · rintro σ H' ⟨e, hf, x2, y2, rfl⟩
    have := q _ e
    rw [hf, List.length_map, List.drop_length] at this
    exact this
def stepL (n len : Int) (acc : Option Int) (t : List Int) (o : Option Int) : Option Int :=
  match fewest n t, o with
  | some a, some b => if a + b < len ∧ (∀ z, acc = some z → a + b < z) then some (a + b) else acc
  | _, _ => acc
def leastF (n len : Int) : Option Int → List (List Int) → List (Option Int) → Option Int
  | acc, t :: ts, o :: os => leastF n len (stepL n len acc t o) ts os
  | acc, _, _ => acc
theorem leastF_drop {n len : Int} {acc : Option Int} {T : List (List Int)} {os : List (Option Int)} {i : Nat} {t : List Int} {o : Option Int} (ht : T[i]? = some t) (ho : os[i]? = some o) :
    leastF n len acc (T.drop i) (os.drop i) = leastF n len (stepL n len acc t o) (T.drop (i + 1)) (os.drop (i + 1)) := by
  obtain ⟨hi, e⟩ := List.getElem?_eq_some_iff.mp ht
  obtain ⟨hj, f⟩ := List.getElem?_eq_some_iff.mp ho
  rw [List.drop_eq_getElem_cons hi, List.drop_eq_getElem_cons hj, e, f]
  rfl
/-- a list of lists of ints -/
theorem rd_list2 {ok : Addr → Prop} {H : Hp} {m : Nat} {x : V} {T : List (List Int)} (h : Rd K ok H m x (list2 T)) : ∃ a vs, x = .ref a ∧ H a = some (.lst vs) ∧ vs.length = T.length ∧ vs.length ≤ 900 ∧ ∀ (i : Nat) (v : V), vs[i]? = some v → ∃ b t, v = .ref b ∧ T[i]? = some t ∧ H b = some (.lst (t.map V.int)) := by
  unfold list2 at h
  cases h with
  | lst h ha hl hz all =>
    rw [List.length_map] at hl
    refine ⟨_, _, rfl, h, hl, hz, fun i v hv => ?_⟩
    have hi := (List.getElem?_eq_some_iff.mp hv).1
    have ht : T[i]? = some (T[i]'(by omega)) := List.getElem?_eq_getElem _
    have r := all i v (listI (T[i]'(by omega))) hv (by rw [List.getElem?_map, ht]; rfl)
    generalize T[i]'(by omega) = t at ht r
    unfold listI at r
    generalize hd : (PyData.list (t.map PyData.int)) = d at r
    cases r with
    | lst h2 ha2 hl2 hz2 all2 =>
      cases hd
      rename_i b xs
      refine ⟨b, t, rfl, ht, ?_⟩
      have : xs = t.map V.int := by
        rw [List.length_map] at hl2
        apply List.ext_getElem?
        intro k
        rw [List.getElem?_map]
        by_cases hk : k < xs.length
        · have h3 : t[k]? = some (t[k]'(by omega)) := List.getElem?_eq_getElem _
          have r2 := all2 k (xs[k]) (.int (t[k]'(by omega))) (List.getElem?_eq_getElem hk) (by rw [List.getElem?_map, h3]; rfl)
          rw [List.getElem?_eq_getElem hk, h3]
          generalize xs[k] = xk at r2
          generalize t[k]'(by omega) = tk at r2
          cases r2
          rfl
        · rw [List.getElem?_eq_none (by omega), List.getElem?_eq_none (by omega)]; rfl
      rw [← this]
      exact h2
    | tup _ _ _ _ _ => cases hd
    | non => cases hd
    | bl _ => cases hd
    | int _ => cases hd
    | str _ _ _ => cases hd
def spLeast (K : PySem.W.Frag) : Sp := fun vs H Q _ => ∃ (n : Int) (x : V) (T : List (List Int)) (m : Nat) (ok : Addr → Prop) (a : Addr) (os : List (Option Int)), vs = [.int n, x, .ref a] ∧ Rd K ok H m x (list2 T) ∧ SqL K H a (os.map optV) ∧ T.length ≤ os.length ∧
  ∀ H', Ex H H' → Q (optV (leastF n (os.length : Int) none T os)) H'
theorem ok_least (T : TA2 K mg) : FnOk P w K mg base CX0 2 T.least.a T.least.fd ["number", "told", "needs"] (spLeast K) := by
  refine T.least.F.ok sc_least (fun vs H Q E h => ?_) (fun cdv A outer s H vs Q E hr h => ?_)
  · obtain ⟨n, x, T, m, ok, a, os, rfl, _⟩ := h; rfl
  obtain ⟨n, x, T2, m, ok, a, os, rfl, hx, ha, hl, q⟩ := h
  refine ⟨_, (pss_cons (ps_set (i := 3) sc_least.nd rfl (Or.inl rfl) pe_non)
    (pss_cons (ps_for PassesOwn.never rfl (pi_enumS (by rfl) T.z_enumerate (pa_cons (pv 1) pa_nil)) (pg_tup (by rfl) (pgs_cons (pg_name (i := 4) sc_least.nd rfl (Or.inl rfl)) (pgs_cons (pg_name (i := 5) sc_least.nd rfl (Or.inl rfl)) pgs_nil))) (pss_cons (ps_set (i := 6) sc_least.nd rfl (Or.inl rfl) (pe_call (ok_fewest_answers T) (hr.mono (by decide)) rfl T.fewest_answers.m T.fewest_answers.F.kp T.fewest_answers.b .nil pass0 (pa_cons (pv 0) (pa_cons (pv 5) pa_nil))))
    (pss_cons (ps_if (PW.pt (pw_or (pt_cmpR op_isN (pv 6) pe_non (nomark _)) (pw_or1 (pt_cmpR op_isN (pe_ix (kixl K) (pv 2) (pv 4) (fun _ _ => rfl)) pe_non (nomark _))))) (pss_one (ps_continue)) pss_nil)
    (pss_cons (ps_set (i := 7) sc_least.nd rfl (Or.inl rfl) (pe_op op_add (pv 6) (pe_ix (kixl K) (pv 2) (pv 4) (fun _ _ => rfl))))
    (pss_one (ps_if (PW.pt (pw_and (pt_cmpR op_lt (pv 7) (pe_callB (klen K) (by rfl) T.z_len (by decide +kernel) (pa_cons (pv 2) pa_nil)) (nomark _)) (pw_and1 (PW.pt (pw_or (pt_cmpR op_isN (pv 3) pe_non (nomark _)) (pw_or1 (pt_cmpR op_lt (pv 7) (pv 3) (nomark _)))))))) (pss_one (ps_set (i := 3) sc_least.nd rfl (Or.inl rfl) (pv 7))) pss_nil))))))
    (pss_one (ps_ret (pv 3))))), ?_⟩
  obtain ⟨b, vs, rfl, hb, hlen, hz, all⟩ := rd_list2 hx
  have hal : ∀ H', Ex H H' → SqL K H' a (os.map optV) := fun H' e => ex_l e ha
  refine for_enum (p := 4) (q := 5) (xs := vs) (fun R r => ⟨_, rfl, r⟩) (.inl (SqL.of hb)) (fun i σ H' => Ex H H' ∧ ∃ acc x4 x5 x6 x7, leastF n (os.length : Int) none T2 os = leastF n (os.length : Int) acc (T2.drop i) (os.drop i) ∧ σ = [some (.int n), some (.ref b), some (.ref a), some (optV acc), x4, x5, x6, x7])
    ⟨Ex.refl _, none, _, _, _, _, rfl, rfl⟩ (fun i σ H' _ p => p.1) ?_ ?_
  · rintro i x σ H' tt hv ⟨e, acc, x4, x5, x6, x7, hf, rfl⟩ htt
    obtain ⟨c, t, rfl, ht, hc⟩ := all i x hv
    have hi := (List.getElem?_eq_some_iff.mp ht).1
    obtain ⟨o, ho⟩ : ∃ o, os[i]? = some o := ⟨_, List.getElem?_eq_getElem (by omega)⟩
    have e1 := e.trans (Ex.new (o := .tup [.int (i : Int), .ref c]) htt)
    rw [leastF_drop ht ho] at hf
    refine ⟨_, rfl, _, rfl, n, c, t, rfl, SqL.of (e1 _ _ hc), fun H3 e3 => ?_⟩
    have e2 := e1.trans e3
    have hat : atI (os.map optV) (i : Int) = some (optV o) := atI_nat (by rw [List.getElem?_map, ho]; rfl)
    cases hfw : fewest n t with
    | none =>
      refine ⟨_, rfl, rfl, _, rfl, iteT (iteT ⟨e2, acc, _, _, _, _, ?_, rfl⟩)⟩
      rw [hf]
      unfold stepL
      rw [hfw]
    | some av =>
      refine ⟨_, rfl, rfl, _, rfl, iteF ⟨_, rfl, _, rfl, a, _, _, _, rfl, rfl, hal _ e2, hat, rfl, ?_⟩⟩
      cases o with
      | none =>
        refine ⟨_, rfl, iteT ⟨e2, acc, _, _, _, _, ?_, rfl⟩⟩
        rw [hf]
        unfold stepL
        rw [hfw]
      | some bv =>
        refine ⟨_, rfl, iteF ?_⟩
        refine ⟨_, rfl, _, rfl, _, rfl, a, _, _, _, rfl, rfl, hal _ e2, hat, _, _, rfl, rfl, ?_⟩
        refine ⟨_, rfl, _, rfl, _, _, rfl, .inl ⟨_, hal _ e2, rfl⟩, _, _, rfl, rfl, _, rfl, ite2 (fun c => ?_) (fun c => ?_)⟩
        · have c' := of_decide_eq_true c
          rw [List.length_map] at c'
          cases acc with
          | none =>
            refine ⟨_, rfl, rfl, _, rfl, iteT (iteT ⟨_, rfl, e2, some (av + bv), _, _, _, _, ?_, rfl⟩)⟩
            rw [hf]
            unfold stepL
            rw [hfw]
            simp [c']
          | some z =>
            refine ⟨_, rfl, rfl, _, rfl, iteF ⟨_, rfl, _, rfl, _, _, rfl, rfl, _, rfl, ite2 (fun d => ?_) (fun d => ?_)⟩⟩
            · have d' := of_decide_eq_true d
              refine ⟨_, rfl, e2, some (av + bv), _, _, _, _, ?_, rfl⟩
              rw [hf]
              unfold stepL
              rw [hfw]
              simp [c', d']
            · have d' := of_decide_eq_false (Bool.eq_false_iff.mpr d)
              refine ⟨e2, some z, _, _, _, _, ?_, rfl⟩
              rw [hf]
              unfold stepL
              rw [hfw]
              simp [d']
        · have c' := of_decide_eq_false (Bool.eq_false_iff.mpr c)
          rw [List.length_map] at c'
          refine iteF ⟨e2, acc, _, _, _, _, ?_, rfl⟩
          rw [hf]
          unfold stepL
          rw [hfw]
          simp [c']
  · rintro σ H' ⟨e, acc, x4, x5, x6, x7, hf, rfl⟩
    refine ⟨_, rfl, ?_⟩
    have := q _ e
    rw [hf, hlen, List.drop_length] at this
    exact this
end
end L2.U


set_option Elab.async false
set_option linter.all false
set_option maxRecDepth 100000
set_option maxHeartbeats 4000000
namespace L2.U
open PySem PySem.Spec PyProof.Rows Evl

section
variable {P : Program} {w : World} {K : PySem.W.Frag} {mg : Str → Option Value} {base : Heap}
theorem rd_list3 {ok : Addr → Prop} {H : Hp} {m : Nat} {x : V} {T : List (List (List Int))} (h : Rd K ok H m x (list3 T)) : ∃ a vs, x = .ref a ∧ H a = some (.lst vs) ∧ vs.length = T.length ∧ vs.length ≤ 900 ∧ ∀ (i : Nat) (v : V), vs[i]? = some v → ∃ t, T[i]? = some t ∧ Rd K ok H (m - 1) v (list2 t) := by
  unfold list3 at h
  cases h with
  | lst h ha hl hz all =>
    rw [List.length_map] at hl
    refine ⟨_, _, rfl, h, hl, hz, fun i v hv => ?_⟩
    have hi := (List.getElem?_eq_some_iff.mp hv).1
    have ht : T[i]? = some (T[i]'(by omega)) := List.getElem?_eq_getElem _
    exact ⟨_, ht, all i v _ hv (by rw [List.getElem?_map, ht]; rfl)⟩
def stairF (n : Int) (T : List (List (List Int))) (os : List (Option Int)) : List (Option Int) :=
  let needs := (List.range os.length).map fun r : Nat => needF os (r : Int)
  (List.range os.length).map fun k => leastF n (needs.length : Int) none (T.getD k []) needs
def spStair (K : PySem.W.Frag) : Sp := fun vs H Q _ => ∃ (n : Int) (x : V) (T : List (List (List Int))) (m : Nat) (ok : Addr → Prop) (a : Addr) (os : List (Option Int)), vs = [.int n, x, .ref a] ∧ Rd K ok H m x (list3 T) ∧ SqL K H a (os.map optV) ∧ T.length = os.length ∧ os.length ≤ 64 ∧ (∀ t ∈ T, t.length ≤ os.length) ∧
  ∀ p H', H p = none → Ex H H' → H' p = some (.lst ((stairF n T os).map optV)) → Q (.ref p) H'
theorem ok_stair (T : TA2 K mg) : FnOk P w K mg base CX0 3 T.stair.a T.stair.fd ["number", "told", "further"] (spStair K) := by
  refine T.stair.F.ok sc_stair (fun vs H Q E h => ?_) (fun cdv A outer s H vs Q E hr h => ?_)
  · obtain ⟨n, x, T, m, ok, a, os, rfl, _⟩ := h; rfl
  obtain ⟨n, x, T2, m, ok, a, os, rfl, hx, ha, hl, h64, hT, q⟩ := h
  refine ⟨_, (pss_cons (ps_set (i := 3) sc_stair.nd rfl (Or.inr rfl) (pe_lc (own := [("rest", 4)]) (g := gName 4) (by rfl) sc_stair.nd (pi_range1 rfl T.z_range (pa_cons (pe_callB (klen K) (by rfl) T.z_len (by decide +kernel) (pa_cons (pv 2) pa_nil)) pa_nil)) (blkOk_by (own := [("rest", 4)]) (N := ["number", "told", "further", "needs", "rest", "kinds"]) (sc := defScope s_stair) (by decide +kernel)) (fun _ _ _ _ _ => (pg_name (i := 4) sc_stair.nd rfl (Or.inl rfl))) (fun _ _ _ _ _ => pts_nil) (fun _ _ _ _ _ => (pe_call (ok_need T) (hr.mono (by decide)) rfl T.need.m T.need.F.kp T.need.b .nil pass0 (pa_cons (pv 2) (pa_cons (pv 4) pa_nil))))))
    (pss_one (ps_ret (pe_lc (own := [("kinds", 5)]) (g := gName 5) (by rfl) sc_stair.nd (pi_range1 rfl T.z_range (pa_cons (pe_callB (klen K) (by rfl) T.z_len (by decide +kernel) (pa_cons (pv 2) pa_nil)) pa_nil)) (blkOk_by (own := [("kinds", 5)]) (N := ["number", "told", "further", "needs", "rest", "kinds"]) (sc := defScope s_stair) (by decide +kernel)) (fun _ _ _ _ _ => (pg_name (i := 5) sc_stair.nd rfl (Or.inl rfl))) (fun _ _ _ _ _ => pts_nil) (fun _ _ _ _ _ => (pe_call (ok_least T) (hr.mono (by decide)) rfl T.least.m T.least.F.kp T.least.b .nil pass0 (pa_cons (pv 0) (pa_cons (pe_ix (kixl K) (pv 1) (pv 5) (fun _ _ => rfl)) (pa_cons (pv 3) pa_nil))))))))), ?_⟩
  obtain ⟨b, vs, rfl, hb, hlen, hz, all⟩ := rd_list3 hx
  have ln : ∀ {σ : L2.St} {H1 : Hp}, σ[2]? = some (some (.ref a)) → Ex H H1 → Ev (tCB (rLen K) (tCons (tVar 2) tNil)) σ H1 (.int (os.length : Int)) := fun hσ e H2 e2 Q k => ⟨_, hσ, _, os.length, rfl, .inl ⟨_, ex_l (e.trans e2) ha, by rw [List.length_map]⟩, k H2 (Ex.refl _)⟩
  have needs : EvL (tLc (iRng1 (tCons (tCB (rLen K) (tCons (tVar 2) tNil)) tNil)) (gName 4) tYes (tCall (spNeed K) [] E0 (tCons (tVar 2) (tCons (tVar 4) tNil))) [4]) [some (.int n), some (.ref b), some (.ref a), none, none, none] H (given (os.length : Int).toNat (fun _ => true) (fun r => optV (needF os (r : Int)))) :=
    el_lcR1 (fun _ => true) (fun r => optV (needF os (r : Int))) (ea_cons (ln rfl (Ex.refl _)) ea_nil) ⟨by omega, by omega⟩ (fun _ => rfl) (fun i H1 _ _ H2 _ Q k => k H2 (Ex.refl _)) (fun r H1 e1 hr _ H2 e2 Q2 k2 => ⟨_, rfl, _, rfl, a, os, (r : Int), rfl, ex_l (e1.trans e2) ha, fun H3 e3 => k2 H3 e3⟩)
  refine q_asgL needs fun p H1 hp e1 h1 => ?_
  have en : given (os.length : Int).toNat (fun _ => true) (fun r => optV (needF os (r : Int))) = ((List.range os.length).map fun r : Nat => needF os (r : Int)).map optV := by
    rw [given_all, List.map_map]
    rfl
  rw [en] at h1
  obtain ⟨nd, hnd⟩ : ∃ nd, nd = (List.range os.length).map fun r : Nat => needF os (r : Int) := ⟨_, rfl⟩
  have ndl : nd.length = os.length := by rw [hnd, List.length_map, List.length_range]
  rw [← hnd] at h1
  have out : EvL (tLc (iRng1 (tCons (tCB (rLen K) (tCons (tVar 2) tNil)) tNil)) (gName 5) tYes (tCall (spLeast K) [] E0 (tCons (tVar 0) (tCons (tOp (rIxL K) (tVar 1) (tVar 5)) (tCons (tVar 3) tNil)))) [5]) [some (.int n), some (.ref b), some (.ref a), some (.ref p), none, none] H1 (given (os.length : Int).toNat (fun _ => true) (fun k => optV (leastF n (nd.length : Int) none (T2.getD k []) nd))) := by
    refine el_lcR1 (fun _ => true) (fun k => optV (leastF n (nd.length : Int) none (T2.getD k []) nd)) (ea_cons (ln rfl e1) ea_nil) ⟨by omega, by omega⟩ (fun _ => rfl) (fun i H1 _ _ H2 _ Q k => k H2 (Ex.refl _)) (fun k H2 e2 hk _ H3 e3 Q2 k2 => ?_)
    have hv : vs[k]? = some (vs[k]'(by omega)) := List.getElem?_eq_getElem _
    obtain ⟨t, ht, rt⟩ := all k _ hv
    have g : T2.getD k [] = t := by rw [List.getD_eq_getElem?_getD, ht]; rfl
    have e13 := (e1.trans e2).trans e3
    rw [g] at k2
    exact ⟨_, rfl, _, rfl, _, rfl, b, _, _, _, rfl, rfl, SqL.of (e13 _ _ hb), atI_nat hv, _, rfl, n, _, t, m - 1, ok, p, nd, rfl, rt.ex e13, SqL.of ((e2.trans e3) _ _ h1), by rw [ndl]; exact hT t (List.mem_of_getElem? ht), fun H4 e4 => k2 H4 e4⟩
  refine s_retL out fun p2 H2 hp2 e2 h2 => q p2 H2 (fresh_back e1 hp2) (e1.trans e2) ?_
  rw [h2]
  congr 2
  rw [given_all]
  unfold stairF
  rw [List.map_map]
  rw [← hnd]
  rfl
def zerosO (n : Nat) : List (Option Int) := List.replicate n (some 0)
def spStairs1 (K : PySem.W.Frag) : Sp := fun vs H Q _ => ∃ (n : Int) (x : V) (T : List (List (List Int))) (m : Nat) (ok : Addr → Prop) (a : Addr), vs = [.ref a, x] ∧ SqL K H a [.int n] ∧ Rd K ok H m x (list3 T) ∧ T.length ≤ 64 ∧ (∀ t ∈ T, t.length ≤ T.length) ∧
  ∀ p s H', Ex H H' → (∃ v, H' p = some (.lst [.ref s, v])) → H' s = some (.lst ((stairF n T (zerosO T.length)).map optV)) → Q (.ref p) H'
theorem ok_stairs_by (T : TA2 K mg) : FnOk P w K mg base CX0 4 T.stairs_by.a T.stairs_by.fd ["row", "told"] (spStairs1 K) := by
  refine T.stairs_by.F.ok sc_stairs_by (fun vs H Q E h => ?_) (fun cdv A outer s H vs Q E hr h => ?_)
  · obtain ⟨n, x, T, m, ok, a, rfl, _⟩ := h; rfl
  obtain ⟨n, x, T2, m, ok, a, rfl, ha, hx, h64, hT, q⟩ := h
  refine ⟨_, (pss_cons (ps_set (i := 2) sc_stairs_by.nd rfl (Or.inl rfl) (pe_lst (pa_cons (pe_op op_rep (pe_lst (pa_cons pe_int pa_nil)) (pe_callB (klen K) (by rfl) T.z_len (by decide +kernel) (pa_cons (pv 1) pa_nil))) pa_nil)))
    (pss_cons (ps_for PassesOwn.never rfl (kpil K (pe_revL (pv 0))) (pg_name (i := 3) sc_stairs_by.nd rfl (Or.inl rfl)) (pss_one (ps_expr (pe_bm PySem.F.plainAttrs_list PySem.F.slot_list_append PySem.F.type_list_append mt_append (pv 2) (pa_cons (pe_call (ok_stair T) (hr.mono (by decide)) rfl T.stair.m T.stair.F.kp T.stair.b .nil pass0 (pa_cons (pv 3) (pa_cons (pv 1) (pa_cons (pe_ix (kixl K) (pv 2) (pe_un un_neg pe_int) (fun _ _ => rfl)) pa_nil)))) pa_nil)))))
    (pss_one (ps_ret (pe_revL (pv 2)))))), ?_⟩
  obtain ⟨b, vs, rfl, hb, hlen, hz, all⟩ := rd_list3 hx
  have sz : ∀ m : Nat, m ≤ 1000 → m ≤ sizeLine := fun m h => Nat.le_of_lt (small1000 h)
  -- [[0] * len(told)]
  refine ⟨(by show 1 ≤ sizeLine; decide), fun p0 hp0 => ?_⟩
  have e0 := Ex.new (o := .lst [.int 0]) hp0
  refine ⟨_, rfl, _, vs.length, rfl, .inl ⟨vs, SqL.of (e0 _ _ hb), rfl⟩, p0, (vs.length : Int), [.int 0], rfl, rfl, upd_same, by omega, by omega, sz _ (by rw [List.length_singleton]; omega), fun z hz0 => ⟨(by show 1 ≤ sizeLine; decide), fun F hF => ?_⟩⟩
  have ez : (List.replicate (vs.length : Int).toNat [V.int 0]).flatten = (zerosO T2.length).map optV := by
    rw [rep_one, Int.toNat_natCast, hlen]
    unfold zerosO
    rw [List.map_replicate]
    rfl
  have e1 := e0.trans (Ex.new (o := .lst (List.replicate (vs.length : Int).toNat [V.int 0]).flatten) hz0)
  have e2 := e1.trans (Ex.new (o := .lst [.ref z]) hF)
  have hzz : upd (upd (upd H p0 (.lst [.int 0])) z (.lst (List.replicate (vs.length : Int).toNat [V.int 0]).flatten)) F (.lst [.ref z]) z = some (.lst ((zerosO T2.length).map optV)) := by
    rw [← ez]
    exact (Ex.new hF) _ _ upd_same
  have hFF : upd (upd (upd H p0 (.lst [.int 0])) z (.lst (List.replicate (vs.length : Int).toNat [V.int 0]).flatten)) F (.lst [.ref z]) F = some (.lst [.ref z]) := upd_same
  generalize upd (upd (upd H p0 (.lst [.int 0])) z (.lst (List.replicate (vs.length : Int).toNat [V.int 0]).flatten)) F (.lst [.ref z]) = H1 at e2 hzz hFF ⊢
  -- for number in row[::-1]
  refine ⟨_, rfl, a, _, rfl, ex_l e2 ha, fun r hr0 => ?_⟩
  have e3 := Ex.new (o := .lst ([V.int n].reverse)) hr0
  have hF1 : H F = none := by
    cases hh : H F with
    | none => rfl
    | some o =>
      exfalso
      have := fresh_back e1 hF
      rw [hh] at this
      cases this
  refine ⟨r, rfl, ⟨_, SqL.of upd_same⟩, for_list (xs := [.int n]) (fun i σ H' => Ex H H' ∧ H' r = some (.lst [.int n]) ∧ (i = 0 → H' F = some (.lst [.ref z]) ∧ H' z = some (.lst ((zerosO T2.length).map optV)) ∧ ∃ v, σ = [some (.ref a), some (.ref b), some (.ref F), v]) ∧
      (i = 1 → ∃ s, H' F = some (.lst [.ref z, .ref s]) ∧ H' s = some (.lst ((stairF n T2 (zerosO T2.length)).map optV)) ∧ ∃ v, σ = [some (.ref a), some (.ref b), some (.ref F), v]))
    ⟨e2.trans e3, upd_same, (fun _ => ⟨e3 _ _ hFF, e3 _ _ hzz, _, rfl⟩), (fun z => nomatch z)⟩ (fun i σ H' _ p => SqL.of p.2.1) ?_ ?_⟩
  · rintro i x σ H' hx' ⟨e, hr1, h0, _⟩
    match i, x, hx' with
    | 0, _, rfl =>
      obtain ⟨hF', hz', v, rfl⟩ := h0 rfl
      have zl : (zerosO T2.length).length = T2.length := List.length_replicate ..
      refine ⟨_, rfl, .inl ⟨rfl, _, SqL.of hF'⟩, _, rfl, _, rfl, _, rfl, _, rfl, F, _, _, _, rfl, rfl, SqL.of hF', (show atI [V.ref z] (-1) = some (.ref z) from rfl), n, .ref b, T2, m, ok, z, zerosO T2.length, rfl, hx.ex e, SqL.of hz', zl.symm, by rw [zl]; exact h64, by rw [zl]; exact hT, fun p H2 hp e4 h4 => ?_⟩
      have pF : p ≠ F := by rintro rfl; rw [hF'] at hp; cases hp
      have rF : r ≠ F := by
        rintro rfl
        rw [hr1] at hF'
        cases hF'
      refine ⟨F, _, _, rfl, rfl, e4 _ _ hF', by show 1 < sizeLine; decide, (e.trans e4).mut hF1, ?_, (fun z => nomatch z), fun _ => ⟨p, upd_same, ?_, _, rfl⟩⟩
      · rw [upd_ne rF]; exact e4 _ _ hr1
      · rw [upd_ne pF]; exact h4
    | n + 1, _, hx' => cases hx'
  · rintro σ H' ⟨e, hr1, _, h1⟩
    obtain ⟨s, hF', hs, v, rfl⟩ := h1 rfl
    refine ⟨_, rfl, F, _, rfl, SqL.of hF', fun p hp => q p s _ (e.trans (Ex.new hp)) ⟨.ref z, upd_same⟩ ((Ex.new hp) _ _ hs)⟩
end
end L2.U


set_option Elab.async false
set_option linter.all false
set_option maxRecDepth 100000
set_option maxHeartbeats 4000000
namespace L2.U
open PySem PySem.Spec PyProof.Rows Evl

section
variable {P : Program} {w : World} {K : PySem.W.Frag} {mg : Str → Option Value} {base : Heap}
theorem el_lcS {σ : L2.St} {H : Hp} {a : Addr} {xs : List V} {tl te : TE} {t : TT} {j : Nat} {vs : List Nat} (f : Nat → Bool) (v : Nat → V) (h : Ev tl σ H (.ref a)) (hx : SqL K H a xs ∨ SqT K H a xs) (hz : xs.length ≤ 40000)
    (hw : ∀ x, wipe ((wipe σ vs).set j (some x)) vs = wipe σ vs) (ht : ∀ (i : Nat) (x : V) H1, Ex H H1 → xs[i]? = some x → EvT t ((wipe σ vs).set j (some x)) H1 (f i))
    (he : ∀ (i : Nat) (x : V) H1, Ex H H1 → xs[i]? = some x → f i = true → Ev te ((wipe σ vs).set j (some x)) H1 (v i)) : EvL (tLc (iSeq K tl) (gName j) t te vs) σ H (given xs.length f v) := by
  intro H0 e Q q
  rcases hx with hx | hx
  · exact .inl (el_lcL f v h hx hz hw ht he H0 e Q q)
  · exact .inr (el_lcT f v h hx hz hw ht he H0 e Q q)

theorem iteF2 {b : Bool} {A B : Prop} (h : b = false) (hb : B) : if b = true then A else B := by rw [h]; exact iteF hb
/-- a list or a tuple of ints -/
def SeqN (K : PySem.W.Frag) (H : Hp) (x : V) (ns : List Int) : Prop := ∃ a, x = .ref a ∧ (H a = some (.lst (ns.map V.int)) ∨ SqT K H a (ns.map V.int))
theorem SeqN.ex {H H' : Hp} {x : V} {ns : List Int} (e : Ex H H') (h : SeqN K H x ns) : SeqN K H' x ns := by
  obtain ⟨a, h1, h2 | h2⟩ := h
  · exact ⟨a, h1, .inl (e _ _ h2)⟩
  · exact ⟨a, h1, .inr (ex_t e h2)⟩
theorem SeqN.sq {H : Hp} {x : V} {ns : List Int} (h : SeqN K H x ns) : ∃ a, x = .ref a ∧ (SqL K H a (ns.map V.int) ∨ SqT K H a (ns.map V.int)) := by
  obtain ⟨a, h1, h2 | h2⟩ := h
  · exact ⟨a, h1, .inl (SqL.of h2)⟩
  · exact ⟨a, h1, .inr h2⟩
theorem SeqN.rd {H : Hp} {x : V} {ns : List Int} (h : SeqN K H x ns) (hl : ns.length ≤ 900) : ∃ d, Rd K (fun _ => True) H 1 x d ∧ isSeq d = true ∧ itemsD d = ns.map PyData.int := by
  obtain ⟨a, rfl, h2 | h2⟩ := h
  · exact ⟨.list (ns.map PyData.int), .lst h2 trivial (by rw [List.length_map, List.length_map]) (by rw [List.length_map]; exact hl) (rdl_ints ns).2, rfl, rfl⟩
  · exact ⟨.tuple (ns.map PyData.int), .tup h2 trivial (by rw [List.length_map, List.length_map]) (by rw [List.length_map]; exact hl) (rdl_ints ns).2, rfl, rfl⟩
theorem all_betw {ns : List Int} {lo hi : Int} (h : ∀ z ∈ ns, lo ≤ z ∧ z ≤ hi) : (ns.map PyData.int).all (betwD lo hi) = true := by
  rw [List.all_eq_true]
  intro x hx
  obtain ⟨z, hz, rfl⟩ := List.mem_map.mp hx
  exact decide_eq_true (h z hz)
def spIsRow (K : PySem.W.Frag) : Sp := fun vs H Q _ => ∃ (x : V) (ns : List Int), vs = [x] ∧ SeqN K H x ns ∧ ns.length ≤ 16 ∧ (∀ z ∈ ns, 1 ≤ z ∧ z ≤ 100000000000000000000000000000000000000000000000000) ∧ ∀ H', Ex H H' → Q (.bl true) H'
theorem ok_is_row (T : TA2 K mg) : FnOk P w K mg base CX0 4 T.is_row.a T.is_row.fd ["value"] (spIsRow K) := by
  refine T.is_row.F.ok sc_is_row (fun vs H Q E h => ?_) (fun cdv A outer s H vs Q E hr h => ?_)
  · obtain ⟨x, ns, rfl, _⟩ := h; rfl
  obtain ⟨x, ns, rfl, hx, h16, hn, q⟩ := h
  refine ⟨_, (pss_cons (ps_if (PW.pt (pw_or (pt_not (pt_val (pe_call (ok_is_list T.toTA1) (hr.mono (by decide)) rfl T.is_list.m T.is_list.F.kp T.is_list.b .nil pass0 (pa_cons (pv 0) pa_nil)))) (pw_or1 (pt_cmpR op_gt (pe_callB (klen K) (by rfl) T.z_len (by decide +kernel) (pa_cons (pv 0) pa_nil)) (pe_glob (v := .int 16) rfl T.c_MOST_NUMBERS ⟨_, rfl⟩) (nomark _))))) (pss_one (ps_ret pe_bl)) pss_nil)
    (pss_one (ps_ret (pe_call (ok_are_between T) (hr.mono (by decide)) rfl T.are_between.m T.are_between.F.kp T.are_between.b .nil pass0 (pa_cons (pv 0) (pa_cons pe_int (pa_cons (pe_glob (v := .int 100000000000000000000000000000000000000000000000000) rfl T.c_GREATEST ⟨_, rfl⟩) pa_nil))))))), ?_⟩
  obtain ⟨d, rd, sq, it⟩ := hx.rd (by omega)
  obtain ⟨a, rfl, hs⟩ := hx.sq
  refine ⟨_, rfl, _, d, 1, fun _ => True, rfl, rd, fun H1 e1 => ⟨_, rfl, ?_⟩⟩
  rw [sq]
  refine iteF ⟨_, rfl, _, ns.length, rfl, hs.imp (fun z => ⟨_, ex_l e1 z, by rw [List.length_map]⟩) (fun z => ⟨_, ex_t e1 z, by rw [List.length_map]⟩), _, _, rfl, rfl, _, rfl, iteF2 (decide_eq_false (show ¬ ((ns.length : Int) > 16) by omega)) ?_⟩
  refine ⟨_, rfl, _, d, 1, fun _ => True, 1, _, rfl, rd.ex e1, sq, fun H2 e2 => ?_⟩
  rw [it, all_betw hn]
  exact q _ (e1.trans e2)
def spCheckRow (K : PySem.W.Frag) : Sp := fun vs H Q _ => ∃ (x : V) (ns : List Int), vs = [x] ∧ SeqN K H x ns ∧ ns.length ≤ 16 ∧ (∀ z ∈ ns, 1 ≤ z ∧ z ≤ 100000000000000000000000000000000000000000000000000) ∧ ∀ H', Ex H H' → Q .non H'
theorem ok_check_row (T : TA2 K mg) : FnOk P w K mg base CX0 5 T.check_row.a T.check_row.fd ["row"] (spCheckRow K) := by
  refine T.check_row.F.ok sc_check_row (fun vs H Q E h => ?_) (fun cdv A outer s H vs Q E hr h => ?_)
  · obtain ⟨x, ns, rfl, _⟩ := h; rfl
  obtain ⟨x, ns, rfl, hx, h16, hn, q⟩ := h
  refine ⟨_, (pss_one (ps_if (pt_not (pt_val (pe_call (ok_is_row T) (hr.mono (by decide)) rfl T.is_row.m T.is_row.F.kp T.is_row.b .nil pass0 (pa_cons (pv 0) pa_nil)))) pss_never pss_nil)), ?_⟩
  exact ⟨_, rfl, x, ns, rfl, hx, h16, hn, fun H1 e1 => ⟨_, rfl, iteF (q _ e1)⟩⟩
def spCheckKinds : Sp := fun vs H Q _ => ∃ i j : Int, vs = [.int i, .int j] ∧ 0 ≤ i ∧ i ≤ 16 ∧ 0 ≤ j ∧ j ≤ 16 ∧ Q .non H
theorem ok_check_kinds (T : TA2 K mg) : FnOk P w K mg base CX0 3 T.check_kinds.a T.check_kinds.fd ["own", "other"] spCheckKinds := by
  refine T.check_kinds.F.ok sc_check_kinds (fun vs H Q E h => ?_) (fun cdv A outer s H vs Q E hr h => ?_)
  · obtain ⟨i, j, rfl, _⟩ := h; rfl
  obtain ⟨i, j, rfl, i0, i1, j0, j1, q⟩ := h
  refine ⟨_, (pss_cons (ps_if (pt_not (pt_val (pe_call (ok_is_between T.toTA1) (hr.mono (by decide)) rfl T.is_between.m T.is_between.F.kp T.is_between.b .nil pass0 (pa_cons (pv 0) (pa_cons pe_int (pa_cons (pe_glob (v := .int 16) rfl T.c_MOST_KINDS_rows ⟨_, rfl⟩) pa_nil)))))) pss_never pss_nil)
    (pss_one (ps_if (pt_not (pt_val (pe_call (ok_is_between T.toTA1) (hr.mono (by decide)) rfl T.is_between.m T.is_between.F.kp T.is_between.b .nil pass0 (pa_cons (pv 1) (pa_cons pe_int (pa_cons (pe_glob (v := .int 16) rfl T.c_MOST_KINDS_rows ⟨_, rfl⟩) pa_nil)))))) pss_never pss_nil))), ?_⟩
  refine ⟨_, rfl, _, _, _, rfl, .int, fun b h1 _ => ⟨b, rfl, ?_⟩⟩
  rw [h1 i rfl, decide_eq_true (⟨i0, i1⟩ : 0 ≤ i ∧ i ≤ 16)]
  refine iteF ⟨_, rfl, _, _, _, rfl, .int, fun b h1 _ => ⟨b, rfl, ?_⟩⟩
  rw [h1 j rfl, decide_eq_true (⟨j0, j1⟩ : 0 ≤ j ∧ j ≤ 16)]
  exact iteF q
def spCheckBoth (K : PySem.W.Frag) : Sp := fun vs H Q _ => ∃ (x : V) (ns : List Int) (i j : Int), vs = [x, .int i, .int j] ∧ SeqN K H x ns ∧ ns.length ≤ 16 ∧ (∀ z ∈ ns, 1 ≤ z ∧ z ≤ 100000000000000000000000000000000000000000000000000) ∧ 0 ≤ i ∧ i ≤ 16 ∧ 0 ≤ j ∧ j ≤ 16 ∧ ∀ H', Ex H H' → Q .non H'
theorem ok_check_row_and_kinds (T : TA2 K mg) : FnOk P w K mg base CX0 6 T.check_row_and_kinds.a T.check_row_and_kinds.fd ["row", "own", "other"] (spCheckBoth K) := by
  refine T.check_row_and_kinds.F.ok sc_check_row_and_kinds (fun vs H Q E h => ?_) (fun cdv A outer s H vs Q E hr h => ?_)
  · obtain ⟨x, ns, i, j, rfl, _⟩ := h; rfl
  obtain ⟨x, ns, i, j, rfl, hx, h16, hn, i0, i1, j0, j1, q⟩ := h
  refine ⟨_, (pss_cons (ps_expr (pe_call (ok_check_row T) (hr.mono (by decide)) rfl T.check_row.m T.check_row.F.kp T.check_row.b .nil pass0 (pa_cons (pv 0) pa_nil)))
    (pss_one (ps_expr (pe_call (ok_check_kinds T) (hr.mono (by decide)) rfl T.check_kinds.m T.check_kinds.F.kp T.check_kinds.b .nil pass0 (pa_cons (pv 1) (pa_cons (pv 2) pa_nil)))))), ?_⟩
  exact ⟨_, rfl, x, ns, rfl, hx, h16, hn, fun H1 e1 => ⟨_, rfl, _, rfl, i, j, rfl, i0, i1, j0, j1, q _ e1⟩⟩
def ctF (n : Int) (i j : Nat) : Bool :=
  match (stairF n (toldK (if i < j then j else i)) (zerosO ((if i < j then j else i) + 1)))[i]? with
  | some (some l) => decide (l ≤ (j : Int))
  | _ => false
theorem toldK_len (m : Nat) : (toldK m).length = m + 1 := by unfold toldK; rw [List.length_map, List.length_range]
theorem toldK_in (m : Nat) : ∀ t ∈ toldK m, t.length ≤ (toldK m).length := by
  intro t ht
  rw [toldK_len]
  unfold toldK at ht
  obtain ⟨k, hk, rfl⟩ := List.mem_map.mp ht
  rw [List.length_map, List.length_range]
  have := List.mem_range.mp hk
  omega
theorem stairF_len {n : Int} {T : List (List (List Int))} {os : List (Option Int)} : (stairF n T os).length = os.length := by
  unfold stairF
  rw [List.length_map, List.length_range]
def spCan (K : PySem.W.Frag) : Sp := fun vs H Q _ => ∃ (a : Addr) (n : Int) (i j : Nat), vs = [.ref a, .int (i : Int), .int (j : Int)] ∧ H a = some (.lst [.int n]) ∧ 1 ≤ n ∧ n ≤ 100000000000000000000000000000000000000000000000000 ∧ i ≤ 16 ∧ j ≤ 16 ∧ ∀ H', Ex H H' → Q (.bl (ctF n i j)) H'
theorem ok_can_tell (T : TA2 K mg) : FnOk P w K mg base CX0 9 T.can_tell.a T.can_tell.fd ["row", "own", "other"] (spCan K) := by
  refine T.can_tell.F.ok sc_can_tell (fun vs H Q E h => ?_) (fun cdv A outer s H vs Q E hr h => ?_)
  · obtain ⟨a, n, i, j, rfl, _⟩ := h; rfl
  obtain ⟨a, n, i, j, rfl, ha, n0, n1, hi, hj, q⟩ := h
  refine ⟨_, (pss_cons (ps_expr (pe_call (ok_check_row_and_kinds T) (hr.mono (by decide)) rfl T.check_row_and_kinds.m T.check_row_and_kinds.F.kp T.check_row_and_kinds.b .nil pass0 (pa_cons (pv 0) (pa_cons (pv 1) (pa_cons (pv 2) pa_nil)))))
    (pss_cons (ps_set (i := 3) sc_can_tell.nd rfl (Or.inl rfl) (pe_ix (kixl K) (pe_ix (kixl K) (pe_call (ok_stairs_by T) (hr.mono (by decide)) rfl T.stairs_by.m T.stairs_by.F.kp T.stairs_by.b .nil pass0 (pa_cons (pv 0) (pa_cons (pe_call (ok_told_by_kinds T) (hr.mono (by decide)) rfl T.told_by_kinds.m T.told_by_kinds.F.kp T.told_by_kinds.b .nil pass0 (pa_cons (pe_callB (call_max2 rfl) (by rfl) T.z_max (by decide +kernel) (pa_cons (pv 1) (pa_cons (pv 2) pa_nil))) pa_nil)) pa_nil))) pe_int (fun _ _ => rfl)) (pv 1) (fun _ _ => rfl)))
    (pss_one (ps_ret (pe_and (pe_cmpR op_notN (pv 3) pe_non (nomark _)) (pe_one (pe_cmpR op_le (pv 3) (pv 2) (nomark _)))))))), ?_⟩
  refine ⟨_, rfl, _, rfl, _, rfl, .ref a, [n], (i : Int), (j : Int), rfl, ⟨a, rfl, .inl ha⟩, by show 1 ≤ 16; decide, fun z hz => by rw [List.mem_singleton.mp hz]; exact ⟨n0, n1⟩, by omega, by omega, by omega, by omega, fun H1 e1 => ?_⟩
  obtain ⟨m, hm⟩ : ∃ m : Nat, m = if i < j then j else i := ⟨_, rfl⟩
  have em : (if (j : Int) > (i : Int) then (j : Int) else (i : Int)) = (m : Int) := by
    rw [hm]
    by_cases c : i < j
    · rw [if_pos (by omega), if_pos c]
    · rw [if_neg (by omega), if_neg c]
  refine ⟨_, rfl, _, rfl, _, rfl, _, _, rfl, m, ?_, by rw [hm]; split <;> omega, fun p H2 e2 r2 => ?_⟩
  · rw [em]
    rfl
  have e12 := e1.trans e2
  have tl := toldK_len m
  have h64 : (toldK m).length ≤ 64 := by rw [tl, hm]; split <;> omega
  refine ⟨n, .ref p, toldK m, 3, _, a, rfl, SqL.of (e12 _ _ ha), r2, h64, toldK_in m, fun f s H3 e3 hf hs => ?_⟩
  obtain ⟨v, hf⟩ := hf
  refine ⟨f, _, 0, _, rfl, rfl, SqL.of hf, rfl, _, rfl, s, _, (i : Int), optV ((stairF n (toldK m) (zerosO (toldK m).length)).getD i none), rfl, rfl, SqL.of hs, atI_nat ?_, ?_⟩
  · have : i < (stairF n (toldK m) (zerosO (toldK m).length)).length := by
      rw [stairF_len]
      unfold zerosO
      rw [List.length_replicate, tl, hm]
      split <;> omega
    rw [List.getElem?_map, List.getElem?_eq_getElem this, List.getD_eq_getElem?_getD, List.getElem?_eq_getElem this]
    rfl
  have q3 := q H3 (e12.trans e3)
  unfold ctF at q3
  rw [← hm, ← tl] at q3
  have hlt : i < (stairF n (toldK m) (zerosO (toldK m).length)).length := by
    rw [stairF_len]
    unfold zerosO
    rw [List.length_replicate, tl, hm]
    split <;> omega
  rw [List.getElem?_eq_getElem hlt] at q3
  rw [List.getD_eq_getElem?_getD, List.getElem?_eq_getElem hlt]
  generalize (stairF n (toldK m) (zerosO (toldK m).length))[i] = o at q3 ⊢
  cases o with
  | none => exact ⟨_, rfl, rfl, _, rfl, iteF q3⟩
  | some l => exact ⟨_, rfl, rfl, _, rfl, iteT ⟨_, rfl, _, rfl, _, _, rfl, rfl, q3⟩⟩
theorem ct_ok : ∀ i : Fin 8, ∀ j : Fin 9, 1 ≤ gr ((i.val : Int) + 1) ((j.val : Int) + 2) ∧ gr ((i.val : Int) + 1) ((j.val : Int) + 2) < 2 ^ 64 ∧ ctF (gr ((i.val : Int) + 1) ((j.val : Int) + 2)) (i.val + 1) j.val = true ∧ ctF (gr ((i.val : Int) + 1) ((j.val : Int) + 2) + 1) (i.val + 1) j.val = false := by decide +kernel

def spAreNumbers (K : PySem.W.Frag) : Sp := fun vs H Q _ => ∃ (x : V) (ns : List Int) (lo : Int), vs = [x, .int lo] ∧ SeqN K H x ns ∧ 1 ≤ ns.length ∧ ns.length ≤ 4 ∧ (∀ z ∈ ns, lo ≤ z ∧ z ≤ 8) ∧ ∀ H', Ex H H' → Q (.bl true) H'
theorem ok_are_numbers (T : TA2 K mg) : FnOk P w K mg base CX0 4 T.are_numbers.a T.are_numbers.fd ["value", "low"] (spAreNumbers K) := by
  refine T.are_numbers.F.ok sc_are_numbers (fun vs H Q E h => ?_) (fun cdv A outer s H vs Q E hr h => ?_)
  · obtain ⟨x, ns, lo, rfl, _⟩ := h; rfl
  obtain ⟨x, ns, lo, rfl, hx, h1, h4, hn, q⟩ := h
  refine ⟨_, (pss_one (ps_ret (pe_and (pe_call (ok_is_list T.toTA1) (hr.mono (by decide)) rfl T.is_list.m T.is_list.F.kp T.is_list.b .nil pass0 (pa_cons (pv 0) pa_nil)) (pe_and (pe_call (ok_is_between T.toTA1) (hr.mono (by decide)) rfl T.is_between.m T.is_between.F.kp T.is_between.b .nil pass0 (pa_cons (pe_callB (klen K) (by rfl) T.z_len (by decide +kernel) (pa_cons (pv 0) pa_nil)) (pa_cons pe_int (pa_cons (pe_glob (v := .int 4) rfl T.c_MOST_OTHERS ⟨_, rfl⟩) pa_nil)))) (pe_one (pe_call (ok_are_between T) (hr.mono (by decide)) rfl T.are_between.m T.are_between.F.kp T.are_between.b .nil pass0 (pa_cons (pv 0) (pa_cons (pv 1) (pa_cons (pe_glob (v := .int 8) rfl T.c_MOST_KINDS_stars ⟨_, rfl⟩) pa_nil))))))))), ?_⟩
  obtain ⟨d, rd, sq, it⟩ := hx.rd (by omega)
  obtain ⟨a, rfl, hs⟩ := hx.sq
  refine ⟨_, rfl, _, d, 1, fun _ => True, rfl, rd, fun H1 e1 => ⟨_, rfl, ?_⟩⟩
  rw [sq]
  refine iteT ⟨_, rfl, _, ns.length, rfl, hs.imp (fun z => ⟨_, ex_l e1 z, by rw [List.length_map]⟩) (fun z => ⟨_, ex_t e1 z, by rw [List.length_map]⟩), _, _, _, rfl, .int, fun b hb _ => ⟨_, rfl, ?_⟩⟩
  rw [hb _ rfl, decide_eq_true (⟨by omega, by omega⟩ : (1 : Int) ≤ (ns.length : Int) ∧ (ns.length : Int) ≤ 4)]
  refine iteT ⟨_, rfl, _, rfl, _, d, 1, fun _ => True, lo, 8, rfl, rd.ex e1, sq, fun H2 e2 => ?_⟩
  rw [it, all_betw hn]
  exact q _ (e1.trans e2)
def grs (ns : List Int) (j : Int) : List Int := ns.map fun k => gr k (j + 2)
def spGathered (K : PySem.W.Frag) : Sp := fun vs H Q _ => ∃ (x : V) (ns : List Int) (j : Int), vs = [x, .int j] ∧ SeqN K H x ns ∧ 1 ≤ ns.length ∧ ns.length ≤ 4 ∧ (∀ z ∈ ns, 1 ≤ z ∧ z ≤ 8) ∧ 0 ≤ j ∧ j ≤ 8 ∧ ∀ p H', Ex H H' → H' p = some (.tup ((grs ns j).map V.int)) → Q (.ref p) H'
theorem ok_gathered (T : TA2 K mg) : FnOk P w K mg base CX0 7 T.gathered.a T.gathered.fd ["kinds", "answers"] (spGathered K) := by
  refine T.gathered.F.ok sc_gathered (fun vs H Q E h => ?_) (fun cdv A outer s H vs Q E hr h => ?_)
  · obtain ⟨x, ns, j, rfl, _⟩ := h; rfl
  obtain ⟨x, ns, j, rfl, hx, h1, h4, hn, j0, j1, q⟩ := h
  refine ⟨_, (pss_cons (ps_if (pt_not (pt_val (pe_call (ok_are_numbers T) (hr.mono (by decide)) rfl T.are_numbers.m T.are_numbers.F.kp T.are_numbers.b .nil pass0 (pa_cons (pv 0) (pa_cons pe_int pa_nil))))) pss_never pss_nil)
    (pss_cons (ps_if (pt_not (pt_val (pe_call (ok_is_between T.toTA1) (hr.mono (by decide)) rfl T.is_between.m T.is_between.F.kp T.is_between.b .nil pass0 (pa_cons (pv 1) (pa_cons pe_int (pa_cons (pe_glob (v := .int 8) rfl T.c_MOST_KINDS_stars ⟨_, rfl⟩) pa_nil)))))) pss_never pss_nil)
    (pss_one (ps_ret (pe_callTy (ktuple K) (by rfl) T.z_tuple (by decide +kernel) (pa_cons (pe_lc (own := [("many", 2)]) (g := gName 2) (by rfl) sc_gathered.nd (kpis K (pv 0)) (blkOk_by (own := [("many", 2)]) (N := ["kinds", "answers", "many"]) (sc := defScope s_gathered) (by decide +kernel)) (fun _ _ _ _ _ => (pg_name (i := 2) sc_gathered.nd rfl (Or.inl rfl))) (fun _ _ _ _ _ => pts_nil) (fun _ _ _ _ _ => (pe_call (ok_greatest_by T) (hr.mono (by decide)) rfl T.greatest_by.m T.greatest_by.F.kp T.greatest_by.b .nil pass0 (pa_cons (pv 2) (pa_cons (pe_op op_add (pv 1) pe_int) pa_nil))))) pa_nil)))))), ?_⟩
  refine ⟨_, rfl, x, ns, 1, rfl, hx, h1, h4, hn, fun H1 e1 => ⟨_, rfl, iteF ?_⟩⟩
  refine ⟨_, rfl, _, _, _, rfl, .int, fun b hb _ => ⟨_, rfl, ?_⟩⟩
  rw [hb _ rfl, decide_eq_true (⟨j0, j1⟩ : 0 ≤ j ∧ j ≤ 8)]
  refine iteF ?_
  obtain ⟨a, rfl, hs⟩ := (hx.ex e1).sq
  have comp : EvL (tLc (iSeq K (tVar 0)) (gName 2) tYes (tCall spGr [] E0 (tCons (tVar 2) (tCons (tOp (rI0 fun i j => .int (i + j)) (tVar 1) (tC (.int 2))) tNil))) [2]) [some (.ref a), some (.int j), none] H1 (given (ns.map V.int).length (fun _ => true) (fun i => .int (gr (ns.getD i 0) (j + 2)))) := by
    refine el_lcS (fun _ => true) (fun i => .int (gr (ns.getD i 0) (j + 2))) (ev_var rfl) hs (by rw [List.length_map]; omega) (fun _ => rfl) (fun i x H1 _ _ H2 _ Q k => k H2 (Ex.refl _)) (fun i x H2 e2 hxi _ H3 e3 Q2 k2 => ?_)
    obtain ⟨z, hz, rfl⟩ := ints_get hxi
    have g : ns.getD i 0 = z := by rw [List.getD_eq_getElem?_getD, hz]; rfl
    have hb := hn z (List.mem_of_getElem? hz)
    rw [g] at k2
    exact ⟨_, rfl, _, rfl, _, _, rfl, rfl, z, j + 2, rfl, by omega, by omega, by omega, by omega, fun H4 e4 => k2 H4 e4⟩
  refine comp H1 (Ex.refl _) (fun v H2 => rTupOf K [v] H2 Q) fun p H2 hp e2 h2 => ⟨p, _, rfl, .inl ⟨SqL.of h2, fun l hl => q l _ ((e1.trans e2).trans (Ex.new hl)) ?_⟩⟩
  rw [upd_same, given_all, List.length_map]
  congr 2
  unfold grs
  apply List.ext_getElem?
  intro i
  rw [List.getElem?_map, List.getElem?_map, List.getElem?_map]
  by_cases c : i < ns.length
  · rw [List.getElem?_range c, List.getElem?_eq_getElem c, ]
    simp only [Option.map_some, List.getD_eq_getElem?_getD, List.getElem?_eq_getElem c, Option.getD_some]
  · rw [List.getElem?_eq_none (by rw [List.length_range]; omega), List.getElem?_eq_none (by omega)]
    rfl
def mnI : List Int → Int
  | [] => 0
  | a :: r => r.foldl (fun m x => if x < m then x else m) a
theorem mn_fold : ∀ (r : List Int) (a : Int), (r.foldl (fun m x => if x < m then x else m) a ∈ a :: r) ∧ ∀ y ∈ a :: r, r.foldl (fun m x => if x < m then x else m) a ≤ y
  | [], a => ⟨by simp, by simp⟩
  | b :: r, a => by
    obtain ⟨h1, h2⟩ := mn_fold r (if b < a then b else a)
    rw [List.foldl_cons]
    have h3 := h2 _ List.mem_cons_self
    refine ⟨?_, fun y hy => ?_⟩
    · rcases List.mem_cons.mp h1 with h | h
      · rw [h]
        split <;> simp
      · exact List.mem_cons_of_mem _ (List.mem_cons_of_mem _ h)
    · rcases List.mem_cons.mp hy with rfl | hy
      · refine Int.le_trans h3 ?_
        split <;> omega
      · rcases List.mem_cons.mp hy with rfl | hy
        · refine Int.le_trans h3 ?_
          split <;> omega
        · exact h2 y (List.mem_cons_of_mem _ hy)
theorem mn_of {ns : List Int} {m : Int} (h1 : m ∈ ns) (h2 : ∀ y ∈ ns, m ≤ y) : m = mnI ns := by
  cases ns with
  | nil => cases h1
  | cons a r =>
    obtain ⟨g1, g2⟩ := mn_fold r a
    exact Int.le_antisymm (h2 _ g1) (g2 m h1)
theorem mn_in {ns : List Int} (h : 1 ≤ ns.length) : mnI ns ∈ ns := by
  cases ns with
  | nil => cases h
  | cons a r => exact (mn_fold r a).1
def spSpread (K : PySem.W.Frag) : Sp := fun vs H Q _ => ∃ (x : V) (ns : List Int) (k : Int), vs = [.int k, x] ∧ SeqN K H x ns ∧ 1 ≤ ns.length ∧ ns.length ≤ 4 ∧ (∀ z ∈ ns, 0 ≤ z ∧ z ≤ 8) ∧ 1 ≤ k ∧ k ≤ 8 ∧ ∀ H', Ex H H' → Q (.int (gr k (mnI ns + 2))) H'
theorem ok_spread (T : TA2 K mg) : FnOk P w K mg base CX0 7 T.spread.a T.spread.fd ["kinds", "answers"] (spSpread K) := by
  refine T.spread.F.ok sc_spread (fun vs H Q E h => ?_) (fun cdv A outer s H vs Q E hr h => ?_)
  · obtain ⟨x, ns, k, rfl, _⟩ := h; rfl
  obtain ⟨x, ns, k, rfl, hx, h1, h4, hn, k0, k1, q⟩ := h
  refine ⟨_, (pss_cons (ps_if (pt_not (pt_val (pe_call (ok_is_between T.toTA1) (hr.mono (by decide)) rfl T.is_between.m T.is_between.F.kp T.is_between.b .nil pass0 (pa_cons (pv 0) (pa_cons pe_int (pa_cons (pe_glob (v := .int 8) rfl T.c_MOST_KINDS_stars ⟨_, rfl⟩) pa_nil)))))) pss_never pss_nil)
    (pss_cons (ps_if (pt_not (pt_val (pe_call (ok_are_numbers T) (hr.mono (by decide)) rfl T.are_numbers.m T.are_numbers.F.kp T.are_numbers.b .nil pass0 (pa_cons (pv 1) (pa_cons pe_int pa_nil))))) pss_never pss_nil)
    (pss_one (ps_ret (pe_call (ok_greatest_by T) (hr.mono (by decide)) rfl T.greatest_by.m T.greatest_by.F.kp T.greatest_by.b .nil pass0 (pa_cons (pv 0) (pa_cons (pe_op op_add (pe_callB (kminS K rfl) (by rfl) T.z_min (by decide +kernel) (pa_cons (pv 1) pa_nil)) pe_int) pa_nil))))))), ?_⟩
  refine ⟨_, rfl, _, _, _, rfl, .int, fun b hb _ => ⟨_, rfl, ?_⟩⟩
  rw [hb _ rfl, decide_eq_true (⟨k0, k1⟩ : 1 ≤ k ∧ k ≤ 8)]
  refine iteF ⟨_, rfl, x, ns, 0, rfl, hx, h1, h4, hn, fun H1 e1 => ⟨_, rfl, iteF ?_⟩⟩
  obtain ⟨a, rfl, hs⟩ := (hx.ex e1).sq
  refine ⟨_, rfl, _, rfl, a, ns, rfl, hs, by omega, fun m hm hall => ?_⟩
  have hb := hn m hm
  rw [mn_of hm hall] at hb ⊢
  exact ⟨_, _, rfl, rfl, k, mnI ns + 2, rfl, by omega, by omega, by omega, by omega, fun H2 e2 => q _ (e1.trans e2)⟩
end
end L2.U


set_option Elab.async false
set_option linter.all false
set_option maxRecDepth 100000
set_option maxHeartbeats 4000000
namespace L2.U
open PySem PySem.Spec PyProof.Rows Evl

abbrev s_law_choose : Stmt := top 55
theorem sc_law_choose : FnScope ["many", "few", "found", "k"] ["many", "few"] (defScope s_law_choose) := ⟨rfl, rfl, rfl, by decide +kernel, rfl, by decide +kernel, by decide +kernel⟩
abbrev s_law_parted : Stmt := top 56
theorem sc_law_parted : FnScope ["most", "parts", "found", "k", "ahead", "p", "n"] ["most", "parts"] (defScope s_law_parted) := ⟨rfl, rfl, rfl, by decide +kernel, rfl, by decide +kernel, by decide +kernel⟩
abbrev s_law_count : Stmt := top 57
theorem sc_law_count : FnScope ["box", "least", "way", "any_one"] ["box", "least"] (defScope s_law_count) := ⟨rfl, rfl, rfl, by decide +kernel, rfl, by decide +kernel, by decide +kernel⟩
abbrev s_law_counts : Stmt := top 58
theorem sc_law_counts : FnScope ["box", "least", "many", "alike", "first", "place", "found", "low", "k"] ["box", "least"] (defScope s_law_counts) := ⟨rfl, rfl, rfl, by decide +kernel, rfl, by decide +kernel, by decide +kernel⟩
abbrev s_law_gather_told : Stmt := top 59
theorem sc_law_gather_told : FnScope ["way", "kinds", "answers", "passed"] ["way", "kinds", "answers"] (defScope s_law_gather_told) := ⟨rfl, rfl, rfl, by decide +kernel, rfl, by decide +kernel, by decide +kernel⟩
abbrev s_law_spread_told : Stmt := top 60
theorem sc_law_spread_told : FnScope ["way", "kinds", "answers", "passed"] ["way", "kinds", "answers"] (defScope s_law_spread_told) := ⟨rfl, rfl, rfl, by decide +kernel, rfl, by decide +kernel, by decide +kernel⟩
abbrev s_law_line_right : Stmt := top 61
theorem sc_law_line_right : FnScope ["kinds", "answers", "number", "able", "over"] ["kinds", "answers", "number"] (defScope s_law_line_right) := ⟨rfl, rfl, rfl, by decide +kernel, rfl, by decide +kernel, by decide +kernel⟩
abbrev s_law_gather_right : Stmt := top 62
theorem sc_law_gather_right : FnScope ["box", "best", "kinds", "answers", "ways", "at", "more", "due", "kept", "told", "one"] ["box", "best"] (defScope s_law_gather_right) := ⟨rfl, rfl, rfl, by decide +kernel, rfl, by decide +kernel, by decide +kernel⟩
abbrev s_law_spread_right : Stmt := top 63
theorem sc_law_spread_right : FnScope ["box", "best", "kinds", "answers", "ways", "more", "due", "kept", "told"] ["box", "best"] (defScope s_law_spread_right) := ⟨rfl, rfl, rfl, by decide +kernel, rfl, by decide +kernel, by decide +kernel⟩
abbrev s_law : Stmt := top 64
theorem sc_law : FnScope ["script", "best", "k", "box"] ["script"] (defScope s_law) := ⟨rfl, rfl, rfl, by decide +kernel, rfl, by decide +kernel, by decide +kernel⟩
def kw321 {α : Type} : List α → List α → List α
  | [], [a, b, c] => [c, b, a]
  | _, _ => []
theorem kw321_rel {vs : List V} {us : List Value} {zs : List V} {ws : List Value} (r : Vals vs us) (t : Vals zs ws) : Vals (kw321 vs zs) (kw321 us ws) := by
  cases r with
  | cons _ _ => cases t <;> exact .nil
  | nil => cases t with
    | nil => exact .nil
    | cons a t => cases t with
      | nil => exact .nil
      | cons b t => cases t with
        | nil => exact .nil
        | cons c t => cases t with
          | nil => exact .cons c (.cons b (.cons a .nil))
          | cons _ _ => exact .nil
theorem kb321 {K : PySem.W.Frag} {x qual : Str} {st : Stmt} {f : Addr} {fd : FuncData} {p q r k l m : Str} (F : Fun K x qual st f fd)
    (h : ∀ (kV doc pm : Value) (an : Option Addr) (cdv ct : Value) (u w z : Value), bindArgs (PySem.W.fnOf x qual (defArgs st) (defBody st) (defScope st) .none kV doc pm an cdv ct) ⟨[], [(k, u), (l, w), (m, z)]⟩ = pure [(p, z), (q, w), (r, u)]) : KBinds K fd [p, q, r] [k, l, m] kw321 kw321 := by
  obtain ⟨oc, od, kV, doc, pm, an, cdv, ct, osl, rfl, lk, hcd⟩ := F.ex
  refine ⟨fun s us ws _ hl => ?_, kw321_rel⟩
  match us, ws, hl with
  | [], [u, w, z], _ => exact .of_eq (h kV doc pm an cdv ct u w z)
structure TK (K : PySem.W.Frag) (mg : Str → Option Value) extends TA2 K mg where
  law_choose : DefAt K mg "_law_choose" s_law_choose ["many", "few"]
  law_parted : DefAt K mg "_law_parted" s_law_parted ["most", "parts"]
  law_count : DefAt K mg "_law_count" s_law_count ["box", "least"]
  law_counts : DefAt K mg "_law_counts" s_law_counts ["box", "least"]
  law_gather_told : DefAt K mg "_law_gather_told" s_law_gather_told ["way", "kinds", "answers"]
  law_spread_told : DefAt K mg "_law_spread_told" s_law_spread_told ["way", "kinds", "answers"]
  law_line_right : DefAt K mg "_law_line_right" s_law_line_right ["kinds", "answers", "number"]
  law_gather_right : DefAt K mg "_law_gather_right" s_law_gather_right ["box", "best"]
  law_spread_right : DefAt K mg "_law_spread_right" s_law_spread_right ["box", "best"]
  law : DefAt K mg "law" s_law ["script"]
  kb_gathered_answers_kinds : KBinds K gathered.fd ["kinds", "answers"] ["answers", "kinds"] kw21 kw21
  kb_spread_answers_kinds : KBinds K spread.fd ["kinds", "answers"] ["answers", "kinds"] kw21 kw21
  kb_can_tell_other_own_row : KBinds K can_tell.fd ["row", "own", "other"] ["other", "own", "row"] kw321 kw321
  TalkError_C : Addr
  TalkError_gC : mg "TalkError" = some (.ref TalkError_C)
/-! ### the own table -/
def ptL : List (List Int) := [[1, 0, 0, 0, 0, 0, 0, 0, 0],
  [1, 1, 1, 1, 1, 1, 1, 1, 1],
  [1, 1, 2, 3, 6, 10, 20, 35, 70],
  [1, 1, 2, 6, 12, 30, 90, 210, 560],
  [1, 1, 2, 6, 24, 60, 180, 630, 2520],
  [1, 1, 2, 6, 24, 120, 360, 1260, 5040],
  [1, 1, 2, 6, 24, 120, 720, 2520, 10080],
  [1, 1, 2, 6, 24, 120, 720, 5040, 20160],
  [1, 1, 2, 6, 24, 120, 720, 5040, 40320],
  [1, 1, 2, 6, 24, 120, 720, 5040, 40320],
  [1, 1, 2, 6, 24, 120, 720, 5040, 40320]]
def prow (k : Nat) : List Int := ptL.getD k []
def chR (n : Nat) : Nat → Int
  | 0 => 1
  | k + 1 => chR n k * ((n : Int) - (k : Int)) / ((k : Int) + 1)
def cellsP (l : List Int) (n : Nat) : List Int := (List.range (n + 1)).map fun p => chR n p * l.getD (n - p) 0

def mx : List Int → Int
  | [] => 0
  | a :: r => r.foldl (fun m x => if m < x then x else m) a
theorem mx_fold : ∀ (r : List Int) (a : Int), (r.foldl (fun m x => if m < x then x else m) a ∈ a :: r) ∧ ∀ y ∈ a :: r, y ≤ r.foldl (fun m x => if m < x then x else m) a
  | [], a => ⟨by simp, by simp⟩
  | b :: r, a => by
    obtain ⟨h1, h2⟩ := mx_fold r (if a < b then b else a)
    rw [List.foldl_cons]
    have h3 := h2 _ List.mem_cons_self
    refine ⟨?_, fun y hy => ?_⟩
    · rcases List.mem_cons.mp h1 with h | h
      · rw [h]
        split <;> simp
      · exact List.mem_cons_of_mem _ (List.mem_cons_of_mem _ h)
    · rcases List.mem_cons.mp hy with rfl | hy
      · refine Int.le_trans ?_ h3
        split <;> omega
      · rcases List.mem_cons.mp hy with rfl | hy
        · refine Int.le_trans ?_ h3
          split <;> omega
        · exact h2 y (List.mem_cons_of_mem _ hy)
theorem mx_of {ns : List Int} {m : Int} (h1 : m ∈ ns) (h2 : ∀ y ∈ ns, y ≤ m) : m = mx ns := by
  cases ns with
  | nil => cases h1
  | cons a r =>
    obtain ⟨g1, g2⟩ := mx_fold r a
    exact Int.le_antisymm (g2 m h1) (h2 _ g1)

theorem pt_len : ∀ k : Fin 11, (prow k.val).length = 9 := by decide +kernel
theorem pt_step : ∀ k : Fin 10, ∀ n : Fin 9, (prow (k.val + 1)).getD n.val 0 = mx (cellsP (prow k.val) n.val) := by decide +kernel
theorem pt_small : ∀ k : Fin 11, ∀ n : Fin 9, 0 ≤ (prow k.val).getD n.val 0 ∧ (prow k.val).getD n.val 0 < 2 ^ 64 := by decide +kernel
theorem pt_gr : ∀ i : Fin 8, ∀ j : Fin 9, (prow (j.val + 2))[i.val + 1]? = some (gr ((i.val : Int) + 1) ((j.val : Int) + 2)) := by decide +kernel

/-- lists of lists of ints, row by row -/
def Tab (f : Nat → List Int) (H : Hp) (r : Addr) (k : Nat) : Prop := ∃ as : List Addr, as.length = k + 1 ∧ H r = some (.lst (as.map V.ref)) ∧ ∀ (n : Nat) (a : Addr), as[n]? = some a → H a = some (.lst ((f n).map V.int))
theorem Tab.ex {f : Nat → List Int} {H H' : Hp} {r : Addr} {k : Nat} (e : Ex H H') (h : Tab f H r k) : Tab f H' r k := by
  obtain ⟨as, h1, h2, h3⟩ := h
  exact ⟨as, h1, e _ _ h2, fun n a ha => e _ _ (h3 n a ha)⟩
theorem refs_get {as : List Addr} {n : Nat} {a : Addr} (h : as[n]? = some a) : (as.map V.ref)[n]? = some (V.ref a) := by
  rw [List.getElem?_map, h]; rfl
theorem not_refs {ns : List Int} {as : List Addr} (hns : ns ≠ []) : ns.map V.int ≠ as.map V.ref := by
  intro z
  cases ns with
  | nil => exact hns rfl
  | cons n ns => cases as with
    | nil => cases z
    | cons b bs => exact nomatch (List.cons.inj z).1
/-- a further row -/
theorem Tab.put {f : Nat → List Int} {H : Hp} {r p : Addr} {k : Nat} (ne : ∀ n, n ≤ k + 1 → f n ≠ []) {as : List Addr} (h1 : as.length = k + 1) (h2 : H r = some (.lst (as.map V.ref))) (h3 : ∀ (n : Nat) (a : Addr), as[n]? = some a → H a = some (.lst ((f n).map V.int)))
    (hp : H p = some (.lst ((f (k + 1)).map V.int))) : Tab f (upd H r (.lst (as.map V.ref ++ [V.ref p]))) r (k + 1) := by
  refine ⟨as ++ [p], by rw [List.length_append, h1]; rfl, by rw [upd_same, List.map_append]; rfl, fun n a ha => ?_⟩
  have nr : ∀ {ns : List Int} {a : Addr}, ns ≠ [] → H a = some (.lst (ns.map V.int)) → a ≠ r := by
    intro ns a hns g1 ee
    rw [ee, h2] at g1
    exact not_refs hns (HO.lst.inj (Option.some.inj g1)).symm
  by_cases hn : n < as.length
  · rw [List.getElem?_append_left hn] at ha
    have g := h3 n a ha
    rw [upd_ne (nr (ne n (by omega)) g)]
    exact g
  · have hn2 : n = k + 1 := by
      have := (List.getElem?_eq_some_iff.mp ha).1
      rw [List.length_append, List.length_singleton] at this
      omega
    subst hn2
    rw [List.getElem?_append_right (by omega), h1, Nat.sub_self] at ha
    cases (Option.some.inj ha)
    rw [upd_ne (nr (ne _ (Nat.le_refl _)) hp)]
    exact hp
theorem at_last {as : List Addr} {k : Nat} {a : Addr} (h1 : as.length = k + 1) (h : as[k]? = some a) : atI (as.map V.ref) (-1) = some (V.ref a) := by
  have e : ixN (as.map V.ref).length (-1) = some k := by
    unfold ixN
    rw [if_neg (by decide), if_pos (by rw [List.length_map]; omega), List.length_map, h1]
    congr 1
    omega
  unfold atI
  rw [e]
  exact refs_get h
section
variable {σ : L2.St} {H : Hp} {ta tb : TE} {xs ys : List V}
theorem el_catL (ha : EvL ta σ H xs) (hb : EvL tb σ H ys) (hz : xs.length + ys.length ≤ 100000) : EvL (tOp rCat ta tb) σ H (xs ++ ys) := fun H1 e Q q =>
  ha H1 e _ fun p H2 hp e2 h2 => hb H2 (e.trans e2) _ fun p' H3 hp' e3 h3 => ⟨p, p', xs, ys, rfl, rfl, e3 _ _ h2, h3, sz_of hz, fun l hl => q l _ (fresh_back (e2.trans e3) hl) ((e2.trans e3).trans (Ex.new hl)) upd_same⟩
theorem el_repL {n : Int} (ha : EvL ta σ H xs) (hb : ∀ H1, Ex H H1 → Ev tb σ H1 (.int n)) (h1 : -(2 ^ 63) ≤ n) (h2 : n < 2 ^ 63) (hz : xs.length * n.toNat ≤ 100000) : EvL (tOp rRep ta tb) σ H (List.replicate n.toNat xs).flatten := fun H1 e Q q =>
  ha H1 e _ fun p H2 hp e2 h3 => hb H2 (e.trans e2) H2 (Ex.refl _) _ fun H3 e3 => ⟨p, n, xs, rfl, rfl, e3 _ _ h3, h1, h2, sz_of hz, fun l hl => q l _ (fresh_back (e2.trans e3) hl) ((e2.trans e3).trans (Ex.new hl)) upd_same⟩
end

theorem prow_len {k : Nat} (h : k ≤ 10) : (prow k).length = 9 := pt_len ⟨k, by omega⟩
theorem prow_ne {k : Nat} (h : k ≤ 10) : prow k ≠ [] := fun z => by have := prow_len h; rw [z] at this; cases this
theorem ints_getD {ns : List Int} {i : Nat} (h : i < ns.length) : (ns.map V.int)[i]? = some (.int (ns.getD i 0)) := by
  rw [List.getElem?_map, List.getElem?_eq_getElem h, List.getD_eq_getElem?_getD, List.getElem?_eq_getElem h]
  rfl
def lcs_law_parted : Scope := relabel (match (defBody s_law_parted).getD 1 (.Pass ⟨0, 0, 0, 0⟩) with
  | .For _ _ [_, .Expr (.Call _ [.ListComp _ _ sc _] _ _) _] _ _ => sc
  | _ => defScope s_law_parted) (dumEnv (defScope s_law_parted))
section
variable {P : Program} {w : World} {K : PySem.W.Frag} {mg : Str → Option Value} {base : Heap}
def spChoose : Sp := fun vs H Q _ => ∃ n p : Nat, vs = [.int (n : Int), .int (p : Int)] ∧ n ≤ 8 ∧ p ≤ n ∧ Q (.int (chR n p)) H
theorem ok_law_choose (T : TK K mg) : FnOk P w K mg base CX0 1 T.law_choose.a T.law_choose.fd ["many", "few"] spChoose := by
  refine T.law_choose.F.ok sc_law_choose (fun vs H Q E h => ?_) (fun cdv A outer s H vs Q E hr h => ?_)
  · obtain ⟨n, p, rfl, _⟩ := h; rfl
  obtain ⟨n, p, rfl, hn, hp, q⟩ := h
  refine ⟨_, (pss_cons (ps_set (i := 2) sc_law_choose.nd rfl (Or.inl rfl) pe_int)
    (pss_cons (ps_for PassesOwn.never rfl (pi_range1 rfl T.z_range (pa_cons (pv 1) pa_nil)) (pg_name (i := 3) sc_law_choose.nd rfl (Or.inl rfl)) (pss_one (ps_set (i := 2) sc_law_choose.nd rfl (Or.inl rfl) (pe_op op_fdiv (pe_op op_mul (pv 2) (pe_op op_sub (pv 0) (pv 3))) (pe_op op_add (pv 3) pe_int)))))
    (pss_one (ps_ret (pv 2))))), ?_⟩
  refine ⟨_, rfl, (p : Int), rfl, by omega, by omega, for_range (lo := 0) (n := ((p : Nat) : Int).toNat)
    (fun k σ H' => H' = H ∧ ∃ v, σ = [some (.int (n : Int)), some (.int (p : Int)), some (.int (chR n k)), v]) ⟨rfl, _, rfl⟩ ?_ ?_⟩
  · rintro k σ H' hk ⟨rfl, v, rfl⟩
    refine ⟨_, rfl, _, rfl, _, rfl, _, _, rfl, rfl, _, _, rfl, rfl, .inr ⟨by omega, by omega⟩, _, rfl, _, _, rfl, rfl, _, _, rfl, rfl, ⟨by omega, by omega⟩, rfl, some (.int (0 + (k : Int))), ?_⟩
    rw [Int.zero_add]
    rfl
  · rintro σ H' ⟨rfl, v, rfl⟩
    rw [Int.toNat_natCast]
    exact ⟨_, rfl, q⟩
def spParted : Sp := fun vs H Q _ => vs = [.int 8, .int 10] ∧ ∀ r H', Ex H H' → Tab prow H' r 10 → Q (.ref r) H'
theorem ok_law_parted (T : TK K mg) : FnOk P w K mg base CX0 2 T.law_parted.a T.law_parted.fd ["most", "parts"] spParted := by
  refine T.law_parted.F.ok sc_law_parted (fun vs H Q E h => ?_) (fun cdv A outer s H vs Q E hr h => ?_)
  · obtain ⟨rfl, _⟩ := h; rfl
  obtain ⟨rfl, q⟩ := h
  refine ⟨_, (pss_cons (ps_set (i := 2) sc_law_parted.nd rfl (Or.inl rfl) (pe_lst (pa_cons (pe_op op_cat (pe_lst (pa_cons pe_int pa_nil)) (pe_op op_rep (pe_lst (pa_cons pe_int pa_nil)) (pv 0))) pa_nil)))
    (pss_cons (ps_for PassesOwn.never rfl (pi_range1 rfl T.z_range (pa_cons (pv 1) pa_nil)) (pg_name (i := 3) sc_law_parted.nd rfl (Or.inl rfl)) (pss_cons (ps_set (i := 4) sc_law_parted.nd rfl (Or.inr rfl) (pe_ix (kixl K) (pv 2) (pv 3) (fun _ _ => rfl)))
    (pss_one (ps_expr (pe_bm PySem.F.plainAttrs_list PySem.F.slot_list_append PySem.F.type_list_append mt_append (pv 2) (pa_cons (pe_lc (own := [("n", 6)]) (g := gName 6) (by rfl) sc_law_parted.nd (pi_range1 rfl T.z_range (pa_cons (pe_op op_add (pv 0) pe_int) pa_nil)) (blkOk_by (own := [("n", 6)]) (N := ["most", "parts", "found", "k", "ahead", "p", "n"]) (sc := defScope s_law_parted) (by decide +kernel)) (fun _ _ _ _ _ => (pg_name (i := 6) sc_law_parted.nd rfl (Or.inr rfl))) (fun _ _ _ _ _ => pts_nil) (fun _ _ _ _ _ => (pe_callB (kmax K rfl) (by rfl) T.z_max (by decide +kernel) (pa_cons (pe_lc (own := [("p", 5)]) (g := gName 5) (by rfl) sc_law_parted.nd (pi_range1 rfl T.z_range (pa_cons (pe_op op_add (pv 6) pe_int) pa_nil)) (blkOk_by (own := [("p", 5)]) (N := ["most", "parts", "found", "k", "ahead", "p", "n"]) (sc := lcs_law_parted) (by decide +kernel)) (fun _ _ _ _ _ => (pg_name (i := 5) sc_law_parted.nd rfl (Or.inl rfl))) (fun _ _ _ _ _ => pts_nil) (fun _ _ _ _ _ => (pe_op op_mul (pe_call (ok_law_choose T) (hr.mono (by decide)) rfl T.law_choose.m T.law_choose.F.kp T.law_choose.b .nil pass0 (pa_cons (pv 6) (pa_cons (pv 5) pa_nil))) (pe_ix (kixl K) (pv 4) (pe_op op_sub (pv 6) (pv 5)) (fun _ _ => rfl))))) pa_nil)))) pa_nil))))))
    (pss_one (ps_ret (pv 2))))), ?_⟩
  have size : ∀ m : Nat, m ≤ 1000 → m ≤ sizeLine := fun m h => Nat.le_of_lt (small1000 h)
  have f0 := el_catL (el_lst (σ := [some (.int 8), some (.int 10), none, none, none, none, none]) (H := H) (ea_cons (x := .int 1) ev_c ea_nil) (by decide)) (el_repL (n := 8) (el_lst (σ := [some (.int 8), some (.int 10), none, none, none, none, none]) (H := H) (ea_cons (x := .int 0) ev_c ea_nil) (by decide)) (fun H1 e => ev_var (i := 0) rfl) (by decide) (by decide) (by decide)) (by decide)
  refine f0 H (Ex.refl _) _ fun a0 H1 ha e1 h1 => ⟨size _ (by show 1 ≤ 1000; decide), fun G hG => ?_⟩
  have hGx : H G = none := fresh_back e1 hG
  have na : a0 ≠ G := by rintro rfl; rw [h1] at hG; cases hG
  refine ⟨_, rfl, 10, rfl, by decide, by decide, for_range (lo := 0) (n := 10)
    (fun j σ H' => Ex H H' ∧ Tab prow H' G j ∧ ∃ u v x z, σ = [some (.int 8), some (.int 10), some (.ref G), u, v, x, z]) ⟨e1.trans (Ex.new hG), ?_, _, _, _, _, rfl⟩ ?_ ?_⟩
  · refine ⟨[a0], rfl, upd_same, fun n a hn => ?_⟩
    have hn0 : n = 0 := by
      have := (List.getElem?_eq_some_iff.mp hn).1
      simpa using this
    subst hn0
    cases (Option.some.inj hn)
    rw [upd_ne na, h1]
    rfl
  · rintro j σ H' hj ⟨e2, ⟨bs, g1, g2, g3⟩, u, v, x, z, rfl⟩
    have hb : bs[j]? = some bs[j] := List.getElem?_eq_getElem (by omega)
    have hbl := g3 j _ hb
    have tl := prow_len (k := j) (by omega)
    have tl1 := prow_len (k := j + 1) (by omega)
    refine ⟨_, rfl, _, rfl, G, _, _, _, rfl, rfl, SqL.of g2, at_of (Int.zero_add _) (refs_get hb), ?_⟩
    refine s_appL (K := K) (ys := (prow (j + 1)).map V.int) g2 (ev_var rfl) ?_ (by rw [List.length_map]; omega) (fun p H3 hp e3 hpl => ?_)
    · have gv : (prow (j + 1)).map V.int = given ((8 : Int) + 1).toNat (fun _ => true) (fun n => .int ((prow (j + 1)).getD n 0)) := by
        rw [given_all]
        apply List.ext_getElem?
        intro i
        by_cases hi : i < 9
        · rw [ints_getD (by omega), List.getElem?_map, List.getElem?_range (by exact hi)]; rfl
        · rw [List.getElem?_eq_none (by rw [List.length_map]; omega), List.getElem?_eq_none (by rw [List.length_map, List.length_range]; exact Nat.not_lt.mp hi)]
      rw [gv]
      refine el_lcR1 (fun _ => true) (fun n => .int ((prow (j + 1)).getD n 0)) (ea_cons (ev_op (ev_var rfl) ev_c rv_I0) ea_nil) ⟨by decide, by decide⟩ (fun _ => rfl) (fun i H1 _ _ H2 _ Q k => k H2 (Ex.refl _)) (fun n H4 e4 hn _ => ?_)
      have hn' : n < 9 := by omega
      intro H5 e5 Q5 k5
      have e45 := e4.trans e5
      have inner : EvL (tLc (iRng1 (tCons (tOp (rI0 fun i j => .int (i + j)) (tVar 6) (tC (.int 1))) tNil)) (gName 5) tYes
          (tOp (rI CMul fun i j => .int (i * j)) (tCall spChoose [] E0 (tCons (tVar 6) (tCons (tVar 5) tNil))) (tOp (rIxL K) (tVar 4) (tOp (rI0 fun i j => .int (i - j)) (tVar 6) (tVar 5)))) [5])
          ((wipe [some (.int 8), some (.int 10), some (.ref G), some (.int (0 + (j : Int))), some (.ref bs[j]), x, z] [6]).set 6 (some (.int (n : Int)))) H5 (given ((n : Int) + 1).toNat (fun _ => true) (fun s => .int (chR n s * (prow j).getD (n - s) 0))) := by
        refine el_lcR1 (fun _ => true) (fun s => .int (chR n s * (prow j).getD (n - s) 0)) (ea_cons (ev_op (ev_var rfl) ev_c rv_I0) ea_nil) ⟨by omega, by omega⟩ (fun _ => rfl) (fun i H1 _ _ H2 _ Q k => k H2 (Ex.refl _)) (fun s H6 e6 hs _ => ?_)
        have e46 := e45.trans e6
        have sm := pt_small ⟨j, by omega⟩ ⟨n - s, by omega⟩
        refine ev_op (x := .int (chR n s)) (fun H7 e7 Q7 k7 => ⟨_, rfl, _, rfl, n, s, rfl, by omega, by omega, k7 H7 (Ex.refl _)⟩)
          (ev_op (ev_var rfl) (ev_op (ev_var rfl) (ev_var rfl) rv_I0) (rv_ixL (SqL.of (e46 _ _ hbl)) (at_of (j := n - s) (by omega) (ints_getD (by omega))))) (rv_I (.inr ⟨?_, sm.2⟩))
        have := sm.1
        exact Int.lt_of_lt_of_le (by decide) this
      refine inner H5 (Ex.refl _) (fun v H6 => rMax K [v] H6 Q5) fun p H6 hp e6 h6 => ?_
      refine ⟨p, cellsP (prow j) n, rfl, SqL.of ?_, by unfold cellsP; rw [List.length_map, List.length_range]; omega, fun m hm hall => ?_⟩
      · rw [h6, given_all]
        unfold cellsP
        rw [List.map_map]
        congr 3
      · rw [mx_of hm hall, ← pt_step ⟨j, by omega⟩ ⟨n, hn'⟩]
        exact k5 H6 e6
    · exact ⟨(e2.trans e3).mut hGx, Tab.put (fun n hn => prow_ne (by omega)) g1 (e3 _ _ g2) (fun n a ha => e3 _ _ (g3 n a ha)) hpl, _, _, _, _, rfl⟩
  · rintro σ H' ⟨e2, tb, u, v, x, z, rfl⟩
    exact ⟨_, rfl, q _ _ e2 tb⟩
end
end L2.U


set_option Elab.async false
set_option linter.all false
set_option maxRecDepth 100000
set_option maxHeartbeats 4000000
namespace L2.U
open PySem PySem.Spec PyProof.Rows Evl

section
variable {P : Program} {w : World} {K : PySem.W.Frag} {mg : Str → Option Value} {base : Heap}
theorem but_fresh {H H' : Hp} {b f : Addr} {n m : Nat} (k : But b H H') (hb : BoxAt H b n) (hb2 : BoxAt H' b m) (h : H' f = none) : H f = none := by
  obtain ⟨o, ho⟩ := hb.some
  exact k.none ho h (hb2.ne h)
theorem but_mut {b D : Addr} {o : HO} {H G : Hp} (k : But b H G) (hD : H D = none) : But b H (upd G D o) := fun a u n h => by
  rw [upd_ne (ne_of_none h hD)]
  exact k a u n h
theorem box_upd {H : Hp} {b D : Addr} {n : Nat} {o : HO} (B : BoxAt H b n) (h : D ≠ b) : BoxAt (upd H D o) b n := by
  obtain ⟨d, m, c, f, hb, r⟩ := B
  exact ⟨d, m, c, f, by rw [upd_ne h.symm]; exact hb, r⟩
theorem box_ints {H : Hp} {b a : Addr} {n : Nat} {ns : List Int} (hb : BoxAt H b n) (h : H a = some (.lst (ns.map V.int))) : a ≠ b := by
  obtain ⟨d, m, c, f, hb, _⟩ := hb
  rintro rfl
  rw [h] at hb
  have z := HO.lst.inj (Option.some.inj hb)
  match ns, z with
  | [], z => cases z
  | [_], z => cases z
  | _ :: _ :: _, z => cases (List.cons.inj (List.cons.inj z).2).1
theorem Tab.but {f : Nat → List Int} {H H' : Hp} {b r : Addr} {n k : Nat} (kk : But b H H') (hb : BoxAt H b n) (h : Tab f H r k) : Tab f H' r k := by
  obtain ⟨as, h1, h2, h3⟩ := h
  refine ⟨as, h1, kk _ _ ?_ h2, fun n a ha => kk _ _ (box_ints hb (h3 n a ha)) (h3 n a ha)⟩
  obtain ⟨d, m, c, f, hb, _⟩ := hb
  rintro rfl
  rw [h2] at hb
  have z := HO.lst.inj (Option.some.inj hb)
  match as, z with
  | [], z => cases z
  | _ :: _, z => cases (List.cons.inj z).1
def spCount : Sp := fun vs H Q _ => ∃ (b : Addr) (lo : Int) (m : Nat), vs = [.ref b, .int lo] ∧ 0 ≤ lo ∧ lo ≤ 1 ∧ BoxAt H b (m + 2) ∧ ∀ c H', lo ≤ c → c ≤ 8 → BoxAt H' b m → But b H H' → Q (.int c) H'
theorem ok_law_count (T : TK K mg) : FnOk P w K mg base CX0 2 T.law_count.a T.law_count.fd ["box", "least"] spCount := by
  refine T.law_count.F.ok sc_law_count (fun vs H Q E h => ?_) (fun cdv A outer s H vs Q E hr h => ?_)
  · obtain ⟨b, lo, m, rfl, _⟩ := h; rfl
  obtain ⟨b, lo, m, rfl, l0, l1, hB, q⟩ := h
  refine ⟨_, (pss_cons (ps_par (i := 2) (j := 3) (by rfl) sc_law_count.nd rfl rfl (by decide) rfl rfl (pa_cons (pe_call (ok_law_take T.toTA1) (hr.mono (by decide)) rfl T.law_take.m T.law_take.F.kp T.law_take.b .nil pass0 (pa_cons (pv 0) (pa_cons pe_int pa_nil))) (pa_cons (pe_call (ok_law_take T.toTA1) (hr.mono (by decide)) rfl T.law_take.m T.law_take.F.kp T.law_take.b .nil pass0 (pa_cons (pv 0) (pa_cons (pe_op op_sub pe_int (pv 1)) pa_nil))) pa_nil)) (by rfl))
    (pss_one (ps_ret (pe_ifExp (pt_cmpR op_eq (pv 2) pe_int (nomark _)) (pv 1) (pe_ifExp (pt_cmpR op_eq (pv 2) pe_int (nomark _)) pe_int (pe_op op_add (pv 1) (pv 3))))))), ?_⟩
  refine ⟨_, rfl, b, 4, m + 1, rfl, by decide, by decide, hB, fun way H1 w0 w1 B1 k1 => ?_⟩
  refine ⟨_, rfl, _, rfl, _, _, rfl, rfl, b, 9 - lo, m, rfl, by omega, by omega, B1, fun any H2 a0 a1 B2 k2 => ⟨_, _, rfl, ?_⟩⟩
  have k12 := k1.trans k2
  refine ⟨_, rfl, rfl, _, rfl, ite2 (fun _ => ⟨_, rfl, q lo H2 (Int.le_refl _) (by omega) B2 k12⟩) (fun _ => ⟨_, rfl, rfl, _, rfl, ite2 (fun _ => ?_) (fun _ => ?_)⟩)⟩
  · exact q 8 H2 (by omega) (by decide) B2 k12
  · exact ⟨_, rfl, _, rfl, _, _, rfl, rfl, q (lo + any) H2 (by omega) (by omega) B2 k12⟩
def spCounts : Sp := fun vs H Q _ => ∃ (b : Addr) (lo : Int) (m : Nat), vs = [.ref b, .int lo] ∧ 0 ≤ lo ∧ lo ≤ 1 ∧ BoxAt H b (m + 13) ∧ ∀ (p : Addr) (ns : List Int) (H' : Hp), H p = none → H' p = some (.lst (ns.map V.int)) → 1 ≤ ns.length → ns.length ≤ 4 → (∀ z ∈ ns, lo ≤ z ∧ z ≤ 8) → BoxAt H' b m → But b H H' → Q (.ref p) H'
theorem ok_law_counts (T : TK K mg) : FnOk P w K mg base CX0 3 T.law_counts.a T.law_counts.fd ["box", "least"] spCounts := by
  refine T.law_counts.F.ok sc_law_counts (fun vs H Q E h => ?_) (fun cdv A outer s H vs Q E hr h => ?_)
  · obtain ⟨b, lo, m, rfl, _⟩ := h; rfl
  obtain ⟨b, lo, m, rfl, l0, l1, hB, q⟩ := h
  refine ⟨_, (pss_cons (ps_par (i := 2) (j := 3) (by rfl) sc_law_counts.nd rfl rfl (by decide) rfl rfl (pa_cons (pe_op op_add pe_int (pe_call (ok_law_take T.toTA1) (hr.mono (by decide)) rfl T.law_take.m T.law_take.F.kp T.law_take.b .nil pass0 (pa_cons (pv 0) (pa_cons pe_int pa_nil)))) (pa_cons (pe_cmpR op_eq (pe_call (ok_law_take T.toTA1) (hr.mono (by decide)) rfl T.law_take.m T.law_take.F.kp T.law_take.b .nil pass0 (pa_cons (pv 0) (pa_cons pe_int pa_nil))) pe_int (nomark _)) pa_nil)) (by rfl))
    (pss_cons (ps_par (i := 4) (j := 5) (by rfl) sc_law_counts.nd rfl rfl (by decide) rfl rfl (pa_cons (pe_call (ok_law_count T) (hr.mono (by decide)) rfl T.law_count.m T.law_count.F.kp T.law_count.b .nil pass0 (pa_cons (pv 0) (pa_cons (pv 1) pa_nil))) (pa_cons (pe_call (ok_law_take T.toTA1) (hr.mono (by decide)) rfl T.law_take.m T.law_take.F.kp T.law_take.b .nil pass0 (pa_cons (pv 0) (pa_cons pe_int pa_nil))) pa_nil)) (by rfl))
    (pss_cons (ps_if (pt_val (pv 3)) (pss_one (ps_ret (pe_op op_rep (pe_lst (pa_cons (pv 4) pa_nil)) (pv 2)))) pss_nil)
    (pss_cons (ps_setLc (i := 6) (own := [("k", 8)]) (g := gName 8) (by rfl) sc_law_counts.nd rfl rfl (sw_true rfl rfl rfl (by decide +kernel)) (pi_range1 rfl T.z_range (pa_cons (pv 2) pa_nil)) (blkOk_by (own := [("k", 8)]) (N := ["box", "least", "many", "alike", "first", "place", "found", "low", "k"]) (sc := defScope s_law_counts) (by decide +kernel)) (fun _ _ _ _ _ => (pg_name (i := 8) sc_law_counts.nd rfl (Or.inl rfl))) (fun _ _ _ _ _ => pts_nil) (fun _ _ _ _ _ => (pe_call (ok_law_count T) (hr.mono (by decide)) rfl T.law_count.m T.law_count.F.kp T.law_count.b .nil pass0 (pa_cons (pv 0) (pa_cons (pv 1) pa_nil)))))
    (pss_cons (ps_if (PW.pt (pw_and (pt_cmpR op_gt (pv 2) pe_int (nomark _)) (pw_and1 (pt_cmpR op_lt (pv 5) (pv 2) (nomark _))))) (pss_cons (ps_set (i := 7) sc_law_counts.nd rfl (Or.inl rfl) (pe_callB (kminS K rfl) (by rfl) T.z_min (by decide +kernel) (pa_cons (pv 6) pa_nil)))
    (pss_one (ps_asg (pe_callB (call_max2 rfl) (by rfl) T.z_max (by decide +kernel) (pa_cons (pv 1) (pa_cons (pe_op op_sub (pv 7) pe_int) pa_nil))) (pg_sub (pv 6) (pv 5) set_list)))) pss_nil)
    (pss_one (ps_ret (pv 6)))))))), ?_⟩
  have sz : ∀ m : Nat, m ≤ 1000 → m ≤ sizeLine := fun m h => Nat.le_of_lt (small1000 h)
  refine ⟨_, rfl, b, 4, m + 12, rfl, by decide, by decide, hB, fun r1 H1 a0 a1 B1 k1 => ⟨1, r1, rfl, rfl, ?_⟩⟩
  refine ⟨_, rfl, b, 4, m + 11, rfl, by decide, by decide, B1, fun r2 H2 b0 b1 B2 k2 => ⟨rfl, _, _, rfl, ?_⟩⟩
  refine ⟨_, rfl, _, rfl, b, lo, m + 9, rfl, l0, l1, B2, fun first H3 c0 c1 B3 k3 => ?_⟩
  refine ⟨_, rfl, b, 4, m + 8, rfl, by decide, by decide, B3, fun place H4 d0 d1 B4 k4 => ⟨_, _, rfl, ?_⟩⟩
  have k14 := ((k1.trans k2).trans k3).trans k4
  refine ⟨_, rfl, _, rfl, ite2 (fun _ => ?_) (fun _ => ?_)⟩
  · refine ⟨_, rfl, (by show 1 ≤ sizeLine; decide), fun p0 hp0 => ?_⟩
    have e0 := Ex.new (o := .lst [.int first]) hp0
    refine ⟨_, rfl, p0, 1 + r1, [.int first], rfl, rfl, upd_same, by omega, by omega, sz _ (by rw [List.length_singleton]; omega), fun p hp => ?_⟩
    have B5 := (B4.ex e0).ex (Ex.new (o := .lst (List.replicate (1 + r1).toNat [V.int first]).flatten) hp)
    refine q p (List.replicate (1 + r1).toNat first) _ (but_fresh k14 hB B4 (fresh_back e0 hp)) ?_ (by rw [List.length_replicate]; omega) (by rw [List.length_replicate]; omega) (fun z hz => ?_) (B5.le (by omega)) ((k14.ex e0).ex (Ex.new hp))
    · rw [upd_same, rep_one, List.map_replicate]
    · rw [List.eq_of_mem_replicate hz]; exact ⟨c0, c1⟩
  · refine ⟨_, rfl, 1 + r1, rfl, by omega, by omega, fun D hD => ?_⟩
    have Db : D ≠ b := B4.ne hD
    have D0 : H D = none := but_fresh k14 hB B4 hD
    refine lc_range (fun i H' => BoxAt H' b (m + 8 - 2 * i) ∧ But b H H' ∧ ∃ ns : List Int, H' D = some (.lst (ns.map V.int)) ∧ ns.length = i ∧ ∀ z ∈ ns, lo ≤ z ∧ z ≤ 8) ⟨B4.ex (Ex.new hD), k14.ex (Ex.new hD), [], upd_same, rfl, by simp⟩ ?_ ?_
    · rintro i H' hi ⟨B, kk, ns, hd, hl, hn⟩
      obtain ⟨mm, hm⟩ : ∃ mm, m + 8 - 2 * i = mm + 2 := ⟨m + 8 - 2 * i - 2, by omega⟩
      have hm2 : m + 8 - 2 * (i + 1) = mm := by omega
      rw [hm] at B
      refine ⟨rfl, _, rfl, _, rfl, b, lo, mm, rfl, l0, l1, B, fun r H5 a0 a1 B5 k5 => ⟨_, k5 _ _ Db hd, small1000 (by rw [List.length_map]; omega), ?_, but_mut (kk.trans k5) D0, ns ++ [r], by rw [upd_same, List.map_append]; rfl, by rw [List.length_append, hl]; rfl, fun z hz => ?_⟩⟩
      · rw [hm2]
        exact box_upd B5 Db
      · rcases List.mem_append.mp hz with hz | hz
        · exact hn z hz
        · rw [List.mem_singleton.mp hz]; exact ⟨a0, a1⟩
    · rintro H5 ⟨B5, k5, ns, hd, hl, hn⟩
      have hlen : (ns.length : Int) = 1 + r1 := by omega
      have stay : ∀ H', Ex H5 H' → Q (.ref D) H' := fun H' e => q D ns H' D0 (e _ _ hd) (by omega) (by omega) hn ((B5.ex e).le (by omega)) (k5.ex e)
      refine ⟨_, rfl, _, _, rfl, rfl, _, rfl, ite2 (fun c => ?_) (fun c => ?_)⟩
      · refine ⟨_, rfl, _, rfl, _, _, rfl, rfl, _, rfl, ite2 (fun d => ?_) (fun d => ⟨_, rfl, stay _ (Ex.refl _)⟩)⟩
        have d' := of_decide_eq_true d
        refine ⟨_, rfl, D, ns, rfl, .inl (SqL.of hd), by omega, fun mn hmn hall => ?_⟩
        have hmn' := hn mn hmn
        refine ⟨_, rfl, _, rfl, _, _, rfl, rfl, _, _, rfl, _, rfl, _, rfl, D, ns.map V.int, place, place.toNat, rfl, rfl, hd, ?_, ?_⟩
        · rw [List.length_map]
          have := ixN_nat (n := ns.length) (j := place.toNat) (by omega)
          rw [Int.toNat_of_nonneg d0] at this
          exact this
        · have es : (ns.map V.int).set place.toNat (.int (if mn - 1 > lo then mn - 1 else lo)) = (ns.set place.toNat (if mn - 1 > lo then mn - 1 else lo)).map V.int := by rw [List.map_set]
          refine ⟨_, rfl, q D (ns.set place.toNat (if mn - 1 > lo then mn - 1 else lo)) _ D0 (by rw [upd_same, ← es]) (by rw [List.length_set]; omega) (by rw [List.length_set]; omega) (fun z hz => ?_) ((box_upd B5 Db).le (by omega)) (but_mut k5 D0)⟩
          rcases List.mem_or_eq_of_mem_set hz with hz | hz
          · exact hn z hz
          · rw [hz]
            split <;> omega
      · exact iteF ⟨_, rfl, stay _ (Ex.refl _)⟩
end
end L2.U


set_option Elab.async false
set_option linter.all false
set_option maxRecDepth 100000
set_option maxHeartbeats 4000000
namespace L2.U
open PySem PySem.Spec PyProof.Rows Evl

section
variable {P : Program} {w : World} {K : PySem.W.Frag} {mg : Str → Option Value} {base : Heap}
def spGTold (K : PySem.W.Frag) : Sp := fun vs H Q _ => ∃ (way : Int) (a : Addr) (ns : List Int) (j : Int), vs = [.int way, .ref a, .int j] ∧ H a = some (.lst (ns.map V.int)) ∧ 1 ≤ ns.length ∧ ns.length ≤ 4 ∧ (∀ z ∈ ns, 1 ≤ z ∧ z ≤ 8) ∧ 0 ≤ j ∧ j ≤ 8 ∧ ∀ p H', Ex H H' → H' p = some (.tup ((grs ns j).map V.int)) → Q (.ref p) H'
theorem ok_law_gather_told (T : TK K mg) : FnOk P w K mg base CX0 8 T.law_gather_told.a T.law_gather_told.fd ["way", "kinds", "answers"] (spGTold K) := by
  refine T.law_gather_told.F.ok sc_law_gather_told (fun vs H Q E h => ?_) (fun cdv A outer s H vs Q E hr h => ?_)
  · obtain ⟨way, a, ns, j, rfl, _⟩ := h; rfl
  obtain ⟨way, a, ns, j, rfl, ha, h1, h4, hn, j0, j1, q⟩ := h
  refine ⟨_, (pss_cons (ps_set (i := 3) sc_law_gather_told.nd rfl (Or.inl rfl) (pe_ifExp (pt_cmpR op_eq (pv 0) pe_int (nomark _)) (pe_callTy (ktuple K) (by rfl) T.z_tuple (by decide +kernel) (pa_cons (pv 1) pa_nil)) (pv 1)))
    (pss_one (ps_ret (pe_ifExp (pt_cmpR op_gt (pv 0) pe_int (nomark _)) (by exact (pe_callKw (ok_gathered T.toTA2) (hr.mono (by decide)) rfl T.gathered.m T.gathered.F.kp T.kb_gathered_answers_kinds (fun σ => pass0At) (pk_cons (pv 2) (pk_cons (pv 3) pk_nil)))) (pe_call (ok_gathered T.toTA2) (hr.mono (by decide)) rfl T.gathered.m T.gathered.F.kp T.gathered.b .nil pass0 (pa_cons (pv 3) (pa_cons (pv 2) pa_nil))))))), ?_⟩
  refine ⟨_, rfl, rfl, _, rfl, ite2 (fun _ => ?_) (fun _ => ?_)⟩
  · refine ⟨_, rfl, a, _, rfl, .inl ⟨SqL.of ha, fun l hl => ?_⟩⟩
    have hx : SeqN K (upd H l (.tup (ns.map V.int))) (.ref l) ns := ⟨l, rfl, .inr (SqT.of upd_same)⟩
    refine ⟨_, rfl, _, _, rfl, rfl, _, rfl, ite2 (fun _ => ?_) (fun _ => ?_)⟩
    · exact ⟨_, rfl, _, rfl, _, ns, j, rfl, hx, h1, h4, hn, j0, j1, fun p H' e h => q p H' ((Ex.new hl).trans e) h⟩
    · exact ⟨_, rfl, _, rfl, _, ns, j, rfl, hx, h1, h4, hn, j0, j1, fun p H' e h => q p H' ((Ex.new hl).trans e) h⟩
  · have hx : SeqN K H (.ref a) ns := ⟨a, rfl, .inl ha⟩
    refine ⟨_, rfl, _, rfl, _, _, rfl, rfl, _, rfl, ite2 (fun _ => ?_) (fun _ => ?_)⟩
    · exact ⟨_, rfl, _, rfl, _, ns, j, rfl, hx, h1, h4, hn, j0, j1, q⟩
    · exact ⟨_, rfl, _, rfl, _, ns, j, rfl, hx, h1, h4, hn, j0, j1, q⟩
def spSTold (K : PySem.W.Frag) : Sp := fun vs H Q _ => ∃ (way : Int) (a : Addr) (ns : List Int) (k : Int), vs = [.int way, .int k, .ref a] ∧ H a = some (.lst (ns.map V.int)) ∧ 1 ≤ ns.length ∧ ns.length ≤ 4 ∧ (∀ z ∈ ns, 0 ≤ z ∧ z ≤ 8) ∧ 1 ≤ k ∧ k ≤ 8 ∧ ∀ H', Ex H H' → Q (.int (gr k (mnI ns + 2))) H'
theorem ok_law_spread_told (T : TK K mg) : FnOk P w K mg base CX0 8 T.law_spread_told.a T.law_spread_told.fd ["way", "kinds", "answers"] (spSTold K) := by
  refine T.law_spread_told.F.ok sc_law_spread_told (fun vs H Q E h => ?_) (fun cdv A outer s H vs Q E hr h => ?_)
  · obtain ⟨way, a, ns, k, rfl, _⟩ := h; rfl
  obtain ⟨way, a, ns, k, rfl, ha, h1, h4, hn, k0, k1, q⟩ := h
  refine ⟨_, (pss_cons (ps_set (i := 3) sc_law_spread_told.nd rfl (Or.inl rfl) (pe_ifExp (pt_cmpR op_eq (pv 0) pe_int (nomark _)) (pe_callTy (ktuple K) (by rfl) T.z_tuple (by decide +kernel) (pa_cons (pv 2) pa_nil)) (pv 2)))
    (pss_one (ps_ret (pe_ifExp (pt_cmpR op_gt (pv 0) pe_int (nomark _)) (by exact (pe_callKw (ok_spread T.toTA2) (hr.mono (by decide)) rfl T.spread.m T.spread.F.kp T.kb_spread_answers_kinds (fun σ => pass0At) (pk_cons (pv 3) (pk_cons (pv 1) pk_nil)))) (pe_call (ok_spread T.toTA2) (hr.mono (by decide)) rfl T.spread.m T.spread.F.kp T.spread.b .nil pass0 (pa_cons (pv 1) (pa_cons (pv 3) pa_nil))))))), ?_⟩
  refine ⟨_, rfl, rfl, _, rfl, ite2 (fun _ => ?_) (fun _ => ?_)⟩
  · refine ⟨_, rfl, a, _, rfl, .inl ⟨SqL.of ha, fun l hl => ?_⟩⟩
    have hx : SeqN K (upd H l (.tup (ns.map V.int))) (.ref l) ns := ⟨l, rfl, .inr (SqT.of upd_same)⟩
    refine ⟨_, rfl, _, _, rfl, rfl, _, rfl, ite2 (fun _ => ?_) (fun _ => ?_)⟩
    · exact ⟨_, rfl, _, rfl, _, ns, k, rfl, hx, h1, h4, hn, k0, k1, fun H' e => q H' ((Ex.new hl).trans e)⟩
    · exact ⟨_, rfl, _, rfl, _, ns, k, rfl, hx, h1, h4, hn, k0, k1, fun H' e => q H' ((Ex.new hl).trans e)⟩
  · have hx : SeqN K H (.ref a) ns := ⟨a, rfl, .inl ha⟩
    refine ⟨_, rfl, _, rfl, _, _, rfl, rfl, _, rfl, ite2 (fun _ => ?_) (fun _ => ?_)⟩
    · exact ⟨_, rfl, _, rfl, _, ns, k, rfl, hx, h1, h4, hn, k0, k1, q⟩
    · exact ⟨_, rfl, _, rfl, _, ns, k, rfl, hx, h1, h4, hn, k0, k1, q⟩
theorem gr_facts {k j : Int} (k0 : 1 ≤ k ∧ k ≤ 8) (j0 : 0 ≤ j ∧ j ≤ 8) : ∃ a b : Nat, k = (a : Int) ∧ j = (b : Int) ∧ a ≤ 8 ∧ b ≤ 8 ∧ 1 ≤ gr k (j + 2) ∧ gr k (j + 2) < 2 ^ 64 ∧ ctF (gr k (j + 2)) a b = true ∧ ctF (gr k (j + 2) + 1) a b = false ∧ (∃ t : Nat, j + 2 = (t : Int) ∧ t ≤ 10 ∧ atI ((prow t).map V.int) k = some (.int (gr k (j + 2)))) := by
  obtain ⟨a, rfl⟩ : ∃ a : Nat, k = (a : Int) + 1 := ⟨(k - 1).toNat, by omega⟩
  obtain ⟨b, rfl⟩ : ∃ b : Nat, j = (b : Int) := ⟨j.toNat, by omega⟩
  obtain ⟨g1, g2, g3, g4⟩ := ct_ok ⟨a, by omega⟩ ⟨b, by omega⟩
  have g := pt_gr ⟨a, by omega⟩ ⟨b, by omega⟩
  refine ⟨a + 1, b, by omega, rfl, by omega, by omega, g1, g2, g3, g4, b + 2, by omega, by omega, at_of (j := a + 1) (by omega) ?_⟩
  rw [List.getElem?_map, g]
  rfl
def spLine : Sp := fun vs H Q _ => ∃ k j : Int, vs = [.int k, .int j, .int (gr k (j + 2))] ∧ (1 ≤ k ∧ k ≤ 8) ∧ (0 ≤ j ∧ j ≤ 8) ∧ ∀ H', Ex H H' → Q (.bl true) H'
theorem ok_law_line_right (T : TK K mg) : FnOk P w K mg base CX0 10 T.law_line_right.a T.law_line_right.fd ["kinds", "answers", "number"] spLine := by
  refine T.law_line_right.F.ok sc_law_line_right (fun vs H Q E h => ?_) (fun cdv A outer s H vs Q E hr h => ?_)
  · obtain ⟨k, j, rfl, _⟩ := h; rfl
  obtain ⟨k, j, rfl, k0, j0, q⟩ := h
  refine ⟨_, (pss_cons (ps_par (i := 3) (j := 4) (by rfl) sc_law_line_right.nd rfl rfl (by decide) rfl rfl (pa_cons (pe_call (ok_can_tell T.toTA2) (hr.mono (by decide)) rfl T.can_tell.m T.can_tell.F.kp T.can_tell.b .nil pass0 (pa_cons (pe_lst (pa_cons (pv 2) pa_nil)) (pa_cons (pv 0) (pa_cons (pv 1) pa_nil)))) (pa_cons (by exact (pe_callKw (ok_can_tell T.toTA2) (hr.mono (by decide)) rfl T.can_tell.m T.can_tell.F.kp T.kb_can_tell_other_own_row (fun σ => pass0At) (pk_cons (pv 1) (pk_cons (pv 0) (pk_cons (pe_lst (pa_cons (pe_op op_add (pv 2) pe_int) pa_nil)) pk_nil))))) pa_nil)) (by rfl))
    (pss_one (ps_ret (pe_and (pe_call (ok_law_same T.toTA1) (hr.mono (by decide)) rfl T.law_same.m T.law_same.F.kp T.law_same.b .nil pass0 (pa_cons (pv 3) (pa_cons pe_bl pa_nil))) (pe_one (pe_call (ok_law_same T.toTA1) (hr.mono (by decide)) rfl T.law_same.m T.law_same.F.kp T.law_same.b .nil pass0 (pa_cons (pv 4) (pa_cons pe_bl pa_nil)))))))), ?_⟩
  obtain ⟨a, b, rfl, rfl, ha, hb, g1, g2, g3, g4, _⟩ := gr_facts k0 j0
  refine ⟨_, rfl, (by show 1 ≤ sizeLine; decide), fun p hp => ⟨_, rfl, _, rfl, p, _, a, b, rfl, upd_same, g1, Int.le_of_lt (Int.lt_trans g2 (by decide)), by omega, by omega, fun H1 e1 => ?_⟩⟩
  rw [g3]
  refine ⟨_, rfl, _, rfl, _, rfl, _, _, rfl, rfl, (by show 1 ≤ sizeLine; decide), fun p2 hp2 => ⟨p2, _, a, b, rfl, upd_same, by omega, ?_, by omega, by omega, fun H2 e2 => ⟨_, _, rfl, ?_⟩⟩⟩
  · have := Int.lt_trans g2 (show (2 : Int) ^ 64 < 100000000000000000000000000000000000000000000000000 by decide)
    omega
  rw [g4]
  have e := (((Ex.new (o := .lst [.int (gr (a : Int) ((b : Int) + 2))]) hp).trans e1).trans (Ex.new (o := .lst [.int (gr (a : Int) ((b : Int) + 2) + 1)]) hp2)).trans e2
  exact ⟨_, rfl, _, _, rfl, .bl true, fun H3 e3 => ⟨true, rfl, iteT ⟨_, rfl, _, _, rfl, .bl false, fun H4 e4 => q _ ((e.trans e3).trans e4)⟩⟩⟩
end
end L2.U


set_option Elab.async false
set_option linter.all false
set_option maxRecDepth 100000
set_option maxHeartbeats 4000000
namespace L2.U
open PySem PySem.Spec PyProof.Rows Evl

section
variable {P : Program} {w : World} {K : PySem.W.Frag} {mg : Str → Option Value} {base : Heap}
theorem eu_tupOf {σ : L2.St} {H : Hp} {ta : TE} {xs : List V} (h : EvL ta σ H xs) : EvU (tCB (rTupOf K) (tCons ta tNil)) σ H xs := fun H1 e Q q => h H1 e (fun v H2 => rTupOf K [v] H2 Q) fun p H2 hp e2 h2 => ⟨p, xs, rfl, .inl ⟨SqL.of h2, fun l hl => q l _ (fresh_back e2 hl) (e2.trans (Ex.new hl)) upd_same⟩⟩
theorem due_lc {σ : L2.St} {H : Hp} {r a : Addr} {ns : List Int} {j : Int} {ik ij : Nat} (hw : ∀ x, wipe ((wipe σ [10]).set 10 (some x)) [10] = wipe σ [10]) (h1 : ∀ x, ((wipe σ [10]).set 10 (some x))[1]? = some (some (.ref r)))
    (hj : ∀ x, ((wipe σ [10]).set 10 (some x))[ij]? = some (some (.int j))) (h10 : ∀ x, ((wipe σ [10]).set 10 (some x))[10]? = some (some x)) (hk : σ[ik]? = some (some (.ref a))) (ha : H a = some (.lst (ns.map V.int))) (tb : Tab prow H r 10) (h4 : ns.length ≤ 4) (hn : ∀ z ∈ ns, 1 ≤ z ∧ z ≤ 8) (j0 : 0 ≤ j ∧ j ≤ 8) :
    EvL (tLc (iList K (tVar ik)) (gName 10) tYes (tOp (rIxL K) (tOp (rIxL K) (tVar 1) (tOp (rI0 fun i j => .int (i + j)) (tVar ij) (tC (.int 2)))) (tVar 10)) [10]) σ H ((grs ns j).map V.int) := by
  have gv : (grs ns j).map V.int = given (ns.map V.int).length (fun _ => true) (fun i => .int (gr (ns.getD i 0) (j + 2))) := by
    rw [given_all, List.length_map]
    unfold grs
    apply List.ext_getElem?
    intro i
    rw [List.getElem?_map, List.getElem?_map, List.getElem?_map]
    by_cases c : i < ns.length
    · rw [List.getElem?_range c, List.getElem?_eq_getElem c]
      simp only [Option.map_some, List.getD_eq_getElem?_getD, List.getElem?_eq_getElem c, Option.getD_some]
    · rw [List.getElem?_eq_none (show (List.range ns.length).length ≤ i by rw [List.length_range]; omega), List.getElem?_eq_none (by omega)]
      rfl
  rw [gv]
  refine el_lcL (fun _ => true) (fun i => .int (gr (ns.getD i 0) (j + 2))) (ev_var hk) (SqL.of ha) (by rw [List.length_map]; omega) hw (fun i x H1 _ _ H2 _ Q k => k H2 (Ex.refl _)) (fun i x H2 e2 hxi _ => ?_)
  obtain ⟨z, hz, rfl⟩ := ints_get hxi
  have g : ns.getD i 0 = z := by rw [List.getD_eq_getElem?_getD, hz]; rfl
  obtain ⟨_, _, _, _, _, _, _, _, _, _, t, ht, ht10, hat⟩ := gr_facts (hn z (List.mem_of_getElem? hz)) j0
  obtain ⟨as, r1, r2, r3⟩ := tb
  have ht' : as[t]? = some (as[t]'(by omega)) := List.getElem?_eq_getElem _
  rw [g]
  exact ev_op (ev_op (ev_var (h1 _)) (ev_op (ev_var (hj _)) ev_c rv_I0) (rv_ixL (SqL.of (e2 _ _ r2)) (at_of ht (refs_get ht')))) (ev_var (h10 _)) (rv_ixL (SqL.of (e2 _ _ (r3 _ _ ht'))) hat)
theorem ne_same {H : Hp} {a c : Addr} {ns : List Int} {Q : VK} (ha : H a = some (.lst (ns.map V.int))) (hc : H c = some (.lst (ns.map V.int))) (h4 : ns.length ≤ 900) (q : Q (.bl false) H) : rNeD K (.ref a) (.ref c) H Q := by
  have ra : Rd K (fun _ => True) H 1 (.ref a) (.list (ns.map PyData.int)) := .lst ha trivial (by rw [List.length_map, List.length_map]) (by rw [List.length_map]; exact h4) (rdl_ints ns).2
  have rc : Rd K (fun _ => True) H 1 (.ref c) (.list (ns.map PyData.int)) := .lst hc trivial (by rw [List.length_map, List.length_map]) (by rw [List.length_map]; exact h4) (rdl_ints ns).2
  refine ⟨_, _, ra.dp, rc.dp, ra.shaped (by decide), rc.shaped (by decide), ?_⟩
  rw [SeqAt.eqv_refl _ ra.lay.1]
  exact q
theorem sm_tups {H : Hp} {p d : Addr} {ns : List Int} (hp : H p = some (.tup (ns.map V.int))) (hd : H d = some (.tup (ns.map V.int))) (h4 : ns.length ≤ 900) : Sm K H 8 (.ref p) (.ref d) :=
  .tup (SqT.of hp) (SqT.of hd) rfl (by rw [List.length_map]; omega) Sm.ints
theorem grs_len {ns : List Int} {j : Int} : (grs ns j).length = ns.length := by unfold grs; rw [List.length_map]
def spGRight : Sp := fun vs H Q _ => ∃ (b r : Addr) (m : Nat), vs = [.ref b, .ref r] ∧ BoxAt H b (m + 20) ∧ Tab prow H r 10 ∧ ∀ H', BoxAt H' b m → But b H H' → Q (.bl true) H'
theorem ok_law_gather_right (T : TK K mg) : FnOk P w K mg base CX0 11 T.law_gather_right.a T.law_gather_right.fd ["box", "best"] spGRight := by
  refine T.law_gather_right.F.ok sc_law_gather_right (fun vs H Q E h => ?_) (fun cdv A outer s H vs Q E hr h => ?_)
  · obtain ⟨b, r, m, rfl, _⟩ := h; rfl
  obtain ⟨b, r, m, rfl, hB, tb, q⟩ := h
  refine ⟨_, (pss_cons (ps_asg (pe_tup (pa_cons (pe_call (ok_law_counts T) (hr.mono (by decide)) rfl T.law_counts.m T.law_counts.F.kp T.law_counts.b .nil pass0 (pa_cons (pv 0) (pa_cons pe_int pa_nil))) (pa_cons (pe_call (ok_law_count T) (hr.mono (by decide)) rfl T.law_count.m T.law_count.F.kp T.law_count.b .nil pass0 (pa_cons (pv 0) (pa_cons pe_int pa_nil))) (pa_cons (pe_lst (pa_cons (pe_call (ok_law_take T.toTA1) (hr.mono (by decide)) rfl T.law_take.m T.law_take.F.kp T.law_take.b .nil pass0 (pa_cons (pv 0) (pa_cons pe_int pa_nil))) (pa_cons (pe_call (ok_law_take T.toTA1) (hr.mono (by decide)) rfl T.law_take.m T.law_take.F.kp T.law_take.b .nil pass0 (pa_cons (pv 0) (pa_cons pe_int pa_nil))) pa_nil))) pa_nil)))) (pg_tup (by rfl) (pgs_cons (pg_name (i := 2) sc_law_gather_right.nd rfl (Or.inl rfl)) (pgs_cons (pg_name (i := 3) sc_law_gather_right.nd rfl (Or.inr rfl)) (pgs_cons (pg_name (i := 4) sc_law_gather_right.nd rfl (Or.inl rfl)) pgs_nil)))))
    (pss_cons (ps_asg (pe_tup (pa_cons (pe_call (ok_law_take T.toTA1) (hr.mono (by decide)) rfl T.law_take.m T.law_take.F.kp T.law_take.b .nil pass0 (pa_cons (pv 0) (pa_cons (pe_callB (klen K) (by rfl) T.z_len (by decide +kernel) (pa_cons (pv 2) pa_nil)) pa_nil))) (pa_cons (pe_call (ok_law_count T) (hr.mono (by decide)) rfl T.law_count.m T.law_count.F.kp T.law_count.b .nil pass0 (pa_cons (pv 0) (pa_cons pe_int pa_nil))) pa_nil))) (pg_tup (by rfl) (pgs_cons (pg_name (i := 5) sc_law_gather_right.nd rfl (Or.inl rfl)) (pgs_cons (pg_name (i := 6) sc_law_gather_right.nd rfl (Or.inr rfl)) pgs_nil))))
    (pss_cons (ps_set (i := 7) sc_law_gather_right.nd rfl (Or.inl rfl) (pe_callTy (ktuple K) (by rfl) T.z_tuple (by decide +kernel) (pa_cons (pe_lc (own := [("one", 10)]) (g := gName 10) (by rfl) sc_law_gather_right.nd (kpil K (pv 2)) (blkOk_by (own := [("one", 10)]) (N := ["box", "best", "kinds", "answers", "ways", "at", "more", "due", "kept", "told", "one"]) (sc := defScope s_law_gather_right) (by decide +kernel)) (fun _ _ _ _ _ => (pg_name (i := 10) sc_law_gather_right.nd rfl (Or.inl rfl))) (fun _ _ _ _ _ => pts_nil) (fun _ _ _ _ _ => (pe_ix (kixl K) (pe_ix (kixl K) (pv 1) (pe_op op_add (pv 3) pe_int) (fun _ _ => rfl)) (pv 10) (fun _ _ => rfl)))) pa_nil)))
    (pss_cons (ps_set (i := 8) sc_law_gather_right.nd rfl (Or.inl rfl) (pe_callTy (klist K) (by rfl) T.z_list (by decide +kernel) (pa_cons (pv 2) pa_nil)))
    (pss_cons (ps_set (i := 9) sc_law_gather_right.nd rfl (Or.inl rfl) (pe_call (ok_law_gather_told T) (hr.mono (by decide)) rfl T.law_gather_told.m T.law_gather_told.F.kp T.law_gather_told.b .nil pass0 (pa_cons (pe_ix (kixl K) (pv 4) pe_int (fun _ _ => rfl)) (pa_cons (pv 8) (pa_cons (pv 3) pa_nil)))))
    (pss_cons (ps_if (PW.pt (pw_or (pt_not (pt_val (pe_call (ok_law_same T.toTA1) (hr.mono (by decide)) rfl T.law_same.m T.law_same.F.kp T.law_same.b .nil pass0 (pa_cons (pv 9) (pa_cons (pv 7) pa_nil))))) (pw_or1 (pt_cmpR (kneD K hr.units) (pv 8) (pv 2) (nomark _))))) (pss_one (ps_ret pe_bl)) pss_nil)
    (pss_cons (ps_asg (pe_op op_sub pe_int (pe_ix (kixl K) (pv 8) pe_int (fun _ _ => rfl))) (pg_sub (pv 8) pe_int set_list))
    (pss_cons (ps_if (pt_not (pt_val (pe_call (ok_law_same T.toTA1) (hr.mono (by decide)) rfl T.law_same.m T.law_same.F.kp T.law_same.b .nil pass0 (pa_cons (pe_call (ok_law_gather_told T) (hr.mono (by decide)) rfl T.law_gather_told.m T.law_gather_told.F.kp T.law_gather_told.b .nil pass0 (pa_cons (pe_ix (kixl K) (pv 4) pe_int (fun _ _ => rfl)) (pa_cons (pv 8) (pa_cons (pv 6) pa_nil)))) (pa_cons (pe_callTy (ktuple K) (by rfl) T.z_tuple (by decide +kernel) (pa_cons (pe_lc (own := [("one", 10)]) (g := gName 10) (by rfl) sc_law_gather_right.nd (kpil K (pv 8)) (blkOk_by (own := [("one", 10)]) (N := ["box", "best", "kinds", "answers", "ways", "at", "more", "due", "kept", "told", "one"]) (sc := defScope s_law_gather_right) (by decide +kernel)) (fun _ _ _ _ _ => (pg_name (i := 10) sc_law_gather_right.nd rfl (Or.inl rfl))) (fun _ _ _ _ _ => pts_nil) (fun _ _ _ _ _ => (pe_ix (kixl K) (pe_ix (kixl K) (pv 1) (pe_op op_add (pv 6) pe_int) (fun _ _ => rfl)) (pv 10) (fun _ _ => rfl)))) pa_nil)) pa_nil))))) (pss_one (ps_ret pe_bl)) pss_nil)
    (pss_cons (ps_if (pt_not (pt_val (pe_call (ok_law_same T.toTA1) (hr.mono (by decide)) rfl T.law_same.m T.law_same.F.kp T.law_same.b .nil pass0 (pa_cons (pe_call (ok_law_gather_told T) (hr.mono (by decide)) rfl T.law_gather_told.m T.law_gather_told.F.kp T.law_gather_told.b .nil pass0 (pa_cons (pe_ix (kixl K) (pv 4) pe_int (fun _ _ => rfl)) (pa_cons (pe_callTy (klist K) (by rfl) T.z_list (by decide +kernel) (pa_cons (pv 2) pa_nil)) (pa_cons (pv 3) pa_nil)))) (pa_cons (pv 7) pa_nil))))) (pss_one (ps_ret pe_bl)) pss_nil)
    (pss_one (ps_ret (pe_call (ok_law_line_right T) (hr.mono (by decide)) rfl T.law_line_right.m T.law_line_right.F.kp T.law_line_right.b .nil pass0 (pa_cons (pe_ix (kixl K) (pv 2) (pv 5) (fun _ _ => rfl)) (pa_cons (pv 3) (pa_cons (pe_ix (kixt K) (pv 7) (pv 5) (fun _ _ => rfl)) pa_nil))))))))))))))), ?_⟩
  refine ⟨_, rfl, b, 1, m + 7, rfl, by decide, by decide, hB, fun p ns H1 hp hns h1 h4 hn B1 k1 => ?_⟩
  refine ⟨_, rfl, b, 0, m + 5, rfl, by decide, by decide, B1, fun j H2 j0 j1 B2 k2 => ?_⟩
  refine ⟨_, rfl, b, 4, m + 4, rfl, by decide, by decide, B2, fun w1 H3 _ _ B3 k3 => ⟨_, rfl, b, 4, m + 3, rfl, by decide, by decide, B3, fun w2 H4 _ _ B4 k4 => ⟨two_le, fun W hW => ⟨(by show 3 ≤ sizeLine; decide), fun tp htp => ⟨tp, _, rfl, SqT.of upd_same, rfl, _, _, rfl, _, _, rfl, _, _, rfl, rfl, ?_⟩⟩⟩⟩⟩
  have hns4 := k4 _ _ (box_ints B3 (k3 _ _ (box_ints B2 (k2 _ _ (box_ints B1 hns) hns)) (k2 _ _ (box_ints B1 hns) hns))) (k3 _ _ (box_ints B2 (k2 _ _ (box_ints B1 hns) hns)) (k2 _ _ (box_ints B1 hns) hns))
  have kk4 := ((k1.trans k2).trans k3).trans k4
  have e5a := Ex.new (o := .lst [.int w1, .int w2]) hW
  have hW5a : upd H4 W (.lst [.int w1, .int w2]) W = some (.lst ([w1, w2].map V.int)) := upd_same
  generalize upd H4 W (.lst [.int w1, .int w2]) = H5a at e5a hW5a htp ⊢
  have e5 := e5a.trans (Ex.new (o := .tup [.ref p, .int j, .ref W]) htp)
  have hW5 := (Ex.new (o := .tup [.ref p, .int j, .ref W]) htp) _ _ hW5a
  generalize upd H5a tp (.tup [.ref p, .int j, .ref W]) = H5 at e5 hW5 ⊢
  have B5 := B4.ex e5
  have hns5 := e5 _ _ hns4
  refine ⟨_, rfl, _, rfl, _, ns.length, rfl, .inl ⟨_, SqL.of hns5, by rw [List.length_map]⟩, b, (ns.length : Int), m + 2, rfl, by omega, by omega, B5, fun at_ H6 at0 at1 B6 k6 => ⟨_, rfl, b, 0, m, rfl, by decide, by decide, B6, fun more H7a m0 m1 B7a k7a => ⟨two_le, fun tq htq => ⟨tq, _, rfl, SqT.of upd_same, rfl, _, _, rfl, _, _, rfl, rfl, ?_⟩⟩⟩⟩
  have e7 := Ex.new (o := .tup [.int at_, .int more]) htq
  have B7 := B7a.ex e7
  have k7 := k7a.ex e7
  generalize upd H7a tq (.tup [.int at_, .int more]) = H7 at e7 B7 k7 ⊢
  have hk7 := k7 _ _ (box_ints B6 (k6 _ _ (box_ints B5 hns5) hns5)) (k6 _ _ (box_ints B5 hns5) hns5)
  have hW7 := k7 _ _ (box_ints B6 (k6 _ _ (box_ints B5 hW5) hW5)) (k6 _ _ (box_ints B5 hW5) hW5)
  have kk := ((kk4.ex e5).trans k6).trans k7
  have tb7 := tb.but kk hB
  -- due
  refine q_asgU (eu_tupOf (due_lc (fun _ => rfl) (fun _ => rfl) (fun _ => rfl) (fun _ => rfl) rfl hk7 tb7 h4 hn ⟨j0, j1⟩)) fun d H8 hd e8 h8 => ?_
  -- kept
  refine ⟨_, rfl, p, _, rfl, .inl (SqL.of (e8 _ _ hk7)), fun C hC => ?_⟩
  have e9 := Ex.new (o := .lst (ns.map V.int)) hC
  have hC9 : upd H8 C (.lst (ns.map V.int)) C = some (.lst (ns.map V.int)) := upd_same
  have hC0 : H C = none := but_fresh kk hB B7 (fresh_back e8 hC)
  have hC7 : H7 C = none := fresh_back e8 hC
  generalize upd H8 C (.lst (ns.map V.int)) = H9 at e9 hC9 ⊢
  have e79 := e8.trans e9
  refine ⟨_, rfl, W, _, 0, _, rfl, rfl, SqL.of (e79 _ _ hW7), rfl, _, rfl, _, rfl, w1, C, ns, j, rfl, hC9, h1, h4, hn, j0, j1, fun t H10 e10 h10 => ?_⟩
  have e710 := e79.trans e10
  have d10 := e10 _ _ (e9 _ _ h8)
  have k10 := e710 _ _ hk7
  have C10 := e10 _ _ hC9
  refine ⟨_, rfl, _, rfl, _, _, rfl, sm_tups h10 d10 (by rw [grs_len]; omega), fun H11 e11 => ⟨true, rfl, iteF ⟨_, rfl, _, rfl, ne_same (e11 _ _ C10) (e11 _ _ k10) (by omega) ⟨_, rfl, iteF ?_⟩⟩⟩⟩
  have e711 := e710.trans e11
  have C11 := e11 _ _ C10
  -- kept[0] = 9 - kept[0]
  obtain ⟨z0, zs, rfl⟩ : ∃ z0 zs, ns = z0 :: zs := by
    cases ns with
    | nil => cases h1
    | cons a r => exact ⟨a, r, rfl⟩
  refine ⟨_, rfl, C, _, 0, .int z0, rfl, rfl, SqL.of C11, at_of (j := 0) rfl rfl, _, _, rfl, rfl, ?_⟩
  refine ⟨_, rfl, C, _, 0, 0, rfl, rfl, C11, ixN_nat (n := ((z0 :: zs).map V.int).length) (j := 0) (by rw [List.length_map]; exact h1), ?_⟩
  have e712 : Ex H7 (upd H11 C (.lst (((z0 :: zs).map V.int).set 0 (.int (9 - z0))))) := e711.mut hC7
  have C12 : upd H11 C (.lst (((z0 :: zs).map V.int).set 0 (.int (9 - z0)))) C = some (.lst (((9 - z0) :: zs).map V.int)) := upd_same
  have dC : d ≠ C := by
    rintro rfl
    rw [e9 _ _ h8] at hC9
    cases hC9
  have d12 : upd H11 C (.lst (((z0 :: zs).map V.int).set 0 (.int (9 - z0)))) d = some (.tup ((grs (z0 :: zs) j).map V.int)) := by rw [upd_ne dC]; exact e11 _ _ d10
  generalize upd H11 C (.lst (((z0 :: zs).map V.int).set 0 (.int (9 - z0)))) = H12 at e712 C12 d12 ⊢
  have hn0 := hn z0 List.mem_cons_self
  have hm : ∀ z ∈ (9 - z0) :: zs, 1 ≤ z ∧ z ≤ 8 := by
    intro z hz
    rcases List.mem_cons.mp hz with rfl | hz
    · omega
    · exact hn z (List.mem_cons_of_mem _ hz)
  refine ⟨_, rfl, W, _, 1, _, rfl, rfl, SqL.of (e712 _ _ hW7), rfl, _, rfl, _, rfl, w2, C, (9 - z0) :: zs, more, rfl, C12, h1, h4, hm, m0, m1, fun t2 H13 e13 h13 => ?_⟩
  have e713 := e712.trans e13
  refine eu_tupOf (due_lc (fun _ => rfl) (fun _ => rfl) (fun _ => rfl) (fun _ => rfl) rfl (e13 _ _ C12) (tb7.ex e713) h4 hm ⟨m0, m1⟩) H13 (Ex.refl _) _ fun d2 H14 hd2 e14 h14 => ?_
  have e714 := e713.trans e14
  refine ⟨_, _, rfl, sm_tups (e14 _ _ h13) h14 (by rw [grs_len]; exact Nat.le_trans h4 (by decide)), fun H15 e15 => ⟨true, rfl, iteF ?_⟩⟩
  have e715 := e714.trans e15
  have e1215 := (e13.trans e14).trans e15
  refine ⟨_, rfl, W, _, 1, _, rfl, rfl, SqL.of (e715 _ _ hW7), rfl, _, rfl, p, _, rfl, .inl (SqL.of (e715 _ _ hk7)), fun c2 hc2 => ⟨_, rfl, w2, c2, z0 :: zs, j, rfl, upd_same, h1, h4, hn, j0, j1, fun t3 H16 e16 h16 => ?_⟩⟩
  have eN := Ex.new (o := .lst ((z0 :: zs).map V.int)) hc2
  have e716 := (e715.trans eN).trans e16
  have d16 := e16 _ _ (eN _ _ (e1215 _ _ d12))
  refine ⟨_, rfl, _, _, rfl, sm_tups h16 d16 (by rw [grs_len]; exact Nat.le_trans h4 (by decide)), fun H17 e17 => ⟨true, rfl, iteF ?_⟩⟩
  have e717 := e716.trans e17
  obtain ⟨v, hat, hg⟩ := at_get (xs := (z0 :: zs).map V.int) at0 (by rw [List.length_map]; exact at1)
  obtain ⟨z, hz, rfl⟩ := ints_get hg
  have hzr := hn z (List.mem_of_getElem? hz)
  have hatd : atI ((grs (z0 :: zs) j).map V.int) at_ = some (.int (gr z (j + 2))) := by
    refine at_of (j := at_.toNat) (by omega) ?_
    unfold grs
    rw [List.getElem?_map, List.getElem?_map, hz]
    rfl
  refine ⟨_, rfl, _, rfl, p, _, _, _, rfl, rfl, SqL.of (e717 _ _ hk7), hat, _, rfl, _, rfl, _, rfl, d, _, _, _, rfl, rfl, SqT.of (e17 _ _ d16), hatd, z, j, rfl, hzr, ⟨j0, j1⟩, fun H18 e18 => ?_⟩
  exact q _ (B7.ex (e717.trans e18)) (kk.ex (e717.trans e18))
end
end L2.U


set_option Elab.async false
set_option linter.all false
set_option maxRecDepth 100000
set_option maxHeartbeats 4000000
namespace L2.U
open PySem PySem.Spec PyProof.Rows Evl

section
variable {P : Program} {w : World} {K : PySem.W.Frag} {mg : Str → Option Value} {base : Heap}
def spSRight : Sp := fun vs H Q _ => ∃ (b r : Addr) (m : Nat), vs = [.ref b, .ref r] ∧ BoxAt H b (m + 20) ∧ Tab prow H r 10 ∧ ∀ H', BoxAt H' b m → But b H H' → Q (.bl true) H'
theorem ok_law_spread_right (T : TK K mg) : FnOk P w K mg base CX0 11 T.law_spread_right.a T.law_spread_right.fd ["box", "best"] spSRight := by
  refine T.law_spread_right.F.ok sc_law_spread_right (fun vs H Q E h => ?_) (fun cdv A outer s H vs Q E hr h => ?_)
  · obtain ⟨b, r, m, rfl, _⟩ := h; rfl
  obtain ⟨b, r, m, rfl, hB, tb, q⟩ := h
  refine ⟨_, (pss_cons (ps_par3 (i := 2) (j := 3) (l := 4) (by rfl) sc_law_spread_right.nd rfl rfl rfl (by decide) (by decide) (by decide) rfl rfl rfl (pa_cons (pe_call (ok_law_count T) (hr.mono (by decide)) rfl T.law_count.m T.law_count.F.kp T.law_count.b .nil pass0 (pa_cons (pv 0) (pa_cons pe_int pa_nil))) (pa_cons (pe_call (ok_law_counts T) (hr.mono (by decide)) rfl T.law_counts.m T.law_counts.F.kp T.law_counts.b .nil pass0 (pa_cons (pv 0) (pa_cons pe_int pa_nil))) (pa_cons (pe_lst (pa_cons (pe_call (ok_law_take T.toTA1) (hr.mono (by decide)) rfl T.law_take.m T.law_take.F.kp T.law_take.b .nil pass0 (pa_cons (pv 0) (pa_cons pe_int pa_nil))) (pa_cons (pe_call (ok_law_take T.toTA1) (hr.mono (by decide)) rfl T.law_take.m T.law_take.F.kp T.law_take.b .nil pass0 (pa_cons (pv 0) (pa_cons pe_int pa_nil))) pa_nil))) pa_nil))) (by rfl))
    (pss_cons (ps_set (i := 5) sc_law_spread_right.nd rfl (Or.inl rfl) (pe_call (ok_law_count T) (hr.mono (by decide)) rfl T.law_count.m T.law_count.F.kp T.law_count.b .nil pass0 (pa_cons (pv 0) (pa_cons pe_int pa_nil))))
    (pss_cons (ps_set (i := 6) sc_law_spread_right.nd rfl (Or.inl rfl) (pe_ix (kixl K) (pe_ix (kixl K) (pv 1) (pe_op op_add (pe_callB (kminS K rfl) (by rfl) T.z_min (by decide +kernel) (pa_cons (pv 3) pa_nil)) pe_int) (fun _ _ => rfl)) (pv 2) (fun _ _ => rfl)))
    (pss_cons (ps_set (i := 7) sc_law_spread_right.nd rfl (Or.inl rfl) (pe_callTy (klist K) (by rfl) T.z_list (by decide +kernel) (pa_cons (pv 3) pa_nil)))
    (pss_cons (ps_set (i := 8) sc_law_spread_right.nd rfl (Or.inl rfl) (pe_call (ok_law_spread_told T) (hr.mono (by decide)) rfl T.law_spread_told.m T.law_spread_told.F.kp T.law_spread_told.b .nil pass0 (pa_cons (pe_ix (kixl K) (pv 4) pe_int (fun _ _ => rfl)) (pa_cons (pv 2) (pa_cons (pv 7) pa_nil)))))
    (pss_cons (ps_if (PW.pt (pw_or (pt_not (pt_val (pe_call (ok_law_same T.toTA1) (hr.mono (by decide)) rfl T.law_same.m T.law_same.F.kp T.law_same.b .nil pass0 (pa_cons (pv 8) (pa_cons (pv 6) pa_nil))))) (pw_or1 (pt_cmpR (kneD K hr.units) (pv 7) (pv 3) (nomark _))))) (pss_one (ps_ret pe_bl)) pss_nil)
    (pss_cons (ps_asg (pe_op op_sub pe_int (pe_ix (kixl K) (pv 7) pe_int (fun _ _ => rfl))) (pg_sub (pv 7) pe_int set_list))
    (pss_cons (ps_if (pt_not (pt_val (pe_call (ok_law_same T.toTA1) (hr.mono (by decide)) rfl T.law_same.m T.law_same.F.kp T.law_same.b .nil pass0 (pa_cons (pe_call (ok_law_spread_told T) (hr.mono (by decide)) rfl T.law_spread_told.m T.law_spread_told.F.kp T.law_spread_told.b .nil pass0 (pa_cons (pe_ix (kixl K) (pv 4) pe_int (fun _ _ => rfl)) (pa_cons (pv 5) (pa_cons (pv 7) pa_nil)))) (pa_cons (pe_ix (kixl K) (pe_ix (kixl K) (pv 1) (pe_op op_add (pe_callB (kminS K rfl) (by rfl) T.z_min (by decide +kernel) (pa_cons (pv 7) pa_nil)) pe_int) (fun _ _ => rfl)) (pv 5) (fun _ _ => rfl)) pa_nil))))) (pss_one (ps_ret pe_bl)) pss_nil)
    (pss_cons (ps_if (pt_not (pt_val (pe_call (ok_law_same T.toTA1) (hr.mono (by decide)) rfl T.law_same.m T.law_same.F.kp T.law_same.b .nil pass0 (pa_cons (pe_call (ok_law_spread_told T) (hr.mono (by decide)) rfl T.law_spread_told.m T.law_spread_told.F.kp T.law_spread_told.b .nil pass0 (pa_cons (pe_ix (kixl K) (pv 4) pe_int (fun _ _ => rfl)) (pa_cons (pv 2) (pa_cons (pe_callTy (klist K) (by rfl) T.z_list (by decide +kernel) (pa_cons (pv 3) pa_nil)) pa_nil)))) (pa_cons (pv 6) pa_nil))))) (pss_one (ps_ret pe_bl)) pss_nil)
    (pss_one (ps_ret (pe_call (ok_law_line_right T) (hr.mono (by decide)) rfl T.law_line_right.m T.law_line_right.F.kp T.law_line_right.b .nil pass0 (pa_cons (pv 2) (pa_cons (pe_callB (kminS K rfl) (by rfl) T.z_min (by decide +kernel) (pa_cons (pv 3) pa_nil)) (pa_cons (pv 6) pa_nil))))))))))))))), ?_⟩
  refine ⟨_, rfl, b, 1, m + 18, rfl, by decide, by decide, hB, fun k H1 k0 k1' B1 k1 => ?_⟩
  refine ⟨_, rfl, b, 0, m + 5, rfl, by decide, by decide, B1, fun p ns H2 hp hns h1 h4 hn B2 k2 => ?_⟩
  refine ⟨_, rfl, b, 4, m + 4, rfl, by decide, by decide, B2, fun w1 H3 _ _ B3 k3 => ⟨_, rfl, b, 4, m + 3, rfl, by decide, by decide, B3, fun w2 H4 _ _ B4 k4 => ⟨two_le, fun W hW => ⟨_, _, _, rfl, ?_⟩⟩⟩⟩
  have hns4 := k4 _ _ (box_ints B3 (k3 _ _ (box_ints B2 hns) hns)) (k3 _ _ (box_ints B2 hns) hns)
  have kk4 := ((k1.trans k2).trans k3).trans k4
  have e5 := Ex.new (o := .lst [.int w1, .int w2]) hW
  have hW5 : upd H4 W (.lst [.int w1, .int w2]) W = some (.lst ([w1, w2].map V.int)) := upd_same
  generalize upd H4 W (.lst [.int w1, .int w2]) = H5 at e5 hW5 ⊢
  have B5 := B4.ex e5
  have hns5 := e5 _ _ hns4
  refine ⟨_, rfl, b, 1, m + 1, rfl, by decide, by decide, B5, fun more H7 m0 m1 B7 k7 => ?_⟩
  have hk7 := k7 _ _ (box_ints B5 hns5) hns5
  have hW7 := k7 _ _ (box_ints B5 hW5) hW5
  have kk := (kk4.ex e5).trans k7
  have tb7 := tb.but kk hB
  have mnr := hn _ (mn_in h1)
  obtain ⟨_, _, _, _, _, _, _, _, _, _, t, ht, ht10, hat⟩ := gr_facts ⟨k0, k1'⟩ mnr
  obtain ⟨as, r1, r2, r3⟩ := id tb7
  have ht' : as[t]? = some (as[t]'(by omega)) := List.getElem?_eq_getElem _
  -- due
  refine ⟨_, rfl, _, rfl, p, ns, rfl, .inl (SqL.of hk7), by omega, fun mn hmn hall => ?_⟩
  rw [mn_of hmn hall]
  refine ⟨_, _, rfl, rfl, r, _, _, _, rfl, rfl, SqL.of r2, at_of ht (refs_get ht'), _, rfl, as[t]'(by omega), _, _, _, rfl, rfl, SqL.of (r3 _ _ ht'), hat, ?_⟩
  -- kept
  refine ⟨_, rfl, p, _, rfl, .inl (SqL.of hk7), fun C hC => ?_⟩
  have e9 := Ex.new (o := .lst (ns.map V.int)) hC
  have hC9 : upd H7 C (.lst (ns.map V.int)) C = some (.lst (ns.map V.int)) := upd_same
  have hC0 : H C = none := but_fresh kk hB B7 hC
  generalize upd H7 C (.lst (ns.map V.int)) = H9 at e9 hC9 ⊢
  refine ⟨_, rfl, W, _, 0, _, rfl, rfl, SqL.of (e9 _ _ hW7), rfl, _, rfl, _, rfl, w1, C, ns, k, rfl, hC9, h1, h4, hn, k0, k1', fun H10 e10 => ?_⟩
  have e710 := e9.trans e10
  have k10 := e710 _ _ hk7
  have C10 := e10 _ _ hC9
  refine ⟨_, rfl, _, rfl, _, _, rfl, .int _, fun H11 e11 => ⟨true, rfl, iteF ⟨_, rfl, _, rfl, ne_same (e11 _ _ C10) (e11 _ _ k10) (by omega) ⟨_, rfl, iteF ?_⟩⟩⟩⟩
  have e711 := e710.trans e11
  have C11 := e11 _ _ C10
  obtain ⟨z0, zs, rfl⟩ : ∃ z0 zs, ns = z0 :: zs := by
    cases ns with
    | nil => cases h1
    | cons a r => exact ⟨a, r, rfl⟩
  refine ⟨_, rfl, C, _, 0, .int z0, rfl, rfl, SqL.of C11, at_of (j := 0) rfl rfl, _, _, rfl, rfl, ?_⟩
  refine ⟨_, rfl, C, _, 0, 0, rfl, rfl, C11, ixN_nat (n := ((z0 :: zs).map V.int).length) (j := 0) (by rw [List.length_map]; exact h1), ?_⟩
  have e712 : Ex H7 (upd H11 C (.lst (((z0 :: zs).map V.int).set 0 (.int (8 - z0))))) := e711.mut hC
  have C12 : upd H11 C (.lst (((z0 :: zs).map V.int).set 0 (.int (8 - z0)))) C = some (.lst (((8 - z0) :: zs).map V.int)) := upd_same
  generalize upd H11 C (.lst (((z0 :: zs).map V.int).set 0 (.int (8 - z0)))) = H12 at e712 C12 ⊢
  have hn0 := hn z0 List.mem_cons_self
  have hm : ∀ z ∈ (8 - z0) :: zs, 0 ≤ z ∧ z ≤ 8 := by
    intro z hz
    rcases List.mem_cons.mp hz with rfl | hz
    · omega
    · exact hn z (List.mem_cons_of_mem _ hz)
  have hl1 : 1 ≤ ((8 - z0) :: zs).length := h1
  have mnr2 := hm _ (mn_in hl1)
  obtain ⟨_, _, _, _, _, _, _, _, _, _, t2, ht2, ht102, hat2⟩ := gr_facts ⟨m0, m1⟩ mnr2
  have ht2' : as[t2]? = some (as[t2]'(by omega)) := List.getElem?_eq_getElem _
  refine ⟨_, rfl, W, _, 1, _, rfl, rfl, SqL.of (e712 _ _ hW7), rfl, _, rfl, _, rfl, w2, C, (8 - z0) :: zs, more, rfl, C12, h1, h4, hm, m0, m1, fun H13 e13 => ?_⟩
  have e713 := e712.trans e13
  refine ⟨_, rfl, _, rfl, C, (8 - z0) :: zs, rfl, .inl (SqL.of (e13 _ _ C12)), hl1, fun mn2 hmn2 hall2 => ?_⟩
  rw [mn_of hmn2 hall2]
  refine ⟨_, _, rfl, rfl, r, _, _, _, rfl, rfl, SqL.of (e713 _ _ r2), at_of ht2 (refs_get ht2'), _, rfl, as[t2]'(by omega), _, _, _, rfl, rfl, SqL.of (e713 _ _ (r3 _ _ ht2')), hat2, ?_⟩
  refine ⟨_, _, rfl, .int _, fun H15 e15 => ⟨true, rfl, iteF ?_⟩⟩
  have e715 := e713.trans e15
  refine ⟨_, rfl, W, _, 1, _, rfl, rfl, SqL.of (e715 _ _ hW7), rfl, _, rfl, _, rfl, p, _, rfl, .inl (SqL.of (e715 _ _ hk7)), fun c2 hc2 => ⟨w2, c2, z0 :: zs, k, rfl, upd_same, h1, h4, hn, k0, k1', fun H16 e16 => ?_⟩⟩
  have eN := Ex.new (o := .lst ((z0 :: zs).map V.int)) hc2
  have e716 := (e715.trans eN).trans e16
  refine ⟨_, rfl, _, _, rfl, .int _, fun H17 e17 => ⟨true, rfl, iteF ?_⟩⟩
  have e717 := e716.trans e17
  refine ⟨_, rfl, _, rfl, p, z0 :: zs, rfl, .inl (SqL.of (e717 _ _ hk7)), h1, fun mn3 hmn3 hall3 => ?_⟩
  rw [mn_of hmn3 hall3]
  refine ⟨_, rfl, k, mnI (z0 :: zs), rfl, ⟨k0, k1'⟩, mnr, fun H18 e18 => ?_⟩
  exact q _ ((B7.le (by omega)).ex (e717.trans e18)) (kk.ex (e717.trans e18))
theorem mm3 (L : Int) : 1 ≤ (if (if L < 3 then L else 3) > 1 then (if L < 3 then L else 3) else 1) ∧ (if (if L < 3 then L else 3) > 1 then (if L < 3 then L else 3) else 1) ≤ 3 := by
  by_cases c : L < 3
  · rw [if_pos c]; split <;> omega
  · rw [if_neg c]; split <;> omega
def spLaw (K : PySem.W.Frag) : Sp := fun vs H Q _ => ∃ (a : Addr) (ns : List Int), vs = [.ref a] ∧ SqL K H a (ns.map V.int) ∧ ns.length ≤ 63 ∧ ∀ H', Q (.bl true) H'
theorem ok_law (T : TK K mg) : FnOk P w K mg base CX0 12 T.law.a T.law.fd ["script"] (spLaw K) := by
  refine T.law.F.ok sc_law (fun vs H Q E h => ?_) (fun cdv A0 outer s0 H vs Q E hr h => ?_)
  · obtain ⟨a, ns, rfl, _⟩ := h; rfl
  obtain ⟨a, ns, rfl, hS, h63, q⟩ := h
  refine ⟨_, (pss_cons (ps_set (i := 1) sc_law.nd rfl (Or.inl rfl) (pe_call (ok_law_parted T) (hr.mono (by decide)) rfl T.law_parted.m T.law_parted.F.kp T.law_parted.b .nil pass0 (pa_cons pe_int (pa_cons pe_int pa_nil))))
    (pss_cons (ps_for PassesOwn.never rfl (pi_range1 rfl T.z_range (pa_cons (pe_callB (call_max2 rfl) (by rfl) T.z_max (by decide +kernel) (pa_cons pe_int (pa_cons (pe_callB (call_min2 rfl) (by rfl) T.z_min (by decide +kernel) (pa_cons pe_int (pa_cons (pe_callB (klen K) (by rfl) T.z_len (by decide +kernel) (pa_cons (pv 0) pa_nil)) pa_nil))) pa_nil))) pa_nil)) (pg_name (i := 2) sc_law.nd rfl (Or.inl rfl)) (pss_cons (ps_set (i := 3) sc_law.nd rfl (Or.inl rfl) (pe_call (ok_law_box T.toTA1) (hr.mono (by decide)) rfl T.law_box.m T.law_box.F.kp T.law_box.b .nil pass0 (pa_cons (pe_call (ok_law_cell T.toTA1) (hr.mono (by decide)) rfl T.law_cell.m T.law_cell.F.kp T.law_cell.b .nil pass0 (pa_cons (pv 0) (pa_cons (pv 2) pa_nil))) pa_nil)))
    (pss_one (ps_if (PW.pt (pw_or (pt_not (pt_val (pe_call (ok_law_gather_right T) (hr.mono (by decide)) rfl T.law_gather_right.m T.law_gather_right.F.kp T.law_gather_right.b .nil pass0 (pa_cons (pv 3) (pa_cons (pv 1) pa_nil))))) (pw_or1 (pt_not (pt_val (pe_call (ok_law_spread_right T) (hr.mono (by decide)) rfl T.law_spread_right.m T.law_spread_right.F.kp T.law_spread_right.b .nil pass0 (pa_cons (pv 3) (pa_cons (pv 1) pa_nil)))))))) (pss_one (ps_ret pe_bl)) pss_nil))))
    (pss_one (ps_ret pe_bl)))), ?_⟩
  refine ⟨rfl, fun tr H0 e0 tb0 => ?_⟩
  have hS0 := ex_l e0 hS
  refine ⟨_, rfl, _, _, rfl, .inl ⟨_, hS0, rfl⟩, _, _, rfl, _, _, rfl, _, rfl, ?_, ?_, for_range (lo := 0) (n := _)
    (fun k σ H' => Ex H0 H' ∧ ∃ x2 x3, σ = [some (.ref a), some (.ref tr), x2, x3]) ⟨Ex.refl _, _, _, rfl⟩ ?_ ?_⟩
  · have := (mm3 ((ns.map V.int).length : Int)).1
    exact Int.le_trans (by decide) this
  · have := (mm3 ((ns.map V.int).length : Int)).2
    exact Int.lt_of_le_of_lt this (by decide)
  case refine_4 =>
    rintro σ H1 _
    exact q H1
  rintro k σ H1 hk ⟨e1, x2, x3, rfl⟩
  have hS1 := ex_l e1 hS0
  have hk3 : k ≤ 3 := by
    have := (mm3 ((ns.map V.int).length : Int)).2
    omega
  refine ⟨_, rfl, _, rfl, a, ns, _, rfl, hS1, by omega, by omega, fun v H2 e2 => ?_⟩
  refine ⟨v, rfl, fun b H3 hb0 e3 B3 => ?_⟩
  have E13 := e2.trans e3
  have b0 : H1 b = none := fresh_back e2 hb0
  have exb : ∀ {G G' : Hp}, Ex H1 G → But b G G' → Ex H1 G' := fun e k c o h => k c o (ne_of_none h b0) (e c o h)
  refine ⟨_, rfl, _, rfl, b, tr, 999980, rfl, B3, tb0.ex (e1.trans E13), fun H4 B4 k4 => ⟨true, rfl, iteF ?_⟩⟩
  have E14 := exb E13 k4
  refine ⟨_, rfl, _, rfl, b, tr, 999960, rfl, B4, tb0.ex (e1.trans E14), fun H5 B5 k5 => ⟨true, rfl, iteF ?_⟩⟩
  exact ⟨e1.trans (exb E14 k5), _, _, rfl⟩
end
end L2.U


set_option Elab.async false
set_option linter.all false
set_option maxRecDepth 100000
set_option maxHeartbeats 4000000
namespace L2.U
open PySem PySem.Spec PyProof.Rows Evl
theorem exm_of {K : PySem.W.Frag} {C D : Addr} {b : Bool} (h1 : PySem.W.subIn K (.ref D) (.type "BaseException") = some true) (h2 : PySem.W.isClsIn K D = true) (h3 : PySem.W.typeIn K (.ref D) = some (.type "type"))
    (h4 : PySem.W.subIn K (.ref C) (.ref D) = some b) : PySem.W.exmOne K (.ref C) (.ref D) = some b := by
  have h2' : (PySem.W.clsIn K D).isSome = true := h2
  unfold PySem.W.exmOne
  rw [h1, if_pos (by rfl)]
  unfold PySem.W.kitCls
  simp only [h2', h3, h4, beq_self_eq_true, Bool.and_self, if_true]
def mkDef {K : PySem.W.Frag} {h : Heap} {mg : Str → Option Value} (X : K.In h) (G : h.Ns mainGlobals mg) {x : Str} {st : Stmt} {ps : List Str} {f : Addr} {od an : Option Addr} {sl : Array (Option Value)} {oc kV dc pm cd ct : Value}
    (a : PySem.W.nsIn K mainGlobals x = some (some (.ref f))) (l : K.lookup f = some ⟨oc, od, .func (PySem.W.fnOf x x (defArgs st) (defBody st) (defScope st) .none kV dc pm an cd ct), sl⟩) (c : PySem.W.codeIn K cd x = true) (k : PySem.W.keepIn K (.ref f) = true)
    (h2 : ∀ (kV doc pm : Value) (an : Option Addr) (cdv ct : Value) (us : List Value), us.length = ps.length → bindArgs (PySem.W.fnOf x x (defArgs st) (defBody st) (defScope st) .none kV doc pm an cdv ct) ⟨us, []⟩ = pure (ps.zip us)) : DefAt K mg x st ps :=
  ⟨f, _, fun_mk (st := st) l c k, PySem.W.mg_of X G a, (fun_mk (st := st) l c k).binds h2⟩

theorem all_mk {l : PySem.W.OpenLaw} {w : World} {K : PySem.W.Frag} {h : Heap} {mg : Str → Option Value} {fa : Addr} (X : K.In h) (G : h.Ns mainGlobals mg) (hfa : mg "law" = some (.ref fa))
    {f1 : Addr} {od1 an1 : Option Addr} {sl1 : Array (Option Value)} {oc1 kV1 dc1 pm1 cd1 ct1 : Value}
    {f2 : Addr} {od2 an2 : Option Addr} {sl2 : Array (Option Value)} {oc2 kV2 dc2 pm2 cd2 ct2 : Value}
    {f3 : Addr} {od3 an3 : Option Addr} {sl3 : Array (Option Value)} {oc3 kV3 dc3 pm3 cd3 ct3 : Value}
    {f4 : Addr} {od4 an4 : Option Addr} {sl4 : Array (Option Value)} {oc4 kV4 dc4 pm4 cd4 ct4 : Value}
    {f5 : Addr} {od5 an5 : Option Addr} {sl5 : Array (Option Value)} {oc5 kV5 dc5 pm5 cd5 ct5 : Value}
    {f6 : Addr} {od6 an6 : Option Addr} {sl6 : Array (Option Value)} {oc6 kV6 dc6 pm6 cd6 ct6 : Value}
    {f7 : Addr} {od7 an7 : Option Addr} {sl7 : Array (Option Value)} {oc7 kV7 dc7 pm7 cd7 ct7 : Value}
    {f8 : Addr} {od8 an8 : Option Addr} {sl8 : Array (Option Value)} {oc8 kV8 dc8 pm8 cd8 ct8 : Value}
    {f9 : Addr} {od9 an9 : Option Addr} {sl9 : Array (Option Value)} {oc9 kV9 dc9 pm9 cd9 ct9 : Value}
    {f10 : Addr} {od10 an10 : Option Addr} {sl10 : Array (Option Value)} {oc10 kV10 dc10 pm10 cd10 ct10 : Value}
    {f11 : Addr} {od11 an11 : Option Addr} {sl11 : Array (Option Value)} {oc11 kV11 dc11 pm11 cd11 ct11 : Value}
    {f12 : Addr} {od12 an12 : Option Addr} {sl12 : Array (Option Value)} {oc12 kV12 dc12 pm12 cd12 ct12 : Value}
    {f13 : Addr} {od13 an13 : Option Addr} {sl13 : Array (Option Value)} {oc13 kV13 dc13 pm13 cd13 ct13 : Value}
    {f14 : Addr} {od14 an14 : Option Addr} {sl14 : Array (Option Value)} {oc14 kV14 dc14 pm14 cd14 ct14 : Value}
    {f15 : Addr} {od15 an15 : Option Addr} {sl15 : Array (Option Value)} {oc15 kV15 dc15 pm15 cd15 ct15 : Value}
    {f16 : Addr} {od16 an16 : Option Addr} {sl16 : Array (Option Value)} {oc16 kV16 dc16 pm16 cd16 ct16 : Value}
    {f17 : Addr} {od17 an17 : Option Addr} {sl17 : Array (Option Value)} {oc17 kV17 dc17 pm17 cd17 ct17 : Value}
    {f18 : Addr} {od18 an18 : Option Addr} {sl18 : Array (Option Value)} {oc18 kV18 dc18 pm18 cd18 ct18 : Value}
    {f19 : Addr} {od19 an19 : Option Addr} {sl19 : Array (Option Value)} {oc19 kV19 dc19 pm19 cd19 ct19 : Value}
    {f20 : Addr} {od20 an20 : Option Addr} {sl20 : Array (Option Value)} {oc20 kV20 dc20 pm20 cd20 ct20 : Value}
    {f21 : Addr} {od21 an21 : Option Addr} {sl21 : Array (Option Value)} {oc21 kV21 dc21 pm21 cd21 ct21 : Value}
    {f22 : Addr} {od22 an22 : Option Addr} {sl22 : Array (Option Value)} {oc22 kV22 dc22 pm22 cd22 ct22 : Value}
    {f23 : Addr} {od23 an23 : Option Addr} {sl23 : Array (Option Value)} {oc23 kV23 dc23 pm23 cd23 ct23 : Value}
    {f24 : Addr} {od24 an24 : Option Addr} {sl24 : Array (Option Value)} {oc24 kV24 dc24 pm24 cd24 ct24 : Value}
    {f25 : Addr} {od25 an25 : Option Addr} {sl25 : Array (Option Value)} {oc25 kV25 dc25 pm25 cd25 ct25 : Value}
    {f26 : Addr} {od26 an26 : Option Addr} {sl26 : Array (Option Value)} {oc26 kV26 dc26 pm26 cd26 ct26 : Value}
    {f27 : Addr} {od27 an27 : Option Addr} {sl27 : Array (Option Value)} {oc27 kV27 dc27 pm27 cd27 ct27 : Value}
    {f28 : Addr} {od28 an28 : Option Addr} {sl28 : Array (Option Value)} {oc28 kV28 dc28 pm28 cd28 ct28 : Value}
    {f29 : Addr} {od29 an29 : Option Addr} {sl29 : Array (Option Value)} {oc29 kV29 dc29 pm29 cd29 ct29 : Value}
    {f30 : Addr} {od30 an30 : Option Addr} {sl30 : Array (Option Value)} {oc30 kV30 dc30 pm30 cd30 ct30 : Value}
    {f31 : Addr} {od31 an31 : Option Addr} {sl31 : Array (Option Value)} {oc31 kV31 dc31 pm31 cd31 ct31 : Value}
    {f32 : Addr} {od32 an32 : Option Addr} {sl32 : Array (Option Value)} {oc32 kV32 dc32 pm32 cd32 ct32 : Value}
    {f33 : Addr} {od33 an33 : Option Addr} {sl33 : Array (Option Value)} {oc33 kV33 dc33 pm33 cd33 ct33 : Value}
    {f34 : Addr} {od34 an34 : Option Addr} {sl34 : Array (Option Value)} {oc34 kV34 dc34 pm34 cd34 ct34 : Value}
    {f35 : Addr} {od35 an35 : Option Addr} {sl35 : Array (Option Value)} {oc35 kV35 dc35 pm35 cd35 ct35 : Value}
    {f36 : Addr} {od36 an36 : Option Addr} {sl36 : Array (Option Value)} {oc36 kV36 dc36 pm36 cd36 ct36 : Value}
    {f37 : Addr} {od37 an37 : Option Addr} {sl37 : Array (Option Value)} {oc37 kV37 dc37 pm37 cd37 ct37 : Value}
    {f38 : Addr} {od38 an38 : Option Addr} {sl38 : Array (Option Value)} {oc38 kV38 dc38 pm38 cd38 ct38 : Value}
    {f39 : Addr} {od39 an39 : Option Addr} {sl39 : Array (Option Value)} {oc39 kV39 dc39 pm39 cd39 ct39 : Value}
    {f40 : Addr} {od40 an40 : Option Addr} {sl40 : Array (Option Value)} {oc40 kV40 dc40 pm40 cd40 ct40 : Value}
    {f41 : Addr} {od41 an41 : Option Addr} {sl41 : Array (Option Value)} {oc41 kV41 dc41 pm41 cd41 ct41 : Value}
    {t_HIGHEST : Tok}
    {t_MOST_KINDS_stars : Tok}
    {t_MOST_OTHERS : Tok}
    {t_MOST_NUMBERS : Tok}
    {t_GREATEST : Tok}
    {t_MOST_KINDS_rows : Tok}
    {CT : Addr}
    {CInvalidNumber NInvalidNumber fIInvalidNumber : Addr} {nmInvalidNumber qInvalidNumber : Str} {bsInvalidNumber : List Value} {snInvalidNumber : List Str} {subInvalidNumber : List Value} {abInvalidNumber : Bool} {colInvalidNumber : Option Bool} {ddInvalidNumber : Option Addr} {m0InvalidNumber m1InvalidNumber m2InvalidNumber m3InvalidNumber m5InvalidNumber : Option Value}
    {odInvalidNumber anInvalidNumber : Option Addr} {slInvalidNumber : Array (Option Value)} {ocInvalidNumber kVInvalidNumber dcInvalidNumber pmInvalidNumber cdInvalidNumber ctInvalidNumber : Value}
    {CInvalidMany NInvalidMany fIInvalidMany : Addr} {nmInvalidMany qInvalidMany : Str} {bsInvalidMany : List Value} {snInvalidMany : List Str} {subInvalidMany : List Value} {abInvalidMany : Bool} {colInvalidMany : Option Bool} {ddInvalidMany : Option Addr} {m0InvalidMany m1InvalidMany m2InvalidMany m3InvalidMany m5InvalidMany : Option Value}
    {odInvalidMany anInvalidMany : Option Addr} {slInvalidMany : Array (Option Value)} {ocInvalidMany kVInvalidMany dcInvalidMany pmInvalidMany cdInvalidMany ctInvalidMany : Value}
    {CInvalidParts NInvalidParts fIInvalidParts : Addr} {nmInvalidParts qInvalidParts : Str} {bsInvalidParts : List Value} {snInvalidParts : List Str} {subInvalidParts : List Value} {abInvalidParts : Bool} {colInvalidParts : Option Bool} {ddInvalidParts : Option Addr} {m0InvalidParts m1InvalidParts m2InvalidParts m3InvalidParts m5InvalidParts : Option Value}
    {odInvalidParts anInvalidParts : Option Addr} {slInvalidParts : Array (Option Value)} {ocInvalidParts kVInvalidParts dcInvalidParts pmInvalidParts cdInvalidParts ctInvalidParts : Value}
    {CInvalidRest NInvalidRest fIInvalidRest : Addr} {nmInvalidRest qInvalidRest : Str} {bsInvalidRest : List Value} {snInvalidRest : List Str} {subInvalidRest : List Value} {abInvalidRest : Bool} {colInvalidRest : Option Bool} {ddInvalidRest : Option Addr} {m0InvalidRest m1InvalidRest m2InvalidRest m3InvalidRest m5InvalidRest : Option Value}
    {odInvalidRest anInvalidRest : Option Addr} {slInvalidRest : Array (Option Value)} {ocInvalidRest kVInvalidRest dcInvalidRest pmInvalidRest cdInvalidRest ctInvalidRest : Value}
    (a1 : PySem.W.nsIn K mainGlobals "is_integer" = some (some (.ref f1)))
    (l1 : K.lookup f1 = some ⟨oc1, od1, .func (PySem.W.fnOf "is_integer" "is_integer" (defArgs s_is_integer) (defBody s_is_integer) (defScope s_is_integer) .none kV1 dc1 pm1 an1 cd1 ct1), sl1⟩)
    (c1 : PySem.W.codeIn K cd1 "is_integer" = true)
    (k1 : PySem.W.keepIn K (.ref f1) = true)
    (a2 : PySem.W.nsIn K mainGlobals "is_between" = some (some (.ref f2)))
    (l2 : K.lookup f2 = some ⟨oc2, od2, .func (PySem.W.fnOf "is_between" "is_between" (defArgs s_is_between) (defBody s_is_between) (defScope s_is_between) .none kV2 dc2 pm2 an2 cd2 ct2), sl2⟩)
    (c2 : PySem.W.codeIn K cd2 "is_between" = true)
    (k2 : PySem.W.keepIn K (.ref f2) = true)
    (a3 : PySem.W.nsIn K mainGlobals "is_from" = some (some (.ref f3)))
    (l3 : K.lookup f3 = some ⟨oc3, od3, .func (PySem.W.fnOf "is_from" "is_from" (defArgs s_is_from) (defBody s_is_from) (defScope s_is_from) .none kV3 dc3 pm3 an3 cd3 ct3), sl3⟩)
    (c3 : PySem.W.codeIn K cd3 "is_from" = true)
    (k3 : PySem.W.keepIn K (.ref f3) = true)
    (a4 : PySem.W.nsIn K mainGlobals "is_list" = some (some (.ref f4)))
    (l4 : K.lookup f4 = some ⟨oc4, od4, .func (PySem.W.fnOf "is_list" "is_list" (defArgs s_is_list) (defBody s_is_list) (defScope s_is_list) .none kV4 dc4 pm4 an4 cd4 ct4), sl4⟩)
    (c4 : PySem.W.codeIn K cd4 "is_list" = true)
    (k4 : PySem.W.keepIn K (.ref f4) = true)
    (a5 : PySem.W.nsIn K mainGlobals "are_from" = some (some (.ref f5)))
    (l5 : K.lookup f5 = some ⟨oc5, od5, .func (PySem.W.fnOf "are_from" "are_from" (defArgs s_are_from) (defBody s_are_from) (defScope s_are_from) .none kV5 dc5 pm5 an5 cd5 ct5), sl5⟩)
    (c5 : PySem.W.codeIn K cd5 "are_from" = true)
    (k5 : PySem.W.keepIn K (.ref f5) = true)
    (a6 : PySem.W.nsIn K mainGlobals "arrangements" = some (some (.ref f6)))
    (l6 : K.lookup f6 = some ⟨oc6, od6, .func (PySem.W.fnOf "arrangements" "arrangements" (defArgs s_arrangements) (defBody s_arrangements) (defScope s_arrangements) .none kV6 dc6 pm6 an6 cd6 ct6), sl6⟩)
    (c6 : PySem.W.codeIn K cd6 "arrangements" = true)
    (k6 : PySem.W.keepIn K (.ref f6) = true)
    (a7 : PySem.W.nsIn K mainGlobals "even_parts" = some (some (.ref f7)))
    (l7 : K.lookup f7 = some ⟨oc7, od7, .func (PySem.W.fnOf "even_parts" "even_parts" (defArgs s_even_parts) (defBody s_even_parts) (defScope s_even_parts) .none kV7 dc7 pm7 an7 cd7 ct7), sl7⟩)
    (c7 : PySem.W.codeIn K cd7 "even_parts" = true)
    (k7 : PySem.W.keepIn K (.ref f7) = true)
    (a8 : PySem.W.nsIn K mainGlobals "most_arranged" = some (some (.ref f8)))
    (l8 : K.lookup f8 = some ⟨oc8, od8, .func (PySem.W.fnOf "most_arranged" "most_arranged" (defArgs s_most_arranged) (defBody s_most_arranged) (defScope s_most_arranged) .none kV8 dc8 pm8 an8 cd8 ct8), sl8⟩)
    (c8 : PySem.W.codeIn K cd8 "most_arranged" = true)
    (k8 : PySem.W.keepIn K (.ref f8) = true)
    (a9 : PySem.W.nsIn K mainGlobals "_check_number" = some (some (.ref f9)))
    (l9 : K.lookup f9 = some ⟨oc9, od9, .func (PySem.W.fnOf "_check_number" "_check_number" (defArgs s_check_number) (defBody s_check_number) (defScope s_check_number) .none kV9 dc9 pm9 an9 cd9 ct9), sl9⟩)
    (c9 : PySem.W.codeIn K cd9 "_check_number" = true)
    (k9 : PySem.W.keepIn K (.ref f9) = true)
    (a10 : PySem.W.nsIn K mainGlobals "_check_many" = some (some (.ref f10)))
    (l10 : K.lookup f10 = some ⟨oc10, od10, .func (PySem.W.fnOf "_check_many" "_check_many" (defArgs s_check_many) (defBody s_check_many) (defScope s_check_many) .none kV10 dc10 pm10 an10 cd10 ct10), sl10⟩)
    (c10 : PySem.W.codeIn K cd10 "_check_many" = true)
    (k10 : PySem.W.keepIn K (.ref f10) = true)
    (a11 : PySem.W.nsIn K mainGlobals "are_between" = some (some (.ref f11)))
    (l11 : K.lookup f11 = some ⟨oc11, od11, .func (PySem.W.fnOf "are_between" "are_between" (defArgs s_are_between) (defBody s_are_between) (defScope s_are_between) .none kV11 dc11 pm11 an11 cd11 ct11), sl11⟩)
    (c11 : PySem.W.codeIn K cd11 "are_between" = true)
    (k11 : PySem.W.keepIn K (.ref f11) = true)
    (a12 : PySem.W.nsIn K mainGlobals "greatest_by" = some (some (.ref f12)))
    (l12 : K.lookup f12 = some ⟨oc12, od12, .func (PySem.W.fnOf "greatest_by" "greatest_by" (defArgs s_greatest_by) (defBody s_greatest_by) (defScope s_greatest_by) .none kV12 dc12 pm12 an12 cd12 ct12), sl12⟩)
    (c12 : PySem.W.codeIn K cd12 "greatest_by" = true)
    (k12 : PySem.W.keepIn K (.ref f12) = true)
    (a13 : PySem.W.nsIn K mainGlobals "gathered" = some (some (.ref f13)))
    (l13 : K.lookup f13 = some ⟨oc13, od13, .func (PySem.W.fnOf "gathered" "gathered" (defArgs s_gathered) (defBody s_gathered) (defScope s_gathered) .none kV13 dc13 pm13 an13 cd13 ct13), sl13⟩)
    (c13 : PySem.W.codeIn K cd13 "gathered" = true)
    (k13 : PySem.W.keepIn K (.ref f13) = true)
    (a14 : PySem.W.nsIn K mainGlobals "spread" = some (some (.ref f14)))
    (l14 : K.lookup f14 = some ⟨oc14, od14, .func (PySem.W.fnOf "spread" "spread" (defArgs s_spread) (defBody s_spread) (defScope s_spread) .none kV14 dc14 pm14 an14 cd14 ct14), sl14⟩)
    (c14 : PySem.W.codeIn K cd14 "spread" = true)
    (k14 : PySem.W.keepIn K (.ref f14) = true)
    (a15 : PySem.W.nsIn K mainGlobals "_are_numbers" = some (some (.ref f15)))
    (l15 : K.lookup f15 = some ⟨oc15, od15, .func (PySem.W.fnOf "_are_numbers" "_are_numbers" (defArgs s_are_numbers) (defBody s_are_numbers) (defScope s_are_numbers) .none kV15 dc15 pm15 an15 cd15 ct15), sl15⟩)
    (c15 : PySem.W.codeIn K cd15 "_are_numbers" = true)
    (k15 : PySem.W.keepIn K (.ref f15) = true)
    (a16 : PySem.W.nsIn K mainGlobals "can_tell" = some (some (.ref f16)))
    (l16 : K.lookup f16 = some ⟨oc16, od16, .func (PySem.W.fnOf "can_tell" "can_tell" (defArgs s_can_tell) (defBody s_can_tell) (defScope s_can_tell) .none kV16 dc16 pm16 an16 cd16 ct16), sl16⟩)
    (c16 : PySem.W.codeIn K cd16 "can_tell" = true)
    (k16 : PySem.W.keepIn K (.ref f16) = true)
    (a17 : PySem.W.nsIn K mainGlobals "is_row" = some (some (.ref f17)))
    (l17 : K.lookup f17 = some ⟨oc17, od17, .func (PySem.W.fnOf "is_row" "is_row" (defArgs s_is_row) (defBody s_is_row) (defScope s_is_row) .none kV17 dc17 pm17 an17 cd17 ct17), sl17⟩)
    (c17 : PySem.W.codeIn K cd17 "is_row" = true)
    (k17 : PySem.W.keepIn K (.ref f17) = true)
    (a18 : PySem.W.nsIn K mainGlobals "stairs_by" = some (some (.ref f18)))
    (l18 : K.lookup f18 = some ⟨oc18, od18, .func (PySem.W.fnOf "stairs_by" "stairs_by" (defArgs s_stairs_by) (defBody s_stairs_by) (defScope s_stairs_by) .none kV18 dc18 pm18 an18 cd18 ct18), sl18⟩)
    (c18 : PySem.W.codeIn K cd18 "stairs_by" = true)
    (k18 : PySem.W.keepIn K (.ref f18) = true)
    (a19 : PySem.W.nsIn K mainGlobals "_stair" = some (some (.ref f19)))
    (l19 : K.lookup f19 = some ⟨oc19, od19, .func (PySem.W.fnOf "_stair" "_stair" (defArgs s_stair) (defBody s_stair) (defScope s_stair) .none kV19 dc19 pm19 an19 cd19 ct19), sl19⟩)
    (c19 : PySem.W.codeIn K cd19 "_stair" = true)
    (k19 : PySem.W.keepIn K (.ref f19) = true)
    (a20 : PySem.W.nsIn K mainGlobals "_least" = some (some (.ref f20)))
    (l20 : K.lookup f20 = some ⟨oc20, od20, .func (PySem.W.fnOf "_least" "_least" (defArgs s_least) (defBody s_least) (defScope s_least) .none kV20 dc20 pm20 an20 cd20 ct20), sl20⟩)
    (c20 : PySem.W.codeIn K cd20 "_least" = true)
    (k20 : PySem.W.keepIn K (.ref f20) = true)
    (a21 : PySem.W.nsIn K mainGlobals "_need" = some (some (.ref f21)))
    (l21 : K.lookup f21 = some ⟨oc21, od21, .func (PySem.W.fnOf "_need" "_need" (defArgs s_need) (defBody s_need) (defScope s_need) .none kV21 dc21 pm21 an21 cd21 ct21), sl21⟩)
    (c21 : PySem.W.codeIn K cd21 "_need" = true)
    (k21 : PySem.W.keepIn K (.ref f21) = true)
    (a22 : PySem.W.nsIn K mainGlobals "_fewest_answers" = some (some (.ref f22)))
    (l22 : K.lookup f22 = some ⟨oc22, od22, .func (PySem.W.fnOf "_fewest_answers" "_fewest_answers" (defArgs s_fewest_answers) (defBody s_fewest_answers) (defScope s_fewest_answers) .none kV22 dc22 pm22 an22 cd22 ct22), sl22⟩)
    (c22 : PySem.W.codeIn K cd22 "_fewest_answers" = true)
    (k22 : PySem.W.keepIn K (.ref f22) = true)
    (a23 : PySem.W.nsIn K mainGlobals "told_by_kinds" = some (some (.ref f23)))
    (l23 : K.lookup f23 = some ⟨oc23, od23, .func (PySem.W.fnOf "told_by_kinds" "told_by_kinds" (defArgs s_told_by_kinds) (defBody s_told_by_kinds) (defScope s_told_by_kinds) .none kV23 dc23 pm23 an23 cd23 ct23), sl23⟩)
    (c23 : PySem.W.codeIn K cd23 "told_by_kinds" = true)
    (k23 : PySem.W.keepIn K (.ref f23) = true)
    (a24 : PySem.W.nsIn K mainGlobals "_told_by" = some (some (.ref f24)))
    (l24 : K.lookup f24 = some ⟨oc24, od24, .func (PySem.W.fnOf "_told_by" "_told_by" (defArgs s_told_by) (defBody s_told_by) (defScope s_told_by) .none kV24 dc24 pm24 an24 cd24 ct24), sl24⟩)
    (c24 : PySem.W.codeIn K cd24 "_told_by" = true)
    (k24 : PySem.W.keepIn K (.ref f24) = true)
    (a25 : PySem.W.nsIn K mainGlobals "check_row_and_kinds" = some (some (.ref f25)))
    (l25 : K.lookup f25 = some ⟨oc25, od25, .func (PySem.W.fnOf "check_row_and_kinds" "check_row_and_kinds" (defArgs s_check_row_and_kinds) (defBody s_check_row_and_kinds) (defScope s_check_row_and_kinds) .none kV25 dc25 pm25 an25 cd25 ct25), sl25⟩)
    (c25 : PySem.W.codeIn K cd25 "check_row_and_kinds" = true)
    (k25 : PySem.W.keepIn K (.ref f25) = true)
    (a26 : PySem.W.nsIn K mainGlobals "_check_row" = some (some (.ref f26)))
    (l26 : K.lookup f26 = some ⟨oc26, od26, .func (PySem.W.fnOf "_check_row" "_check_row" (defArgs s_check_row) (defBody s_check_row) (defScope s_check_row) .none kV26 dc26 pm26 an26 cd26 ct26), sl26⟩)
    (c26 : PySem.W.codeIn K cd26 "_check_row" = true)
    (k26 : PySem.W.keepIn K (.ref f26) = true)
    (a27 : PySem.W.nsIn K mainGlobals "_check_kinds" = some (some (.ref f27)))
    (l27 : K.lookup f27 = some ⟨oc27, od27, .func (PySem.W.fnOf "_check_kinds" "_check_kinds" (defArgs s_check_kinds) (defBody s_check_kinds) (defScope s_check_kinds) .none kV27 dc27 pm27 an27 cd27 ct27), sl27⟩)
    (c27 : PySem.W.codeIn K cd27 "_check_kinds" = true)
    (k27 : PySem.W.keepIn K (.ref f27) = true)
    (a28 : PySem.W.nsIn K mainGlobals "_law_cell" = some (some (.ref f28)))
    (l28 : K.lookup f28 = some ⟨oc28, od28, .func (PySem.W.fnOf "_law_cell" "_law_cell" (defArgs s_law_cell) (defBody s_law_cell) (defScope s_law_cell) .none kV28 dc28 pm28 an28 cd28 ct28), sl28⟩)
    (c28 : PySem.W.codeIn K cd28 "_law_cell" = true)
    (k28 : PySem.W.keepIn K (.ref f28) = true)
    (a29 : PySem.W.nsIn K mainGlobals "_law_box" = some (some (.ref f29)))
    (l29 : K.lookup f29 = some ⟨oc29, od29, .func (PySem.W.fnOf "_law_box" "_law_box" (defArgs s_law_box) (defBody s_law_box) (defScope s_law_box) .none kV29 dc29 pm29 an29 cd29 ct29), sl29⟩)
    (c29 : PySem.W.codeIn K cd29 "_law_box" = true)
    (k29 : PySem.W.keepIn K (.ref f29) = true)
    (a30 : PySem.W.nsIn K mainGlobals "_law_take" = some (some (.ref f30)))
    (l30 : K.lookup f30 = some ⟨oc30, od30, .func (PySem.W.fnOf "_law_take" "_law_take" (defArgs s_law_take) (defBody s_law_take) (defScope s_law_take) .none kV30 dc30 pm30 an30 cd30 ct30), sl30⟩)
    (c30 : PySem.W.codeIn K cd30 "_law_take" = true)
    (k30 : PySem.W.keepIn K (.ref f30) = true)
    (a31 : PySem.W.nsIn K mainGlobals "_law_same" = some (some (.ref f31)))
    (l31 : K.lookup f31 = some ⟨oc31, od31, .func (PySem.W.fnOf "_law_same" "_law_same" (defArgs s_law_same) (defBody s_law_same) (defScope s_law_same) .none kV31 dc31 pm31 an31 cd31 ct31), sl31⟩)
    (c31 : PySem.W.codeIn K cd31 "_law_same" = true)
    (k31 : PySem.W.keepIn K (.ref f31) = true)
    (a32 : PySem.W.nsIn K mainGlobals "_law_choose" = some (some (.ref f32)))
    (l32 : K.lookup f32 = some ⟨oc32, od32, .func (PySem.W.fnOf "_law_choose" "_law_choose" (defArgs s_law_choose) (defBody s_law_choose) (defScope s_law_choose) .none kV32 dc32 pm32 an32 cd32 ct32), sl32⟩)
    (c32 : PySem.W.codeIn K cd32 "_law_choose" = true)
    (k32 : PySem.W.keepIn K (.ref f32) = true)
    (a33 : PySem.W.nsIn K mainGlobals "_law_parted" = some (some (.ref f33)))
    (l33 : K.lookup f33 = some ⟨oc33, od33, .func (PySem.W.fnOf "_law_parted" "_law_parted" (defArgs s_law_parted) (defBody s_law_parted) (defScope s_law_parted) .none kV33 dc33 pm33 an33 cd33 ct33), sl33⟩)
    (c33 : PySem.W.codeIn K cd33 "_law_parted" = true)
    (k33 : PySem.W.keepIn K (.ref f33) = true)
    (a34 : PySem.W.nsIn K mainGlobals "_law_count" = some (some (.ref f34)))
    (l34 : K.lookup f34 = some ⟨oc34, od34, .func (PySem.W.fnOf "_law_count" "_law_count" (defArgs s_law_count) (defBody s_law_count) (defScope s_law_count) .none kV34 dc34 pm34 an34 cd34 ct34), sl34⟩)
    (c34 : PySem.W.codeIn K cd34 "_law_count" = true)
    (k34 : PySem.W.keepIn K (.ref f34) = true)
    (a35 : PySem.W.nsIn K mainGlobals "_law_counts" = some (some (.ref f35)))
    (l35 : K.lookup f35 = some ⟨oc35, od35, .func (PySem.W.fnOf "_law_counts" "_law_counts" (defArgs s_law_counts) (defBody s_law_counts) (defScope s_law_counts) .none kV35 dc35 pm35 an35 cd35 ct35), sl35⟩)
    (c35 : PySem.W.codeIn K cd35 "_law_counts" = true)
    (k35 : PySem.W.keepIn K (.ref f35) = true)
    (a36 : PySem.W.nsIn K mainGlobals "_law_gather_told" = some (some (.ref f36)))
    (l36 : K.lookup f36 = some ⟨oc36, od36, .func (PySem.W.fnOf "_law_gather_told" "_law_gather_told" (defArgs s_law_gather_told) (defBody s_law_gather_told) (defScope s_law_gather_told) .none kV36 dc36 pm36 an36 cd36 ct36), sl36⟩)
    (c36 : PySem.W.codeIn K cd36 "_law_gather_told" = true)
    (k36 : PySem.W.keepIn K (.ref f36) = true)
    (a37 : PySem.W.nsIn K mainGlobals "_law_spread_told" = some (some (.ref f37)))
    (l37 : K.lookup f37 = some ⟨oc37, od37, .func (PySem.W.fnOf "_law_spread_told" "_law_spread_told" (defArgs s_law_spread_told) (defBody s_law_spread_told) (defScope s_law_spread_told) .none kV37 dc37 pm37 an37 cd37 ct37), sl37⟩)
    (c37 : PySem.W.codeIn K cd37 "_law_spread_told" = true)
    (k37 : PySem.W.keepIn K (.ref f37) = true)
    (a38 : PySem.W.nsIn K mainGlobals "_law_line_right" = some (some (.ref f38)))
    (l38 : K.lookup f38 = some ⟨oc38, od38, .func (PySem.W.fnOf "_law_line_right" "_law_line_right" (defArgs s_law_line_right) (defBody s_law_line_right) (defScope s_law_line_right) .none kV38 dc38 pm38 an38 cd38 ct38), sl38⟩)
    (c38 : PySem.W.codeIn K cd38 "_law_line_right" = true)
    (k38 : PySem.W.keepIn K (.ref f38) = true)
    (a39 : PySem.W.nsIn K mainGlobals "_law_gather_right" = some (some (.ref f39)))
    (l39 : K.lookup f39 = some ⟨oc39, od39, .func (PySem.W.fnOf "_law_gather_right" "_law_gather_right" (defArgs s_law_gather_right) (defBody s_law_gather_right) (defScope s_law_gather_right) .none kV39 dc39 pm39 an39 cd39 ct39), sl39⟩)
    (c39 : PySem.W.codeIn K cd39 "_law_gather_right" = true)
    (k39 : PySem.W.keepIn K (.ref f39) = true)
    (a40 : PySem.W.nsIn K mainGlobals "_law_spread_right" = some (some (.ref f40)))
    (l40 : K.lookup f40 = some ⟨oc40, od40, .func (PySem.W.fnOf "_law_spread_right" "_law_spread_right" (defArgs s_law_spread_right) (defBody s_law_spread_right) (defScope s_law_spread_right) .none kV40 dc40 pm40 an40 cd40 ct40), sl40⟩)
    (c40 : PySem.W.codeIn K cd40 "_law_spread_right" = true)
    (k40 : PySem.W.keepIn K (.ref f40) = true)
    (a41 : PySem.W.nsIn K mainGlobals "law" = some (some (.ref f41)))
    (l41 : K.lookup f41 = some ⟨oc41, od41, .func (PySem.W.fnOf "law" "law" (defArgs s_law) (defBody s_law) (defScope s_law) .none kV41 dc41 pm41 an41 cd41 ct41), sl41⟩)
    (c41 : PySem.W.codeIn K cd41 "law" = true)
    (k41 : PySem.W.keepIn K (.ref f41) = true)
    (z_int : PySem.W.nsIn K mainGlobals "int" = some none)
    (z_bool : PySem.W.nsIn K mainGlobals "bool" = some none)
    (z_str : PySem.W.nsIn K mainGlobals "str" = some none)
    (z_list : PySem.W.nsIn K mainGlobals "list" = some none)
    (z_tuple : PySem.W.nsIn K mainGlobals "tuple" = some none)
    (z_len : PySem.W.nsIn K mainGlobals "len" = some none)
    (z_sum : PySem.W.nsIn K mainGlobals "sum" = some none)
    (z_abs : PySem.W.nsIn K mainGlobals "abs" = some none)
    (z_all : PySem.W.nsIn K mainGlobals "all" = some none)
    (z_range : PySem.W.nsIn K mainGlobals "range" = some none)
    (z_isinstance : PySem.W.nsIn K mainGlobals "isinstance" = some none)
    (z_max : PySem.W.nsIn K mainGlobals "max" = some none)
    (z_min : PySem.W.nsIn K mainGlobals "min" = some none)
    (z_enumerate : PySem.W.nsIn K mainGlobals "enumerate" = some none)
    (c_HIGHEST : PySem.W.nsIn K mainGlobals "HIGHEST" = some (some (.int 64 t_HIGHEST)))
    (c_MOST_KINDS_stars : PySem.W.nsIn K mainGlobals "MOST_KINDS_stars" = some (some (.int 8 t_MOST_KINDS_stars)))
    (c_MOST_OTHERS : PySem.W.nsIn K mainGlobals "MOST_OTHERS" = some (some (.int 4 t_MOST_OTHERS)))
    (c_MOST_NUMBERS : PySem.W.nsIn K mainGlobals "MOST_NUMBERS" = some (some (.int 16 t_MOST_NUMBERS)))
    (c_GREATEST : PySem.W.nsIn K mainGlobals "GREATEST" = some (some (.int 100000000000000000000000000000000000000000000000000 t_GREATEST)))
    (c_MOST_KINDS_rows : PySem.W.nsIn K mainGlobals "MOST_KINDS_rows" = some (some (.int 16 t_MOST_KINDS_rows)))
    (c_comb : PySem.W.nsIn K mainGlobals "comb" = some (some (.builtin "math.comb")))
    (aCT : PySem.W.nsIn K mainGlobals "TalkError" = some (some (.ref CT)))
    (aCInvalidNumber : PySem.W.nsIn K mainGlobals "InvalidNumber" = some (some (.ref CInvalidNumber)))
    (xLInvalidNumber : K.lookup CInvalidNumber = some (excClassObj nmInvalidNumber qInvalidNumber CInvalidNumber NInvalidNumber bsInvalidNumber [.ref CT, .type "ValueError", .type "Exception", .type "BaseException", .type "object"] true snInvalidNumber subInvalidNumber abInvalidNumber colInvalidNumber ddInvalidNumber m0InvalidNumber m1InvalidNumber m2InvalidNumber m3InvalidNumber m5InvalidNumber "ValueError.__new__"))
    (saInvalidNumber : PySem.W.findIn K (.ref CInvalidNumber) "__setattr__" = some (some (.builtin "object.__setattr__")))
    (gaInvalidNumber : PySem.W.findIn K (.ref CInvalidNumber) "__getattribute__" = some (some (.builtin "BaseException.__getattribute__")))
    (ggInvalidNumber : PySem.W.findIn K (.ref CInvalidNumber) "__getattr__" = some none)
    (nbInvalidNumber : PySem.W.findIn K (.ref CInvalidNumber) "given" = some none)
    (iCInvalidNumber : PySem.W.findIn K (.ref CInvalidNumber) "__init__" = some (some (.ref fIInvalidNumber)))
    (tIInvalidNumber : PySem.W.typeIn K (.ref fIInvalidNumber) = some (.type "function"))
    (lIInvalidNumber : K.lookup fIInvalidNumber = some ⟨ocInvalidNumber, odInvalidNumber, .func (PySem.W.fnOf "__init__" "InvalidNumber.__init__" (defArgs s_init_InvalidNumber) (defBody s_init_InvalidNumber) (defScope s_init_InvalidNumber) .none kVInvalidNumber dcInvalidNumber pmInvalidNumber anInvalidNumber cdInvalidNumber ctInvalidNumber), slInvalidNumber⟩)
    (cIInvalidNumber : PySem.W.codeIn K cdInvalidNumber "InvalidNumber.__init__" = true)
    (kIInvalidNumber : PySem.W.keepIn K (.ref fIInvalidNumber) = true)
    (kCInvalidNumber : PySem.W.keepIn K (.ref CInvalidNumber) = true)
    (eCInvalidNumber : PySem.W.subIn K (.ref CInvalidNumber) (.type "BaseException") = some true)
    (tCInvalidNumber : PySem.W.typeIn K (.ref CInvalidNumber) = some (.type "type"))
    (hCInvalidNumber : PySem.W.hasDictIn K CInvalidNumber = true)
    (iSInvalidNumber : PySem.W.isClsIn K CInvalidNumber = true)
    (aCInvalidMany : PySem.W.nsIn K mainGlobals "InvalidMany" = some (some (.ref CInvalidMany)))
    (xLInvalidMany : K.lookup CInvalidMany = some (excClassObj nmInvalidMany qInvalidMany CInvalidMany NInvalidMany bsInvalidMany [.ref CT, .type "ValueError", .type "Exception", .type "BaseException", .type "object"] true snInvalidMany subInvalidMany abInvalidMany colInvalidMany ddInvalidMany m0InvalidMany m1InvalidMany m2InvalidMany m3InvalidMany m5InvalidMany "ValueError.__new__"))
    (saInvalidMany : PySem.W.findIn K (.ref CInvalidMany) "__setattr__" = some (some (.builtin "object.__setattr__")))
    (gaInvalidMany : PySem.W.findIn K (.ref CInvalidMany) "__getattribute__" = some (some (.builtin "BaseException.__getattribute__")))
    (ggInvalidMany : PySem.W.findIn K (.ref CInvalidMany) "__getattr__" = some none)
    (nbInvalidMany : PySem.W.findIn K (.ref CInvalidMany) "given" = some none)
    (iCInvalidMany : PySem.W.findIn K (.ref CInvalidMany) "__init__" = some (some (.ref fIInvalidMany)))
    (tIInvalidMany : PySem.W.typeIn K (.ref fIInvalidMany) = some (.type "function"))
    (lIInvalidMany : K.lookup fIInvalidMany = some ⟨ocInvalidMany, odInvalidMany, .func (PySem.W.fnOf "__init__" "InvalidMany.__init__" (defArgs s_init_InvalidMany) (defBody s_init_InvalidMany) (defScope s_init_InvalidMany) .none kVInvalidMany dcInvalidMany pmInvalidMany anInvalidMany cdInvalidMany ctInvalidMany), slInvalidMany⟩)
    (cIInvalidMany : PySem.W.codeIn K cdInvalidMany "InvalidMany.__init__" = true)
    (kIInvalidMany : PySem.W.keepIn K (.ref fIInvalidMany) = true)
    (kCInvalidMany : PySem.W.keepIn K (.ref CInvalidMany) = true)
    (eCInvalidMany : PySem.W.subIn K (.ref CInvalidMany) (.type "BaseException") = some true)
    (tCInvalidMany : PySem.W.typeIn K (.ref CInvalidMany) = some (.type "type"))
    (hCInvalidMany : PySem.W.hasDictIn K CInvalidMany = true)
    (iSInvalidMany : PySem.W.isClsIn K CInvalidMany = true)
    (aCInvalidParts : PySem.W.nsIn K mainGlobals "InvalidParts" = some (some (.ref CInvalidParts)))
    (xLInvalidParts : K.lookup CInvalidParts = some (excClassObj nmInvalidParts qInvalidParts CInvalidParts NInvalidParts bsInvalidParts [.ref CT, .type "ValueError", .type "Exception", .type "BaseException", .type "object"] true snInvalidParts subInvalidParts abInvalidParts colInvalidParts ddInvalidParts m0InvalidParts m1InvalidParts m2InvalidParts m3InvalidParts m5InvalidParts "ValueError.__new__"))
    (saInvalidParts : PySem.W.findIn K (.ref CInvalidParts) "__setattr__" = some (some (.builtin "object.__setattr__")))
    (gaInvalidParts : PySem.W.findIn K (.ref CInvalidParts) "__getattribute__" = some (some (.builtin "BaseException.__getattribute__")))
    (ggInvalidParts : PySem.W.findIn K (.ref CInvalidParts) "__getattr__" = some none)
    (nbInvalidParts : PySem.W.findIn K (.ref CInvalidParts) "given" = some none)
    (iCInvalidParts : PySem.W.findIn K (.ref CInvalidParts) "__init__" = some (some (.ref fIInvalidParts)))
    (tIInvalidParts : PySem.W.typeIn K (.ref fIInvalidParts) = some (.type "function"))
    (lIInvalidParts : K.lookup fIInvalidParts = some ⟨ocInvalidParts, odInvalidParts, .func (PySem.W.fnOf "__init__" "InvalidParts.__init__" (defArgs s_init_InvalidParts) (defBody s_init_InvalidParts) (defScope s_init_InvalidParts) .none kVInvalidParts dcInvalidParts pmInvalidParts anInvalidParts cdInvalidParts ctInvalidParts), slInvalidParts⟩)
    (cIInvalidParts : PySem.W.codeIn K cdInvalidParts "InvalidParts.__init__" = true)
    (kIInvalidParts : PySem.W.keepIn K (.ref fIInvalidParts) = true)
    (kCInvalidParts : PySem.W.keepIn K (.ref CInvalidParts) = true)
    (eCInvalidParts : PySem.W.subIn K (.ref CInvalidParts) (.type "BaseException") = some true)
    (tCInvalidParts : PySem.W.typeIn K (.ref CInvalidParts) = some (.type "type"))
    (hCInvalidParts : PySem.W.hasDictIn K CInvalidParts = true)
    (iSInvalidParts : PySem.W.isClsIn K CInvalidParts = true)
    (aCInvalidRest : PySem.W.nsIn K mainGlobals "InvalidRest" = some (some (.ref CInvalidRest)))
    (xLInvalidRest : K.lookup CInvalidRest = some (excClassObj nmInvalidRest qInvalidRest CInvalidRest NInvalidRest bsInvalidRest [.ref CT, .type "ValueError", .type "Exception", .type "BaseException", .type "object"] true snInvalidRest subInvalidRest abInvalidRest colInvalidRest ddInvalidRest m0InvalidRest m1InvalidRest m2InvalidRest m3InvalidRest m5InvalidRest "ValueError.__new__"))
    (saInvalidRest : PySem.W.findIn K (.ref CInvalidRest) "__setattr__" = some (some (.builtin "object.__setattr__")))
    (gaInvalidRest : PySem.W.findIn K (.ref CInvalidRest) "__getattribute__" = some (some (.builtin "BaseException.__getattribute__")))
    (ggInvalidRest : PySem.W.findIn K (.ref CInvalidRest) "__getattr__" = some none)
    (nbInvalidRest : PySem.W.findIn K (.ref CInvalidRest) "given" = some none)
    (iCInvalidRest : PySem.W.findIn K (.ref CInvalidRest) "__init__" = some (some (.ref fIInvalidRest)))
    (tIInvalidRest : PySem.W.typeIn K (.ref fIInvalidRest) = some (.type "function"))
    (lIInvalidRest : K.lookup fIInvalidRest = some ⟨ocInvalidRest, odInvalidRest, .func (PySem.W.fnOf "__init__" "InvalidRest.__init__" (defArgs s_init_InvalidRest) (defBody s_init_InvalidRest) (defScope s_init_InvalidRest) .none kVInvalidRest dcInvalidRest pmInvalidRest anInvalidRest cdInvalidRest ctInvalidRest), slInvalidRest⟩)
    (cIInvalidRest : PySem.W.codeIn K cdInvalidRest "InvalidRest.__init__" = true)
    (kIInvalidRest : PySem.W.keepIn K (.ref fIInvalidRest) = true)
    (kCInvalidRest : PySem.W.keepIn K (.ref CInvalidRest) = true)
    (eCInvalidRest : PySem.W.subIn K (.ref CInvalidRest) (.type "BaseException") = some true)
    (tCInvalidRest : PySem.W.typeIn K (.ref CInvalidRest) = some (.type "type"))
    (hCInvalidRest : PySem.W.hasDictIn K CInvalidRest = true)
    (iSInvalidRest : PySem.W.isClsIn K CInvalidRest = true) :
    ∃ fd : FuncData, (∀ (s : Shared) (v : Value), BindsTo s fd ⟨[v], []⟩ [("script", v)]) ∧ ∀ base : Heap, K.In base → base.Ns mainGlobals mg → FnOk l.prog w K mg base CX0 12 fa fd ["script"] (spLaw K) := by
  have e := hfa.symm.trans (PySem.W.mg_of X G a41)
  cases e
  let T : TK K mg := {
    is_integer := mkDef X G a1 l1 c1 k1 (fun _ _ _ _ _ _ us hl => match us, hl with | [_], _ => rfl)
    is_between := mkDef X G a2 l2 c2 k2 (fun _ _ _ _ _ _ us hl => match us, hl with | [_, _, _], _ => rfl)
    is_from := mkDef X G a3 l3 c3 k3 (fun _ _ _ _ _ _ us hl => match us, hl with | [_, _], _ => rfl)
    is_list := mkDef X G a4 l4 c4 k4 (fun _ _ _ _ _ _ us hl => match us, hl with | [_], _ => rfl)
    are_from := mkDef X G a5 l5 c5 k5 (fun _ _ _ _ _ _ us hl => match us, hl with | [_, _], _ => rfl)
    arrangements := mkDef X G a6 l6 c6 k6 (fun _ _ _ _ _ _ us hl => match us, hl with | [_], _ => rfl)
    even_parts := mkDef X G a7 l7 c7 k7 (fun _ _ _ _ _ _ us hl => match us, hl with | [_, _], _ => rfl)
    most_arranged := mkDef X G a8 l8 c8 k8 (fun _ _ _ _ _ _ us hl => match us, hl with | [_, _, _], _ => rfl)
    check_number := mkDef X G a9 l9 c9 k9 (fun _ _ _ _ _ _ us hl => match us, hl with | [_], _ => rfl)
    check_many := mkDef X G a10 l10 c10 k10 (fun _ _ _ _ _ _ us hl => match us, hl with | [_], _ => rfl)
    are_between := mkDef X G a11 l11 c11 k11 (fun _ _ _ _ _ _ us hl => match us, hl with | [_, _, _], _ => rfl)
    greatest_by := mkDef X G a12 l12 c12 k12 (fun _ _ _ _ _ _ us hl => match us, hl with | [_, _], _ => rfl)
    gathered := mkDef X G a13 l13 c13 k13 (fun _ _ _ _ _ _ us hl => match us, hl with | [_, _], _ => rfl)
    spread := mkDef X G a14 l14 c14 k14 (fun _ _ _ _ _ _ us hl => match us, hl with | [_, _], _ => rfl)
    are_numbers := mkDef X G a15 l15 c15 k15 (fun _ _ _ _ _ _ us hl => match us, hl with | [_, _], _ => rfl)
    can_tell := mkDef X G a16 l16 c16 k16 (fun _ _ _ _ _ _ us hl => match us, hl with | [_, _, _], _ => rfl)
    is_row := mkDef X G a17 l17 c17 k17 (fun _ _ _ _ _ _ us hl => match us, hl with | [_], _ => rfl)
    stairs_by := mkDef X G a18 l18 c18 k18 (fun _ _ _ _ _ _ us hl => match us, hl with | [_, _], _ => rfl)
    stair := mkDef X G a19 l19 c19 k19 (fun _ _ _ _ _ _ us hl => match us, hl with | [_, _, _], _ => rfl)
    least := mkDef X G a20 l20 c20 k20 (fun _ _ _ _ _ _ us hl => match us, hl with | [_, _, _], _ => rfl)
    need := mkDef X G a21 l21 c21 k21 (fun _ _ _ _ _ _ us hl => match us, hl with | [_, _], _ => rfl)
    fewest_answers := mkDef X G a22 l22 c22 k22 (fun _ _ _ _ _ _ us hl => match us, hl with | [_, _], _ => rfl)
    told_by_kinds := mkDef X G a23 l23 c23 k23 (fun _ _ _ _ _ _ us hl => match us, hl with | [_], _ => rfl)
    told_by := mkDef X G a24 l24 c24 k24 (fun _ _ _ _ _ _ us hl => match us, hl with | [_, _], _ => rfl)
    check_row_and_kinds := mkDef X G a25 l25 c25 k25 (fun _ _ _ _ _ _ us hl => match us, hl with | [_, _, _], _ => rfl)
    check_row := mkDef X G a26 l26 c26 k26 (fun _ _ _ _ _ _ us hl => match us, hl with | [_], _ => rfl)
    check_kinds := mkDef X G a27 l27 c27 k27 (fun _ _ _ _ _ _ us hl => match us, hl with | [_, _], _ => rfl)
    law_cell := mkDef X G a28 l28 c28 k28 (fun _ _ _ _ _ _ us hl => match us, hl with | [_, _], _ => rfl)
    law_box := mkDef X G a29 l29 c29 k29 (fun _ _ _ _ _ _ us hl => match us, hl with | [_], _ => rfl)
    law_take := mkDef X G a30 l30 c30 k30 (fun _ _ _ _ _ _ us hl => match us, hl with | [_, _], _ => rfl)
    law_same := mkDef X G a31 l31 c31 k31 (fun _ _ _ _ _ _ us hl => match us, hl with | [_, _], _ => rfl)
    law_choose := mkDef X G a32 l32 c32 k32 (fun _ _ _ _ _ _ us hl => match us, hl with | [_, _], _ => rfl)
    law_parted := mkDef X G a33 l33 c33 k33 (fun _ _ _ _ _ _ us hl => match us, hl with | [_, _], _ => rfl)
    law_count := mkDef X G a34 l34 c34 k34 (fun _ _ _ _ _ _ us hl => match us, hl with | [_, _], _ => rfl)
    law_counts := mkDef X G a35 l35 c35 k35 (fun _ _ _ _ _ _ us hl => match us, hl with | [_, _], _ => rfl)
    law_gather_told := mkDef X G a36 l36 c36 k36 (fun _ _ _ _ _ _ us hl => match us, hl with | [_, _, _], _ => rfl)
    law_spread_told := mkDef X G a37 l37 c37 k37 (fun _ _ _ _ _ _ us hl => match us, hl with | [_, _, _], _ => rfl)
    law_line_right := mkDef X G a38 l38 c38 k38 (fun _ _ _ _ _ _ us hl => match us, hl with | [_, _, _], _ => rfl)
    law_gather_right := mkDef X G a39 l39 c39 k39 (fun _ _ _ _ _ _ us hl => match us, hl with | [_, _], _ => rfl)
    law_spread_right := mkDef X G a40 l40 c40 k40 (fun _ _ _ _ _ _ us hl => match us, hl with | [_, _], _ => rfl)
    law := mkDef X G a41 l41 c41 k41 (fun _ _ _ _ _ _ us hl => match us, hl with | [_], _ => rfl)
    z_int := PySem.W.mg_none_of X G z_int
    z_bool := PySem.W.mg_none_of X G z_bool
    z_str := PySem.W.mg_none_of X G z_str
    z_list := PySem.W.mg_none_of X G z_list
    z_tuple := PySem.W.mg_none_of X G z_tuple
    z_len := PySem.W.mg_none_of X G z_len
    z_sum := PySem.W.mg_none_of X G z_sum
    z_abs := PySem.W.mg_none_of X G z_abs
    z_all := PySem.W.mg_none_of X G z_all
    z_range := PySem.W.mg_none_of X G z_range
    z_isinstance := PySem.W.mg_none_of X G z_isinstance
    z_max := PySem.W.mg_none_of X G z_max
    z_min := PySem.W.mg_none_of X G z_min
    z_enumerate := PySem.W.mg_none_of X G z_enumerate
    t_HIGHEST := t_HIGHEST
    c_HIGHEST := PySem.W.mg_of X G c_HIGHEST
    t_MOST_KINDS_stars := t_MOST_KINDS_stars
    c_MOST_KINDS_stars := PySem.W.mg_of X G c_MOST_KINDS_stars
    t_MOST_OTHERS := t_MOST_OTHERS
    c_MOST_OTHERS := PySem.W.mg_of X G c_MOST_OTHERS
    t_MOST_NUMBERS := t_MOST_NUMBERS
    c_MOST_NUMBERS := PySem.W.mg_of X G c_MOST_NUMBERS
    t_GREATEST := t_GREATEST
    c_GREATEST := PySem.W.mg_of X G c_GREATEST
    t_MOST_KINDS_rows := t_MOST_KINDS_rows
    c_MOST_KINDS_rows := PySem.W.mg_of X G c_MOST_KINDS_rows
    c_comb := PySem.W.mg_of X G c_comb
    TalkError_C := CT
    TalkError_gC := PySem.W.mg_of X G aCT
    InvalidNumber := ⟨CInvalidNumber, fIInvalidNumber, _, fun_mk (st := s_init_InvalidNumber) lIInvalidNumber cIInvalidNumber kIInvalidNumber, (fun_mk (st := s_init_InvalidNumber) lIInvalidNumber cIInvalidNumber kIInvalidNumber).binds (ps := ["self", "given"]) fun _ _ _ _ _ _ us hl => match us, hl with | [_, _], _ => rfl, ⟨⟨_, _, _, _, _, _, _, _, _, _, _, _, _, _, _, xLInvalidNumber, rfl⟩, saInvalidNumber, eCInvalidNumber, tCInvalidNumber, kCInvalidNumber⟩, iCInvalidNumber, tIInvalidNumber, PySem.W.mg_of X G aCInvalidNumber, nbInvalidNumber, ⟨gaInvalidNumber, ggInvalidNumber, eCInvalidNumber, hCInvalidNumber⟩⟩
    InvalidMany := ⟨CInvalidMany, fIInvalidMany, _, fun_mk (st := s_init_InvalidMany) lIInvalidMany cIInvalidMany kIInvalidMany, (fun_mk (st := s_init_InvalidMany) lIInvalidMany cIInvalidMany kIInvalidMany).binds (ps := ["self", "given"]) fun _ _ _ _ _ _ us hl => match us, hl with | [_, _], _ => rfl, ⟨⟨_, _, _, _, _, _, _, _, _, _, _, _, _, _, _, xLInvalidMany, rfl⟩, saInvalidMany, eCInvalidMany, tCInvalidMany, kCInvalidMany⟩, iCInvalidMany, tIInvalidMany, PySem.W.mg_of X G aCInvalidMany, nbInvalidMany, ⟨gaInvalidMany, ggInvalidMany, eCInvalidMany, hCInvalidMany⟩⟩
    InvalidParts := ⟨CInvalidParts, fIInvalidParts, _, fun_mk (st := s_init_InvalidParts) lIInvalidParts cIInvalidParts kIInvalidParts, (fun_mk (st := s_init_InvalidParts) lIInvalidParts cIInvalidParts kIInvalidParts).binds (ps := ["self", "given"]) fun _ _ _ _ _ _ us hl => match us, hl with | [_, _], _ => rfl, ⟨⟨_, _, _, _, _, _, _, _, _, _, _, _, _, _, _, xLInvalidParts, rfl⟩, saInvalidParts, eCInvalidParts, tCInvalidParts, kCInvalidParts⟩, iCInvalidParts, tIInvalidParts, PySem.W.mg_of X G aCInvalidParts, nbInvalidParts, ⟨gaInvalidParts, ggInvalidParts, eCInvalidParts, hCInvalidParts⟩⟩
    InvalidRest := ⟨CInvalidRest, fIInvalidRest, _, fun_mk (st := s_init_InvalidRest) lIInvalidRest cIInvalidRest kIInvalidRest, (fun_mk (st := s_init_InvalidRest) lIInvalidRest cIInvalidRest kIInvalidRest).binds (ps := ["self", "given"]) fun _ _ _ _ _ _ us hl => match us, hl with | [_, _], _ => rfl, ⟨⟨_, _, _, _, _, _, _, _, _, _, _, _, _, _, _, xLInvalidRest, rfl⟩, saInvalidRest, eCInvalidRest, tCInvalidRest, kCInvalidRest⟩, iCInvalidRest, tIInvalidRest, PySem.W.mg_of X G aCInvalidRest, nbInvalidRest, ⟨gaInvalidRest, ggInvalidRest, eCInvalidRest, hCInvalidRest⟩⟩
    kb_gathered_answers_kinds := kb21 (fun_mk (st := s_gathered) l13 c13 k13) fun _ _ _ _ _ _ _ _ => rfl
    kb_spread_answers_kinds := kb21 (fun_mk (st := s_spread) l14 c14 k14) fun _ _ _ _ _ _ _ _ => rfl
    kb_can_tell_other_own_row := kb321 (fun_mk (st := s_can_tell) l16 c16 k16) fun _ _ _ _ _ _ _ _ _ => rfl }
  exact ⟨PySem.W.fnOf "law" "law" (defArgs s_law) (defBody s_law) (defScope s_law) .none kV41 dc41 pm41 an41 cd41 ct41, fun s v => .of_eq rfl, fun base _ _ => ok_law T⟩
theorem walk {l : PySem.W.OpenLaw} {q : Program} {loose : List Str} {XP : (Str → Option Value) → Heap → Prop} {YP : World → Heap → Prop} {d : DefRec} {K : Params → PySem.W.Frag} (hn : l.most = some 63) (hdf : d.params.defaults = [])
    (hY : ∀ (w : World) (h : Heap), YP w h → (K w.params).In h)
    (F : ∀ (w : World) (mg : Str → Option Value) (fa : Addr) (h : Heap), (K w.params).In h → h.Ns mainGlobals mg → mg d.name = some (.ref fa) →
      ∃ fd : FuncData, (∀ (s : Shared) (u : Value), BindsTo s fd ⟨[u], []⟩ [("script", u)]) ∧ ∀ base : Heap, (K w.params).In base → base.Ns mainGlobals mg → FnOk l.prog w (K w.params) mg base CX0 12 fa fd ["script"] (spLaw (K w.params))) :
    PySem.W.WalkO q loose XP YP l.row.toRowW d [] (fun f vs => PySem.call f vs) :=
  L2.walk_of (n := 63) (k := 12) (x := "script") (CX := fun _ => CX0) (sp := fun w => spLaw (K w.params)) hn (by decide) hdf ⟨rfl, by decide, by decide⟩ hY F
    (fun _ _ a ns hl _ hS => ⟨a, ns, rfl, hS, hl, fun _ => rfl⟩) fun _ _ _ _ _ z => z
end L2.U
open PySem PySem.W PyProof.Rows
set_option maxRecDepth 100000 in
set_option maxHeartbeats 0 in
theorem PySem.Challenge.cw_upforgood_k87_numbers_of_stars_holds : PySem.Challenge.rw_upforgood_k87_numbers_of_stars.Holds := by
  w_on; o_law; k_head; (case hw => w_witness2)
  k_fill
  refine L2.U.walk (l := PySem.Challenge.rw_upforgood_k87_numbers_of_stars) rfl rfl (fun w h Y => PySem.W.kIn_of Y) ?F
  case F =>
    intro w mg fa h KX G hmg
    refine' L2.U.all_mk KX G hmg ?a1 ?l1 ?c1 ?k1 ?a2 ?l2 ?c2 ?k2 ?a3 ?l3 ?c3 ?k3 ?a4 ?l4 ?c4 ?k4 ?a5 ?l5 ?c5 ?k5 ?a6 ?l6 ?c6 ?k6 ?a7 ?l7 ?c7 ?k7 ?a8 ?l8 ?c8 ?k8 ?a9 ?l9 ?c9 ?k9 ?a10 ?l10 ?c10 ?k10 ?a11 ?l11 ?c11 ?k11 ?a12 ?l12 ?c12 ?k12 ?a13 ?l13 ?c13 ?k13 ?a14 ?l14 ?c14 ?k14 ?a15 ?l15 ?c15 ?k15 ?a16 ?l16 ?c16 ?k16 ?a17 ?l17 ?c17 ?k17 ?a18 ?l18 ?c18 ?k18 ?a19 ?l19 ?c19 ?k19 ?a20 ?l20 ?c20 ?k20 ?a21 ?l21 ?c21 ?k21 ?a22 ?l22 ?c22 ?k22 ?a23 ?l23 ?c23 ?k23 ?a24 ?l24 ?c24 ?k24 ?a25 ?l25 ?c25 ?k25 ?a26 ?l26 ?c26 ?k26 ?a27 ?l27 ?c27 ?k27 ?a28 ?l28 ?c28 ?k28 ?a29 ?l29 ?c29 ?k29 ?a30 ?l30 ?c30 ?k30 ?a31 ?l31 ?c31 ?k31 ?a32 ?l32 ?c32 ?k32 ?a33 ?l33 ?c33 ?k33 ?a34 ?l34 ?c34 ?k34 ?a35 ?l35 ?c35 ?k35 ?a36 ?l36 ?c36 ?k36 ?a37 ?l37 ?c37 ?k37 ?a38 ?l38 ?c38 ?k38 ?a39 ?l39 ?c39 ?k39 ?a40 ?l40 ?c40 ?k40 ?a41 ?l41 ?c41 ?k41 ?z_int ?z_bool ?z_str ?z_list ?z_tuple ?z_len ?z_sum ?z_abs ?z_all ?z_range ?z_isinstance ?z_max ?z_min ?z_enumerate ?c_HIGHEST ?c_MOST_KINDS_stars ?c_MOST_OTHERS ?c_MOST_NUMBERS ?c_GREATEST ?c_MOST_KINDS_rows ?c_comb ?aCT ?aCInvalidNumber ?xLInvalidNumber ?saInvalidNumber ?gaInvalidNumber ?ggInvalidNumber ?nbInvalidNumber ?iCInvalidNumber ?tIInvalidNumber ?lIInvalidNumber ?cIInvalidNumber ?kIInvalidNumber ?kCInvalidNumber ?eCInvalidNumber ?tCInvalidNumber ?hCInvalidNumber ?iSInvalidNumber ?aCInvalidMany ?xLInvalidMany ?saInvalidMany ?gaInvalidMany ?ggInvalidMany ?nbInvalidMany ?iCInvalidMany ?tIInvalidMany ?lIInvalidMany ?cIInvalidMany ?kIInvalidMany ?kCInvalidMany ?eCInvalidMany ?tCInvalidMany ?hCInvalidMany ?iSInvalidMany ?aCInvalidParts ?xLInvalidParts ?saInvalidParts ?gaInvalidParts ?ggInvalidParts ?nbInvalidParts ?iCInvalidParts ?tIInvalidParts ?lIInvalidParts ?cIInvalidParts ?kIInvalidParts ?kCInvalidParts ?eCInvalidParts ?tCInvalidParts ?hCInvalidParts ?iSInvalidParts ?aCInvalidRest ?xLInvalidRest ?saInvalidRest ?gaInvalidRest ?ggInvalidRest ?nbInvalidRest ?iCInvalidRest ?tIInvalidRest ?lIInvalidRest ?cIInvalidRest ?kIInvalidRest ?kCInvalidRest ?eCInvalidRest ?tCInvalidRest ?hCInvalidRest ?iSInvalidRest
    (case a1 => k_is)
    (case l1 => k_is)
    (case c1 => k_is)
    (case k1 => k_is)
    (case a2 => k_is)
    (case l2 => k_is)
    (case c2 => k_is)
    (case k2 => k_is)
    (case a3 => k_is)
    (case l3 => k_is)
    (case c3 => k_is)
    (case k3 => k_is)
    (case a4 => k_is)
    (case l4 => k_is)
    (case c4 => k_is)
    (case k4 => k_is)
    (case a5 => k_is)
    (case l5 => k_is)
    (case c5 => k_is)
    (case k5 => k_is)
    (case a6 => k_is)
    (case l6 => k_is)
    (case c6 => k_is)
    (case k6 => k_is)
    (case a7 => k_is)
    (case l7 => k_is)
    (case c7 => k_is)
    (case k7 => k_is)
    (case a8 => k_is)
    (case l8 => k_is)
    (case c8 => k_is)
    (case k8 => k_is)
    (case a9 => k_is)
    (case l9 => k_is)
    (case c9 => k_is)
    (case k9 => k_is)
    (case a10 => k_is)
    (case l10 => k_is)
    (case c10 => k_is)
    (case k10 => k_is)
    (case a11 => k_is)
    (case l11 => k_is)
    (case c11 => k_is)
    (case k11 => k_is)
    (case a12 => k_is)
    (case l12 => k_is)
    (case c12 => k_is)
    (case k12 => k_is)
    (case a13 => k_is)
    (case l13 => k_is)
    (case c13 => k_is)
    (case k13 => k_is)
    (case a14 => k_is)
    (case l14 => k_is)
    (case c14 => k_is)
    (case k14 => k_is)
    (case a15 => k_is)
    (case l15 => k_is)
    (case c15 => k_is)
    (case k15 => k_is)
    (case a16 => k_is)
    (case l16 => k_is)
    (case c16 => k_is)
    (case k16 => k_is)
    (case a17 => k_is)
    (case l17 => k_is)
    (case c17 => k_is)
    (case k17 => k_is)
    (case a18 => k_is)
    (case l18 => k_is)
    (case c18 => k_is)
    (case k18 => k_is)
    (case a19 => k_is)
    (case l19 => k_is)
    (case c19 => k_is)
    (case k19 => k_is)
    (case a20 => k_is)
    (case l20 => k_is)
    (case c20 => k_is)
    (case k20 => k_is)
    (case a21 => k_is)
    (case l21 => k_is)
    (case c21 => k_is)
    (case k21 => k_is)
    (case a22 => k_is)
    (case l22 => k_is)
    (case c22 => k_is)
    (case k22 => k_is)
    (case a23 => k_is)
    (case l23 => k_is)
    (case c23 => k_is)
    (case k23 => k_is)
    (case a24 => k_is)
    (case l24 => k_is)
    (case c24 => k_is)
    (case k24 => k_is)
    (case a25 => k_is)
    (case l25 => k_is)
    (case c25 => k_is)
    (case k25 => k_is)
    (case a26 => k_is)
    (case l26 => k_is)
    (case c26 => k_is)
    (case k26 => k_is)
    (case a27 => k_is)
    (case l27 => k_is)
    (case c27 => k_is)
    (case k27 => k_is)
    (case a28 => k_is)
    (case l28 => k_is)
    (case c28 => k_is)
    (case k28 => k_is)
    (case a29 => k_is)
    (case l29 => k_is)
    (case c29 => k_is)
    (case k29 => k_is)
    (case a30 => k_is)
    (case l30 => k_is)
    (case c30 => k_is)
    (case k30 => k_is)
    (case a31 => k_is)
    (case l31 => k_is)
    (case c31 => k_is)
    (case k31 => k_is)
    (case a32 => k_is)
    (case l32 => k_is)
    (case c32 => k_is)
    (case k32 => k_is)
    (case a33 => k_is)
    (case l33 => k_is)
    (case c33 => k_is)
    (case k33 => k_is)
    (case a34 => k_is)
    (case l34 => k_is)
    (case c34 => k_is)
    (case k34 => k_is)
    (case a35 => k_is)
    (case l35 => k_is)
    (case c35 => k_is)
    (case k35 => k_is)
    (case a36 => k_is)
    (case l36 => k_is)
    (case c36 => k_is)
    (case k36 => k_is)
    (case a37 => k_is)
    (case l37 => k_is)
    (case c37 => k_is)
    (case k37 => k_is)
    (case a38 => k_is)
    (case l38 => k_is)
    (case c38 => k_is)
    (case k38 => k_is)
    (case a39 => k_is)
    (case l39 => k_is)
    (case c39 => k_is)
    (case k39 => k_is)
    (case a40 => k_is)
    (case l40 => k_is)
    (case c40 => k_is)
    (case k40 => k_is)
    (case a41 => k_is)
    (case l41 => k_is)
    (case c41 => k_is)
    (case k41 => k_is)
    (case z_int => k_is)
    (case z_bool => k_is)
    (case z_str => k_is)
    (case z_list => k_is)
    (case z_tuple => k_is)
    (case z_len => k_is)
    (case z_sum => k_is)
    (case z_abs => k_is)
    (case z_all => k_is)
    (case z_range => k_is)
    (case z_isinstance => k_is)
    (case z_max => k_is)
    (case z_min => k_is)
    (case z_enumerate => k_is)
    (case c_HIGHEST => k_is)
    (case c_MOST_KINDS_stars => k_is)
    (case c_MOST_OTHERS => k_is)
    (case c_MOST_NUMBERS => k_is)
    (case c_GREATEST => k_is)
    (case c_MOST_KINDS_rows => k_is)
    (case c_comb => k_is)
    (case aCT => k_is)
    (case aCInvalidNumber => k_is)
    (case xLInvalidNumber => k_is)
    (case saInvalidNumber => k_is)
    (case gaInvalidNumber => k_is)
    (case ggInvalidNumber => k_is)
    (case nbInvalidNumber => k_is)
    (case iCInvalidNumber => k_is)
    (case tIInvalidNumber => k_is)
    (case lIInvalidNumber => k_is)
    (case cIInvalidNumber => k_is)
    (case kIInvalidNumber => k_is)
    (case kCInvalidNumber => k_is)
    (case eCInvalidNumber => k_is)
    (case tCInvalidNumber => k_is)
    (case hCInvalidNumber => k_is)
    (case iSInvalidNumber => k_is)
    (case aCInvalidMany => k_is)
    (case xLInvalidMany => k_is)
    (case saInvalidMany => k_is)
    (case gaInvalidMany => k_is)
    (case ggInvalidMany => k_is)
    (case nbInvalidMany => k_is)
    (case iCInvalidMany => k_is)
    (case tIInvalidMany => k_is)
    (case lIInvalidMany => k_is)
    (case cIInvalidMany => k_is)
    (case kIInvalidMany => k_is)
    (case kCInvalidMany => k_is)
    (case eCInvalidMany => k_is)
    (case tCInvalidMany => k_is)
    (case hCInvalidMany => k_is)
    (case iSInvalidMany => k_is)
    (case aCInvalidParts => k_is)
    (case xLInvalidParts => k_is)
    (case saInvalidParts => k_is)
    (case gaInvalidParts => k_is)
    (case ggInvalidParts => k_is)
    (case nbInvalidParts => k_is)
    (case iCInvalidParts => k_is)
    (case tIInvalidParts => k_is)
    (case lIInvalidParts => k_is)
    (case cIInvalidParts => k_is)
    (case kIInvalidParts => k_is)
    (case kCInvalidParts => k_is)
    (case eCInvalidParts => k_is)
    (case tCInvalidParts => k_is)
    (case hCInvalidParts => k_is)
    (case iSInvalidParts => k_is)
    (case aCInvalidRest => k_is)
    (case xLInvalidRest => k_is)
    (case saInvalidRest => k_is)
    (case gaInvalidRest => k_is)
    (case ggInvalidRest => k_is)
    (case nbInvalidRest => k_is)
    (case iCInvalidRest => k_is)
    (case tIInvalidRest => k_is)
    (case lIInvalidRest => k_is)
    (case cIInvalidRest => k_is)
    (case kIInvalidRest => k_is)
    (case kCInvalidRest => k_is)
    (case eCInvalidRest => k_is)
    (case tCInvalidRest => k_is)
    (case hCInvalidRest => k_is)
    (case iSInvalidRest => k_is)

