import PyProof.Rows.All
import Wide.All
import OpenK.AllK
import Wide.FinOn
import HandS.ForMost
import HandS.ForExc
import HandS.ExcInit
import HandS.ExcField
import HandS.TryMany
import HandS.IsInst
import HandS.Gcd
import HandS.Wide
import HandS.TupMul
import HandS.TupAny
import HandS.TupLe
import HandS.Deep
import HandS.Flow
import HandS.Defaults
import HandS.Evl
import HandS.More
import KE.KMathGC
import KE.KTupSum
import HandS.Style
import PySem.Challenge.RW_upforgood_k02_most_arranged_and_refused
set_option Elab.async false
set_option linter.all false
set_option maxRecDepth 100000
set_option maxHeartbeats 4000000
namespace L2.U
open PySem PySem.Spec PyProof.Rows Evl

/-! ## several except clauses, each with a name or without one -/
structure Clause where
  cls : Value
  slot : Option Nat
  rd : Addr → Value → Option Addr → TS
def afterC : Option Nat → Ends → Ends
  | none, D => D
  | some i, D => ⟨fun s h => D.nx (s.set i none) h, D.rt, fun s h => D.bk (s.set i none) h, fun s h => D.ct (s.set i none) h⟩
def holdC : Option Nat → Addr → St → St
  | none, _, s => s
  | some i, a, s => s.set i (some (.ref a))
def wishC (K : PySem.W.Frag) (Wo : WX) (D : Ends) : List Clause → WX
  | [] => Wo
  | c :: r => fun cls d s h => ∃ b, PySem.W.exmOne K cls c.cls = some b ∧
      (b = true → ∀ a, h a = none → c.rd a cls d (afterC c.slot D) (holdC c.slot a s) h) ∧ (b = false → wishC K Wo D r cls d s h)
abbrev SuiteOk (X : Cx) (body : List Stmt) (rd : Addr → Value → Option Addr → TS) : Prop :=
  ∀ (a : Addr) (o : Obj) (cls : Value) (d : Option Addr) (pn : List (Addr × Obj)), Zc cls d o → (∃ vs, o.data = .fields vs) → PSs (X.suite a ((a, o) :: pn)) body (rd a cls d)
inductive ClauseOk (X : Cx) : ExceptHandler → Clause → Prop
  | bare {x : Str} {c : Value} {rd} {b0 : Stmt} {su : List Stmt} {np p : Pos} (hc : Names X x c) (hs : SuiteOk X (b0 :: su) rd) :
      ClauseOk X (.ExceptHandler (some (.Name x np)) none (b0 :: su) p) ⟨c, none, rd⟩
  | named {x n : Str} {i : Nat} {c : Value} {rd} {b0 : Stmt} {su : List Stmt} {np p : Pos} (hN : X.N.Nodup) (hi : X.N[i]? = some n)
      (hl : X.env.kindOf n = some .local) (hc : Names X x c) (hs : SuiteOk X (b0 :: su) rd) :
      ClauseOk X (.ExceptHandler (some (.Name x np)) (some n) (b0 :: su) p) ⟨c, some i, rd⟩
inductive ClausesOk (X : Cx) : List ExceptHandler → List Clause → Prop
  | nil : ClausesOk X [] []
  | cons {h c hs cs} (a : ClauseOk X h c) (r : ClausesOk X hs cs) : ClausesOk X (h :: hs) (c :: cs)
section
variable {X : Cx} {body : List Stmt} {h0 : ExceptHandler} {hds : List ExceptHandler} {cs : List Clause} {pos : Pos} {tb : WX → TS} {Wo : WX}
theorem ps_tryC (hs : X.stack = X.env :: X.outer) (hf : X.env.frame = some X.env.locals) (tk : Takes X Wo)
    (hb : ∀ (W : WX) (pn : List (Addr × Obj)) (xe : Value → Shared → Prop), Takes (X.tr pn xe) W → PassesOwn (model X.prog X.w) X.A X.env xe → PSs (X.tr pn xe) body (tb W))
    (hh : ClausesOk X (h0 :: hds) cs) : PS X (.Try body (h0 :: hds) [] [] pos) (fun D s h => tb (wishC X.K Wo D cs) D s h) := by
  constructor
  intro pins s σ H D I h
  have ok := I.ok
  have frames : X.A.frames = some (X.env :: X.outer) := by rw [ok.frames, hs]
  refine wpAny_Try_except ?_
  let caught : Value → Shared → Prop := fun e s1 =>
    wpAny (model X.prog X.w) X.A (noteFrame e X.env) (fun _ s2 => wpAny (model X.prog X.w) X.A (setFlight e none)
      (fun _ s3 => wpAny (model X.prog X.w) X.A (handleBy e X.env (h0 :: hds)) (SP X pins D) X.xe s3) X.xe s2) X.xe s1
  have takesB : Takes (X.tr (X.pn ++ pins) caught) (wishC X.K Wo D cs) := by
    rintro u s' ⟨a, B, sI, pins', σ', H', cls, d, rfl, J0, nb, up, sky, na, os, ag, w⟩
    have J : Inv X pins σ' H' sI := J0.ofTry ok
    have sky1 : Sky B (X.env :: X.outer) a (Zc cls d) X.env.locals s'.heap := hs ▸ sky
    show wpAny _ X.A (noteFrame (.ref a) X.env) _ _ _
    refine Sky.land Zc.steady frames hf sky1 fun h3 fl up3 => ?_
    have J3 : Inv X pins σ' H' { s' with heap := h3 } := J.landed nb fl.1 (up.trans up3) os ag
    obtain ⟨o3, v3, g3, z3, d3⟩ := fl.there
    have out : a ∉ frs (X.env :: X.outer) := by
      intro hm
      obtain ⟨_, o', e', no⟩ := fl.2.2.1.mem hm
      rw [g3] at e'
      cases e'
      exact no _ d3
    have nL : a ≠ X.env.locals := by
      intro z
      exact out (List.mem_filterMap.mpr ⟨X.env, List.mem_cons_self, z ▸ hf⟩)
    have nF : a ∉ X.fs := by
      intro hm
      obtain ⟨e, he, q⟩ := List.mem_filterMap.mp hm
      exact out (List.mem_filterMap.mpr ⟨e, List.mem_cons_of_mem _ he, q⟩)
    have S3 := J3.suite g3 d3 na nL nF
    have ty : PySem.W.Looks (model X.prog X.w) h3 (typeOf (.ref a)) cls := fun A Q E t k q => wpAny_typeOf_ref (k _ _ g3) (by rw [z3.1]; exact q)
    have asked : ∀ {x : Str} {c : Value} {np : Pos} {Q E : Value → Shared → Prop}, Names X x c → Q c { s' with heap := h3 } →
        wpAny (model X.prog X.w) (X.A.mark (some (.ref a))) (eval (.Name x np) X.env) Q E { s' with heap := h3 } := by
      rintro x c np Q E ⟨hg, hd, hm | ⟨hm, hv, hn⟩⟩ q
      · exact ld_glob (X := X.suite a ((a, o3) :: (X.pn ++ pins))) S3 hg hm q hd
      · exact ld_blt (X := X.suite a ((a, o3) :: (X.pn ++ pins))) S3 hg hm hv q hn hd
    have run : ∀ {l : List ExceptHandler} {k : List Clause}, ClausesOk X l k → wishC X.K Wo D k cls d σ' H' →
        wpAny (model X.prog X.w) X.A (handleBy (.ref a) X.env l) (SP X pins D) X.xe { s' with heap := h3 } := by
      intro l k hk
      induction hk with
      | nil =>
        intro w
        refine wpAny_handleBy_nil ?_
        obtain ⟨_, _, _, oe, vs, T, oT, ts, he, _, hd, h1, _⟩ := id fl
        unfold PySem.passOn
        refine wpAny_bind (wpAny_field he hd h1 ?_)
        rw [if_neg (by simp : ¬ ((Value.ref T == Value.none) = true))]
        have up : wpAny (model X.prog X.w) X.A (setFlight (.ref a) X.env.frame)
            (fun _ t => wpAny (model X.prog X.w) X.A (throw (.ref a) : Sem Flow) (SP X pins D) X.xe t) X.xe { s' with heap := h3 } := by
          rw [hf]
          refine HandSPX.setFlight_upZ fl fun h4 hh4 up4 => wpAny_throw (tk _ _ ?_)
          refine ⟨a, B, sI, pins, σ', H', cls, d, rfl, J, nb, (up.trans up3).trans up4, .inr (.inr ?_), na, os, ag, w⟩
          rw [hs]
          exact hh4
        first
          | exact wpAny_bind (wpAny_pure (wpAny_bind up))
          | exact wpAny_bind up
      | @cons h1 c hs1 cs1 hc1 _ ih =>
        rintro ⟨b, mb, yes, no⟩
        have LM := PySem.W.exm_one (M := model X.prog X.w) J3.kIn ty mb
        cases hc1 with
        | @bare x c rd b0 su np p hc hsu =>
          refine wpAny_handleBy_cons (codeAny_handlers_test ?_) (by intro q; cases q)
          refine asked hc (LM.here ?_)
          cases b with
          | false => exact ih (no rfl)
          | true =>
            refine codeAny_handlers_suite (HandSPX.lands_againZ fl fun h4 fl4 up4 => ?_)
            have J4 : Inv X pins σ' H' { s' with heap := h4 } := J.landed nb fl4.1 ((up.trans up3).trans up4) os ag
            obtain ⟨o4, v4, g4, z4, d4⟩ := fl4.there
            refine wpAny_mono ((hsu a o4 cls d (X.pn ++ pins) z4 ⟨_, d4⟩).run [] _ _ H' _ (J4.suite g4 d4 na nL nF) (yes rfl a na)) ?_ (fun _ _ z => False.elim z)
            intro f s6 sp
            cases f with
            | ret u => obtain ⟨v6, σ6, H6, S6, r6, q6⟩ := sp; exact ⟨_, _, _, S6.unsuite ok, r6, q6⟩
            | next => obtain ⟨σ6, H6, S6, q6⟩ := sp; exact ⟨_, _, S6.unsuite ok, q6⟩
            | brk => obtain ⟨σ6, H6, S6, q6⟩ := sp; exact ⟨_, _, S6.unsuite ok, q6⟩
            | cont => obtain ⟨σ6, H6, S6, q6⟩ := sp; exact ⟨_, _, S6.unsuite ok, q6⟩
        | @named x n i c rd b0 su np p hN hi hl hc hsu =>
          refine wpAny_handleBy_cons (codeAny_handlers_test ?_) (by intro q; cases q)
          refine asked hc (LM.here ?_)
          cases b with
          | false => exact ih (no rfl)
          | true =>
            refine codeAny_handlers_suite_as (HandSPX.lands_againZ fl fun h4 fl4 up4 => ?_)
            have J4 : Inv X pins σ' H' { s' with heap := h4 } := J.landed nb fl4.1 ((up.trans up3).trans up4) os ag
            obtain ⟨o4, v4, g4, z4, d4⟩ := fl4.there
            refine store_ok (X := X.suite a ((a, o4) :: (X.pn ++ pins))) (v := .ref a) (J4.suite g4 d4 na nL nF) hN hi (.inl hl) rfl (fun s5 S5 => ?_) (.inr hl)
            refine wpAny_mono ((hsu a o4 cls d (X.pn ++ pins) z4 ⟨_, d4⟩).run [] s5 _ H' _ S5 (yes rfl a na)) ?_ (fun _ _ z => False.elim z)
            intro f s6 sp
            have gone : ∀ {σ6 : St} {H6 : Hp} {Q : Shared → Prop}, Inv (X.suite a ((a, o4) :: (X.pn ++ pins))) [] σ6 H6 s6 → (∀ t, Inv X pins (σ6.set i none) H6 t → Q t) →
                wpAny (model X.prog X.w) X.A (do bindName X.env n .none; unbindBehindTheSuite X.env n p) (fun _ t => Q t) X.xe s6 := fun S6 hq => gone_ok (S6.unsuite ok) hN hi hl hq
            cases f with
            | ret u => obtain ⟨v6, σ6, H6, S6, r6, q6⟩ := sp; exact gone S6 fun t J7 => ⟨_, _, _, J7, r6, q6⟩
            | next => obtain ⟨σ6, H6, S6, q6⟩ := sp; exact gone S6 fun t J7 => ⟨_, _, J7, q6⟩
            | brk => obtain ⟨σ6, H6, S6, q6⟩ := sp; exact gone S6 fun t J7 => ⟨_, _, J7, q6⟩
            | cont => obtain ⟨σ6, H6, S6, q6⟩ := sp; exact gone S6 fun t J7 => ⟨_, _, J7, q6⟩
    exact run hh w
  refine wpAny_mono ((hb (wishC X.K Wo D cs) (X.pn ++ pins) caught takesB PassesOwn.looking).run [] s σ H D (I.toTry _) h) ?_ (fun e s1 he => he)
  intro f s1 sp
  cases f with
  | ret u => obtain ⟨v, σ', H', J', r, q⟩ := sp; exact ⟨v, σ', H', J'.ofTry ok, r, q⟩
  | next => obtain ⟨σ', H', J', q⟩ := sp; exact wpAny_execs_nil ⟨σ', H', J'.ofTry ok, q⟩
  | brk => obtain ⟨σ', H', J', q⟩ := sp; exact ⟨σ', H', J'.ofTry ok, q⟩
  | cont => obtain ⟨σ', H', J', q⟩ := sp; exact ⟨σ', H', J'.ofTry ok, q⟩
end

/-! ## f(k = v, ..): keywords alone -/
def tCallKw (sp : Sp) (pm : List V → List V) (E : St → XK) (tk : TA) : TE := fun σ H Q => tk σ H fun zs H1 => sp (pm zs) H1 Q (E σ)
section
variable {X : Cx} {CX : CXT} {k : Nat} {f : Addr} {fd : FuncData} {ps ks : List Str} {sp : Sp} {E : St → XK} {x : Str} {p pos : Pos} {kws : List Keyword} {tk : TA}
  {g : List Value → List Value → List Value} {gV : List V → List V → List V}
theorem pe_callKw (F : FnOk X.prog X.w X.K X.mg X.base CX k f fd ps sp) (hr : Room k X.A) (hg : Gl X x) (hm : X.mg x = some (.ref f)) (hk : PySem.W.keepIn X.K (.ref f) = true)
    (hb : KBinds X.K fd ps ks g gV) (hx : ∀ σ, PassesAt CX X σ (E σ)) (hkw : PK X kws tk)
    (hall : (backToKw pos (keywordEach kws X.env)).all (·.1.isSome) = true := by rfl) (hks : (backToKw pos (keywordEach kws X.env)).filterMap (·.1) = ks := by rfl)
    (hdb : (x == ("__debug__" : Str)) = false := by decide)
    (hpl : ((backTo pos (starEach [] X.env)).any (·.1) || (backToKw pos (keywordEach kws X.env)).any (·.1.isNone)) = false := by rfl) :
    PE X (.Call (.Name x p) [] kws pos) (tCallKw sp (gV []) E tk) := by
  constructor
  intro pins s σ H Q I h
  refine wpAny_Call_Name_kw (ld_glob I hg hm ?_ hdb)
  refine PySem.W.callWith_KW0 (h₀ := X.base) I.ok.mod.kin hk hall (thn (hkw.run pos pins s σ H _ I h) ?_) hpl
  rintro ws s2 ⟨zs, H2, I2, rz, q2⟩
  refine ⟨I2.kIn, ?_⟩
  rw [hks]
  have r2 : Vals (gV [] zs) (g [] ws) := hb.rel .nil rz
  have hl : (g [] ws).length = ps.length := by rw [← r2.length]; exact F.len _ _ _ _ q2
  refine wpAny_call (codeAny_mono (F.run X.A X.stack s2 H2 ⟨[], ks.zip ws⟩ (g [] ws) (gV [] zs) Q (E σ) hr I2.env0 (hb.to s2 [] ws I2.kIn hl) r2 q2) ?_)
  intro r s' hq
  cases r with
  | error e => exact hx σ pins H2 s2 e s' I2 hq
  | ok fl => cases fl with
    | ret u => exact I2.after hq
    | next => exact False.elim hq
    | brk => exact False.elim hq
    | cont => exact False.elim hq
end

/-! ## math.comb, and tuple * int with few turns -/
section
variable {X : Cx}
def rComb : List V → Hp → VK → Prop := fun vs H Q => ∃ a b : Int, vs = [.int a, .int b] ∧ 0 ≤ a ∧ a ≤ 1000 ∧ 0 ≤ b ∧ b ≤ 1000 ∧ Q (.int (PySem.W.mcComb a b)) H
theorem cr_comb : CallR X (.builtin "math.comb") rComb := by
  intro pins s σ H vs us Q I r h
  obtain ⟨a, b, rfl, h1, h2, h3, h4, q⟩ := h
  obtain ⟨u1, u2, rfl, r1, r2⟩ := vals2 r
  obtain ⟨t, rfl⟩ := r1
  obtain ⟨u, rfl⟩ := r2
  exact PySem.W.mc_comb h1 h3 (by omega) (by omega) fun _ => ⟨.int _, H, I.tok _, ⟨_, rfl⟩, q⟩
end

/-! ## sum of a list or a tuple of ints; x *= y of great ints; a for over a list or a tuple -/
section
variable {X : Cx}
def rSumS (K : PySem.W.Frag) : List V → Hp → VK → Prop := fun vs H Q => ∃ (a : Addr) (ns : List Int), vs = [V.ref a] ∧ (SqL K H a (ns.map V.int) ∨ SqT K H a (ns.map V.int)) ∧ Q (.int ns.sum) H
theorem cr_sumS (hc : X.calm = true) : CallR X (.builtin "sum") (rSumS X.K) := by
  intro pins s σ H vs us Q I r h
  obtain ⟨a, ns, e, hs | hs, q⟩ := h
  · exact cr_sum hc pins s σ H vs us Q I r ⟨a, ns, e, hs, q⟩
  · subst e
    obtain ⟨its, rv, hl, _⟩ := I.tuple hs
    rw [Vals.ref1 r]
    have hi := rv.ints
    have hl2 : s.heap.IsTuple a its.toArray := hl
    obtain ⟨xs, ex⟩ := hi.allInts.items
    have hn : numsOf (intItems xs).toList = ns := by rw [← ex]; exact hi.numsOf
    rw [nums_intItems] at hn
    rw [ex] at hl2
    refine PySem.W.ktm_sumG (I.ok.hd hc) hl2 fun h' tk t' hk => ?_
    rw [preSum_eq, List.take_of_length_le (by simp), hn]
    exact ⟨.int _, H, I.kept hk, ⟨_, rfl⟩, q⟩
theorem ip_mulC : PIp X .Mult (fun x y H Q => ∃ i j, x = .int i ∧ y = .int j ∧ CMul i j ∧ Q (.int (i * j)) H) := by
  intro pins s σ H x y v u Q I r1 r2 h
  obtain ⟨i, j, rfl, rfl, hc, q⟩ := h
  obtain ⟨t, rfl⟩ := r1
  obtain ⟨t', rfl⟩ := r2
  exact imul_int ⟨.int _, H, I.tok _, ⟨_, rfl⟩, q⟩ hc.ok
def iSeq (K : PySem.W.Frag) (tl : TE) : TI := fun σ H R => iList K tl σ H R ∨ iTup K tl σ H R
theorem pi_seq {tg l : Expr} {tl : TE} (hl : PE X l tl) : PI X tg l (iSeq X.K tl) := by
  constructor
  intro pins s σ H R I h
  rcases h with h | h
  · exact (pi_list hl).run pins s σ H R I h
  · exact (pi_tup hl).run pins s σ H R I h
end

/-! ## how keywords bind -/
def kw1 {α : Type} : List α → List α → List α
  | [], [a] => [a]
  | _, _ => []
def kw12 {α : Type} : List α → List α → List α
  | [], [a, b] => [a, b]
  | _, _ => []
def kw21 {α : Type} : List α → List α → List α
  | [], [a, b] => [b, a]
  | _, _ => []
theorem kw1_rel {vs : List V} {us : List Value} {zs : List V} {ws : List Value} (r : Vals vs us) (t : Vals zs ws) : Vals (kw1 vs zs) (kw1 us ws) := by
  cases r with
  | cons _ _ => exact .nil
  | nil => cases t with
    | nil => exact .nil
    | cons a t => cases t with
      | nil => exact .cons a .nil
      | cons _ _ => exact .nil
theorem kw12_rel {vs : List V} {us : List Value} {zs : List V} {ws : List Value} (r : Vals vs us) (t : Vals zs ws) : Vals (kw12 vs zs) (kw12 us ws) := by
  cases r with
  | cons _ _ => exact .nil
  | nil => cases t with
    | nil => exact .nil
    | cons a t => cases t with
      | nil => exact .nil
      | cons b t => cases t with
        | nil => exact .cons a (.cons b .nil)
        | cons _ _ => exact .nil
theorem kw21_rel {vs : List V} {us : List Value} {zs : List V} {ws : List Value} (r : Vals vs us) (t : Vals zs ws) : Vals (kw21 vs zs) (kw21 us ws) := by
  cases r with
  | cons _ _ => exact .nil
  | nil => cases t with
    | nil => exact .nil
    | cons a t => cases t with
      | nil => exact .nil
      | cons b t => cases t with
        | nil => exact .cons b (.cons a .nil)
        | cons _ _ => exact .nil
theorem kb1 {K : PySem.W.Frag} {x qual : Str} {st : Stmt} {f : Addr} {fd : FuncData} {p k : Str} (F : Fun K x qual st f fd)
    (h : ∀ (kV doc pm : Value) (an : Option Addr) (cdv ct : Value) (u : Value), bindArgs (PySem.W.fnOf x qual (defArgs st) (defBody st) (defScope st) .none kV doc pm an cdv ct) ⟨[], [(k, u)]⟩ = pure [(p, u)]) : KBinds K fd [p] [k] kw1 kw1 := by
  obtain ⟨oc, od, kV, doc, pm, an, cdv, ct, osl, rfl, lk, hcd⟩ := F.ex
  refine ⟨fun s us ws _ hl => ?_, kw1_rel⟩
  match us, ws, hl with
  | [], [u], _ => exact .of_eq (h kV doc pm an cdv ct u)
theorem kb12 {K : PySem.W.Frag} {x qual : Str} {st : Stmt} {f : Addr} {fd : FuncData} {p q k l : Str} (F : Fun K x qual st f fd)
    (h : ∀ (kV doc pm : Value) (an : Option Addr) (cdv ct : Value) (u w : Value), bindArgs (PySem.W.fnOf x qual (defArgs st) (defBody st) (defScope st) .none kV doc pm an cdv ct) ⟨[], [(k, u), (l, w)]⟩ = pure [(p, u), (q, w)]) : KBinds K fd [p, q] [k, l] kw12 kw12 := by
  obtain ⟨oc, od, kV, doc, pm, an, cdv, ct, osl, rfl, lk, hcd⟩ := F.ex
  refine ⟨fun s us ws _ hl => ?_, kw12_rel⟩
  match us, ws, hl with
  | [], [u, w], _ => exact .of_eq (h kV doc pm an cdv ct u w)
theorem kb21 {K : PySem.W.Frag} {x qual : Str} {st : Stmt} {f : Addr} {fd : FuncData} {p q k l : Str} (F : Fun K x qual st f fd)
    (h : ∀ (kV doc pm : Value) (an : Option Addr) (cdv ct : Value) (u w : Value), bindArgs (PySem.W.fnOf x qual (defArgs st) (defBody st) (defScope st) .none kV doc pm an cdv ct) ⟨[], [(k, u), (l, w)]⟩ = pure [(p, w), (q, u)]) : KBinds K fd [p, q] [k, l] kw21 kw21 := by
  obtain ⟨oc, od, kV, doc, pm, an, cdv, ct, osl, rfl, lk, hcd⟩ := F.ex
  refine ⟨fun s us ws _ hl => ?_, kw21_rel⟩
  match us, ws, hl with
  | [], [u, w], _ => exact .of_eq (h kV doc pm an cdv ct u w)

/-! ## tuple * int -/
theorem tmul0 (l : Addr) (items : Array Value) (n : Nat) (dd : Option Addr) (sl : Array (Option Value)) (u : Tok) (hne : items.isEmpty = false) :
    Meets (Builtin.«tuple.__mul__» ⟨[.ref l, .int 0 u], []⟩) (fun _ R s => s.heap.get? l = some { cls := .type "tuple", dict := dd, data := .seq items n, slots := sl } ∧
      R (.ok (.ret (Value.ref s.heap.objs.size))) { s with heap := s.heap.push { cls := Value.type "tuple", data := Data.seq #[] } }) :=
  .of_wp fun prog w A R s h => by
    obtain ⟨hp, g, d, tk, os⟩ := s
    obtain ⟨hl, h⟩ := h
    have f1 := AutoSeq1.idx_int
    have c1 : (items.isEmpty || (0 : Int) == 1) = false := by rw [hne]; rfl
    wp_walk using wpAny_loadPart' hl
    exact ⟨_, rfl, h⟩
theorem tmul1 (l : Addr) (items : Array Value) (n : Nat) (dd : Option Addr) (sl : Array (Option Value)) (u : Tok) (hne : items.isEmpty = false) :
    Meets (Builtin.«tuple.__mul__» ⟨[.ref l, .int 1 u], []⟩) (fun _ R s => s.heap.get? l = some { cls := .type "tuple", dict := dd, data := .seq items n, slots := sl } ∧
      R (.ok (.ret (Value.ref l))) s) :=
  .of_wp fun prog w A R s h => by
    obtain ⟨hp, g, d, tk, os⟩ := s
    obtain ⟨hl, h⟩ := h
    have f1 := AutoSeq1.idx_int
    wp_walk using wpAny_loadPart' hl
    exact ⟨_, rfl, h⟩

def rRepA (K : PySem.W.Frag) : R2 := fun x y H Q => ∃ (l : Addr) (k : Int) (xs : List V), x = .ref l ∧ y = .int k ∧ SqT K H l xs ∧ xs ≠ [] ∧ 0 ≤ k ∧ k ≤ 1000 ∧ xs.length ≤ 1000 ∧
  ∀ p H', Ex H H' → SqT K H' p (List.replicate k.toNat xs).flatten → Q (.ref p) H'
theorem op_repA {X : Cx} : OpR X (binaryOp .Mult) (rRepA X.K) := by
  intro pins s σ H x y v u Q I rx ry h
  obtain ⟨l, k, xs, rfl, rfl, hT, hne, h0, h1, hz, q⟩ := h
  by_cases h2 : 2 ≤ k
  · exact op_repT pins s σ H (.ref l) (.int k) v u Q I rx ry ⟨l, k, xs, rfl, rfl, hT, hne, h2, h1, hz, fun p hp => q p _ (Ex.new hp) (st_of upd_same)⟩
  · cases rx
    obtain ⟨t, rfl⟩ := ry
    obtain ⟨its, r, ⟨⟨cls, dd, data, sl⟩, ho, hc, n, hd⟩, hs⟩ := I.tuple hT
    simp only at hc hd
    subst hc hd
    have hle : its.length = xs.length := r.length.symm
    have hi : its.toArray.isEmpty = false := by
      cases its with
      | nil => exact absurd (List.eq_nil_of_length_eq_zero hle.symm) hne
      | cons a b => rfl
    rcases (by omega : k = 0 ∨ k = 1) with rfl | rfl
    · refine wpAny_binaryOp_repeat_ref (T := "tuple") (U := "int") (by decide) ⟨_, ho, rfl⟩ (fun s' => typeIs_int s' 0 t) noFill_tuple_mul F.fills_int_mul F.slot_int_rmul repeat_tuple F.slot_int_index.lookup
        (call_meets F.slot_int_rmul (typeIs_int s 0 t) F.entry_int_rmul (F.args_int_rmul_2 _ _) (int_rmul_tuple 0 t l its.toArray n dd sl)
          ⟨ho, rfl, ⟨_, ho, rfl⟩, call_meets F.slot_tuple_mul ⟨_, ho, rfl⟩ F.entry_tuple_mul (F.args_tuple_mul_2 _ _) (tmul0 l its.toArray n dd sl t hi) ⟨ho, ?_⟩⟩)
      refine ⟨.ref s.heap.objs.size, _, I.laid (t' := s.toks) (o := .tup []) (fun b ob e => Heap.get?_push_of_some _ e) (Nat.le_refl _) ?_, rfl, q _ _ (Ex.new (I.hok.fresh (Nat.le_refl _))) (st_of upd_same)⟩
      exact ⟨Nat.zero_le _, [], .nil, IsTup.new _ _⟩
    · refine wpAny_binaryOp_repeat_ref (T := "tuple") (U := "int") (by decide) ⟨_, ho, rfl⟩ (fun s' => typeIs_int s' 1 t) noFill_tuple_mul F.fills_int_mul F.slot_int_rmul repeat_tuple F.slot_int_index.lookup
        (call_meets F.slot_int_rmul (typeIs_int s 1 t) F.entry_int_rmul (F.args_int_rmul_2 _ _) (int_rmul_tuple 1 t l its.toArray n dd sl)
          ⟨ho, rfl, ⟨_, ho, rfl⟩, call_meets F.slot_tuple_mul ⟨_, ho, rfl⟩ F.entry_tuple_mul (F.args_tuple_mul_2 _ _) (tmul1 l its.toArray n dd sl t hi) ⟨ho, ?_⟩⟩)
      refine ⟨.ref l, H, I, rfl, q _ _ (Ex.refl H) ?_⟩
      have e : (List.replicate (Int.toNat 1) xs).flatten = xs := by simp
      rw [e]
      exact hT

/-! ## a def of the text, in one bundle -/
structure DefAt (K : PySem.W.Frag) (mg : Str → Option Value) (x : Str) (st : Stmt) (ps : List Str) where
  a : Addr
  fd : FuncData
  F : Fun K x x st a fd
  m : mg x = some (.ref a)
  b : Binds K fd ps []
theorem pass0At {X : Cx} {σ : St} : PassesAt CX0 X σ E0 := fun _ _ _ _ _ _ h => h.elim

/-! ## heaps: all but one object stands -/
def But (b : Addr) (H H' : Hp) : Prop := ∀ a o, a ≠ b → H a = some o → H' a = some o
theorem But.of {b : Addr} {H H' : Hp} (e : Ex H H') : But b H H' := fun a o _ h => e a o h
theorem But.trans {b : Addr} {H H1 H2 : Hp} (x : But b H H1) (y : But b H1 H2) : But b H H2 := fun a o n h => y a o n (x a o n h)
theorem But.ex {b : Addr} {H H1 H2 : Hp} (x : But b H H1) (y : Ex H1 H2) : But b H H2 := fun a o n h => y a o (x a o n h)
theorem But.pre {b : Addr} {H H1 H2 : Hp} (x : Ex H H1) (y : But b H1 H2) : But b H H2 := fun a o n h => y a o n (x a o h)
theorem But.upd {b : Addr} {H : Hp} {o : HO} : But b H (upd H b o) := fun a u n h => by rw [upd_ne n]; exact h
theorem But.none {b p : Addr} {H H' : Hp} {o : HO} (x : But b H H') (hb : H b = some o) (h : H' p = none) : p ≠ b → H p = none := fun n => by
  cases e : H p with
  | none => rfl
  | some u => rw [x p u n e] at h; cases h
theorem ne_new {H : Hp} {p b : Addr} {o : HO} (h : H p = none) (hb : H b = some o) : p ≠ b := fun e => by rw [e, hb] at h; cases h
/-- what is frozen or written stands whatever happens to b; a tracked list that is no b, too -/
theorem But.sql {K : PySem.W.Frag} {b a : Addr} {H H' : Hp} {xs : List V} (x : But b H H') (n : a ≠ b) (h : SqL K H a xs) : SqL K H' a xs := by
  rcases h with (h | ⟨o, h⟩) | h
  · exact .inl (.inl (x _ _ n h))
  · exact .inl (.inr ⟨o, x _ _ n h⟩)
  · exact .inr h
theorem But.sqt {K : PySem.W.Frag} {b a : Addr} {H H' : Hp} {xs : List V} (x : But b H H') (n : a ≠ b) (h : SqT K H a xs) : SqT K H' a xs := by
  rcases h with (h | ⟨o, h⟩) | h
  · exact .inl (.inl (x _ _ n h))
  · exact .inl (.inr ⟨o, x _ _ n h⟩)
  · exact .inr h

/-! ## the box of draws: digits, flag, seed, count; n draws are left -/
def BoxAt (H : Hp) (b : Addr) (n : Nat) : Prop := ∃ (d m c : Int) (f : Bool), H b = some (.lst [.int d, .bl f, .int m, .int c]) ∧ 0 ≤ d ∧ 0 ≤ m ∧ m < 2147483648 ∧ 0 ≤ c ∧ c + n ≤ 1000000
theorem BoxAt.some {H : Hp} {b : Addr} {n : Nat} (h : BoxAt H b n) : ∃ o, H b = some o := by
  obtain ⟨d, m, c, f, h, _⟩ := h
  exact ⟨_, h⟩
theorem BoxAt.le {H : Hp} {b : Addr} {n k : Nat} (h : BoxAt H b n) (l : k ≤ n) : BoxAt H b k := by
  obtain ⟨d, m, c, f, h, h1, h2, h3, h4, h5⟩ := h
  exact ⟨d, m, c, f, h, h1, h2, h3, h4, by omega⟩
theorem BoxAt.ex {H H' : Hp} {b : Addr} {n : Nat} (h : BoxAt H b n) (e : Ex H H') : BoxAt H' b n := by
  obtain ⟨d, m, c, f, h, r⟩ := h
  exact ⟨d, m, c, f, e _ _ h, r⟩
theorem BoxAt.ne {H : Hp} {b p : Addr} {n : Nat} (h : BoxAt H b n) (hp : H p = none) : p ≠ b := by
  obtain ⟨d, m, c, f, h, _⟩ := h
  exact ne_new hp h
def spCell (K : PySem.W.Frag) : Sp := fun vs H Q _ => ∃ (a : Addr) (ns : List Int) (k : Int), vs = [.ref a, .int k] ∧ SqL K H a (ns.map V.int) ∧ 0 ≤ k ∧ k ≤ 1000 ∧ ∀ (v : Int) H', Ex H H' → Q (.int v) H'
def spBox : Sp := fun vs H Q _ => ∃ g : Int, vs = [.int g] ∧ ∀ p H', H p = none → Ex H H' → BoxAt H' p 1000000 → Q (.ref p) H'
def spTake : Sp := fun vs H Q _ => ∃ (b : Addr) (m : Int) (n : Nat), vs = [.ref b, .int m] ∧ 0 < m ∧ m < 1073741824 ∧ BoxAt H b (n + 1) ∧
  ∀ r H', 0 ≤ r → r < m → BoxAt H' b n → But b H H' → Q (.int r) H'

/-! ## types of data -/
theorem tyL {K : PySem.W.Frag} {H : Hp} {a : Addr} {xs : List V} (h : SqL K H a xs) : TyX K H (.ref a) (.type "list") := by
  rcases h with (h | ⟨o, h⟩) | ⟨o, its, n, hk, hc, _⟩
  · exact .base (.lst h)
  · exact .base (.frz h)
  · exact .kList hk hc
theorem tyT {K : PySem.W.Frag} {H : Hp} {a : Addr} {xs : List V} (h : SqT K H a xs) : TyX K H (.ref a) (.type "tuple") := by
  rcases h with (h | ⟨o, h⟩) | ⟨o, its, n, hk, hc, _⟩
  · exact .base (.tup h)
  · exact .fTuple h
  · exact .kTuple hk hc
/-- two values that hold the same, at most n lists and tuples within one another -/
inductive Sm (K : PySem.W.Frag) (H : Hp) : Nat → V → V → Prop
  | non {n} : Sm K H n .non .non
  | bl {n} (b : Bool) : Sm K H n (.bl b) (.bl b)
  | int {n} (i : Int) : Sm K H n (.int i) (.int i)
  | str {n} (z : Str) (h : z.length ≤ 1000) : Sm K H n (.str z) (.str z)
  | lst {n} {a b : Addr} {xs ys : List V} (h1 : SqL K H a xs) (h2 : SqL K H b ys) (hl : xs.length = ys.length) (hz : xs.length ≤ 1000)
      (all : ∀ (i : Nat) (x y : V), xs[i]? = some x → ys[i]? = some y → Sm K H n x y) : Sm K H (n + 1) (.ref a) (.ref b)
  | tup {n} {a b : Addr} {xs ys : List V} (h1 : SqT K H a xs) (h2 : SqT K H b ys) (hl : xs.length = ys.length) (hz : xs.length ≤ 1000)
      (all : ∀ (i : Nat) (x y : V), xs[i]? = some x → ys[i]? = some y → Sm K H n x y) : Sm K H (n + 1) (.ref a) (.ref b)
theorem Sm.ex {K : PySem.W.Frag} {H H' : Hp} (e : Ex H H') {n : Nat} {x y : V} (h : Sm K H n x y) : Sm K H' n x y := by
  induction h with
  | non => exact .non
  | bl b => exact .bl b
  | int i => exact .int i
  | str z h => exact .str z h
  | lst h1 h2 hl hz _ ih => exact .lst (ex_l e h1) (ex_l e h2) hl hz ih
  | tup h1 h2 hl hz _ ih => exact .tup (ex_t e h1) (ex_t e h2) hl hz ih
theorem Sm.succ {K : PySem.W.Frag} {H : Hp} {n : Nat} {x y : V} (h : Sm K H n x y) : Sm K H (n + 1) x y := by
  induction h with
  | non => exact .non
  | bl b => exact .bl b
  | int i => exact .int i
  | str z h => exact .str z h
  | lst h1 h2 hl hz _ ih => exact .lst h1 h2 hl hz ih
  | tup h1 h2 hl hz _ ih => exact .tup h1 h2 hl hz ih
theorem Sm.le {K : PySem.W.Frag} {H : Hp} {n m : Nat} {x y : V} (h : Sm K H n x y) (l : n ≤ m) : Sm K H m x y := by
  induction l with
  | refl => exact h
  | step _ ih => exact ih.succ
theorem Sm.ints {K : PySem.W.Frag} {H : Hp} {n : Nat} {ns : List Int} : ∀ (i : Nat) (x y : V), (ns.map V.int)[i]? = some x → (ns.map V.int)[i]? = some y → Sm K H n x y := by
  intro i x y h1 h2
  rw [h1] at h2
  cases h2
  rw [List.getElem?_map] at h1
  cases e : ns[i]? with
  | none => rw [e] at h1; cases h1
  | some z => rw [e] at h1; cases h1; exact .int z
def spSame (K : PySem.W.Frag) (n : Nat) : Sp := fun vs H Q _ => ∃ x y, vs = [x, y] ∧ Sm K H n x y ∧ ∀ H', Ex H H' → Q (.bl true) H'
theorem cut_one {z : Str} {k : Nat} {c : Nat} (h : z.cps.toList[k]? = some c) : cutS z (some (k : Int)) (some ((k : Int) + 1)) = ⟨#[c]⟩ := by
  have hk := (List.getElem?_eq_some_iff.mp h).1
  have hz : z.cps.toList.length = z.length := Array.length_toList
  unfold cutS
  have e : ((k : Int) + 1) = ((k + 1 : Nat) : Int) := by omega
  rw [e, HT.sIx_nat, HT.sIx_nat, Nat.min_eq_left (by omega), Nat.min_eq_left (by omega)]
  have e2 : k + 1 - k = 1 := by omega
  rw [e2, List.drop_eq_getElem_cons hk]
  have e3 := (List.getElem?_eq_some_iff.mp h).2
  simp [e3]

/-! ## the rules whose reading speaks of the written part, with it named (within a comprehension's block) -/
section
variable {X : Cx}
def rLen (K : PySem.W.Frag) : List V → Hp → VK → Prop := fun xs H Q => ∃ x n, xs = [x] ∧ LenV K x H n ∧ Q (.int (n : Nat)) H
def rListOf (K : PySem.W.Frag) : List V → Hp → VK → Prop := fun xs H Q => ∃ p ys, xs = [.ref p] ∧ (SqL K H p ys ∨ SqT K H p ys) ∧ ∀ l, H l = none → Q (.ref l) (upd H l (.lst ys))
def rTupOf (K : PySem.W.Frag) : List V → Hp → VK → Prop := fun xs H Q => ∃ p ys, xs = [.ref p] ∧ ((SqL K H p ys ∧ ∀ l, H l = none → Q (.ref l) (upd H l (.tup ys))) ∨ (SqT K H p ys ∧ Q (.ref p) H))
theorem kix (K : PySem.W.Frag) (h : X.K = K := by rfl) : IxR X (rIx K) := by subst h; exact ix_seq
theorem kixl (K : PySem.W.Frag) (h : X.K = K := by rfl) : IxR X (rIxL K) := by subst h; exact ix_list
theorem kixt (K : PySem.W.Frag) (h : X.K = K := by rfl) : IxR X (rIxT K) := by subst h; exact ix_tup
theorem klen (K : PySem.W.Frag) (h : X.K = K := by rfl) : CallR X (.builtin "len") (rLen K) := by subst h; exact call_len
theorem klist (K : PySem.W.Frag) (h : X.K = K := by rfl) : CallR X (.type "list") (rListOf K) := by subst h; exact call_list_of
theorem ktuple (K : PySem.W.Frag) (h : X.K = K := by rfl) : CallR X (.type "tuple") (rTupOf K) := by subst h; exact call_tuple_of
theorem kisi (K : PySem.W.Frag) (h : X.K = K := by rfl) : CallR X (.builtin "isinstance") (rIsi K) := by subst h; exact call_isi
theorem kisiT (K : PySem.W.Frag) (h : X.K = K := by rfl) : CallR X (.builtin "isinstance") (rIsiT K) := by subst h; exact call_isiT
theorem keqD (K : PySem.W.Frag) (hu : X.A.units + 64 < cLine) (h : X.K = K := by rfl) : OpR X (compareOp .Eq) (rEqD K) := by subst h; exact op_eqD hu
theorem kneD (K : PySem.W.Frag) (hu : X.A.units + 64 < cLine) (h : X.K = K := by rfl) : OpR X (compareOp .NotEq) (rNeD K) := by subst h; exact op_neD hu
theorem kin (K : PySem.W.Frag) (h : X.K = K := by rfl) : OpR X (compareOp .In) (rIn K false) := by subst h; exact op_in_seq
theorem knotin (K : PySem.W.Frag) (h : X.K = K := by rfl) : OpR X (compareOp .NotIn) (rIn K true) := by subst h; exact op_notIn_seq
theorem kcatA (K : PySem.W.Frag) (h : X.K = K := by rfl) : OpR X (binaryOp .Add) (rCatA K) := by subst h; exact op_catA
theorem krepA (K : PySem.W.Frag) (h : X.K = K := by rfl) : OpR X (binaryOp .Mult) (rRepA K) := by subst h; exact op_repA
theorem kslL (K : PySem.W.Frag) (h : X.K = K := by rfl) : SlR X (rSlL K) := by subst h; exact sl_list
theorem kslT (K : PySem.W.Frag) (h : X.K = K := by rfl) : SlR X (rSlA K) := by subst h; exact sl_tupA
theorem ksum (K : PySem.W.Frag) (hc : X.calm = true) (h : X.K = K := by rfl) : CallR X (.builtin "sum") (rSumS K) := by subst h; exact cr_sumS hc
theorem kall (K : PySem.W.Frag) (hc : X.calm = true) (h : X.K = K := by rfl) : CallR X (.builtin "all") (rAll K) := by subst h; exact cr_all hc
theorem kpil (K : PySem.W.Frag) {tg l : Expr} {tl : TE} (hl : PE X l tl) (h : X.K = K := by rfl) : PI X tg l (iList K tl) := by subst h; exact pi_list hl
theorem kpit (K : PySem.W.Frag) {tg l : Expr} {tl : TE} (hl : PE X l tl) (h : X.K = K := by rfl) : PI X tg l (iTup K tl) := by subst h; exact pi_tup hl
theorem kpis (K : PySem.W.Frag) {tg l : Expr} {tl : TE} (hl : PE X l tl) (h : X.K = K := by rfl) : PI X tg l (iSeq K tl) := by subst h; exact pi_seq hl
end

/-! ## own errors with one attribute -/
structure ErrAt (K : PySem.W.Frag) (mg : Str → Option Value) (x qi : Str) (st : Stmt) (f : Str) where
  C : Addr
  fI : Addr
  fd : FuncData
  F : Fun K "__init__" qi st fI fd
  b : Binds K fd ["self", f] []
  T : OexC K C
  iC : PySem.W.findIn K (.ref C) "__init__" = some (some (.ref fI))
  tI : PySem.W.typeIn K (.ref fI) = some (.type "function")
  gC : mg x = some (.ref C)
  nf : PySem.W.findIn K (.ref C) f = some none
  xf : XfC K C
def spInit (C : Addr) (f : Str) : Sp := fun vs H Q _ => ∃ (a : Addr) (y : V), vs = [.ref a, y] ∧ H a = some (exo a C none) ∧
  ∀ d, H d = none → d ≠ a → Q .non (upd (upd H d (exd d [(f, y)])) a (exo a C (some d)))
theorem raised {C a : Addr} {H : Hp} {f : Str} {y : V} {Q : XK} {E : XK} (ha : H a = none) (q : ∀ d H', Ex H H' → H' d = some (.xd [(f, y)]) → Q (.ref C) (some d) H') :
    spInit C f [.ref a, y] (upd H a (exo a C none)) (fun v H2 => v = .non ∧ ∃ (d : Addr) (fs : List (Str × V)), H2 a = some (exo a C (some d)) ∧ H2 d = some (exd d fs) ∧ H d = none ∧ Q (.ref C) (some d) (upd (del H2 a) d (.xd fs))) E := by
  refine ⟨a, y, rfl, upd_same, fun d hd nd => ⟨rfl, d, [(f, y)], upd_same, ?_, ?_, ?_⟩⟩
  · rw [upd_ne nd]; exact upd_same
  · rw [upd_ne nd] at hd; exact hd
  · rw [upd_ne nd] at hd
    refine q d _ (fun b o hb => ?_) upd_same
    have h1 : b ≠ a := ne_of_none hb ha
    have h2 : b ≠ d := ne_of_none hb hd
    rw [upd_ne h2, del_ne h1, upd_ne h1, upd_ne h2, upd_ne h1]
    exact hb
/-- a check: it lets what is right, else raises the error of C with the very value -/
def spChk (C : Addr) (ok : Int → Prop) : Sp := fun vs H Q E => ∃ i : Int, vs = [.int i] ∧ (ok i → ∀ H', Ex H H' → Q .non H') ∧
  (¬ ok i → ∀ d H', Ex H H' → H' d = some (.xd [("given", .int i)]) → E (.ref C) (some d) H')
end L2.U


set_option Elab.async false
set_option linter.all false
set_option maxRecDepth 100000
set_option maxHeartbeats 4000000
namespace L2.U
open PySem PySem.Spec PyProof.Rows Evl
def top (i : Nat) : Stmt := PySem.Challenge.pw_upforgood_k02_most_arranged_and_refused.main.body.getD i (.Pass ⟨0, 0, 0, 0⟩)
abbrev s_is_integer : Stmt := top 2
theorem sc_is_integer : FnScope ["value"] ["value"] (defScope s_is_integer) := ⟨rfl, rfl, rfl, by decide +kernel, rfl, by decide +kernel, by decide +kernel⟩
abbrev s_is_between : Stmt := top 3
theorem sc_is_between : FnScope ["value", "low", "high"] ["value", "low", "high"] (defScope s_is_between) := ⟨rfl, rfl, rfl, by decide +kernel, rfl, by decide +kernel, by decide +kernel⟩
abbrev s_is_from : Stmt := top 4
theorem sc_is_from : FnScope ["value", "low"] ["value", "low"] (defScope s_is_from) := ⟨rfl, rfl, rfl, by decide +kernel, rfl, by decide +kernel, by decide +kernel⟩
abbrev s_is_list : Stmt := top 5
theorem sc_is_list : FnScope ["value"] ["value"] (defScope s_is_list) := ⟨rfl, rfl, rfl, by decide +kernel, rfl, by decide +kernel, by decide +kernel⟩
abbrev s_are_from : Stmt := top 6
theorem sc_are_from : FnScope ["values", "low", "value"] ["values", "low"] (defScope s_are_from) := ⟨rfl, rfl, rfl, by decide +kernel, rfl, by decide +kernel, by decide +kernel⟩
abbrev s_law_cell : Stmt := top 23
theorem sc_law_cell : FnScope ["script", "k"] ["script", "k"] (defScope s_law_cell) := ⟨rfl, rfl, rfl, by decide +kernel, rfl, by decide +kernel, by decide +kernel⟩
abbrev s_law_box : Stmt := top 24
theorem sc_law_box : FnScope ["great"] ["great"] (defScope s_law_box) := ⟨rfl, rfl, rfl, by decide +kernel, rfl, by decide +kernel, by decide +kernel⟩
abbrev s_law_take : Stmt := top 25
theorem sc_law_take : FnScope ["box", "many", "digit", "mixed"] ["box", "many"] (defScope s_law_take) := ⟨rfl, rfl, rfl, by decide +kernel, rfl, by decide +kernel, by decide +kernel⟩
abbrev s_law_same : Stmt := top 26
theorem sc_law_same : FnScope ["told", "due", "k"] ["told", "due"] (defScope s_law_same) := ⟨rfl, rfl, rfl, by decide +kernel, rfl, by decide +kernel, by decide +kernel⟩
structure TA1 (K : PySem.W.Frag) (mg : Str → Option Value) where
  is_integer : DefAt K mg "is_integer" s_is_integer ["value"]
  is_between : DefAt K mg "is_between" s_is_between ["value", "low", "high"]
  is_from : DefAt K mg "is_from" s_is_from ["value", "low"]
  is_list : DefAt K mg "is_list" s_is_list ["value"]
  are_from : DefAt K mg "are_from" s_are_from ["values", "low"]
  law_cell : DefAt K mg "_law_cell" s_law_cell ["script", "k"]
  law_box : DefAt K mg "_law_box" s_law_box ["great"]
  law_take : DefAt K mg "_law_take" s_law_take ["box", "many"]
  law_same : DefAt K mg "_law_same" s_law_same ["told", "due"]
  z_int : mg "int" = none
  z_bool : mg "bool" = none
  z_str : mg "str" = none
  z_list : mg "list" = none
  z_tuple : mg "tuple" = none
  z_len : mg "len" = none
  z_sum : mg "sum" = none
  z_abs : mg "abs" = none
  z_all : mg "all" = none
  z_range : mg "range" = none
  z_isinstance : mg "isinstance" = none
section
variable {P : Program} {w : World} {K : PySem.W.Frag} {mg : Str → Option Value} {base : Heap}
def isI : V → Bool
  | .int _ => true
  | _ => false
/-- a value of one of the kinds of data -/
def Dat (K : PySem.W.Frag) (H : Hp) (x : V) : Prop := ∃ t, t ∈ ["NoneType", "bool", "int", "str", "list", "tuple", "dict"] ∧ TyX K H x (.type t) ∧ isI x = decide (t = "int")
theorem Dat.int {H : Hp} {i : Int} : Dat K H (.int i) := ⟨"int", by decide, .base (.int i), rfl⟩
theorem Dat.ex {H H' : Hp} {x : V} (e : Ex H H') (h : Dat K H x) : Dat K H' x := by
  obtain ⟨t, ht, ty, hi⟩ := h
  refine ⟨t, ht, ?_, hi⟩
  cases ty with
  | base b =>
    refine .base ?_
    cases b with
    | non => exact .non
    | bl x => exact .bl x
    | int i => exact .int i
    | str z => exact .str z
    | flt z => exact .flt z
    | lst h => exact .lst (e _ _ h)
    | frz h => exact .frz (e _ _ h)
    | tup h => exact .tup (e _ _ h)
    | dK h => exact .dK (e _ _ h)
    | dT h => exact .dT (e _ _ h)
  | byt b => exact .byt b
  | set h => exact .set (e _ _ h)
  | kList a b => exact .kList a b
  | kTuple a b => exact .kTuple a b
  | kDict a b => exact .kDict a b
  | fTuple h => exact .fTuple (e _ _ h)
  | fDict h => exact .fDict (e _ _ h)
def spIsInteger (K : PySem.W.Frag) : Sp := fun vs H Q _ => ∃ x, vs = [x] ∧ Dat K H x ∧ Q (.bl (isI x)) H
theorem ok_is_integer (T : TA1 K mg) : FnOk P w K mg base CX0 1 T.is_integer.a T.is_integer.fd ["value"] (spIsInteger K) := by
  refine T.is_integer.F.ok sc_is_integer (fun vs H Q E h => ?_) (fun cdv A outer s H vs Q E hr h => ?_)
  · obtain ⟨x, rfl, _⟩ := h; rfl
  obtain ⟨x, rfl, ⟨t, ht, ty, hi⟩, q⟩ := h
  refine ⟨_, (pss_one (ps_ret (pe_and (pe_callB (kisi K) (by rfl) T.z_isinstance (by decide +kernel) (pa_cons (pv 0) (pa_cons (pe_bltn (v := .ty "int") rfl T.z_int (by decide +kernel) rfl) pa_nil))) (pe_one (pe_not (pe_callB (kisi K) (by rfl) T.z_isinstance (by decide +kernel) (pa_cons (pv 0) (pa_cons (pe_bltn (v := .ty "bool") rfl T.z_bool (by decide +kernel) rfl) pa_nil)))))))), ?_⟩
  simp only [List.mem_cons, List.not_mem_nil, or_false] at ht
  rcases ht with rfl | rfl | rfl | rfl | rfl | rfl | rfl
  · refine ⟨_, rfl, _, _, _, _, _, rfl, .ty "int", ty, kit_ty (r := false) (by decide +kernel), false, rfl, iteF ?_⟩
    rw [hi] at q; exact q
  · refine ⟨_, rfl, _, _, _, _, _, rfl, .ty "int", ty, kit_ty (r := true) (by decide +kernel), true, rfl, iteT ?_⟩
    refine ⟨_, rfl, _, _, _, _, _, rfl, .ty "bool", ty, kit_ty (r := true) (by decide +kernel), true, rfl, ?_⟩
    rw [hi] at q; exact q
  · refine ⟨_, rfl, _, _, _, _, _, rfl, .ty "int", ty, kit_ty (r := true) (by decide +kernel), true, rfl, iteT ?_⟩
    refine ⟨_, rfl, _, _, _, _, _, rfl, .ty "bool", ty, kit_ty (r := false) (by decide +kernel), false, rfl, ?_⟩
    rw [hi] at q; exact q
  all_goals
    refine ⟨_, rfl, _, _, _, _, _, rfl, .ty "int", ty, kit_ty (r := false) (by decide +kernel), false, rfl, iteF ?_⟩
    rw [hi] at q; exact q
def spIsFrom (K : PySem.W.Frag) : Sp := fun vs H Q _ => ∃ (x : V) (lo : Int), vs = [x, .int lo] ∧ Dat K H x ∧ ∀ b, (∀ i, x = .int i → b = decide (lo ≤ i)) → (isI x = false → b = false) → Q (.bl b) H
theorem isI_int {x : V} (h : isI x = true) : ∃ i, x = .int i := by
  cases x <;> first | exact ⟨_, rfl⟩ | cases h
theorem ok_is_from (T : TA1 K mg) : FnOk P w K mg base CX0 2 T.is_from.a T.is_from.fd ["value", "low"] (spIsFrom K) := by
  refine T.is_from.F.ok sc_is_from (fun vs H Q E h => ?_) (fun cdv A outer s H vs Q E hr h => ?_)
  · obtain ⟨x, lo, rfl, _⟩ := h; rfl
  obtain ⟨x, lo, rfl, hd, q⟩ := h
  refine ⟨_, (pss_one (ps_ret (pe_and (pe_call (ok_is_integer T) (hr.mono (by decide)) rfl T.is_integer.m T.is_integer.F.kp T.is_integer.b .nil pass0 (pa_cons (pv 0) pa_nil)) (pe_one (pe_cmpR op_le (pv 1) (pv 0) (nomark _)))))), ?_⟩
  refine ⟨_, rfl, _, rfl, hd, isI x, rfl, ?_⟩
  cases hx : isI x with
  | false => exact q false (fun i e => by rw [e] at hx; cases hx) (fun _ => rfl)
  | true =>
    obtain ⟨i, rfl⟩ := isI_int hx
    refine ⟨_, rfl, _, rfl, _, _, rfl, rfl, q _ (fun j e => by cases e; rfl) (fun e => by cases e)⟩
def spIsBetween (K : PySem.W.Frag) : Sp := fun vs H Q _ => ∃ (x : V) (lo hi : Int), vs = [x, .int lo, .int hi] ∧ Dat K H x ∧ ∀ b, (∀ i, x = .int i → b = decide (lo ≤ i ∧ i ≤ hi)) → (isI x = false → b = false) → Q (.bl b) H
theorem ok_is_between (T : TA1 K mg) : FnOk P w K mg base CX0 2 T.is_between.a T.is_between.fd ["value", "low", "high"] (spIsBetween K) := by
  refine T.is_between.F.ok sc_is_between (fun vs H Q E h => ?_) (fun cdv A outer s H vs Q E hr h => ?_)
  · obtain ⟨x, lo, hi, rfl, _⟩ := h; rfl
  obtain ⟨x, lo, hi, rfl, hd, q⟩ := h
  refine ⟨_, (pss_one (ps_ret (pe_and (pe_call (ok_is_integer T) (hr.mono (by decide)) rfl T.is_integer.m T.is_integer.F.kp T.is_integer.b .nil pass0 (pa_cons (pv 0) pa_nil)) (pe_one (pe_chain op_le op_le (pv 1) (pv 0) (pv 2)))))), ?_⟩
  refine ⟨_, rfl, _, rfl, hd, isI x, rfl, ?_⟩
  cases hx : isI x with
  | false => exact q false (fun i e => by rw [e] at hx; cases hx) (fun _ => rfl)
  | true =>
    obtain ⟨i, rfl⟩ := isI_int hx
    refine ⟨_, rfl, _, rfl, _, _, rfl, rfl, _, rfl, ite2 (fun c => ?_) (fun c => ?_)⟩
    · refine ⟨_, rfl, _, _, rfl, rfl, q _ (fun j e => ?_) (fun e => by cases e)⟩
      cases e
      have c' := of_decide_eq_true c
      simp [c']
    · refine q _ (fun j e => ?_) (fun e => by cases e)
      cases e
      have c' := of_decide_eq_false (Bool.eq_false_iff.mpr c)
      simp [c']
/-! ### data: what a value holds -/
inductive Rd (K : PySem.W.Frag) (ok : Addr → Prop) (H : Hp) : Nat → V → PyData → Prop
  | non {n} : Rd K ok H n .non .none
  | bl {n} (b : Bool) : Rd K ok H n (.bl b) (.bool b)
  | int {n} (i : Int) : Rd K ok H n (.int i) (.int i)
  | str {n} (z : Str) (h : z.length ≤ 1000) (h2 : PyData.strOk z = true) : Rd K ok H n (.str z) (.str z)
  | lst {n} {a : Addr} {xs : List V} {ds : List PyData} (h : H a = some (.lst xs)) (ha : ok a) (hl : xs.length = ds.length) (hz : xs.length ≤ 900)
      (all : ∀ (i : Nat) (x : V) (d : PyData), xs[i]? = some x → ds[i]? = some d → Rd K ok H n x d) : Rd K ok H (n + 1) (.ref a) (.list ds)
  | tup {n} {a : Addr} {xs : List V} {ds : List PyData} (h : SqT K H a xs) (ha : ok a) (hl : xs.length = ds.length) (hz : xs.length ≤ 900)
      (all : ∀ (i : Nat) (x : V) (d : PyData), xs[i]? = some x → ds[i]? = some d → Rd K ok H n x d) : Rd K ok H (n + 1) (.ref a) (.tuple ds)
def RdL (K : PySem.W.Frag) (ok : Addr → Prop) (H : Hp) (n : Nat) (xs : List V) (ds : List PyData) : Prop :=
  xs.length = ds.length ∧ ∀ (i : Nat) (x : V) (d : PyData), xs[i]? = some x → ds[i]? = some d → Rd K ok H n x d
section
variable {ok : Addr → Prop} {H H' : Hp} {n : Nat} {x y : V} {d : PyData}
theorem Rd.keep (kl : ∀ a xs, ok a → H a = some (.lst xs) → H' a = some (.lst xs)) (kt : ∀ a xs, ok a → SqT K H a xs → SqT K H' a xs) (h : Rd K ok H n x d) : Rd K ok H' n x d := by
  induction h with
  | non => exact .non
  | bl b => exact .bl b
  | int i => exact .int i
  | str z h h2 => exact .str z h h2
  | lst h1 ha hl hz _ ih => exact .lst (kl _ _ ha h1) ha hl hz ih
  | tup h1 ha hl hz _ ih => exact .tup (kt _ _ ha h1) ha hl hz ih
theorem Rd.ex (e : Ex H H') (h : Rd K ok H n x d) : Rd K ok H' n x d := h.keep (fun _ _ _ => e _ _) (fun _ _ _ => ex_t e)
theorem Rd.but {b : Addr} (k : But b H H') (hb : ∀ a, ok a → a ≠ b) (h : Rd K ok H n x d) : Rd K ok H' n x d :=
  h.keep (fun _ _ ha hs => k _ _ (hb _ ha) hs) (fun _ _ ha hs => k.sqt (hb _ ha) hs)
theorem Rd.of {ok' : Addr → Prop} (w : ∀ a, ok a → ok' a) (h : Rd K ok H n x d) : Rd K ok' H n x d := by
  induction h with
  | non => exact .non
  | bl b => exact .bl b
  | int i => exact .int i
  | str z h h2 => exact .str z h h2
  | lst h1 ha hl hz _ ih => exact .lst h1 (w _ ha) hl hz ih
  | tup h1 ha hl hz _ ih => exact .tup h1 (w _ ha) hl hz ih
theorem Rd.succ (h : Rd K ok H n x d) : Rd K ok H (n + 1) x d := by
  induction h with
  | non => exact .non
  | bl b => exact .bl b
  | int i => exact .int i
  | str z h h2 => exact .str z h h2
  | lst h1 ha hl hz _ ih => exact .lst h1 ha hl hz ih
  | tup h1 ha hl hz _ ih => exact .tup h1 ha hl hz ih
theorem Rd.le {m : Nat} (h : Rd K ok H n x d) (l : n ≤ m) : Rd K ok H m x d := by
  induction l with
  | refl => exact h
  | step _ ih => exact ih.succ
theorem RdL.ex {xs : List V} {ds : List PyData} (e : Ex H H') (h : RdL K ok H n xs ds) : RdL K ok H' n xs ds := ⟨h.1, fun i x d hx hd => (h.2 i x d hx hd).ex e⟩
theorem RdL.but {b : Addr} {xs : List V} {ds : List PyData} (k : But b H H') (hb : ∀ a, ok a → a ≠ b) (h : RdL K ok H n xs ds) : RdL K ok H' n xs ds := ⟨h.1, fun i x d hx hd => (h.2 i x d hx hd).but k hb⟩
theorem Rd.sm (h : Rd K ok H n x d) : ∀ {ok' : Addr → Prop} {y : V}, Rd K ok' H n y d → Sm K H n x y := by
  induction h with
  | non => intro ok' y h2; cases h2; exact .non
  | bl b => intro ok' y h2; cases h2; exact .bl b
  | int i => intro ok' y h2; cases h2; exact .int i
  | str z h h3 => intro ok' y h2; cases h2; exact .str z h
  | lst h1 ha hl hz all ih =>
    intro ok' y h2
    cases h2 with
    | lst h1' ha' hl' hz' all' =>
      refine .lst (SqL.of h1) (SqL.of h1') (by omega) (by omega) fun i x y hx hy => ?_
      have hi := (List.getElem?_eq_some_iff.mp hx).1
      exact ih i x _ hx (List.getElem?_eq_getElem (by omega)) (all' i y _ hy (List.getElem?_eq_getElem (by omega)))
  | tup h1 ha hl hz all ih =>
    intro ok' y h2
    cases h2 with
    | tup h1' ha' hl' hz' all' =>
      refine .tup h1 h1' (by omega) (by omega) fun i x y hx hy => ?_
      have hi := (List.getElem?_eq_some_iff.mp hx).1
      exact ih i x _ hx (List.getElem?_eq_getElem (by omega)) (all' i y _ hy (List.getElem?_eq_getElem (by omega)))
theorem dpAll_of {xs : List V} : ∀ {ds : List PyData}, xs.length = ds.length → (∀ (i : Nat) (x : V) (d : PyData), xs[i]? = some x → ds[i]? = some d → Dp K H x d) → DpAll K H xs ds := by
  induction xs with
  | nil => intro ds hl _; cases ds with
    | nil => exact .nil
    | cons d r => cases hl
  | cons x r ih => intro ds hl h; cases ds with
    | nil => cases hl
    | cons d r2 => exact .cons (h 0 x d rfl rfl) (ih (Nat.succ.inj hl) fun i x d hx hd => h (i + 1) x d hx hd)
theorem Rd.dp (h : Rd K ok H n x d) : Dp K H x d := by
  induction h with
  | non => exact .non
  | bl b => exact .bl b
  | int i => exact .int i
  | str z h h2 => exact .str z
  | lst h1 ha hl hz _ ih => exact .lst (SqL.of h1) (dpAll_of hl ih)
  | tup h1 ha hl hz _ ih => exact .tup h1 (dpAll_of hl ih)
theorem layAll_of : ∀ {ds : List PyData} {n : Nat}, (∀ d ∈ ds, d.canLay0 = true ∧ d.depth ≤ n) → PyData.canLayAll0 ds = true ∧ PyData.depthAll ds ≤ n
  | [], n, _ => by simp [PyData.canLayAll0, PyData.depthAll]
  | d :: r, n, h => by
    have h1 := h d (by simp)
    have h2 := layAll_of (ds := r) (n := n) fun z hz => h z (by simp [hz])
    simp only [PyData.canLayAll0, PyData.depthAll, h1.1, h2.1, Bool.and_self, true_and]
    omega
theorem Rd.lay (h : Rd K ok H n x d) : d.canLay0 = true ∧ d.depth ≤ n := by
  induction h with
  | non => simp [PyData.canLay0, PyData.depth]
  | bl b => simp [PyData.canLay0, PyData.depth]
  | int i => simp [PyData.canLay0, PyData.depth]
  | str z h h2 => simp [PyData.canLay0, PyData.depth, h2]
  | @lst n a xs ds h1 ha hl hz all ih =>
    have := layAll_of (ds := ds) (n := n) fun d hd => by
      obtain ⟨i, hi⟩ := List.mem_iff_getElem?.mp hd
      have hlt := (List.getElem?_eq_some_iff.mp hi).1
      exact ih i _ d (List.getElem?_eq_getElem (by omega)) hi
    simp only [PyData.canLay0, PyData.depth, this.1, true_and]
    omega
  | @tup n a xs ds h1 ha hl hz all ih =>
    have := layAll_of (ds := ds) (n := n) fun d hd => by
      obtain ⟨i, hi⟩ := List.mem_iff_getElem?.mp hd
      have hlt := (List.getElem?_eq_some_iff.mp hi).1
      exact ih i _ d (List.getElem?_eq_getElem (by omega)) hi
    simp only [PyData.canLay0, PyData.depth, this.1, true_and]
    omega
theorem Rd.shaped (h : Rd K ok H n x d) (hn : n ≤ 64) : SeqAt.shaped d = true := by
  have := h.lay
  unfold SeqAt.shaped
  rw [this.1, decide_eq_true (by omega)]
  rfl
theorem Rd.dat (h : Rd K ok H n x d) : Dat K H x := by
  cases h with
  | non => exact ⟨"NoneType", by decide, .base .non, rfl⟩
  | bl b => exact ⟨"bool", by decide, .base (.bl b), rfl⟩
  | int i => exact .int
  | str z h h2 => exact ⟨"str", by decide, .base (.str z), rfl⟩
  | lst h1 => exact ⟨"list", by decide, tyL (SqL.of h1), rfl⟩
  | tup h1 => exact ⟨"tuple", by decide, tyT h1, rfl⟩
end
def fromD (lo : Int) : PyData → Bool
  | .int i => decide (lo ≤ i)
  | _ => false
def betwD (lo hi : Int) : PyData → Bool
  | .int i => decide (lo ≤ i ∧ i ≤ hi)
  | _ => false
def isSeq : PyData → Bool
  | .list _ => true
  | .tuple _ => true
  | _ => false
theorem rd_from {ok : Addr → Prop} {H : Hp} {n : Nat} {x : V} {d : PyData} {lo : Int} {b : Bool} (h : Rd K ok H n x d) (h1 : ∀ i, x = .int i → b = decide (lo ≤ i)) (h2 : isI x = false → b = false) : b = fromD lo d := by
  cases h <;> first | exact h1 _ rfl | exact h2 rfl
theorem rd_betw {ok : Addr → Prop} {H : Hp} {n : Nat} {x : V} {d : PyData} {lo hi : Int} {b : Bool} (h : Rd K ok H n x d) (h1 : ∀ i, x = .int i → b = decide (lo ≤ i ∧ i ≤ hi)) (h2 : isI x = false → b = false) : b = betwD lo hi d := by
  cases h <;> first | exact h1 _ rfl | exact h2 rfl
def spIsList (K : PySem.W.Frag) : Sp := fun vs H Q _ => ∃ x d n ok, vs = [x] ∧ Rd K ok H n x d ∧ ∀ H', Ex H H' → Q (.bl (isSeq d)) H'
theorem ok_is_list (T : TA1 K mg) : FnOk P w K mg base CX0 1 T.is_list.a T.is_list.fd ["value"] (spIsList K) := by
  refine T.is_list.F.ok sc_is_list (fun vs H Q E h => ?_) (fun cdv A outer s H vs Q E hr h => ?_)
  · obtain ⟨x, d, n, ok, rfl, _⟩ := h; rfl
  obtain ⟨x, d, n, ok, rfl, h, q⟩ := h
  refine ⟨_, (pss_one (ps_ret (pe_callB (kisiT K) (by rfl) T.z_isinstance (by decide +kernel) (pa_cons (pv 0) (pa_cons (pe_tup (pa_cons (pe_bltn (v := .ty "list") rfl T.z_list (by decide +kernel) rfl) (pa_cons (pe_bltn (v := .ty "tuple") rfl T.z_tuple (by decide +kernel) rfl) pa_nil))) pa_nil))))), ?_⟩
  refine ⟨_, rfl, (by show 2 ≤ sizeLine; decide), fun p hp => ?_⟩
  have q1 := q _ (Ex.new (o := .tup [.ty "list", .ty "tuple"]) hp)
  cases h with
  | non => exact ⟨_, p, [.ty "list", .ty "tuple"], _, [.type "list", .type "tuple"], false, rfl, upd_same, .cons (.ty _) (.cons (.ty _) .nil), .base .non, rfl, q1⟩
  | bl b => exact ⟨_, p, [.ty "list", .ty "tuple"], _, [.type "list", .type "tuple"], false, rfl, upd_same, .cons (.ty _) (.cons (.ty _) .nil), .base (.bl b), rfl, q1⟩
  | int i => exact ⟨_, p, [.ty "list", .ty "tuple"], _, [.type "list", .type "tuple"], false, rfl, upd_same, .cons (.ty _) (.cons (.ty _) .nil), .base (.int i), rfl, q1⟩
  | str z _ _ => exact ⟨_, p, [.ty "list", .ty "tuple"], _, [.type "list", .type "tuple"], false, rfl, upd_same, .cons (.ty _) (.cons (.ty _) .nil), .base (.str z), rfl, q1⟩
  | lst h1 => exact ⟨_, p, [.ty "list", .ty "tuple"], _, [.type "list", .type "tuple"], true, rfl, upd_same, .cons (.ty _) (.cons (.ty _) .nil), tyL (SqL.of ((Ex.new hp) _ _ h1)), rfl, q1⟩
  | tup h1 => exact ⟨_, p, [.ty "list", .ty "tuple"], _, [.type "list", .type "tuple"], true, rfl, upd_same, .cons (.ty _) (.cons (.ty _) .nil), tyT (ex_t (Ex.new hp) h1), rfl, q1⟩
theorem at_get {xs : List V} {k : Int} (h0 : 0 ≤ k) (h : k < (xs.length : Int)) : ∃ v, atI xs k = some v ∧ xs[k.toNat]? = some v := by
  have hk : k.toNat < xs.length := by omega
  refine ⟨xs[k.toNat], ?_, List.getElem?_eq_getElem hk⟩
  exact at_of (by omega) (List.getElem?_eq_getElem hk)
theorem ints_get {ns : List Int} {i : Nat} {v : V} (h : (ns.map V.int)[i]? = some v) : ∃ z, ns[i]? = some z ∧ v = .int z := by
  rw [List.getElem?_map] at h
  cases e : ns[i]? with
  | none => rw [e] at h; cases h
  | some z => rw [e] at h; exact ⟨z, rfl, (Option.some.inj h).symm⟩
theorem cutV_ints (ns : List Int) (lo hi : Option Int) : ∃ ms : List Int, cutV (ns.map V.int) lo hi = ms.map V.int := by
  refine ⟨(ns.drop (HT.sIx (ns.map V.int).length 0 lo)).take (HT.sIx (ns.map V.int).length (ns.map V.int).length hi - HT.sIx (ns.map V.int).length 0 lo), ?_⟩
  unfold cutV
  rw [List.map_take, List.map_drop]
theorem ok_law_cell (T : TA1 K mg) : FnOk P w K mg base CX0 1 T.law_cell.a T.law_cell.fd ["script", "k"] (spCell K) := by
  refine T.law_cell.F.ok sc_law_cell (fun vs H Q E h => ?_) (fun cdv A outer s H vs Q E hr h => ?_)
  · obtain ⟨a, ns, k, rfl, _⟩ := h; rfl
  obtain ⟨a, ns, k, rfl, hS, h0, h1, q⟩ := h
  refine ⟨_, (pss_one (ps_ret (pe_ifExp (pt_cmpR op_lt (pv 1) (pe_callB (klen K) (by rfl) T.z_len (by decide +kernel) (pa_cons (pv 0) pa_nil)) (nomark _)) (pe_ix (kixl K) (pv 0) (pv 1) (fun _ _ => rfl)) (pe_op op_add (pe_op op_mul pe_int (pv 1)) (pe_op op_mod (pe_callTy call_int1 (by rfl) T.z_int (by decide +kernel) (pa_cons (pe_callB (ksum K rfl) (by rfl) T.z_sum (by decide +kernel) (pa_cons (pe_slice (kslL K) (pv 0) po_none (po_some pe_int)) pa_nil)) pa_nil)) pe_int))))), ?_⟩
  refine ⟨_, rfl, _, rfl, _, _, rfl, .inl ⟨_, hS, rfl⟩, _, _, rfl, rfl, _, rfl, ite2 (fun c => ?_) (fun c => ?_)⟩
  · have c' := of_decide_eq_true c
    obtain ⟨v, hv, hg⟩ := at_get h0 c'
    obtain ⟨z, _, rfl⟩ := ints_get hg
    exact ⟨_, rfl, _, rfl, _, _, _, _, rfl, rfl, hS, hv, q _ _ (Ex.refl _)⟩
  · refine ⟨_, rfl, _, _, rfl, rfl, .inl ⟨by decide, by decide⟩, _, rfl, _, rfl, _, _, rfl, hS, fun p hp => ?_⟩
    obtain ⟨ms, em⟩ := cutV_ints ns none (some 1)
    rw [em]
    refine ⟨p, ms, rfl, .inl (SqL.of upd_same), .inl ⟨_, rfl, _, _, rfl, rfl, (show (0 : Int) < 1000033 by decide), _, _, rfl, rfl, q _ _ (Ex.new hp)⟩⟩
theorem ok_law_box (T : TA1 K mg) : FnOk P w K mg base CX0 1 T.law_box.a T.law_box.fd ["great"] spBox := by
  refine T.law_box.F.ok sc_law_box (fun vs H Q E h => ?_) (fun cdv A outer s H vs Q E hr h => ?_)
  · obtain ⟨g, rfl, _⟩ := h; rfl
  obtain ⟨g, rfl, q⟩ := h
  refine ⟨_, (pss_one (ps_ret (pe_lst (pa_cons (pe_callB call_abs (by rfl) T.z_abs (by decide +kernel) (pa_cons (pv 0) pa_nil)) (pa_cons (pe_cmpR op_ge (pe_callB call_abs (by rfl) T.z_abs (by decide +kernel) (pa_cons (pv 0) pa_nil)) (pe_op op_pow pe_int pe_int) (nomark _)) (pa_cons (pe_op op_mod (pe_callTy call_int1 (by rfl) T.z_int (by decide +kernel) (pa_cons (pe_callB call_abs (by rfl) T.z_abs (by decide +kernel) (pa_cons (pv 0) pa_nil)) pa_nil)) pe_int) (pa_cons pe_int pa_nil))))))), ?_⟩
  refine ⟨_, rfl, _, rfl, _, rfl, _, rfl, _, _, rfl, rfl, ⟨by decide, by decide, by decide⟩, _, _, rfl, rfl, _, rfl, _, rfl, .inl ⟨_, rfl, _, _, rfl, rfl, (show (0 : Int) < 2147483629 by decide), (by show 4 ≤ sizeLine; decide), fun p hp => ?_⟩⟩
  refine q p _ hp (Ex.new hp) ⟨_, _, _, _, upd_same, ?_, ?_, ?_, by decide, by decide⟩
  · split <;> omega
  · omega
  · omega
theorem fmod_in {a m : Int} (h : 0 < m) : 0 ≤ a % m ∧ a % m < m := by
  exact ⟨Int.emod_nonneg _ (by omega), Int.emod_lt_of_pos _ h⟩
theorem ok_law_take (T : TA1 K mg) : FnOk P w K mg base CX0 1 T.law_take.a T.law_take.fd ["box", "many"] spTake := by
  refine T.law_take.F.ok sc_law_take (fun vs H Q E h => ?_) (fun cdv A outer s H vs Q E hr h => ?_)
  · obtain ⟨b, m, n, rfl, _⟩ := h; rfl
  obtain ⟨b, m, n, rfl, m0, m1, ⟨d, sd, c, f, hb, d0, s0, s1, c0, c1⟩, q⟩ := h
  have hL := SqL.of (K := K) hb
  refine ⟨_, (pss_cut (ps_if (PW.pt (pw_and (pt_val (pe_ix (kixl K) (pv 0) pe_int (fun _ _ => rfl))) (pw_and1 (pt_cmpR op_gt (pe_ix (kixl K) (pv 0) pe_int (fun _ _ => rfl)) pe_int (nomark _))))) (pss_cons (ps_set (i := 2) sc_law_take.nd rfl (Or.inl rfl) (pe_op op_mod (pe_callTy call_int1 (by rfl) T.z_int (by decide +kernel) (pa_cons (pe_ix (kixl K) (pv 0) pe_int (fun _ _ => rfl)) pa_nil)) (pv 1)))
    (pss_cons (ps_asg (pe_op op_fdiv (pe_ix (kixl K) (pv 0) pe_int (fun _ _ => rfl)) (pv 1)) (pg_sub (pv 0) pe_int set_list))
    (pss_one (ps_ret (pv 2))))) pss_nil)
    (pss_cons (ps_asg (pe_op op_add (pe_ix (kixl K) (pv 0) pe_int (fun _ _ => rfl)) pe_int) (pg_sub (pv 0) pe_int set_list))
    (pss_cons (ps_set (i := 3) sc_law_take.nd rfl (Or.inl rfl) (pe_op op_mod (pe_callTy call_int1 (by rfl) T.z_int (by decide +kernel) (pa_cons (pe_op op_pow (pe_op op_add (pe_op op_add (pe_ix (kixl K) (pv 0) pe_int (fun _ _ => rfl)) (pe_op op_mul pe_int (pe_ix (kixl K) (pv 0) pe_int (fun _ _ => rfl)))) pe_int) pe_int) pa_nil)) pe_int))
    (pss_one (ps_ret (pe_op op_mod (pe_callTy call_int1 (by rfl) T.z_int (by decide +kernel) (pa_cons (pe_op op_fdiv (pe_op op_mod (pe_callTy call_int1 (by rfl) T.z_int (by decide +kernel) (pa_cons (pe_op op_pow (pe_op op_add (pe_op op_mul (pv 3) pe_int) (pe_op op_mul pe_int (pe_ix (kixl K) (pv 0) pe_int (fun _ _ => rfl)))) pe_int) pa_nil)) pe_int) pe_int) pa_nil)) (pv 1))))))), ?_⟩
  have mres : ∀ x : Int, 0 ≤ x % m ∧ x % m < m := fun x => fmod_in m0
  have fm : ∀ {a k : Int}, 0 ≤ a → 0 < k → 0 ≤ a % k ∧ a % k < k := fun _ h => fmod_in h
  refine ⟨fun σ' H' => σ' = [some (.ref b), some (.int m), none, none] ∧ H' = H, ?_, ?_⟩
  · refine ⟨_, rfl, _, _, _, _, rfl, rfl, hL, rfl, f, rfl, ?_⟩
    cases f with
    | false => exact ⟨rfl, rfl⟩
    | true =>
      refine ⟨_, rfl, _, _, _, _, rfl, rfl, hL, rfl, _, _, rfl, rfl, _, rfl, ite2 (fun c => ?_) (fun _ => ⟨rfl, rfl⟩)⟩
      refine ⟨_, rfl, _, _, _, _, rfl, rfl, hL, rfl, .inl ⟨_, rfl, _, rfl, _, _, rfl, rfl, m0, ?_⟩⟩
      refine ⟨_, rfl, _, _, _, _, rfl, rfl, hL, rfl, _, rfl, _, _, rfl, rfl, ⟨by omega, by omega⟩, ?_⟩
      refine ⟨_, rfl, b, _, 0, 0, rfl, rfl, hb, rfl, ?_⟩
      refine ⟨_, rfl, q _ _ (mres _).1 (mres _).2 ⟨_, _, _, _, upd_same, ?_, s0, s1, c0, by omega⟩ But.upd⟩
      exact Int.ediv_nonneg d0 (by omega)
  · rintro σ' H' ⟨rfl, rfl⟩
    refine ⟨_, rfl, _, _, _, _, rfl, rfl, hL, rfl, _, _, rfl, rfl, ?_⟩
    refine ⟨_, rfl, b, _, 3, 3, rfl, rfl, hb, rfl, ?_⟩
    have hb2 : upd H' b (.lst [.int d, .bl f, .int sd, .int (c + 1)]) b = some (.lst [.int d, .bl f, .int sd, .int (c + 1)]) := upd_same
    have hL2 := SqL.of (K := K) hb2
    have r1 := @fmod_in ((sd + 15485863 * (c + 1) + 179424673) ^ (5 : Int).toNat) 2147483647 (by decide)
    refine ⟨_, rfl, _, _, _, _, rfl, rfl, hL2, rfl, ?_⟩
    refine ⟨_, rfl, _, _, _, _, rfl, rfl, hL2, rfl, _, _, rfl, rfl, .inl ⟨by decide, by decide⟩, _, _, rfl, rfl, _, _, rfl, rfl, ?_⟩
    refine ⟨_, _, rfl, rfl, ⟨by decide, by decide, by omega⟩, .inl ⟨_, rfl, _, _, rfl, rfl, (show (0 : Int) < 2147483647 by decide), ?_⟩⟩
    refine ⟨_, rfl, _, _, rfl, rfl, .inr ⟨by decide, by decide⟩, ?_⟩
    refine ⟨_, rfl, _, _, _, _, rfl, rfl, hL2, rfl, _, _, rfl, rfl, .inl ⟨by decide, by decide⟩, _, _, rfl, rfl, ?_⟩
    refine ⟨_, _, rfl, rfl, ⟨by decide, by decide, by omega⟩, .inl ⟨_, rfl, _, _, rfl, rfl, (show (0 : Int) < 2147483587 by decide), ?_⟩⟩
    refine ⟨_, _, rfl, rfl, ⟨by decide, by decide⟩, .inl ⟨_, rfl, _, rfl, _, _, rfl, rfl, m0, ?_⟩⟩
    exact q _ _ (mres _).1 (mres _).2 ⟨_, _, _, _, hb2, d0, s0, s1, by omega, by omega⟩ But.upd
/-! ### the law's own sameness -/
theorem none_left {sp : Sp} {f : Addr} {fd : FuncData} {ps : List Str} (no : ∀ vs H Q E, ¬ sp vs H Q E) : FnOk P w K mg base CX0 0 f fd ps sp :=
  ⟨fun vs H Q E h => absurd h (no vs H Q E), fun A outer s H args us vs Q E _ _ _ _ h => absurd h (no vs H Q E)⟩
theorem isi_at {H : Hp} {x : V} {t u : String} {b : Bool} {Q : VK} (ty : TyX K H x (.type t)) (h : kitB t u = some b) (q : Q (.bl b) H) : rIsi K [x, .ty u] H Q :=
  ⟨x, .ty u, _, _, b, rfl, .ty u, ty, kit_ty h, q⟩
def spS (K : PySem.W.Frag) : Nat → Sp
  | 0 => fun _ _ _ _ => False
  | n + 1 => spSame K n
theorem no_given {n : Nat} {v : Nat → V} : given n (fun _ => false) v = [] := by
  unfold given
  rw [List.filter_eq_nil_iff.mpr (by intro a _; decide)]
  rfl
theorem eq_empty {ta : TE} {σ : L2.St} {H : Hp} {xs : List V} (hx : xs = []) (h : EvL ta σ H xs) : Ev (tOp (rEqD K) ta (tLst tNil)) σ H (.bl true) := by
  subst hx
  exact ev_opLL h (el_lst ea_nil (Nat.zero_le _)) fun p q H1 hp hq _ => rv_val fun H2 e2 Q k =>
    ⟨.list [], .list [], .lst (SqL.of (e2 _ _ hp)) .nil, .lst (SqL.of (e2 _ _ hq)) .nil, rfl, rfl, k⟩
theorem same_step (T : TA1 K mg) (n : Nat) (ih : FnOk P w K mg base CX0 n T.law_same.a T.law_same.fd ["told", "due"] (spS K n)) :
    FnOk P w K mg base CX0 (n + 1) T.law_same.a T.law_same.fd ["told", "due"] (spS K (n + 1)) := by
  refine T.law_same.F.ok sc_law_same (fun vs H Q E h => ?_) (fun cdv A outer s H vs Q E hr h => ?_)
  · obtain ⟨x, y, rfl, _⟩ := h; rfl
  obtain ⟨x, y, rfl, hS, q⟩ := h
  refine ⟨_, (pss_cons (ps_if (PW.pt (pw_or (pt_cmpR op_isN (pv 1) pe_non (nomark _)) (pw_or1 (pt_val (pe_callB (kisi K) (by rfl) T.z_isinstance (by decide +kernel) (pa_cons (pv 1) (pa_cons (pe_bltn (v := .ty "bool") rfl T.z_bool (by decide +kernel) rfl) pa_nil))))))) (pss_one (ps_ret (pe_ifExp (pt_cmpR op_isN (pv 1) pe_non (nomark _)) (pe_cmpR op_isN (pv 0) pe_non (nomark _)) (pe_and (pe_callB (kisi K) (by rfl) T.z_isinstance (by decide +kernel) (pa_cons (pv 0) (pa_cons (pe_bltn (v := .ty "bool") rfl T.z_bool (by decide +kernel) rfl) pa_nil))) (pe_one (pe_cmpR op_eq (pe_cmpR op_is_bl (pv 0) pe_bl (nomark _)) (pe_cmpR op_is_bl (pv 1) pe_bl (nomark _)) (nomark _))))))) pss_nil)
    (pss_cons (ps_if (pt_val (pe_callB (kisi K) (by rfl) T.z_isinstance (by decide +kernel) (pa_cons (pv 1) (pa_cons (pe_bltn (v := .ty "int") rfl T.z_int (by decide +kernel) rfl) pa_nil)))) (pss_one (ps_ret (pe_and (pe_callB (kisi K) (by rfl) T.z_isinstance (by decide +kernel) (pa_cons (pv 0) (pa_cons (pe_bltn (v := .ty "int") rfl T.z_int (by decide +kernel) rfl) pa_nil))) (pe_and (pe_not (pe_callB (kisi K) (by rfl) T.z_isinstance (by decide +kernel) (pa_cons (pv 0) (pa_cons (pe_bltn (v := .ty "bool") rfl T.z_bool (by decide +kernel) rfl) pa_nil)))) (pe_one (pe_cmpR op_eq (pe_op op_sub (pe_callTy call_int1 (by rfl) T.z_int (by decide +kernel) (pa_cons (pv 0) pa_nil)) (pv 1)) pe_int (nomark _))))))) pss_nil)
    (pss_cons (ps_if (pt_val (pe_callB (kisi K) (by rfl) T.z_isinstance (by decide +kernel) (pa_cons (pv 1) (pa_cons (pe_bltn (v := .ty "str") rfl T.z_str (by decide +kernel) rfl) pa_nil)))) (pss_one (ps_ret (pe_and (pe_callB (kisi K) (by rfl) T.z_isinstance (by decide +kernel) (pa_cons (pv 0) (pa_cons (pe_bltn (v := .ty "str") rfl T.z_str (by decide +kernel) rfl) pa_nil))) (pe_and (pe_cmpR op_eq (pe_callB (klen K) (by rfl) T.z_len (by decide +kernel) (pa_cons (pv 0) pa_nil)) (pe_callB (klen K) (by rfl) T.z_len (by decide +kernel) (pa_cons (pv 1) pa_nil)) (nomark _)) (pe_one (pe_cmpR (keqD K hr.units) (pe_lc (own := [("k", 2)]) (g := gName 2) (by rfl) sc_law_same.nd (pi_range1 rfl T.z_range (pa_cons (pe_callB (klen K) (by rfl) T.z_len (by decide +kernel) (pa_cons (pv 1) pa_nil)) pa_nil)) (blkOk_by (own := [("k", 2)]) (N := ["told", "due", "k"]) (sc := defScope s_law_same) (by decide +kernel)) (fun _ _ _ _ _ => (pg_name (i := 2) sc_law_same.nd rfl (Or.inl rfl))) (fun _ _ _ _ _ => (pts_one (pt_cmpR op_ne (pe_slice sl_str (pv 0) (po_some (pv 2)) (po_some (pe_op op_add (pv 2) pe_int))) (pe_ix (kix K) (pv 1) (pv 2) (fun _ _ => rfl)) (nomark _)))) (fun _ _ _ _ _ => (pv 2))) (pe_lst pa_nil) (nomark _))))))) pss_nil)
    (pss_cons (ps_if (PW.pt (pw_or (pt_cmpR op_ne (pe_callB (kisi K) (by rfl) T.z_isinstance (by decide +kernel) (pa_cons (pv 0) (pa_cons (pe_bltn (v := .ty "list") rfl T.z_list (by decide +kernel) rfl) pa_nil))) (pe_callB (kisi K) (by rfl) T.z_isinstance (by decide +kernel) (pa_cons (pv 1) (pa_cons (pe_bltn (v := .ty "list") rfl T.z_list (by decide +kernel) rfl) pa_nil))) (nomark _)) (pw_or1 (pt_cmpR op_ne (pe_callB (kisi K) (by rfl) T.z_isinstance (by decide +kernel) (pa_cons (pv 0) (pa_cons (pe_bltn (v := .ty "tuple") rfl T.z_tuple (by decide +kernel) rfl) pa_nil))) (pe_callB (kisi K) (by rfl) T.z_isinstance (by decide +kernel) (pa_cons (pv 1) (pa_cons (pe_bltn (v := .ty "tuple") rfl T.z_tuple (by decide +kernel) rfl) pa_nil))) (nomark _))))) (pss_one (ps_ret pe_bl)) pss_nil)
    (pss_one (ps_ret (pe_and (pe_cmpR op_eq (pe_callB (klen K) (by rfl) T.z_len (by decide +kernel) (pa_cons (pv 0) pa_nil)) (pe_callB (klen K) (by rfl) T.z_len (by decide +kernel) (pa_cons (pv 1) pa_nil)) (nomark _)) (pe_one (pe_cmpR (keqD K hr.units) (pe_lc (own := [("k", 2)]) (g := gName 2) (by rfl) sc_law_same.nd (pi_range1 rfl T.z_range (pa_cons (pe_callB (klen K) (by rfl) T.z_len (by decide +kernel) (pa_cons (pv 1) pa_nil)) pa_nil)) (blkOk_by (own := [("k", 2)]) (N := ["told", "due", "k"]) (sc := defScope s_law_same) (by decide +kernel)) (fun _ _ _ _ _ => (pg_name (i := 2) sc_law_same.nd rfl (Or.inl rfl))) (fun _ _ _ _ _ => (pts_one (pt_not (pt_val (pe_call (ih) hr rfl T.law_same.m T.law_same.F.kp T.law_same.b .nil pass0 (pa_cons (pe_ix (kix K) (pv 0) (pv 2) (fun _ _ => rfl)) (pa_cons (pe_ix (kix K) (pv 1) (pv 2) (fun _ _ => rfl)) pa_nil))))))) (fun _ _ _ _ _ => (pv 2))) (pe_lst pa_nil) (nomark _)))))))))), ?_⟩
  cases hS with
  | non => exact ⟨_, rfl, rfl, _, rfl, iteT (iteT ⟨_, rfl, rfl, _, rfl, iteT ⟨_, rfl, rfl, q _ (Ex.refl _)⟩⟩)⟩
  | bl b =>
    refine ⟨_, rfl, rfl, _, rfl, iteF ⟨_, rfl, _, _, _, _, true, rfl, .ty _, (.base (.bl b)), kit_ty (by decide +kernel), ⟨_, rfl, iteT ⟨_, rfl, rfl, _, rfl, iteF ?_⟩⟩⟩⟩
    refine ⟨_, rfl, _, _, _, _, true, rfl, .ty _, (.base (.bl b)), kit_ty (by decide +kernel), ⟨_, rfl, iteT ⟨_, rfl, _, _, rfl, rfl, _, rfl, _, _, rfl, rfl, rfl, ?_⟩⟩⟩
    rw [decide_eq_true (rfl : V.bl (decide (b = true)) = V.bl (decide (b = true)))]
    exact q _ (Ex.refl _)
  | int i =>
    refine ⟨_, rfl, rfl, _, rfl, iteF ⟨_, rfl, _, _, _, _, false, rfl, .ty _, (.base (.int i)), kit_ty (by decide +kernel), ⟨_, rfl, iteF ?_⟩⟩⟩
    refine ⟨_, rfl, _, _, _, _, true, rfl, .ty _, (.base (.int i)), kit_ty (by decide +kernel), ⟨_, rfl, iteT ?_⟩⟩
    refine ⟨_, rfl, _, _, _, _, true, rfl, .ty _, (.base (.int i)), kit_ty (by decide +kernel), ⟨_, rfl, iteT ?_⟩⟩
    refine ⟨_, rfl, _, _, _, _, false, rfl, .ty _, (.base (.int i)), kit_ty (by decide +kernel), ⟨_, rfl, _, rfl, iteT ?_⟩⟩
    refine ⟨_, rfl, .inl ⟨_, rfl, _, rfl, _, _, rfl, rfl, rfl, ?_⟩⟩
    show Q (V.bl (decide (V.int (i - i) = V.int 0))) H
    rw [Int.sub_self]
    exact q _ (Ex.refl _)
  | str z hz =>
    have hz' : z.length ≤ sizeLine := Nat.le_trans hz (by decide)
    refine ⟨_, rfl, rfl, _, rfl, iteF ⟨_, rfl, _, _, _, _, false, rfl, .ty _, (.base (.str z)), kit_ty (by decide +kernel), ⟨_, rfl, iteF ?_⟩⟩⟩
    refine ⟨_, rfl, _, _, _, _, false, rfl, .ty _, (.base (.str z)), kit_ty (by decide +kernel), ⟨_, rfl, iteF ?_⟩⟩
    refine ⟨_, rfl, _, _, _, _, true, rfl, .ty _, (.base (.str z)), kit_ty (by decide +kernel), ⟨_, rfl, iteT ?_⟩⟩
    refine ⟨_, rfl, _, _, _, _, true, rfl, .ty _, (.base (.str z)), kit_ty (by decide +kernel), ⟨_, rfl, iteT ?_⟩⟩
    refine ⟨_, rfl, _, z.length, rfl, ⟨hz', rfl⟩, _, rfl, _, z.length, rfl, ⟨hz', rfl⟩, rfl, _, rfl, ?_⟩
    rw [if_pos (decide_eq_true rfl)]
    refine eq_empty (no_given (n := (z.length : Int).toNat) (v := fun _ => V.non)) ?_ H (Ex.refl _) Q (fun H2 e2 => q H2 e2)
    refine el_lcR1 (fun _ => false) (fun _ => V.non) ?_ ⟨by omega, by omega⟩ (fun _ => rfl) ?_ (fun _ _ _ _ hf => nomatch hf)
    · exact fun H1 e Q' k => ⟨_, rfl, _, z.length, rfl, ⟨hz', rfl⟩, k H1 (Ex.refl _)⟩
    · intro i H1 e hi
      have hz2 : i < z.cps.toList.length := by
        have e2 : z.cps.toList.length = z.length := Array.length_toList
        omega
      have hat : atI z.cps.toList (i : Int) = some z.cps.toList[i] := atI_nat (List.getElem?_eq_getElem hz2)
      have hc := cut_one (List.getElem?_eq_getElem hz2)
      intro H2 e2 Q2 k2
      refine ⟨_, rfl, _, rfl, _, rfl, _, rfl, _, _, rfl, rfl, _, rfl, z, rfl, hz', _, rfl, _, rfl, .inr (.inr ⟨z, _, _, rfl, rfl, hz', hat, rfl, _, rfl, ?_⟩)⟩
      rw [hc, decide_eq_true rfl]
      exact k2 H2 (Ex.refl _)
  | @lst n a b xs ys h1 h2 hl hl1 all =>
    refine ⟨_, rfl, rfl, _, rfl, iteF ⟨_, rfl, _, _, _, _, false, rfl, .ty _, (tyL h2), kit_ty (by decide +kernel), ⟨_, rfl, iteF ?_⟩⟩⟩
    refine ⟨_, rfl, _, _, _, _, false, rfl, .ty _, (tyL h2), kit_ty (by decide +kernel), ⟨_, rfl, iteF ?_⟩⟩
    refine ⟨_, rfl, _, _, _, _, false, rfl, .ty _, (tyL h2), kit_ty (by decide +kernel), ⟨_, rfl, iteF ?_⟩⟩
    refine ⟨_, rfl, _, _, _, _, true, rfl, .ty _, (tyL h1), kit_ty (by decide +kernel), ⟨_, rfl, _, _, _, _, true, rfl, .ty _, (tyL h2), kit_ty (by decide +kernel), ⟨rfl, _, rfl, iteF ?_⟩⟩⟩
    refine ⟨_, rfl, _, _, _, _, false, rfl, .ty _, (tyL h1), kit_ty (by decide +kernel), ⟨_, rfl, _, _, _, _, false, rfl, .ty _, (tyL h2), kit_ty (by decide +kernel), ⟨rfl, _, rfl, iteF ?_⟩⟩⟩
    refine ⟨_, rfl, _, xs.length, rfl, .inl ⟨_, h1, rfl⟩, _, rfl, _, ys.length, rfl, .inl ⟨_, h2, rfl⟩, rfl, _, rfl, ?_⟩
    rw [if_pos (decide_eq_true (by rw [hl]))]
    refine eq_empty (no_given (n := (ys.length : Int).toNat) (v := fun _ => V.non)) ?_ H (Ex.refl _) Q (fun H2 e2 => q H2 e2)
    refine el_lcR1 (fun _ => false) (fun _ => V.non) ?_ ⟨by omega, by omega⟩ (fun _ => rfl) ?_ (fun _ _ _ _ hf => nomatch hf)
    · exact fun H1 e Q' k => ⟨_, rfl, _, ys.length, rfl, .inl ⟨_, ex_l e h2, rfl⟩, k H1 (Ex.refl _)⟩
    · intro i H1 e hi H2 e2 Q2 k2
      have hy : ys[i]? = some ys[i] := List.getElem?_eq_getElem (by omega)
      have hx : xs[i]? = some xs[i] := List.getElem?_eq_getElem (by omega)
      refine ⟨_, rfl, _, rfl, .inl ⟨_, _, _, _, rfl, rfl, ex_l (e.trans e2) h1, atI_nat hx, _, rfl, _, rfl, .inl ⟨_, _, _, _, rfl, rfl, ex_l (e.trans e2) h2, atI_nat hy, ?_⟩⟩⟩
      exact ⟨_, _, rfl, (all i _ _ hx hy).ex (e.trans e2), fun H3 e3 => ⟨true, rfl, k2 H3 e3⟩⟩
  | @tup n a b xs ys h1 h2 hl hl1 all =>
    refine ⟨_, rfl, rfl, _, rfl, iteF ⟨_, rfl, _, _, _, _, false, rfl, .ty _, (tyT h2), kit_ty (by decide +kernel), ⟨_, rfl, iteF ?_⟩⟩⟩
    refine ⟨_, rfl, _, _, _, _, false, rfl, .ty _, (tyT h2), kit_ty (by decide +kernel), ⟨_, rfl, iteF ?_⟩⟩
    refine ⟨_, rfl, _, _, _, _, false, rfl, .ty _, (tyT h2), kit_ty (by decide +kernel), ⟨_, rfl, iteF ?_⟩⟩
    refine ⟨_, rfl, _, _, _, _, false, rfl, .ty _, (tyT h1), kit_ty (by decide +kernel), ⟨_, rfl, _, _, _, _, false, rfl, .ty _, (tyT h2), kit_ty (by decide +kernel), ⟨rfl, _, rfl, iteF ?_⟩⟩⟩
    refine ⟨_, rfl, _, _, _, _, true, rfl, .ty _, (tyT h1), kit_ty (by decide +kernel), ⟨_, rfl, _, _, _, _, true, rfl, .ty _, (tyT h2), kit_ty (by decide +kernel), ⟨rfl, _, rfl, iteF ?_⟩⟩⟩
    refine ⟨_, rfl, _, xs.length, rfl, .inr ⟨_, h1, rfl⟩, _, rfl, _, ys.length, rfl, .inr ⟨_, h2, rfl⟩, rfl, _, rfl, ?_⟩
    rw [if_pos (decide_eq_true (by rw [hl]))]
    refine eq_empty (no_given (n := (ys.length : Int).toNat) (v := fun _ => V.non)) ?_ H (Ex.refl _) Q (fun H2 e2 => q H2 e2)
    refine el_lcR1 (fun _ => false) (fun _ => V.non) ?_ ⟨by omega, by omega⟩ (fun _ => rfl) ?_ (fun _ _ _ _ hf => nomatch hf)
    · exact fun H1 e Q' k => ⟨_, rfl, _, ys.length, rfl, .inr ⟨_, ex_t e h2, rfl⟩, k H1 (Ex.refl _)⟩
    · intro i H1 e hi H2 e2 Q2 k2
      have hy : ys[i]? = some ys[i] := List.getElem?_eq_getElem (by omega)
      have hx : xs[i]? = some xs[i] := List.getElem?_eq_getElem (by omega)
      refine ⟨_, rfl, _, rfl, .inr (.inl ⟨_, _, _, _, rfl, rfl, ex_t (e.trans e2) h1, atI_nat hx, _, rfl, _, rfl, .inr (.inl ⟨_, _, _, _, rfl, rfl, ex_t (e.trans e2) h2, atI_nat hy, ?_⟩)⟩)⟩
      exact ⟨_, _, rfl, (all i _ _ hx hy).ex (e.trans e2), fun H3 e3 => ⟨true, rfl, k2 H3 e3⟩⟩
theorem ok_same (T : TA1 K mg) : ∀ n, FnOk P w K mg base CX0 n T.law_same.a T.law_same.fd ["told", "due"] (spS K n)
  | 0 => none_left fun _ _ _ _ h => h
  | n + 1 => same_step T n (ok_same T n)
theorem ok_law_same (T : TA1 K mg) : FnOk P w K mg base CX0 9 T.law_same.a T.law_same.fd ["told", "due"] (spSame K 8) := ok_same T 9
end
end L2.U


set_option Elab.async false
set_option linter.all false
set_option maxRecDepth 100000
set_option maxHeartbeats 4000000
namespace L2.U
open PySem PySem.Spec PyProof.Rows Evl

abbrev s_factorial : Stmt := top 15
theorem sc_factorial : FnScope ["number", "result", "factor"] ["number"] (defScope s_factorial) := ⟨rfl, rfl, rfl, by decide +kernel, rfl, by decide +kernel, by decide +kernel⟩
abbrev s_choose : Stmt := top 16
theorem sc_choose : FnScope ["number", "many"] ["number", "many"] (defScope s_choose) := ⟨rfl, rfl, rfl, by decide +kernel, rfl, by decide +kernel, by decide +kernel⟩
abbrev s_arrangements : Stmt := top 17
theorem sc_arrangements : FnScope ["parts", "result", "total", "part"] ["parts"] (defScope s_arrangements) := ⟨rfl, rfl, rfl, by decide +kernel, rfl, by decide +kernel, by decide +kernel⟩
abbrev s_even_parts : Stmt := top 18
theorem sc_even_parts : FnScope ["total", "many", "low", "greater"] ["total", "many"] (defScope s_even_parts) := ⟨rfl, rfl, rfl, by decide +kernel, rfl, by decide +kernel, by decide +kernel⟩
abbrev s_most_arranged : Stmt := top 19
theorem sc_most_arranged : FnScope ["total", "rounds", "rest"] ["total", "rounds", "rest"] (defScope s_most_arranged) := ⟨rfl, rfl, rfl, by decide +kernel, rfl, by decide +kernel, by decide +kernel⟩
abbrev s_check_number : Stmt := top 20
theorem sc_check_number : FnScope ["number"] ["number"] (defScope s_check_number) := ⟨rfl, rfl, rfl, by decide +kernel, rfl, by decide +kernel, by decide +kernel⟩
abbrev s_check_many : Stmt := top 21
theorem sc_check_many : FnScope ["many"] ["many"] (defScope s_check_many) := ⟨rfl, rfl, rfl, by decide +kernel, rfl, by decide +kernel, by decide +kernel⟩
abbrev s_init_InvalidNumber : Stmt := inClass (top 9) 0
theorem sc_init_InvalidNumber : FnScope ["self", "given"] ["self", "given"] (defScope s_init_InvalidNumber) := ⟨rfl, rfl, rfl, by decide +kernel, rfl, by decide +kernel, by decide +kernel⟩
abbrev s_init_InvalidMany : Stmt := inClass (top 10) 0
theorem sc_init_InvalidMany : FnScope ["self", "given"] ["self", "given"] (defScope s_init_InvalidMany) := ⟨rfl, rfl, rfl, by decide +kernel, rfl, by decide +kernel, by decide +kernel⟩
abbrev s_init_InvalidParts : Stmt := inClass (top 11) 0
theorem sc_init_InvalidParts : FnScope ["self", "given"] ["self", "given"] (defScope s_init_InvalidParts) := ⟨rfl, rfl, rfl, by decide +kernel, rfl, by decide +kernel, by decide +kernel⟩
abbrev s_init_InvalidRest : Stmt := inClass (top 12) 0
theorem sc_init_InvalidRest : FnScope ["self", "given"] ["self", "given"] (defScope s_init_InvalidRest) := ⟨rfl, rfl, rfl, by decide +kernel, rfl, by decide +kernel, by decide +kernel⟩
structure TA2 (K : PySem.W.Frag) (mg : Str → Option Value) extends TA1 K mg where
  factorial : DefAt K mg "factorial" s_factorial ["number"]
  choose : DefAt K mg "choose" s_choose ["number", "many"]
  arrangements : DefAt K mg "arrangements" s_arrangements ["parts"]
  even_parts : DefAt K mg "even_parts" s_even_parts ["total", "many"]
  most_arranged : DefAt K mg "most_arranged" s_most_arranged ["total", "rounds", "rest"]
  check_number : DefAt K mg "_check_number" s_check_number ["number"]
  check_many : DefAt K mg "_check_many" s_check_many ["many"]
  InvalidNumber : ErrAt K mg "InvalidNumber" "InvalidNumber.__init__" s_init_InvalidNumber "given"
  InvalidMany : ErrAt K mg "InvalidMany" "InvalidMany.__init__" s_init_InvalidMany "given"
  InvalidParts : ErrAt K mg "InvalidParts" "InvalidParts.__init__" s_init_InvalidParts "given"
  InvalidRest : ErrAt K mg "InvalidRest" "InvalidRest.__init__" s_init_InvalidRest "given"
  t_HIGHEST : Tok
  c_HIGHEST : mg "HIGHEST" = some (.int 64 t_HIGHEST)
  c_comb : mg "comb" = some (.builtin "math.comb")
section
variable {P : Program} {w : World} {K : PySem.W.Frag} {mg : Str → Option Value} {base : Heap}
theorem ok_init_InvalidNumber (T : ErrAt K mg "InvalidNumber" "InvalidNumber.__init__" s_init_InvalidNumber "given") : FnOk P w K mg base CX0 1 T.fI T.fd ["self", "given"] (spInit T.C "given") := by
  refine T.F.ok sc_init_InvalidNumber (fun vs H Q E h => ?_) (fun cdv A outer s H vs Q E hr h => ?_)
  · obtain ⟨a, y, rfl, _⟩ := h; rfl
  obtain ⟨a, y, rfl, ha, q⟩ := h
  exact ⟨_, pss_one (ps_ost (pv 0) (pv 1)), _, rfl, _, rfl, a, T.C, rfl, T.T, T.nf, .inl ⟨ha, fun d hd nd => q d hd nd⟩⟩
theorem ok_init_InvalidMany (T : ErrAt K mg "InvalidMany" "InvalidMany.__init__" s_init_InvalidMany "given") : FnOk P w K mg base CX0 1 T.fI T.fd ["self", "given"] (spInit T.C "given") := by
  refine T.F.ok sc_init_InvalidMany (fun vs H Q E h => ?_) (fun cdv A outer s H vs Q E hr h => ?_)
  · obtain ⟨a, y, rfl, _⟩ := h; rfl
  obtain ⟨a, y, rfl, ha, q⟩ := h
  exact ⟨_, pss_one (ps_ost (pv 0) (pv 1)), _, rfl, _, rfl, a, T.C, rfl, T.T, T.nf, .inl ⟨ha, fun d hd nd => q d hd nd⟩⟩
theorem ok_init_InvalidParts (T : ErrAt K mg "InvalidParts" "InvalidParts.__init__" s_init_InvalidParts "given") : FnOk P w K mg base CX0 1 T.fI T.fd ["self", "given"] (spInit T.C "given") := by
  refine T.F.ok sc_init_InvalidParts (fun vs H Q E h => ?_) (fun cdv A outer s H vs Q E hr h => ?_)
  · obtain ⟨a, y, rfl, _⟩ := h; rfl
  obtain ⟨a, y, rfl, ha, q⟩ := h
  exact ⟨_, pss_one (ps_ost (pv 0) (pv 1)), _, rfl, _, rfl, a, T.C, rfl, T.T, T.nf, .inl ⟨ha, fun d hd nd => q d hd nd⟩⟩
theorem ok_init_InvalidRest (T : ErrAt K mg "InvalidRest" "InvalidRest.__init__" s_init_InvalidRest "given") : FnOk P w K mg base CX0 1 T.fI T.fd ["self", "given"] (spInit T.C "given") := by
  refine T.F.ok sc_init_InvalidRest (fun vs H Q E h => ?_) (fun cdv A outer s H vs Q E hr h => ?_)
  · obtain ⟨a, y, rfl, _⟩ := h; rfl
  obtain ⟨a, y, rfl, ha, q⟩ := h
  exact ⟨_, pss_one (ps_ost (pv 0) (pv 1)), _, rfl, _, rfl, a, T.C, rfl, T.T, T.nf, .inl ⟨ha, fun d hd nd => q d hd nd⟩⟩
/-- a check of any data: it lets what is right, else raises the error of C with the very value -/
def spChkD (K : PySem.W.Frag) (C : Addr) (okD : PyData → Bool) : Sp := fun vs H Q E => ∃ x d n ok, vs = [x] ∧ Rd K ok H n x d ∧ (okD d = true → ∀ H', Ex H H' → Q .non H') ∧
  (okD d = false → ∀ e H', Ex H H' → H' e = some (.xd [("given", x)]) → E (.ref C) (some e) H')
def num64 (d : PyData) : Bool := betwD 0 64 d
def many64 (d : PyData) : Bool := betwD 1 64 d
theorem ok_check_number (T : TA2 K mg) : FnOk P w K mg base (L2.CX P w) 4 T.check_number.a T.check_number.fd ["number"] (spChkD K T.InvalidNumber.C num64) := by
  refine T.check_number.F.okX sc_check_number (fun vs H Q E h => ?_) (fun cdv A outer s H vs Q E hr h => ?_)
  · obtain ⟨x, d, n, ok, rfl, _⟩ := h; rfl
  obtain ⟨x, d, n, ok, rfl, h, q1, q2⟩ := h
  refine ⟨_, (pss_one (ps_if (pt_not (pt_val (pe_call (ok_is_between T.toTA1) (hr.mono (by decide)) rfl T.is_between.m T.is_between.F.kp T.is_between.b .nil pass0 (pa_cons (pv 0) (pa_cons pe_int (pa_cons (pe_glob (v := .int 64) rfl T.c_HIGHEST ⟨_, rfl⟩) pa_nil)))))) (pss_one (ps_raise rfl (takes_of rfl rfl rfl rfl) (pmk_oex T.InvalidNumber.T T.InvalidNumber.iC T.InvalidNumber.tI (ok_init_InvalidNumber T.InvalidNumber) (hr.mono (by decide)) T.InvalidNumber.b .nil pass0 rfl T.InvalidNumber.gC (by exact (pa_cons (pv 0) pa_nil))))) pss_nil)), ?_⟩
  refine ⟨_, rfl, _, _, _, rfl, h.dat, fun b h1 h2 => ⟨b, rfl, ?_⟩⟩
  have hb := rd_betw h h1 h2
  subst hb
  cases c : betwD 0 64 d with
  | true => exact q1 c _ (Ex.refl _)
  | false => exact ⟨_, rfl, (by show 1 ≤ 1000; decide), fun a ha => raised ha fun e H' ex he => q2 c e H' ex he⟩
theorem ok_check_many (T : TA2 K mg) : FnOk P w K mg base (L2.CX P w) 4 T.check_many.a T.check_many.fd ["many"] (spChkD K T.InvalidMany.C many64) := by
  refine T.check_many.F.okX sc_check_many (fun vs H Q E h => ?_) (fun cdv A outer s H vs Q E hr h => ?_)
  · obtain ⟨x, d, n, ok, rfl, _⟩ := h; rfl
  obtain ⟨x, d, n, ok, rfl, h, q1, q2⟩ := h
  refine ⟨_, (pss_one (ps_if (pt_not (pt_val (pe_call (ok_is_between T.toTA1) (hr.mono (by decide)) rfl T.is_between.m T.is_between.F.kp T.is_between.b .nil pass0 (pa_cons (pv 0) (pa_cons pe_int (pa_cons (pe_glob (v := .int 64) rfl T.c_HIGHEST ⟨_, rfl⟩) pa_nil)))))) (pss_one (ps_raise rfl (takes_of rfl rfl rfl rfl) (pmk_oex T.InvalidMany.T T.InvalidMany.iC T.InvalidMany.tI (ok_init_InvalidMany T.InvalidMany) (hr.mono (by decide)) T.InvalidMany.b .nil pass0 rfl T.InvalidMany.gC (by exact (pa_cons (pv 0) pa_nil))))) pss_nil)), ?_⟩
  refine ⟨_, rfl, _, _, _, rfl, h.dat, fun b h1 h2 => ⟨b, rfl, ?_⟩⟩
  have hb := rd_betw h h1 h2
  subst hb
  cases c : betwD 1 64 d with
  | true => exact q1 c _ (Ex.refl _)
  | false => exact ⟨_, rfl, (by show 1 ≤ 1000; decide), fun a ha => raised ha fun e H' ex he => q2 c e H' ex he⟩
theorem betw_int {lo hi : Int} {ok : Addr → Prop} {H : Hp} {n : Nat} {x : V} {d : PyData} (h : Rd K ok H n x d) (c : betwD lo hi d = true) : ∃ i, x = .int i ∧ d = .int i ∧ lo ≤ i ∧ i ≤ hi := by
  cases h with
  | int i => exact ⟨i, rfl, rfl, of_decide_eq_true c⟩
  | non => cases c
  | bl _ => cases c
  | str _ _ _ => cases c
  | lst _ _ _ _ _ => cases c
  | tup _ _ _ _ _ => cases c
def fac : Nat → Int
  | 0 => 1
  | n + 1 => fac n * ((n : Int) + 1)
def spFactorial (K : PySem.W.Frag) (C : Addr) : Sp := fun vs H Q E => ∃ x d n ok, vs = [x] ∧ Rd K ok H n x d ∧ (num64 d = true → ∀ v H', Ex H H' → Q v H') ∧
  (num64 d = false → ∀ e H', Ex H H' → H' e = some (.xd [("given", x)]) → E (.ref C) (some e) H')
theorem ok_factorial (T : TA2 K mg) : FnOk P w K mg base (L2.CX P w) 5 T.factorial.a T.factorial.fd ["number"] (spFactorial K T.InvalidNumber.C) := by
  refine T.factorial.F.okX sc_factorial (fun vs H Q E h => ?_) (fun cdv A outer s H vs Q E hr h => ?_)
  · obtain ⟨x, d, n, ok, rfl, _⟩ := h; rfl
  obtain ⟨x, d, n, ok, rfl, h, q1, q2⟩ := h
  refine ⟨_, (pss_cons (ps_expr (by exact (pe_callS (ok_check_number T) (hr.mono (by decide)) rfl T.check_number.m T.check_number.F.kp T.check_number.b (fun σ => passAt (takes_of rfl rfl rfl rfl) σ) (pa_cons (pv 0) pa_nil))))
    (pss_cons (ps_set (i := 1) sc_factorial.nd rfl (Or.inl rfl) pe_int)
    (pss_cons (ps_for (passes_of rfl) rfl (pi_range2 rfl T.z_range (pa_cons pe_int (pa_cons (pe_op op_add (pv 0) pe_int) pa_nil))) (pg_name (i := 2) sc_factorial.nd rfl (Or.inl rfl)) (pss_one (ps_aug (i := 1) sc_factorial.nd rfl (Or.inl rfl) (pv 2) ip_mulC)))
    (pss_one (ps_ret (pv 1)))))), ?_⟩
  refine ⟨_, rfl, x, d, n, ok, rfl, h, fun c H1 e1 => ?_, fun no e H1 e1 he => q2 no e H1 e1 he⟩
  obtain ⟨i, rfl, rfl, i0, i1⟩ := betw_int h c
  refine ⟨_, rfl, _, _, rfl, rfl, 2, i + 1, rfl, ⟨by decide, by decide, by omega, by omega⟩, for_range (lo := 2) (n := (i + 1 - 2).toNat)
    (fun k σ H' => H' = H1 ∧ ∃ v, σ = [some (.int i), some (.int (fac (k + 1))), v]) ⟨rfl, _, rfl⟩ ?_ ?_⟩
  · rintro k σ H' hk ⟨rfl, v, rfl⟩
    refine ⟨_, rfl, _, rfl, _, _, rfl, rfl, .inr ⟨by omega, by omega⟩, rfl, some (.int (2 + (k : Int))), ?_⟩
    have e : fac (k + 1) * (2 + (k : Int)) = fac (k + 2) := by
      show fac (k + 1) * (2 + (k : Int)) = fac (k + 1) * (((k + 1 : Nat) : Int) + 1)
      congr 1
      omega
    rw [e]
    rfl
  · rintro σ H' ⟨rfl, v, rfl⟩
    exact ⟨_, rfl, q1 c _ _ e1⟩
def spChoose (K : PySem.W.Frag) (C D : Addr) : Sp := fun vs H Q E => ∃ x y dx dy n ok, vs = [x, y] ∧ Rd K ok H n x dx ∧ Rd K ok H n y dy ∧ (num64 dx = true → num64 dy = true → ∀ v H', Ex H H' → Q v H') ∧
  (num64 dx = false → ∀ e H', Ex H H' → H' e = some (.xd [("given", x)]) → E (.ref C) (some e) H') ∧
  (num64 dx = true → num64 dy = false → ∀ e H', Ex H H' → H' e = some (.xd [("given", y)]) → E (.ref D) (some e) H')
theorem ok_choose (T : TA2 K mg) : FnOk P w K mg base (L2.CX P w) 5 T.choose.a T.choose.fd ["number", "many"] (spChoose K T.InvalidNumber.C T.InvalidMany.C) := by
  refine T.choose.F.okX sc_choose (fun vs H Q E h => ?_) (fun cdv A outer s H vs Q E hr h => ?_)
  · obtain ⟨x, y, dx, dy, n, ok, rfl, _⟩ := h; rfl
  obtain ⟨x, y, dx, dy, n, ok, rfl, hx, hy, q1, q2, q3⟩ := h
  refine ⟨_, (pss_cons (ps_expr (by exact (pe_callS (ok_check_number T) (hr.mono (by decide)) rfl T.check_number.m T.check_number.F.kp T.check_number.b (fun σ => passAt (takes_of rfl rfl rfl rfl) σ) (pa_cons (pv 0) pa_nil))))
    (pss_cons (ps_if (pt_not (pt_val (pe_call (ok_is_between T.toTA1) (hr.mono (by decide)) rfl T.is_between.m T.is_between.F.kp T.is_between.b .nil pass0 (pa_cons (pv 1) (pa_cons pe_int (pa_cons (pe_glob (v := .int 64) rfl T.c_HIGHEST ⟨_, rfl⟩) pa_nil)))))) (pss_one (ps_raise rfl (takes_of rfl rfl rfl rfl) (pmk_oex T.InvalidMany.T T.InvalidMany.iC T.InvalidMany.tI (ok_init_InvalidMany T.InvalidMany) (hr.mono (by decide)) T.InvalidMany.b .nil pass0 rfl T.InvalidMany.gC (by exact (pa_cons (pv 1) pa_nil))))) pss_nil)
    (pss_one (ps_ret (pe_callBfun cr_comb rfl T.c_comb (pa_cons (pv 0) (pa_cons (pv 1) pa_nil))))))), ?_⟩
  refine ⟨_, rfl, x, dx, n, ok, rfl, hx, fun c H1 e1 => ?_, fun no e H1 e1 he => q2 no e H1 e1 he⟩
  obtain ⟨i, rfl, rfl, i0, i1⟩ := betw_int hx c
  have hy1 := hy.ex e1
  refine ⟨_, rfl, _, _, _, rfl, hy1.dat, fun b h1 h2 => ⟨b, rfl, ?_⟩⟩
  have hb := rd_betw hy1 h1 h2
  subst hb
  cases c2 : betwD 0 64 dy with
  | true =>
    obtain ⟨j, rfl, rfl, j0, j1⟩ := betw_int hy c2
    exact ⟨_, rfl, _, rfl, i, j, rfl, i0, by omega, j0, by omega, q1 c c2 _ _ e1⟩
  | false => exact ⟨_, rfl, (by show 1 ≤ 1000; decide), fun a ha => raised ha fun e H' ex he => q3 c c2 e H' (e1.trans ex) he⟩
def evenOf (i j : Int) : List Int := List.replicate (i - i / j * j).toNat (i / j + 1) ++ List.replicate (j - (i - i / j * j)).toNat (i / j)
def spEven (K : PySem.W.Frag) (C D : Addr) : Sp := fun vs H Q E => ∃ x y dx dy n ok, vs = [x, y] ∧ Rd K ok H n x dx ∧ Rd K ok H n y dy ∧
  (num64 dx = true → many64 dy = true → ∀ p H', Ex H H' → (∀ i j, x = .int i → y = .int j → SqT K H' p ((evenOf i j).map V.int)) → Q (.ref p) H') ∧
  (num64 dx = false → ∀ e H', Ex H H' → H' e = some (.xd [("given", x)]) → E (.ref C) (some e) H') ∧
  (num64 dx = true → many64 dy = false → ∀ e H', Ex H H' → H' e = some (.xd [("given", y)]) → E (.ref D) (some e) H')
theorem rep_one {n : Nat} {x : V} : (List.replicate n [x]).flatten = List.replicate n x := by
  induction n with
  | zero => rfl
  | succ n ih => rw [List.replicate_succ, List.flatten_cons, ih, List.replicate_succ]; rfl
theorem even_map {i j : Int} : (List.replicate (i - i / j * j).toNat (V.int (i / j + 1)) ++ List.replicate (j - (i - i / j * j)).toNat (V.int (i / j))) = (evenOf i j).map V.int := by
  unfold evenOf
  rw [List.map_append, List.map_replicate, List.map_replicate]
theorem ok_even_parts (T : TA2 K mg) : FnOk P w K mg base (L2.CX P w) 5 T.even_parts.a T.even_parts.fd ["total", "many"] (spEven K T.InvalidNumber.C T.InvalidMany.C) := by
  refine T.even_parts.F.okX sc_even_parts (fun vs H Q E h => ?_) (fun cdv A outer s H vs Q E hr h => ?_)
  · obtain ⟨x, y, dx, dy, n, ok, rfl, _⟩ := h; rfl
  obtain ⟨x, y, dx, dy, n, ok, rfl, hx, hy, q1', q2, q3⟩ := h
  refine ⟨_, (pss_cons (ps_expr (by exact (pe_callS (ok_check_number T) (hr.mono (by decide)) rfl T.check_number.m T.check_number.F.kp T.check_number.b (fun σ => passAt (takes_of rfl rfl rfl rfl) σ) (pa_cons (pv 0) pa_nil))))
    (pss_cons (ps_expr (by exact (pe_callS (ok_check_many T) (hr.mono (by decide)) rfl T.check_many.m T.check_many.F.kp T.check_many.b (fun σ => passAt (takes_of rfl rfl rfl rfl) σ) (pa_cons (pv 1) pa_nil))))
    (pss_cons (ps_set (i := 2) sc_even_parts.nd rfl (Or.inl rfl) (pe_op op_fdiv (pv 0) (pv 1)))
    (pss_cons (ps_set (i := 3) sc_even_parts.nd rfl (Or.inl rfl) (pe_op op_sub (pv 0) (pe_op op_mul (pv 2) (pv 1))))
    (pss_one (ps_ret (pe_op (kcatA K) (pe_op (krepA K) (pe_tup (pa_cons (pe_op op_add (pv 2) pe_int) pa_nil)) (pv 3)) (pe_op (krepA K) (pe_tup (pa_cons (pv 2) pa_nil)) (pe_op op_sub (pv 1) (pv 3)))))))))), ?_⟩
  refine ⟨_, rfl, x, dx, n, ok, rfl, hx, fun c H1 e1 => ?_, fun no e H1 e1 he => q2 no e H1 e1 he⟩
  refine ⟨_, rfl, y, dy, n, ok, rfl, hy.ex e1, fun c2 H2 e2 => ?_, fun no e H2 e2 he => q3 c no e H2 (e1.trans e2) he⟩
  obtain ⟨i, rfl, rfl, i0, i1⟩ := betw_int hx c
  obtain ⟨j, rfl, rfl, j0, j1⟩ := betw_int hy c2
  have q1 : ∀ p H', Ex H H' → SqT K H' p (List.replicate (i - i / j * j).toNat (V.int (i / j + 1)) ++ List.replicate (j - (i - i / j * j)).toNat (V.int (i / j))) → Q (.ref p) H' := fun p H' e h => q1' c c2 p H' e fun i' j' ei ej => by
    cases ei; cases ej; rw [even_map] at h; exact h
  have d2 : i / j * j ≤ i := Int.ediv_mul_le _ (by omega)
  have d3 : i - i / j * j < j := by
    have := Int.lt_ediv_add_one_mul_self i (show 0 < j by omega)
    have e : (i / j + 1) * j = i / j * j + j := by rw [Int.add_mul, Int.one_mul]
    omega
  refine ⟨_, rfl, _, rfl, _, _, rfl, rfl, ⟨by omega, by omega⟩, ?_⟩
  refine ⟨_, rfl, _, rfl, _, rfl, _, _, rfl, rfl, .inr ⟨by omega, by omega⟩, _, _, rfl, rfl, ?_⟩
  refine ⟨_, rfl, _, _, rfl, rfl, (by show 1 ≤ sizeLine; decide), fun p hp => ?_⟩
  refine ⟨_, rfl, p, _, _, rfl, rfl, st_of upd_same, by simp, by omega, by omega, (by show 1 ≤ 1000; decide), fun r H3 e3 hr3 => ?_⟩
  refine ⟨_, rfl, (by show 1 ≤ sizeLine; decide), fun p2 hp2 => ?_⟩
  refine ⟨_, rfl, _, rfl, _, _, rfl, rfl, p2, _, _, rfl, rfl, st_of upd_same, by simp, by omega, by omega, (by show 1 ≤ 1000; decide), fun r2 H4 e4 hr4 => ?_⟩
  rw [rep_one] at hr3 hr4
  have hr3' := ex_t e4 (ex_t (Ex.new hp2) hr3)
  have e5 : Ex H H4 := (((e1.trans e2).trans (Ex.new hp)).trans e3).trans ((Ex.new hp2).trans e4)
  refine ⟨r, r2, _, _, rfl, rfl, hr3', hr4, ?_, ?_, ?_, ?_⟩
  · rw [List.length_replicate, List.length_replicate]
    exact Nat.le_trans (show _ ≤ 1000 by omega) (by decide)
  · intro z
    refine q1 r2 _ e5 ?_
    rw [z]
    exact hr4
  · intro _ z
    refine q1 r _ e5 ?_
    rw [z, List.append_nil]
    exact hr3'
  · intro _ _ p5 hp5
    exact q1 p5 _ (e5.trans (Ex.new hp5)) (st_of upd_same)
/-! ### comprehensions over a list or a tuple -/
theorem given_all {n : Nat} {v : Nat → V} : given n (fun _ => true) v = (List.range n).map v := by
  unfold given
  rw [List.filter_eq_self.mpr (by intro a _; rfl)]
theorem el_lcT {σ : L2.St} {H : Hp} {a : Addr} {xs : List V} {tl te : TE} {t : TT} {j : Nat} {vs : List Nat} (f : Nat → Bool) (v : Nat → V) (h : Ev tl σ H (.ref a)) (hx : SqT K H a xs) (hz : xs.length ≤ 40000)
    (hw : ∀ x, wipe ((wipe σ vs).set j (some x)) vs = wipe σ vs) (ht : ∀ (i : Nat) (x : V) H1, Ex H H1 → xs[i]? = some x → EvT t ((wipe σ vs).set j (some x)) H1 (f i))
    (he : ∀ (i : Nat) (x : V) H1, Ex H H1 → xs[i]? = some x → f i = true → Ev te ((wipe σ vs).set j (some x)) H1 (v i)) : EvL (tLc (iTup K tl) (gName j) t te vs) σ H (given xs.length f v) := by
  intro H0 e Q q
  refine h H0 e _ fun H1 e1 => ?_
  have e01 := e.trans e1
  refine ⟨a, rfl, ⟨xs, ex_t e01 hx⟩, fun Dl hD => lc_tup (xs := xs) (Cw H1 f v Dl) ⟨hD, Ex.new hD, upd_same⟩ (fun i H' _ p => ex_t (e01.trans p.2.1) hx) ?_ ?_⟩
  · intro i x H' hi p
    have hlt := (List.getElem?_eq_some_iff.mp hi).1
    exact ⟨hw x, cw_turn p (by omega) (ht i x H1 e01 hi) (fun hf => he i x H1 e01 hi hf)⟩
  · exact fun H' p => q Dl H' (fresh_back e1 p.1) (e1.trans p.2.1) p.2.2
theorem el_lcL {σ : L2.St} {H : Hp} {a : Addr} {xs : List V} {tl te : TE} {t : TT} {j : Nat} {vs : List Nat} (f : Nat → Bool) (v : Nat → V) (h : Ev tl σ H (.ref a)) (hx : SqL K H a xs) (hz : xs.length ≤ 40000)
    (hw : ∀ x, wipe ((wipe σ vs).set j (some x)) vs = wipe σ vs) (ht : ∀ (i : Nat) (x : V) H1, Ex H H1 → xs[i]? = some x → EvT t ((wipe σ vs).set j (some x)) H1 (f i))
    (he : ∀ (i : Nat) (x : V) H1, Ex H H1 → xs[i]? = some x → f i = true → Ev te ((wipe σ vs).set j (some x)) H1 (v i)) : EvL (tLc (iList K tl) (gName j) t te vs) σ H (given xs.length f v) := by
  intro H0 e Q q
  refine h H0 e _ fun H1 e1 => ?_
  have e01 := e.trans e1
  refine ⟨a, rfl, ⟨xs, ex_l e01 hx⟩, fun Dl hD => lc_list (xs := xs) (Cw H1 f v Dl) ⟨hD, Ex.new hD, upd_same⟩ (fun i H' _ p => ex_l (e01.trans p.2.1) hx) ?_ ?_⟩
  · intro i x H' hi p
    have hlt := (List.getElem?_eq_some_iff.mp hi).1
    exact ⟨hw x, cw_turn p (by omega) (ht i x H1 e01 hi) (fun hf => he i x H1 e01 hi hf)⟩
  · exact fun H' p => q Dl H' (fresh_back e1 p.1) (e1.trans p.2.1) p.2.2
theorem el_lcS {σ : L2.St} {H : Hp} {a : Addr} {xs : List V} {tl te : TE} {t : TT} {j : Nat} {vs : List Nat} (f : Nat → Bool) (v : Nat → V) (h : Ev tl σ H (.ref a)) (hx : SqL K H a xs ∨ SqT K H a xs) (hz : xs.length ≤ 40000)
    (hw : ∀ x, wipe ((wipe σ vs).set j (some x)) vs = wipe σ vs) (ht : ∀ (i : Nat) (x : V) H1, Ex H H1 → xs[i]? = some x → EvT t ((wipe σ vs).set j (some x)) H1 (f i))
    (he : ∀ (i : Nat) (x : V) H1, Ex H H1 → xs[i]? = some x → f i = true → Ev te ((wipe σ vs).set j (some x)) H1 (v i)) : EvL (tLc (iSeq K tl) (gName j) t te vs) σ H (given xs.length f v) := by
  intro H0 e Q q
  rcases hx with hx | hx
  · exact .inl (el_lcL f v h hx hz hw ht he H0 e Q q)
  · exact .inr (el_lcT f v h hx hz hw ht he H0 e Q q)
/-! ### all of a list or tuple are ints from lo on -/
def itemsD : PyData → List PyData
  | .list ds => ds
  | .tuple ds => ds
  | _ => []
/-- an address of a list or a tuple that holds data -/
theorem rd_seq {ok : Addr → Prop} {H : Hp} {n : Nat} {x : V} {d : PyData} (h : Rd K ok H n x d) (s : isSeq d = true) : ∃ a xs, x = .ref a ∧ (SqL K H a xs ∧ d = .list (itemsD d) ∨ SqT K H a xs ∧ d = .tuple (itemsD d)) ∧ xs.length = (itemsD d).length ∧ xs.length ≤ 1000 ∧
    ∀ (i : Nat) (x : V) (e : PyData), xs[i]? = some x → (itemsD d)[i]? = some e → Rd K ok H (n - 1) x e := by
  cases h with
  | lst h ha hl hz all => exact ⟨_, _, rfl, .inl ⟨SqL.of h, rfl⟩, hl, by omega, all⟩
  | tup h ha hl hz all => exact ⟨_, _, rfl, .inr ⟨h, rfl⟩, hl, by omega, all⟩
  | non => cases s
  | bl _ => cases s
  | int _ => cases s
  | str _ _ _ => cases s
def spAreFrom (K : PySem.W.Frag) : Sp := fun vs H Q _ => ∃ x d n ok lo, vs = [x, .int lo] ∧ Rd K ok H n x d ∧ isSeq d = true ∧ ∀ H', Ex H H' → Q (.bl ((itemsD d).all (fromD lo))) H'
theorem ok_are_from (T : TA2 K mg) : FnOk P w K mg base CX0 3 T.are_from.a T.are_from.fd ["values", "low"] (spAreFrom K) := by
  refine T.are_from.F.ok sc_are_from (fun vs H Q E h => ?_) (fun cdv A outer s H vs Q E hr h => ?_)
  · obtain ⟨x, d, n, ok, lo, rfl, _⟩ := h; rfl
  obtain ⟨x, d, n, ok, lo, rfl, h, sq, q⟩ := h
  obtain ⟨a, xs, rfl, hs, hl, hz, all⟩ := rd_seq h sq
  refine ⟨_, (pss_one (ps_ret (pe_callB (kall K rfl) (by rfl) T.z_all (by decide +kernel) (pa_cons (pe_lc (own := [("value", 2)]) (g := gName 2) (by rfl) sc_are_from.nd (kpis K (pv 0)) (blkOk_by (own := [("value", 2)]) (N := ["values", "low", "value"]) (sc := defScope s_are_from) (by decide +kernel)) (fun _ _ _ _ _ => (pg_name (i := 2) sc_are_from.nd rfl (Or.inl rfl))) (fun _ _ _ _ _ => pts_nil) (fun _ _ _ _ _ => (pe_call (ok_is_from T.toTA1) (hr.mono (by decide)) rfl T.is_from.m T.is_from.F.kp T.is_from.b .nil pass0 (pa_cons (pv 2) (pa_cons (pv 1) pa_nil))))) pa_nil)))), ?_⟩
  have fin : ∀ (p : Addr) (H2 : Hp), H p = none → Ex H H2 → H2 p = some (.lst (given xs.length (fun _ => true) (fun i => .bl (fromD lo ((itemsD d).getD i .none))))) → ∃ (a : Addr) (bs : List Bool), [V.ref p] = [V.ref a] ∧ SqL K H2 a (bs.map V.bl) ∧ Q (.bl (bs.all id)) H2 := by
    intro p H2 _ e2 h2
    rw [given_all] at h2
    refine ⟨p, (itemsD d).map (fromD lo), rfl, ?_, ?_⟩
    · have e : (List.range xs.length).map (fun i => V.bl (fromD lo ((itemsD d).getD i .none))) = ((itemsD d).map (fromD lo)).map V.bl := by
        apply List.ext_getElem?
        intro i
        rw [List.getElem?_map, List.getElem?_map, List.getElem?_map]
        by_cases c : i < xs.length
        · rw [List.getElem?_range c, List.getElem?_eq_getElem (show i < (itemsD d).length by omega)]
          simp [List.getD_eq_getElem?_getD, List.getElem?_eq_getElem (show i < (itemsD d).length by omega)]
        · rw [List.getElem?_eq_none (by rw [List.length_range]; omega), List.getElem?_eq_none (show (itemsD d).length ≤ i by omega)]
          rfl
      rw [e] at h2
      exact SqL.of h2
    · rw [List.all_map]
      exact q H2 e2
  have he : ∀ (i : Nat) (x : V) (H1 : Hp), Ex H H1 → xs[i]? = some x → Ev (tCall (spIsFrom K) [] E0 (tCons (tVar 2) (tCons (tVar 1) tNil))) ((wipe (start ["values", "low", "value"] [.ref a, .int lo]) [2]).set 2 (some x)) H1 (.bl (fromD lo ((itemsD d).getD i .none))) := by
    intro i x H1 e1 hx H2 e2 Q2 k2
    have hi := (List.getElem?_eq_some_iff.mp hx).1
    have hd : (itemsD d)[i]? = some ((itemsD d)[i]'(by omega)) := List.getElem?_eq_getElem _
    have r := (all i x _ hx hd).ex (e1.trans e2)
    have g : (itemsD d).getD i .none = (itemsD d)[i]'(by omega) := by rw [List.getD_eq_getElem?_getD, hd]; rfl
    refine ⟨_, rfl, _, rfl, _, _, rfl, r.dat, fun b h1 h2 => ?_⟩
    rw [rd_from r h1 h2, ← g]
    exact k2 H2 (Ex.refl _)
  rcases hs with ⟨hs, _⟩ | ⟨hs, _⟩
  · exact .inl ((el_lcL (t := tYes) (σ := start ["values", "low", "value"] [.ref a, .int lo]) (vs := [2]) (fun _ => true) (fun i => .bl (fromD lo ((itemsD d).getD i .none))) (ev_var rfl) hs (by omega) (fun _ => rfl) (fun i x H1 _ _ H2 _ Q k => k H2 (Ex.refl _)) (fun i x H1 e1 hx _ => he i x H1 e1 hx)) H (Ex.refl _) (fun v H2 => rAll K [v] H2 Q) fin)
  · exact .inr ((el_lcT (t := tYes) (σ := start ["values", "low", "value"] [.ref a, .int lo]) (vs := [2]) (fun _ => true) (fun i => .bl (fromD lo ((itemsD d).getD i .none))) (ev_var rfl) hs (by omega) (fun _ => rfl) (fun i x H1 _ _ H2 _ Q k => k H2 (Ex.refl _)) (fun i x H1 e1 hx _ => he i x H1 e1 hx)) H (Ex.refl _) (fun v H2 => rAll K [v] H2 Q) fin)

/-- what arrangements reckons -/
def arr : Int → List Int → Int
  | _, [] => 1
  | t, p :: r => PySem.W.mcComb (t + p) p * arr (t + p) r
def arrUp (l : List Int) : Int × Int := l.foldl (fun s p => (s.1 * PySem.W.mcComb (s.2 + p) p, s.2 + p)) (1, 0)
theorem arrUp_more {l : List Int} {i : Nat} {z : Int} (h : l[i]? = some z) : arrUp (l.take (i + 1)) = ((arrUp (l.take i)).1 * PySem.W.mcComb ((arrUp (l.take i)).2 + z) z, (arrUp (l.take i)).2 + z) := by
  obtain ⟨hi, e⟩ := List.getElem?_eq_some_iff.mp h
  rw [← List.take_append_getElem hi, e]
  unfold arrUp
  rw [List.foldl_append]
  rfl
theorem arrUp_two (l : List Int) (i : Nat) : (arrUp (l.take i)).2 = (l.take i).sum := by
  have gen : ∀ (m : List Int) (s : Int × Int), (m.foldl (fun s p => (s.1 * PySem.W.mcComb (s.2 + p) p, s.2 + p)) s).2 = s.2 + m.sum := by
    intro m
    induction m with
    | nil => intro s; simp
    | cons a r ih => intro s; rw [List.foldl_cons, ih, List.sum_cons]; exact Int.add_assoc _ _ _
  have g := gen (l.take i) (1, 0)
  unfold arrUp
  rw [g]
  exact Int.zero_add _
theorem nn_sum {l : List Int} (h : ∀ n ∈ l, 0 ≤ n) : 0 ≤ l.sum := by
  induction l with
  | nil => exact Int.le_refl _
  | cons a r ih =>
    rw [List.sum_cons]
    have h1 := h a List.mem_cons_self
    have h2 := ih fun n hn => h n (List.mem_cons_of_mem _ hn)
    omega
theorem part_le {l : List Int} (h : ∀ n ∈ l, 0 ≤ n) {i : Nat} {z : Int} (hz : l[i]? = some z) : 0 ≤ z ∧ 0 ≤ (l.take i).sum ∧ (l.take i).sum + z ≤ l.sum := by
  obtain ⟨hi, e⟩ := List.getElem?_eq_some_iff.mp hz
  have h1 : 0 ≤ z := h z (e ▸ List.getElem_mem hi)
  have h2 : 0 ≤ (l.take i).sum := nn_sum fun n hn => h n (List.mem_of_mem_take hn)
  have h3 : 0 ≤ (l.drop (i + 1)).sum := nn_sum fun n hn => h n (List.mem_of_mem_drop hn)
  have h4 : l.sum = (l.take i).sum + (z + (l.drop (i + 1)).sum) := by
    conv => lhs; rw [← List.take_append_drop i l, List.drop_eq_getElem_cons hi, e]
    rw [List.sum_append, List.sum_cons]
  omega
theorem comb_lt {a b : Int} (ha : 0 ≤ a) (h : a ≤ 64) (hb : 0 ≤ b) (hb2 : b ≤ 64) : 0 ≤ PySem.W.mcComb a b ∧ PySem.W.mcComb a b < 2 ^ 64 := by
  have key : ∀ n : Fin 65, ∀ k : Fin 65, 0 ≤ PySem.W.mcComb (n.val : Int) (k.val : Int) ∧ PySem.W.mcComb (n.val : Int) (k.val : Int) < 2 ^ 64 := by decide +kernel
  have := key ⟨a.toNat, by omega⟩ ⟨b.toNat, by omega⟩
  simpa [Int.toNat_of_nonneg ha, Int.toNat_of_nonneg hb] using this

end
end L2.U

set_option Elab.async false
set_option linter.all false
set_option maxRecDepth 100000
set_option maxHeartbeats 4000000
namespace L2.U
open PySem PySem.Spec PyProof.Rows Evl
section
variable {P : Program} {w : World} {K : PySem.W.Frag} {mg : Str → Option Value} {base : Heap}
def intD : PyData → Int
  | .int i => i
  | _ => 0
def intsD (d : PyData) : List Int := (itemsD d).map intD
def partsD (d : PyData) : Bool := isSeq d && (itemsD d).all (fromD 0) && decide ((intsD d).sum ≤ 64)
theorem ints_of {ok : Addr → Prop} {H : Hp} {n : Nat} : ∀ {ds : List PyData} {xs : List V} {lo : Int}, xs.length = ds.length → (∀ (i : Nat) (x : V) (e : PyData), xs[i]? = some x → ds[i]? = some e → Rd K ok H n x e) → ds.all (fromD lo) = true →
    xs = (ds.map intD).map V.int ∧ ∀ z ∈ ds.map intD, lo ≤ z := by
  intro ds
  induction ds with
  | nil => intro xs lo hl _ _; cases xs with
    | nil => exact ⟨rfl, by simp⟩
    | cons _ _ => cases hl
  | cons d r ih => intro xs lo hl h ha; cases xs with
    | nil => cases hl
    | cons x xs =>
      rw [List.all_cons, Bool.and_eq_true] at ha
      have h0 := h 0 x d rfl rfl
      obtain ⟨e, f⟩ := ih (Nat.succ.inj hl) (fun i x e hx he => h (i + 1) x e hx he) ha.2
      have ha1 := ha.1
      cases h0 with
      | int i =>
        have hi : lo ≤ i := of_decide_eq_true ha1
        refine ⟨?_, ?_⟩
        · rw [List.map_cons, List.map_cons, ← e]; rfl
        · intro z hz
          rcases List.mem_cons.mp hz with rfl | hz
          · exact hi
          · exact f z hz
      | non => cases ha1
      | bl _ => cases ha1
      | str _ _ _ => cases ha1
      | lst _ _ _ _ _ => cases ha1
      | tup _ _ _ _ _ => cases ha1
def spArr (K : PySem.W.Frag) (C : Addr) : Sp := fun vs H Q E => ∃ x d n ok, vs = [x] ∧ Rd K ok H n x d ∧
  (partsD d = true → ∀ H', Ex H H' → Q (.int (arrUp (intsD d)).1) H') ∧
  (partsD d = false → ∀ e H', Ex H H' → H' e = some (.xd [("given", x)]) → E (.ref C) (some e) H')
theorem ok_arrangements (T : TA2 K mg) : FnOk P w K mg base (L2.CX P w) 5 T.arrangements.a T.arrangements.fd ["parts"] (spArr K T.InvalidParts.C) := by
  refine T.arrangements.F.okX sc_arrangements (fun vs H Q E h => ?_) (fun cdv A outer s H vs Q E hr h => ?_)
  · obtain ⟨x, d, n, ok, rfl, _⟩ := h; rfl
  obtain ⟨x, d, n, ok, rfl, h, q1, q2⟩ := h
  refine ⟨_, (pss_cons (ps_if (PW.pt (pw_or (pt_not (pt_val (pe_call (ok_is_list T.toTA1) (hr.mono (by decide)) rfl T.is_list.m T.is_list.F.kp T.is_list.b .nil pass0 (pa_cons (pv 0) pa_nil)))) (pw_or (pt_not (pt_val (pe_call (ok_are_from T) (hr.mono (by decide)) rfl T.are_from.m T.are_from.F.kp T.are_from.b .nil pass0 (pa_cons (pv 0) (pa_cons pe_int pa_nil))))) (pw_or1 (pt_cmpR op_gt (pe_callB (ksum K rfl) (by rfl) T.z_sum (by decide +kernel) (pa_cons (pv 0) pa_nil)) (pe_glob (v := .int 64) rfl T.c_HIGHEST ⟨_, rfl⟩) (nomark _)))))) (pss_one (ps_raise rfl (takes_of rfl rfl rfl rfl) (pmk_oex T.InvalidParts.T T.InvalidParts.iC T.InvalidParts.tI (ok_init_InvalidParts T.InvalidParts) (hr.mono (by decide)) T.InvalidParts.b .nil pass0 rfl T.InvalidParts.gC (by exact (pa_cons (pv 0) pa_nil))))) pss_nil)
    (pss_cons (ps_set (i := 1) sc_arrangements.nd rfl (Or.inl rfl) pe_int)
    (pss_cons (ps_set (i := 2) sc_arrangements.nd rfl (Or.inl rfl) pe_int)
    (pss_cons (ps_for (passes_of rfl) rfl (kpis K (pv 0)) (pg_name (i := 3) sc_arrangements.nd rfl (Or.inl rfl)) (pss_cons (ps_aug (i := 2) sc_arrangements.nd rfl (Or.inl rfl) (pv 3) ip_add)
    (pss_one (ps_aug (i := 1) sc_arrangements.nd rfl (Or.inl rfl) (pe_callBfun cr_comb rfl T.c_comb (pa_cons (pv 2) (pa_cons (pv 3) pa_nil))) ip_mulC))))
    (pss_one (ps_ret (pv 1))))))), ?_⟩
  refine ⟨_, rfl, x, d, n, ok, rfl, h, fun H1 e1 => ⟨isSeq d, rfl, ?_⟩⟩
  cases sq : isSeq d with
  | false => exact ⟨_, rfl, (by show 1 ≤ 1000; decide), fun a ha => raised ha fun e H' ex he => q2 (by unfold partsD; rw [sq]; rfl) e H' (e1.trans ex) he⟩
  | true =>
  have h1 := h.ex e1
  refine ⟨_, rfl, x, d, n, ok, 0, rfl, h1, sq, fun H2 e2 => ⟨_, rfl, ?_⟩⟩
  cases al : (itemsD d).all (fromD 0) with
  | false => exact ⟨_, rfl, (by show 1 ≤ 1000; decide), fun a ha => raised ha fun e H' ex he => q2 (by unfold partsD; rw [sq, al]; rfl) e H' ((e1.trans e2).trans ex) he⟩
  | true =>
  obtain ⟨a, xs, rfl, hs, hl, hz, all⟩ := rd_seq (h1.ex e2) sq
  obtain ⟨hxs, hall⟩ := ints_of hl all al
  have e12 := e1.trans e2
  obtain ⟨ns, hns⟩ : ∃ ns, ns = intsD d := ⟨_, rfl⟩
  have hxs' : xs = ns.map V.int := by rw [hns]; exact hxs
  rw [hxs'] at hs
  have exs : SqL K H2 a (ns.map V.int) ∨ SqT K H2 a (ns.map V.int) := hs.imp (fun z => z.1) (fun z => z.1)
  have hall : ∀ z ∈ ns, 0 ≤ z := by rw [hns]; exact hall
  refine ⟨_, rfl, a, ns, rfl, exs, _, _, rfl, rfl, _, rfl, ite2 (fun c => ?_) (fun c => ?_)⟩
  · have c' : ¬ ns.sum ≤ 64 := by have := of_decide_eq_true c; omega
    exact ⟨_, rfl, (by show 1 ≤ 1000; decide), fun x hx => raised hx fun e H' ex he => q2 (by unfold partsD; rw [sq, al, ← hns, decide_eq_false c']; rfl) e H' (e12.trans ex) he⟩
  · have c' : ns.sum ≤ 64 := by
      have := of_decide_eq_false (Bool.eq_false_iff.mpr c)
      omega
    have okp : partsD d = true := by unfold partsD; rw [sq, al, ← hns, decide_eq_true c']; rfl
    rw [← hns] at q1
    have turn : ∀ (i : Nat) (x : V) (σ : L2.St), (ns.map V.int)[i]? = some x → (∃ v, σ = [some (.ref a), some (.int (arrUp (ns.take i)).1), some (.int (arrUp (ns.take i)).2), v]) →
        gName 3 x σ H2 fun σ2 H3 => tSeq (tAug 2 (tVar 3) (ipI fun i j => i + j)) (tAug 1 (tCB rComb (tCons (tVar 2) (tCons (tVar 3) tNil))) (fun x y H Q => ∃ i j, x = .int i ∧ y = .int j ∧ CMul i j ∧ Q (.int (i * j)) H))
          { nx := fun σ' H' => H' = H2 ∧ ∃ v, σ' = [some (.ref a), some (.int (arrUp (ns.take (i + 1))).1), some (.int (arrUp (ns.take (i + 1))).2), v], rt := Q } σ2 H3 := by
      rintro i x σ hx ⟨v, rfl⟩
      obtain ⟨z, hz, rfl⟩ := ints_get hx
      have hp := part_le hall hz
      have hm := arrUp_more hz
      have h2 := arrUp_two ns i
      have hc := @comb_lt ((arrUp (ns.take i)).2 + z) z (by omega) (by omega) hp.1 (by omega)
      refine ⟨_, rfl, _, rfl, _, _, rfl, rfl, ?_⟩
      refine ⟨_, rfl, _, rfl, _, rfl, _, _, rfl, (show 0 ≤ (arrUp (ns.take i)).2 + z by omega), (show (arrUp (ns.take i)).2 + z ≤ 1000 by omega), hp.1, by omega, _, _, rfl, rfl, .inr ⟨(show -(2 ^ 64) < PySem.W.mcComb ((arrUp (ns.take i)).2 + z) z by omega), hc.2⟩, rfl, some (.int z), ?_⟩
      rw [hm]
      rfl
    have fin : ∀ σ H', (H' = H2 ∧ ∃ v, σ = [some (.ref a), some (.int (arrUp (ns.take (ns.map V.int).length)).1), some (.int (arrUp (ns.take (ns.map V.int).length)).2), v]) → tRet (tVar 1) { nx := fun _ H' => Q .non H', rt := Q } σ H' := by
      rintro σ H' ⟨rfl, v, rfl⟩
      rw [List.length_map, List.take_length]
      exact ⟨_, rfl, q1 okp _ e12⟩
    rcases exs with hs2 | hs2
    · exact .inl ⟨_, rfl, a, rfl, ⟨_, hs2⟩, for_list (xs := ns.map V.int) (fun i σ H' => H' = H2 ∧ ∃ v, σ = [some (.ref a), some (.int (arrUp (ns.take i)).1), some (.int (arrUp (ns.take i)).2), v]) ⟨rfl, none, rfl⟩
        (fun i σ H' _ ⟨e, _⟩ => e ▸ hs2) (fun i x σ H' hx ⟨e, hv⟩ => e ▸ turn i x σ hx hv) fin⟩
    · exact .inr ⟨_, rfl, a, rfl, ⟨_, hs2⟩, for_tup (xs := ns.map V.int) (fun i σ H' => H' = H2 ∧ ∃ v, σ = [some (.ref a), some (.int (arrUp (ns.take i)).1), some (.int (arrUp (ns.take i)).2), v]) ⟨rfl, none, rfl⟩
        (fun i σ H' _ ⟨e, _⟩ => e ▸ hs2) (fun i x σ H' hx ⟨e, hv⟩ => e ▸ turn i x σ hx hv) fin⟩

def mostA (t r s : Int) : Int := if t - s < r then 0 else (arrUp (evenOf (t - s) r ++ [s])).1
def spMost (K : PySem.W.Frag) (C D F : Addr) : Sp := fun vs H Q E => ∃ x y z dx dy dz n ok, vs = [x, y, z] ∧ Rd K ok H n x dx ∧ Rd K ok H n y dy ∧ Rd K ok H n z dz ∧
  (num64 dx = true → many64 dy = true → num64 dz = true → ∀ H', Ex H H' → Q (.int (mostA (intD dx) (intD dy) (intD dz))) H') ∧
  (num64 dx = false → ∀ e H', Ex H H' → H' e = some (.xd [("given", x)]) → E (.ref C) (some e) H') ∧
  (num64 dx = true → many64 dy = false → ∀ e H', Ex H H' → H' e = some (.xd [("given", y)]) → E (.ref D) (some e) H') ∧
  (num64 dx = true → many64 dy = true → num64 dz = false → ∀ e H', Ex H H' → H' e = some (.xd [("given", z)]) → E (.ref F) (some e) H')
theorem even_sum {i j : Int} (h0 : 0 ≤ i) (hj : 1 ≤ j) : (evenOf i j).length = j.toNat ∧ (evenOf i j).sum = i ∧ ∀ x ∈ evenOf i j, 0 ≤ x := by
  have d2 : i / j * j ≤ i := Int.ediv_mul_le _ (by omega)
  have d0 : 0 ≤ i / j := Int.ediv_nonneg h0 (by omega)
  have d3 : i - i / j * j < j := by
    have := Int.lt_ediv_add_one_mul_self i (show 0 < j by omega)
    have e : (i / j + 1) * j = i / j * j + j := by rw [Int.add_mul, Int.one_mul]
    omega
  generalize hg : i - i / j * j = g at *
  have sums : ∀ (n : Nat) (x : Int), (List.replicate n x).sum = n * x := by
    intro n x
    induction n with
    | zero => simp
    | succ n ih => rw [List.replicate_succ, List.sum_cons, ih]; rw [Int.natCast_succ, Int.add_mul, Int.one_mul, Int.add_comm]
  unfold evenOf
  rw [hg]
  refine ⟨by rw [List.length_append, List.length_replicate, List.length_replicate]; omega, ?_, ?_⟩
  · rw [List.sum_append, sums, sums, Int.toNat_of_nonneg (by omega), Int.toNat_of_nonneg (by omega), Int.mul_add, Int.sub_mul, Int.mul_one, Int.mul_comm j]
    omega
  · intro x hx
    rw [List.mem_append] at hx
    rcases hx with hx | hx
    · rw [List.eq_of_mem_replicate hx]; omega
    · rw [List.eq_of_mem_replicate hx]; omega
theorem ok_most_arranged (T : TA2 K mg) : FnOk P w K mg base (L2.CX P w) 6 T.most_arranged.a T.most_arranged.fd ["total", "rounds", "rest"] (spMost K T.InvalidNumber.C T.InvalidMany.C T.InvalidRest.C) := by
  refine T.most_arranged.F.okX sc_most_arranged (fun vs H Q E h => ?_) (fun cdv A outer s H vs Q E hr h => ?_)
  · obtain ⟨x, y, z, dx, dy, dz, n, ok, rfl, _⟩ := h; rfl
  obtain ⟨x, y, z, dx, dy, dz, n, ok, rfl, hx, hy, hz, q1, q2, q3, q4⟩ := h
  refine ⟨_, (pss_cons (ps_expr (by exact (pe_callS (ok_check_number T) (hr.mono (by decide)) rfl T.check_number.m T.check_number.F.kp T.check_number.b (fun σ => passAt (takes_of rfl rfl rfl rfl) σ) (pa_cons (pv 0) pa_nil))))
    (pss_cons (ps_expr (by exact (pe_callS (ok_check_many T) (hr.mono (by decide)) rfl T.check_many.m T.check_many.F.kp T.check_many.b (fun σ => passAt (takes_of rfl rfl rfl rfl) σ) (pa_cons (pv 1) pa_nil))))
    (pss_cons (ps_if (pt_not (pt_val (pe_call (ok_is_between T.toTA1) (hr.mono (by decide)) rfl T.is_between.m T.is_between.F.kp T.is_between.b .nil pass0 (pa_cons (pv 2) (pa_cons pe_int (pa_cons (pe_glob (v := .int 64) rfl T.c_HIGHEST ⟨_, rfl⟩) pa_nil)))))) (pss_one (ps_raise rfl (takes_of rfl rfl rfl rfl) (pmk_oex T.InvalidRest.T T.InvalidRest.iC T.InvalidRest.tI (ok_init_InvalidRest T.InvalidRest) (hr.mono (by decide)) T.InvalidRest.b .nil pass0 rfl T.InvalidRest.gC (by exact (pa_cons (pv 2) pa_nil))))) pss_nil)
    (pss_cons (ps_if (pt_cmpR op_lt (pe_op op_sub (pv 0) (pv 2)) (pv 1) (nomark _)) (pss_one (ps_ret pe_int)) pss_nil)
    (pss_one (ps_ret (by exact (pe_callS (ok_arrangements T) (hr.mono (by decide)) rfl T.arrangements.m T.arrangements.F.kp T.arrangements.b (fun σ => passAt (takes_of rfl rfl rfl rfl) σ) (pa_cons (pe_op (kcatA K) (by exact (pe_callS (ok_even_parts T) (hr.mono (by decide)) rfl T.even_parts.m T.even_parts.F.kp T.even_parts.b (fun σ => passAt (takes_of rfl rfl rfl rfl) σ) (pa_cons (pe_op op_sub (pv 0) (pv 2)) (pa_cons (pv 1) pa_nil)))) (pe_tup (pa_cons (pv 2) pa_nil))) pa_nil))))))))), ?_⟩
  refine ⟨_, rfl, x, dx, n, ok, rfl, hx, fun c H1 e1 => ?_, fun no e H1 e1 he => q2 no e H1 e1 he⟩
  refine ⟨_, rfl, y, dy, n, ok, rfl, hy.ex e1, fun c2 H2 e2 => ?_, fun no e H2 e2 he => q3 c no e H2 (e1.trans e2) he⟩
  have e12 := e1.trans e2
  obtain ⟨i, rfl, rfl, i0, i1⟩ := betw_int hx c
  obtain ⟨j, rfl, rfl, j0, j1⟩ := betw_int hy c2
  have hz2 := hz.ex e12
  refine ⟨_, rfl, _, _, _, rfl, hz2.dat, fun b h1 h2 => ⟨b, rfl, ?_⟩⟩
  have hb := rd_betw hz2 h1 h2
  subst hb
  cases c3 : betwD 0 64 dz with
  | false => exact ⟨_, rfl, (by show 1 ≤ 1000; decide), fun a ha => raised ha fun e H' ex he => q4 c c2 c3 e H' (e12.trans ex) he⟩
  | true =>
  obtain ⟨k, rfl, rfl, k0, k1⟩ := betw_int hz c3
  have q := q1 c c2 c3
  refine ⟨_, rfl, _, rfl, _, _, rfl, rfl, _, rfl, _, _, rfl, rfl, _, rfl, ite2 (fun c4 => ?_) (fun c4 => ?_)⟩
  · have := of_decide_eq_true c4
    have e : mostA (intD (.int i)) (intD (.int j)) (intD (.int k)) = 0 := if_pos this
    rw [e] at q
    exact q _ e12
  · have c5 : ¬ (i - k < j) := of_decide_eq_false (Bool.eq_false_iff.mpr c4)
    have e : mostA (intD (.int i)) (intD (.int j)) (intD (.int k)) = (arrUp (evenOf (i - k) j ++ [k])).1 := if_neg c5
    rw [e] at q
    have cn : num64 (.int (i - k)) = true := decide_eq_true ⟨by omega, by omega⟩
    refine ⟨_, rfl, _, rfl, _, _, rfl, rfl, _, rfl, .int (i - k), .int j, .int (i - k), .int j, 0, fun _ => True, rfl, .int _, .int _, fun _ _ p H3 e3 hp => ?_, fun no => absurd cn (by rw [no]; decide), fun _ no => absurd c2 (by rw [no]; decide)⟩
    have hp3 := hp _ _ rfl rfl
    obtain ⟨f1, f2, f3⟩ := even_sum (i := i - k) (j := j) (by omega) (by omega)
    refine ⟨_, rfl, (by show 1 ≤ sizeLine; decide), fun p2 hp2 => ?_⟩
    have e4 := Ex.new (o := .tup [.int k]) hp2
    have ds : ((evenOf (i - k) j).map V.int ++ [V.int k]) = (evenOf (i - k) j ++ [k]).map V.int := by rw [List.map_append]; rfl
    have lenE : (evenOf (i - k) j ++ [k]).length ≤ 900 := by rw [List.length_append, f1]; show _ + 1 ≤ 900; omega
    have sumE : (evenOf (i - k) j ++ [k]).sum = i := by rw [List.sum_append, f2]; simp
    have allE : ∀ x ∈ evenOf (i - k) j ++ [k], 0 ≤ x := by
      intro x hx
      rcases List.mem_append.mp hx with h | h
      · exact f3 x h
      · obtain rfl := List.mem_singleton.mp h; exact k0
    have go : ∀ (p5 : Addr) (H5 : Hp), Ex H H5 → SqT K H5 p5 ((evenOf (i - k) j ++ [k]).map V.int) → spArr K T.InvalidParts.C [.ref p5] H5 Q E := by
      intro p5 H5 e5 h5
      have ri : Rd K (fun _ => True) H5 1 (.ref p5) (.tuple ((evenOf (i - k) j ++ [k]).map PyData.int)) := .tup h5 trivial (by rw [List.length_map, List.length_map]) (by rw [List.length_map]; exact lenE) fun m x d hx hd => by
        obtain ⟨z, hz, rfl⟩ := ints_get hx
        rw [List.getElem?_map, hz] at hd
        obtain rfl := Option.some.inj hd
        exact .int z
      have ii : intsD (.tuple ((evenOf (i - k) j ++ [k]).map PyData.int)) = evenOf (i - k) j ++ [k] := by
        show ((evenOf (i - k) j ++ [k]).map PyData.int).map intD = _
        rw [List.map_map]
        exact List.map_id _
      have pd : partsD (.tuple ((evenOf (i - k) j ++ [k]).map PyData.int)) = true := by
        unfold partsD
        rw [ii, decide_eq_true (by rw [sumE]; exact i1), Bool.and_true, Bool.and_eq_true]
        refine ⟨rfl, ?_⟩
        show ((evenOf (i - k) j ++ [k]).map PyData.int).all (fromD 0) = true
        rw [List.all_eq_true]
        intro d hd
        obtain ⟨z, hz, rfl⟩ := List.mem_map.mp hd
        exact decide_eq_true (allE z hz)
      refine ⟨_, _, _, _, rfl, ri, fun _ H6 e6 => ?_, fun no => absurd pd (by rw [no]; decide)⟩
      rw [ii]
      exact q _ (e5.trans e6)
    have e34 := (e12.trans e3).trans e4
    refine ⟨p, p2, _, _, rfl, rfl, ex_t e4 hp3, st_of upd_same, ?_, ?_, ?_, ?_⟩
    · rw [List.length_map, f1]; exact Nat.le_trans (show _ + 1 ≤ 1000 by omega) (by decide)
    · intro z
      refine go p2 _ e34 ?_
      rw [← ds, z]
      exact st_of upd_same
    · intro _ z; cases z
    · intro _ _ p5 hp5
      refine go p5 _ (e34.trans (Ex.new hp5)) ?_
      rw [← ds]
      exact st_of upd_same
end
end L2.U


set_option Elab.async false
set_option linter.all false
set_option maxRecDepth 100000
set_option maxHeartbeats 4000000
namespace L2.U
open PySem PySem.Spec PyProof.Rows Evl

abbrev s_law_triangle : Stmt := top 27
theorem sc_law_triangle : FnScope ["most", "rows", "k", "last", "i"] ["most"] (defScope s_law_triangle) := ⟨rfl, rfl, rfl, by decide +kernel, rfl, by decide +kernel, by decide +kernel⟩
abbrev s_law_listed : Stmt := top 28
theorem sc_law_listed : FnScope ["triangle", "total", "rounds", "rest", "used", "best", "turn", "here", "done", "size", "found"] ["triangle", "total", "rounds", "rest"] (defScope s_law_listed) := ⟨rfl, rfl, rfl, by decide +kernel, rfl, by decide +kernel, by decide +kernel⟩
abbrev s_law_is_between : Stmt := top 29
theorem sc_law_is_between : FnScope ["value", "least", "most"] ["value", "least", "most"] (defScope s_law_is_between) := ⟨rfl, rfl, rfl, by decide +kernel, rfl, by decide +kernel, by decide +kernel⟩
abbrev s_law_are_parts : Stmt := top 30
theorem sc_law_are_parts : FnScope ["value", "part"] ["value"] (defScope s_law_are_parts) := ⟨rfl, rfl, rfl, by decide +kernel, rfl, by decide +kernel, by decide +kernel⟩
abbrev s_law_refused : Stmt := top 31
theorem sc_law_refused : FnScope ["kind", "passed"] ["kind", "passed"] (defScope s_law_refused) := ⟨rfl, rfl, rfl, by decide +kernel, rfl, by decide +kernel, by decide +kernel⟩
abbrev s_law_asked : Stmt := top 32
theorem sc_law_asked : FnScope ["kind", "named", "passed"] ["kind", "named", "passed"] (defScope s_law_asked) := ⟨rfl, rfl, rfl, by decide +kernel, rfl, by decide +kernel, by decide +kernel⟩
abbrev s_law_told : Stmt := top 33
theorem sc_law_told : FnScope ["kind", "named", "passed", "error"] ["kind", "named", "passed"] (defScope s_law_told) := ⟨rfl, rfl, rfl, by decide +kernel, rfl, by decide +kernel, by decide +kernel⟩
abbrev s_law_due : Stmt := top 34
theorem sc_law_due : FnScope ["triangle", "kind", "values", "refused"] ["triangle", "kind", "values"] (defScope s_law_due) := ⟨rfl, rfl, rfl, by decide +kernel, rfl, by decide +kernel, by decide +kernel⟩
abbrev s_law_right : Stmt := top 35
theorem sc_law_right : FnScope ["kind", "named", "values", "due", "one", "passed", "told"] ["kind", "named", "values", "due"] (defScope s_law_right) := ⟨rfl, rfl, rfl, by decide +kernel, rfl, by decide +kernel, by decide +kernel⟩
abbrev s_law_odd : Stmt := top 36
theorem sc_law_odd : FnScope ["box", "menu"] ["box"] (defScope s_law_odd) := ⟨rfl, rfl, rfl, by decide +kernel, rfl, by decide +kernel, by decide +kernel⟩
abbrev s_law_parts : Stmt := top 37
theorem sc_law_parts : FnScope ["box", "many", "way", "found", "odd", "at", "turn"] ["box"] (defScope s_law_parts) := ⟨rfl, rfl, rfl, by decide +kernel, rfl, by decide +kernel, by decide +kernel⟩
abbrev s_law_spoilt : Stmt := top 38
theorem sc_law_spoilt : FnScope ["box", "kind", "bits", "number", "many", "rest"] ["box"] (defScope s_law_spoilt) := ⟨rfl, rfl, rfl, by decide +kernel, rfl, by decide +kernel, by decide +kernel⟩
abbrev s_law_wish : Stmt := top 39
theorem sc_law_wish : FnScope ["box", "most", "total", "rest", "way", "rounds"] ["box", "most"] (defScope s_law_wish) := ⟨rfl, rfl, rfl, by decide +kernel, rfl, by decide +kernel, by decide +kernel⟩
abbrev s_law_great : Stmt := top 40
theorem sc_law_great : FnScope ["box", "total", "way", "rest", "used", "rounds"] ["box"] (defScope s_law_great) := ⟨rfl, rfl, rfl, by decide +kernel, rfl, by decide +kernel, by decide +kernel⟩
abbrev s_law : Stmt := top 41
theorem sc_law : FnScope ["script", "triangle", "k", "box", "named", "great", "turn", "asked", "dues", "at", "kind", "values"] ["script"] (defScope s_law) := ⟨rfl, rfl, rfl, by decide +kernel, rfl, by decide +kernel, by decide +kernel⟩
def kw231 {α : Type} : List α → List α → List α
  | [], [a, b, c] => [b, c, a]
  | _, _ => []
theorem kw231_rel {vs : List V} {us : List Value} {zs : List V} {ws : List Value} (r : Vals vs us) (t : Vals zs ws) : Vals (kw231 vs zs) (kw231 us ws) := by
  cases r with
  | cons _ _ => cases t <;> exact .nil
  | nil => cases t with
    | nil => exact .nil
    | cons a t => cases t with
      | nil => exact .nil
      | cons b t => cases t with
        | nil => exact .nil
        | cons c t => cases t with
          | nil => exact .cons b (.cons c (.cons a .nil))
          | cons _ _ => exact .nil
theorem kb231 {K : PySem.W.Frag} {x qual : Str} {st : Stmt} {f : Addr} {fd : FuncData} {p q r k l m : Str} (F : Fun K x qual st f fd)
    (h : ∀ (kV doc pm : Value) (an : Option Addr) (cdv ct : Value) (u w z : Value), bindArgs (PySem.W.fnOf x qual (defArgs st) (defBody st) (defScope st) .none kV doc pm an cdv ct) ⟨[], [(k, u), (l, w), (m, z)]⟩ = pure [(p, w), (q, z), (r, u)]) : KBinds K fd [p, q, r] [k, l, m] kw231 kw231 := by
  obtain ⟨oc, od, kV, doc, pm, an, cdv, ct, osl, rfl, lk, hcd⟩ := F.ex
  refine ⟨fun s us ws _ hl => ?_, kw231_rel⟩
  match us, ws, hl with
  | [], [u, w, z], _ => exact .of_eq (h kV doc pm an cdv ct u w z)
structure TK (K : PySem.W.Frag) (mg : Str → Option Value) extends TA2 K mg where
  law_triangle : DefAt K mg "_law_triangle" s_law_triangle ["most"]
  law_listed : DefAt K mg "_law_listed" s_law_listed ["triangle", "total", "rounds", "rest"]
  law_is_between : DefAt K mg "_law_is_between" s_law_is_between ["value", "least", "most"]
  law_are_parts : DefAt K mg "_law_are_parts" s_law_are_parts ["value"]
  law_refused : DefAt K mg "_law_refused" s_law_refused ["kind", "passed"]
  law_asked : DefAt K mg "_law_asked" s_law_asked ["kind", "named", "passed"]
  law_told : DefAt K mg "_law_told" s_law_told ["kind", "named", "passed"]
  law_due : DefAt K mg "_law_due" s_law_due ["triangle", "kind", "values"]
  law_right : DefAt K mg "_law_right" s_law_right ["kind", "named", "values", "due"]
  law_odd : DefAt K mg "_law_odd" s_law_odd ["box"]
  law_parts : DefAt K mg "_law_parts" s_law_parts ["box"]
  law_spoilt : DefAt K mg "_law_spoilt" s_law_spoilt ["box"]
  law_wish : DefAt K mg "_law_wish" s_law_wish ["box", "most"]
  law_great : DefAt K mg "_law_great" s_law_great ["box"]
  law : DefAt K mg "law" s_law ["script"]
  kb_factorial_number : KBinds K factorial.fd ["number"] ["number"] kw1 kw1
  kb_choose_many_number : KBinds K choose.fd ["number", "many"] ["many", "number"] kw21 kw21
  kb_arrangements_parts : KBinds K arrangements.fd ["parts"] ["parts"] kw1 kw1
  kb_even_parts_many_total : KBinds K even_parts.fd ["total", "many"] ["many", "total"] kw21 kw21
  kb_most_arranged_rest_total_rounds : KBinds K most_arranged.fd ["total", "rounds", "rest"] ["rest", "total", "rounds"] kw231 kw231
  TalkError_C : Addr
  TalkError_gC : mg "TalkError" = some (.ref TalkError_C)
  eNN : PySem.W.exmOne K (.ref InvalidNumber.C) (.ref InvalidNumber.C) = some true
  eMN : PySem.W.exmOne K (.ref InvalidMany.C) (.ref InvalidNumber.C) = some false
  eMM : PySem.W.exmOne K (.ref InvalidMany.C) (.ref InvalidMany.C) = some true
  ePN : PySem.W.exmOne K (.ref InvalidParts.C) (.ref InvalidNumber.C) = some false
  ePM : PySem.W.exmOne K (.ref InvalidParts.C) (.ref InvalidMany.C) = some false
  ePP : PySem.W.exmOne K (.ref InvalidParts.C) (.ref InvalidParts.C) = some true
  eRN : PySem.W.exmOne K (.ref InvalidRest.C) (.ref InvalidNumber.C) = some false
  eRM : PySem.W.exmOne K (.ref InvalidRest.C) (.ref InvalidMany.C) = some false
  eRP : PySem.W.exmOne K (.ref InvalidRest.C) (.ref InvalidParts.C) = some false
  eRR : PySem.W.exmOne K (.ref InvalidRest.C) (.ref InvalidRest.C) = some true
  z_dict : mg "dict" = none
  z_max : mg "max" = none
  z_min : mg "min" = none
  z_sorted : mg "sorted" = none
section
variable {P : Program} {w : World} {K : PySem.W.Frag} {mg : Str → Option Value} {base : Heap}
theorem two_le : 2 ≤ sizeLine := by decide
def spLawBetween (K : PySem.W.Frag) : Sp := fun vs H Q _ => ∃ x d n ok lo hi, vs = [x, .int lo, .int hi] ∧ Rd K ok H n x d ∧ Q (.bl (betwD lo hi d)) H
theorem ok_law_is_between (T : TK K mg) : FnOk P w K mg base CX0 1 T.law_is_between.a T.law_is_between.fd ["value", "least", "most"] (spLawBetween K) := by
  refine T.law_is_between.F.ok sc_law_is_between (fun vs H Q E h => ?_) (fun cdv A outer s H vs Q E hr h => ?_)
  · obtain ⟨x, d, n, ok, lo, hi, rfl, _⟩ := h; rfl
  obtain ⟨x, d, n, ok, lo, hi, rfl, h, q⟩ := h
  refine ⟨_, (pss_one (ps_ret (pe_and (pe_callB (kisi K) (by rfl) T.z_isinstance (by decide +kernel) (pa_cons (pv 0) (pa_cons (pe_bltn (v := .ty "int") rfl T.z_int (by decide +kernel) rfl) pa_nil))) (pe_and (pe_not (pe_callB (kisi K) (by rfl) T.z_isinstance (by decide +kernel) (pa_cons (pv 0) (pa_cons (pe_bltn (v := .ty "bool") rfl T.z_bool (by decide +kernel) rfl) pa_nil)))) (pe_one (pe_chain op_le op_le (pv 1) (pv 0) (pv 2))))))), ?_⟩
  cases h with
  | non => exact ⟨_, rfl, _, _, _, _, false, rfl, .ty "int", .base .non, kit_ty (by decide +kernel), ⟨_, rfl, iteF q⟩⟩
  | bl b => exact ⟨_, rfl, _, _, _, _, true, rfl, .ty "int", .base (.bl b), kit_ty (by decide +kernel), ⟨_, rfl, iteT ⟨_, rfl, _, _, _, _, true, rfl, .ty "bool", .base (.bl b), kit_ty (by decide +kernel), ⟨_, rfl, _, rfl, iteF q⟩⟩⟩⟩
  | str z _ _ => exact ⟨_, rfl, _, _, _, _, false, rfl, .ty "int", .base (.str z), kit_ty (by decide +kernel), ⟨_, rfl, iteF q⟩⟩
  | lst h1 => exact ⟨_, rfl, _, _, _, _, false, rfl, .ty "int", tyL (SqL.of h1), kit_ty (by decide +kernel), ⟨_, rfl, iteF q⟩⟩
  | tup h1 => exact ⟨_, rfl, _, _, _, _, false, rfl, .ty "int", tyT h1, kit_ty (by decide +kernel), ⟨_, rfl, iteF q⟩⟩
  | int i =>
    refine ⟨_, rfl, _, _, _, _, true, rfl, .ty "int", .base (.int i), kit_ty (by decide +kernel), ⟨_, rfl, iteT ⟨_, rfl, _, _, _, _, false, rfl, .ty "bool", .base (.int i), kit_ty (by decide +kernel), ⟨_, rfl, _, rfl, iteT ?_⟩⟩⟩⟩
    refine ⟨_, rfl, _, rfl, _, _, rfl, rfl, _, rfl, ite2 (fun c => ?_) (fun c => ?_)⟩
    · have c' := of_decide_eq_true c
      refine ⟨_, rfl, _, _, rfl, rfl, ?_⟩
      have e : betwD lo hi (.int i) = decide (i ≤ hi) := by show decide (lo ≤ i ∧ i ≤ hi) = _; simp [c']
      rw [e] at q
      exact q
    · have c' := of_decide_eq_false (Bool.eq_false_iff.mpr c)
      rw [show betwD lo hi (.int i) = false by show decide (lo ≤ i ∧ i ≤ hi) = false; simp [c']] at q
      exact q
/-! ### parts, as the law judges them -/
theorem eq_empty_b {ok : Addr → Prop} {ta : TE} {σ : L2.St} {H : Hp} {n : Nat} {xs : List V} {ds : List PyData} (h : EvL ta σ H xs) (r : ∀ H2, Ex H H2 → RdL K ok H2 n xs ds) (hn : n ≤ 60) : Ev (tOp (rEqD K) ta (tLst tNil)) σ H (.bl ds.isEmpty) := by
  refine ev_opLL h (el_lst ea_nil (Nat.zero_le _)) fun p q H1 hp hq e1 => rv_val fun H2 e2 Q k => ?_
  have r2 := r H2 (e1.trans e2)
  have lay := layAll_of (ds := ds) (n := n) fun d hd => by
    obtain ⟨i, hi⟩ := List.mem_iff_getElem?.mp hd
    have hlt := (List.getElem?_eq_some_iff.mp hi).1
    exact (r2.2 i _ d (List.getElem?_eq_getElem (by rw [r2.1]; exact hlt)) hi).lay
  have sh : SeqAt.shaped (.list ds) = true := by
    simp only [SeqAt.shaped, PyData.canLay0, PyData.depth, lay.1, Bool.true_and]
    exact decide_eq_true (by omega)
  refine ⟨.list ds, .list [], .lst (SqL.of (e2 _ _ hp)) (dpAll_of r2.1 fun i x d hx hd => (r2.2 i x d hx hd).dp), .lst (SqL.of (e2 _ _ hq)) .nil, sh, rfl, ?_⟩
  cases ds with
  | nil => exact k
  | cons d ds => exact k
theorem parts_law {d : PyData} (sq : isSeq d = true) : partsD d = ((itemsD d).all (betwD 0 64) && decide ((intsD d).sum ≤ 64)) := by
  have gen : ∀ ds : List PyData, (ds.all (fromD 0) && decide ((ds.map intD).sum ≤ 64)) = (ds.all (betwD 0 64) && decide ((ds.map intD).sum ≤ 64)) := by
    intro ds
    cases hs : decide ((ds.map intD).sum ≤ 64) with
    | false => simp
    | true =>
      have hs' := of_decide_eq_true hs
      rw [Bool.and_true, Bool.and_true]
      cases h1 : ds.all (fromD 0) with
      | false =>
        symm
        rw [Bool.eq_false_iff] at h1 ⊢
        intro h2
        apply h1
        rw [List.all_eq_true] at h2 ⊢
        intro x hx
        have := h2 x hx
        cases x <;> first | (exact decide_eq_true (of_decide_eq_true this).1) | cases this
      | true =>
        symm
        rw [List.all_eq_true] at h1 ⊢
        have nn : ∀ z ∈ ds.map intD, 0 ≤ z := by
          intro z hz
          obtain ⟨x, hx, rfl⟩ := List.mem_map.mp hz
          have := h1 x hx
          cases x <;> first | (exact of_decide_eq_true this) | cases this
        intro x hx
        have hx1 := h1 x hx
        cases x with
        | int i =>
          obtain ⟨k, hk⟩ := List.mem_iff_getElem?.mp (List.mem_map.mpr ⟨_, hx, rfl⟩ : intD (.int i) ∈ ds.map intD)
          have := part_le nn hk
          have e : intD (.int i) = i := rfl
          rw [e] at this
          exact decide_eq_true ⟨this.1, by omega⟩
        | none => cases hx1
        | bool _ => cases hx1
        | str _ => cases hx1
        | list _ => cases hx1
        | tuple _ => cases hx1
        | dict _ => cases hx1
  unfold partsD intsD
  rw [sq, Bool.true_and]
  exact gen _
def spLawParts (K : PySem.W.Frag) : Sp := fun vs H Q _ => ∃ x d n ok, vs = [x] ∧ Rd K ok H n x d ∧ n ≤ 20 ∧ ∀ H', Ex H H' → Q (.bl (partsD d)) H'
theorem ok_law_are_parts (T : TK K mg) : FnOk P w K mg base CX0 2 T.law_are_parts.a T.law_are_parts.fd ["value"] (spLawParts K) := by
  refine T.law_are_parts.F.ok sc_law_are_parts (fun vs H Q E h => ?_) (fun cdv A outer s H vs Q E hr h => ?_)
  · obtain ⟨x, d, n, ok, rfl, _⟩ := h; rfl
  obtain ⟨x, d, n, ok, rfl, h, hn, q⟩ := h
  refine ⟨_, (pss_cons (ps_if (pt_not (pt_val (pe_callB (kisiT K) (by rfl) T.z_isinstance (by decide +kernel) (pa_cons (pv 0) (pa_cons (pe_tup (pa_cons (pe_bltn (v := .ty "list") rfl T.z_list (by decide +kernel) rfl) (pa_cons (pe_bltn (v := .ty "tuple") rfl T.z_tuple (by decide +kernel) rfl) pa_nil))) pa_nil))))) (pss_one (ps_ret pe_bl)) pss_nil)
    (pss_one (ps_ret (pe_and (pe_cmpR (keqD K hr.units) (pe_lc (own := [("part", 1)]) (g := gName 1) (by rfl) sc_law_are_parts.nd (kpis K (pv 0)) (blkOk_by (own := [("part", 1)]) (N := ["value", "part"]) (sc := defScope s_law_are_parts) (by decide +kernel)) (fun _ _ _ _ _ => (pg_name (i := 1) sc_law_are_parts.nd rfl (Or.inl rfl))) (fun _ _ _ _ _ => (pts_one (pt_not (pt_val (pe_call (ok_law_is_between T) (hr.mono (by decide)) rfl T.law_is_between.m T.law_is_between.F.kp T.law_is_between.b .nil pass0 (pa_cons (pv 1) (pa_cons pe_int (pa_cons pe_int pa_nil)))))))) (fun _ _ _ _ _ => (pv 1))) (pe_lst pa_nil) (nomark _)) (pe_one (pe_cmpR op_le (pe_callB (ksum K rfl) (by rfl) T.z_sum (by decide +kernel) (pa_cons (pv 0) pa_nil)) pe_int (nomark _))))))), ?_⟩
  refine ⟨_, rfl, two_le, fun p hp => ?_⟩
  have x1 := Ex.new (o := .tup [.ty "list", .ty "tuple"]) hp
  cases sq : isSeq d with
  | false =>
    have pf : partsD d = false := by unfold partsD; rw [sq]; rfl
    have q1 := q _ x1
    rw [pf] at q1
    cases h with
    | non => exact ⟨_, p, [.ty "list", .ty "tuple"], _, [.type "list", .type "tuple"], false, rfl, upd_same, .cons (.ty _) (.cons (.ty _) .nil), .base .non, rfl, ⟨_, rfl, iteT q1⟩⟩
    | bl b => exact ⟨_, p, [.ty "list", .ty "tuple"], _, [.type "list", .type "tuple"], false, rfl, upd_same, .cons (.ty _) (.cons (.ty _) .nil), .base (.bl b), rfl, ⟨_, rfl, iteT q1⟩⟩
    | int i => exact ⟨_, p, [.ty "list", .ty "tuple"], _, [.type "list", .type "tuple"], false, rfl, upd_same, .cons (.ty _) (.cons (.ty _) .nil), .base (.int i), rfl, ⟨_, rfl, iteT q1⟩⟩
    | str z _ _ => exact ⟨_, p, [.ty "list", .ty "tuple"], _, [.type "list", .type "tuple"], false, rfl, upd_same, .cons (.ty _) (.cons (.ty _) .nil), .base (.str z), rfl, ⟨_, rfl, iteT q1⟩⟩
    | lst h1 => cases sq
    | tup h1 => cases sq
  | true =>
  have hp' : upd H p (.tup [.ty "list", .ty "tuple"]) p = some (.tup [.ty "list", .ty "tuple"]) := upd_same
  generalize upd H p (.tup [.ty "list", .ty "tuple"]) = H1 at x1 hp' ⊢
  obtain ⟨a, xs, rfl, hs, hl, hz, all⟩ := rd_seq (h.ex x1) sq
  have tyx : TyX K H1 (.ref a) (.type "list") ∨ TyX K H1 (.ref a) (.type "tuple") := hs.imp (fun z => tyL z.1) (fun z => tyT z.1)
  have ds' : ∀ H2, Ex H1 H2 → RdL K ok H2 (n - 1) (given xs.length (fun i => !betwD 0 64 ((itemsD d).getD i .none)) (fun i => xs.getD i .non)) (((List.range xs.length).filter (fun i => !betwD 0 64 ((itemsD d).getD i .none))).map (fun i => (itemsD d).getD i .none)) := by
    intro H2 e2
    unfold given
    refine ⟨by rw [List.length_map, List.length_map], fun i x e hx he => ?_⟩
    rw [List.getElem?_map] at hx he
    cases hk : ((List.range xs.length).filter (fun i => !betwD 0 64 ((itemsD d).getD i .none)))[i]? with
    | none => rw [hk] at hx; cases hx
    | some k =>
      rw [hk] at hx he
      obtain rfl := Option.some.inj hx
      obtain rfl := Option.some.inj he
      have km := List.mem_of_getElem? hk
      rw [List.mem_filter, List.mem_range] at km
      have h1 : xs[k]? = some (xs.getD k .non) := by rw [List.getD_eq_getElem?_getD, List.getElem?_eq_getElem km.1]; rfl
      have h2 : (itemsD d)[k]? = some ((itemsD d).getD k .none) := by rw [List.getD_eq_getElem?_getD, List.getElem?_eq_getElem (show k < (itemsD d).length by omega)]; rfl
      exact (all k _ _ h1 h2).ex e2
  have emp : (((List.range xs.length).filter (fun i => !betwD 0 64 ((itemsD d).getD i .none))).map (fun i => (itemsD d).getD i .none)).isEmpty = (itemsD d).all (betwD 0 64) := by
    rw [Bool.eq_iff_iff, List.isEmpty_iff, List.map_eq_nil_iff, List.filter_eq_nil_iff, List.all_eq_true]
    constructor
    · intro h e he
      obtain ⟨k, hk⟩ := List.mem_iff_getElem?.mp he
      have hlt := (List.getElem?_eq_some_iff.mp hk).1
      have := h k (by rw [List.mem_range]; omega)
      rw [List.getD_eq_getElem?_getD, hk] at this
      simpa using this
    · intro h k hk
      rw [List.mem_range] at hk
      have : (itemsD d).getD k .none ∈ itemsD d := by
        rw [List.getD_eq_getElem?_getD, List.getElem?_eq_getElem (show k < (itemsD d).length by omega)]
        exact List.getElem_mem _
      intro hk2
      rw [h _ this] at hk2
      cases hk2
  have hs2 : SqL K H1 a xs ∨ SqT K H1 a xs := hs.imp (fun z => z.1) (fun z => z.1)
  have tail : ∀ H2, Ex H1 H2 → ∀ (b : Bool), (itemsD d).all (betwD 0 64) = b → (if b = true then tCons (tVar 0) tNil (start ["value", "part"] [.ref a]) H2 fun us H3 => rSumS K us H3 fun v H4 => ∃ i j : Int, v = .int i ∧ V.int 64 = .int j ∧ Q (.bl (decide (i ≤ j))) H4 else Q (.bl false) H2) := by
    intro H2 e2 b hb
    have qq := q H2 (x1.trans e2)
    rw [parts_law sq, hb] at qq
    cases b with
    | false => exact iteF qq
    | true =>
      have hf : (itemsD d).all (fromD 0) = true := by
        rw [List.all_eq_true] at hb ⊢
        intro x hx
        have := hb x hx
        cases x <;> first | (exact decide_eq_true (of_decide_eq_true this).1) | cases this
      have hxs := (ints_of hl all hf).1
      have hs3 := hs2
      rw [hxs] at hs3
      exact iteT ⟨_, rfl, a, _, rfl, hs3.imp (ex_l e2) (ex_t e2), _, _, rfl, rfl, qq⟩
  rcases tyx with ty | ty
  all_goals
    refine ⟨_, p, [.ty "list", .ty "tuple"], _, [.type "list", .type "tuple"], true, rfl, hp', .cons (.ty _) (.cons (.ty _) .nil), ty, rfl, ⟨_, rfl, iteF ?_⟩⟩
    refine eq_empty_b (el_lcS (fun i => !betwD 0 64 ((itemsD d).getD i .none)) (fun i => xs.getD i .non) (ev_var rfl) hs2 (by omega) (fun _ => rfl) ?_ ?_) ds' (by omega) H1 (Ex.refl _) _ (fun H2 e2 => ⟨_, rfl, ?_⟩)
    · intro i x H2 e2 hx H3 e3 Q3 k3
      have hi := (List.getElem?_eq_some_iff.mp hx).1
      have hd : (itemsD d)[i]? = some ((itemsD d).getD i .none) := by rw [List.getD_eq_getElem?_getD, List.getElem?_eq_getElem (show i < (itemsD d).length by omega)]; rfl
      exact ⟨_, rfl, _, _, _, _, _, _, rfl, (all i x _ hx hd).ex (e2.trans e3), ⟨_, rfl, k3 H3 (Ex.refl _)⟩⟩
    · intro i x H2 e2 hx _ H3 e3 Q3 k3
      have e : xs.getD i .non = x := by rw [List.getD_eq_getElem?_getD, hx]; rfl
      rw [e] at k3
      exact ⟨_, rfl, k3 H3 (Ex.refl _)⟩
    · rw [emp]
      exact tail H2 e2 _ rfl
end
end L2.U


set_option Elab.async false
set_option linter.all false
set_option maxRecDepth 100000
set_option maxHeartbeats 4000000
namespace L2.U
open PySem PySem.Spec PyProof.Rows Evl
section
variable {P : Program} {w : World} {K : PySem.W.Frag} {mg : Str → Option Value} {base : Heap}

/-! ### which error is due, and at which place -/
def g0 (ds : List PyData) : PyData := ds.getD 0 .none
def g1 (ds : List PyData) : PyData := ds.getD 1 .none
def g2 (ds : List PyData) : PyData := ds.getD 2 .none
def rfd (kind : Int) (ds : List PyData) : Option (Str × Nat) :=
  if kind = 2 then (if partsD (g0 ds) = true then none else some ("parts", 0))
  else if num64 (g0 ds) = false then some ("number", 0)
  else if 0 < kind ∧ betwD (if 2 < kind then 1 else 0) 64 (g1 ds) = false then some ("many", 1)
  else if kind = 4 ∧ num64 (g2 ds) = false then some ("rest", 2)
  else none
def Arity (kind : Int) (n : Nat) : Prop := (kind = 0 ∧ n = 1) ∨ (kind = 1 ∧ n = 2) ∨ (kind = 2 ∧ n = 1) ∨ (kind = 3 ∧ n = 2) ∨ (kind = 4 ∧ n = 3)
theorem rdl_one {ok : Addr → Prop} {H : Hp} {n : Nat} {xs : List V} {ds : List PyData} (h : RdL K ok H n xs ds) (l : ds.length = 1) : ∃ x d, xs = [x] ∧ ds = [d] ∧ Rd K ok H n x d := by
  obtain ⟨hl, hc⟩ := h
  match ds, xs, l, hl, hc with
  | [d], [x], _, _, hc => exact ⟨x, d, rfl, rfl, hc 0 x d rfl rfl⟩
theorem rdl_two {ok : Addr → Prop} {H : Hp} {n : Nat} {xs : List V} {ds : List PyData} (h : RdL K ok H n xs ds) (l : ds.length = 2) : ∃ x y d e, xs = [x, y] ∧ ds = [d, e] ∧ Rd K ok H n x d ∧ Rd K ok H n y e := by
  obtain ⟨hl, hc⟩ := h
  match ds, xs, l, hl, hc with
  | [d, e], [x, y], _, _, hc => exact ⟨x, y, d, e, rfl, rfl, hc 0 x d rfl rfl, hc 1 y e rfl rfl⟩
theorem rdl_three {ok : Addr → Prop} {H : Hp} {n : Nat} {xs : List V} {ds : List PyData} (h : RdL K ok H n xs ds) (l : ds.length = 3) : ∃ x y z d e f, xs = [x, y, z] ∧ ds = [d, e, f] ∧ Rd K ok H n x d ∧ Rd K ok H n y e ∧ Rd K ok H n z f := by
  obtain ⟨hl, hc⟩ := h
  match ds, xs, l, hl, hc with
  | [d, e, f], [x, y, z], _, _, hc => exact ⟨x, y, z, d, e, f, rfl, rfl, hc 0 x d rfl rfl, hc 1 y e rfl rfl, hc 2 z f rfl rfl⟩
def spRefused (K : PySem.W.Frag) : Sp := fun vs H Q _ => ∃ (kind : Int) (vt : Addr) (xs : List V) (ds : List PyData) (n : Nat) (ok : Addr → Prop), vs = [.int kind, .ref vt] ∧ SqT K H vt xs ∧ RdL K ok H n xs ds ∧ n ≤ 20 ∧ Arity kind ds.length ∧
  (rfd kind ds = none → ∀ H', Ex H H' → Q .non H') ∧ (∀ w j x, rfd kind ds = some (w, j) → xs[j]? = some x → ∀ t H', Ex H H' → H' t = some (.tup [.str w, x]) → Q (.ref t) H')
theorem ok_law_refused (T : TK K mg) : FnOk P w K mg base CX0 3 T.law_refused.a T.law_refused.fd ["kind", "passed"] (spRefused K) := by
  refine T.law_refused.F.ok sc_law_refused (fun vs H Q E h => ?_) (fun cdv A outer s H vs Q E hr h => ?_)
  · obtain ⟨kind, vt, xs, ds, n, ok, rfl, _⟩ := h; rfl
  obtain ⟨kind, vt, xs, ds, n, ok, rfl, hv, r, hn, ar, q1, q2⟩ := h
  refine ⟨_, (pss_cons (ps_if (pt_cmpR op_eq (pv 0) pe_int (nomark _)) (pss_one (ps_ret (pe_ifExp (pt_val (pe_call (ok_law_are_parts T) (hr.mono (by decide)) rfl T.law_are_parts.m T.law_are_parts.F.kp T.law_are_parts.b .nil pass0 (pa_cons (pe_ix (kixt K) (pv 1) pe_int (fun _ _ => rfl)) pa_nil))) pe_non (pe_tup (pa_cons pe_str (pa_cons (pe_ix (kixt K) (pv 1) pe_int (fun _ _ => rfl)) pa_nil)))))) pss_nil)
    (pss_cons (ps_if (pt_not (pt_val (pe_call (ok_law_is_between T) (hr.mono (by decide)) rfl T.law_is_between.m T.law_is_between.F.kp T.law_is_between.b .nil pass0 (pa_cons (pe_ix (kixt K) (pv 1) pe_int (fun _ _ => rfl)) (pa_cons pe_int (pa_cons pe_int pa_nil)))))) (pss_one (ps_ret (pe_tup (pa_cons pe_str (pa_cons (pe_ix (kixt K) (pv 1) pe_int (fun _ _ => rfl)) pa_nil))))) pss_nil)
    (pss_cons (ps_if (PW.pt (pw_and (pt_cmpR op_gt (pv 0) pe_int (nomark _)) (pw_and1 (pt_not (pt_val (pe_call (ok_law_is_between T) (hr.mono (by decide)) rfl T.law_is_between.m T.law_is_between.F.kp T.law_is_between.b .nil pass0 (pa_cons (pe_ix (kixt K) (pv 1) pe_int (fun _ _ => rfl)) (pa_cons (pe_ifExp (pt_cmpR op_gt (pv 0) pe_int (nomark _)) pe_int pe_int) (pa_cons pe_int pa_nil))))))))) (pss_one (ps_ret (pe_tup (pa_cons pe_str (pa_cons (pe_ix (kixt K) (pv 1) pe_int (fun _ _ => rfl)) pa_nil))))) pss_nil)
    (pss_cons (ps_if (PW.pt (pw_and (pt_cmpR op_eq (pv 0) pe_int (nomark _)) (pw_and1 (pt_not (pt_val (pe_call (ok_law_is_between T) (hr.mono (by decide)) rfl T.law_is_between.m T.law_is_between.F.kp T.law_is_between.b .nil pass0 (pa_cons (pe_ix (kixt K) (pv 1) pe_int (fun _ _ => rfl)) (pa_cons pe_int (pa_cons pe_int pa_nil))))))))) (pss_one (ps_ret (pe_tup (pa_cons pe_str (pa_cons (pe_ix (kixt K) (pv 1) pe_int (fun _ _ => rfl)) pa_nil))))) pss_nil)
    (pss_one (ps_ret pe_non)))))), ?_⟩
  have out : ∀ (w : Str) (j : Nat) (x : V), rfd kind ds = some (w, j) → xs[j]? = some x → ∀ H1, Ex H H1 → ∀ t, H1 t = none → Q (.ref t) (upd H1 t (.tup [.str w, x])) :=
    fun w j x h hx H1 e1 t ht => q2 w j x h hx t _ (e1.trans (Ex.new ht)) upd_same
  rcases ar with ⟨rfl, l⟩ | ⟨rfl, l⟩ | ⟨rfl, l⟩ | ⟨rfl, l⟩ | ⟨rfl, l⟩
  · obtain ⟨x, d, rfl, rfl, rx⟩ := rdl_one r l
    refine ⟨_, rfl, rfl, _, rfl, iteF ?_⟩
    refine ⟨_, rfl, _, _, _, _, rfl, rfl, hv, rfl, _, _, _, _, _, _, rfl, rx, ⟨_, rfl, ?_⟩⟩
    cases c : betwD 0 64 d with
    | false => exact iteT ⟨_, rfl, _, _, _, _, rfl, rfl, hv, rfl, two_le, fun t ht => out "number" 0 x (by unfold rfd num64 g0; simp [c]) rfl H (Ex.refl _) t ht⟩
    | true =>
      refine iteF ⟨_, rfl, _, _, rfl, rfl, _, rfl, iteF ⟨_, rfl, rfl, _, rfl, iteF (q1 ?_ _ (Ex.refl _))⟩⟩
      unfold rfd num64 g0; simp [c]
  · obtain ⟨x, y, d, e, rfl, rfl, rx, ry⟩ := rdl_two r l
    refine ⟨_, rfl, rfl, _, rfl, iteF ?_⟩
    refine ⟨_, rfl, _, _, _, _, rfl, rfl, hv, rfl, _, _, _, _, _, _, rfl, rx, ⟨_, rfl, ?_⟩⟩
    cases c : betwD 0 64 d with
    | false => exact iteT ⟨_, rfl, _, _, _, _, rfl, rfl, hv, rfl, two_le, fun t ht => out "number" 0 x (by unfold rfd num64 g0; simp [c]) rfl H (Ex.refl _) t ht⟩
    | true =>
      refine iteF ⟨_, rfl, _, _, rfl, rfl, _, rfl, iteT ?_⟩
      refine ⟨_, rfl, _, _, _, _, rfl, rfl, hv, rfl, _, rfl, _, _, rfl, rfl, _, rfl, iteF ⟨_, _, _, _, _, _, rfl, ry, ⟨_, rfl, ?_⟩⟩⟩
      cases c1 : betwD 0 64 e with
      | false => exact iteT ⟨_, rfl, _, _, _, _, rfl, rfl, hv, rfl, two_le, fun t ht => out "many" 1 y (by unfold rfd num64 g0 g1; simp [c, c1]) rfl H (Ex.refl _) t ht⟩
      | true =>
        refine iteF ⟨_, rfl, rfl, _, rfl, iteF (q1 ?_ _ (Ex.refl _))⟩
        unfold rfd num64 g0 g1; simp [c, c1]
  · obtain ⟨x, d, rfl, rfl, rx⟩ := rdl_one r l
    refine ⟨_, rfl, rfl, _, rfl, iteT ?_⟩
    refine ⟨_, rfl, _, _, _, _, rfl, rfl, hv, rfl, _, _, _, _, rfl, rx, hn, fun H1 e1 => ⟨_, rfl, ?_⟩⟩
    cases c : partsD d with
    | false => exact iteF ⟨_, rfl, _, _, _, _, rfl, rfl, ex_t e1 hv, rfl, two_le, fun t ht => out "parts" 0 x (by unfold rfd g0; simp [c]) rfl H1 e1 t ht⟩
    | true => exact iteT (q1 (by unfold rfd g0; simp [c]) _ e1)
  · obtain ⟨x, y, d, e, rfl, rfl, rx, ry⟩ := rdl_two r l
    refine ⟨_, rfl, rfl, _, rfl, iteF ?_⟩
    refine ⟨_, rfl, _, _, _, _, rfl, rfl, hv, rfl, _, _, _, _, _, _, rfl, rx, ⟨_, rfl, ?_⟩⟩
    cases c : betwD 0 64 d with
    | false => exact iteT ⟨_, rfl, _, _, _, _, rfl, rfl, hv, rfl, two_le, fun t ht => out "number" 0 x (by unfold rfd num64 g0; simp [c]) rfl H (Ex.refl _) t ht⟩
    | true =>
      refine iteF ⟨_, rfl, _, _, rfl, rfl, _, rfl, iteT ?_⟩
      refine ⟨_, rfl, _, _, _, _, rfl, rfl, hv, rfl, _, rfl, _, _, rfl, rfl, _, rfl, iteT ⟨_, _, _, _, _, _, rfl, ry, ⟨_, rfl, ?_⟩⟩⟩
      cases c1 : betwD 1 64 e with
      | false => exact iteT ⟨_, rfl, _, _, _, _, rfl, rfl, hv, rfl, two_le, fun t ht => out "many" 1 y (by unfold rfd num64 g0 g1; simp [c, c1]) rfl H (Ex.refl _) t ht⟩
      | true =>
        refine iteF ⟨_, rfl, rfl, _, rfl, iteF (q1 ?_ _ (Ex.refl _))⟩
        unfold rfd num64 g0 g1; simp [c, c1]
  · obtain ⟨x, y, z, d, e, f, rfl, rfl, rx, ry, rz⟩ := rdl_three r l
    refine ⟨_, rfl, rfl, _, rfl, iteF ?_⟩
    refine ⟨_, rfl, _, _, _, _, rfl, rfl, hv, rfl, _, _, _, _, _, _, rfl, rx, ⟨_, rfl, ?_⟩⟩
    cases c : betwD 0 64 d with
    | false => exact iteT ⟨_, rfl, _, _, _, _, rfl, rfl, hv, rfl, two_le, fun t ht => out "number" 0 x (by unfold rfd num64 g0; simp [c]) rfl H (Ex.refl _) t ht⟩
    | true =>
      refine iteF ⟨_, rfl, _, _, rfl, rfl, _, rfl, iteT ?_⟩
      refine ⟨_, rfl, _, _, _, _, rfl, rfl, hv, rfl, _, rfl, _, _, rfl, rfl, _, rfl, iteT ⟨_, _, _, _, _, _, rfl, ry, ⟨_, rfl, ?_⟩⟩⟩
      cases c1 : betwD 1 64 e with
      | false => exact iteT ⟨_, rfl, _, _, _, _, rfl, rfl, hv, rfl, two_le, fun t ht => out "many" 1 y (by unfold rfd num64 g0 g1; simp [c, c1]) rfl H (Ex.refl _) t ht⟩
      | true =>
        refine iteF ⟨_, rfl, rfl, _, rfl, iteT ?_⟩
        refine ⟨_, rfl, _, _, _, _, rfl, rfl, hv, rfl, _, _, _, _, _, _, rfl, rz, ⟨_, rfl, ?_⟩⟩
        cases c2 : betwD 0 64 f with
        | false => exact iteT ⟨_, rfl, _, _, _, _, rfl, rfl, hv, rfl, two_le, fun t ht => out "rest" 2 z (by unfold rfd num64 g0 g1 g2; simp [c, c1, c2]) rfl H (Ex.refl _) t ht⟩
        | true =>
          refine iteF (q1 ?_ _ (Ex.refl _))
          unfold rfd num64 g0 g1 g2; simp [c, c1, c2]
end
end L2.U


set_option Elab.async false
set_option linter.all false
set_option maxRecDepth 100000
set_option maxHeartbeats 4000000
namespace L2.U
open PySem PySem.Spec PyProof.Rows Evl
section
variable {P : Program} {w : World} {K : PySem.W.Frag} {mg : Str → Option Value} {base : Heap}

def most3 (ds : List PyData) : Int := mostA (intD (g0 ds)) (intD (g1 ds)) (intD (g2 ds))
def spAsked (K : PySem.W.Frag) (CN CM CP CR : Addr) : Sp := fun vs H Q E => ∃ (kind named : Int) (p : Addr) (xs : List V) (ds : List PyData) (n : Nat) (ok : Addr → Prop), vs = [.int kind, .int named, .ref p] ∧ SqL K H p xs ∧ RdL K ok H n xs ds ∧ Arity kind ds.length ∧
  (rfd kind ds = none → ∀ v H', Ex H H' → (kind = 4 → v = .int (most3 ds)) → Q v H') ∧
  (rfd kind ds = some (("number" : Str), 0) → ∀ x, xs[0]? = some x → ∀ e H', Ex H H' → H' e = some (.xd [("given", x)]) → E (.ref CN) (some e) H') ∧
  (rfd kind ds = some (("many" : Str), 1) → ∀ x, xs[1]? = some x → ∀ e H', Ex H H' → H' e = some (.xd [("given", x)]) → E (.ref CM) (some e) H') ∧
  (rfd kind ds = some (("parts" : Str), 0) → ∀ x, xs[0]? = some x → ∀ e H', Ex H H' → H' e = some (.xd [("given", x)]) → E (.ref CP) (some e) H') ∧
  (rfd kind ds = some (("rest" : Str), 2) → ∀ x, xs[2]? = some x → ∀ e H', Ex H H' → H' e = some (.xd [("given", x)]) → E (.ref CR) (some e) H')
theorem ok_law_asked (T : TK K mg) : FnOk P w K mg base (L2.CX P w) 7 T.law_asked.a T.law_asked.fd ["kind", "named", "passed"] (spAsked K T.InvalidNumber.C T.InvalidMany.C T.InvalidParts.C T.InvalidRest.C) := by
  refine T.law_asked.F.okX sc_law_asked (fun vs H Q E h => ?_) (fun cdv A outer s H vs Q E hr h => ?_)
  · obtain ⟨kind, named, p, xs, ds, n, ok, rfl, _⟩ := h; rfl
  obtain ⟨kind, named, p, xs, ds, n, ok, rfl, hL, r, ar, q, qN, qM, qP, qR⟩ := h
  refine ⟨_, (pss_cons (ps_if (pt_cmpR op_eq (pv 0) pe_int (nomark _)) (pss_one (ps_ret (pe_ifExp (pt_cmpR op_eq (pv 1) pe_int (nomark _)) (by exact (pe_callS (ok_factorial T.toTA2) (hr.mono (by decide)) rfl T.factorial.m T.factorial.F.kp T.factorial.b (fun σ => passAt (takes_of rfl rfl rfl rfl) σ) (pa_cons (pe_ix (kixl K) (pv 2) pe_int (fun _ _ => rfl)) pa_nil))) (by exact (pe_callKw (ok_factorial T.toTA2) (hr.mono (by decide)) rfl T.factorial.m T.factorial.F.kp T.kb_factorial_number (fun σ => passAt (takes_of rfl rfl rfl rfl) σ) (pk_cons (pe_ix (kixl K) (pv 2) pe_int (fun _ _ => rfl)) pk_nil)))))) pss_nil)
    (pss_cons (ps_if (pt_cmpR op_eq (pv 0) pe_int (nomark _)) (pss_one (ps_ret (pe_ifExp (pt_cmpR op_eq (pv 1) pe_int (nomark _)) (by exact (pe_callS (ok_choose T.toTA2) (hr.mono (by decide)) rfl T.choose.m T.choose.F.kp T.choose.b (fun σ => passAt (takes_of rfl rfl rfl rfl) σ) (pa_cons (pe_ix (kixl K) (pv 2) pe_int (fun _ _ => rfl)) (pa_cons (pe_ix (kixl K) (pv 2) pe_int (fun _ _ => rfl)) pa_nil)))) (by exact (pe_callKw (ok_choose T.toTA2) (hr.mono (by decide)) rfl T.choose.m T.choose.F.kp T.kb_choose_many_number (fun σ => passAt (takes_of rfl rfl rfl rfl) σ) (pk_cons (pe_ix (kixl K) (pv 2) pe_int (fun _ _ => rfl)) (pk_cons (pe_ix (kixl K) (pv 2) pe_int (fun _ _ => rfl)) pk_nil))))))) pss_nil)
    (pss_cons (ps_if (pt_cmpR op_eq (pv 0) pe_int (nomark _)) (pss_one (ps_ret (pe_ifExp (pt_cmpR op_eq (pv 1) pe_int (nomark _)) (by exact (pe_callS (ok_arrangements T.toTA2) (hr.mono (by decide)) rfl T.arrangements.m T.arrangements.F.kp T.arrangements.b (fun σ => passAt (takes_of rfl rfl rfl rfl) σ) (pa_cons (pe_ix (kixl K) (pv 2) pe_int (fun _ _ => rfl)) pa_nil))) (by exact (pe_callKw (ok_arrangements T.toTA2) (hr.mono (by decide)) rfl T.arrangements.m T.arrangements.F.kp T.kb_arrangements_parts (fun σ => passAt (takes_of rfl rfl rfl rfl) σ) (pk_cons (pe_ix (kixl K) (pv 2) pe_int (fun _ _ => rfl)) pk_nil)))))) pss_nil)
    (pss_cons (ps_if (pt_cmpR op_eq (pv 0) pe_int (nomark _)) (pss_one (ps_ret (pe_ifExp (pt_cmpR op_eq (pv 1) pe_int (nomark _)) (by exact (pe_callS (ok_even_parts T.toTA2) (hr.mono (by decide)) rfl T.even_parts.m T.even_parts.F.kp T.even_parts.b (fun σ => passAt (takes_of rfl rfl rfl rfl) σ) (pa_cons (pe_ix (kixl K) (pv 2) pe_int (fun _ _ => rfl)) (pa_cons (pe_ix (kixl K) (pv 2) pe_int (fun _ _ => rfl)) pa_nil)))) (by exact (pe_callKw (ok_even_parts T.toTA2) (hr.mono (by decide)) rfl T.even_parts.m T.even_parts.F.kp T.kb_even_parts_many_total (fun σ => passAt (takes_of rfl rfl rfl rfl) σ) (pk_cons (pe_ix (kixl K) (pv 2) pe_int (fun _ _ => rfl)) (pk_cons (pe_ix (kixl K) (pv 2) pe_int (fun _ _ => rfl)) pk_nil))))))) pss_nil)
    (pss_cons (ps_if (pt_cmpR op_eq (pv 1) pe_int (nomark _)) (pss_one (ps_ret (by exact (pe_callS (ok_most_arranged T.toTA2) (hr.mono (by decide)) rfl T.most_arranged.m T.most_arranged.F.kp T.most_arranged.b (fun σ => passAt (takes_of rfl rfl rfl rfl) σ) (pa_cons (pe_ix (kixl K) (pv 2) pe_int (fun _ _ => rfl)) (pa_cons (pe_ix (kixl K) (pv 2) pe_int (fun _ _ => rfl)) (pa_cons (pe_ix (kixl K) (pv 2) pe_int (fun _ _ => rfl)) pa_nil))))))) pss_nil)
    (pss_one (ps_ret (by exact (pe_callKw (ok_most_arranged T.toTA2) (hr.mono (by decide)) rfl T.most_arranged.m T.most_arranged.F.kp T.kb_most_arranged_rest_total_rounds (fun σ => passAt (takes_of rfl rfl rfl rfl) σ) (pk_cons (pe_ix (kixl K) (pv 2) pe_int (fun _ _ => rfl)) (pk_cons (pe_ix (kixl K) (pv 2) pe_int (fun _ _ => rfl)) (pk_cons (pe_ix (kixl K) (pv 2) pe_int (fun _ _ => rfl)) pk_nil)))))))))))), ?_⟩
  rcases ar with ⟨rfl, l⟩ | ⟨rfl, l⟩ | ⟨rfl, l⟩ | ⟨rfl, l⟩ | ⟨rfl, l⟩
  · obtain ⟨x, d, rfl, rfl, rx⟩ := rdl_one r l
    refine ⟨_, rfl, rfl, _, rfl, iteT ⟨_, rfl, rfl, _, rfl, ite2 (fun _ => ?_) (fun _ => ?_)⟩⟩
    all_goals
      refine ⟨_, rfl, _, _, _, _, rfl, rfl, hL, rfl, x, d, n, ok, rfl, rx, fun c v H' e => ?_, fun c e H' ex he => ?_⟩
      · exact q (by unfold rfd g0; simp [c]) v H' e (fun z => by cases z)
      · exact qN (by unfold rfd g0; simp [c]) x rfl e H' ex he
  · obtain ⟨x, y, d, f, rfl, rfl, rx, ry⟩ := rdl_two r l
    refine ⟨_, rfl, rfl, _, rfl, iteF ⟨_, rfl, rfl, _, rfl, iteT ⟨_, rfl, rfl, _, rfl, ite2 (fun _ => ?_) (fun _ => ?_)⟩⟩⟩
    all_goals
      refine ⟨_, rfl, _, _, _, _, rfl, rfl, hL, rfl, _, rfl, _, _, _, _, rfl, rfl, hL, rfl, x, y, d, f, n, ok, rfl, rx, ry, fun c c2 v H' e => ?_, fun c e H' ex he => ?_, fun c c2 e H' ex he => ?_⟩
      · exact q (by unfold rfd g0 g1; unfold num64 at c c2; simp [num64, c, c2]) v H' e (fun z => by cases z)
      · exact qN (by unfold rfd g0; simp [c]) x rfl e H' ex he
      · exact qM (by unfold rfd g0 g1; unfold num64 at c c2; simp [num64, c, c2]) y rfl e H' ex he
  · obtain ⟨x, d, rfl, rfl, rx⟩ := rdl_one r l
    refine ⟨_, rfl, rfl, _, rfl, iteF ⟨_, rfl, rfl, _, rfl, iteF ⟨_, rfl, rfl, _, rfl, iteT ⟨_, rfl, rfl, _, rfl, ite2 (fun _ => ?_) (fun _ => ?_)⟩⟩⟩⟩
    all_goals
      refine ⟨_, rfl, _, _, _, _, rfl, rfl, hL, rfl, x, d, n, ok, rfl, rx, fun c H' e => ?_, fun c e H' ex he => ?_⟩
      · exact q (by unfold rfd g0; simp [c]) _ H' e (fun z => by cases z)
      · exact qP (by unfold rfd g0; simp [c]) x rfl e H' ex he
  · obtain ⟨x, y, d, f, rfl, rfl, rx, ry⟩ := rdl_two r l
    refine ⟨_, rfl, rfl, _, rfl, iteF ⟨_, rfl, rfl, _, rfl, iteF ⟨_, rfl, rfl, _, rfl, iteF ⟨_, rfl, rfl, _, rfl, iteT ⟨_, rfl, rfl, _, rfl, ite2 (fun _ => ?_) (fun _ => ?_)⟩⟩⟩⟩⟩
    all_goals
      refine ⟨_, rfl, _, _, _, _, rfl, rfl, hL, rfl, _, rfl, _, _, _, _, rfl, rfl, hL, rfl, x, y, d, f, n, ok, rfl, rx, ry, fun c c2 v H' e _ => ?_, fun c e H' ex he => ?_, fun c c2 e H' ex he => ?_⟩
      · exact q (by unfold rfd g0 g1; unfold many64 at c2; simp [c, c2]) _ H' e (fun z => by cases z)
      · exact qN (by unfold rfd g0; simp [c]) x rfl e H' ex he
      · exact qM (by unfold rfd g0 g1; unfold many64 at c2; simp [c, c2]) y rfl e H' ex he
  · obtain ⟨x, y, z, d, f, g, rfl, rfl, rx, ry, rz⟩ := rdl_three r l
    refine ⟨_, rfl, rfl, _, rfl, iteF ⟨_, rfl, rfl, _, rfl, iteF ⟨_, rfl, rfl, _, rfl, iteF ⟨_, rfl, rfl, _, rfl, iteF ⟨_, rfl, rfl, _, rfl, ite2 (fun _ => ?_) (fun _ => ?_)⟩⟩⟩⟩⟩
    all_goals
      refine ⟨_, rfl, _, _, _, _, rfl, rfl, hL, rfl, _, rfl, _, _, _, _, rfl, rfl, hL, rfl, _, rfl, _, _, _, _, rfl, rfl, hL, rfl, x, y, z, d, f, g, n, ok, rfl, rx, ry, rz, fun c c2 c3 H' e => ?_, fun c e H' ex he => ?_, fun c c2 e H' ex he => ?_, fun c c2 c3 e H' ex he => ?_⟩
      · exact q (by unfold rfd g0 g1 g2; unfold many64 at c2; simp [c, c2, c3]) _ H' e (fun _ => rfl)
      · exact qN (by unfold rfd g0; simp [c]) x rfl e H' ex he
      · exact qM (by unfold rfd g0 g1; unfold many64 at c2; simp [c, c2]) y rfl e H' ex he
      · exact qR (by unfold rfd g0 g1 g2; unfold many64 at c2; simp [c, c2, c3]) z rfl e H' ex he
def spTold (K : PySem.W.Frag) : Sp := fun vs H Q _ => ∃ (kind named : Int) (p : Addr) (xs : List V) (ds : List PyData) (n : Nat) (ok : Addr → Prop), vs = [.int kind, .int named, .ref p] ∧ SqL K H p xs ∧ RdL K ok H n xs ds ∧ Arity kind ds.length ∧
  (rfd kind ds = none → ∀ v t H', Ex H H' → (kind = 4 → v = .int (most3 ds)) → H' t = some (.tup [.str "done", v]) → Q (.ref t) H') ∧
  (∀ w j x, rfd kind ds = some (w, j) → xs[j]? = some x → ∀ t H', Ex H H' → H' t = some (.tup [.str w, x]) → Q (.ref t) H')
theorem ok_law_told (T : TK K mg) : FnOk P w K mg base CX0 8 T.law_told.a T.law_told.fd ["kind", "named", "passed"] (spTold K) := by
  refine T.law_told.F.ok sc_law_told (fun vs H Q E h => ?_) (fun cdv A outer s H vs Q E hr h => ?_)
  · obtain ⟨kind, named, p, xs, ds, n, ok, rfl, _⟩ := h; rfl
  obtain ⟨kind, named, p, xs, ds, n, ok, rfl, hL, r, ar, q1, q2⟩ := h
  refine ⟨_, (pss_one (ps_tryC rfl rfl takes0 (fun W pn xe tk _ => (pss_one (ps_ret (pe_tup (pa_cons pe_str (pa_cons (by exact (pe_callS (ok_law_asked T) (hr.mono (by decide)) rfl T.law_asked.m T.law_asked.F.kp T.law_asked.b (fun σ => passAt tk σ) (pa_cons (pv 0) (pa_cons (pv 1) (pa_cons (pv 2) pa_nil))))) pa_nil)))))) (ClausesOk.cons (ClauseOk.named (i := 3) sc_law_told.nd rfl rfl ⟨rfl, by decide, Or.inl T.InvalidNumber.gC⟩ (fun a oe cls d pn hz hf => (pss_one (ps_ret (pe_tup (pa_cons pe_str (pa_cons (pe_xf T.InvalidNumber.xf T.InvalidNumber.nf hz hf (pv 3)) pa_nil)))))))
     (ClausesOk.cons (ClauseOk.named (i := 3) sc_law_told.nd rfl rfl ⟨rfl, by decide, Or.inl T.InvalidMany.gC⟩ (fun a oe cls d pn hz hf => (pss_one (ps_ret (pe_tup (pa_cons pe_str (pa_cons (pe_xf T.InvalidMany.xf T.InvalidMany.nf hz hf (pv 3)) pa_nil)))))))
     (ClausesOk.cons (ClauseOk.named (i := 3) sc_law_told.nd rfl rfl ⟨rfl, by decide, Or.inl T.InvalidParts.gC⟩ (fun a oe cls d pn hz hf => (pss_one (ps_ret (pe_tup (pa_cons pe_str (pa_cons (pe_xf T.InvalidParts.xf T.InvalidParts.nf hz hf (pv 3)) pa_nil)))))))
     (ClausesOk.cons (ClauseOk.named (i := 3) sc_law_told.nd rfl rfl ⟨rfl, by decide, Or.inl T.InvalidRest.gC⟩ (fun a oe cls d pn hz hf => (pss_one (ps_ret (pe_tup (pa_cons pe_str (pa_cons (pe_xf T.InvalidRest.xf T.InvalidRest.nf hz hf (pv 3)) pa_nil)))))))
     (ClausesOk.cons (ClauseOk.bare ⟨rfl, by decide, Or.inl T.TalkError_gC⟩ (fun a oe cls d pn hz hf => (pss_one (ps_ret (pe_tup (pa_cons pe_str (pa_cons pe_non pa_nil)))))))
     ClausesOk.nil))))))), ?_⟩
  refine ⟨_, rfl, _, rfl, _, rfl, kind, named, p, xs, ds, n, ok, rfl, hL, r, ar, fun c v H1 e1 hv => ⟨two_le, fun t ht => q1 c v t _ (e1.trans (Ex.new ht)) hv upd_same⟩, fun c x hx d H1 e1 hd => ?_, fun c x hx d H1 e1 hd => ?_, fun c x hx d H1 e1 hd => ?_, fun c x hx d H1 e1 hd => ?_⟩
  · exact ⟨true, T.eNN, fun _ u hu => ⟨_, rfl, rfl, rfl, d, _, _, rfl, hd, rfl, two_le, fun t ht => q2 _ _ x c hx t _ (e1.trans (Ex.new ht)) upd_same⟩, fun z => nomatch z⟩
  · exact ⟨false, T.eMN, (fun z => nomatch z), fun _ => ⟨true, T.eMM, fun _ u hu => ⟨_, rfl, rfl, rfl, d, _, _, rfl, hd, rfl, two_le, fun t ht => q2 _ _ x c hx t _ (e1.trans (Ex.new ht)) upd_same⟩, fun z => nomatch z⟩⟩
  · exact ⟨false, T.ePN, (fun z => nomatch z), fun _ => ⟨false, T.ePM, (fun z => nomatch z), fun _ => ⟨true, T.ePP, fun _ u hu => ⟨_, rfl, rfl, rfl, d, _, _, rfl, hd, rfl, two_le, fun t ht => q2 _ _ x c hx t _ (e1.trans (Ex.new ht)) upd_same⟩, fun z => nomatch z⟩⟩⟩
  · exact ⟨false, T.eRN, (fun z => nomatch z), fun _ => ⟨false, T.eRM, (fun z => nomatch z), fun _ => ⟨false, T.eRP, (fun z => nomatch z), fun _ => ⟨true, T.eRR, fun _ u hu => ⟨_, rfl, rfl, rfl, d, _, _, rfl, hd, rfl, two_le, fun t ht => q2 _ _ x c hx t _ (e1.trans (Ex.new ht)) upd_same⟩, fun z => nomatch z⟩⟩⟩⟩
end
end L2.U


set_option Elab.async false
set_option linter.all false
set_option maxRecDepth 100000
set_option maxHeartbeats 4000000
namespace L2.U
open PySem PySem.Spec PyProof.Rows Evl
section
variable {P : Program} {w : World} {K : PySem.W.Frag} {mg : Str → Option Value} {base : Heap}
/-! ### the own triangle -/
def rowUp (l : List Int) : List Int := [1] ++ List.zipWith (fun a b => a + b) l l.tail ++ [1]
def row : Nat → List Int
  | 0 => [1]
  | n + 1 => rowUp (row n)
theorem row_len : ∀ n, (row n).length = n + 1
  | 0 => rfl
  | n + 1 => by
    have ih := row_len n
    show ([1] ++ List.zipWith (fun a b => a + b) (row n) (row n).tail ++ [1]).length = n + 2
    rw [List.length_append, List.length_append, List.length_zipWith, List.length_tail, ih]
    simp
    omega
theorem row_comb {n k : Nat} (hn : n ≤ 64) (hk : k ≤ n) : (row n)[k]? = some (PySem.W.mcComb (n : Int) (k : Int)) := by
  have key : ∀ n : Fin 65, row n.val = (List.range (n.val + 1)).map fun k : Nat => PySem.W.mcComb (n.val : Int) (k : Int) := by decide +kernel
  have e : row n = (List.range (n + 1)).map fun k : Nat => PySem.W.mcComb (n : Int) (k : Int) := key ⟨n, by omega⟩
  rw [e, List.getElem?_map, List.getElem?_range (by omega)]
  rfl
def Tri (H : Hp) (r : Addr) (k : Nat) : Prop := ∃ as : List Addr, as.length = k + 1 ∧ H r = some (.lst (as.map V.ref)) ∧ ∀ (n : Nat) (a : Addr), as[n]? = some a → H a = some (.lst ((row n).map V.int))
theorem Tri.ex {H H' : Hp} {r : Addr} {k : Nat} (e : Ex H H') (h : Tri H r k) : Tri H' r k := by
  obtain ⟨as, h1, h2, h3⟩ := h
  exact ⟨as, h1, e _ _ h2, fun n a ha => e _ _ (h3 n a ha)⟩
theorem refs_get {as : List Addr} {n : Nat} {a : Addr} (h : as[n]? = some a) : (as.map V.ref)[n]? = some (V.ref a) := by
  rw [List.getElem?_map, h]; rfl
def spTriangle : Sp := fun vs H Q _ => vs = [.int 66] ∧ ∀ r H', Ex H H' → Tri H' r 66 → Q (.ref r) H'
theorem ok_law_triangle (T : TK K mg) : FnOk P w K mg base CX0 1 T.law_triangle.a T.law_triangle.fd ["most"] spTriangle := by
  refine T.law_triangle.F.ok sc_law_triangle (fun vs H Q E h => ?_) (fun cdv A outer s H vs Q E hr h => ?_)
  · obtain ⟨rfl, _⟩ := h; rfl
  obtain ⟨rfl, q⟩ := h
  refine ⟨_, (pss_cons (ps_set (i := 1) sc_law_triangle.nd rfl (Or.inl rfl) (pe_lst (pa_cons (pe_lst (pa_cons pe_int pa_nil)) pa_nil)))
    (pss_cons (ps_for PassesOwn.never rfl (pi_range1 rfl T.z_range (pa_cons (pv 0) pa_nil)) (pg_name (i := 2) sc_law_triangle.nd rfl (Or.inl rfl)) (pss_cons (ps_set (i := 3) sc_law_triangle.nd rfl (Or.inr rfl) (pe_ix (kixl K) (pv 1) (pv 2) (fun _ _ => rfl)))
    (pss_one (ps_expr (pe_bm PySem.F.plainAttrs_list PySem.F.slot_list_append PySem.F.type_list_append mt_append (pv 1) (pa_cons (pe_op op_cat (pe_op op_cat (pe_lst (pa_cons pe_int pa_nil)) (pe_lc (own := [("i", 4)]) (g := gName 4) (by rfl) sc_law_triangle.nd (pi_range1 rfl T.z_range (pa_cons (pe_op op_sub (pe_callB (klen K) (by rfl) T.z_len (by decide +kernel) (pa_cons (pv 3) pa_nil)) pe_int) pa_nil)) (blkOk_by (own := [("i", 4)]) (N := ["most", "rows", "k", "last", "i"]) (sc := defScope s_law_triangle) (by decide +kernel)) (fun _ _ _ _ _ => (pg_name (i := 4) sc_law_triangle.nd rfl (Or.inl rfl))) (fun _ _ _ _ _ => pts_nil) (fun _ _ _ _ _ => (pe_op op_add (pe_ix (kixl K) (pv 3) (pv 4) (fun _ _ => rfl)) (pe_ix (kixl K) (pv 3) (pe_op op_add (pv 4) pe_int) (fun _ _ => rfl)))))) (pe_lst (pa_cons pe_int pa_nil))) pa_nil))))))
    (pss_one (ps_ret (pv 1))))), ?_⟩
  refine ⟨(by show 1 ≤ sizeLine; decide), fun a0 ha0 => ⟨(by show 1 ≤ sizeLine; decide), fun r hr0 => ?_⟩⟩
  have n0 : a0 ≠ r := by
    intro e
    rw [← e, upd_same] at hr0
    cases hr0
  have rn : H r = none := by rw [upd_ne (Ne.symm n0)] at hr0; exact hr0
  refine ⟨_, rfl, 66, rfl, by decide, by decide, for_range (lo := 0) (n := 66)
    (fun k σ H' => H r = none ∧ Ex H H' ∧ Tri H' r k ∧ ∃ u v x, σ = [some (.int 66), some (.ref r), u, v, x]) ⟨rn, ?_, ?_, none, none, none, rfl⟩ ?_ ?_⟩
  · exact (Ex.new ha0).trans (Ex.new hr0)
  · refine ⟨[a0], rfl, upd_same, fun n a ha => ?_⟩
    have hn : n = 0 := by
      have := (List.getElem?_eq_some_iff.mp ha).1
      simpa using this
    subst hn
    cases (Option.some.inj ha)
    rw [upd_ne n0, upd_same]
    rfl
  · rintro k σ H' hk ⟨rn, e, ⟨as, h1, h2, h3⟩, u, v, x, rfl⟩
    have hk1 : as[k]? = some as[k] := List.getElem?_eq_getElem (by omega)
    have hL := SqL.of (K := K) h2
    have ha := h3 k _ hk1
    refine ⟨_, rfl, _, rfl, _, _, _, _, rfl, rfl, hL, at_of (Int.zero_add _) (refs_get hk1), ?_⟩
    have hrl := row_len k
    refine ⟨_, rfl, .inl ⟨rfl, _, hL⟩, ?_⟩
    -- [1] + [..] + [1]
    refine ⟨(by show 1 ≤ sizeLine; decide), fun p hp => ?_⟩
    have e1 := Ex.new (o := .lst [.int 1]) hp
    have hlast := e1 _ _ ha
    have hLl := SqL.of (K := K) hlast
    have comp := el_lcR1 (σ := [some (.int 66), some (.ref r), some (.int (0 + (k : Int))), some (.ref as[k]), x]) (H := upd H' p (.lst [.int 1])) (j := 4) (vs := [4]) (n := (((row k).map V.int).length : Int) - 1) (fun _ => true) (fun i => .int ((row k).getD i 0 + (row k).getD (i + 1) 0))
      (t := tYes) (te := tOp (rI0 fun i j => .int (i + j)) (tOp (rIxL K) (tVar 3) (tVar 4)) (tOp (rIxL K) (tVar 3) (tOp (rI0 fun i j => .int (i + j)) (tVar 4) (tC (.int 1)))))
      (ta := tCons (tOp (rI0 fun i j => .int (i - j)) (tCB (rLen K) (tCons (tVar 3) tNil)) (tC (.int 1))) tNil)
      (fun H1 e Q k => ⟨_, rfl, _, _, rfl, .inl ⟨_, ex_l e hLl, rfl⟩, _, _, rfl, rfl, k H1 (Ex.refl _)⟩) ⟨by rw [List.length_map]; omega, by rw [List.length_map]; omega⟩ (fun _ => rfl)
      (fun i H1 _ _ H2 _ Q k => k H2 (Ex.refl _)) (fun i H1 e hi _ H2 e2 Q k2 => ?_)
    · refine comp _ (Ex.refl _) _ fun p2 H2 hp2 e2 h2' => ?_
      have hp1 : H2 p = some (.lst [.int 1]) := e2 _ _ upd_same
      have gl := given_len ((((row k).map V.int).length : Int) - 1).toNat (fun _ => true) (fun i => .int ((row k).getD i 0 + (row k).getD (i + 1) 0))
      rw [List.length_map] at gl
      have size : ∀ m : Nat, m ≤ 1000 → m ≤ sizeLine := fun m h => Nat.le_of_lt (small1000 h)
      refine ⟨p, p2, _, _, rfl, rfl, hp1, h2', size _ (by rw [List.length_singleton, List.length_map]; omega), fun p3 hp3 => ?_⟩
      refine ⟨(by show 1 ≤ sizeLine; decide), fun p4 hp4 => ?_⟩
      have h33 : upd (upd H2 p3 _) p4 _ p3 = some _ := (Ex.new (o := .lst [.int 1]) hp4) p3 _ (upd_same (H := H2) (o := .lst ([.int 1] ++ given ((((row k).map V.int).length : Int) - 1).toNat (fun _ => true) (fun i => .int ((row k).getD i 0 + (row k).getD (i + 1) 0)))))
      refine ⟨p3, p4, _, _, rfl, rfl, h33, upd_same, size _ (by rw [List.length_append, List.length_singleton, List.length_map]; omega), fun p5 hp5 => ?_⟩
      -- append
      have e6 := (((e1.trans e2).trans (Ex.new (o := .lst ([.int 1] ++ given ((((row k).map V.int).length : Int) - 1).toNat (fun _ => true) (fun i => .int ((row k).getD i 0 + (row k).getD (i + 1) 0)))) hp3)).trans (Ex.new (o := .lst [.int 1]) hp4)).trans
        (Ex.new (o := .lst ([.int 1] ++ given ((((row k).map V.int).length : Int) - 1).toNat (fun _ => true) (fun i => .int ((row k).getD i 0 + (row k).getD (i + 1) 0)) ++ [.int 1])) hp5)
      have hr6 := e6 _ _ h2
      refine ⟨r, _, _, rfl, rfl, hr6, small1000 (by rw [List.length_map]; omega), ?_⟩
      have new : ([.int 1] ++ given ((((row k).map V.int).length : Int) - 1).toNat (fun _ => true) (fun i => .int ((row k).getD i 0 + (row k).getD (i + 1) 0)) ++ [.int 1] : List V) = (row (k + 1)).map V.int := by
        show _ = (rowUp (row k)).map V.int
        unfold rowUp
        rw [given_all, List.map_append, List.map_append]
        congr 2
        apply List.ext_getElem?
        intro i
        rw [List.length_map, hrl, List.getElem?_map, List.getElem?_map, List.getElem?_zipWith]
        by_cases hi : i < k
        · rw [List.getElem?_range (by omega), List.getElem?_tail, List.getElem?_eq_getElem (show i < (row k).length by omega), List.getElem?_eq_getElem (show i + 1 < (row k).length by omega)]
          simp only [Option.map_some, List.getD_eq_getElem?_getD, List.getElem?_eq_getElem (show i < (row k).length by omega), List.getElem?_eq_getElem (show i + 1 < (row k).length by omega), Option.getD_some]
        · rw [List.getElem?_eq_none (by rw [List.length_range]; omega), List.getElem?_tail, List.getElem?_eq_none (show (row k).length ≤ i + 1 by omega)]
          cases (row k)[i]? <;> rfl
      refine ⟨rn, (e.trans e6).mut rn, ⟨as ++ [p5], ?_, ?_, ?_⟩, some (.int (0 + (k : Int))), some (.ref as[k]), x, rfl⟩
      · rw [List.length_append, h1]; rfl
      · rw [upd_same, List.map_append]; rfl
      · intro n a ha
        have nr : ∀ {ns : List Int} {a : Addr} {G : Hp}, ns ≠ [] → G a = some (.lst (ns.map V.int)) → G r = some (.lst (as.map V.ref)) → a ≠ r := by
          intro ns a G hns g1 g2 ee
          rw [ee, g2] at g1
          have z := HO.lst.inj (Option.some.inj g1)
          cases ns with
          | nil => exact hns rfl
          | cons n ns => cases as with
            | nil => cases z
            | cons b bs => exact nomatch (List.cons.inj z).1
        have ne : ∀ n, row n ≠ [] := fun n z => by have := row_len n; rw [z] at this; cases this
        by_cases hn : n < as.length
        · rw [List.getElem?_append_left hn] at ha
          have g := e6 _ _ (h3 n a ha)
          rw [upd_ne (nr (ne n) g hr6)]
          exact g
        · have hn2 : n = k + 1 := by
            have := (List.getElem?_eq_some_iff.mp ha).1
            rw [List.length_append, List.length_singleton] at this
            omega
          subst hn2
          rw [List.getElem?_append_right (by omega), h1, Nat.sub_self] at ha
          cases (Option.some.inj ha)
          rw [upd_ne (nr (ne (k + 1)) (by rw [← new]; exact upd_same) hr6), ← new]
          exact upd_same
    · rw [List.length_map] at hi
      have b1 : ((row k).map V.int)[i]? = some (.int ((row k).getD i 0)) := by
        rw [List.getElem?_map, List.getElem?_eq_getElem (by omega), List.getD_eq_getElem?_getD, List.getElem?_eq_getElem (by omega)]
        rfl
      have b2 : ((row k).map V.int)[i + 1]? = some (.int ((row k).getD (i + 1) 0)) := by
        rw [List.getElem?_map, List.getElem?_eq_getElem (by omega), List.getD_eq_getElem?_getD, List.getElem?_eq_getElem (by omega)]
        rfl
      have hLl2 := ex_l (e.trans e2) hLl
      exact ⟨_, rfl, _, rfl, _, _, _, _, rfl, rfl, hLl2, atI_nat b1, _, rfl, _, rfl, _, _, rfl, rfl, _, _, _, _, rfl, rfl, hLl2, at_of (by omega) b2, _, _, rfl, rfl, k2 H2 (Ex.refl _)⟩
  · rintro σ H' ⟨_, e, ht, u, v, x, rfl⟩
    exact ⟨_, rfl, q _ _ e ht⟩
end
end L2.U


set_option Elab.async false
set_option linter.all false
set_option maxRecDepth 100000
set_option maxHeartbeats 4000000
namespace L2.U
open PySem PySem.Spec PyProof.Rows
/-! ### how many arrangements: factorials to 64, packed in one number -/
def fz : Nat → Nat
  | 0 => 1
  | n + 1 => fz n * (n + 1)
def fzT : Nat := 1002872451569859832158045543153194911643925867385972333683755623968329631860662203506798091886044662428049783556781284511629886563033880064468561657780904215001763352132099290056869540555075687511121817914120246252299261941943978924925535848879159455380105772160396788905463733404237789533379239214333421000967834816791988986306029083256516700921406972136224470469577262582320367452351277492338227438431371289602365557729091978773736626059406374085719992725438052325266537735721351725768756028700565885806865127734183498927227572499624848329129144494661117254773882578014527458985161642555450382447406678833345920131826048683197427143199350183900017746464042235077632935749634233934086943266712878876488658452315205054147218281687045576854597422802197493852918461566526267532707831455427295700232187696603513899585371219687350409939063004823089491600340643811571995645838450864903328967185812231615419520063534281940633649409520680419582912218597813532369187468497437042383739137925164658055902228244636456535471080749260122658341024150898096563281329026913487769657613246895574630154832631702696128808294070696897565646875126275366419097203114462911155112128160065729403970708410007600275462366558005437435419382185875879276456766090258561138206938005037925855209604667301779539813263445653714118293767135209409380078585113333616851927606833415861578087209807871951532293024715876605547518369135014392888473271454890298021324950739283102725508085064270820525660494793668695561395441073489473397887562153009497652494771643729271443339178969290343664093351024551980215903479933278152633355797311674573280396753127900852392974096154706841631802830657923957676290209261600787425259603507697666079574272635864946263693095942704503447887018748912337618122737933603467770241619614493718118006331371211055661358833245336098330630461107265830139625706502400028480331677195101905099077805280148769931154213550320403408152912644229893330033395995246442912031634994294322806756656802301637578740179558533908914979734826180557259820235449970588432908426035600027473164457207072088412218572170951431392052175867270855087364348954409713873094459166400655731921353954517738539969048677063617638701414410544927610073623892995094255597816811700880216364212576281804875816635679157030672769949513486604310813011915488852585635573700391569276688271619933768164618813050876581947410908129425250029809767876302915034699994198438432138260162808796241220964115021562213782845031414163967112326225300329565153667841310226122891048838860184832436161243397966887361541982258264663025297247507888253457184583829744902966905979385684392971185816201085309014602645182690267907006146369614727752451725870642041337924893388082318284410908615758730105073700928844426334306634904939371701233112920862507834311826794821639754592086421057574912247322611150699756480708850751251893696458219986157203997806232323669112488867669647710758205162719293009502460785077159452263129959901973462474509967968081302448687529638400951972296805285475227072739806039636183314304773744550213943808586871604952380183060133763297483737507723614285163549985418379862305383294727255192490010994499409107591174245240307345046586412561691478913814409305568265933650809223533835878459921651480444014711507127499137505198681157047502616961599709436559223604097744177947346834986129371700660969777409523987786482220678497597011194849624576076060345346347618865226407930998703389723693886124960144573966613863608200403507241748496640682366508529450658208142928537694063437159524360144673839807382284880028318077968869667612557712691095560567081401775318607550891459896032662060619903495864056995925024907300026592555291799911311242648800181179798876745214516691227548753860039457998819721251426379434121027172980906381634176621980186724815762680624770441021301377397236056388827755074427589556786154154962977124759692092183198272202608596235486679684159979489363050651388370761032988170809583550251089751649479963214324203401923291352997593532918404148590879663739246634946484008812185532250753540928134045588284857048428500795968275386477757481370017154667473554411383328551162296426869265791015883764228996760890871995178869542083946716617001169564917541236209897665898747326163664410964578063506093313778949875599767161300313738313389826843349398876968698695608770282038001414672831572649001947467223771800099871319657064591628994091152921290052896147723905868122279342227643842693571136821456477589494853267539813077558102972340481666371658410099483165570470420396678395369145481233210487515339446199723461185183962455591781070415496619889262597118248813568137971226744929843845082983298295533595510030886963399795272069010609808195529134022670143831626500342822028117379123695356905786039097159637179711036225662793419803683583101094170828606029273925382939710696238548714047157517750292561780414279544635371626068982687743081188863362229482379472637329208775617066767758558773000846580844491620296148856030470890329960736261212905648573841643195682086658336404195071600895035447216135124625167416333874270278646263769526299269892891497298594979693247347090967041638572809777887085219772156669918621770176054477791840733095099703334015148362271831162816827672043666794633148885002136039406260201573967922246433505939757364696447975844842246229556944617968523651472625892492913018381792876485361131903961526784482280958700270882668770237645709341251997763407366475011779414180764471057503780361365987200287593621329251702118351895267522215634568735374668152455761277582251682823308864148171102088438993829922311093170436073310419620604686117626134441391126543818281045132963995326822422380258258204938599487685765139019731483526365745340109435059336008294231499795155062929916545427197808992096605254524580801542975667090888962648740666963328130886735668851642420551153936388823827360709488021172716226592367195277008571408247712963800484937832655497448747027904036037614858976812747143348439200143359423179744438386689
def fq (n : Nat) : Nat := (fzT >>> (300 * n)) % 2 ^ 300
def cq (n k : Nat) : Nat := fq n / (fq k * fq (n - k))
def Et (t n : Nat) : Nat := fq n / (fq (n / t + 1) ^ (n % t) * fq (n / t) ^ (t - n % t))
def allR (n : Nat) (f : Nat → Bool) : Bool := Nat.rec true (fun i r => if f i then r else false) n
theorem allR_of {n : Nat} {f : Nat → Bool} (h : allR n f = true) : ∀ i, i < n → f i = true := by
  induction n with
  | zero => intro i hi; omega
  | succ n ih =>
    have h' : (if f n then allR n f else false) = true := h
    cases c : f n with
    | false => rw [c] at h'; simp at h'
    | true =>
      rw [c] at h'
      intro i hi
      by_cases e : i = n
      · rw [e]; exact c
      · exact ih (by simpa using h') i (by omega)
theorem cq_ok : allR 65 (fun n => allR (n + 1) fun k => decide (PySem.W.mcComb (n : Int) (k : Int) = (cq n k : Int))) = true := by decide +kernel
theorem Et_step : allR 64 (fun t => allR 65 fun n => Nat.beq (Et (t + 1) n) (cq n (n / (t + 1)) * Et t (n - n / (t + 1))) || (Nat.beq t 0 && !Nat.beq n (n / (t + 1)))) = true := by decide +kernel
theorem Et_max : allR 65 (fun e => allR e fun d => allR (d + 1) fun t => (Nat.beq t 0 && !Nat.beq d 0) || Nat.ble (cq e d * Et t d) (Et (t + 1) e)) = true := by decide +kernel
theorem cq_two : allR 65 (fun u => allR (u + 1) fun e => allR (e + 1) fun d => Nat.beq (cq u d * cq (u - d) (e - d)) (cq u e * cq e d)) = true := by decide +kernel
theorem cq_sym {n k : Nat} (hn : n ≤ 64) (hk : k ≤ n) : cq n k = cq n (n - k) := by
  unfold cq
  rw [show n - (n - k) = k by omega, Nat.mul_comm]
theorem cq_of {n k : Nat} (hn : n ≤ 64) (hk : k ≤ n) : PySem.W.mcComb (n : Int) (k : Int) = (cq n k : Int) := by
  have h := allR_of (allR_of cq_ok n (by omega)) k (by omega)
  exact of_decide_eq_true h
theorem beq_of {a b : Nat} (h : Nat.beq a b = true) : a = b := Nat.eq_of_beq_eq_true h
theorem et_step {t n : Nat} (ht : t < 64) (hn : n ≤ 64) : Et (t + 1) n = cq n (n / (t + 1)) * Et t (n - n / (t + 1)) := by
  have h := allR_of (allR_of Et_step t ht) n (by omega)
  rw [Bool.or_eq_true] at h
  rcases h with h | h
  · exact beq_of h
  · rw [Bool.and_eq_true] at h
    have h1 := beq_of h.1
    subst h1
    have h2 := h.2
    rw [Nat.zero_add, Nat.div_one] at h2
    simp at h2
theorem et_max {e d t : Nat} (he : e ≤ 64) (hd : d < e) (ht : t ≤ d) (h0 : t = 0 → d = 0) : cq e d * Et t d ≤ Et (t + 1) e := by
  have h := allR_of (allR_of (allR_of Et_max e (by omega)) d hd) t (by omega)
  rw [Bool.or_eq_true] at h
  rcases h with h | h
  · rw [Bool.and_eq_true] at h
    have h1 := beq_of h.1
    have h2 := h0 h1
    subst h2
    simp at h
  · exact Nat.le_of_ble_eq_true h
theorem cq_mul {u e d : Nat} (hu : u ≤ 64) (he : e ≤ u) (hd : d ≤ e) : cq u d * cq (u - d) (e - d) = cq u e * cq e d := by
  have h := allR_of (allR_of (allR_of cq_two u (by omega)) e (by omega)) d (by omega)
  exact beq_of h
def evenN (n t : Nat) : List Int := List.replicate (n % t) ((n / t : Nat) + 1 : Int) ++ List.replicate (t - n % t) ((n / t : Nat) : Int)
theorem evenOf_nat (n t : Nat) : evenOf (n : Int) (t : Int) = evenN n t := by
  unfold evenOf evenN
  have e1 : (n : Int) / (t : Int) = ((n / t : Nat) : Int) := (Int.natCast_ediv n t).symm
  have e2 : (n : Int) - ((n / t : Nat) : Int) * (t : Int) = ((n % t : Nat) : Int) := by
    have := Nat.div_add_mod n t
    have h : ((t * (n / t) + n % t : Nat) : Int) = (n : Int) := by rw [this]
    rw [Int.natCast_add, Int.natCast_mul, Int.mul_comm] at h
    omega
  rw [e1, e2]
  congr 2
  omega
theorem even_step (n t : Nat) : evenN n (t + 1) = evenN (n - n / (t + 1)) t ++ [((n / (t + 1) : Nat) : Int)] := by
  have hm := Nat.div_add_mod n (t + 1)
  have hr := Nat.mod_lt n (Nat.succ_pos t)
  unfold evenN
  generalize n / (t + 1) = q at *
  generalize hr' : n % (t + 1) = r at *
  have hn : n - q = q * t + r := by
    rw [Nat.add_mul, Nat.one_mul, Nat.mul_comm] at hm
    omega
  rw [hn]
  have rep : ∀ (k : Nat) (x : Int), List.replicate (k + 1) x = List.replicate k x ++ [x] := fun k x => List.replicate_succ' 
  by_cases c : r < t
  · have d1 : (q * t + r) / t = q := Nat.div_eq_of_lt_le (by omega) (by rw [Nat.add_mul, Nat.one_mul]; omega)
    have d2 : (q * t + r) % t = r := by rw [Nat.mul_comm, Nat.mul_add_mod]; exact Nat.mod_eq_of_lt c
    rw [d1, d2, show t + 1 - r = (t - r) + 1 by omega, rep, List.append_assoc]
  · have e : r = t := by omega
    subst e
    by_cases z : r = 0
    · subst z
      simp
    · have d1 : (q * r + r) / r = q + 1 := Nat.div_eq_of_lt_le (by rw [Nat.add_mul, Nat.one_mul]; omega) (by rw [Nat.add_mul, Nat.add_mul, Nat.one_mul]; omega)
      have d2 : (q * r + r) % r = 0 := by rw [Nat.mul_comm, Nat.mul_add_mod]; exact Nat.mod_self r
      rw [d1, d2, show r + 1 - r = 1 by omega]
      simp
theorem arr_snoc (l : List Int) (z : Int) : (arrUp (l ++ [z])).1 = (arrUp l).1 * PySem.W.mcComb (l.sum + z) z := by
  have h := arrUp_two l l.length
  rw [List.take_length] at h
  unfold arrUp at h ⊢
  rw [List.foldl_append]
  show (List.foldl _ (1, 0) l).1 * PySem.W.mcComb ((List.foldl _ (1, 0) l).2 + z) z = _
  rw [h]
theorem evenN_sum : ∀ (t n : Nat), (t = 0 → n = 0) → (evenN n t).sum = (n : Int)
  | 0, n, h => by rw [h rfl]; rfl
  | t + 1, n, _ => by
    have hq : n / (t + 1) ≤ n := Nat.div_le_self _ _
    have z : t = 0 → n - n / (t + 1) = 0 := by rintro rfl; rw [Nat.zero_add, Nat.div_one]; omega
    rw [even_step, List.sum_append, evenN_sum t _ z]
    generalize n / (t + 1) = q at hq
    rw [List.sum_cons, List.sum_nil, Int.add_zero]
    omega
theorem ev_et : ∀ (t n : Nat), t ≤ 64 → n ≤ 64 → (t = 0 → n = 0) → (arrUp (evenN n t)).1 = (Et t n : Int)
  | 0, n, _, _, h => by rw [h rfl]; decide +kernel
  | t + 1, n, ht, hn, _ => by
    have hq : n / (t + 1) ≤ n := Nat.div_le_self _ _
    have z : t = 0 → n - n / (t + 1) = 0 := by rintro rfl; rw [Nat.zero_add, Nat.div_one]; omega
    rw [even_step, arr_snoc, evenN_sum t _ z, ev_et t _ (by omega) (Nat.le_trans (Nat.sub_le _ _) hn) z, et_step (by omega) hn]
    have e : ((n - n / (t + 1) : Nat) : Int) + ((n / (t + 1) : Nat) : Int) = (n : Int) := by
      generalize n / (t + 1) = q at hq
      omega
    rw [e, cq_of hn hq, Int.natCast_mul, Int.mul_comm]
/-- what the law's table holds behind t rounds -/
def Wt (u t d : Nat) : Int := ((cq u d * Et t d : Nat) : Int)
theorem Wt_le {u t d e : Nat} (hu : u ≤ 64) (he : e ≤ u) (hd : d < e) (ht : t ≤ d) (h0 : t = 0 → d = 0) : Wt u t d * PySem.W.mcComb ((u - d : Nat) : Int) ((e - d : Nat) : Int) ≤ Wt u (t + 1) e := by
  unfold Wt
  rw [cq_of (by omega) (by omega), ← Int.natCast_mul]
  refine Int.ofNat_le.mpr ?_
  have e1 : cq u d * Et t d * cq (u - d) (e - d) = cq u e * (cq e d * Et t d) := by
    rw [Nat.mul_right_comm, cq_mul hu he (by omega), Nat.mul_assoc]
  rw [e1]
  exact Nat.mul_le_mul_left _ (et_max (by omega) hd ht h0)
theorem Wt_at {u t e : Nat} (hu : u ≤ 64) (he : e ≤ u) (ht : t < 64) : Wt u t (e - e / (t + 1)) * PySem.W.mcComb ((u - (e - e / (t + 1)) : Nat) : Int) ((e - (e - e / (t + 1)) : Nat) : Int) = Wt u (t + 1) e := by
  have hq : e / (t + 1) ≤ e := Nat.div_le_self _ _
  have hd : e - e / (t + 1) ≤ e := Nat.sub_le _ _
  have hs := et_step (n := e) ht (by omega)
  unfold Wt
  rw [hs]
  have h := cq_sym (n := e) (k := e / (t + 1)) (by omega) hq
  rw [h]
  generalize e - e / (t + 1) = d at hd
  rw [cq_of (by omega) (by omega), ← Int.natCast_mul]
  congr 1
  rw [Nat.mul_right_comm, cq_mul hu he hd, Nat.mul_assoc]
end L2.U


set_option Elab.async false
set_option linter.all false
set_option maxRecDepth 100000
set_option maxHeartbeats 4000000
namespace L2.U
open PySem PySem.Spec PyProof.Rows Evl
section
variable {P : Program} {w : World} {K : PySem.W.Frag} {mg : Str → Option Value} {base : Heap}

theorem sub_lenN : ∀ {xs ys : List Nat}, xs.Nodup → (∀ x ∈ xs, x ∈ ys) → xs.length ≤ ys.length
  | [], _, _, _ => Nat.zero_le _
  | x :: r, ys, nd, h => by
    have n1 := List.nodup_cons.mp nd
    have m := h x (by simp)
    have := sub_lenN (xs := r) (ys := ys.erase x) n1.2 (fun z hz => by
      have hne : z ≠ x := fun e => n1.1 (e ▸ hz)
      exact (List.mem_erase_of_ne hne).mpr (h z (by simp [hz])))
    rw [List.length_erase_of_mem m] at this
    have := List.length_pos_of_mem m
    simp only [List.length_cons]
    omega
/-- the places that are met behind t of r rounds of u -/
def KeyAt (u r t k : Nat) : Prop := (t = 0 ∧ k = 0) ∨ (1 ≤ t ∧ t ≤ k ∧ k + r ≤ u + t)
structure Best (u r t : Nat) (kvs : List (Key × V)) : Prop where
  keys : ∃ ks : List Nat, kvs.map (·.1) = ks.map (fun k : Nat => (Sum.inl (k : Int) : Key)) ∧ ks.Nodup
  val : ∀ k, KeyAt u r t k → valV kvs (.inl (k : Int)) = some (.int (Wt u t k))
  only : ∀ z v, valV kvs (.inl z) = some v → ∃ k : Nat, z = (k : Int) ∧ KeyAt u r t k
/-- within a round: what is found so far -/
structure Here (u r t : Nat) (done : Nat → Nat → Prop) (kvs : List (Key × V)) : Prop where
  keys : ∃ ks : List Nat, kvs.map (·.1) = ks.map (fun k : Nat => (Sum.inl (k : Int) : Key)) ∧ ks.Nodup
  low : ∀ z v, valV kvs (.inl z) = some v → ∃ (k : Nat) (m : Int), z = (k : Int) ∧ v = .int m ∧ KeyAt u r (t + 1) k ∧ m ≤ Wt u (t + 1) k ∧ 0 ≤ m
  high : ∀ d e, done d e → ∃ m, valV kvs (.inl (e : Int)) = some (.int m) ∧ Wt u t d * PySem.W.mcComb ((u - d : Nat) : Int) ((e - d : Nat) : Int) ≤ m
theorem keys_put {kvs : List (Key × V)} {k : Key} {y : V} : (putK kvs k y).map (·.1) = if (valV kvs k).isSome = true then kvs.map (·.1) else kvs.map (·.1) ++ [k] := by
  cases h : valV kvs k with
  | none => rw [putK_new y h]; simp
  | some v =>
    have : (kvs.any fun kv => decide (kv.1 = k)) = true := by rw [valV_any, h]; rfl
    unfold putK
    rw [this]
    simp only [if_true, Option.isSome_some, List.map_map]
    apply List.map_congr_left
    intro kv _
    simp only [Function.comp]
    split <;> rfl
theorem Here.len {u r t : Nat} {done : Nat → Nat → Prop} {kvs : List (Key × V)} (h : Here u r t done kvs) (rt : t < r) : kvs.length ≤ u + 1 := by
  obtain ⟨ks, hk, nd⟩ := h.keys
  have e : kvs.length = ks.length := by rw [← List.length_map (f := (·.1)) (as := kvs), hk, List.length_map]
  have : ks.length ≤ (List.range (u + 1)).length := sub_lenN nd fun k hk2 => by
    cases hv : valV kvs (.inl (k : Int)) with
    | none =>
      have := valV_not hv
      rw [hk] at this
      exact absurd (List.mem_map.mpr ⟨k, hk2, rfl⟩) this
    | some v =>
      obtain ⟨k', m, hz, _, ka, _⟩ := h.low _ _ hv
      have h1 : k = k' := by omega
      subst h1
      rw [List.mem_range]
      rcases ka with ⟨z, _⟩ | ⟨_, _, z⟩ <;> omega
  rw [List.length_range] at this
  omega
theorem Here.put {u r t d e : Nat} {done : Nat → Nat → Prop} {kvs : List (Key × V)} (h : Here u r t done kvs) (ke : KeyAt u r (t + 1) e) {f : Int} (hf : f = Wt u t d * PySem.W.mcComb ((u - d : Nat) : Int) ((e - d : Nat) : Int)) (f0 : 0 ≤ f) (fle : f ≤ Wt u (t + 1) e) :
    ∃ m0 : Int, (valV kvs (.inl (e : Int))).getD (.int 0) = .int m0 ∧ Here u r t (fun d' e' => done d' e' ∨ (d' = d ∧ e' = e)) (putK kvs (.inl (e : Int)) (.int (if m0 > f then m0 else f))) := by
  have hm : ∃ m0 : Int, (valV kvs (.inl (e : Int))).getD (.int 0) = .int m0 ∧ 0 ≤ m0 ∧ m0 ≤ Wt u (t + 1) e := by
    cases hv : valV kvs (.inl (e : Int)) with
    | none => exact ⟨0, rfl, Int.le_refl _, by omega⟩
    | some v =>
      obtain ⟨k, m, hk, rfl, _, hle, h0⟩ := h.low _ _ hv
      have : k = e := by omega
      subst this
      exact ⟨m, rfl, h0, hle⟩
  obtain ⟨m0, hg, m00, mle⟩ := hm
  refine ⟨m0, hg, ?_, ?_, ?_⟩
  · obtain ⟨ks, hk, nd⟩ := h.keys
    rw [keys_put]
    cases hv : valV kvs (.inl (e : Int)) with
    | some v => exact ⟨ks, by rw [← hk]; rfl, nd⟩
    | none =>
      refine ⟨ks ++ [e], by rw [List.map_append, ← hk]; rfl, List.nodup_append.mpr ⟨nd, by simp, ?_⟩⟩
      intro a ha b hb
      obtain rfl := List.mem_singleton.mp hb
      rintro rfl
      have := valV_not hv
      rw [hk] at this
      exact this (List.mem_map.mpr ⟨_, ha, rfl⟩)
  · intro z v hv
    rw [valV_put] at hv
    split at hv
    · rename_i hz
      obtain rfl := Option.some.inj hv
      refine ⟨e, _, Sum.inl.inj hz, rfl, ke, ?_, ?_⟩ <;> split <;> omega
    · exact h.low z v hv
  · intro d' e' hd
    rw [valV_put]
    by_cases c : e' = e
    · subst c
      rw [if_pos rfl]
      refine ⟨_, rfl, ?_⟩
      rcases hd with hd | ⟨rfl, _⟩
      · obtain ⟨m, hm, hle⟩ := h.high d' e' hd
        rw [hm] at hg
        have : m = m0 := V.int.inj hg
        split <;> omega
      · rw [← hf]; split <;> omega
    · rw [if_neg (fun z => c (by have := Sum.inl.inj z; omega))]
      rcases hd with hd | ⟨_, z⟩
      · exact h.high d' e' hd
      · exact absurd z c
theorem Here.best {u r t : Nat} {done : Nat → Nat → Prop} {kvs : List (Key × V)} (h : Here u r t done kvs) (u64 : u ≤ 64) (rt : t < r) (ru : r ≤ u) (all : ∀ d e, KeyAt u r t d → d < e → KeyAt u r (t + 1) e → done d e) : Best u r (t + 1) kvs := by
  have lt : t < 64 := by omega
  refine ⟨h.keys, fun e ke => ?_, fun z v hv => ?_⟩
  · have ke' : 1 ≤ t + 1 ∧ t + 1 ≤ e ∧ e + r ≤ u + (t + 1) := ke.resolve_left fun z => by omega
    have q1 : 1 ≤ e / (t + 1) := (Nat.le_div_iff_mul_le (by omega)).mpr (by omega)
    have q2 : e / (t + 1) * (t + 1) ≤ e := Nat.div_mul_le_self _ _
    have q3 : (t = 0 → e - e / (t + 1) = 0) := by rintro rfl; rw [Nat.zero_add, Nat.div_one]; omega
    have q4 : t * 1 ≤ t * (e / (t + 1)) := Nat.mul_le_mul_left _ q1
    have q5 : e / (t + 1) * (t + 1) = t * (e / (t + 1)) + e / (t + 1) := by rw [Nat.mul_add, Nat.mul_one, Nat.mul_comm]
    have q6 : e / (t + 1) ≤ e := Nat.div_le_self _ _
    have eu : e ≤ u := by omega
    have w := Wt_at (u := u) (t := t) (e := e) u64 eu lt
    have kd : KeyAt u r t (e - e / (t + 1)) := by
      by_cases c : t = 0
      · exact .inl ⟨c, q3 c⟩
      · refine .inr ⟨by omega, ?_, ?_⟩
        · generalize e / (t + 1) = qq at *
          omega
        · generalize e / (t + 1) = qq at *
          omega
    obtain ⟨m, hm, hle⟩ := h.high (e - e / (t + 1)) e (all _ _ kd (by generalize e / (t + 1) = qq at *; omega) ke)
    obtain ⟨k, m', hk, em, _, hle2, _⟩ := h.low _ _ hm
    have : k = e := by omega
    subst this
    have : m = m' := V.int.inj em
    subst this
    rw [w] at hle
    rw [hm]
    congr 2
    omega
  · obtain ⟨k, m, hz, _, hk, _⟩ := h.low z v hv
    exact ⟨k, hz, hk⟩
def spListed : Sp := fun vs H Q _ => ∃ (r : Addr) (total rounds rest : Int), vs = [.ref r, .int total, .int rounds, .int rest] ∧ Tri H r 66 ∧ (0 ≤ total ∧ total ≤ 64) ∧ (1 ≤ rounds ∧ rounds ≤ 64) ∧ (0 ≤ rest ∧ rest ≤ 64) ∧
  ∀ H', Ex H H' → Q (.int (mostA total rounds rest)) H'
theorem tri_at {H : Hp} {r : Addr} {n : Nat} (h : Tri H r 66) (hn : n ≤ 66) : ∃ (as : List Addr) (a : Addr), H r = some (.lst (as.map V.ref)) ∧ as[n]? = some a ∧ H a = some (.lst ((row n).map V.int)) := by
  obtain ⟨as, h1, h2, h3⟩ := h
  have ha : as[n]? = some as[n] := List.getElem?_eq_getElem (by omega)
  exact ⟨as, as[n], h2, ha, h3 n _ ha⟩
theorem row_at {n k : Nat} (hn : n ≤ 64) (hk : k ≤ n) : ((row n).map V.int)[k]? = some (.int (PySem.W.mcComb (n : Int) (k : Int))) := by
  rw [List.getElem?_map, row_comb hn hk]; rfl
theorem ok_law_listed (T : TK K mg) : FnOk P w K mg base CX0 1 T.law_listed.a T.law_listed.fd ["triangle", "total", "rounds", "rest"] spListed := by
  refine T.law_listed.F.ok sc_law_listed (fun vs H Q E h => ?_) (fun cdv A outer s H vs Q E hr h => ?_)
  · obtain ⟨r, total, rounds, rest, rfl, _⟩ := h; rfl
  obtain ⟨r, total, rounds, rest, rfl, tri, ⟨t0, t1⟩, ⟨r0, r1⟩, ⟨s0, s1⟩, q⟩ := h
  refine ⟨_, (pss_cons (ps_set (i := 4) sc_law_listed.nd rfl (Or.inl rfl) (pe_op op_sub (pv 1) (pv 3)))
    (pss_cons (ps_if (pt_cmpR op_lt (pv 4) (pv 2) (nomark _)) (pss_one (ps_ret pe_int)) pss_nil)
    (pss_cons (ps_set (i := 5) sc_law_listed.nd rfl (Or.inl rfl) (pe_callTy (call_dictP rfl) (by rfl) T.z_dict (by decide +kernel) (pa_cons (pe_lst (pa_cons (pe_tup (pa_cons pe_int (pa_cons pe_int pa_nil))) pa_nil)) pa_nil)))
    (pss_cons (ps_for PassesOwn.never rfl (pi_range1 rfl T.z_range (pa_cons (pv 2) pa_nil)) (pg_name (i := 6) sc_law_listed.nd rfl (Or.inl rfl)) (pss_cons (ps_set (i := 7) sc_law_listed.nd rfl (Or.inl rfl) pe_dnewK)
    (pss_cons (ps_for PassesOwn.never rfl (kpil K (pe_callB (call_sortedDI rfl) (by rfl) T.z_sorted (by decide +kernel) (pa_cons (pv 5) pa_nil))) (pg_name (i := 8) sc_law_listed.nd rfl (Or.inl rfl)) (pss_one (ps_for PassesOwn.never rfl (pi_range2 rfl T.z_range (pa_cons pe_int (pa_cons (pe_op op_add (pe_op op_sub (pe_op op_sub (pv 4) (pv 8)) (pe_op op_sub (pe_op op_sub (pv 2) (pv 6)) pe_int)) pe_int) pa_nil))) (pg_name (i := 9) sc_law_listed.nd rfl (Or.inl rfl)) (pss_cons (ps_set (i := 10) sc_law_listed.nd rfl (Or.inl rfl) (pe_op op_mul (pe_dget (hu_of hr) (pv 5) (pv 8) (fun _ _ => rfl)) (pe_ix (kixl K) (pe_ix (kixl K) (pv 0) (pe_op op_sub (pv 4) (pv 8)) (fun _ _ => rfl)) (pv 9) (fun _ _ => rfl))))
    (pss_one (ps_dput (hu_of hr) (pv 7) (pe_op op_add (pv 8) (pv 9)) (pe_callB (call_max2 rfl) (by rfl) T.z_max (by decide +kernel) (pa_cons (pv 10) (pa_cons (pe_dget2 (hu_of hr) (pv 7) (pe_op op_add (pv 8) (pv 9)) pe_int ⟨rfl, rfl, rfl, rfl⟩) pa_nil))) rfl))))))
    (pss_one (ps_set (i := 5) sc_law_listed.nd rfl (Or.inl rfl) (pv 7))))))
    (pss_one (ps_ret (pe_op op_mul (pe_dget (hu_of hr) (pv 5) (pv 4) (fun _ _ => rfl)) (pe_ix (kixl K) (pe_ix (kixl K) (pv 0) (pv 1) (fun _ _ => rfl)) (pv 3) (fun _ _ => rfl))))))))), ?_⟩
  refine ⟨_, rfl, _, rfl, _, _, rfl, rfl, ?_⟩
  refine ⟨_, rfl, _, rfl, _, _, rfl, rfl, _, rfl, ite2 (fun c => ?_) (fun c => ?_)⟩
  · have c' := of_decide_eq_true c
    have e : mostA total rounds rest = 0 := if_pos c'
    rw [e] at q
    exact q _ (Ex.refl _)
  have c' : ¬ (total - rest < rounds) := of_decide_eq_false (Bool.eq_false_iff.mpr c)
  obtain ⟨u, hu⟩ : ∃ u : Nat, total - rest = (u : Int) := ⟨(total - rest).toNat, by omega⟩
  obtain ⟨n, hn⟩ : ∃ n : Nat, rounds = (n : Int) := ⟨rounds.toNat, by omega⟩
  subst hn
  have u64 : u ≤ 64 := by omega
  have nu : n ≤ u := by omega
  have n1 : 1 ≤ n := by omega
  have em : mostA total n rest = Wt u n u * PySem.W.mcComb total rest := by
    unfold mostA
    rw [if_neg c', hu, evenOf_nat, arr_snoc, evenN_sum n u (by omega), ev_et n u (by omega) u64 (by omega), show (u : Int) + rest = total by omega]
    congr 1
    unfold Wt
    congr 1
    have : cq u u = 1 := (show ∀ u : Fin 65, cq u.val u.val = 1 by decide +kernel) ⟨u, by omega⟩
    rw [this, Nat.one_mul]
  rw [em] at q
  have sz : ∀ m : Nat, m ≤ 1000 → m < sizeLine := fun m h => small1000 h
  refine ⟨two_le, fun p0 hp0 => ⟨(by show 1 ≤ sizeLine; decide), fun l hl => ?_⟩⟩
  have x1 : Ex H (upd H p0 (.tup [.int 0, .int 1])) := Ex.new hp0
  have x2 := x1.trans (Ex.new (o := .lst [.ref p0]) hl)
  refine ⟨l, [p0], [(.inl 0, .int 1)], rfl, SqL.of upd_same, .cons (SqT.of ((Ex.new hl) _ _ upd_same)) .nil, fun B hB => ?_⟩
  have x3 := x2.trans (Ex.new (o := .dK (mergeK [] [(.inl 0, .int 1)])) hB)
  have b0 : Best u n 0 (mergeK [] [((.inl 0 : Key), V.int 1)]) := by
    refine ⟨⟨[0], rfl, by simp⟩, fun k hk => ?_, fun z v hv => ?_⟩
    · obtain rfl : k = 0 := by rcases hk with ⟨_, h⟩ | ⟨h, _⟩ <;> omega
      have : Wt u 0 0 = 1 := by
        unfold Wt
        exact congrArg _ ((show ∀ u : Fin 65, cq u.val 0 * Et 0 0 = 1 by decide +kernel) ⟨u, by omega⟩)
      rw [this]
      rfl
    · have e : valV (mergeK [] [((.inl 0 : Key), V.int 1)]) (.inl z) = if z = 0 then some (.int 1) else none := by
        show valV [((.inl 0 : Key), V.int 1)] (.inl z) = _
        by_cases c : z = 0
        · subst c; rfl
        · rw [valV_neg (fun e => c (Sum.inl.inj e).symm), if_neg c]; rfl
      rw [e] at hv
      split at hv
      · exact ⟨0, by assumption, .inl ⟨rfl, rfl⟩⟩
      · cases hv
  refine ⟨_, rfl, (n : Int), rfl, by omega, by omega, for_range (lo := 0) (n := ((n : Nat) : Int).toNat)
    (fun t σ H' => Ex H H' ∧ ∃ B kvs x6 x7 x8 x9 x10, H' B = some (.dK kvs) ∧ Best u n t kvs ∧ σ = [some (.ref r), some (.int total), some (.int (n : Int)), some (.int rest), some (.int (total - rest)), some (.ref B), x6, x7, x8, x9, x10])
    ⟨x3, B, _, _, _, _, _, _, upd_same, b0, rfl⟩ ?_ ?_⟩
  · rintro t σ H1 ht ⟨e1, B, kvs, x6, x7, x8, x9, x10, hB, best, rfl⟩
    have ht' : t < n := by omega
    obtain ⟨ks, hks, ndk⟩ := best.keys
    have kin : ∀ k ∈ ks, KeyAt u n t k := fun k hk => by
      cases hv : valV kvs (.inl (k : Int)) with
      | none =>
        have := valV_not hv
        rw [hks] at this
        exact absurd (List.mem_map.mpr ⟨k, hk, rfl⟩) this
      | some v =>
        obtain ⟨k', hz, hk'⟩ := best.only _ _ hv
        have : k = k' := by omega
        rw [this]; exact hk'
    have klen : ks.length < 64 := by
      by_cases c : t = 0
      · have : ks.length ≤ [0].length := sub_lenN ndk (fun x hx => by
          have := kin x hx
          rcases this with ⟨_, h⟩ | ⟨h, _⟩
          · simp [h]
          · omega)
        exact Nat.lt_of_le_of_lt this (by decide)
      · have : ks.length ≤ ((List.range (u - n + 1)).map (fun i => i + t)).length := sub_lenN ndk (fun x hx => by
          have := kin x hx
          rcases this with ⟨h, _⟩ | ⟨h1, h2, h3⟩
          · exact absurd h c
          · exact List.mem_map.mpr ⟨x - t, by rw [List.mem_range]; omega, by omega⟩)
        rw [List.length_map, List.length_range] at this
        omega
    intro Hd hHd
    have y1 : Ex H1 (upd H1 Hd (.dK [])) := Ex.new hHd
    refine ⟨_, rfl, B, kvs, ks.map (fun k : Nat => (k : Int)), rfl, .inl (y1 _ _ hB), by rw [hks, List.map_map]; rfl, by rw [List.length_map]; exact klen, fun ys p perm _ hp => ?_⟩
    have y2 := y1.trans (Ex.new (o := .lst (ys.map V.int)) hp)
    have yin : ∀ z ∈ ys, ∃ d : Nat, z = (d : Int) ∧ KeyAt u n t d := fun z hz => by
      obtain ⟨d, hd, rfl⟩ := List.mem_map.mp (perm.mem_iff.mp hz)
      exact ⟨d, rfl, kin d hd⟩
    have yall : ∀ d, KeyAt u n t d → (d : Int) ∈ ys := fun d hd => by
      refine perm.mem_iff.mpr (List.mem_map.mpr ⟨d, ?_, rfl⟩)
      have hv := best.val d hd
      have := valV_in hv
      rw [hks] at this
      obtain ⟨k, hk, e⟩ := List.mem_map.mp this
      have : k = d := by have := Sum.inl.inj e; omega
      rw [← this]; exact hk
    let Dn : Nat → Nat → Nat → Prop := fun j d e => (d : Int) ∈ ys.take j ∧ KeyAt u n t d ∧ d < e ∧ KeyAt u n (t + 1) e
    refine ⟨p, rfl, ⟨_, SqL.of upd_same⟩, for_list (xs := ys.map V.int)
      (fun j σ H' => Ex H1 H' ∧ H' p = some (.lst (ys.map V.int)) ∧ (∃ kv2, H' Hd = some (.dK kv2) ∧ Here u n t (Dn j) kv2) ∧ ∃ x8 x9 x10, σ = [some (.ref r), some (.int total), some (.int (n : Int)), some (.int rest), some (.int (total - rest)), some (.ref B), some (.int (0 + (t : Int))), some (.ref Hd), x8, x9, x10])
      ⟨y2, upd_same, ⟨[], (Ex.new hp) _ _ upd_same, ⟨⟨[], rfl, .nil⟩, (fun z v hv => by cases hv), (fun d e hd => by cases hd.1)⟩⟩, _, _, _, rfl⟩ (fun j σ H' _ z => SqL.of z.2.1) ?_ ?_⟩
    · rintro j x σ H2 hx ⟨e2, hp2, ⟨kv2, hH2, here⟩, x8, x9, x10, rfl⟩
      obtain ⟨z, hz, rfl⟩ := ints_get hx
      obtain ⟨d, rfl, kd⟩ := yin z (List.mem_of_getElem? hz)
      have du : d + n ≤ u + t ∧ t ≤ d := by rcases kd with ⟨h1, h2⟩ | ⟨h1, h2, h3⟩ <;> omega
      refine ⟨_, rfl, _, rfl, _, _, rfl, rfl, _, rfl, _, rfl, _, _, rfl, rfl, _, _, rfl, rfl, _, _, rfl, rfl, _, _, rfl, rfl, 1, total - rest - (d : Int) - ((n : Int) - (0 + (t : Int)) - 1) + 1, rfl, ⟨by decide, by decide, by omega, by omega⟩, for_range (lo := 1) (n := (total - rest - (d : Int) - ((n : Int) - (0 + (t : Int)) - 1) + 1 - 1).toNat)
        (fun i σ H' => Ex H1 H' ∧ H' p = some (.lst (ys.map V.int)) ∧ (∃ kv2, H' Hd = some (.dK kv2) ∧ Here u n t (fun d' e' => Dn j d' e' ∨ (d' = d ∧ d < e' ∧ e' ≤ d + i)) kv2) ∧ ∃ x9 x10, σ = [some (.ref r), some (.int total), some (.int (n : Int)), some (.int rest), some (.int (total - rest)), some (.ref B), some (.int (0 + (t : Int))), some (.ref Hd), some (.int (d : Int)), x9, x10])
        ⟨e2, hp2, ⟨kv2, hH2, here.keys, here.low, fun d' e' h => here.high d' e' (h.resolve_right (fun z => by omega))⟩, _, _, rfl⟩ ?_ ?_⟩
      · rintro i σ H3 hi ⟨e3, hp3, ⟨kv3, hH3, here3⟩, x9, x10, rfl⟩
        have hi' : i + 1 + d + n ≤ u + t + 1 := by omega
        have hsz : (1 : Int) + (i : Int) = ((i + 1 : Nat) : Int) := by omega
        have ke : KeyAt u n (t + 1) (d + (i + 1)) := .inr ⟨by omega, by omega, by omega⟩
        have hB3 := e3 _ _ hB
        have gg := DGet.k (k := .inl (d : Int)) hB3
        rw [best.val d kd] at gg
        obtain ⟨as, a, ta, tb, tc⟩ := tri_at (n := u - d) (tri.ex (e1.trans e3)) (by omega)
        have hrow := row_at (n := u - d) (k := i + 1) (by omega) (by omega)
        have hc := @comb_lt ((u - d : Nat) : Int) ((i + 1 : Nat) : Int) (by omega) (by omega) (by omega) (by omega)
        refine ⟨_, rfl, _, rfl, B, _, rfl, gg, ?_⟩
        refine ⟨_, rfl, _, rfl, _, rfl, _, _, rfl, rfl, _, _, _, _, rfl, rfl, SqL.of ta, at_of (show total - rest - (d : Int) = ((u - d : Nat) : Int) by omega) (refs_get tb), _, rfl, _, _, _, _, rfl, rfl, SqL.of tc, at_of hsz hrow, ?_⟩
        refine ⟨_, _, rfl, rfl, .inr ⟨by omega, hc.2⟩, ?_⟩
        have ed : d + (i + 1) - d = i + 1 := by omega
        have fle := Wt_le (u := u) (t := t) (d := d) (e := d + (i + 1)) u64 (by omega) (by omega) du.2 (by intro h; rcases kd with ⟨_, h2⟩ | ⟨h1, _⟩ <;> omega)
        rw [ed] at fle
        have f0 : 0 ≤ Wt u t d * PySem.W.mcComb ((u - d : Nat) : Int) ((i + 1 : Nat) : Int) := Int.mul_nonneg (Int.natCast_nonneg _) hc.1
        obtain ⟨m0, hg, here4⟩ := here3.put (d := d) (e := d + (i + 1)) ke (by rw [ed]) f0 fle
        have hkey : (d : Int) + ((1 : Int) + (i : Int)) = ((d + (i + 1) : Nat) : Int) := by omega
        have g3 := DGet.k (k := .inl ((d : Int) + ((1 : Int) + (i : Int)))) hH3
        refine ⟨_, rfl, _, rfl, Hd, rfl, .inl ⟨_, .inl hH3⟩, _, rfl, _, rfl, _, _, rfl, rfl, _, g3, ?_⟩
        rw [hkey, hg]
        obtain ⟨ks3, hk3, _⟩ := here3.keys
        refine ⟨_, _, rfl, _, rfl, _, rfl, _, rfl, _, _, rfl, rfl, Hd, _, rfl, .inl ⟨kv3, .inl ((d : Int) + ((1 : Int) + (i : Int))), hH3, rfl, ?_, rfl⟩, ?_⟩
        · exact sz _ (Nat.le_trans (here3.len ht') (by omega))
        · rw [← hkey] at here4
          refine ⟨e3.mut hHd, ?_, ⟨_, upd_same, here4.keys, here4.low, fun d' e' h => here4.high d' e' ?_⟩, _, _, rfl⟩
          · rw [upd_ne (ne_new hp upd_same)]
            exact hp3
          · rcases h with h | ⟨rfl, h1, h2⟩
            · exact .inl (.inl h)
            · by_cases c : e' = d' + (i + 1)
              · exact .inr ⟨rfl, c⟩
              · exact .inl (.inr ⟨rfl, h1, by omega⟩)
      · rintro σ H3 ⟨e3, hp3, ⟨kv3, hH3, here3⟩, x9, x10, rfl⟩
        refine ⟨e3, hp3, ⟨kv3, hH3, here3.keys, here3.low, fun d' e' h => here3.high d' e' ?_⟩, _, _, _, rfl⟩
        obtain ⟨h1, h2, h3, h4⟩ := h
        rw [List.take_add_one, hz] at h1
        rcases List.mem_append.mp h1 with h | h
        · exact .inl ⟨h, h2, h3, h4⟩
        · have : d' = d := by
            have := List.mem_singleton.mp h
            omega
          subst this
          refine .inr ⟨rfl, h3, ?_⟩
          rcases h4 with ⟨z, _⟩ | ⟨_, _, z⟩ <;> omega
    · rintro σ H2 ⟨e2, hp2, ⟨kv2, hH2, here⟩, x8, x9, x10, rfl⟩
      rw [List.length_map, ] at here
      refine ⟨_, rfl, e1.trans e2, Hd, kv2, _, _, _, _, _, hH2, here.best u64 ht' nu (fun d e kd hde ke => ⟨by rw [List.take_length]; exact yall d kd, kd, hde, ke⟩), rfl⟩
  · rintro σ H1 ⟨e1, B, kvs, x6, x7, x8, x9, x10, hB, best, rfl⟩
    have gg := DGet.k (k := .inl (u : Int)) hB
    rw [Int.toNat_natCast] at best
    rw [best.val u (.inr ⟨n1, nu, Nat.le_refl _⟩)] at gg
    obtain ⟨tn, htn⟩ : ∃ tn : Nat, total = (tn : Int) := ⟨total.toNat, by omega⟩
    obtain ⟨rn, hrn⟩ : ∃ rn : Nat, rest = (rn : Int) := ⟨rest.toNat, by omega⟩
    subst htn hrn
    obtain ⟨as, a, ta, tb, tc⟩ := tri_at (n := tn) (tri.ex e1) (by omega)
    have hrow := row_at (n := tn) (k := rn) (by omega) (by omega)
    have hc := @comb_lt (tn : Int) (rn : Int) (by omega) (by omega) (by omega) (by omega)
    rw [hu]
    refine ⟨_, rfl, _, rfl, B, _, rfl, gg, _, rfl, _, rfl, _, _, _, _, rfl, rfl, SqL.of ta, at_of rfl (refs_get tb), _, rfl, _, _, _, _, rfl, rfl, SqL.of tc, at_of rfl hrow, _, _, rfl, rfl, .inr ⟨by omega, hc.2⟩, q _ e1⟩
end
end L2.U


set_option Elab.async false
set_option linter.all false
set_option maxRecDepth 100000
set_option maxHeartbeats 4000000
namespace L2.U
open PySem PySem.Spec PyProof.Rows Evl
section
variable {P : Program} {w : World} {K : PySem.W.Frag} {mg : Str → Option Value} {base : Heap}

inductive Due (H : Hp) (kind : Int) (xs : List V) (ds : List PyData) : V → Prop
  | none (h : rfd kind ds = none) (h4 : kind ≠ 4) : Due H kind xs ds .non
  | bad {w : Str} {j : Nat} {x : V} {t : Addr} (h : rfd kind ds = some (w, j)) (hx : xs[j]? = some x) (ht : H t = some (.tup [.str w, x])) : Due H kind xs ds (.ref t)
  | done {t : Addr} (h : rfd kind ds = none) (h4 : kind = 4) (ht : H t = some (.tup [.str "done", .int (most3 ds)])) : Due H kind xs ds (.ref t)
theorem Due.ex {H H' : Hp} {kind : Int} {xs : List V} {ds : List PyData} {v : V} (h : Due H kind xs ds v) (e : Ex H H') : Due H' kind xs ds v := by
  cases h with
  | none h h4 => exact .none h h4
  | bad h hx ht => exact .bad h hx (e _ _ ht)
  | done h h4 ht => exact .done h h4 (e _ _ ht)
theorem Due.but {H H' : Hp} {b : Addr} {n : Nat} {kind : Int} {xs : List V} {ds : List PyData} {v : V} (h : Due H kind xs ds v) (hb : BoxAt H b n) (k : But b H H') : Due H' kind xs ds v := by
  obtain ⟨d, m, c, f, hb', _⟩ := hb
  have ne : ∀ {t : Addr} {ys : List V}, H t = some (.tup ys) → t ≠ b := fun ht => ne_of ht hb' (by intro z; cases z)
  cases h with
  | none h h4 => exact .none h h4
  | bad h hx ht => exact .bad h hx (k _ _ (ne ht) ht)
  | done h h4 ht => exact .done h h4 (k _ _ (ne ht) ht)
def spDue (K : PySem.W.Frag) : Sp := fun vs H Q _ => ∃ (r : Addr) (kind : Int) (vt : Addr) (xs : List V) (ds : List PyData) (n : Nat) (ok : Addr → Prop), vs = [.ref r, .int kind, .ref vt] ∧ Tri H r 66 ∧ SqT K H vt xs ∧ RdL K ok H n xs ds ∧ n ≤ 20 ∧ Arity kind ds.length ∧
  ∀ v H', Ex H H' → Due H' kind xs ds v → Q v H'
theorem ok_law_due (T : TK K mg) : FnOk P w K mg base CX0 4 T.law_due.a T.law_due.fd ["triangle", "kind", "values"] (spDue K) := by
  refine T.law_due.F.ok sc_law_due (fun vs H Q E h => ?_) (fun cdv A outer s H vs Q E hr h => ?_)
  · obtain ⟨r, kind, vt, xs, ds, n, ok, rfl, _⟩ := h; rfl
  obtain ⟨r, kind, vt, xs, ds, n, ok, rfl, tri, hv, rd, hn, ar, q⟩ := h
  refine ⟨_, (pss_cons (ps_set (i := 3) sc_law_due.nd rfl (Or.inl rfl) (pe_call (ok_law_refused T) (hr.mono (by decide)) rfl T.law_refused.m T.law_refused.F.kp T.law_refused.b .nil pass0 (pa_cons (pv 1) (pa_cons (pv 2) pa_nil))))
    (pss_cons (ps_if (PW.pt (pw_or (pt_cmpR op_notN (pv 3) pe_non (nomark _)) (pw_or1 (pt_cmpR op_lt (pv 1) pe_int (nomark _))))) (pss_one (ps_ret (pv 3))) pss_nil)
    (pss_one (ps_ret (pe_tup (pa_cons pe_str (pa_cons (pe_call (ok_law_listed T) (hr.mono (by decide)) rfl T.law_listed.m T.law_listed.F.kp T.law_listed.b .nil pass0 (pa_cons (pv 0) (pa_cons (pe_ix (kixt K) (pv 2) pe_int (fun _ _ => rfl)) (pa_cons (pe_ix (kixt K) (pv 2) pe_int (fun _ _ => rfl)) (pa_cons (pe_ix (kixt K) (pv 2) pe_int (fun _ _ => rfl)) pa_nil))))) pa_nil))))))), ?_⟩
  refine ⟨_, rfl, _, rfl, kind, vt, xs, ds, n, ok, rfl, hv, rd, hn, ar, fun c H1 e1 => ?_, fun w j x c hx t H1 e1 ht => ?_⟩
  · refine ⟨_, rfl, rfl, _, rfl, iteF ⟨_, rfl, _, _, rfl, rfl, _, rfl, ite2 (fun c4 => ?_) (fun c4 => ?_)⟩⟩
    · have := of_decide_eq_true c4
      exact ⟨_, rfl, q _ _ e1 (.none c (by omega))⟩
    · have h4 : ¬ kind < 4 := of_decide_eq_false (Bool.eq_false_iff.mpr c4)
      have k4 : kind = 4 := by unfold Arity at ar; omega
      subst k4
      have l3 : ds.length = 3 := by unfold Arity at ar; omega
      obtain ⟨x, y, z, d, f, g, rfl, rfl, rx, ry, rz⟩ := rdl_three rd l3
      have c1 : num64 d = true := by
        cases h : num64 d with
        | true => rfl
        | false => unfold rfd g0 at c; simp [h] at c
      have c2 : many64 f = true := by
        cases h : many64 f with
        | true => rfl
        | false => unfold rfd g0 g1 at c; unfold many64 at h; simp [c1, h] at c
      have c3 : num64 g = true := by
        cases h : num64 g with
        | true => rfl
        | false => unfold rfd g0 g1 g2 at c; unfold many64 at c2; simp [c1, c2, h] at c
      obtain ⟨i, rfl, rfl, i0, i1⟩ := betw_int rx c1
      obtain ⟨j, rfl, rfl, j0, j1⟩ := betw_int ry c2
      obtain ⟨k, rfl, rfl, k0, k1⟩ := betw_int rz c3
      have hv1 := ex_t e1 hv
      refine ⟨_, rfl, _, rfl, _, _, _, _, rfl, rfl, hv1, rfl, _, rfl, _, _, _, _, rfl, rfl, hv1, rfl, _, rfl, _, _, _, _, rfl, rfl, hv1, rfl, r, i, j, k, rfl, tri.ex e1, ⟨i0, i1⟩, ⟨j0, j1⟩, ⟨k0, k1⟩, fun H2 e2 => ⟨two_le, fun t ht => q _ _ ((e1.trans e2).trans (Ex.new ht)) (.done c rfl upd_same)⟩⟩
  · exact ⟨_, rfl, rfl, _, rfl, iteT ⟨_, rfl, q _ _ e1 (.bad c hx ht)⟩⟩
end
end L2.U


set_option Elab.async false
set_option linter.all false
set_option maxRecDepth 100000
set_option maxHeartbeats 4000000
namespace L2.U
open PySem PySem.Spec PyProof.Rows Evl
section
variable {P : Program} {w : World} {K : PySem.W.Frag} {mg : Str → Option Value} {base : Heap}

def isL : PyData → Bool
  | .list _ => true
  | _ => false
/-- the copies: the very values, but of a list a new one with the same items, and more behind them -/
structure CpS (K : PySem.W.Frag) (ok : Addr → Prop) (n : Nat) (D : Addr) (H0 G : Hp) (xs : List V) (ds : List PyData) (ys : List V) (more : Nat → List V) : Prop where
  same : ∀ (k : Nat) (x : V) (d : PyData) (y : V), xs[k]? = some x → ds[k]? = some d → ys[k]? = some y → isL d = false → y = x
  list : ∀ (k : Nat) (d : PyData) (y : V), ds[k]? = some d → ys[k]? = some y → isL d = true → ∃ (l : Addr) (items : List V) (es : List PyData) (m : Nat), d = .list es ∧ n = m + 1 ∧ y = .ref l ∧ RdL K ok H0 m items es ∧ items.length ≤ 900 ∧ H0 l = none ∧ l ≠ D ∧ G l = some (.lst (items ++ more k))
  dist : ∀ (k k' : Nat) (d d' : PyData) (l : Addr), k ≠ k' → ds[k]? = some d → ds[k']? = some d' → isL d = true → isL d' = true → ys[k]? = some (.ref l) → ys[k']? = some (.ref l) → False
theorem CpS.ex {ok : Addr → Prop} {n : Nat} {D : Addr} {H0 G G' : Hp} {xs ys : List V} {ds : List PyData} {more : Nat → List V} (c : CpS K ok n D H0 G xs ds ys more) (e : Ex G G') : CpS K ok n D H0 G' xs ds ys more :=
  ⟨c.same, fun k d y h2 h3 h4 => by
    obtain ⟨l, items, es, m, p1, p2, p3, p4, p5, p6, pD, p7⟩ := c.list k d y h2 h3 h4
    exact ⟨l, items, es, m, p1, p2, p3, p4, p5, p6, pD, e _ _ p7⟩, c.dist⟩
theorem rd_isL {ok : Addr → Prop} {H : Hp} {n : Nat} {x : V} {d : PyData} (h : Rd K ok H n x d) (c : isL d = true) : ∃ (a : Addr) (items : List V) (es : List PyData) (m : Nat), x = .ref a ∧ d = .list es ∧ n = m + 1 ∧ H a = some (.lst items) ∧ RdL K ok H m items es ∧ items.length ≤ 900 := by
  cases h with
  | lst h1 ha hl hz all => exact ⟨_, _, _, _, rfl, rfl, rfl, h1, ⟨hl, all⟩, hz⟩
  | non => cases c
  | bl _ => cases c
  | int _ => cases c
  | str _ _ _ => cases c
  | tup _ _ _ _ _ => cases c
theorem rd_ty {ok : Addr → Prop} {H : Hp} {n : Nat} {x : V} {d : PyData} (h : Rd K ok H n x d) : ∃ t : String, TyX K H x (.type t) ∧ kitB t "list" = some (isL d) := by
  cases h with
  | lst h1 ha hl hz all => exact ⟨"list", tyL (SqL.of h1), by show kitB "list" "list" = some true; decide +kernel⟩
  | non => exact ⟨"NoneType", .base .non, by show kitB "NoneType" "list" = some false; decide +kernel⟩
  | bl b => exact ⟨"bool", .base (.bl b), by show kitB "bool" "list" = some false; decide +kernel⟩
  | int i => exact ⟨"int", .base (.int i), by show kitB "int" "list" = some false; decide +kernel⟩
  | str z _ _ => exact ⟨"str", .base (.str z), by show kitB "str" "list" = some false; decide +kernel⟩
  | tup h1 ha hl hz all => exact ⟨"tuple", tyT h1, by show kitB "tuple" "list" = some false; decide +kernel⟩
theorem CpS.rd {ok : Addr → Prop} {D : Addr} {H0 G : Hp} {n : Nat} {xs ys : List V} {ds : List PyData} (c : CpS K ok n D H0 G xs ds ys (fun _ => [])) (e : Ex H0 G) (hy : ys.length = xs.length) (r : RdL K ok H0 n xs ds) : RdL K (fun _ => True) G n ys ds := by
  refine ⟨by rw [hy, r.1], fun i y d hyi hd => ?_⟩
  have hi := (List.getElem?_eq_some_iff.mp hyi).1
  have hx : xs[i]? = some (xs[i]'(by omega)) := List.getElem?_eq_getElem _
  have rx := r.2 i _ d hx hd
  cases hl : isL d with
  | false => rw [c.same i _ d y hx hd hyi hl]; exact (rx.ex e).of (fun _ _ => trivial)
  | true =>
    obtain ⟨l, items, es, m, rfl, rfl, rfl, p4, p5, p6, pD, p7⟩ := c.list i d y hd hyi hl
    rw [List.append_nil] at p7
    exact .lst p7 trivial p4.1 p5 fun k z f hz hf => ((p4.2 k z f hz hf).ex e).of (fun _ _ => trivial)
theorem CpS.snoc {ok : Addr → Prop} {D : Addr} {H0 G : Hp} {n i : Nat} {xs ys : List V} {ds : List PyData} {y x : V} {d : PyData} (c : CpS K ok n D H0 G xs ds ys (fun _ => [])) (hy : ys.length = i) (hx : xs[i]? = some x) (hd : ds[i]? = some d)
    (h : (isL d = false ∧ y = x) ∨ (isL d = true ∧ ∃ (l : Addr) (items : List V) (es : List PyData) (m : Nat), d = .list es ∧ n = m + 1 ∧ y = .ref l ∧ RdL K ok H0 m items es ∧ items.length ≤ 900 ∧ H0 l = none ∧ l ≠ D ∧ G l = some (.lst items) ∧ ∀ (k : Nat) (y' : V) (d' : PyData), ys[k]? = some y' → ds[k]? = some d' → isL d' = true → y' ≠ V.ref l)) :
    CpS K ok n D H0 G xs ds (ys ++ [y]) (fun _ => []) := by
  have at_ : ∀ {k : Nat} {y' : V}, (ys ++ [y])[k]? = some y' → (k < i ∧ ys[k]? = some y') ∨ (k = i ∧ y' = y) := by
    intro k y' hk
    by_cases ck : k < ys.length
    · rw [List.getElem?_append_left ck] at hk
      exact .inl ⟨by omega, hk⟩
    · have hk1 := (List.getElem?_eq_some_iff.mp hk).1
      rw [List.length_append, List.length_singleton] at hk1
      have : k = ys.length := by omega
      subst this
      rw [List.getElem?_append_right (Nat.le_refl _), Nat.sub_self] at hk
      exact .inr ⟨hy, (Option.some.inj hk).symm⟩
  refine ⟨fun k x' d' y' h1 h2 h3 h4 => ?_, fun k d' y' h2 h3 h4 => ?_, fun k k' d1 d2 l hk h1 h2 h3 h4 h5 h6 => ?_⟩
  · rcases at_ h3 with ⟨_, h3⟩ | ⟨rfl, rfl⟩
    · exact c.same k x' d' y' h1 h2 h3 h4
    · rw [hx] at h1; rw [hd] at h2
      cases h1; cases h2
      rcases h with ⟨_, h⟩ | ⟨h, _⟩
      · exact h
      · rw [h4] at h; cases h
  · rcases at_ h3 with ⟨_, h3⟩ | ⟨rfl, rfl⟩
    · exact c.list k d' y' h2 h3 h4
    · rw [hd] at h2
      cases h2
      rcases h with ⟨h, _⟩ | ⟨_, l, items, es, m, p1, p2, p3, p4, p5, p6, pD, p7, _⟩
      · rw [h4] at h; cases h
      · exact ⟨l, items, es, m, p1, p2, p3, p4, p5, p6, pD, by rw [List.append_nil]; exact p7⟩
  · have use : ∀ {a b : Nat} {da db : PyData}, a ≠ b → ds[a]? = some da → ds[b]? = some db → isL da = true → isL db = true → a < i → ys[a]? = some (.ref l) → b = i → y = .ref l → False := by
      intro a b da db _ ha hb la lb hai hya hbi hyl
      subst hbi
      rw [hd] at hb
      cases hb
      rcases h with ⟨h, _⟩ | ⟨_, l', items, es, m, p1, p2, p3, p4, p5, p6, pD, p7, p8⟩
      · rw [lb] at h; cases h
      · rw [hyl] at p3
        cases p3
        exact p8 a _ _ hya ha la rfl
    rcases at_ h5 with ⟨k1, h5⟩ | ⟨k1, h5⟩ <;> rcases at_ h6 with ⟨k2, h6⟩ | ⟨k2, h6⟩
    · exact c.dist k k' d1 d2 l hk h1 h2 h3 h4 h5 h6
    · exact use hk h1 h2 h3 h4 k1 h5 k2 h6.symm
    · exact use (Ne.symm hk) h2 h1 h4 h3 k2 h6 k1 h5.symm
    · omega
theorem sm_pair {H : Hp} {a b : Addr} {n : Nat} {s : Str} {x y : V} (h1 : SqT K H a [.str s, x]) (h2 : SqT K H b [.str s, y]) (hs : s.length ≤ 1000) (h : Sm K H n x y) : Sm K H (n + 1) (.ref a) (.ref b) := by
  refine .tup h1 h2 rfl (by show 2 ≤ 1000; decide) fun i u v hu hv => ?_
  match i, hu, hv with
  | 0, hu, hv => cases Option.some.inj hu; cases Option.some.inj hv; exact .str s hs
  | 1, hu, hv => cases Option.some.inj hu; cases Option.some.inj hv; exact h
theorem rfd_word {kind : Int} {ds : List PyData} {w : Str} {j : Nat} (h : rfd kind ds = some (w, j)) : w.length ≤ 1000 := by
  unfold rfd at h
  repeat' split at h
  all_goals (cases h <;> decide +kernel)
theorem Arity.len {kind : Int} {n : Nat} (h : Arity kind n) : n ≤ 3 := by unfold Arity at h; omega
def spRight (K : PySem.W.Frag) : Sp := fun vs H Q _ => ∃ (kind named : Int) (vt : Addr) (due : V) (xs : List V) (ds : List PyData) (n : Nat) (ok : Addr → Prop), vs = [.int kind, .int named, .ref vt, due] ∧ SqT K H vt xs ∧ RdL K ok H n xs ds ∧ n ≤ 5 ∧ Arity kind ds.length ∧ Due H kind xs ds due ∧
  ∀ H', Ex H H' → Q (.bl true) H'
theorem ok_law_right (T : TK K mg) : FnOk P w K mg base CX0 10 T.law_right.a T.law_right.fd ["kind", "named", "values", "due"] (spRight K) := by
  refine T.law_right.F.ok sc_law_right (fun vs H Q E h => ?_) (fun cdv A outer s H vs Q E hr h => ?_)
  · obtain ⟨kind, named, vt, due, xs, ds, n, ok, rfl, _⟩ := h; rfl
  obtain ⟨kind, named, vt, due, xs, ds, n, ok, rfl, hvt, rd, hn, ar, due0, q⟩ := h
  refine ⟨_, (pss_cons (ps_setLc (i := 5) (own := [("one", 4)]) (g := gName 4) (by rfl) sc_law_right.nd rfl rfl (sw_true rfl rfl rfl (by decide +kernel)) (kpit K (pv 2)) (blkOk_by (own := [("one", 4)]) (N := ["kind", "named", "values", "due", "one", "passed", "told"]) (sc := defScope s_law_right) (by decide +kernel)) (fun _ _ _ _ _ => (pg_name (i := 4) sc_law_right.nd rfl (Or.inl rfl))) (fun _ _ _ _ _ => pts_nil) (fun _ _ _ _ _ => (pe_ifExp (pt_val (pe_callB (kisi K) (by rfl) T.z_isinstance (by decide +kernel) (pa_cons (pv 4) (pa_cons (pe_bltn (v := .ty "list") rfl T.z_list (by decide +kernel) rfl) pa_nil)))) (pe_callTy (klist K) (by rfl) T.z_list (by decide +kernel) (pa_cons (pv 4) pa_nil)) (pv 4))))
    (pss_cons (ps_set (i := 6) sc_law_right.nd rfl (Or.inl rfl) (pe_call (ok_law_told T) (hr.mono (by decide)) rfl T.law_told.m T.law_told.F.kp T.law_told.b .nil pass0 (pa_cons (pv 0) (pa_cons (pv 1) (pa_cons (pv 5) pa_nil)))))
    (pss_cons (ps_if (pt_not (pt_val (pe_call (ok_law_same T.toTA1) (hr.mono (by decide)) rfl T.law_same.m T.law_same.F.kp T.law_same.b .nil pass0 (pa_cons (pv 5) (pa_cons (pe_callTy (klist K) (by rfl) T.z_list (by decide +kernel) (pa_cons (pv 2) pa_nil)) pa_nil))))) (pss_one (ps_ret pe_bl)) pss_nil)
    (pss_cons (ps_if (pt_cmpR op_isN (pv 3) pe_non (nomark _)) (pss_one (ps_ret (pe_cmpR op_eq (pe_ix (kixt K) (pv 6) pe_int (fun _ _ => rfl)) pe_str (nomark _)))) pss_nil)
    (pss_cons (ps_if (pt_not (pt_val (pe_call (ok_law_same T.toTA1) (hr.mono (by decide)) rfl T.law_same.m T.law_same.F.kp T.law_same.b .nil pass0 (pa_cons (pv 6) (pa_cons (pv 3) pa_nil))))) (pss_one (ps_ret pe_bl)) pss_nil)
    (pss_cons (ps_for PassesOwn.never rfl (kpil K (pv 5)) (pg_name (i := 4) sc_law_right.nd rfl (Or.inl rfl)) (pss_one (ps_if (pt_val (pe_callB (kisi K) (by rfl) T.z_isinstance (by decide +kernel) (pa_cons (pv 4) (pa_cons (pe_bltn (v := .ty "list") rfl T.z_list (by decide +kernel) rfl) pa_nil)))) (pss_one (ps_expr (pe_bm PySem.F.plainAttrs_list PySem.F.slot_list_append PySem.F.type_list_append mt_append (pv 4) (pa_cons pe_int pa_nil)))) pss_nil)))
    (pss_one (ps_ret (pe_or (pe_not (pe_callB (kisi K) (by rfl) T.z_isinstance (by decide +kernel) (pa_cons (pe_ix (kixt K) (pv 3) pe_int (fun _ _ => rfl)) (pa_cons (pe_bltn (v := .ty "list") rfl T.z_list (by decide +kernel) rfl) pa_nil)))) (pe_one (pe_call (ok_law_same T.toTA1) (hr.mono (by decide)) rfl T.law_same.m T.law_same.F.kp T.law_same.b .nil pass0 (pa_cons (pe_ix (kixt K) (pv 6) pe_int (fun _ _ => rfl)) (pa_cons (pe_op op_cat (pe_ix (kixt K) (pv 3) pe_int (fun _ _ => rfl)) (pe_lst (pa_cons pe_int pa_nil))) pa_nil))))))))))))), ?_⟩
  have hlen : xs.length ≤ 3 := by rw [rd.1]; exact ar.len
  refine ⟨_, rfl, vt, rfl, ⟨_, hvt⟩, fun D hD => lc_tup (xs := xs) (fun i H' => Ex H H' ∧ ∃ ys, H' D = some (.lst ys) ∧ ys.length = i ∧ ∀ G, But D H' G → CpS K ok n D H G xs ds ys (fun _ => [])) ⟨Ex.new hD, [], upd_same, rfl, fun G _ => ⟨fun k x d y _ _ h => (by cases h), fun k d y _ h => (by cases h), fun k k' d d' l _ _ _ _ _ h => (by cases h)⟩⟩
    (fun i H' _ p => ex_t p.1 hvt) ?_ ?_⟩
  · rintro i x H' hx ⟨e, ys, hy, hl, hc⟩
    have hi := (List.getElem?_eq_some_iff.mp hx).1
    have hd : ds[i]? = some (ds[i]'(by have := rd.1; omega)) := List.getElem?_eq_getElem _
    have rx := rd.2 i _ _ hx hd
    have fin : ∀ (z : V) (H2 : Hp), Ex H' H2 → (∀ G, But D H2 G → CpS K ok n D H G xs ds (ys ++ [z]) (fun _ => [])) → ∃ acc, H2 D = some (.lst acc) ∧ acc.length < sizeLine ∧
        (Ex H (upd H2 D (.lst (acc ++ [z]))) ∧ ∃ ys, (upd H2 D (.lst (acc ++ [z]))) D = some (.lst ys) ∧ ys.length = i + 1 ∧ ∀ G, But D (upd H2 D (.lst (acc ++ [z]))) G → CpS K ok n D H G xs ds ys (fun _ => [])) := by
      intro z H2 e2 hz
      exact ⟨ys, e2 _ _ hy, small1000 (by omega), (e.trans e2).mut hD, ys ++ [z], upd_same, by rw [List.length_append, hl]; rfl, fun G k => hz G (But.upd.trans k)⟩
    have c0 := hc H' (But.of (Ex.refl _))
    refine ⟨rfl, ?_⟩
    show tIf (tB (tCB (rIsi K) (tCons (tVar 4) (tCons (tC (.ty "list")) tNil)))) (tCB (rListOf K) (tCons (tVar 4) tNil)) (tVar 4) _ H' _
    cases hdL : isL (ds[i]'(by have := rd.1; omega)) with
    | false =>
      obtain ⟨ty, hty, kb⟩ := rd_ty (rx.ex e)
      rw [hdL] at kb
      exact ⟨_, rfl, _, _, _, _, false, rfl, .ty _, hty, kit_ty kb, ⟨_, rfl, iteF ⟨_, rfl, fin _ H' (Ex.refl _) fun G k => (hc G k).snoc hl hx hd (.inl ⟨hdL, rfl⟩)⟩⟩⟩
    | true =>
      obtain ⟨a, items, es, m, ex, ed, en, ha, r2, hz⟩ := rd_isL rx hdL
      rw [ex]
      have ha' := e _ _ ha
      refine ⟨_, rfl, _, _, _, _, true, rfl, .ty _, tyL (SqL.of ha'), kit_ty (by decide +kernel), ⟨_, rfl, iteT ⟨_, rfl, a, _, rfl, .inl (SqL.of ha'), fun l hl2 => fin _ _ (Ex.new hl2) (fun G k => ?_)⟩⟩⟩
      have nl : l ≠ D := ne_new hl2 hy
      refine (hc G (But.pre (Ex.new hl2) k)).snoc hl hx hd (.inr ⟨hdL, l, items, es, m, ed, en, rfl, r2, hz, fresh_back e hl2, nl, k _ _ nl upd_same, fun k' y' d' hy' hd' hdL' ee => ?_⟩)
      obtain ⟨l', items', es', m', _, _, q3, _, _, _, _, q7⟩ := c0.list k' d' y' hd' hy' hdL'
      rw [ee] at q3
      cases q3
      rw [hl2] at q7
      cases q7
  · rintro H1 ⟨e1, ys, hy, hl, hc0⟩
    have c1 := hc0 H1 (But.of (Ex.refl _))
    have hvt1 := ex_t e1 hvt
    have ry := c1.rd e1 hl rd
    have same : ∀ {H2 : Hp} (e2 : Ex H1 H2) (l : Addr) (hl2 : H2 l = none), Sm K (upd H2 l (.lst xs)) 8 (.ref D) (.ref l) := fun {H2} e2 l hl2 => by
      have e3 := e2.trans (Ex.new (o := .lst xs) hl2)
      refine .lst (SqL.of (e3 _ _ hy)) (SqL.of upd_same) hl (by omega) fun i y x h1 h2 => ?_
      have hi := (List.getElem?_eq_some_iff.mp h1).1
      have hd : ds[i]? = some (ds[i]'(by have := rd.1; omega)) := List.getElem?_eq_getElem _
      exact (((ry.2 i y _ h1 hd).ex e3).sm ((rd.2 i x _ h2 hd).ex (e1.trans e3))).le (by omega)
    refine ⟨_, rfl, _, rfl, _, rfl, kind, named, D, ys, ds, n, (fun _ => True), rfl, SqL.of hy, ry, ar, fun c v t H2 e2 hv ht => ?_, fun w j y c hyj t H2 e2 ht => ?_⟩
    · have hv2 := ex_t e2 hvt1
      refine ⟨_, rfl, _, rfl, vt, _, rfl, .inr hv2, fun l hl2 => ⟨_, _, rfl, same e2 l hl2, fun H3 e3 => ⟨true, rfl, iteF ?_⟩⟩⟩
      have e23 := (Ex.new hl2).trans e3
      have ht3 := e23 _ _ ht
      have due3 := due0.ex (e1.trans (e2.trans e23))
      cases due0 with
      | none _ h4 =>
        refine ⟨_, rfl, rfl, _, rfl, iteT ?_⟩
        refine ⟨_, rfl, _, _, _, _, rfl, rfl, SqT.of ht3, rfl, rfl, ?_⟩
        rw [decide_eq_true rfl]
        exact q _ (e1.trans (e2.trans e23))
      | bad h => rw [c] at h; cases h
      | @done TD _ h4 htd =>
        have htd3 := (e1.trans (e2.trans e23)) _ _ htd
        rw [hv h4] at ht3
        refine ⟨_, rfl, rfl, _, rfl, iteF ⟨_, rfl, _, rfl, _, _, rfl, sm_pair (SqT.of ht3) (SqT.of htd3) (by decide +kernel) (.int _), fun H4 e4 => ⟨true, rfl, iteF ?_⟩⟩⟩
        have e14 := e2.trans (e23.trans e4)
        have ht4 := e4 _ _ ht3
        have htd4 := e4 _ _ htd3
        -- 7 behind each list
        refine ⟨_, rfl, D, rfl, ⟨_, SqL.of (e14 _ _ hy)⟩, for_list (xs := ys) (fun i σ H' => Ex H H' ∧ H' D = some (.lst ys) ∧ CpS K ok n D H H' xs ds ys (fun k => if k < i then [.int 7] else []) ∧ (∀ a zs, H4 a = some (.tup zs) → H' a = some (.tup zs)) ∧ ∃ x4, σ = [some (.int kind), some (.int named), some (.ref vt), some (.ref TD), x4, some (.ref D), some (.ref t)])
          ⟨e1.trans e14, e14 _ _ hy, ⟨c1.same, fun k d y h2 h3 h4 => (c1.ex e14).list k d y h2 h3 h4, c1.dist⟩, fun a zs h => h, _, rfl⟩ (fun i σ H' _ p => SqL.of p.2.1) ?_ ?_⟩
        · rintro i y σ H' hyi ⟨e5, hD5, cp, tu, x4, rfl⟩
          have hi := (List.getElem?_eq_some_iff.mp hyi).1
          have hx : xs[i]? = some (xs[i]'(by omega)) := List.getElem?_eq_getElem _
          have hd : ds[i]? = some (ds[i]'(by have := rd.1; omega)) := List.getElem?_eq_getElem _
          have rx := rd.2 i _ _ hx hd
          cases hdL : isL (ds[i]'(by have := rd.1; omega)) with
          | false =>
            have ey := cp.same i _ _ y hx hd hyi hdL
            obtain ⟨ty, hty, kb⟩ := rd_ty (rx.ex e5)
            rw [hdL] at kb
            rw [← ey] at hty
            refine ⟨_, rfl, _, _, _, _, false, rfl, .ty _, hty, kit_ty kb, ⟨_, rfl, iteF ⟨e5, hD5, ⟨cp.same, fun k d' y' h2 h3 h4 => ?_, cp.dist⟩, tu, _, rfl⟩⟩⟩
            obtain ⟨l', items', es', m', p1, p2, p3, p4, p5, p6, pD, p7⟩ := cp.list k d' y' h2 h3 h4
            have hk : k ≠ i := by rintro rfl; rw [hd] at h2; cases h2; rw [hdL] at h4; cases h4
            refine ⟨l', items', es', m', p1, p2, p3, p4, p5, p6, pD, ?_⟩
            rw [p7]
            by_cases c : k < i
            · rw [if_pos c, if_pos (by omega)]
            · rw [if_neg c, if_neg (by omega)]
          | true =>
            obtain ⟨l', items', es', m', p1, p2, rfl, p4, p5, p6, pD, p7⟩ := cp.list i _ y hd hyi hdL
            rw [if_neg (Nat.lt_irrefl i), List.append_nil] at p7
            refine ⟨_, rfl, _, _, _, _, true, rfl, .ty _, tyL (SqL.of p7), kit_ty (by decide +kernel), ⟨_, rfl, iteT ?_⟩⟩
            refine ⟨_, rfl, .inl ⟨rfl, _, SqL.of p7⟩, l', _, _, rfl, rfl, p7, small1000 (by omega), ?_⟩
            have kk : But l' H' (upd H' l' (.lst (items' ++ [V.int 7]))) := But.upd
            refine ⟨e5.mut p6, kk _ _ pD.symm hD5, ⟨cp.same, fun k d' y' h2 h3 h4 => ?_, cp.dist⟩, fun a zs h => kk _ _ (ne_of (tu a zs h) p7 (by intro z; cases z)) (tu a zs h), _, rfl⟩
            obtain ⟨l2, items2, es2, m2, r1, r2, r3, r4, r5, r6, rD, r7⟩ := cp.list k d' y' h2 h3 h4
            by_cases hk : k = i
            · subst hk
              rw [hd] at h2
              cases h2
              rw [hyi] at h3
              cases h3
              cases r3
              have es_eq : es' = es2 := by rw [p1] at r1; cases r1; rfl
              rw [p7, if_neg (Nat.lt_irrefl k), List.append_nil] at r7
              have it_eq : items' = items2 := HO.lst.inj (Option.some.inj r7)
              refine ⟨l', items2, es2, m2, r1, r2, rfl, r4, r5, r6, rD, ?_⟩
              rw [upd_same, it_eq, if_pos (Nat.lt_succ_self k)]
            · refine ⟨l2, items2, es2, m2, r1, r2, r3, r4, r5, r6, rD, ?_⟩
              have nl : l2 ≠ l' := by
                rintro rfl
                rw [r3] at h3
                exact cp.dist k i d' _ l2 hk h2 hd h4 hdL h3 hyi
              rw [kk _ _ nl r7]
              by_cases c : k < i
              · rw [if_pos c, if_pos (by omega)]
              · rw [if_neg c, if_neg (by omega)]
        · rintro σ H5 ⟨e5, hD5, cp, tu, x4, rfl⟩
          have htd5 := tu _ _ htd4
          exact ⟨_, rfl, _, _, _, _, rfl, rfl, SqT.of htd5, rfl, _, _, _, _, false, rfl, .ty _, .base (.int _), kit_ty (by decide +kernel), ⟨_, rfl, _, rfl, iteT (q _ e5)⟩⟩
    · have hv2 := ex_t e2 hvt1
      refine ⟨_, rfl, _, rfl, vt, _, rfl, .inr hv2, fun l hl2 => ⟨_, _, rfl, same e2 l hl2, fun H3 e3 => ⟨true, rfl, iteF ?_⟩⟩⟩
      have e23 := (Ex.new hl2).trans e3
      have ht3 := e23 _ _ ht
      cases due0 with
      | none h => rw [c] at h; cases h
      | done h => rw [c] at h; cases h
      | @bad w' j' x TD h hxj htd =>
        rw [c] at h
        obtain ⟨rfl, rfl⟩ : w = w' ∧ j = j' := by cases h; exact ⟨rfl, rfl⟩
        have htd3 := (e1.trans (e2.trans e23)) _ _ htd
        have hj := (List.getElem?_eq_some_iff.mp hxj).1
        have hdj : ds[j]? = some (ds[j]'(by have := rd.1; omega)) := List.getElem?_eq_getElem _
        have rxj := rd.2 j x _ hxj hdj
        have ryj := ry.2 j y _ hyj hdj
        have smj : Sm K H3 7 y x := ((ryj.ex (e2.trans e23)).sm (rxj.ex (e1.trans (e2.trans e23)))).le (by omega)
        refine ⟨_, rfl, rfl, _, rfl, iteF ⟨_, rfl, _, rfl, _, _, rfl, sm_pair (SqT.of ht3) (SqT.of htd3) (rfd_word c) smj, fun H4 e4 => ⟨true, rfl, iteF ?_⟩⟩⟩
        have e14 := e2.trans (e23.trans e4)
        have ht4 := e4 _ _ ht3
        have htd4 := e4 _ _ htd3
        -- 7 behind each list
        refine ⟨_, rfl, D, rfl, ⟨_, SqL.of (e14 _ _ hy)⟩, for_list (xs := ys) (fun i σ H' => Ex H H' ∧ H' D = some (.lst ys) ∧ CpS K ok n D H H' xs ds ys (fun k => if k < i then [.int 7] else []) ∧ (∀ a zs, H4 a = some (.tup zs) → H' a = some (.tup zs)) ∧ ∃ x4, σ = [some (.int kind), some (.int named), some (.ref vt), some (.ref TD), x4, some (.ref D), some (.ref t)])
          ⟨e1.trans e14, e14 _ _ hy, ⟨c1.same, fun k d y h2 h3 h4 => (c1.ex e14).list k d y h2 h3 h4, c1.dist⟩, fun a zs h => h, _, rfl⟩ (fun i σ H' _ p => SqL.of p.2.1) ?_ ?_⟩
        · rintro i y σ H' hyi ⟨e5, hD5, cp, tu, x4, rfl⟩
          have hi := (List.getElem?_eq_some_iff.mp hyi).1
          have hx : xs[i]? = some (xs[i]'(by omega)) := List.getElem?_eq_getElem _
          have hd : ds[i]? = some (ds[i]'(by have := rd.1; omega)) := List.getElem?_eq_getElem _
          have rx := rd.2 i _ _ hx hd
          cases hdL : isL (ds[i]'(by have := rd.1; omega)) with
          | false =>
            have ey := cp.same i _ _ y hx hd hyi hdL
            obtain ⟨ty, hty, kb⟩ := rd_ty (rx.ex e5)
            rw [hdL] at kb
            rw [← ey] at hty
            refine ⟨_, rfl, _, _, _, _, false, rfl, .ty _, hty, kit_ty kb, ⟨_, rfl, iteF ⟨e5, hD5, ⟨cp.same, fun k d' y' h2 h3 h4 => ?_, cp.dist⟩, tu, _, rfl⟩⟩⟩
            obtain ⟨l', items', es', m', p1, p2, p3, p4, p5, p6, pD, p7⟩ := cp.list k d' y' h2 h3 h4
            have hk : k ≠ i := by rintro rfl; rw [hd] at h2; cases h2; rw [hdL] at h4; cases h4
            refine ⟨l', items', es', m', p1, p2, p3, p4, p5, p6, pD, ?_⟩
            rw [p7]
            by_cases c : k < i
            · rw [if_pos c, if_pos (by omega)]
            · rw [if_neg c, if_neg (by omega)]
          | true =>
            obtain ⟨l', items', es', m', p1, p2, rfl, p4, p5, p6, pD, p7⟩ := cp.list i _ y hd hyi hdL
            rw [if_neg (Nat.lt_irrefl i), List.append_nil] at p7
            refine ⟨_, rfl, _, _, _, _, true, rfl, .ty _, tyL (SqL.of p7), kit_ty (by decide +kernel), ⟨_, rfl, iteT ?_⟩⟩
            refine ⟨_, rfl, .inl ⟨rfl, _, SqL.of p7⟩, l', _, _, rfl, rfl, p7, small1000 (by omega), ?_⟩
            have kk : But l' H' (upd H' l' (.lst (items' ++ [V.int 7]))) := But.upd
            refine ⟨e5.mut p6, kk _ _ pD.symm hD5, ⟨cp.same, fun k d' y' h2 h3 h4 => ?_, cp.dist⟩, fun a zs h => kk _ _ (ne_of (tu a zs h) p7 (by intro z; cases z)) (tu a zs h), _, rfl⟩
            obtain ⟨l2, items2, es2, m2, r1, r2, r3, r4, r5, r6, rD, r7⟩ := cp.list k d' y' h2 h3 h4
            by_cases hk : k = i
            · subst hk
              rw [hd] at h2
              cases h2
              rw [hyi] at h3
              cases h3
              cases r3
              have es_eq : es' = es2 := by rw [p1] at r1; cases r1; rfl
              rw [p7, if_neg (Nat.lt_irrefl k), List.append_nil] at r7
              have it_eq : items' = items2 := HO.lst.inj (Option.some.inj r7)
              refine ⟨l', items2, es2, m2, r1, r2, rfl, r4, r5, r6, rD, ?_⟩
              rw [upd_same, it_eq, if_pos (Nat.lt_succ_self k)]
            · refine ⟨l2, items2, es2, m2, r1, r2, r3, r4, r5, r6, rD, ?_⟩
              have nl : l2 ≠ l' := by
                rintro rfl
                rw [r3] at h3
                exact cp.dist k i d' _ l2 hk h2 hd h4 hdL h3 hyi
              rw [kk _ _ nl r7]
              by_cases c : k < i
              · rw [if_pos c, if_pos (by omega)]
              · rw [if_neg c, if_neg (by omega)]
        · rintro σ H5 ⟨e5, hD5, cp, tu, x4, rfl⟩
          have htd5 := tu _ _ htd4
          have ht5 := tu _ _ ht4
          cases hL : isL (ds[j]'(by have := rd.1; omega)) with
          | false =>
            obtain ⟨ty, hty, kb⟩ := rd_ty (rxj.ex e5)
            rw [hL] at kb
            exact ⟨_, rfl, _, _, _, _, rfl, rfl, SqT.of htd5, rfl, _, _, _, _, false, rfl, .ty _, hty, kit_ty kb, ⟨_, rfl, _, rfl, iteT (q _ e5)⟩⟩
          | true =>
            obtain ⟨a, items0, es0, m0, rfl, ed0, en0, ha, r0, hz0⟩ := rd_isL rxj hL
            obtain ⟨l', items', es', m', p1, p2, rfl, p4, p5, p6, pD, p7⟩ := cp.list j _ y hdj hyj hL
            rw [if_pos (by omega)] at p7
            have ha5 := e5 _ _ ha
            have es_eq : es' = es0 := by rw [ed0] at p1; cases p1; rfl
            subst es_eq
            have m_eq : m' = m0 := by omega
            subst m_eq
            refine ⟨_, rfl, _, _, _, _, rfl, rfl, SqT.of htd5, rfl, _, _, _, _, true, rfl, .ty _, tyL (SqL.of ha5), kit_ty (by decide +kernel), ⟨_, rfl, _, rfl, iteF ?_⟩⟩
            refine ⟨_, rfl, _, _, _, _, rfl, rfl, SqT.of ht5, rfl, _, rfl, _, _, _, _, rfl, rfl, SqT.of htd5, rfl, (by show 1 ≤ sizeLine; decide), fun p hp => ?_⟩
            have f1 : Ex H5 (upd H5 p (.lst [.int 7])) := Ex.new hp
            refine ⟨a, p, _, _, rfl, rfl, f1 _ _ ha5, upd_same, Nat.le_of_lt (small1000 (show items0.length + 1 ≤ _ by omega)), fun p2 hp2 => ?_⟩
            have f2 := f1.trans (Ex.new (o := .lst (items0 ++ [.int 7])) hp2)
            have hlen2 : items'.length = items0.length := by rw [p4.1, r0.1]
            refine ⟨_, _, rfl, .lst (SqL.of (f2 _ _ p7)) (SqL.of upd_same) (by rw [List.length_append, List.length_append, hlen2]) (by rw [List.length_append]; show _ + 1 ≤ 1000; omega) (fun i u v hu hv => ?_), fun H6 e6 => q _ (e5.trans (f2.trans e6))⟩
            by_cases ci : i < items'.length
            · rw [List.getElem?_append_left ci] at hu
              rw [List.getElem?_append_left (by omega)] at hv
              have he : es'[i]? = some (es'[i]'(by have := p4.1; omega)) := List.getElem?_eq_getElem _
              exact (((p4.2 i u _ hu he).ex (e5.trans f2)).sm ((r0.2 i v _ hv he).ex (e5.trans f2))).le (by omega)
            · have hi2 := (List.getElem?_eq_some_iff.mp hu).1
              rw [List.length_append, List.length_singleton] at hi2
              have ei : i = items'.length := by omega
              subst ei
              rw [List.getElem?_append_right (Nat.le_refl _), Nat.sub_self] at hu
              rw [hlen2, List.getElem?_append_right (Nat.le_refl _), Nat.sub_self] at hv
              cases Option.some.inj hu
              cases Option.some.inj hv
              exact .int 7
end
end L2.U


set_option Elab.async false
set_option linter.all false
set_option maxRecDepth 100000
set_option maxHeartbeats 4000000
namespace L2.U
open PySem PySem.Spec PyProof.Rows Evl
section
variable {P : Program} {w : World} {K : PySem.W.Frag} {mg : Str → Option Value} {base : Heap}

theorem RdL.nil {ok : Addr → Prop} {H : Hp} {n : Nat} : RdL K ok H n [] [] := ⟨rfl, fun i x d h _ => by cases h⟩
theorem RdL.cons {ok : Addr → Prop} {H : Hp} {n : Nat} {x : V} {d : PyData} {xs : List V} {ds : List PyData} (h : Rd K ok H n x d) (r : RdL K ok H n xs ds) : RdL K ok H n (x :: xs) (d :: ds) := by
  refine ⟨by rw [List.length_cons, List.length_cons, r.1], fun i y e hy he => ?_⟩
  cases i with
  | zero => cases Option.some.inj hy; cases Option.some.inj he; exact h
  | succ i => exact r.2 i y e hy he
theorem RdL.of {ok ok' : Addr → Prop} {H : Hp} {n : Nat} {xs : List V} {ds : List PyData} (w : ∀ a, ok a → ok' a) (h : RdL K ok H n xs ds) : RdL K ok' H n xs ds := ⟨h.1, fun i x d hx hd => (h.2 i x d hx hd).of w⟩
theorem RdL.get {ok : Addr → Prop} {H : Hp} {n : Nat} {xs : List V} {ds : List PyData} (r : RdL K ok H n xs ds) {i : Int} (h0 : 0 ≤ i) (h : i < (xs.length : Int)) : ∃ x d, atI xs i = some x ∧ Rd K ok H n x d := by
  obtain ⟨v, hv, hg⟩ := at_get h0 h
  have hd : ds[i.toNat]? = some (ds[i.toNat]'(by have := r.1; omega)) := List.getElem?_eq_getElem _
  exact ⟨v, _, hv, r.2 _ _ _ hg hd⟩
theorem but_fresh {H H' : Hp} {b f : Addr} {n m : Nat} (k : But b H H') (hb : BoxAt H b n) (hb2 : BoxAt H' b m) (h : H' f = none) : H f = none := by
  obtain ⟨o, ho⟩ := hb.some
  exact k.none ho h (hb2.ne h)
theorem box_ne {H : Hp} {b a : Addr} {n : Nat} (hb : BoxAt H b n) (h : H a = none) : a ≠ b := hb.ne h
def Fr (H : Hp) : Addr → Prop := fun a => H a = none
def spOdd (K : PySem.W.Frag) : Sp := fun vs H Q _ => ∃ (b : Addr) (n : Nat), vs = [.ref b] ∧ BoxAt H b (n + 2) ∧ ∀ x d H', Rd K (Fr H) H' 2 x d → BoxAt H' b n → But b H H' → Q x H'
theorem ok_law_odd (T : TK K mg) : FnOk P w K mg base CX0 2 T.law_odd.a T.law_odd.fd ["box"] (spOdd K) := by
  refine T.law_odd.F.ok sc_law_odd (fun vs H Q E h => ?_) (fun cdv A outer s H vs Q E hr h => ?_)
  · obtain ⟨b, n, rfl, _⟩ := h; rfl
  obtain ⟨b, n, rfl, hB, q⟩ := h
  refine ⟨_, (pss_cons (ps_set (i := 1) sc_law_odd.nd rfl (Or.inl rfl) (pe_lst (pa_cons pe_int (pa_cons (pe_un un_neg pe_int) (pa_cons (pe_op op_add pe_int (pe_call (ok_law_take T.toTA1) (hr.mono (by decide)) rfl T.law_take.m T.law_take.F.kp T.law_take.b .nil pass0 (pa_cons (pv 0) (pa_cons pe_int pa_nil)))) (pa_cons pe_bl (pa_cons pe_bl (pa_cons pe_non (pa_cons pe_str (pa_cons pe_str (pa_cons (pe_lst (pa_cons pe_int pa_nil)) (pa_cons (pe_tup (pa_cons pe_int pa_nil)) (pa_cons (pe_lst pa_nil) (pa_cons (pe_op op_pow pe_int pe_int) (pa_cons (pe_un un_neg (pe_op op_pow pe_int pe_int)) (pa_cons (pe_lst pa_nil) (pa_cons (pe_tup pa_nil) (pa_cons pe_int pa_nil))))))))))))))))))
    (pss_one (ps_ret (pe_ix (kixl K) (pv 1) (pe_call (ok_law_take T.toTA1) (hr.mono (by decide)) rfl T.law_take.m T.law_take.F.kp T.law_take.b .nil pass0 (pa_cons (pv 0) (pa_cons pe_int pa_nil))) (fun _ _ => rfl))))), ?_⟩
  refine ⟨1, rfl, _, rfl, b, 900, n + 1, rfl, by decide, by decide, hB, fun r0 H1 a0 a1 B1 k1 => ⟨_, _, rfl, rfl, ?_⟩⟩
  refine ⟨(by show 1 ≤ sizeLine; decide), fun p1 h1 => ⟨(by show 1 ≤ sizeLine; decide), fun p2 h2 => ⟨Nat.zero_le _, fun p3 h3 => ?_⟩⟩⟩
  refine ⟨_, _, rfl, rfl, ⟨by decide, by decide, by decide⟩, _, _, rfl, rfl, ⟨by decide, by decide, by decide⟩, _, rfl, Nat.zero_le _, fun p4 h4 => ⟨Nat.zero_le _, fun p5 h5 => ⟨(by show 16 ≤ sizeLine; decide), fun L hL => ?_⟩⟩⟩
  have y1 : Ex H1 (upd H1 p1 (.lst [.int 3])) := Ex.new h1
  have u1 : upd H1 p1 (.lst [.int 3]) p1 = some (.lst [.int 3]) := upd_same
  generalize upd H1 p1 (.lst [.int 3]) = G1 at *
  have y2 : Ex G1 (upd G1 p2 (.tup [.int 3])) := Ex.new h2
  have u2 : upd G1 p2 (.tup [.int 3]) p2 = some (.tup [.int 3]) := upd_same
  generalize upd G1 p2 (.tup [.int 3]) = G2 at *
  have y3 : Ex G2 (upd G2 p3 (.lst [])) := Ex.new h3
  have u3 : upd G2 p3 (.lst []) p3 = some (.lst []) := upd_same
  generalize upd G2 p3 (.lst []) = G3 at *
  have y4 : Ex G3 (upd G3 p4 (.lst [])) := Ex.new h4
  have u4 : upd G3 p4 (.lst []) p4 = some (.lst []) := upd_same
  generalize upd G3 p4 (.lst []) = G4 at *
  have y5 : Ex G4 (upd G4 p5 (.tup [])) := Ex.new h5
  have u5 : upd G4 p5 (.tup []) p5 = some (.tup []) := upd_same
  generalize upd G4 p5 (.tup []) = G5 at *
  have z4 := y5
  have z3 := y4.trans z4
  have z2 := y3.trans z3
  have z1 := y2.trans z2
  have z0 := y1.trans z1
  have fr : ∀ {p : Addr}, H1 p = none → H p = none := fun h => but_fresh k1 hB B1 h
  have f1 : H p1 = none := fr h1
  have f2 : H p2 = none := fr (fresh_back y1 h2)
  have f3 : H p3 = none := fr (fresh_back (y1.trans y2) h3)
  have f4 : H p4 = none := fr (fresh_back ((y1.trans y2).trans y3) h4)
  have f5 : H p5 = none := fr (fresh_back (((y1.trans y2).trans y3).trans y4) h5)
  have rdl : ∀ G, Ex G5 G → RdL K (Fr H) G 2 [.int 65, .int (-1), .int (66 + r0), .bl true, .bl false, .non, .str "3", .str "", .ref p1, .ref p2, .ref p3, .int (10 ^ (39 : Int).toNat), .int (-(10 ^ (39 : Int).toNat)), .ref p4, .ref p5, .int 0]
      [.int 65, .int (-1), .int (66 + r0), .bool true, .bool false, .none, .str "3", .str "", .list [.int 3], .tuple [.int 3], .list [], .int (10 ^ (39 : Int).toNat), .int (-(10 ^ (39 : Int).toNat)), .list [], .tuple [], .int 0] := by
    intro G e
    have one : ∀ {n : Nat} {i : Int}, RdL K (Fr H) G n [.int i] [.int i] := .cons (.int _) .nil
    refine .cons (.int _) (.cons (.int _) (.cons (.int _) (.cons (.bl _) (.cons (.bl _) (.cons .non (.cons (.str _ (by decide +kernel) (by decide +kernel)) (.cons (.str _ (by decide +kernel) (by decide +kernel)) (.cons ?_ (.cons ?_ (.cons ?_ (.cons (.int _) (.cons (.int _) (.cons ?_ (.cons ?_ (.cons (.int _) .nil)))))))))))))))
    · exact .lst (e _ _ (z1 _ _ u1)) f1 rfl (by decide) one.2
    · exact .tup (SqT.of (e _ _ (z2 _ _ u2))) f2 rfl (by decide) one.2
    · exact .lst (e _ _ (z3 _ _ u3)) f3 rfl (by decide) RdL.nil.2
    · exact .lst (e _ _ (z4 _ _ u4)) f4 rfl (by decide) RdL.nil.2
    · exact .tup (SqT.of (e _ _ u5)) f5 rfl (by decide) RdL.nil.2
  have y6 : Ex G5 (upd G5 L (.lst [.int 65, .int (-1), .int (66 + r0), .bl true, .bl false, .non, .str "3", .str "", .ref p1, .ref p2, .ref p3, .int (10 ^ (39 : Int).toNat), .int (-(10 ^ (39 : Int).toNat)), .ref p4, .ref p5, .int 0])) := Ex.new hL
  have B6 := B1.ex (z0.trans y6)
  have r6 := rdl _ y6
  refine ⟨_, rfl, _, rfl, b, 16, n, rfl, by decide, by decide, B6, fun r H8 r1 r2 B8 k8 => ?_⟩
  obtain ⟨x, d, hat, rx⟩ := r6.get r1 (show r < 16 from r2)
  have LB : L ≠ b := (B1.ex z0).ne hL
  refine ⟨_, _, _, _, rfl, rfl, SqL.of (k8 _ _ LB upd_same), hat, q x d H8 (rx.but k8 (fun a ha => box_ne hB ha)) B8 ((k1.ex (z0.trans y6)).trans k8)⟩
end
end L2.U


set_option Elab.async false
set_option linter.all false
set_option maxRecDepth 100000
set_option maxHeartbeats 4000000
namespace L2.U
open PySem PySem.Spec PyProof.Rows Evl
section
variable {P : Program} {w : World} {K : PySem.W.Frag} {mg : Str → Option Value} {base : Heap}

theorem but_mut {b D : Addr} {o : HO} {H G : Hp} (k : But b H G) (hD : H D = none) : But b H (upd G D o) := fun a u n h => by
  rw [upd_ne (ne_of_none h hD)]
  exact k a u n h
theorem box_upd {H : Hp} {b D : Addr} {n : Nat} {o : HO} (B : BoxAt H b n) (h : D ≠ b) : BoxAt (upd H D o) b n := by
  obtain ⟨d, m, c, f, hb, r⟩ := B
  exact ⟨d, m, c, f, by rw [upd_ne h.symm]; exact hb, r⟩
theorem RdL.append {ok : Addr → Prop} {H : Hp} {n : Nat} {xs ys : List V} {ds es : List PyData} (h1 : RdL K ok H n xs ds) (h2 : RdL K ok H n ys es) : RdL K ok H n (xs ++ ys) (ds ++ es) := by
  refine ⟨by rw [List.length_append, List.length_append, h1.1, h2.1], fun i x d hx hd => ?_⟩
  by_cases c : i < xs.length
  · rw [List.getElem?_append_left c] at hx
    rw [List.getElem?_append_left (by rw [← h1.1]; exact c)] at hd
    exact h1.2 i x d hx hd
  · rw [List.getElem?_append_right (by omega)] at hx
    rw [List.getElem?_append_right (by rw [← h1.1]; omega), ← h1.1] at hd
    exact h2.2 _ x d hx hd
theorem rdl_ints {ok : Addr → Prop} {H : Hp} {n : Nat} (ns : List Int) : RdL K ok H n (ns.map V.int) (ns.map PyData.int) := by
  refine ⟨by rw [List.length_map, List.length_map], fun i x d hx hd => ?_⟩
  obtain ⟨z, hz, rfl⟩ := ints_get hx
  rw [List.getElem?_map, hz] at hd
  obtain rfl := Option.some.inj hd
  exact .int z
def spParts (K : PySem.W.Frag) : Sp := fun vs H Q _ => ∃ (b : Addr) (n : Nat), vs = [.ref b] ∧ BoxAt H b (n + 12) ∧ ∀ x d H', Rd K (Fr H) H' 2 x d → BoxAt H' b n → But b H H' → Q x H'
theorem ok_law_parts (T : TK K mg) : FnOk P w K mg base CX0 2 T.law_parts.a T.law_parts.fd ["box"] (spParts K) := by
  refine T.law_parts.F.ok sc_law_parts (fun vs H Q E h => ?_) (fun cdv A outer s H vs Q E hr h => ?_)
  · obtain ⟨b, n, rfl, _⟩ := h; rfl
  obtain ⟨b, n, rfl, hB, q⟩ := h
  refine ⟨_, (pss_cons (ps_par (i := 1) (j := 2) (by rfl) sc_law_parts.nd rfl rfl (by decide) rfl rfl (pa_cons (pe_call (ok_law_take T.toTA1) (hr.mono (by decide)) rfl T.law_take.m T.law_take.F.kp T.law_take.b .nil pass0 (pa_cons (pv 0) (pa_cons pe_int pa_nil))) (pa_cons (pe_call (ok_law_take T.toTA1) (hr.mono (by decide)) rfl T.law_take.m T.law_take.F.kp T.law_take.b .nil pass0 (pa_cons (pv 0) (pa_cons pe_int pa_nil))) pa_nil)) (by rfl))
    (pss_cons (ps_setLc (i := 3) (own := [("turn", 6)]) (g := gName 6) (by rfl) sc_law_parts.nd rfl rfl (sw_true rfl rfl rfl (by decide +kernel)) (pi_range1 rfl T.z_range (pa_cons (pv 1) pa_nil)) (blkOk_by (own := [("turn", 6)]) (N := ["box", "many", "way", "found", "odd", "at", "turn"]) (sc := defScope s_law_parts) (by decide +kernel)) (fun _ _ _ _ _ => (pg_name (i := 6) sc_law_parts.nd rfl (Or.inl rfl))) (fun _ _ _ _ _ => pts_nil) (fun _ _ _ _ _ => (pe_call (ok_law_take T.toTA1) (hr.mono (by decide)) rfl T.law_take.m T.law_take.F.kp T.law_take.b .nil pass0 (pa_cons (pv 0) (pa_cons pe_int pa_nil)))))
    (pss_cut (ps_set (i := 4) sc_law_parts.nd rfl (Or.inl rfl) (pe_ix (kixl K) (pe_lst (pa_cons pe_bl (pa_cons pe_bl (pa_cons pe_non (pa_cons pe_str (pa_cons (pe_un un_neg pe_int) (pa_cons (pe_tup (pa_cons pe_int pa_nil)) (pa_cons (pe_lst (pa_cons pe_int pa_nil)) (pa_cons pe_int (pa_cons (pe_un un_neg pe_int) (pa_cons pe_str pa_nil))))))))))) (pe_call (ok_law_take T.toTA1) (hr.mono (by decide)) rfl T.law_take.m T.law_take.F.kp T.law_take.b .nil pass0 (pa_cons (pv 0) (pa_cons pe_int pa_nil))) (fun _ _ => rfl)))
    (pss_cons (ps_set (i := 5) sc_law_parts.nd rfl (Or.inl rfl) (pe_call (ok_law_take T.toTA1) (hr.mono (by decide)) rfl T.law_take.m T.law_take.F.kp T.law_take.b .nil pass0 (pa_cons (pv 0) (pa_cons (pe_op op_add (pv 1) pe_int) pa_nil))))
    (pss_cut (ps_if (pt_cmpR op_lt (pv 2) pe_int (nomark _)) (pss_one (ps_expr (pe_bm PySem.F.plainAttrs_list PySem.F.slot_list_insert PySem.F.type_list_insert mt_insert (pv 3) (pa_cons (pv 5) (pa_cons (pv 4) pa_nil))))) (pss_one (ps_if (pt_cmpR op_lt (pv 2) pe_int (nomark _)) (pss_one (ps_expr (pe_bm PySem.F.plainAttrs_list PySem.F.slot_list_insert PySem.F.type_list_insert mt_insert (pv 3) (pa_cons (pv 5) (pa_cons (pe_op op_sub (pe_op op_add pe_int (pe_callTy call_int1 (by rfl) T.z_int (by decide +kernel) (pa_cons (pe_cmpR op_eq (pv 2) pe_int (nomark _)) pa_nil))) (pe_callB (ksum K rfl) (by rfl) T.z_sum (by decide +kernel) (pa_cons (pv 3) pa_nil))) pa_nil))))) pss_nil)))
    (pss_one (ps_ret (pe_ifExp (pt_cmpR op_eq (pe_call (ok_law_take T.toTA1) (hr.mono (by decide)) rfl T.law_take.m T.law_take.F.kp T.law_take.b .nil pass0 (pa_cons (pv 0) (pa_cons pe_int pa_nil))) pe_int (nomark _)) (pe_callTy (ktuple K) (by rfl) T.z_tuple (by decide +kernel) (pa_cons (pv 3) pa_nil)) (pv 3))))))))), ?_⟩
  refine ⟨_, rfl, b, 7, n + 11, rfl, by decide, by decide, hB, fun many H1 m0 m1 B1 k1 => ?_⟩
  refine ⟨_, rfl, b, 8, n + 10, rfl, by decide, by decide, B1, fun way H2 w0 w1 B2 k2 => ?_⟩
  refine ⟨_, _, rfl, ?_⟩
  have k12 := k1.trans k2
  -- the first parts
  refine ⟨_, rfl, many, rfl, by omega, by omega, fun D hD => ?_⟩
  have Db : D ≠ b := B2.ne hD
  have D0 : H D = none := but_fresh k12 hB B2 hD
  refine lc_range (fun i H' => BoxAt H' b (n + 10 - i) ∧ But b H H' ∧ ∃ ns : List Int, H' D = some (.lst (ns.map V.int)) ∧ ns.length = i) ⟨B2.ex (Ex.new hD), k12.ex (Ex.new hD), [], upd_same, rfl⟩ ?_ ?_
  · rintro i H' hi ⟨B, kk, ns, hd, hl⟩
    obtain ⟨m, hm⟩ : ∃ m, n + 10 - i = m + 1 := ⟨n + 10 - i - 1, by omega⟩
    have hm2 : n + 10 - (i + 1) = m := by omega
    rw [hm] at B
    refine ⟨rfl, _, rfl, b, 5, m, rfl, by decide, by decide, B, fun r H5 a0 a1 B5 k5 => ⟨_, k5 _ _ Db hd, small1000 (by rw [List.length_map]; omega), ?_, but_mut (kk.trans k5) D0, ns ++ [r], by rw [upd_same, List.map_append]; rfl, by rw [List.length_append, hl]; rfl⟩⟩
    rw [hm2]
    exact box_upd B5 Db
  · rintro H3 ⟨B3', k3, ns, hd, hl⟩
    have B3 : BoxAt H3 b (n + 4) := B3'.le (by omega)
    refine ⟨fun σ' H' => ∃ x d, σ' = [some (.ref b), some (.int many), some (.int way), some (.ref D), some x, none, none] ∧ Rd K (fun a => H a = none ∧ a ≠ D) H' 1 x d ∧ BoxAt H' b (n + 3) ∧ But b H H' ∧ H' D = some (.lst (ns.map V.int)), ?_, ?_⟩
    · refine ⟨1, rfl, (by show 1 ≤ sizeLine; decide), fun p1 h1 => ⟨(by show 1 ≤ sizeLine; decide), fun p2 h2 => ⟨64, rfl, (by show 10 ≤ sizeLine; decide), fun L hL => ?_⟩⟩⟩
      have y1 : Ex H3 (upd H3 p1 (.tup [.int 1])) := Ex.new h1
      have u1 : upd H3 p1 (.tup [.int 1]) p1 = some (.tup [.int 1]) := upd_same
      have n1 : p1 ≠ D := ne_new h1 hd
      generalize upd H3 p1 (.tup [.int 1]) = G1 at *
      have y2 : Ex G1 (upd G1 p2 (.lst [.int 1])) := Ex.new h2
      have u2 : upd G1 p2 (.lst [.int 1]) p2 = some (.lst [.int 1]) := upd_same
      have n2 : p2 ≠ D := ne_new h2 (y1 _ _ hd)
      generalize upd G1 p2 (.lst [.int 1]) = G2 at *
      have f1 : H p1 = none := but_fresh k3 hB B3 h1
      have f2 : H p2 = none := but_fresh k3 hB B3 (fresh_back y1 h2)
      have rdl : ∀ G, Ex G2 G → RdL K (fun a => H a = none ∧ a ≠ D) G 1 [.bl true, .bl false, .non, .str "1", .int (-1), .ref p1, .ref p2, .int 65, .int (-64), .str ""] [.bool true, .bool false, .none, .str "1", .int (-1), .tuple [.int 1], .list [.int 1], .int 65, .int (-64), .str ""] := by
        intro G e
        have one : ∀ {n : Nat} {i : Int}, RdL K (fun a => H a = none ∧ a ≠ D) G n [.int i] [.int i] := .cons (.int _) .nil
        refine .cons (.bl _) (.cons (.bl _) (.cons .non (.cons (.str _ (by decide +kernel) (by decide +kernel)) (.cons (.int _) (.cons ?_ (.cons ?_ (.cons (.int _) (.cons (.int _) (.cons (.str _ (by decide +kernel) (by decide +kernel)) .nil)))))))))
        · exact .tup (SqT.of (e _ _ (y2 _ _ u1))) ⟨f1, n1⟩ rfl (by decide) one.2
        · exact .lst (e _ _ u2) ⟨f2, n2⟩ rfl (by decide) one.2
      have y12 := y1.trans y2
      have y6 : Ex G2 (upd G2 L (.lst [.bl true, .bl false, .non, .str "1", .int (-1), .ref p1, .ref p2, .int 65, .int (-64), .str ""])) := Ex.new hL
      have LB : L ≠ b := (B3.ex y12).ne hL
      have B6 := B3.ex (y12.trans y6)
      refine ⟨_, rfl, b, 10, n + 3, rfl, by decide, by decide, B6, fun r H8 r1 r2 B8 k8 => ?_⟩
      obtain ⟨x, d, hat, rx⟩ := (rdl _ y6).get r1 (show r < 10 from r2)
      refine ⟨_, _, _, _, rfl, rfl, SqL.of (k8 _ _ LB upd_same), hat, x, d, rfl, rx.but k8 (fun a ha => box_ne hB ha.1), B8, (k3.ex (y12.trans y6)).trans k8, k8 _ _ Db (y6 _ _ (y12 _ _ hd))⟩
    rintro σ' H4 ⟨x, d, rfl, rx, B4, k4, hd4⟩
    refine ⟨_, rfl, _, rfl, _, _, rfl, rfl, b, many + 1, n + 2, rfl, by omega, by omega, B4, fun at_ H5 a0 a1 B5 k5 => ?_⟩
    have rx5 := rx.but k5 (fun a ha => box_ne hB ha.1)
    have hd5 := k5 _ _ Db hd4
    have k45 := k4.trans k5
    refine ⟨fun σ' H' => ∃ items ds, σ' = [some (.ref b), some (.int many), some (.int way), some (.ref D), some x, some (.int at_), none] ∧ H' D = some (.lst items) ∧ RdL K (Fr H) H' 1 items ds ∧ items.length ≤ 20 ∧ BoxAt H' b (n + 2) ∧ But b H H', ?_, ?_⟩
    · have ins : ∀ (z : V) (e : PyData), Rd K (fun a => H a = none ∧ a ≠ D) H5 1 z e → RdL K (Fr H) (upd H5 D (.lst ((ns.map V.int).take at_.toNat ++ [z] ++ (ns.map V.int).drop at_.toNat))) 1 ((ns.map V.int).take at_.toNat ++ [z] ++ (ns.map V.int).drop at_.toNat) ((ns.map PyData.int).take at_.toNat ++ [e] ++ (ns.map PyData.int).drop at_.toNat) := by
        intro z e rz
        have kD : But D H5 (upd H5 D (.lst ((ns.map V.int).take at_.toNat ++ [z] ++ (ns.map V.int).drop at_.toNat))) := But.upd
        have rz' := (rz.but kD (fun a ha => ha.2)).of (ok' := Fr H) (fun a ha => ha.1)
        have key := ((rdl_ints (ns.take at_.toNat)).append (.cons rz' .nil)).append (rdl_ints (ns.drop at_.toNat))
        simp only [List.map_take, List.map_drop] at key
        exact key
      have lens : ∀ z : V, ((ns.map V.int).take at_.toNat ++ [z] ++ (ns.map V.int).drop at_.toNat).length ≤ 20 := by
        intro z
        rw [List.length_append, List.length_append, List.length_take, List.length_drop, List.length_map, List.length_singleton]
        omega
      refine ⟨_, rfl, _, _, rfl, rfl, _, rfl, ite2 (fun _ => ?_) (fun _ => ⟨_, rfl, _, _, rfl, rfl, _, rfl, ite2 (fun _ => ?_) (fun _ => ?_)⟩)⟩
      · refine ⟨_, rfl, .inl ⟨rfl, _, SqL.of hd5⟩, _, rfl, _, rfl, D, _, at_, x, rfl, rfl, hd5, small1000 (by rw [List.length_map]; omega), a0, by omega, ?_⟩
        exact ⟨_, _, rfl, upd_same, ins x d rx5, lens x, box_upd B5 Db, but_mut k45 D0⟩
      · refine ⟨_, rfl, .inl ⟨rfl, _, SqL.of hd5⟩, _, rfl, _, rfl, rfl, .inr ⟨_, rfl, _, _, rfl, rfl, _, rfl, D, ns, rfl, .inl (SqL.of hd5), _, _, rfl, rfl, D, _, at_, _, rfl, rfl, hd5, small1000 (by rw [List.length_map]; omega), a0, by omega, ?_⟩⟩
        exact ⟨_, _, rfl, upd_same, ins _ _ (.int _), lens _, box_upd B5 Db, but_mut k45 D0⟩
      · exact ⟨_, ns.map PyData.int, rfl, hd5, rdl_ints _, by rw [List.length_map]; omega, B5, k45⟩
    rintro σ' H6 ⟨items, ds, rfl, hd6, ri, li, B6, k6⟩
    refine ⟨_, rfl, b, 3, n + 1, rfl, by decide, by decide, B6, fun c H7 c0 c1 B7 k7 => ⟨rfl, _, rfl, ?_⟩⟩
    have r7 := ri.but k7 (fun a ha => box_ne hB ha)
    have hd7 := k7 _ _ Db hd6
    have k67 := k6.trans k7
    refine ite2 (fun _ => ?_) (fun _ => ?_)
    · refine ⟨_, rfl, D, items, rfl, .inl ⟨SqL.of hd7, fun l hl => ?_⟩⟩
      exact q _ (.tuple ds) _ (.tup (SqT.of upd_same) (but_fresh k67 hB B7 hl) ri.1 (by omega) (r7.ex (Ex.new hl)).2) ((B7.ex (Ex.new hl)).le (by omega)) (k67.ex (Ex.new hl))
    · exact ⟨_, rfl, q _ (.list ds) _ (.lst hd7 D0 ri.1 (by omega) r7.2) (B7.le (by omega)) k67⟩
end
end L2.U


set_option Elab.async false
set_option linter.all false
set_option maxRecDepth 100000
set_option maxHeartbeats 4000000
namespace L2.U
open PySem PySem.Spec PyProof.Rows Evl
section
variable {P : Program} {w : World} {K : PySem.W.Frag} {mg : Str → Option Value} {base : Heap}

def AskAt (K : PySem.W.Frag) (ok : Addr → Prop) (H : Hp) (t : Addr) : Prop := ∃ (kind : Int) (vt : Addr) (xs : List V) (ds : List PyData), H t = some (.tup [.int kind, .ref vt]) ∧ H vt = some (.tup xs) ∧ RdL K ok H 3 xs ds ∧ Arity kind ds.length
theorem AskAt.ex {ok : Addr → Prop} {H H' : Hp} {t : Addr} (a : AskAt K ok H t) (e : Ex H H') : AskAt K ok H' t := by
  obtain ⟨kind, vt, xs, ds, h1, h2, h3, h4⟩ := a
  exact ⟨kind, vt, xs, ds, e _ _ h1, e _ _ h2, h3.ex e, h4⟩
theorem AskAt.of {ok ok' : Addr → Prop} {H : Hp} {t : Addr} (a : AskAt K ok H t) (w : ∀ a, ok a → ok' a) : AskAt K ok' H t := by
  obtain ⟨kind, vt, xs, ds, h1, h2, h3, h4⟩ := a
  exact ⟨kind, vt, xs, ds, h1, h2, h3.of w, h4⟩
theorem AskAt.but {ok : Addr → Prop} {H H' : Hp} {t b : Addr} {ys : List V} (a : AskAt K ok H t) (hb : H b = some (.lst ys)) (k : But b H H') (w : ∀ a, ok a → a ≠ b) : AskAt K ok H' t := by
  obtain ⟨kind, vt, xs, ds, h1, h2, h3, h4⟩ := a
  exact ⟨kind, vt, xs, ds, k _ _ (ne_of h1 hb (by intro z; cases z)) h1, k _ _ (ne_of h2 hb (by intro z; cases z)) h2, h3.but k w, h4⟩
theorem box_list {H : Hp} {b : Addr} {n : Nat} (h : BoxAt H b n) : ∃ ys, H b = some (.lst ys) := by
  obtain ⟨d, m, c, f, hb, _⟩ := h
  exact ⟨_, hb⟩
def spSpoilt (K : PySem.W.Frag) : Sp := fun vs H Q _ => ∃ (b : Addr) (n : Nat), vs = [.ref b] ∧ BoxAt H b (n + 30) ∧ ∀ t H', AskAt K (Fr H) H' t → BoxAt H' b n → But b H H' → Q (.ref t) H'
theorem ok_law_spoilt (T : TK K mg) : FnOk P w K mg base CX0 3 T.law_spoilt.a T.law_spoilt.fd ["box"] (spSpoilt K) := by
  refine T.law_spoilt.F.ok sc_law_spoilt (fun vs H Q E h => ?_) (fun cdv A outer s H vs Q E hr h => ?_)
  · obtain ⟨b, n, rfl, _⟩ := h; rfl
  obtain ⟨b, n, rfl, hB, q⟩ := h
  refine ⟨_, (pss_cons (ps_par (i := 1) (j := 2) (by rfl) sc_law_spoilt.nd rfl rfl (by decide) rfl rfl (pa_cons (pe_call (ok_law_take T.toTA1) (hr.mono (by decide)) rfl T.law_take.m T.law_take.F.kp T.law_take.b .nil pass0 (pa_cons (pv 0) (pa_cons pe_int pa_nil))) (pa_cons (pe_op op_add pe_int (pe_call (ok_law_take T.toTA1) (hr.mono (by decide)) rfl T.law_take.m T.law_take.F.kp T.law_take.b .nil pass0 (pa_cons (pv 0) (pa_cons pe_int pa_nil)))) pa_nil)) (by rfl))
    (pss_cons (ps_par3 (i := 3) (j := 4) (l := 5) (by rfl) sc_law_spoilt.nd rfl rfl rfl (by decide) (by decide) (by decide) rfl rfl rfl (pa_cons (pe_call (ok_law_take T.toTA1) (hr.mono (by decide)) rfl T.law_take.m T.law_take.F.kp T.law_take.b .nil pass0 (pa_cons (pv 0) (pa_cons pe_int pa_nil))) (pa_cons (pe_op op_add pe_int (pe_call (ok_law_take T.toTA1) (hr.mono (by decide)) rfl T.law_take.m T.law_take.F.kp T.law_take.b .nil pass0 (pa_cons (pv 0) (pa_cons pe_int pa_nil)))) (pa_cons (pe_call (ok_law_take T.toTA1) (hr.mono (by decide)) rfl T.law_take.m T.law_take.F.kp T.law_take.b .nil pass0 (pa_cons (pv 0) (pa_cons pe_int pa_nil))) pa_nil))) (by rfl))
    (pss_cut (ps_if (pt_cmpR op_eq (pe_op op_mod (pe_callTy call_int1 (by rfl) T.z_int (by decide +kernel) (pa_cons (pv 2) pa_nil)) pe_int) pe_int (nomark _)) (pss_one (ps_set (i := 3) sc_law_spoilt.nd rfl (Or.inl rfl) (pe_call (ok_law_odd T) (hr.mono (by decide)) rfl T.law_odd.m T.law_odd.F.kp T.law_odd.b .nil pass0 (pa_cons (pv 0) pa_nil)))) pss_nil)
    (pss_cut (ps_if (pt_cmpR op_eq (pe_op op_mod (pe_callTy call_int1 (by rfl) T.z_int (by decide +kernel) (pa_cons (pe_op op_fdiv (pv 2) pe_int) pa_nil)) pe_int) pe_int (nomark _)) (pss_one (ps_set (i := 4) sc_law_spoilt.nd rfl (Or.inl rfl) (pe_call (ok_law_odd T) (hr.mono (by decide)) rfl T.law_odd.m T.law_odd.F.kp T.law_odd.b .nil pass0 (pa_cons (pv 0) pa_nil)))) pss_nil)
    (pss_cut (ps_if (pt_cmpR op_gt (pv 2) pe_int (nomark _)) (pss_one (ps_set (i := 5) sc_law_spoilt.nd rfl (Or.inl rfl) (pe_call (ok_law_odd T) (hr.mono (by decide)) rfl T.law_odd.m T.law_odd.F.kp T.law_odd.b .nil pass0 (pa_cons (pv 0) pa_nil)))) pss_nil)
    (pss_cons (ps_if (pt_cmpR op_eq (pv 1) pe_int (nomark _)) (pss_one (ps_ret (pe_tup (pa_cons pe_int (pa_cons (pe_tup (pa_cons (pe_ifExp (pt_cmpR op_gt (pv 2) pe_int (nomark _)) (pe_call (ok_law_parts T) (hr.mono (by decide)) rfl T.law_parts.m T.law_parts.F.kp T.law_parts.b .nil pass0 (pa_cons (pv 0) pa_nil)) (pe_call (ok_law_odd T) (hr.mono (by decide)) rfl T.law_odd.m T.law_odd.F.kp T.law_odd.b .nil pass0 (pa_cons (pv 0) pa_nil))) pa_nil)) pa_nil))))) pss_nil)
    (pss_one (ps_ret (pe_tup (pa_cons (pv 1) (pa_cons (pe_ix (kixl K) (pe_lst (pa_cons (pe_tup (pa_cons (pv 3) pa_nil)) (pa_cons (pe_tup (pa_cons (pv 3) (pa_cons (pv 4) pa_nil))) (pa_cons (pe_tup pa_nil) (pa_cons (pe_tup (pa_cons (pv 3) (pa_cons (pv 4) pa_nil))) (pa_cons (pe_tup (pa_cons (pv 3) (pa_cons (pv 4) (pa_cons (pv 5) pa_nil)))) pa_nil)))))) (pv 1) (fun _ _ => rfl)) pa_nil))))))))))), ?_⟩
  refine ⟨_, rfl, b, 5, n + 29, rfl, by decide, by decide, hB, fun kind H1 q0 q1 B1 k1 => ?_⟩
  refine ⟨_, rfl, b, 7, n + 28, rfl, by decide, by decide, B1, fun bits H2 _ _ B2 k2 => ⟨_, _, rfl, rfl, _, _, rfl, ?_⟩⟩
  refine ⟨_, rfl, b, 65, n + 27, rfl, by decide, by decide, B2, fun number H3 _ _ B3 k3 => ?_⟩
  refine ⟨_, rfl, b, 64, n + 26, rfl, by decide, by decide, B3, fun many H4 _ _ B4 k4 => ⟨_, _, rfl, rfl, ?_⟩⟩
  refine ⟨_, rfl, b, 65, n + 25, rfl, by decide, by decide, B4, fun rest H5 _ _ B5 k5 => ⟨_, _, _, rfl, ?_⟩⟩
  have kk5 := (((k1.trans k2).trans k3).trans k4).trans k5
  have odd : ∀ {G G' : Hp} {m : Nat} {x : V} {d : PyData}, But b H G → BoxAt G b m → Rd K (Fr G) G' 2 x d → Rd K (Fr H) G' 2 x d := fun k B r => r.of fun a ha => but_fresh k hB B ha
  refine ⟨fun σ' H' => ∃ x dx, σ' = [some (.ref b), some (.int kind), some (.int (1 + bits)), some x, some (.int (1 + many)), some (.int rest)] ∧ Rd K (Fr H) H' 2 x dx ∧ BoxAt H' b (n + 20) ∧ But b H H', ?_, ?_⟩
  · refine ⟨_, rfl, .inl ⟨_, rfl, _, _, rfl, rfl, (by show (0 : Int) < 2; decide), rfl, _, rfl, ite2 (fun _ => ?_) (fun _ => ?_)⟩⟩
    · exact ⟨_, rfl, b, n + 23, rfl, B5, fun x d H' rx B k => ⟨x, d, rfl, odd kk5 B5 rx, B.le (by omega), kk5.trans k⟩⟩
    · exact ⟨_, _, rfl, .int _, B5.le (by omega), kk5⟩
  rintro σ' H6 ⟨x, dx, rfl, rx, B6, k6⟩
  refine ⟨fun σ' H' => ∃ x dx y dy, σ' = [some (.ref b), some (.int kind), some (.int (1 + bits)), some x, some y, some (.int rest)] ∧ Rd K (Fr H) H' 2 x dx ∧ Rd K (Fr H) H' 2 y dy ∧ BoxAt H' b (n + 18) ∧ But b H H', ?_, ?_⟩
  · refine ⟨_, rfl, _, _, rfl, rfl, ⟨by decide, by decide⟩, .inl ⟨_, rfl, _, _, rfl, rfl, (by show (0 : Int) < 2; decide), rfl, _, rfl, ite2 (fun _ => ?_) (fun _ => ?_)⟩⟩
    · exact ⟨_, rfl, b, n + 18, rfl, B6, fun y d H' ry B k => ⟨x, dx, y, d, rfl, rx.but k (fun a ha => box_ne hB ha), odd k6 B6 ry, B, k6.trans k⟩⟩
    · exact ⟨x, dx, _, _, rfl, rx, .int _, B6.le (by omega), k6⟩
  rintro σ' H7 ⟨x, dx, y, dy, rfl, rx, ry, B7, k7⟩
  refine ⟨fun σ' H' => ∃ x dx y dy z dz, σ' = [some (.ref b), some (.int kind), some (.int (1 + bits)), some x, some y, some z] ∧ Rd K (Fr H) H' 2 x dx ∧ Rd K (Fr H) H' 2 y dy ∧ Rd K (Fr H) H' 2 z dz ∧ BoxAt H' b (n + 16) ∧ But b H H', ?_, ?_⟩
  · refine ⟨_, rfl, _, _, rfl, rfl, _, rfl, ite2 (fun _ => ?_) (fun _ => ?_)⟩
    · exact ⟨_, rfl, b, n + 16, rfl, B7, fun z d H' rz B k => ⟨x, dx, y, dy, z, d, rfl, rx.but k (fun a ha => box_ne hB ha), ry.but k (fun a ha => box_ne hB ha), odd k7 B7 rz, B, k7.trans k⟩⟩
    · exact ⟨x, dx, y, dy, _, _, rfl, rx, ry, .int _, B7.le (by omega), k7⟩
  rintro σ' H8 ⟨x, dx, y, dy, z, dz, rfl, rx, ry, rz, B8, k8⟩
  refine ⟨_, rfl, rfl, _, rfl, ?_⟩
  by_cases c2 : kind = 2
  · subst c2
    refine iteT ?_
    have out : ∀ {G : Hp} {v : V} {d : PyData} {m : Nat}, Rd K (Fr H) G 2 v d → BoxAt G b (m + n) → But b H G → 1 ≤ sizeLine ∧ ∀ p, G p = none → 2 ≤ sizeLine ∧ ∀ t, (upd G p (.tup [v])) t = none → Q (.ref t) (upd (upd G p (.tup [v])) t (.tup [.int 2, .ref p])) := by
      intro G v d m rv B k
      refine ⟨by decide, fun p hp => ⟨by decide, fun t ht => ?_⟩⟩
      have e1 := Ex.new (o := .tup [v]) hp
      have e2 := e1.trans (Ex.new (o := .tup [.int 2, .ref p]) ht)
      exact q t _ ⟨2, p, [v], [d], upd_same, (Ex.new ht) _ _ upd_same, .cons ((rv.ex e2).le (by decide)) .nil, .inr (.inr (.inl ⟨rfl, rfl⟩))⟩ ((B.ex e2).le (by omega)) (k.ex e2)
    refine ⟨_, rfl, _, _, rfl, rfl, _, rfl, ite2 (fun _ => ?_) (fun _ => ?_)⟩
    · exact ⟨_, rfl, b, n + 4, rfl, B8, fun v d H' rv B k => out (m := 4) (rv.of fun a ha => but_fresh k8 hB B8 ha) (B.le (by omega)) (k8.trans k)⟩
    · exact ⟨_, rfl, b, n + 14, rfl, B8, fun v d H' rv B k => out (m := 14) (odd k8 B8 rv) (B.le (by omega)) (k8.trans k)⟩
  · rw [show decide (V.int kind = V.int 2) = false from decide_eq_false fun z => c2 (V.int.inj z)]
    refine iteF ?_
    refine ⟨_, rfl, _, rfl, (by show 1 ≤ sizeLine; decide), fun p1 h1 => ⟨_, rfl, _, rfl, two_le, fun p2 h2 => ⟨Nat.zero_le _, fun p3 h3 => ⟨_, rfl, _, rfl, two_le, fun p4 h4 => ⟨_, rfl, _, rfl, _, rfl, (by show 3 ≤ sizeLine; decide), fun p5 h5 => ⟨(by show 5 ≤ sizeLine; decide), fun L hL => ?_⟩⟩⟩⟩⟩⟩
    have y1 : Ex H8 (upd H8 p1 (.tup [x])) := Ex.new h1
    have u1 : upd H8 p1 (.tup [x]) p1 = some (.tup [x]) := upd_same
    generalize upd H8 p1 (.tup [x]) = G1 at *
    have y2 : Ex G1 (upd G1 p2 (.tup [x, y])) := Ex.new h2
    have u2 : upd G1 p2 (.tup [x, y]) p2 = some (.tup [x, y]) := upd_same
    generalize upd G1 p2 (.tup [x, y]) = G2 at *
    have y3 : Ex G2 (upd G2 p3 (.tup [])) := Ex.new h3
    generalize upd G2 p3 (.tup []) = G3 at *
    have y4 : Ex G3 (upd G3 p4 (.tup [x, y])) := Ex.new h4
    have u4 : upd G3 p4 (.tup [x, y]) p4 = some (.tup [x, y]) := upd_same
    generalize upd G3 p4 (.tup [x, y]) = G4 at *
    have y5 : Ex G4 (upd G4 p5 (.tup [x, y, z])) := Ex.new h5
    have u5 : upd G4 p5 (.tup [x, y, z]) p5 = some (.tup [x, y, z]) := upd_same
    generalize upd G4 p5 (.tup [x, y, z]) = G5 at *
    have y6 : Ex G5 (upd G5 L (.lst [.ref p1, .ref p2, .ref p3, .ref p4, .ref p5])) := Ex.new hL
    have u6 : upd G5 L (.lst [.ref p1, .ref p2, .ref p3, .ref p4, .ref p5]) L = some (.lst [.ref p1, .ref p2, .ref p3, .ref p4, .ref p5]) := upd_same
    generalize upd G5 L (.lst [.ref p1, .ref p2, .ref p3, .ref p4, .ref p5]) = G6 at *
    have z5 := y6
    have z4 := y5.trans z5
    have z3 := y4.trans z4
    have z2 := y3.trans z3
    have z1 := y2.trans z2
    have z0 := y1.trans z1
    have rx6 := (rx.ex z0).le (show 2 ≤ 3 by decide)
    have ry6 := (ry.ex z0).le (show 2 ≤ 3 by decide)
    have rz6 := (rz.ex z0).le (show 2 ≤ 3 by decide)
    have B9 : BoxAt G6 b n := (B8.ex z0).le (by omega)
    have fin : ∀ (vt : Addr) (xs : List V) (ds : List PyData), G6 vt = some (.tup xs) → RdL K (Fr H) G6 3 xs ds → Arity kind ds.length → 2 ≤ sizeLine ∧ ∀ t, G6 t = none → Q (.ref t) (upd G6 t (.tup [.int kind, .ref vt])) := by
      intro vt xs ds hv r ar
      refine ⟨two_le, fun t ht => ?_⟩
      have e := Ex.new (o := .tup [.int kind, .ref vt]) ht
      exact q t _ ⟨kind, vt, xs, ds, upd_same, e _ _ hv, r.ex e, ar⟩ (B9.ex e) (k8.ex (z0.trans e))
    rcases (by omega : kind = 0 ∨ kind = 1 ∨ kind = 3 ∨ kind = 4) with rfl | rfl | rfl | rfl
    · exact ⟨_, rfl, _, _, _, _, rfl, rfl, SqL.of u6, rfl, fin p1 [x] [dx] (z1 _ _ u1) (.cons rx6 .nil) (.inl ⟨rfl, rfl⟩)⟩
    · exact ⟨_, rfl, _, _, _, _, rfl, rfl, SqL.of u6, rfl, fin p2 [x, y] [dx, dy] (z2 _ _ u2) (.cons rx6 (.cons ry6 .nil)) (.inr (.inl ⟨rfl, rfl⟩))⟩
    · exact ⟨_, rfl, _, _, _, _, rfl, rfl, SqL.of u6, rfl, fin p4 [x, y] [dx, dy] (z4 _ _ u4) (.cons rx6 (.cons ry6 .nil)) (.inr (.inr (.inr (.inl ⟨rfl, rfl⟩))))⟩
    · exact ⟨_, rfl, _, _, _, _, rfl, rfl, SqL.of u6, rfl, fin p5 [x, y, z] [dx, dy, dz] (z5 _ _ u5) (.cons rx6 (.cons ry6 (.cons rz6 .nil))) (.inr (.inr (.inr (.inr ⟨rfl, rfl⟩))))⟩
theorem ask_ints {ok : Addr → Prop} {H : Hp} {t vt : Addr} {i j k : Int} (ht : H t = some (.tup [.int 4, .ref vt])) (hv : H vt = some (.tup [.int i, .int j, .int k])) : AskAt K ok H t :=
  ⟨4, vt, _, [.int i, .int j, .int k], ht, hv, .cons (.int _) (.cons (.int _) (.cons (.int _) .nil)), .inr (.inr (.inr (.inr ⟨rfl, rfl⟩)))⟩
theorem fin_ask {H : Hp} {b : Addr} {n m : Nat} {Q : VK} (hB : BoxAt H b m) (q : ∀ t H', AskAt K (fun _ => False) H' t → BoxAt H' b n → But b H H' → Q (.ref t) H') :
    ∀ (G : Hp) (k : Nat), BoxAt G b n → But b H G → ∀ i j l : Int, 3 ≤ sizeLine ∧ ∀ vt, G vt = none → 2 ≤ sizeLine ∧ ∀ t, (upd G vt (.tup [.int i, .int j, .int l])) t = none → Q (.ref t) (upd (upd G vt (.tup [.int i, .int j, .int l])) t (.tup [.int 4, .ref vt])) := by
  intro G _ B k i j l
  refine ⟨by decide, fun vt hv => ⟨by decide, fun t ht => ?_⟩⟩
  have e2 := (Ex.new (o := .tup [.int i, .int j, .int l]) hv).trans (Ex.new (o := .tup [.int 4, .ref vt]) ht)
  exact q t _ (ask_ints upd_same ((Ex.new ht) _ _ upd_same)) (B.ex e2) (k.ex e2)
def spWish (K : PySem.W.Frag) : Sp := fun vs H Q _ => ∃ (b : Addr) (n : Nat), vs = [.ref b, .int 20] ∧ BoxAt H b (n + 10) ∧ ∀ t H', AskAt K (fun _ => False) H' t → BoxAt H' b n → But b H H' → Q (.ref t) H'
theorem ok_law_wish (T : TK K mg) : FnOk P w K mg base CX0 2 T.law_wish.a T.law_wish.fd ["box", "most"] (spWish K) := by
  refine T.law_wish.F.ok sc_law_wish (fun vs H Q E h => ?_) (fun cdv A outer s H vs Q E hr h => ?_)
  · obtain ⟨b, n, rfl, _⟩ := h; rfl
  obtain ⟨b, n, rfl, hB, q⟩ := h
  refine ⟨_, (pss_cons (ps_set (i := 2) sc_law_wish.nd rfl (Or.inl rfl) (pe_call (ok_law_take T.toTA1) (hr.mono (by decide)) rfl T.law_take.m T.law_take.F.kp T.law_take.b .nil pass0 (pa_cons (pv 0) (pa_cons (pe_op op_add (pv 1) pe_int) pa_nil))))
    (pss_cons (ps_par (i := 3) (j := 4) (by rfl) sc_law_wish.nd rfl rfl (by decide) rfl rfl (pa_cons (pe_call (ok_law_take T.toTA1) (hr.mono (by decide)) rfl T.law_take.m T.law_take.F.kp T.law_take.b .nil pass0 (pa_cons (pv 0) (pa_cons (pe_op op_add (pv 2) pe_int) pa_nil))) (pa_cons (pe_call (ok_law_take T.toTA1) (hr.mono (by decide)) rfl T.law_take.m T.law_take.F.kp T.law_take.b .nil pass0 (pa_cons (pv 0) (pa_cons pe_int pa_nil))) pa_nil)) (by rfl))
    (pss_cons (ps_set (i := 5) sc_law_wish.nd rfl (Or.inl rfl) (pe_ix (kixl K) (pe_lst (pa_cons pe_int (pa_cons (pe_callB (call_max2 rfl) (by rfl) T.z_max (by decide +kernel) (pa_cons pe_int (pa_cons (pe_op op_sub (pv 2) (pv 3)) pa_nil))) (pa_cons (pe_op op_add (pe_op op_sub (pv 2) (pv 3)) pe_int) (pa_cons (pe_op op_add pe_int (pe_call (ok_law_take T.toTA1) (hr.mono (by decide)) rfl T.law_take.m T.law_take.F.kp T.law_take.b .nil pass0 (pa_cons (pv 0) (pa_cons (pe_op op_add (pv 2) pe_int) pa_nil)))) (pa_cons pe_int (pa_cons (pe_op op_add pe_int (pe_call (ok_law_take T.toTA1) (hr.mono (by decide)) rfl T.law_take.m T.law_take.F.kp T.law_take.b .nil pass0 (pa_cons (pv 0) (pa_cons pe_int pa_nil)))) pa_nil))))))) (pv 4) (fun _ _ => rfl)))
    (pss_one (ps_ret (pe_tup (pa_cons pe_int (pa_cons (pe_tup (pa_cons (pv 2) (pa_cons (pe_callB (call_min2 rfl) (by rfl) T.z_min (by decide +kernel) (pa_cons pe_int (pa_cons (pv 5) pa_nil))) (pa_cons (pe_ifExp (pt_cmpR op_gt (pe_call (ok_law_take T.toTA1) (hr.mono (by decide)) rfl T.law_take.m T.law_take.F.kp T.law_take.b .nil pass0 (pa_cons (pv 0) (pa_cons pe_int pa_nil))) pe_int (nomark _)) (pv 3) (pe_op op_add (pv 2) (pe_call (ok_law_take T.toTA1) (hr.mono (by decide)) rfl T.law_take.m T.law_take.F.kp T.law_take.b .nil pass0 (pa_cons (pv 0) (pa_cons pe_int pa_nil))))) pa_nil)))) pa_nil)))))))), ?_⟩
  refine ⟨_, rfl, _, rfl, _, _, rfl, rfl, b, 21, n + 9, rfl, by decide, by decide, hB, fun total H1 t0 t1 B1 k1 => ?_⟩
  refine ⟨_, rfl, _, rfl, _, _, rfl, rfl, b, total + 1, n + 8, rfl, by omega, by omega, B1, fun rest H2 r0 r1 B2 k2 => ?_⟩
  refine ⟨_, rfl, b, 6, n + 7, rfl, by decide, by decide, B2, fun way H3 w0 w1 B3 k3 => ⟨_, _, rfl, ?_⟩⟩
  have kk3 := (k1.trans k2).trans k3
  have fin := fin_ask (K := K) hB q
  refine ⟨_, rfl, _, rfl, _, _, rfl, rfl, _, _, rfl, _, rfl, _, rfl, _, _, rfl, rfl, _, _, rfl, rfl, _, rfl, _, rfl, _, _, rfl, rfl, b, total + 1, n + 6, rfl, by omega, by omega, B3, fun r4 H4 _ _ B4 k4 => ⟨_, _, rfl, rfl, ?_⟩⟩
  refine ⟨_, rfl, b, 4, n + 5, rfl, by decide, by decide, B4, fun r5 H5 _ _ B5 k5 => ⟨_, _, rfl, rfl, (by show 6 ≤ sizeLine; decide), fun L hL => ?_⟩⟩
  have e6 := Ex.new (o := .lst ([1, (if total - rest > 1 then total - rest else 1), total - rest + 1, 1 + r4, 2, 1 + r5].map V.int)) hL
  obtain ⟨v, hv, hg⟩ := at_get (xs := [1, (if total - rest > 1 then total - rest else 1), total - rest + 1, 1 + r4, 2, 1 + r5].map V.int) w0 (by show way < 6; exact w1)
  obtain ⟨rounds, _, rfl⟩ := ints_get hg
  refine ⟨_, rfl, _, _, _, _, rfl, rfl, SqL.of upd_same, hv, ?_⟩
  have B6 := B5.ex e6
  have kk6 := ((kk3.trans k4).trans k5).ex e6
  refine ⟨_, rfl, _, rfl, _, _, rfl, ?_⟩
  refine ⟨_, rfl, b, 6, n + 4, rfl, by decide, by decide, B6, fun c H6 _ _ B7 k7 => ⟨_, _, rfl, rfl, _, rfl, ite2 (fun _ => ?_) (fun _ => ?_)⟩⟩
  · exact ⟨_, rfl, fin _ 0 (B7.le (by omega)) (kk6.trans k7) _ _ _⟩
  · exact ⟨_, rfl, _, rfl, b, 3, n + 3, rfl, by decide, by decide, B7, fun d H7 _ _ B8 k8 => ⟨_, _, rfl, rfl, fin _ 0 (B8.le (by omega)) ((kk6.trans k7).trans k8) _ _ _⟩⟩
def spGreat (K : PySem.W.Frag) : Sp := fun vs H Q _ => ∃ (b : Addr) (n : Nat), vs = [.ref b] ∧ BoxAt H b (n + 10) ∧ ∀ t H', AskAt K (fun _ => False) H' t → BoxAt H' b n → But b H H' → Q (.ref t) H'
theorem ok_law_great (T : TK K mg) : FnOk P w K mg base CX0 2 T.law_great.a T.law_great.fd ["box"] (spGreat K) := by
  refine T.law_great.F.ok sc_law_great (fun vs H Q E h => ?_) (fun cdv A outer s H vs Q E hr h => ?_)
  · obtain ⟨b, n, rfl, _⟩ := h; rfl
  obtain ⟨b, n, rfl, hB, q⟩ := h
  refine ⟨_, (pss_cons (ps_par (i := 1) (j := 2) (by rfl) sc_law_great.nd rfl rfl (by decide) rfl rfl (pa_cons (pe_op op_add pe_int (pe_call (ok_law_take T.toTA1) (hr.mono (by decide)) rfl T.law_take.m T.law_take.F.kp T.law_take.b .nil pass0 (pa_cons (pv 0) (pa_cons pe_int pa_nil)))) (pa_cons (pe_call (ok_law_take T.toTA1) (hr.mono (by decide)) rfl T.law_take.m T.law_take.F.kp T.law_take.b .nil pass0 (pa_cons (pv 0) (pa_cons pe_int pa_nil))) pa_nil)) (by rfl))
    (pss_cons (ps_set (i := 3) sc_law_great.nd rfl (Or.inl rfl) (pe_ifExp (pt_cmpR op_lt (pv 2) pe_int (nomark _)) (pe_call (ok_law_take T.toTA1) (hr.mono (by decide)) rfl T.law_take.m T.law_take.F.kp T.law_take.b .nil pass0 (pa_cons (pv 0) (pa_cons (pe_op op_add (pv 1) pe_int) pa_nil))) (pe_call (ok_law_take T.toTA1) (hr.mono (by decide)) rfl T.law_take.m T.law_take.F.kp T.law_take.b .nil pass0 (pa_cons (pv 0) (pa_cons pe_int pa_nil)))))
    (pss_cons (ps_set (i := 4) sc_law_great.nd rfl (Or.inl rfl) (pe_op op_sub (pv 1) (pv 3)))
    (pss_cons (ps_set (i := 5) sc_law_great.nd rfl (Or.inl rfl) (pe_op op_add pe_int (pe_call (ok_law_take T.toTA1) (hr.mono (by decide)) rfl T.law_take.m T.law_take.F.kp T.law_take.b .nil pass0 (pa_cons (pv 0) (pa_cons (pe_callB (call_max2 rfl) (by rfl) T.z_max (by decide +kernel) (pa_cons pe_int (pa_cons (pv 4) pa_nil))) pa_nil)))))
    (pss_one (ps_ret (pe_tup (pa_cons pe_int (pa_cons (pe_tup (pa_cons (pv 1) (pa_cons (pe_ifExp (pt_cmpR op_eq (pv 2) pe_int (nomark _)) (pe_callB (call_min2 rfl) (by rfl) T.z_min (by decide +kernel) (pa_cons pe_int (pa_cons (pe_op op_add (pv 4) pe_int) pa_nil))) (pv 5)) (pa_cons (pv 3) pa_nil)))) pa_nil))))))))), ?_⟩
  refine ⟨_, rfl, b, 44, n + 9, rfl, by decide, by decide, hB, fun total H1 t0 t1 B1 k1 => ⟨_, _, rfl, rfl, ?_⟩⟩
  refine ⟨_, rfl, b, 8, n + 8, rfl, by decide, by decide, B1, fun way H2 w0 w1 B2 k2 => ⟨_, _, rfl, ?_⟩⟩
  have kk2 := k1.trans k2
  have fin := fin_ask (K := K) hB q
  refine ⟨_, rfl, _, _, rfl, rfl, _, rfl, ite2 (fun _ => ?_) (fun _ => ?_)⟩
  · refine ⟨_, rfl, _, rfl, _, _, rfl, rfl, b, 21 + total + 1, n + 7, rfl, by omega, by omega, B2, fun rest H3 _ r1 B3 k3 => ?_⟩
    have kk3 := kk2.trans k3
    refine ⟨_, rfl, _, rfl, _, _, rfl, rfl, _, rfl, _, rfl, _, _, rfl, b, (if 21 + total - rest > 1 then 21 + total - rest else 1), n + 6, rfl, ?_, ?_, B3, fun rr H4 _ _ B4 k4 => ⟨_, _, rfl, rfl, ?_⟩⟩
    · split <;> omega
    · split <;> omega
    refine ⟨_, rfl, _, rfl, rfl, _, rfl, ite2 (fun _ => ?_) (fun _ => ?_)⟩
    · exact ⟨_, rfl, _, _, rfl, rfl, _, _, rfl, _, rfl, fin _ 0 (B4.le (by omega)) (kk3.trans k4) _ _ _⟩
    · exact ⟨_, rfl, _, rfl, fin _ 0 (B4.le (by omega)) (kk3.trans k4) _ _ _⟩
  · refine ⟨_, rfl, b, 7, n + 7, rfl, by decide, by decide, B2, fun rest H3 _ r1 B3 k3 => ?_⟩
    have kk3 := kk2.trans k3
    refine ⟨_, rfl, _, rfl, _, _, rfl, rfl, _, rfl, _, rfl, _, _, rfl, b, (if 21 + total - rest > 1 then 21 + total - rest else 1), n + 6, rfl, ?_, ?_, B3, fun rr H4 _ _ B4 k4 => ⟨_, _, rfl, rfl, ?_⟩⟩
    · split <;> omega
    · split <;> omega
    refine ⟨_, rfl, _, rfl, rfl, _, rfl, ite2 (fun _ => ?_) (fun _ => ?_)⟩
    · exact ⟨_, rfl, _, _, rfl, rfl, _, _, rfl, _, rfl, fin _ 0 (B4.le (by omega)) (kk3.trans k4) _ _ _⟩
    · exact ⟨_, rfl, _, rfl, fin _ 0 (B4.le (by omega)) (kk3.trans k4) _ _ _⟩
end
end L2.U


set_option Elab.async false
set_option linter.all false
set_option maxRecDepth 100000
set_option maxHeartbeats 4000000
namespace L2.U
open PySem PySem.Spec PyProof.Rows Evl

section
variable {P : Program} {w : World} {K : PySem.W.Frag} {mg : Str → Option Value} {base : Heap}

theorem kpg_tup (K : PySem.W.Frag) {X : Cx} {pos : Pos} {es : List Expr} {k : Nat} {t : TGs} {n : Nat} (hc : X.calm = true) (h : PGs X es t) (hK : X.K = K := by rfl)
    (hn : (assignEach es X.env).length = n := by rfl) (hst : (assignEach es X.env).findIdx? (·.1) = none := by rfl) : PG X (.Tuple es k pos) (gTup K n t) := by
  subst hK
  exact pg_tup hc h hn hst
structure Aj (K : PySem.W.Frag) (H1 : Hp) (b A : Addr) (n : Nat) (ts : List Addr) (H : Hp) : Prop where
  box : BoxAt H b n
  b0 : H1 b = none
  A0 : H1 A = none
  ex : Ex H1 H
  dir : H A = some (.lst (ts.map V.ref))
  ne : A ≠ b
  all : ∀ t ∈ ts, AskAt K (fun a => a ≠ b ∧ a ≠ A) H t
section
variable {H1 H H' : Hp} {b A : Addr} {n m : Nat} {ts us : List Addr}
theorem Aj.exx (j : Aj K H1 b A n ts H) (e : Ex H H') : Aj K H1 b A n ts H' := ⟨j.box.ex e, j.b0, j.A0, j.ex.trans e, e _ _ j.dir, j.ne, fun t ht => (j.all t ht).ex e⟩
theorem Aj.le (j : Aj K H1 b A n ts H) (h : m ≤ n) : Aj K H1 b A m ts H := ⟨j.box.le h, j.b0, j.A0, j.ex, j.dir, j.ne, j.all⟩
theorem Aj.but (j : Aj K H1 b A n ts H) (B : BoxAt H' b m) (k : But b H H') : Aj K H1 b A m ts H' := by
  obtain ⟨ys, hb⟩ := box_list j.box
  exact ⟨B, j.b0, j.A0, fun a o h => k a o (ne_of_none h j.b0) (j.ex a o h), k _ _ j.ne j.dir, j.ne, fun t ht => (j.all t ht).but hb k fun a ha => ha.1⟩
theorem Aj.add (j : Aj K H1 b A n ts H) (h : ∀ t ∈ us, AskAt K (fun a => a ≠ b ∧ a ≠ A) H t) {xs : List V} (hx : xs = (ts ++ us).map V.ref) : Aj K H1 b A n (ts ++ us) (upd H A (.lst xs)) := by
  have kA : But A H (upd H A (.lst xs)) := But.upd
  refine ⟨box_upd j.box j.ne, j.b0, j.A0, j.ex.mut j.A0, by rw [upd_same, hx], j.ne, fun t ht => ?_⟩
  rcases List.mem_append.mp ht with h' | h'
  · exact (j.all t h').but j.dir kA fun a ha => ha.2
  · exact (h t h').but j.dir kA fun a ha => ha.2
end
theorem mm (L : Int) : 1 ≤ (if (if L < 2 then L else 2) > 1 then (if L < 2 then L else 2) else 1) ∧ (if (if L < 2 then L else 2) > 1 then (if L < 2 then L else 2) else 1) ≤ 2 := by
  by_cases c : L < 2
  · rw [if_pos c]; split <;> omega
  · rw [if_neg c]; split <;> omega
def DueAt (K : PySem.W.Frag) (ok : Addr → Prop) (G H : Hp) (t : Addr) (v : V) : Prop := ∃ (kind : Int) (vt : Addr) (xs : List V) (ds : List PyData), G t = some (.tup [.int kind, .ref vt]) ∧ G vt = some (.tup xs) ∧ RdL K ok G 3 xs ds ∧ Arity kind ds.length ∧ Due H kind xs ds v
theorem Due.butL {H H' : Hp} {D : Addr} {ys : List V} {kind : Int} {xs : List V} {ds : List PyData} {v : V} (h : Due H kind xs ds v) (hD : H D = some (.lst ys)) (k : But D H H') : Due H' kind xs ds v := by
  have ne : ∀ {t : Addr} {zs : List V}, H t = some (.tup zs) → t ≠ D := fun ht => ne_of ht hD (by intro z; cases z)
  cases h with
  | none h h4 => exact .none h h4
  | bad h hx ht => exact .bad h hx (k _ _ (ne ht) ht)
  | done h h4 ht => exact .done h h4 (k _ _ (ne ht) ht)
def spLaw (K : PySem.W.Frag) : Sp := fun vs H Q _ => ∃ (a : Addr) (ns : List Int), vs = [.ref a] ∧ SqL K H a (ns.map V.int) ∧ ns.length ≤ 63 ∧ ∀ H', Q (.bl true) H'
theorem ok_law (T : TK K mg) : FnOk P w K mg base CX0 11 T.law.a T.law.fd ["script"] (spLaw K) := by
  refine T.law.F.ok sc_law (fun vs H Q E h => ?_) (fun cdv A outer s H vs Q E hr h => ?_)
  · obtain ⟨a, ns, rfl, _⟩ := h; rfl
  obtain ⟨a, ns, rfl, hS, h63, q⟩ := h
  refine ⟨_, (pss_cons (ps_set (i := 1) sc_law.nd rfl (Or.inr rfl) (pe_call (ok_law_triangle T) (hr.mono (by decide)) rfl T.law_triangle.m T.law_triangle.F.kp T.law_triangle.b .nil pass0 (pa_cons pe_int pa_nil)))
    (pss_cons (ps_for PassesOwn.never rfl (pi_range1 rfl T.z_range (pa_cons (pe_callB (call_max2 rfl) (by rfl) T.z_max (by decide +kernel) (pa_cons pe_int (pa_cons (pe_callB (call_min2 rfl) (by rfl) T.z_min (by decide +kernel) (pa_cons pe_int (pa_cons (pe_callB (klen K) (by rfl) T.z_len (by decide +kernel) (pa_cons (pv 0) pa_nil)) pa_nil))) pa_nil))) pa_nil)) (pg_name (i := 2) sc_law.nd rfl (Or.inl rfl)) (pss_cons (ps_set (i := 3) sc_law.nd rfl (Or.inr rfl) (pe_call (ok_law_box T.toTA1) (hr.mono (by decide)) rfl T.law_box.m T.law_box.F.kp T.law_box.b .nil pass0 (pa_cons (pe_call (ok_law_cell T.toTA1) (hr.mono (by decide)) rfl T.law_cell.m T.law_cell.F.kp T.law_cell.b .nil pass0 (pa_cons (pv 0) (pa_cons (pv 2) pa_nil))) pa_nil)))
    (pss_cons (ps_par (i := 4) (j := 5) (by rfl) sc_law.nd rfl rfl (by decide) rfl rfl (pa_cons (pe_call (ok_law_take T.toTA1) (hr.mono (by decide)) rfl T.law_take.m T.law_take.F.kp T.law_take.b .nil pass0 (pa_cons (pv 3) (pa_cons pe_int pa_nil))) (pa_cons (pe_cmpR op_eq (pe_call (ok_law_take T.toTA1) (hr.mono (by decide)) rfl T.law_take.m T.law_take.F.kp T.law_take.b .nil pass0 (pa_cons (pv 3) (pa_cons pe_int pa_nil))) pe_int (nomark _)) pa_nil)) (by rfl))
    (pss_cons (ps_set (i := 7) sc_law.nd rfl (Or.inl rfl) (pe_op op_cat (pe_lc (own := [("turn", 6)]) (g := gName 6) (by rfl) sc_law.nd (pi_range1 rfl T.z_range (pa_cons pe_int pa_nil)) (blkOk_by (own := [("turn", 6)]) (N := ["script", "triangle", "k", "box", "named", "great", "turn", "asked", "dues", "at", "kind", "values"]) (sc := defScope s_law) (by decide +kernel)) (fun _ _ _ _ _ => (pg_name (i := 6) sc_law.nd rfl (Or.inl rfl))) (fun _ _ _ _ _ => pts_nil) (fun _ _ _ _ _ => (pe_call (ok_law_wish T) (hr.mono (by decide)) rfl T.law_wish.m T.law_wish.F.kp T.law_wish.b .nil pass0 (pa_cons (pv 3) (pa_cons pe_int pa_nil))))) (pe_lst (pa_cons (pe_call (ok_law_great T) (hr.mono (by decide)) rfl T.law_great.m T.law_great.F.kp T.law_great.b .nil pass0 (pa_cons (pv 3) pa_nil)) pa_nil))))
    (pss_cut (ps_if (pt_val (pv 5)) (pss_cons (ps_expr (pe_bm PySem.F.plainAttrs_list PySem.F.slot_list_append PySem.F.type_list_append mt_append (pv 7) (pa_cons (pe_ix (kixl K) (pe_lst (pa_cons (pe_tup (pa_cons pe_int (pa_cons (pe_tup (pa_cons pe_int (pa_cons (pe_op op_add pe_int (pe_call (ok_law_take T.toTA1) (hr.mono (by decide)) rfl T.law_take.m T.law_take.F.kp T.law_take.b .nil pass0 (pa_cons (pv 3) (pa_cons pe_int pa_nil)))) (pa_cons (pe_call (ok_law_take T.toTA1) (hr.mono (by decide)) rfl T.law_take.m T.law_take.F.kp T.law_take.b .nil pass0 (pa_cons (pv 3) (pa_cons pe_int pa_nil))) pa_nil)))) pa_nil))) (pa_cons (pe_tup (pa_cons pe_int (pa_cons (pe_tup (pa_cons pe_int (pa_cons pe_int (pa_cons pe_int pa_nil)))) pa_nil))) (pa_cons (pe_tup (pa_cons pe_int (pa_cons (pe_tup (pa_cons pe_int (pa_cons pe_int (pa_cons pe_int pa_nil)))) pa_nil))) pa_nil)))) (pe_call (ok_law_take T.toTA1) (hr.mono (by decide)) rfl T.law_take.m T.law_take.F.kp T.law_take.b .nil pass0 (pa_cons (pv 3) (pa_cons pe_int pa_nil))) (fun _ _ => rfl)) pa_nil)))
    (pss_one (ps_expr (pe_bm PySem.F.plainAttrs_list PySem.F.slot_list_append PySem.F.type_list_append mt_append (pv 7) (pa_cons (pe_call (ok_law_great T) (hr.mono (by decide)) rfl T.law_great.m T.law_great.F.kp T.law_great.b .nil pass0 (pa_cons (pv 3) pa_nil)) pa_nil))))) pss_nil)
    (pss_cons (ps_expr (pe_bm PySem.F.plainAttrs_list PySem.F.slot_list_extend PySem.F.type_list_extend mt_extend (pv 7) (pa_cons (pe_lst (pa_cons (pe_tup (pa_cons pe_int (pa_cons (pe_tup (pa_cons pe_int (pa_cons pe_int (pa_cons pe_int pa_nil)))) pa_nil))) (pa_cons (pe_tup (pa_cons pe_int (pa_cons (pe_tup (pa_cons pe_int (pa_cons pe_int (pa_cons pe_int pa_nil)))) pa_nil))) (pa_cons (pe_tup (pa_cons pe_int (pa_cons (pe_tup (pa_cons pe_int (pa_cons pe_int (pa_cons pe_int pa_nil)))) pa_nil))) (pa_cons (pe_tup (pa_cons pe_int (pa_cons (pe_tup (pa_cons pe_int (pa_cons pe_int (pa_cons pe_int pa_nil)))) pa_nil))) (pa_cons (pe_tup (pa_cons pe_int (pa_cons (pe_tup (pa_cons pe_int (pa_cons pe_int (pa_cons pe_int pa_nil)))) pa_nil))) (pa_cons (pe_tup (pa_cons pe_int (pa_cons (pe_tup (pa_cons pe_int (pa_cons pe_int (pa_cons pe_int pa_nil)))) pa_nil))) pa_nil))))))) pa_nil)))
    (pss_cons (ps_expr (pe_bm PySem.F.plainAttrs_list PySem.F.slot_list_extend PySem.F.type_list_extend mt_extend (pv 7) (pa_cons (pe_lc (own := [("turn", 6)]) (g := gName 6) (by rfl) sc_law.nd (pi_range1 rfl T.z_range (pa_cons pe_int pa_nil)) (blkOk_by (own := [("turn", 6)]) (N := ["script", "triangle", "k", "box", "named", "great", "turn", "asked", "dues", "at", "kind", "values"]) (sc := defScope s_law) (by decide +kernel)) (fun _ _ _ _ _ => (pg_name (i := 6) sc_law.nd rfl (Or.inl rfl))) (fun _ _ _ _ _ => pts_nil) (fun _ _ _ _ _ => (pe_call (ok_law_spoilt T) (hr.mono (by decide)) rfl T.law_spoilt.m T.law_spoilt.F.kp T.law_spoilt.b .nil pass0 (pa_cons (pv 3) pa_nil)))) pa_nil)))
    (pss_cons (ps_expr (pe_bm PySem.F.plainAttrs_list PySem.F.slot_list_extend PySem.F.type_list_extend mt_extend (pv 7) (pa_cons (pe_lst (pa_cons (pe_tup (pa_cons pe_int (pa_cons (pe_tup (pa_cons pe_int (pa_cons pe_int (pa_cons pe_int pa_nil)))) pa_nil))) (pa_cons (pe_tup (pa_cons pe_int (pa_cons (pe_tup (pa_cons pe_int (pa_cons pe_int (pa_cons pe_int pa_nil)))) pa_nil))) (pa_cons (pe_tup (pa_cons pe_int (pa_cons (pe_tup (pa_cons pe_int (pa_cons pe_int (pa_cons pe_int pa_nil)))) pa_nil))) (pa_cons (pe_tup (pa_cons pe_int (pa_cons (pe_tup (pa_cons pe_int (pa_cons pe_int (pa_cons pe_int pa_nil)))) pa_nil))) (pa_cons (pe_tup (pa_cons pe_int (pa_cons (pe_tup (pa_cons pe_int (pa_cons pe_int (pa_cons (pe_un un_neg pe_int) pa_nil)))) pa_nil))) pa_nil)))))) pa_nil)))
    (pss_cons (ps_setLc (i := 8) (own := [("kind", 10), ("values", 11)]) (g := gTup K 2 (gCons (gName 10) (gCons (gName 11) gNil))) (by rfl) sc_law.nd rfl rfl (sw_true rfl rfl rfl (by decide +kernel)) (kpil K (pv 7)) (blkOk_by (own := [("kind", 10), ("values", 11)]) (N := ["script", "triangle", "k", "box", "named", "great", "turn", "asked", "dues", "at", "kind", "values"]) (sc := defScope s_law) (by decide +kernel)) (fun _ _ _ _ _ => (kpg_tup K (by rfl) (pgs_cons (pg_name (i := 10) sc_law.nd rfl (Or.inl rfl)) (pgs_cons (pg_name (i := 11) sc_law.nd rfl (Or.inl rfl)) pgs_nil)))) (fun _ _ _ _ _ => pts_nil) (fun _ _ _ _ _ => (pe_call (ok_law_due T) (hr.mono (by decide)) rfl T.law_due.m T.law_due.F.kp T.law_due.b .nil pass0 (pa_cons (pv 1) (pa_cons (pv 10) (pa_cons (pv 11) pa_nil))))))
    (pss_one (ps_for PassesOwn.never rfl (pi_range1 rfl T.z_range (pa_cons pe_int pa_nil)) (pg_name (i := 6) sc_law.nd rfl (Or.inl rfl)) (pss_one (ps_for PassesOwn.never rfl (pi_range1 rfl T.z_range (pa_cons (pe_callB (klen K) (by rfl) T.z_len (by decide +kernel) (pa_cons (pv 7) pa_nil)) pa_nil)) (pg_name (i := 9) sc_law.nd rfl (Or.inl rfl)) (pss_one (ps_if (pt_not (pt_val (pe_call (ok_law_right T) (hr.mono (by decide)) rfl T.law_right.m T.law_right.F.kp T.law_right.b .nil pass0 (pa_cons (pe_ix (kixt K) (pe_ix (kixl K) (pv 7) (pv 9) (fun _ _ => rfl)) pe_int (fun _ _ => rfl)) (pa_cons (pe_op op_mod (pe_callTy call_int1 (by rfl) T.z_int (by decide +kernel) (pa_cons (pe_op op_add (pe_op op_add (pv 4) (pv 9)) (pv 6)) pa_nil)) pe_int) (pa_cons (pe_ix (kixt K) (pe_ix (kixl K) (pv 7) (pv 9) (fun _ _ => rfl)) pe_int (fun _ _ => rfl)) (pa_cons (pe_ix (kixl K) (pv 8) (pv 9) (fun _ _ => rfl)) pa_nil))))))) (pss_one (ps_ret pe_bl)) pss_nil)))))))))))))))
    (pss_one (ps_ret pe_bl)))), ?_⟩
  refine ⟨rfl, fun tr H0 e0 tri0 => ?_⟩
  have hS0 := ex_l e0 hS
  refine ⟨_, rfl, _, _, rfl, .inl ⟨_, hS0, rfl⟩, _, _, rfl, _, _, rfl, _, rfl, ?_, ?_, for_range (lo := 0) (n := _)
    (fun k σ H' => Ex H0 H' ∧ ∃ x2 x3 x4 x5 x6 x7 x8 x9 x10 x11, σ = [some (.ref a), some (.ref tr), x2, x3, x4, x5, x6, x7, x8, x9, x10, x11]) ⟨Ex.refl _, _, _, _, _, _, _, _, _, _, _, rfl⟩ ?_ ?_⟩
  · have := (mm ((ns.map V.int).length : Int)).1
    exact Int.le_trans (by decide) this
  · have := (mm ((ns.map V.int).length : Int)).2
    exact Int.lt_of_le_of_lt this (by decide)
  · rintro k σ H1 hk ⟨e1, x2, x3, x4, x5, x6, x7, x8, x9, x10, x11, rfl⟩
    have hS1 := ex_l e1 hS0
    have tri1 := tri0.ex e1
    have hk2 : k ≤ 2 := by
      have := (mm ((ns.map V.int).length : Int)).2
      omega
    -- box
    refine ⟨_, rfl, _, rfl, a, ns, _, rfl, hS1, by omega, by omega, fun v H2 e2 => ?_⟩
    refine ⟨v, rfl, fun b H3 hb0 e3 B3 => ?_⟩
    have E13 := e2.trans e3
    have b0 : H1 b = none := fresh_back e2 hb0
    refine ⟨_, rfl, b, 2, 999999, rfl, by decide, by decide, B3, fun named H4 n0 n1 B4 k4 => ?_⟩
    refine ⟨_, rfl, b, 8, 999998, rfl, by decide, by decide, B4, fun g H5 g0 g1 B5 k5 => ⟨rfl, _, _, rfl, ?_⟩⟩
    have ex5 : Ex H1 H5 := fun c o h => k5 c o (ne_of_none h b0) (k4 c o (ne_of_none h b0) (E13 _ _ h))
    -- six wishes
    refine ⟨6, rfl, by decide, by decide, fun D hD => ?_⟩
    have Db : D ≠ b := B5.ne hD
    have D0 : H1 D = none := fresh_back ex5 hD
    refine lc_range (fun i H' => BoxAt H' b (999900 - 10 * i) ∧ Ex H1 H' ∧ ∃ ts : List Addr, H' D = some (.lst (ts.map V.ref)) ∧ ts.length = i ∧ ∀ t ∈ ts, AskAt K (fun _ => False) H' t) ⟨(B5.ex (Ex.new hD)).le (by decide), ex5.trans (Ex.new hD), [], upd_same, rfl, fun t ht => absurd ht (by simp)⟩ ?_ ?_
    · rintro i H' hi ⟨B, ex, ts, hd, hl, all⟩
      have hi6 : i < 6 := hi
      obtain ⟨m, hm⟩ : ∃ m, 999900 - 10 * i = m + 10 := ⟨999900 - 10 * i - 10, by omega⟩
      have hm2 : 999900 - 10 * (i + 1) = m := by omega
      rw [hm] at B
      refine ⟨rfl, _, rfl, b, m, rfl, B, fun t H6 ask B6 k6 => ⟨_, k6 _ _ Db hd, small1000 (by rw [List.length_map]; omega), ?_, ?_, ts ++ [t], by rw [upd_same, List.map_append]; rfl, by rw [List.length_append, hl]; rfl, fun u hu => ?_⟩⟩
      · rw [hm2]; exact box_upd B6 Db
      · exact Ex.mut (fun c o h => k6 c o (ne_of_none h b0) (ex c o h)) D0
      · obtain ⟨ys, hb⟩ := box_list B
        have kD : But D H6 (upd H6 D (.lst (ts.map V.ref ++ [.ref t]))) := But.upd
        rcases List.mem_append.mp hu with h | h
        · exact ((all u h).but hb k6 (fun a ha => ha.elim)).but (k6 _ _ Db hd) kD (fun a ha => ha.elim)
        · obtain rfl := List.mem_singleton.mp h
          exact ask.but (k6 _ _ Db hd) kD (fun a ha => ha.elim)
    · rintro H6 ⟨B6, ex6, ts, hd, hl, all⟩
      refine ⟨_, rfl, b, 999800, rfl, B6.le (by decide), fun t H7 ask7 B7 k7 => ⟨(by show 1 ≤ sizeLine; decide), fun p hp => ?_⟩⟩
      have y8 := Ex.new (o := .lst [.ref t]) hp
      have hd8 := y8 _ _ (k7 _ _ Db hd)
      refine ⟨D, p, _, _, rfl, rfl, hd8, upd_same, Nat.le_of_lt (small1000 (by rw [List.length_map, hl]; show 6 + 1 ≤ 1000; decide)), fun A hA => ?_⟩
      have y9 := Ex.new (o := .lst (ts.map V.ref ++ [.ref t])) hA
      have y79 := y8.trans y9
      have ex7 : Ex H1 H7 := fun c o h => k7 c o (ne_of_none h b0) (ex6 c o h)
      obtain ⟨ys, hb⟩ := box_list B6
      have J : Aj K H1 b A 999800 (ts ++ [t]) (upd (upd H7 p (.lst [.ref t])) A (.lst (ts.map V.ref ++ [.ref t]))) := by
        refine ⟨B7.ex y79, b0, fresh_back (ex7.trans y8) hA, ex7.trans y79, by rw [upd_same, List.map_append]; rfl, (B7.ex y8).ne hA, fun u hu => ?_⟩
        rcases List.mem_append.mp hu with h | h
        · exact (((all u h).but hb k7 (fun a ha => ha.elim)).ex y79).of (fun a ha => ha.elim)
        · obtain rfl := List.mem_singleton.mp h
          exact (ask7.ex y79).of (fun a ha => ha.elim)
      have lts : (ts ++ [t]).length = 7 := by rw [List.length_append, hl]; rfl
      generalize (ts ++ [t]) = ts7 at J lts
      generalize upd (upd H7 p (.lst [.ref t])) A (.lst (ts.map V.ref ++ [.ref t])) = H9 at J ⊢
      refine ⟨fun σ' H' => ∃ ts x6, σ' = [some (.ref a), some (.ref tr), some (.int (0 + (k : Int))), some (.ref b), some (.int named), some (.bl (decide (V.int g = V.int 7))), x6, some (.ref A), x8, x9, x10, x11] ∧ Aj K H1 b A 999700 ts H' ∧ ts.length ≤ 9, ?_, ?_⟩
      · refine ⟨_, rfl, _, rfl, ite2 (fun _ => ?_) (fun _ => ⟨ts7, x6, rfl, J.le (by decide), by omega⟩)⟩
        refine ⟨_, rfl, .inl ⟨rfl, _, SqL.of J.dir⟩, _, rfl, b, 12, 999799, rfl, by decide, by decide, J.box, fun r1 G1 _ _ C1 c1 => ⟨_, _, rfl, rfl, ?_⟩⟩
        have J1 := J.but C1 c1
        refine ⟨_, rfl, b, 9, 999798, rfl, by decide, by decide, J1.box, fun r2 G2 _ _ C2 c2 => ?_⟩
        have J2 := J1.but C2 c2
        refine ⟨(by show 3 ≤ sizeLine; decide), fun p1 h1 => ⟨two_le, fun t1 g1 => ?_⟩⟩
        have xa := (Ex.new (o := .tup [.int 64, .int (2 + r1), .int r2]) h1).trans (Ex.new (o := .tup [.int 4, .ref p1]) g1)
        have as1 : AskAt K (fun _ => False) (upd (upd G2 p1 (.tup [.int 64, .int (2 + r1), .int r2])) t1 (.tup [.int 4, .ref p1])) t1 := ask_ints upd_same ((Ex.new g1) _ _ upd_same)
        have J3 := J2.exx xa
        clear h1
        generalize upd (upd G2 p1 (.tup [.int 64, .int (2 + r1), .int r2])) t1 (.tup [.int 4, .ref p1]) = G3 at *
        clear xa g1
        refine ⟨(by show 3 ≤ sizeLine; decide), fun p2 h2 => ⟨two_le, fun t2 g2 => ?_⟩⟩
        have xa := (Ex.new (o := .tup [.int 64, .int 64, .int 0]) h2).trans (Ex.new (o := .tup [.int 4, .ref p2]) g2)
        have as2 : AskAt K (fun _ => False) (upd (upd G3 p2 (.tup [.int 64, .int 64, .int 0])) t2 (.tup [.int 4, .ref p2])) t2 := ask_ints upd_same ((Ex.new g2) _ _ upd_same)
        have J4 := J3.exx xa
        replace as1 := as1.ex xa
        clear h2
        generalize upd (upd G3 p2 (.tup [.int 64, .int 64, .int 0])) t2 (.tup [.int 4, .ref p2]) = G4 at *
        clear xa g2
        refine ⟨(by show 3 ≤ sizeLine; decide), fun p3 h3 => ⟨two_le, fun t3 g3 => ?_⟩⟩
        have xa := (Ex.new (o := .tup [.int 63, .int 1, .int 62]) h3).trans (Ex.new (o := .tup [.int 4, .ref p3]) g3)
        have as3 : AskAt K (fun _ => False) (upd (upd G4 p3 (.tup [.int 63, .int 1, .int 62])) t3 (.tup [.int 4, .ref p3])) t3 := ask_ints upd_same ((Ex.new g3) _ _ upd_same)
        have J5 := J4.exx xa
        replace as1 := as1.ex xa
        replace as2 := as2.ex xa
        clear h3
        generalize upd (upd G4 p3 (.tup [.int 63, .int 1, .int 62])) t3 (.tup [.int 4, .ref p3]) = G5 at *
        clear xa g3
        refine ⟨(by show 3 ≤ sizeLine; decide), fun L hL => ?_⟩
        have xa := Ex.new (o := .lst [.ref t1, .ref t2, .ref t3]) hL
        have J6 := J5.exx xa
        have Lb : L ≠ b := J5.box.ne hL
        obtain ⟨yb, hyb⟩ := box_list J6.box
        refine ⟨_, rfl, b, 3, 999797, rfl, by decide, by decide, J6.box, fun r3 G7 q0 q1 C7 c7 => ?_⟩
        have J7 := J6.but C7 c7
        have fl : ∀ a : Addr, False → a ≠ b := fun a h => h.elim
        have at7 : ∃ u, atI [V.ref t1, V.ref t2, V.ref t3] r3 = some (.ref u) ∧ AskAt K (fun _ => False) G7 u := by
          rcases (by omega : r3 = 0 ∨ r3 = 1 ∨ r3 = 2) with rfl | rfl | rfl
          · exact ⟨t1, rfl, (as1.ex xa).but hyb c7 fl⟩
          · exact ⟨t2, rfl, (as2.ex xa).but hyb c7 fl⟩
          · exact ⟨t3, rfl, (as3.ex xa).but hyb c7 fl⟩
        obtain ⟨u, hu, asu⟩ := at7
        refine ⟨_, _, _, _, rfl, rfl, SqL.of (c7 _ _ Lb upd_same), hu, A, _, _, rfl, rfl, J7.dir, small1000 (by rw [List.length_map, lts]; decide), ?_⟩
        have J8 := J7.add (us := [u]) (fun z hz => by obtain rfl := List.mem_singleton.mp hz; exact asu.of (fun a ha => ha.elim)) (xs := ts7.map V.ref ++ [.ref u]) (by rw [List.map_append]; rfl)
        refine ⟨_, rfl, .inl ⟨rfl, _, SqL.of J8.dir⟩, _, rfl, b, 999700, rfl, J8.box.le (by decide), fun t G9 ask9 C9 c9 => ?_⟩
        have J9 := J8.but C9 c9
        refine ⟨A, _, _, rfl, rfl, J9.dir, small1000 (by rw [List.length_map, List.length_append, lts]; show 7 + 1 ≤ 1000; decide), ?_⟩
        exact ⟨_, x6, rfl, J9.add (us := [t]) (fun z hz => by obtain rfl := List.mem_singleton.mp hz; exact ask9.of (fun a ha => ha.elim)) (by rw [List.map_append (l₁ := ts7 ++ [u])]; rfl), by rw [List.length_append, List.length_append, lts]; show 7 + 1 + 1 ≤ 9; decide⟩
      rintro σ' H10 ⟨ts, x6, rfl, J, lt⟩
      -- six more
      refine ⟨_, rfl, .inl ⟨rfl, _, SqL.of J.dir⟩, ?_⟩
      refine ⟨(by show 3 ≤ sizeLine; decide), fun pc0 hp => ⟨two_le, fun tc0 ht => ?_⟩⟩
      have xa := (Ex.new (o := .tup [.int 4, .int 2, .int 1]) hp).trans (Ex.new (o := .tup [.int 4, .ref pc0]) ht)
      have as0 : AskAt K (fun _ => False) (upd (upd H10 pc0 (.tup [.int 4, .int 2, .int 1])) tc0 (.tup [.int 4, .ref pc0])) tc0 := ask_ints upd_same ((Ex.new ht) _ _ upd_same)
      have eX := xa
      clear hp
      generalize upd (upd H10 pc0 (.tup [.int 4, .int 2, .int 1])) tc0 (.tup [.int 4, .ref pc0]) = c0 at *
      clear xa ht
      refine ⟨(by show 3 ≤ sizeLine; decide), fun pc1 hp => ⟨two_le, fun tc1 ht => ?_⟩⟩
      have xa := (Ex.new (o := .tup [.int 4, .int 3, .int 2]) hp).trans (Ex.new (o := .tup [.int 4, .ref pc1]) ht)
      have as1 : AskAt K (fun _ => False) (upd (upd c0 pc1 (.tup [.int 4, .int 3, .int 2])) tc1 (.tup [.int 4, .ref pc1])) tc1 := ask_ints upd_same ((Ex.new ht) _ _ upd_same)
      replace as0 := as0.ex xa
      replace eX := eX.trans xa
      clear hp
      generalize upd (upd c0 pc1 (.tup [.int 4, .int 3, .int 2])) tc1 (.tup [.int 4, .ref pc1]) = c1 at *
      clear xa ht
      refine ⟨(by show 3 ≤ sizeLine; decide), fun pc2 hp => ⟨two_le, fun tc2 ht => ?_⟩⟩
      have xa := (Ex.new (o := .tup [.int 0, .int 1, .int 0]) hp).trans (Ex.new (o := .tup [.int 4, .ref pc2]) ht)
      have as2 : AskAt K (fun _ => False) (upd (upd c1 pc2 (.tup [.int 0, .int 1, .int 0])) tc2 (.tup [.int 4, .ref pc2])) tc2 := ask_ints upd_same ((Ex.new ht) _ _ upd_same)
      replace as0 := as0.ex xa
      replace as1 := as1.ex xa
      replace eX := eX.trans xa
      clear hp
      generalize upd (upd c1 pc2 (.tup [.int 0, .int 1, .int 0])) tc2 (.tup [.int 4, .ref pc2]) = c2 at *
      clear xa ht
      refine ⟨(by show 3 ≤ sizeLine; decide), fun pc3 hp => ⟨two_le, fun tc3 ht => ?_⟩⟩
      have xa := (Ex.new (o := .tup [.int 3, .int 2, .int 4]) hp).trans (Ex.new (o := .tup [.int 4, .ref pc3]) ht)
      have as3 : AskAt K (fun _ => False) (upd (upd c2 pc3 (.tup [.int 3, .int 2, .int 4])) tc3 (.tup [.int 4, .ref pc3])) tc3 := ask_ints upd_same ((Ex.new ht) _ _ upd_same)
      replace as0 := as0.ex xa
      replace as1 := as1.ex xa
      replace as2 := as2.ex xa
      replace eX := eX.trans xa
      clear hp
      generalize upd (upd c2 pc3 (.tup [.int 3, .int 2, .int 4])) tc3 (.tup [.int 4, .ref pc3]) = c3 at *
      clear xa ht
      refine ⟨(by show 3 ≤ sizeLine; decide), fun pc4 hp => ⟨two_le, fun tc4 ht => ?_⟩⟩
      have xa := (Ex.new (o := .tup [.int 64, .int 1, .int 64]) hp).trans (Ex.new (o := .tup [.int 4, .ref pc4]) ht)
      have as4 : AskAt K (fun _ => False) (upd (upd c3 pc4 (.tup [.int 64, .int 1, .int 64])) tc4 (.tup [.int 4, .ref pc4])) tc4 := ask_ints upd_same ((Ex.new ht) _ _ upd_same)
      replace as0 := as0.ex xa
      replace as1 := as1.ex xa
      replace as2 := as2.ex xa
      replace as3 := as3.ex xa
      replace eX := eX.trans xa
      clear hp
      generalize upd (upd c3 pc4 (.tup [.int 64, .int 1, .int 64])) tc4 (.tup [.int 4, .ref pc4]) = c4 at *
      clear xa ht
      refine ⟨(by show 3 ≤ sizeLine; decide), fun pc5 hp => ⟨two_le, fun tc5 ht => ?_⟩⟩
      have xa := (Ex.new (o := .tup [.int 64, .int 1, .int 32]) hp).trans (Ex.new (o := .tup [.int 4, .ref pc5]) ht)
      have as5 : AskAt K (fun _ => False) (upd (upd c4 pc5 (.tup [.int 64, .int 1, .int 32])) tc5 (.tup [.int 4, .ref pc5])) tc5 := ask_ints upd_same ((Ex.new ht) _ _ upd_same)
      replace as0 := as0.ex xa
      replace as1 := as1.ex xa
      replace as2 := as2.ex xa
      replace as3 := as3.ex xa
      replace as4 := as4.ex xa
      replace eX := eX.trans xa
      clear hp
      generalize upd (upd c4 pc5 (.tup [.int 64, .int 1, .int 32])) tc5 (.tup [.int 4, .ref pc5]) = c5 at *
      clear xa ht
      refine ⟨(by show 6 ≤ sizeLine; decide), fun L hL => ?_⟩
      have xa := Ex.new (o := .lst [.ref tc0, .ref tc1, .ref tc2, .ref tc3, .ref tc4, .ref tc5]) hL
      have J11 := (J.exx eX).exx xa
      refine ⟨A, L, _, _, rfl, rfl, J11.dir, upd_same, Nat.le_of_lt (small1000 (by rw [List.length_map]; show _ + 6 ≤ 1000; omega)), ?_⟩
      have J12 := J11.add (us := [tc0, tc1, tc2, tc3, tc4, tc5]) (fun z hz => by
        simp only [List.mem_cons, List.not_mem_nil, or_false] at hz
        rcases hz with rfl | rfl | rfl | rfl | rfl | rfl
        · exact (as0.ex xa).of (fun a ha => ha.elim)
        · exact (as1.ex xa).of (fun a ha => ha.elim)
        · exact (as2.ex xa).of (fun a ha => ha.elim)
        · exact (as3.ex xa).of (fun a ha => ha.elim)
        · exact (as4.ex xa).of (fun a ha => ha.elim)
        · exact (as5.ex xa).of (fun a ha => ha.elim)) (xs := ts.map V.ref ++ [.ref tc0, .ref tc1, .ref tc2, .ref tc3, .ref tc4, .ref tc5]) (by rw [List.map_append]; rfl)
      have lt12 : (ts ++ [tc0, tc1, tc2, tc3, tc4, tc5]).length ≤ 15 := by rw [List.length_append]; show _ + 6 ≤ 15; omega
      generalize (ts ++ [tc0, tc1, tc2, tc3, tc4, tc5]) = ts12 at J12 lt12
      generalize upd _ A _ = H12 at J12 ⊢
      -- twelve that are spoilt
      refine ⟨_, rfl, .inl ⟨rfl, _, SqL.of J12.dir⟩, 12, rfl, by decide, by decide, fun D2 hD2 => ?_⟩
      have D2b : D2 ≠ b := J12.box.ne hD2
      have y2 := Ex.new (o := .lst []) hD2
      obtain ⟨yb, hyb⟩ := box_list J12.box
      refine lc_range (fun i H' => BoxAt H' b (999700 - 30 * i) ∧ But b H12 H' ∧ ∃ us : List Addr, H' D2 = some (.lst (us.map V.ref)) ∧ us.length = i ∧ ∀ u ∈ us, AskAt K (fun a => a ≠ b ∧ a ≠ A ∧ a ≠ D2) H' u) ⟨J12.box.ex y2, But.of y2, [], upd_same, rfl, fun t ht => absurd ht (by simp)⟩ ?_ ?_
      · rintro i H' hi ⟨B, kb, us, hd, hl, all⟩
        have hi6 : i < 12 := hi
        obtain ⟨m, hm⟩ : ∃ m, 999700 - 30 * i = m + 30 := ⟨999700 - 30 * i - 30, by omega⟩
        have hm2 : 999700 - 30 * (i + 1) = m := by omega
        rw [hm] at B
        have hA' := kb _ _ J12.ne J12.dir
        refine ⟨rfl, _, rfl, b, m, rfl, B, fun t H6 ask B6 k6 => ⟨_, k6 _ _ D2b hd, small1000 (by rw [List.length_map]; omega), ?_, but_mut (kb.trans k6) hD2, us ++ [t], by rw [upd_same, List.map_append]; rfl, by rw [List.length_append, hl]; rfl, fun u hu => ?_⟩⟩
        · rw [hm2]; exact box_upd B6 D2b
        · obtain ⟨ys, hb⟩ := box_list B
          have kD : But D2 H6 (upd H6 D2 (.lst (us.map V.ref ++ [.ref t]))) := But.upd
          rcases List.mem_append.mp hu with h | h
          · exact ((all u h).but hb k6 (fun a ha => ha.1)).but (k6 _ _ D2b hd) kD (fun a ha => ha.2.2)
          · obtain rfl := List.mem_singleton.mp h
            exact (ask.of (fun a ha => ⟨ne_new ha hb, ne_new ha hA', ne_new ha hd⟩)).but (k6 _ _ D2b hd) kD (fun a ha => ha.2.2)
      · rintro H13 ⟨B13, k13, us, hd13, hl13, all13⟩
        have J13 := J12.but B13 k13
        refine ⟨A, D2, _, _, rfl, rfl, J13.dir, hd13, Nat.le_of_lt (small1000 (by rw [List.length_map, List.length_map, hl13]; show _ + 12 ≤ 1000; omega)), ?_⟩
        have J14 := J13.add (us := us) (fun z hz => (all13 z hz).of (fun a ha => ⟨ha.1, ha.2.1⟩)) (xs := ts12.map V.ref ++ us.map V.ref) (by rw [List.map_append])
        have lt14 : (ts12 ++ us).length ≤ 27 := by rw [List.length_append, hl13]; show _ + 12 ≤ 27; omega
        generalize (ts12 ++ us) = ts14 at J14 lt14
        generalize upd H13 A _ = H14 at J14 ⊢
        -- five more
        clear as0 as1 as2 as3 as4 as5 eX
        refine ⟨_, rfl, .inl ⟨rfl, _, SqL.of J14.dir⟩, ?_⟩
        refine ⟨(by show 3 ≤ sizeLine; decide), fun pd0 hp => ⟨two_le, fun td0 ht => ?_⟩⟩
        have xa := (Ex.new (o := .tup [.int 64, .int 1, .int 65]) hp).trans (Ex.new (o := .tup [.int 4, .ref pd0]) ht)
        have as0 : AskAt K (fun _ => False) (upd (upd H14 pd0 (.tup [.int 64, .int 1, .int 65])) td0 (.tup [.int 4, .ref pd0])) td0 := ask_ints upd_same ((Ex.new ht) _ _ upd_same)
        have eX := xa
        clear hp
        generalize upd (upd H14 pd0 (.tup [.int 64, .int 1, .int 65])) td0 (.tup [.int 4, .ref pd0]) = d0 at *
        clear xa ht
        refine ⟨(by show 3 ≤ sizeLine; decide), fun pd1 hp => ⟨two_le, fun td1 ht => ?_⟩⟩
        have xa := (Ex.new (o := .tup [.int 64, .int 64, .int 1]) hp).trans (Ex.new (o := .tup [.int 4, .ref pd1]) ht)
        have as1 : AskAt K (fun _ => False) (upd (upd d0 pd1 (.tup [.int 64, .int 64, .int 1])) td1 (.tup [.int 4, .ref pd1])) td1 := ask_ints upd_same ((Ex.new ht) _ _ upd_same)
        replace as0 := as0.ex xa
        replace eX := eX.trans xa
        clear hp
        generalize upd (upd d0 pd1 (.tup [.int 64, .int 64, .int 1])) td1 (.tup [.int 4, .ref pd1]) = d1 at *
        clear xa ht
        refine ⟨(by show 3 ≤ sizeLine; decide), fun pd2 hp => ⟨two_le, fun td2 ht => ?_⟩⟩
        have xa := (Ex.new (o := .tup [.int 64, .int 65, .int 65]) hp).trans (Ex.new (o := .tup [.int 4, .ref pd2]) ht)
        have as2 : AskAt K (fun _ => False) (upd (upd d1 pd2 (.tup [.int 64, .int 65, .int 65])) td2 (.tup [.int 4, .ref pd2])) td2 := ask_ints upd_same ((Ex.new ht) _ _ upd_same)
        replace as0 := as0.ex xa
        replace as1 := as1.ex xa
        replace eX := eX.trans xa
        clear hp
        generalize upd (upd d1 pd2 (.tup [.int 64, .int 65, .int 65])) td2 (.tup [.int 4, .ref pd2]) = d2 at *
        clear xa ht
        refine ⟨(by show 3 ≤ sizeLine; decide), fun pd3 hp => ⟨two_le, fun td3 ht => ?_⟩⟩
        have xa := (Ex.new (o := .tup [.int 65, .int 65, .int 65]) hp).trans (Ex.new (o := .tup [.int 4, .ref pd3]) ht)
        have as3 : AskAt K (fun _ => False) (upd (upd d2 pd3 (.tup [.int 65, .int 65, .int 65])) td3 (.tup [.int 4, .ref pd3])) td3 := ask_ints upd_same ((Ex.new ht) _ _ upd_same)
        replace as0 := as0.ex xa
        replace as1 := as1.ex xa
        replace as2 := as2.ex xa
        replace eX := eX.trans xa
        clear hp
        generalize upd (upd d2 pd3 (.tup [.int 65, .int 65, .int 65])) td3 (.tup [.int 4, .ref pd3]) = d3 at *
        clear xa ht
        refine ⟨1, rfl, (by show 3 ≤ sizeLine; decide), fun pd4 hp => ⟨two_le, fun td4 ht => ?_⟩⟩
        have xa := (Ex.new (o := .tup [.int 3, .int 0, .int (-1)]) hp).trans (Ex.new (o := .tup [.int 4, .ref pd4]) ht)
        have as4 : AskAt K (fun _ => False) (upd (upd d3 pd4 (.tup [.int 3, .int 0, .int (-1)])) td4 (.tup [.int 4, .ref pd4])) td4 := ask_ints upd_same ((Ex.new ht) _ _ upd_same)
        replace as0 := as0.ex xa
        replace as1 := as1.ex xa
        replace as2 := as2.ex xa
        replace as3 := as3.ex xa
        replace eX := eX.trans xa
        clear hp
        generalize upd (upd d3 pd4 (.tup [.int 3, .int 0, .int (-1)])) td4 (.tup [.int 4, .ref pd4]) = d4 at *
        clear xa ht
        refine ⟨(by show 5 ≤ sizeLine; decide), fun L2' hL2 => ?_⟩
        have xb := Ex.new (o := .lst [.ref td0, .ref td1, .ref td2, .ref td3, .ref td4]) hL2
        have J15 := (J14.exx eX).exx xb
        refine ⟨A, L2', _, _, rfl, rfl, J15.dir, upd_same, Nat.le_of_lt (small1000 (by rw [List.length_map]; show _ + 5 ≤ 1000; omega)), ?_⟩
        have J16 := J15.add (us := [td0, td1, td2, td3, td4]) (fun z hz => by
          simp only [List.mem_cons, List.not_mem_nil, or_false] at hz
          rcases hz with rfl | rfl | rfl | rfl | rfl
          · exact (as0.ex xb).of (fun a ha => ha.elim)
          · exact (as1.ex xb).of (fun a ha => ha.elim)
          · exact (as2.ex xb).of (fun a ha => ha.elim)
          · exact (as3.ex xb).of (fun a ha => ha.elim)
          · exact (as4.ex xb).of (fun a ha => ha.elim)) (xs := ts14.map V.ref ++ [.ref td0, .ref td1, .ref td2, .ref td3, .ref td4]) (by rw [List.map_append]; rfl)
        have lt16 : (ts14 ++ [td0, td1, td2, td3, td4]).length ≤ 32 := by rw [List.length_append]; show _ + 5 ≤ 32; omega
        generalize (ts14 ++ [td0, td1, td2, td3, td4]) = ts16 at J16 lt16
        generalize upd _ A _ = H16 at J16 ⊢
        -- what is due
        have tri16 := tri1.ex J16.ex
        refine ⟨_, rfl, A, rfl, ⟨_, SqL.of J16.dir⟩, fun Du hDu => ?_⟩
        refine lc_list (xs := ts16.map V.ref) (fun i H' => Ex H16 H' ∧ ∃ vs : List V, H' Du = some (.lst vs) ∧ vs.length = i ∧ ∀ (j : Nat) (v : V) (t : Addr), vs[j]? = some v → ts16[j]? = some t → DueAt K (fun a => a ≠ b ∧ a ≠ A) H16 H' t v)
          ⟨Ex.new hDu, [], upd_same, rfl, fun j v t h _ => by cases h⟩ (fun i H' _ z => SqL.of (z.1 _ _ J16.dir)) ?_ ?_
        · rintro i x H' hx ⟨e, vs, hd, hl, all⟩
          rw [List.getElem?_map] at hx
          cases hti : ts16[i]? with
          | none => rw [hti] at hx; cases hx
          | some t =>
            rw [hti] at hx
            obtain rfl := Option.some.inj hx
            have hi := (List.getElem?_eq_some_iff.mp hti).1
            obtain ⟨kind, vt, xs, ds, a1, a2, a3, a4⟩ := J16.all t (List.mem_of_getElem? hti)
            refine ⟨t, _, rfl, SqT.of (e _ _ a1), rfl, _, _, rfl, _, _, rfl, rfl, rfl, _, rfl, _, rfl, _, rfl, tr, kind, vt, xs, ds, 3, _, rfl, tri16.ex e, SqT.of (e _ _ a2), a3.ex e, by decide, a4, fun v H'' e'' due => ⟨vs, e'' _ _ hd, small1000 (by omega), (e.trans e'').mut hDu, vs ++ [v], upd_same, by rw [List.length_append, hl]; rfl, fun j v' t' hv ht' => ?_⟩⟩
            have kD : But Du H'' (upd H'' Du (.lst (vs ++ [v]))) := But.upd
            by_cases cj : j < vs.length
            · rw [List.getElem?_append_left cj] at hv
              obtain ⟨kind', vt', xs', ds', b1, b2, b3, b4, b5⟩ := all j v' t' hv ht'
              exact ⟨kind', vt', xs', ds', b1, b2, b3, b4, (b5.ex e'').butL (e'' _ _ hd) kD⟩
            · have h2 := (List.getElem?_eq_some_iff.mp hv).1
              rw [List.length_append, List.length_singleton] at h2
              have ej : j = i := by omega
              subst ej
              rw [List.getElem?_append_right (by omega), hl, Nat.sub_self] at hv
              cases Option.some.inj hv
              rw [hti] at ht'
              cases Option.some.inj ht'
              exact ⟨kind, vt, xs, ds, a1, a2, a3, a4, due.butL (e'' _ _ hd) kD⟩
        · rintro H17 ⟨e17, vs, hvs, hlv, all⟩
          rw [List.length_map] at hlv
          have J17 := J16.exx e17
          refine ⟨2, rfl, by decide, by decide, for_range (lo := 0) (n := (2 : Int).toNat) (fun i σ H' => Ex H17 H' ∧ ∃ x6 x9 x10 x11, σ = [some (.ref a), some (.ref tr), some (.int (0 + (k : Int))), some (.ref b), some (.int named), some (.bl (decide (V.int g = V.int 7))), x6, some (.ref A), some (.ref Du), x9, x10, x11])
            ⟨Ex.refl _, _, _, _, _, rfl⟩ ?_ ?_⟩
          · rintro i σ H' hi ⟨e18, x6', x9', x10', x11', rfl⟩
            refine ⟨_, rfl, _, _, rfl, .inl ⟨_, SqL.of (e18 _ _ J17.dir), rfl⟩, _, rfl, by omega, by rw [List.length_map]; omega, for_range (lo := 0) (n := _) (fun j σ H' => Ex H17 H' ∧ ∃ x9 x10 x11, σ = [some (.ref a), some (.ref tr), some (.int (0 + (k : Int))), some (.ref b), some (.int named), some (.bl (decide (V.int g = V.int 7))), some (.int (0 + (i : Int))), some (.ref A), some (.ref Du), x9, x10, x11])
              ⟨e18, _, _, _, rfl⟩ ?_ ?_⟩
            · rintro j σ H19 hj ⟨e19, x9'', x10'', x11'', rfl⟩
              rw [List.length_map] at hj
              have hj' : j < ts16.length := by omega
              have htj : ts16[j]? = some ts16[j] := List.getElem?_eq_getElem hj'
              have hvj : vs[j]? = some (vs[j]'(by omega)) := List.getElem?_eq_getElem _
              obtain ⟨kind, vt, xs, ds, b1, b2, b3, b4, b5⟩ := all j _ _ hvj htj
              have e16 := e17.trans e19
              have hrj : (ts16.map V.ref)[j]? = some (.ref ts16[j]) := by rw [List.getElem?_map, htj]; rfl
              have dir := e19 _ _ J17.dir
              have hz : (0 : Int) + (j : Int) = ((j : Nat) : Int) := Int.zero_add _
              refine ⟨_, rfl, _, rfl, _, _, _, _, rfl, rfl, SqL.of dir, at_of hz hrj, _, _, _, _, rfl, rfl, SqT.of (e16 _ _ b1), rfl, ?_⟩
              refine ⟨_, rfl, _, rfl, _, _, rfl, rfl, _, rfl, _, _, rfl, rfl, .inl ⟨_, rfl, _, _, rfl, rfl, (by show (0 : Int) < 2; decide), ?_⟩⟩
              refine ⟨_, rfl, _, rfl, _, _, _, _, rfl, rfl, SqL.of dir, at_of hz hrj, _, _, _, _, rfl, rfl, SqT.of (e16 _ _ b1), rfl, ?_⟩
              refine ⟨_, rfl, _, rfl, _, _, _, _, rfl, rfl, SqL.of (e19 _ _ hvs), at_of hz hvj, ?_⟩
              refine ⟨kind, _, vt, _, xs, ds, 3, _, rfl, SqT.of (e16 _ _ b2), b3.ex e16, by decide, b4, b5.ex e19, fun H20 e20 => ⟨true, rfl, iteF ⟨e19.trans e20, _, _, _, rfl⟩⟩⟩
            · rintro σ H20 ⟨e20, x9'', x10'', x11'', rfl⟩
              exact ⟨e20, _, _, _, _, rfl⟩
          · rintro σ H20 ⟨e20, x6', x9', x10', x11', rfl⟩
            exact ⟨e1.trans (J17.ex.trans e20), _, _, _, _, _, _, _, _, _, _, rfl⟩
  · rintro σ H1 _
    exact q H1
end
end L2.U


set_option Elab.async false
set_option linter.all false
set_option maxRecDepth 100000
set_option maxHeartbeats 4000000
namespace L2.U
open PySem PySem.Spec PyProof.Rows Evl
theorem exm_of {K : PySem.W.Frag} {C D : Addr} {b : Bool} (h1 : PySem.W.subIn K (.ref D) (.type "BaseException") = some true) (h2 : PySem.W.isClsIn K D = true) (h3 : PySem.W.typeIn K (.ref D) = some (.type "type"))
    (h4 : PySem.W.subIn K (.ref C) (.ref D) = some b) : PySem.W.exmOne K (.ref C) (.ref D) = some b := by
  have h2' : (PySem.W.clsIn K D).isSome = true := h2
  unfold PySem.W.exmOne
  rw [h1, if_pos (by rfl)]
  unfold PySem.W.kitCls
  simp only [h2', h3, h4, beq_self_eq_true, Bool.and_self, if_true]
def mkDef {K : PySem.W.Frag} {h : Heap} {mg : Str → Option Value} (X : K.In h) (G : h.Ns mainGlobals mg) {x : Str} {st : Stmt} {ps : List Str} {f : Addr} {od an : Option Addr} {sl : Array (Option Value)} {oc kV dc pm cd ct : Value}
    (a : PySem.W.nsIn K mainGlobals x = some (some (.ref f))) (l : K.lookup f = some ⟨oc, od, .func (PySem.W.fnOf x x (defArgs st) (defBody st) (defScope st) .none kV dc pm an cd ct), sl⟩) (c : PySem.W.codeIn K cd x = true) (k : PySem.W.keepIn K (.ref f) = true)
    (h2 : ∀ (kV doc pm : Value) (an : Option Addr) (cdv ct : Value) (us : List Value), us.length = ps.length → bindArgs (PySem.W.fnOf x x (defArgs st) (defBody st) (defScope st) .none kV doc pm an cdv ct) ⟨us, []⟩ = pure (ps.zip us)) : DefAt K mg x st ps :=
  ⟨f, _, fun_mk (st := st) l c k, PySem.W.mg_of X G a, (fun_mk (st := st) l c k).binds h2⟩

theorem all_mk {l : PySem.W.OpenLaw} {w : World} {K : PySem.W.Frag} {h : Heap} {mg : Str → Option Value} {fa : Addr} (X : K.In h) (G : h.Ns mainGlobals mg) (hfa : mg "law" = some (.ref fa))
    {f1 : Addr} {od1 an1 : Option Addr} {sl1 : Array (Option Value)} {oc1 kV1 dc1 pm1 cd1 ct1 : Value}
    {f2 : Addr} {od2 an2 : Option Addr} {sl2 : Array (Option Value)} {oc2 kV2 dc2 pm2 cd2 ct2 : Value}
    {f3 : Addr} {od3 an3 : Option Addr} {sl3 : Array (Option Value)} {oc3 kV3 dc3 pm3 cd3 ct3 : Value}
    {f4 : Addr} {od4 an4 : Option Addr} {sl4 : Array (Option Value)} {oc4 kV4 dc4 pm4 cd4 ct4 : Value}
    {f5 : Addr} {od5 an5 : Option Addr} {sl5 : Array (Option Value)} {oc5 kV5 dc5 pm5 cd5 ct5 : Value}
    {f6 : Addr} {od6 an6 : Option Addr} {sl6 : Array (Option Value)} {oc6 kV6 dc6 pm6 cd6 ct6 : Value}
    {f7 : Addr} {od7 an7 : Option Addr} {sl7 : Array (Option Value)} {oc7 kV7 dc7 pm7 cd7 ct7 : Value}
    {f8 : Addr} {od8 an8 : Option Addr} {sl8 : Array (Option Value)} {oc8 kV8 dc8 pm8 cd8 ct8 : Value}
    {f9 : Addr} {od9 an9 : Option Addr} {sl9 : Array (Option Value)} {oc9 kV9 dc9 pm9 cd9 ct9 : Value}
    {f10 : Addr} {od10 an10 : Option Addr} {sl10 : Array (Option Value)} {oc10 kV10 dc10 pm10 cd10 ct10 : Value}
    {f11 : Addr} {od11 an11 : Option Addr} {sl11 : Array (Option Value)} {oc11 kV11 dc11 pm11 cd11 ct11 : Value}
    {f12 : Addr} {od12 an12 : Option Addr} {sl12 : Array (Option Value)} {oc12 kV12 dc12 pm12 cd12 ct12 : Value}
    {f13 : Addr} {od13 an13 : Option Addr} {sl13 : Array (Option Value)} {oc13 kV13 dc13 pm13 cd13 ct13 : Value}
    {f14 : Addr} {od14 an14 : Option Addr} {sl14 : Array (Option Value)} {oc14 kV14 dc14 pm14 cd14 ct14 : Value}
    {f15 : Addr} {od15 an15 : Option Addr} {sl15 : Array (Option Value)} {oc15 kV15 dc15 pm15 cd15 ct15 : Value}
    {f16 : Addr} {od16 an16 : Option Addr} {sl16 : Array (Option Value)} {oc16 kV16 dc16 pm16 cd16 ct16 : Value}
    {f17 : Addr} {od17 an17 : Option Addr} {sl17 : Array (Option Value)} {oc17 kV17 dc17 pm17 cd17 ct17 : Value}
    {f18 : Addr} {od18 an18 : Option Addr} {sl18 : Array (Option Value)} {oc18 kV18 dc18 pm18 cd18 ct18 : Value}
    {f19 : Addr} {od19 an19 : Option Addr} {sl19 : Array (Option Value)} {oc19 kV19 dc19 pm19 cd19 ct19 : Value}
    {f20 : Addr} {od20 an20 : Option Addr} {sl20 : Array (Option Value)} {oc20 kV20 dc20 pm20 cd20 ct20 : Value}
    {f21 : Addr} {od21 an21 : Option Addr} {sl21 : Array (Option Value)} {oc21 kV21 dc21 pm21 cd21 ct21 : Value}
    {f22 : Addr} {od22 an22 : Option Addr} {sl22 : Array (Option Value)} {oc22 kV22 dc22 pm22 cd22 ct22 : Value}
    {f23 : Addr} {od23 an23 : Option Addr} {sl23 : Array (Option Value)} {oc23 kV23 dc23 pm23 cd23 ct23 : Value}
    {f24 : Addr} {od24 an24 : Option Addr} {sl24 : Array (Option Value)} {oc24 kV24 dc24 pm24 cd24 ct24 : Value}
    {f25 : Addr} {od25 an25 : Option Addr} {sl25 : Array (Option Value)} {oc25 kV25 dc25 pm25 cd25 ct25 : Value}
    {f26 : Addr} {od26 an26 : Option Addr} {sl26 : Array (Option Value)} {oc26 kV26 dc26 pm26 cd26 ct26 : Value}
    {f27 : Addr} {od27 an27 : Option Addr} {sl27 : Array (Option Value)} {oc27 kV27 dc27 pm27 cd27 ct27 : Value}
    {f28 : Addr} {od28 an28 : Option Addr} {sl28 : Array (Option Value)} {oc28 kV28 dc28 pm28 cd28 ct28 : Value}
    {f29 : Addr} {od29 an29 : Option Addr} {sl29 : Array (Option Value)} {oc29 kV29 dc29 pm29 cd29 ct29 : Value}
    {f30 : Addr} {od30 an30 : Option Addr} {sl30 : Array (Option Value)} {oc30 kV30 dc30 pm30 cd30 ct30 : Value}
    {f31 : Addr} {od31 an31 : Option Addr} {sl31 : Array (Option Value)} {oc31 kV31 dc31 pm31 cd31 ct31 : Value}
    {t_HIGHEST : Tok}
    {CT : Addr}
    {CInvalidNumber NInvalidNumber fIInvalidNumber : Addr} {nmInvalidNumber qInvalidNumber : Str} {bsInvalidNumber : List Value} {snInvalidNumber : List Str} {subInvalidNumber : List Value} {abInvalidNumber : Bool} {colInvalidNumber : Option Bool} {ddInvalidNumber : Option Addr} {m0InvalidNumber m1InvalidNumber m2InvalidNumber m3InvalidNumber m5InvalidNumber : Option Value}
    {odInvalidNumber anInvalidNumber : Option Addr} {slInvalidNumber : Array (Option Value)} {ocInvalidNumber kVInvalidNumber dcInvalidNumber pmInvalidNumber cdInvalidNumber ctInvalidNumber : Value}
    {CInvalidMany NInvalidMany fIInvalidMany : Addr} {nmInvalidMany qInvalidMany : Str} {bsInvalidMany : List Value} {snInvalidMany : List Str} {subInvalidMany : List Value} {abInvalidMany : Bool} {colInvalidMany : Option Bool} {ddInvalidMany : Option Addr} {m0InvalidMany m1InvalidMany m2InvalidMany m3InvalidMany m5InvalidMany : Option Value}
    {odInvalidMany anInvalidMany : Option Addr} {slInvalidMany : Array (Option Value)} {ocInvalidMany kVInvalidMany dcInvalidMany pmInvalidMany cdInvalidMany ctInvalidMany : Value}
    {CInvalidParts NInvalidParts fIInvalidParts : Addr} {nmInvalidParts qInvalidParts : Str} {bsInvalidParts : List Value} {snInvalidParts : List Str} {subInvalidParts : List Value} {abInvalidParts : Bool} {colInvalidParts : Option Bool} {ddInvalidParts : Option Addr} {m0InvalidParts m1InvalidParts m2InvalidParts m3InvalidParts m5InvalidParts : Option Value}
    {odInvalidParts anInvalidParts : Option Addr} {slInvalidParts : Array (Option Value)} {ocInvalidParts kVInvalidParts dcInvalidParts pmInvalidParts cdInvalidParts ctInvalidParts : Value}
    {CInvalidRest NInvalidRest fIInvalidRest : Addr} {nmInvalidRest qInvalidRest : Str} {bsInvalidRest : List Value} {snInvalidRest : List Str} {subInvalidRest : List Value} {abInvalidRest : Bool} {colInvalidRest : Option Bool} {ddInvalidRest : Option Addr} {m0InvalidRest m1InvalidRest m2InvalidRest m3InvalidRest m5InvalidRest : Option Value}
    {odInvalidRest anInvalidRest : Option Addr} {slInvalidRest : Array (Option Value)} {ocInvalidRest kVInvalidRest dcInvalidRest pmInvalidRest cdInvalidRest ctInvalidRest : Value}
    (a1 : PySem.W.nsIn K mainGlobals "is_integer" = some (some (.ref f1)))
    (l1 : K.lookup f1 = some ⟨oc1, od1, .func (PySem.W.fnOf "is_integer" "is_integer" (defArgs s_is_integer) (defBody s_is_integer) (defScope s_is_integer) .none kV1 dc1 pm1 an1 cd1 ct1), sl1⟩)
    (c1 : PySem.W.codeIn K cd1 "is_integer" = true)
    (k1 : PySem.W.keepIn K (.ref f1) = true)
    (a2 : PySem.W.nsIn K mainGlobals "is_between" = some (some (.ref f2)))
    (l2 : K.lookup f2 = some ⟨oc2, od2, .func (PySem.W.fnOf "is_between" "is_between" (defArgs s_is_between) (defBody s_is_between) (defScope s_is_between) .none kV2 dc2 pm2 an2 cd2 ct2), sl2⟩)
    (c2 : PySem.W.codeIn K cd2 "is_between" = true)
    (k2 : PySem.W.keepIn K (.ref f2) = true)
    (a3 : PySem.W.nsIn K mainGlobals "is_from" = some (some (.ref f3)))
    (l3 : K.lookup f3 = some ⟨oc3, od3, .func (PySem.W.fnOf "is_from" "is_from" (defArgs s_is_from) (defBody s_is_from) (defScope s_is_from) .none kV3 dc3 pm3 an3 cd3 ct3), sl3⟩)
    (c3 : PySem.W.codeIn K cd3 "is_from" = true)
    (k3 : PySem.W.keepIn K (.ref f3) = true)
    (a4 : PySem.W.nsIn K mainGlobals "is_list" = some (some (.ref f4)))
    (l4 : K.lookup f4 = some ⟨oc4, od4, .func (PySem.W.fnOf "is_list" "is_list" (defArgs s_is_list) (defBody s_is_list) (defScope s_is_list) .none kV4 dc4 pm4 an4 cd4 ct4), sl4⟩)
    (c4 : PySem.W.codeIn K cd4 "is_list" = true)
    (k4 : PySem.W.keepIn K (.ref f4) = true)
    (a5 : PySem.W.nsIn K mainGlobals "are_from" = some (some (.ref f5)))
    (l5 : K.lookup f5 = some ⟨oc5, od5, .func (PySem.W.fnOf "are_from" "are_from" (defArgs s_are_from) (defBody s_are_from) (defScope s_are_from) .none kV5 dc5 pm5 an5 cd5 ct5), sl5⟩)
    (c5 : PySem.W.codeIn K cd5 "are_from" = true)
    (k5 : PySem.W.keepIn K (.ref f5) = true)
    (a6 : PySem.W.nsIn K mainGlobals "factorial" = some (some (.ref f6)))
    (l6 : K.lookup f6 = some ⟨oc6, od6, .func (PySem.W.fnOf "factorial" "factorial" (defArgs s_factorial) (defBody s_factorial) (defScope s_factorial) .none kV6 dc6 pm6 an6 cd6 ct6), sl6⟩)
    (c6 : PySem.W.codeIn K cd6 "factorial" = true)
    (k6 : PySem.W.keepIn K (.ref f6) = true)
    (a7 : PySem.W.nsIn K mainGlobals "choose" = some (some (.ref f7)))
    (l7 : K.lookup f7 = some ⟨oc7, od7, .func (PySem.W.fnOf "choose" "choose" (defArgs s_choose) (defBody s_choose) (defScope s_choose) .none kV7 dc7 pm7 an7 cd7 ct7), sl7⟩)
    (c7 : PySem.W.codeIn K cd7 "choose" = true)
    (k7 : PySem.W.keepIn K (.ref f7) = true)
    (a8 : PySem.W.nsIn K mainGlobals "arrangements" = some (some (.ref f8)))
    (l8 : K.lookup f8 = some ⟨oc8, od8, .func (PySem.W.fnOf "arrangements" "arrangements" (defArgs s_arrangements) (defBody s_arrangements) (defScope s_arrangements) .none kV8 dc8 pm8 an8 cd8 ct8), sl8⟩)
    (c8 : PySem.W.codeIn K cd8 "arrangements" = true)
    (k8 : PySem.W.keepIn K (.ref f8) = true)
    (a9 : PySem.W.nsIn K mainGlobals "even_parts" = some (some (.ref f9)))
    (l9 : K.lookup f9 = some ⟨oc9, od9, .func (PySem.W.fnOf "even_parts" "even_parts" (defArgs s_even_parts) (defBody s_even_parts) (defScope s_even_parts) .none kV9 dc9 pm9 an9 cd9 ct9), sl9⟩)
    (c9 : PySem.W.codeIn K cd9 "even_parts" = true)
    (k9 : PySem.W.keepIn K (.ref f9) = true)
    (a10 : PySem.W.nsIn K mainGlobals "most_arranged" = some (some (.ref f10)))
    (l10 : K.lookup f10 = some ⟨oc10, od10, .func (PySem.W.fnOf "most_arranged" "most_arranged" (defArgs s_most_arranged) (defBody s_most_arranged) (defScope s_most_arranged) .none kV10 dc10 pm10 an10 cd10 ct10), sl10⟩)
    (c10 : PySem.W.codeIn K cd10 "most_arranged" = true)
    (k10 : PySem.W.keepIn K (.ref f10) = true)
    (a11 : PySem.W.nsIn K mainGlobals "_check_number" = some (some (.ref f11)))
    (l11 : K.lookup f11 = some ⟨oc11, od11, .func (PySem.W.fnOf "_check_number" "_check_number" (defArgs s_check_number) (defBody s_check_number) (defScope s_check_number) .none kV11 dc11 pm11 an11 cd11 ct11), sl11⟩)
    (c11 : PySem.W.codeIn K cd11 "_check_number" = true)
    (k11 : PySem.W.keepIn K (.ref f11) = true)
    (a12 : PySem.W.nsIn K mainGlobals "_check_many" = some (some (.ref f12)))
    (l12 : K.lookup f12 = some ⟨oc12, od12, .func (PySem.W.fnOf "_check_many" "_check_many" (defArgs s_check_many) (defBody s_check_many) (defScope s_check_many) .none kV12 dc12 pm12 an12 cd12 ct12), sl12⟩)
    (c12 : PySem.W.codeIn K cd12 "_check_many" = true)
    (k12 : PySem.W.keepIn K (.ref f12) = true)
    (a13 : PySem.W.nsIn K mainGlobals "_law_cell" = some (some (.ref f13)))
    (l13 : K.lookup f13 = some ⟨oc13, od13, .func (PySem.W.fnOf "_law_cell" "_law_cell" (defArgs s_law_cell) (defBody s_law_cell) (defScope s_law_cell) .none kV13 dc13 pm13 an13 cd13 ct13), sl13⟩)
    (c13 : PySem.W.codeIn K cd13 "_law_cell" = true)
    (k13 : PySem.W.keepIn K (.ref f13) = true)
    (a14 : PySem.W.nsIn K mainGlobals "_law_box" = some (some (.ref f14)))
    (l14 : K.lookup f14 = some ⟨oc14, od14, .func (PySem.W.fnOf "_law_box" "_law_box" (defArgs s_law_box) (defBody s_law_box) (defScope s_law_box) .none kV14 dc14 pm14 an14 cd14 ct14), sl14⟩)
    (c14 : PySem.W.codeIn K cd14 "_law_box" = true)
    (k14 : PySem.W.keepIn K (.ref f14) = true)
    (a15 : PySem.W.nsIn K mainGlobals "_law_take" = some (some (.ref f15)))
    (l15 : K.lookup f15 = some ⟨oc15, od15, .func (PySem.W.fnOf "_law_take" "_law_take" (defArgs s_law_take) (defBody s_law_take) (defScope s_law_take) .none kV15 dc15 pm15 an15 cd15 ct15), sl15⟩)
    (c15 : PySem.W.codeIn K cd15 "_law_take" = true)
    (k15 : PySem.W.keepIn K (.ref f15) = true)
    (a16 : PySem.W.nsIn K mainGlobals "_law_same" = some (some (.ref f16)))
    (l16 : K.lookup f16 = some ⟨oc16, od16, .func (PySem.W.fnOf "_law_same" "_law_same" (defArgs s_law_same) (defBody s_law_same) (defScope s_law_same) .none kV16 dc16 pm16 an16 cd16 ct16), sl16⟩)
    (c16 : PySem.W.codeIn K cd16 "_law_same" = true)
    (k16 : PySem.W.keepIn K (.ref f16) = true)
    (a17 : PySem.W.nsIn K mainGlobals "_law_triangle" = some (some (.ref f17)))
    (l17 : K.lookup f17 = some ⟨oc17, od17, .func (PySem.W.fnOf "_law_triangle" "_law_triangle" (defArgs s_law_triangle) (defBody s_law_triangle) (defScope s_law_triangle) .none kV17 dc17 pm17 an17 cd17 ct17), sl17⟩)
    (c17 : PySem.W.codeIn K cd17 "_law_triangle" = true)
    (k17 : PySem.W.keepIn K (.ref f17) = true)
    (a18 : PySem.W.nsIn K mainGlobals "_law_listed" = some (some (.ref f18)))
    (l18 : K.lookup f18 = some ⟨oc18, od18, .func (PySem.W.fnOf "_law_listed" "_law_listed" (defArgs s_law_listed) (defBody s_law_listed) (defScope s_law_listed) .none kV18 dc18 pm18 an18 cd18 ct18), sl18⟩)
    (c18 : PySem.W.codeIn K cd18 "_law_listed" = true)
    (k18 : PySem.W.keepIn K (.ref f18) = true)
    (a19 : PySem.W.nsIn K mainGlobals "_law_is_between" = some (some (.ref f19)))
    (l19 : K.lookup f19 = some ⟨oc19, od19, .func (PySem.W.fnOf "_law_is_between" "_law_is_between" (defArgs s_law_is_between) (defBody s_law_is_between) (defScope s_law_is_between) .none kV19 dc19 pm19 an19 cd19 ct19), sl19⟩)
    (c19 : PySem.W.codeIn K cd19 "_law_is_between" = true)
    (k19 : PySem.W.keepIn K (.ref f19) = true)
    (a20 : PySem.W.nsIn K mainGlobals "_law_are_parts" = some (some (.ref f20)))
    (l20 : K.lookup f20 = some ⟨oc20, od20, .func (PySem.W.fnOf "_law_are_parts" "_law_are_parts" (defArgs s_law_are_parts) (defBody s_law_are_parts) (defScope s_law_are_parts) .none kV20 dc20 pm20 an20 cd20 ct20), sl20⟩)
    (c20 : PySem.W.codeIn K cd20 "_law_are_parts" = true)
    (k20 : PySem.W.keepIn K (.ref f20) = true)
    (a21 : PySem.W.nsIn K mainGlobals "_law_refused" = some (some (.ref f21)))
    (l21 : K.lookup f21 = some ⟨oc21, od21, .func (PySem.W.fnOf "_law_refused" "_law_refused" (defArgs s_law_refused) (defBody s_law_refused) (defScope s_law_refused) .none kV21 dc21 pm21 an21 cd21 ct21), sl21⟩)
    (c21 : PySem.W.codeIn K cd21 "_law_refused" = true)
    (k21 : PySem.W.keepIn K (.ref f21) = true)
    (a22 : PySem.W.nsIn K mainGlobals "_law_asked" = some (some (.ref f22)))
    (l22 : K.lookup f22 = some ⟨oc22, od22, .func (PySem.W.fnOf "_law_asked" "_law_asked" (defArgs s_law_asked) (defBody s_law_asked) (defScope s_law_asked) .none kV22 dc22 pm22 an22 cd22 ct22), sl22⟩)
    (c22 : PySem.W.codeIn K cd22 "_law_asked" = true)
    (k22 : PySem.W.keepIn K (.ref f22) = true)
    (a23 : PySem.W.nsIn K mainGlobals "_law_told" = some (some (.ref f23)))
    (l23 : K.lookup f23 = some ⟨oc23, od23, .func (PySem.W.fnOf "_law_told" "_law_told" (defArgs s_law_told) (defBody s_law_told) (defScope s_law_told) .none kV23 dc23 pm23 an23 cd23 ct23), sl23⟩)
    (c23 : PySem.W.codeIn K cd23 "_law_told" = true)
    (k23 : PySem.W.keepIn K (.ref f23) = true)
    (a24 : PySem.W.nsIn K mainGlobals "_law_due" = some (some (.ref f24)))
    (l24 : K.lookup f24 = some ⟨oc24, od24, .func (PySem.W.fnOf "_law_due" "_law_due" (defArgs s_law_due) (defBody s_law_due) (defScope s_law_due) .none kV24 dc24 pm24 an24 cd24 ct24), sl24⟩)
    (c24 : PySem.W.codeIn K cd24 "_law_due" = true)
    (k24 : PySem.W.keepIn K (.ref f24) = true)
    (a25 : PySem.W.nsIn K mainGlobals "_law_right" = some (some (.ref f25)))
    (l25 : K.lookup f25 = some ⟨oc25, od25, .func (PySem.W.fnOf "_law_right" "_law_right" (defArgs s_law_right) (defBody s_law_right) (defScope s_law_right) .none kV25 dc25 pm25 an25 cd25 ct25), sl25⟩)
    (c25 : PySem.W.codeIn K cd25 "_law_right" = true)
    (k25 : PySem.W.keepIn K (.ref f25) = true)
    (a26 : PySem.W.nsIn K mainGlobals "_law_odd" = some (some (.ref f26)))
    (l26 : K.lookup f26 = some ⟨oc26, od26, .func (PySem.W.fnOf "_law_odd" "_law_odd" (defArgs s_law_odd) (defBody s_law_odd) (defScope s_law_odd) .none kV26 dc26 pm26 an26 cd26 ct26), sl26⟩)
    (c26 : PySem.W.codeIn K cd26 "_law_odd" = true)
    (k26 : PySem.W.keepIn K (.ref f26) = true)
    (a27 : PySem.W.nsIn K mainGlobals "_law_parts" = some (some (.ref f27)))
    (l27 : K.lookup f27 = some ⟨oc27, od27, .func (PySem.W.fnOf "_law_parts" "_law_parts" (defArgs s_law_parts) (defBody s_law_parts) (defScope s_law_parts) .none kV27 dc27 pm27 an27 cd27 ct27), sl27⟩)
    (c27 : PySem.W.codeIn K cd27 "_law_parts" = true)
    (k27 : PySem.W.keepIn K (.ref f27) = true)
    (a28 : PySem.W.nsIn K mainGlobals "_law_spoilt" = some (some (.ref f28)))
    (l28 : K.lookup f28 = some ⟨oc28, od28, .func (PySem.W.fnOf "_law_spoilt" "_law_spoilt" (defArgs s_law_spoilt) (defBody s_law_spoilt) (defScope s_law_spoilt) .none kV28 dc28 pm28 an28 cd28 ct28), sl28⟩)
    (c28 : PySem.W.codeIn K cd28 "_law_spoilt" = true)
    (k28 : PySem.W.keepIn K (.ref f28) = true)
    (a29 : PySem.W.nsIn K mainGlobals "_law_wish" = some (some (.ref f29)))
    (l29 : K.lookup f29 = some ⟨oc29, od29, .func (PySem.W.fnOf "_law_wish" "_law_wish" (defArgs s_law_wish) (defBody s_law_wish) (defScope s_law_wish) .none kV29 dc29 pm29 an29 cd29 ct29), sl29⟩)
    (c29 : PySem.W.codeIn K cd29 "_law_wish" = true)
    (k29 : PySem.W.keepIn K (.ref f29) = true)
    (a30 : PySem.W.nsIn K mainGlobals "_law_great" = some (some (.ref f30)))
    (l30 : K.lookup f30 = some ⟨oc30, od30, .func (PySem.W.fnOf "_law_great" "_law_great" (defArgs s_law_great) (defBody s_law_great) (defScope s_law_great) .none kV30 dc30 pm30 an30 cd30 ct30), sl30⟩)
    (c30 : PySem.W.codeIn K cd30 "_law_great" = true)
    (k30 : PySem.W.keepIn K (.ref f30) = true)
    (a31 : PySem.W.nsIn K mainGlobals "law" = some (some (.ref f31)))
    (l31 : K.lookup f31 = some ⟨oc31, od31, .func (PySem.W.fnOf "law" "law" (defArgs s_law) (defBody s_law) (defScope s_law) .none kV31 dc31 pm31 an31 cd31 ct31), sl31⟩)
    (c31 : PySem.W.codeIn K cd31 "law" = true)
    (k31 : PySem.W.keepIn K (.ref f31) = true)
    (z_int : PySem.W.nsIn K mainGlobals "int" = some none)
    (z_bool : PySem.W.nsIn K mainGlobals "bool" = some none)
    (z_str : PySem.W.nsIn K mainGlobals "str" = some none)
    (z_list : PySem.W.nsIn K mainGlobals "list" = some none)
    (z_tuple : PySem.W.nsIn K mainGlobals "tuple" = some none)
    (z_len : PySem.W.nsIn K mainGlobals "len" = some none)
    (z_sum : PySem.W.nsIn K mainGlobals "sum" = some none)
    (z_abs : PySem.W.nsIn K mainGlobals "abs" = some none)
    (z_all : PySem.W.nsIn K mainGlobals "all" = some none)
    (z_range : PySem.W.nsIn K mainGlobals "range" = some none)
    (z_isinstance : PySem.W.nsIn K mainGlobals "isinstance" = some none)
    (z_dict : PySem.W.nsIn K mainGlobals "dict" = some none)
    (z_max : PySem.W.nsIn K mainGlobals "max" = some none)
    (z_min : PySem.W.nsIn K mainGlobals "min" = some none)
    (z_sorted : PySem.W.nsIn K mainGlobals "sorted" = some none)
    (c_HIGHEST : PySem.W.nsIn K mainGlobals "HIGHEST" = some (some (.int 64 t_HIGHEST)))
    (c_comb : PySem.W.nsIn K mainGlobals "comb" = some (some (.builtin "math.comb")))
    (aCT : PySem.W.nsIn K mainGlobals "TalkError" = some (some (.ref CT)))
    (aCInvalidNumber : PySem.W.nsIn K mainGlobals "InvalidNumber" = some (some (.ref CInvalidNumber)))
    (xLInvalidNumber : K.lookup CInvalidNumber = some (excClassObj nmInvalidNumber qInvalidNumber CInvalidNumber NInvalidNumber bsInvalidNumber [.ref CT, .type "ValueError", .type "Exception", .type "BaseException", .type "object"] true snInvalidNumber subInvalidNumber abInvalidNumber colInvalidNumber ddInvalidNumber m0InvalidNumber m1InvalidNumber m2InvalidNumber m3InvalidNumber m5InvalidNumber "ValueError.__new__"))
    (saInvalidNumber : PySem.W.findIn K (.ref CInvalidNumber) "__setattr__" = some (some (.builtin "object.__setattr__")))
    (gaInvalidNumber : PySem.W.findIn K (.ref CInvalidNumber) "__getattribute__" = some (some (.builtin "BaseException.__getattribute__")))
    (ggInvalidNumber : PySem.W.findIn K (.ref CInvalidNumber) "__getattr__" = some none)
    (nbInvalidNumber : PySem.W.findIn K (.ref CInvalidNumber) "given" = some none)
    (iCInvalidNumber : PySem.W.findIn K (.ref CInvalidNumber) "__init__" = some (some (.ref fIInvalidNumber)))
    (tIInvalidNumber : PySem.W.typeIn K (.ref fIInvalidNumber) = some (.type "function"))
    (lIInvalidNumber : K.lookup fIInvalidNumber = some ⟨ocInvalidNumber, odInvalidNumber, .func (PySem.W.fnOf "__init__" "InvalidNumber.__init__" (defArgs s_init_InvalidNumber) (defBody s_init_InvalidNumber) (defScope s_init_InvalidNumber) .none kVInvalidNumber dcInvalidNumber pmInvalidNumber anInvalidNumber cdInvalidNumber ctInvalidNumber), slInvalidNumber⟩)
    (cIInvalidNumber : PySem.W.codeIn K cdInvalidNumber "InvalidNumber.__init__" = true)
    (kIInvalidNumber : PySem.W.keepIn K (.ref fIInvalidNumber) = true)
    (kCInvalidNumber : PySem.W.keepIn K (.ref CInvalidNumber) = true)
    (eCInvalidNumber : PySem.W.subIn K (.ref CInvalidNumber) (.type "BaseException") = some true)
    (tCInvalidNumber : PySem.W.typeIn K (.ref CInvalidNumber) = some (.type "type"))
    (hCInvalidNumber : PySem.W.hasDictIn K CInvalidNumber = true)
    (iSInvalidNumber : PySem.W.isClsIn K CInvalidNumber = true)
    (aCInvalidMany : PySem.W.nsIn K mainGlobals "InvalidMany" = some (some (.ref CInvalidMany)))
    (xLInvalidMany : K.lookup CInvalidMany = some (excClassObj nmInvalidMany qInvalidMany CInvalidMany NInvalidMany bsInvalidMany [.ref CT, .type "ValueError", .type "Exception", .type "BaseException", .type "object"] true snInvalidMany subInvalidMany abInvalidMany colInvalidMany ddInvalidMany m0InvalidMany m1InvalidMany m2InvalidMany m3InvalidMany m5InvalidMany "ValueError.__new__"))
    (saInvalidMany : PySem.W.findIn K (.ref CInvalidMany) "__setattr__" = some (some (.builtin "object.__setattr__")))
    (gaInvalidMany : PySem.W.findIn K (.ref CInvalidMany) "__getattribute__" = some (some (.builtin "BaseException.__getattribute__")))
    (ggInvalidMany : PySem.W.findIn K (.ref CInvalidMany) "__getattr__" = some none)
    (nbInvalidMany : PySem.W.findIn K (.ref CInvalidMany) "given" = some none)
    (iCInvalidMany : PySem.W.findIn K (.ref CInvalidMany) "__init__" = some (some (.ref fIInvalidMany)))
    (tIInvalidMany : PySem.W.typeIn K (.ref fIInvalidMany) = some (.type "function"))
    (lIInvalidMany : K.lookup fIInvalidMany = some ⟨ocInvalidMany, odInvalidMany, .func (PySem.W.fnOf "__init__" "InvalidMany.__init__" (defArgs s_init_InvalidMany) (defBody s_init_InvalidMany) (defScope s_init_InvalidMany) .none kVInvalidMany dcInvalidMany pmInvalidMany anInvalidMany cdInvalidMany ctInvalidMany), slInvalidMany⟩)
    (cIInvalidMany : PySem.W.codeIn K cdInvalidMany "InvalidMany.__init__" = true)
    (kIInvalidMany : PySem.W.keepIn K (.ref fIInvalidMany) = true)
    (kCInvalidMany : PySem.W.keepIn K (.ref CInvalidMany) = true)
    (eCInvalidMany : PySem.W.subIn K (.ref CInvalidMany) (.type "BaseException") = some true)
    (tCInvalidMany : PySem.W.typeIn K (.ref CInvalidMany) = some (.type "type"))
    (hCInvalidMany : PySem.W.hasDictIn K CInvalidMany = true)
    (iSInvalidMany : PySem.W.isClsIn K CInvalidMany = true)
    (aCInvalidParts : PySem.W.nsIn K mainGlobals "InvalidParts" = some (some (.ref CInvalidParts)))
    (xLInvalidParts : K.lookup CInvalidParts = some (excClassObj nmInvalidParts qInvalidParts CInvalidParts NInvalidParts bsInvalidParts [.ref CT, .type "ValueError", .type "Exception", .type "BaseException", .type "object"] true snInvalidParts subInvalidParts abInvalidParts colInvalidParts ddInvalidParts m0InvalidParts m1InvalidParts m2InvalidParts m3InvalidParts m5InvalidParts "ValueError.__new__"))
    (saInvalidParts : PySem.W.findIn K (.ref CInvalidParts) "__setattr__" = some (some (.builtin "object.__setattr__")))
    (gaInvalidParts : PySem.W.findIn K (.ref CInvalidParts) "__getattribute__" = some (some (.builtin "BaseException.__getattribute__")))
    (ggInvalidParts : PySem.W.findIn K (.ref CInvalidParts) "__getattr__" = some none)
    (nbInvalidParts : PySem.W.findIn K (.ref CInvalidParts) "given" = some none)
    (iCInvalidParts : PySem.W.findIn K (.ref CInvalidParts) "__init__" = some (some (.ref fIInvalidParts)))
    (tIInvalidParts : PySem.W.typeIn K (.ref fIInvalidParts) = some (.type "function"))
    (lIInvalidParts : K.lookup fIInvalidParts = some ⟨ocInvalidParts, odInvalidParts, .func (PySem.W.fnOf "__init__" "InvalidParts.__init__" (defArgs s_init_InvalidParts) (defBody s_init_InvalidParts) (defScope s_init_InvalidParts) .none kVInvalidParts dcInvalidParts pmInvalidParts anInvalidParts cdInvalidParts ctInvalidParts), slInvalidParts⟩)
    (cIInvalidParts : PySem.W.codeIn K cdInvalidParts "InvalidParts.__init__" = true)
    (kIInvalidParts : PySem.W.keepIn K (.ref fIInvalidParts) = true)
    (kCInvalidParts : PySem.W.keepIn K (.ref CInvalidParts) = true)
    (eCInvalidParts : PySem.W.subIn K (.ref CInvalidParts) (.type "BaseException") = some true)
    (tCInvalidParts : PySem.W.typeIn K (.ref CInvalidParts) = some (.type "type"))
    (hCInvalidParts : PySem.W.hasDictIn K CInvalidParts = true)
    (iSInvalidParts : PySem.W.isClsIn K CInvalidParts = true)
    (aCInvalidRest : PySem.W.nsIn K mainGlobals "InvalidRest" = some (some (.ref CInvalidRest)))
    (xLInvalidRest : K.lookup CInvalidRest = some (excClassObj nmInvalidRest qInvalidRest CInvalidRest NInvalidRest bsInvalidRest [.ref CT, .type "ValueError", .type "Exception", .type "BaseException", .type "object"] true snInvalidRest subInvalidRest abInvalidRest colInvalidRest ddInvalidRest m0InvalidRest m1InvalidRest m2InvalidRest m3InvalidRest m5InvalidRest "ValueError.__new__"))
    (saInvalidRest : PySem.W.findIn K (.ref CInvalidRest) "__setattr__" = some (some (.builtin "object.__setattr__")))
    (gaInvalidRest : PySem.W.findIn K (.ref CInvalidRest) "__getattribute__" = some (some (.builtin "BaseException.__getattribute__")))
    (ggInvalidRest : PySem.W.findIn K (.ref CInvalidRest) "__getattr__" = some none)
    (nbInvalidRest : PySem.W.findIn K (.ref CInvalidRest) "given" = some none)
    (iCInvalidRest : PySem.W.findIn K (.ref CInvalidRest) "__init__" = some (some (.ref fIInvalidRest)))
    (tIInvalidRest : PySem.W.typeIn K (.ref fIInvalidRest) = some (.type "function"))
    (lIInvalidRest : K.lookup fIInvalidRest = some ⟨ocInvalidRest, odInvalidRest, .func (PySem.W.fnOf "__init__" "InvalidRest.__init__" (defArgs s_init_InvalidRest) (defBody s_init_InvalidRest) (defScope s_init_InvalidRest) .none kVInvalidRest dcInvalidRest pmInvalidRest anInvalidRest cdInvalidRest ctInvalidRest), slInvalidRest⟩)
    (cIInvalidRest : PySem.W.codeIn K cdInvalidRest "InvalidRest.__init__" = true)
    (kIInvalidRest : PySem.W.keepIn K (.ref fIInvalidRest) = true)
    (kCInvalidRest : PySem.W.keepIn K (.ref CInvalidRest) = true)
    (eCInvalidRest : PySem.W.subIn K (.ref CInvalidRest) (.type "BaseException") = some true)
    (tCInvalidRest : PySem.W.typeIn K (.ref CInvalidRest) = some (.type "type"))
    (hCInvalidRest : PySem.W.hasDictIn K CInvalidRest = true)
    (iSInvalidRest : PySem.W.isClsIn K CInvalidRest = true)
    (eNN : PySem.W.subIn K (.ref CInvalidNumber) (.ref CInvalidNumber) = some true)
    (eMN : PySem.W.subIn K (.ref CInvalidMany) (.ref CInvalidNumber) = some false)
    (eMM : PySem.W.subIn K (.ref CInvalidMany) (.ref CInvalidMany) = some true)
    (ePN : PySem.W.subIn K (.ref CInvalidParts) (.ref CInvalidNumber) = some false)
    (ePM : PySem.W.subIn K (.ref CInvalidParts) (.ref CInvalidMany) = some false)
    (ePP : PySem.W.subIn K (.ref CInvalidParts) (.ref CInvalidParts) = some true)
    (eRN : PySem.W.subIn K (.ref CInvalidRest) (.ref CInvalidNumber) = some false)
    (eRM : PySem.W.subIn K (.ref CInvalidRest) (.ref CInvalidMany) = some false)
    (eRP : PySem.W.subIn K (.ref CInvalidRest) (.ref CInvalidParts) = some false)
    (eRR : PySem.W.subIn K (.ref CInvalidRest) (.ref CInvalidRest) = some true) :
    ∃ fd : FuncData, (∀ (s : Shared) (v : Value), BindsTo s fd ⟨[v], []⟩ [("script", v)]) ∧ ∀ base : Heap, K.In base → base.Ns mainGlobals mg → FnOk l.prog w K mg base CX0 11 fa fd ["script"] (spLaw K) := by
  have e := hfa.symm.trans (PySem.W.mg_of X G a31)
  cases e
  let T : TK K mg := {
    is_integer := mkDef X G a1 l1 c1 k1 (fun _ _ _ _ _ _ us hl => match us, hl with | [_], _ => rfl)
    is_between := mkDef X G a2 l2 c2 k2 (fun _ _ _ _ _ _ us hl => match us, hl with | [_, _, _], _ => rfl)
    is_from := mkDef X G a3 l3 c3 k3 (fun _ _ _ _ _ _ us hl => match us, hl with | [_, _], _ => rfl)
    is_list := mkDef X G a4 l4 c4 k4 (fun _ _ _ _ _ _ us hl => match us, hl with | [_], _ => rfl)
    are_from := mkDef X G a5 l5 c5 k5 (fun _ _ _ _ _ _ us hl => match us, hl with | [_, _], _ => rfl)
    factorial := mkDef X G a6 l6 c6 k6 (fun _ _ _ _ _ _ us hl => match us, hl with | [_], _ => rfl)
    choose := mkDef X G a7 l7 c7 k7 (fun _ _ _ _ _ _ us hl => match us, hl with | [_, _], _ => rfl)
    arrangements := mkDef X G a8 l8 c8 k8 (fun _ _ _ _ _ _ us hl => match us, hl with | [_], _ => rfl)
    even_parts := mkDef X G a9 l9 c9 k9 (fun _ _ _ _ _ _ us hl => match us, hl with | [_, _], _ => rfl)
    most_arranged := mkDef X G a10 l10 c10 k10 (fun _ _ _ _ _ _ us hl => match us, hl with | [_, _, _], _ => rfl)
    check_number := mkDef X G a11 l11 c11 k11 (fun _ _ _ _ _ _ us hl => match us, hl with | [_], _ => rfl)
    check_many := mkDef X G a12 l12 c12 k12 (fun _ _ _ _ _ _ us hl => match us, hl with | [_], _ => rfl)
    law_cell := mkDef X G a13 l13 c13 k13 (fun _ _ _ _ _ _ us hl => match us, hl with | [_, _], _ => rfl)
    law_box := mkDef X G a14 l14 c14 k14 (fun _ _ _ _ _ _ us hl => match us, hl with | [_], _ => rfl)
    law_take := mkDef X G a15 l15 c15 k15 (fun _ _ _ _ _ _ us hl => match us, hl with | [_, _], _ => rfl)
    law_same := mkDef X G a16 l16 c16 k16 (fun _ _ _ _ _ _ us hl => match us, hl with | [_, _], _ => rfl)
    law_triangle := mkDef X G a17 l17 c17 k17 (fun _ _ _ _ _ _ us hl => match us, hl with | [_], _ => rfl)
    law_listed := mkDef X G a18 l18 c18 k18 (fun _ _ _ _ _ _ us hl => match us, hl with | [_, _, _, _], _ => rfl)
    law_is_between := mkDef X G a19 l19 c19 k19 (fun _ _ _ _ _ _ us hl => match us, hl with | [_, _, _], _ => rfl)
    law_are_parts := mkDef X G a20 l20 c20 k20 (fun _ _ _ _ _ _ us hl => match us, hl with | [_], _ => rfl)
    law_refused := mkDef X G a21 l21 c21 k21 (fun _ _ _ _ _ _ us hl => match us, hl with | [_, _], _ => rfl)
    law_asked := mkDef X G a22 l22 c22 k22 (fun _ _ _ _ _ _ us hl => match us, hl with | [_, _, _], _ => rfl)
    law_told := mkDef X G a23 l23 c23 k23 (fun _ _ _ _ _ _ us hl => match us, hl with | [_, _, _], _ => rfl)
    law_due := mkDef X G a24 l24 c24 k24 (fun _ _ _ _ _ _ us hl => match us, hl with | [_, _, _], _ => rfl)
    law_right := mkDef X G a25 l25 c25 k25 (fun _ _ _ _ _ _ us hl => match us, hl with | [_, _, _, _], _ => rfl)
    law_odd := mkDef X G a26 l26 c26 k26 (fun _ _ _ _ _ _ us hl => match us, hl with | [_], _ => rfl)
    law_parts := mkDef X G a27 l27 c27 k27 (fun _ _ _ _ _ _ us hl => match us, hl with | [_], _ => rfl)
    law_spoilt := mkDef X G a28 l28 c28 k28 (fun _ _ _ _ _ _ us hl => match us, hl with | [_], _ => rfl)
    law_wish := mkDef X G a29 l29 c29 k29 (fun _ _ _ _ _ _ us hl => match us, hl with | [_, _], _ => rfl)
    law_great := mkDef X G a30 l30 c30 k30 (fun _ _ _ _ _ _ us hl => match us, hl with | [_], _ => rfl)
    law := mkDef X G a31 l31 c31 k31 (fun _ _ _ _ _ _ us hl => match us, hl with | [_], _ => rfl)
    z_int := PySem.W.mg_none_of X G z_int
    z_bool := PySem.W.mg_none_of X G z_bool
    z_str := PySem.W.mg_none_of X G z_str
    z_list := PySem.W.mg_none_of X G z_list
    z_tuple := PySem.W.mg_none_of X G z_tuple
    z_len := PySem.W.mg_none_of X G z_len
    z_sum := PySem.W.mg_none_of X G z_sum
    z_abs := PySem.W.mg_none_of X G z_abs
    z_all := PySem.W.mg_none_of X G z_all
    z_range := PySem.W.mg_none_of X G z_range
    z_isinstance := PySem.W.mg_none_of X G z_isinstance
    z_dict := PySem.W.mg_none_of X G z_dict
    z_max := PySem.W.mg_none_of X G z_max
    z_min := PySem.W.mg_none_of X G z_min
    z_sorted := PySem.W.mg_none_of X G z_sorted
    t_HIGHEST := t_HIGHEST
    c_HIGHEST := PySem.W.mg_of X G c_HIGHEST
    c_comb := PySem.W.mg_of X G c_comb
    TalkError_C := CT
    TalkError_gC := PySem.W.mg_of X G aCT
    InvalidNumber := ⟨CInvalidNumber, fIInvalidNumber, _, fun_mk (st := s_init_InvalidNumber) lIInvalidNumber cIInvalidNumber kIInvalidNumber, (fun_mk (st := s_init_InvalidNumber) lIInvalidNumber cIInvalidNumber kIInvalidNumber).binds (ps := ["self", "given"]) fun _ _ _ _ _ _ us hl => match us, hl with | [_, _], _ => rfl, ⟨⟨_, _, _, _, _, _, _, _, _, _, _, _, _, _, _, xLInvalidNumber, rfl⟩, saInvalidNumber, eCInvalidNumber, tCInvalidNumber, kCInvalidNumber⟩, iCInvalidNumber, tIInvalidNumber, PySem.W.mg_of X G aCInvalidNumber, nbInvalidNumber, ⟨gaInvalidNumber, ggInvalidNumber, eCInvalidNumber, hCInvalidNumber⟩⟩
    InvalidMany := ⟨CInvalidMany, fIInvalidMany, _, fun_mk (st := s_init_InvalidMany) lIInvalidMany cIInvalidMany kIInvalidMany, (fun_mk (st := s_init_InvalidMany) lIInvalidMany cIInvalidMany kIInvalidMany).binds (ps := ["self", "given"]) fun _ _ _ _ _ _ us hl => match us, hl with | [_, _], _ => rfl, ⟨⟨_, _, _, _, _, _, _, _, _, _, _, _, _, _, _, xLInvalidMany, rfl⟩, saInvalidMany, eCInvalidMany, tCInvalidMany, kCInvalidMany⟩, iCInvalidMany, tIInvalidMany, PySem.W.mg_of X G aCInvalidMany, nbInvalidMany, ⟨gaInvalidMany, ggInvalidMany, eCInvalidMany, hCInvalidMany⟩⟩
    InvalidParts := ⟨CInvalidParts, fIInvalidParts, _, fun_mk (st := s_init_InvalidParts) lIInvalidParts cIInvalidParts kIInvalidParts, (fun_mk (st := s_init_InvalidParts) lIInvalidParts cIInvalidParts kIInvalidParts).binds (ps := ["self", "given"]) fun _ _ _ _ _ _ us hl => match us, hl with | [_, _], _ => rfl, ⟨⟨_, _, _, _, _, _, _, _, _, _, _, _, _, _, _, xLInvalidParts, rfl⟩, saInvalidParts, eCInvalidParts, tCInvalidParts, kCInvalidParts⟩, iCInvalidParts, tIInvalidParts, PySem.W.mg_of X G aCInvalidParts, nbInvalidParts, ⟨gaInvalidParts, ggInvalidParts, eCInvalidParts, hCInvalidParts⟩⟩
    InvalidRest := ⟨CInvalidRest, fIInvalidRest, _, fun_mk (st := s_init_InvalidRest) lIInvalidRest cIInvalidRest kIInvalidRest, (fun_mk (st := s_init_InvalidRest) lIInvalidRest cIInvalidRest kIInvalidRest).binds (ps := ["self", "given"]) fun _ _ _ _ _ _ us hl => match us, hl with | [_, _], _ => rfl, ⟨⟨_, _, _, _, _, _, _, _, _, _, _, _, _, _, _, xLInvalidRest, rfl⟩, saInvalidRest, eCInvalidRest, tCInvalidRest, kCInvalidRest⟩, iCInvalidRest, tIInvalidRest, PySem.W.mg_of X G aCInvalidRest, nbInvalidRest, ⟨gaInvalidRest, ggInvalidRest, eCInvalidRest, hCInvalidRest⟩⟩
    eNN := exm_of eCInvalidNumber iSInvalidNumber tCInvalidNumber eNN
    eMN := exm_of eCInvalidNumber iSInvalidNumber tCInvalidNumber eMN
    eMM := exm_of eCInvalidMany iSInvalidMany tCInvalidMany eMM
    ePN := exm_of eCInvalidNumber iSInvalidNumber tCInvalidNumber ePN
    ePM := exm_of eCInvalidMany iSInvalidMany tCInvalidMany ePM
    ePP := exm_of eCInvalidParts iSInvalidParts tCInvalidParts ePP
    eRN := exm_of eCInvalidNumber iSInvalidNumber tCInvalidNumber eRN
    eRM := exm_of eCInvalidMany iSInvalidMany tCInvalidMany eRM
    eRP := exm_of eCInvalidParts iSInvalidParts tCInvalidParts eRP
    eRR := exm_of eCInvalidRest iSInvalidRest tCInvalidRest eRR
    kb_factorial_number := kb1 (fun_mk (st := s_factorial) l6 c6 k6) fun _ _ _ _ _ _ _ => rfl
    kb_choose_many_number := kb21 (fun_mk (st := s_choose) l7 c7 k7) fun _ _ _ _ _ _ _ _ => rfl
    kb_arrangements_parts := kb1 (fun_mk (st := s_arrangements) l8 c8 k8) fun _ _ _ _ _ _ _ => rfl
    kb_even_parts_many_total := kb21 (fun_mk (st := s_even_parts) l9 c9 k9) fun _ _ _ _ _ _ _ _ => rfl
    kb_most_arranged_rest_total_rounds := kb231 (fun_mk (st := s_most_arranged) l10 c10 k10) fun _ _ _ _ _ _ _ _ _ => rfl }
  exact ⟨PySem.W.fnOf "law" "law" (defArgs s_law) (defBody s_law) (defScope s_law) .none kV31 dc31 pm31 an31 cd31 ct31, fun s v => .of_eq rfl, fun base _ _ => ok_law T⟩
theorem walk {l : PySem.W.OpenLaw} {q : Program} {loose : List Str} {XP : (Str → Option Value) → Heap → Prop} {YP : World → Heap → Prop} {d : DefRec} {K : Params → PySem.W.Frag} (hn : l.most = some 63) (hdf : d.params.defaults = [])
    (hY : ∀ (w : World) (h : Heap), YP w h → (K w.params).In h)
    (F : ∀ (w : World) (mg : Str → Option Value) (fa : Addr) (h : Heap), (K w.params).In h → h.Ns mainGlobals mg → mg d.name = some (.ref fa) →
      ∃ fd : FuncData, (∀ (s : Shared) (u : Value), BindsTo s fd ⟨[u], []⟩ [("script", u)]) ∧ ∀ base : Heap, (K w.params).In base → base.Ns mainGlobals mg → FnOk l.prog w (K w.params) mg base CX0 11 fa fd ["script"] (spLaw (K w.params))) :
    PySem.W.WalkO q loose XP YP l.row.toRowW d [] (fun f vs => PySem.call f vs) :=
  L2.walk_of (n := 63) (k := 11) (x := "script") (CX := fun _ => CX0) (sp := fun w => spLaw (K w.params)) hn (by decide) hdf ⟨rfl, by decide, by decide⟩ hY F
    (fun _ _ a ns hl _ hS => ⟨a, ns, rfl, hS, hl, fun _ => rfl⟩) fun _ _ _ _ _ z => z
end L2.U
open PySem PySem.W PyProof.Rows
set_option maxRecDepth 100000 in
set_option maxHeartbeats 0 in
theorem PySem.Challenge.cw_upforgood_k02_most_arranged_and_refused_holds : PySem.Challenge.rw_upforgood_k02_most_arranged_and_refused.Holds := by
  w_on; o_law; k_head; (case hw => w_witness2)
  k_fill
  refine L2.U.walk (l := PySem.Challenge.rw_upforgood_k02_most_arranged_and_refused) rfl rfl (fun w h Y => PySem.W.kIn_of Y) ?F
  case F =>
    intro w mg fa h KX G hmg
    refine' L2.U.all_mk KX G hmg ?a1 ?l1 ?c1 ?k1 ?a2 ?l2 ?c2 ?k2 ?a3 ?l3 ?c3 ?k3 ?a4 ?l4 ?c4 ?k4 ?a5 ?l5 ?c5 ?k5 ?a6 ?l6 ?c6 ?k6 ?a7 ?l7 ?c7 ?k7 ?a8 ?l8 ?c8 ?k8 ?a9 ?l9 ?c9 ?k9 ?a10 ?l10 ?c10 ?k10 ?a11 ?l11 ?c11 ?k11 ?a12 ?l12 ?c12 ?k12 ?a13 ?l13 ?c13 ?k13 ?a14 ?l14 ?c14 ?k14 ?a15 ?l15 ?c15 ?k15 ?a16 ?l16 ?c16 ?k16 ?a17 ?l17 ?c17 ?k17 ?a18 ?l18 ?c18 ?k18 ?a19 ?l19 ?c19 ?k19 ?a20 ?l20 ?c20 ?k20 ?a21 ?l21 ?c21 ?k21 ?a22 ?l22 ?c22 ?k22 ?a23 ?l23 ?c23 ?k23 ?a24 ?l24 ?c24 ?k24 ?a25 ?l25 ?c25 ?k25 ?a26 ?l26 ?c26 ?k26 ?a27 ?l27 ?c27 ?k27 ?a28 ?l28 ?c28 ?k28 ?a29 ?l29 ?c29 ?k29 ?a30 ?l30 ?c30 ?k30 ?a31 ?l31 ?c31 ?k31 ?z_int ?z_bool ?z_str ?z_list ?z_tuple ?z_len ?z_sum ?z_abs ?z_all ?z_range ?z_isinstance ?z_dict ?z_max ?z_min ?z_sorted ?c_HIGHEST ?c_comb ?aCT ?aCInvalidNumber ?xLInvalidNumber ?saInvalidNumber ?gaInvalidNumber ?ggInvalidNumber ?nbInvalidNumber ?iCInvalidNumber ?tIInvalidNumber ?lIInvalidNumber ?cIInvalidNumber ?kIInvalidNumber ?kCInvalidNumber ?eCInvalidNumber ?tCInvalidNumber ?hCInvalidNumber ?iSInvalidNumber ?aCInvalidMany ?xLInvalidMany ?saInvalidMany ?gaInvalidMany ?ggInvalidMany ?nbInvalidMany ?iCInvalidMany ?tIInvalidMany ?lIInvalidMany ?cIInvalidMany ?kIInvalidMany ?kCInvalidMany ?eCInvalidMany ?tCInvalidMany ?hCInvalidMany ?iSInvalidMany ?aCInvalidParts ?xLInvalidParts ?saInvalidParts ?gaInvalidParts ?ggInvalidParts ?nbInvalidParts ?iCInvalidParts ?tIInvalidParts ?lIInvalidParts ?cIInvalidParts ?kIInvalidParts ?kCInvalidParts ?eCInvalidParts ?tCInvalidParts ?hCInvalidParts ?iSInvalidParts ?aCInvalidRest ?xLInvalidRest ?saInvalidRest ?gaInvalidRest ?ggInvalidRest ?nbInvalidRest ?iCInvalidRest ?tIInvalidRest ?lIInvalidRest ?cIInvalidRest ?kIInvalidRest ?kCInvalidRest ?eCInvalidRest ?tCInvalidRest ?hCInvalidRest ?iSInvalidRest ?eNN ?eMN ?eMM ?ePN ?ePM ?ePP ?eRN ?eRM ?eRP ?eRR
    (case a1 => k_is)
    (case l1 => k_is)
    (case c1 => k_is)
    (case k1 => k_is)
    (case a2 => k_is)
    (case l2 => k_is)
    (case c2 => k_is)
    (case k2 => k_is)
    (case a3 => k_is)
    (case l3 => k_is)
    (case c3 => k_is)
    (case k3 => k_is)
    (case a4 => k_is)
    (case l4 => k_is)
    (case c4 => k_is)
    (case k4 => k_is)
    (case a5 => k_is)
    (case l5 => k_is)
    (case c5 => k_is)
    (case k5 => k_is)
    (case a6 => k_is)
    (case l6 => k_is)
    (case c6 => k_is)
    (case k6 => k_is)
    (case a7 => k_is)
    (case l7 => k_is)
    (case c7 => k_is)
    (case k7 => k_is)
    (case a8 => k_is)
    (case l8 => k_is)
    (case c8 => k_is)
    (case k8 => k_is)
    (case a9 => k_is)
    (case l9 => k_is)
    (case c9 => k_is)
    (case k9 => k_is)
    (case a10 => k_is)
    (case l10 => k_is)
    (case c10 => k_is)
    (case k10 => k_is)
    (case a11 => k_is)
    (case l11 => k_is)
    (case c11 => k_is)
    (case k11 => k_is)
    (case a12 => k_is)
    (case l12 => k_is)
    (case c12 => k_is)
    (case k12 => k_is)
    (case a13 => k_is)
    (case l13 => k_is)
    (case c13 => k_is)
    (case k13 => k_is)
    (case a14 => k_is)
    (case l14 => k_is)
    (case c14 => k_is)
    (case k14 => k_is)
    (case a15 => k_is)
    (case l15 => k_is)
    (case c15 => k_is)
    (case k15 => k_is)
    (case a16 => k_is)
    (case l16 => k_is)
    (case c16 => k_is)
    (case k16 => k_is)
    (case a17 => k_is)
    (case l17 => k_is)
    (case c17 => k_is)
    (case k17 => k_is)
    (case a18 => k_is)
    (case l18 => k_is)
    (case c18 => k_is)
    (case k18 => k_is)
    (case a19 => k_is)
    (case l19 => k_is)
    (case c19 => k_is)
    (case k19 => k_is)
    (case a20 => k_is)
    (case l20 => k_is)
    (case c20 => k_is)
    (case k20 => k_is)
    (case a21 => k_is)
    (case l21 => k_is)
    (case c21 => k_is)
    (case k21 => k_is)
    (case a22 => k_is)
    (case l22 => k_is)
    (case c22 => k_is)
    (case k22 => k_is)
    (case a23 => k_is)
    (case l23 => k_is)
    (case c23 => k_is)
    (case k23 => k_is)
    (case a24 => k_is)
    (case l24 => k_is)
    (case c24 => k_is)
    (case k24 => k_is)
    (case a25 => k_is)
    (case l25 => k_is)
    (case c25 => k_is)
    (case k25 => k_is)
    (case a26 => k_is)
    (case l26 => k_is)
    (case c26 => k_is)
    (case k26 => k_is)
    (case a27 => k_is)
    (case l27 => k_is)
    (case c27 => k_is)
    (case k27 => k_is)
    (case a28 => k_is)
    (case l28 => k_is)
    (case c28 => k_is)
    (case k28 => k_is)
    (case a29 => k_is)
    (case l29 => k_is)
    (case c29 => k_is)
    (case k29 => k_is)
    (case a30 => k_is)
    (case l30 => k_is)
    (case c30 => k_is)
    (case k30 => k_is)
    (case a31 => k_is)
    (case l31 => k_is)
    (case c31 => k_is)
    (case k31 => k_is)
    (case z_int => k_is)
    (case z_bool => k_is)
    (case z_str => k_is)
    (case z_list => k_is)
    (case z_tuple => k_is)
    (case z_len => k_is)
    (case z_sum => k_is)
    (case z_abs => k_is)
    (case z_all => k_is)
    (case z_range => k_is)
    (case z_isinstance => k_is)
    (case z_dict => k_is)
    (case z_max => k_is)
    (case z_min => k_is)
    (case z_sorted => k_is)
    (case c_HIGHEST => k_is)
    (case c_comb => k_is)
    (case aCT => k_is)
    (case aCInvalidNumber => k_is)
    (case xLInvalidNumber => k_is)
    (case saInvalidNumber => k_is)
    (case gaInvalidNumber => k_is)
    (case ggInvalidNumber => k_is)
    (case nbInvalidNumber => k_is)
    (case iCInvalidNumber => k_is)
    (case tIInvalidNumber => k_is)
    (case lIInvalidNumber => k_is)
    (case cIInvalidNumber => k_is)
    (case kIInvalidNumber => k_is)
    (case kCInvalidNumber => k_is)
    (case eCInvalidNumber => k_is)
    (case tCInvalidNumber => k_is)
    (case hCInvalidNumber => k_is)
    (case iSInvalidNumber => k_is)
    (case aCInvalidMany => k_is)
    (case xLInvalidMany => k_is)
    (case saInvalidMany => k_is)
    (case gaInvalidMany => k_is)
    (case ggInvalidMany => k_is)
    (case nbInvalidMany => k_is)
    (case iCInvalidMany => k_is)
    (case tIInvalidMany => k_is)
    (case lIInvalidMany => k_is)
    (case cIInvalidMany => k_is)
    (case kIInvalidMany => k_is)
    (case kCInvalidMany => k_is)
    (case eCInvalidMany => k_is)
    (case tCInvalidMany => k_is)
    (case hCInvalidMany => k_is)
    (case iSInvalidMany => k_is)
    (case aCInvalidParts => k_is)
    (case xLInvalidParts => k_is)
    (case saInvalidParts => k_is)
    (case gaInvalidParts => k_is)
    (case ggInvalidParts => k_is)
    (case nbInvalidParts => k_is)
    (case iCInvalidParts => k_is)
    (case tIInvalidParts => k_is)
    (case lIInvalidParts => k_is)
    (case cIInvalidParts => k_is)
    (case kIInvalidParts => k_is)
    (case kCInvalidParts => k_is)
    (case eCInvalidParts => k_is)
    (case tCInvalidParts => k_is)
    (case hCInvalidParts => k_is)
    (case iSInvalidParts => k_is)
    (case aCInvalidRest => k_is)
    (case xLInvalidRest => k_is)
    (case saInvalidRest => k_is)
    (case gaInvalidRest => k_is)
    (case ggInvalidRest => k_is)
    (case nbInvalidRest => k_is)
    (case iCInvalidRest => k_is)
    (case tIInvalidRest => k_is)
    (case lIInvalidRest => k_is)
    (case cIInvalidRest => k_is)
    (case kIInvalidRest => k_is)
    (case kCInvalidRest => k_is)
    (case eCInvalidRest => k_is)
    (case tCInvalidRest => k_is)
    (case hCInvalidRest => k_is)
    (case iSInvalidRest => k_is)
    (case eNN => first | rfl | k_is)
    (case eMN => first | rfl | k_is)
    (case eMM => first | rfl | k_is)
    (case ePN => first | rfl | k_is)
    (case ePM => first | rfl | k_is)
    (case ePP => first | rfl | k_is)
    (case eRN => first | rfl | k_is)
    (case eRM => first | rfl | k_is)
    (case eRP => first | rfl | k_is)
    (case eRR => first | rfl | k_is)

