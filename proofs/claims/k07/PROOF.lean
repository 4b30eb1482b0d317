import PyProof.Rows.All
import Wide.All
import OpenK.AllK
import Wide.FinOn
import HandS.ForMost
import HandS.ForExc
import HandS.ExcInit
import HandS.ExcField
import HandS.TryMany
import HandS.IsInst
import HandS.Gcd
import HandS.Wide
import HandS.TupMul
import HandS.TupAny
import HandS.TupLe
import HandS.Deep
import HandS.Flow
import HandS.Defaults
import HandS.Evl
import HandS.More
import KE.KMathGC
import KE.KTupSum
import HandS.Sort
import HandS.MakeKwOnly
import HandS.Strs
import PyProof.Rows.SetFrom
import HandS.TryOnly
import HandS.Style
import PySem.Challenge.RW_upforgood_k07_wires_raised_by_both
set_option Elab.async false
set_option linter.all false
set_option maxRecDepth 100000
set_option maxHeartbeats 4000000
namespace L2.U
open PySem PySem.Spec PyProof.Rows Evl

/-! ## several except clauses, each with a name or without one -/
structure Clause where
  cls : Value
  slot : Option Nat
  rd : Addr → Value → Option Addr → TS
def afterC : Option Nat → Ends → Ends
  | none, D => D
  | some i, D => ⟨fun s h => D.nx (s.set i none) h, D.rt, fun s h => D.bk (s.set i none) h, fun s h => D.ct (s.set i none) h⟩
def holdC : Option Nat → Addr → St → St
  | none, _, s => s
  | some i, a, s => s.set i (some (.ref a))
def wishC (K : PySem.W.Frag) (Wo : WX) (D : Ends) : List Clause → WX
  | [] => Wo
  | c :: r => fun cls d s h => ∃ b, PySem.W.exmOne K cls c.cls = some b ∧
      (b = true → ∀ a, h a = none → c.rd a cls d (afterC c.slot D) (holdC c.slot a s) h) ∧ (b = false → wishC K Wo D r cls d s h)
abbrev SuiteOk (X : Cx) (body : List Stmt) (rd : Addr → Value → Option Addr → TS) : Prop :=
  ∀ (a : Addr) (o : Obj) (cls : Value) (d : Option Addr) (pn : List (Addr × Obj)), Zc cls d o → (∃ vs, o.data = .fields vs) → PSs (X.suite a ((a, o) :: pn)) body (rd a cls d)
inductive ClauseOk (X : Cx) : ExceptHandler → Clause → Prop
  | bare {x : Str} {c : Value} {rd} {b0 : Stmt} {su : List Stmt} {np p : Pos} (hc : Names X x c) (hs : SuiteOk X (b0 :: su) rd) :
      ClauseOk X (.ExceptHandler (some (.Name x np)) none (b0 :: su) p) ⟨c, none, rd⟩
  | named {x n : Str} {i : Nat} {c : Value} {rd} {b0 : Stmt} {su : List Stmt} {np p : Pos} (hN : X.N.Nodup) (hi : X.N[i]? = some n)
      (hl : X.env.kindOf n = some .local) (hc : Names X x c) (hs : SuiteOk X (b0 :: su) rd) :
      ClauseOk X (.ExceptHandler (some (.Name x np)) (some n) (b0 :: su) p) ⟨c, some i, rd⟩
inductive ClausesOk (X : Cx) : List ExceptHandler → List Clause → Prop
  | nil : ClausesOk X [] []
  | cons {h c hs cs} (a : ClauseOk X h c) (r : ClausesOk X hs cs) : ClausesOk X (h :: hs) (c :: cs)
section
variable {X : Cx} {body : List Stmt} {h0 : ExceptHandler} {hds : List ExceptHandler} {cs : List Clause} {pos : Pos} {tb : WX → TS} {Wo : WX}
theorem ps_tryC (hs : X.stack = X.env :: X.outer) (hf : X.env.frame = some X.env.locals) (tk : Takes X Wo)
    (hb : ∀ (W : WX) (pn : List (Addr × Obj)) (xe : Value → Shared → Prop), Takes (X.tr pn xe) W → PassesOwn (model X.prog X.w) X.A X.env xe → PSs (X.tr pn xe) body (tb W))
    (hh : ClausesOk X (h0 :: hds) cs) : PS X (.Try body (h0 :: hds) [] [] pos) (fun D s h => tb (wishC X.K Wo D cs) D s h) := by
  constructor
  intro pins s σ H D I h
  have ok := I.ok
  have frames : X.A.frames = some (X.env :: X.outer) := by rw [ok.frames, hs]
  refine wpAny_Try_except ?_
  let caught : Value → Shared → Prop := fun e s1 =>
    wpAny (model X.prog X.w) X.A (noteFrame e X.env) (fun _ s2 => wpAny (model X.prog X.w) X.A (setFlight e none)
      (fun _ s3 => wpAny (model X.prog X.w) X.A (handleBy e X.env (h0 :: hds)) (SP X pins D) X.xe s3) X.xe s2) X.xe s1
  have takesB : Takes (X.tr (X.pn ++ pins) caught) (wishC X.K Wo D cs) := by
    rintro u s' ⟨a, B, sI, pins', σ', H', cls, d, rfl, J0, nb, up, sky, na, os, ag, w⟩
    have J : Inv X pins σ' H' sI := J0.ofTry ok
    have sky1 : Sky B (X.env :: X.outer) a (Zc cls d) X.env.locals s'.heap := hs ▸ sky
    show wpAny _ X.A (noteFrame (.ref a) X.env) _ _ _
    refine Sky.land Zc.steady frames hf sky1 fun h3 fl up3 => ?_
    have J3 : Inv X pins σ' H' { s' with heap := h3 } := J.landed nb fl.1 (up.trans up3) os ag
    obtain ⟨o3, v3, g3, z3, d3⟩ := fl.there
    have out : a ∉ frs (X.env :: X.outer) := by
      intro hm
      obtain ⟨_, o', e', no⟩ := fl.2.2.1.mem hm
      rw [g3] at e'
      cases e'
      exact no _ d3
    have nL : a ≠ X.env.locals := by
      intro z
      exact out (List.mem_filterMap.mpr ⟨X.env, List.mem_cons_self, z ▸ hf⟩)
    have nF : a ∉ X.fs := by
      intro hm
      obtain ⟨e, he, q⟩ := List.mem_filterMap.mp hm
      exact out (List.mem_filterMap.mpr ⟨e, List.mem_cons_of_mem _ he, q⟩)
    have S3 := J3.suite g3 d3 na nL nF
    have ty : PySem.W.Looks (model X.prog X.w) h3 (typeOf (.ref a)) cls := fun A Q E t k q => wpAny_typeOf_ref (k _ _ g3) (by rw [z3.1]; exact q)
    have asked : ∀ {x : Str} {c : Value} {np : Pos} {Q E : Value → Shared → Prop}, Names X x c → Q c { s' with heap := h3 } →
        wpAny (model X.prog X.w) (X.A.mark (some (.ref a))) (eval (.Name x np) X.env) Q E { s' with heap := h3 } := by
      rintro x c np Q E ⟨hg, hd, hm | ⟨hm, hv, hn⟩⟩ q
      · exact ld_glob (X := X.suite a ((a, o3) :: (X.pn ++ pins))) S3 hg hm q hd
      · exact ld_blt (X := X.suite a ((a, o3) :: (X.pn ++ pins))) S3 hg hm hv q hn hd
    have run : ∀ {l : List ExceptHandler} {k : List Clause}, ClausesOk X l k → wishC X.K Wo D k cls d σ' H' →
        wpAny (model X.prog X.w) X.A (handleBy (.ref a) X.env l) (SP X pins D) X.xe { s' with heap := h3 } := by
      intro l k hk
      induction hk with
      | nil =>
        intro w
        refine wpAny_handleBy_nil ?_
        obtain ⟨_, _, _, oe, vs, T, oT, ts, he, _, hd, h1, _⟩ := id fl
        unfold PySem.passOn
        refine wpAny_bind (wpAny_field he hd h1 ?_)
        rw [if_neg (by simp : ¬ ((Value.ref T == Value.none) = true))]
        have up : wpAny (model X.prog X.w) X.A (setFlight (.ref a) X.env.frame)
            (fun _ t => wpAny (model X.prog X.w) X.A (throw (.ref a) : Sem Flow) (SP X pins D) X.xe t) X.xe { s' with heap := h3 } := by
          rw [hf]
          refine HandSPX.setFlight_upZ fl fun h4 hh4 up4 => wpAny_throw (tk _ _ ?_)
          refine ⟨a, B, sI, pins, σ', H', cls, d, rfl, J, nb, (up.trans up3).trans up4, .inr (.inr ?_), na, os, ag, w⟩
          rw [hs]
          exact hh4
        first
          | exact wpAny_bind (wpAny_pure (wpAny_bind up))
          | exact wpAny_bind up
      | @cons h1 c hs1 cs1 hc1 _ ih =>
        rintro ⟨b, mb, yes, no⟩
        have LM := PySem.W.exm_one (M := model X.prog X.w) J3.kIn ty mb
        cases hc1 with
        | @bare x c rd b0 su np p hc hsu =>
          refine wpAny_handleBy_cons (codeAny_handlers_test ?_) (by intro q; cases q)
          refine asked hc (LM.here ?_)
          cases b with
          | false => exact ih (no rfl)
          | true =>
            refine codeAny_handlers_suite (HandSPX.lands_againZ fl fun h4 fl4 up4 => ?_)
            have J4 : Inv X pins σ' H' { s' with heap := h4 } := J.landed nb fl4.1 ((up.trans up3).trans up4) os ag
            obtain ⟨o4, v4, g4, z4, d4⟩ := fl4.there
            refine wpAny_mono ((hsu a o4 cls d (X.pn ++ pins) z4 ⟨_, d4⟩).run [] _ _ H' _ (J4.suite g4 d4 na nL nF) (yes rfl a na)) ?_ (fun _ _ z => False.elim z)
            intro f s6 sp
            cases f with
            | ret u => obtain ⟨v6, σ6, H6, S6, r6, q6⟩ := sp; exact ⟨_, _, _, S6.unsuite ok, r6, q6⟩
            | next => obtain ⟨σ6, H6, S6, q6⟩ := sp; exact ⟨_, _, S6.unsuite ok, q6⟩
            | brk => obtain ⟨σ6, H6, S6, q6⟩ := sp; exact ⟨_, _, S6.unsuite ok, q6⟩
            | cont => obtain ⟨σ6, H6, S6, q6⟩ := sp; exact ⟨_, _, S6.unsuite ok, q6⟩
        | @named x n i c rd b0 su np p hN hi hl hc hsu =>
          refine wpAny_handleBy_cons (codeAny_handlers_test ?_) (by intro q; cases q)
          refine asked hc (LM.here ?_)
          cases b with
          | false => exact ih (no rfl)
          | true =>
            refine codeAny_handlers_suite_as (HandSPX.lands_againZ fl fun h4 fl4 up4 => ?_)
            have J4 : Inv X pins σ' H' { s' with heap := h4 } := J.landed nb fl4.1 ((up.trans up3).trans up4) os ag
            obtain ⟨o4, v4, g4, z4, d4⟩ := fl4.there
            refine store_ok (X := X.suite a ((a, o4) :: (X.pn ++ pins))) (v := .ref a) (J4.suite g4 d4 na nL nF) hN hi (.inl hl) rfl (fun s5 S5 => ?_) (.inr hl)
            refine wpAny_mono ((hsu a o4 cls d (X.pn ++ pins) z4 ⟨_, d4⟩).run [] s5 _ H' _ S5 (yes rfl a na)) ?_ (fun _ _ z => False.elim z)
            intro f s6 sp
            have gone : ∀ {σ6 : St} {H6 : Hp} {Q : Shared → Prop}, Inv (X.suite a ((a, o4) :: (X.pn ++ pins))) [] σ6 H6 s6 → (∀ t, Inv X pins (σ6.set i none) H6 t → Q t) →
                wpAny (model X.prog X.w) X.A (do bindName X.env n .none; unbindBehindTheSuite X.env n p) (fun _ t => Q t) X.xe s6 := fun S6 hq => gone_ok (S6.unsuite ok) hN hi hl hq
            cases f with
            | ret u => obtain ⟨v6, σ6, H6, S6, r6, q6⟩ := sp; exact gone S6 fun t J7 => ⟨_, _, _, J7, r6, q6⟩
            | next => obtain ⟨σ6, H6, S6, q6⟩ := sp; exact gone S6 fun t J7 => ⟨_, _, J7, q6⟩
            | brk => obtain ⟨σ6, H6, S6, q6⟩ := sp; exact gone S6 fun t J7 => ⟨_, _, J7, q6⟩
            | cont => obtain ⟨σ6, H6, S6, q6⟩ := sp; exact gone S6 fun t J7 => ⟨_, _, J7, q6⟩
    exact run hh w
  refine wpAny_mono ((hb (wishC X.K Wo D cs) (X.pn ++ pins) caught takesB PassesOwn.looking).run [] s σ H D (I.toTry _) h) ?_ (fun e s1 he => he)
  intro f s1 sp
  cases f with
  | ret u => obtain ⟨v, σ', H', J', r, q⟩ := sp; exact ⟨v, σ', H', J'.ofTry ok, r, q⟩
  | next => obtain ⟨σ', H', J', q⟩ := sp; exact wpAny_execs_nil ⟨σ', H', J'.ofTry ok, q⟩
  | brk => obtain ⟨σ', H', J', q⟩ := sp; exact ⟨σ', H', J'.ofTry ok, q⟩
  | cont => obtain ⟨σ', H', J', q⟩ := sp; exact ⟨σ', H', J'.ofTry ok, q⟩
end

/-! ## f(k = v, ..): keywords alone -/
def tCallKw (sp : Sp) (pm : List V → List V) (E : St → XK) (tk : TA) : TE := fun σ H Q => tk σ H fun zs H1 => sp (pm zs) H1 Q (E σ)
section
variable {X : Cx} {CX : CXT} {k : Nat} {f : Addr} {fd : FuncData} {ps ks : List Str} {sp : Sp} {E : St → XK} {x : Str} {p pos : Pos} {kws : List Keyword} {tk : TA}
  {g : List Value → List Value → List Value} {gV : List V → List V → List V}
theorem pe_callKw (F : FnOk X.prog X.w X.K X.mg X.base CX k f fd ps sp) (hr : Room k X.A) (hg : Gl X x) (hm : X.mg x = some (.ref f)) (hk : PySem.W.keepIn X.K (.ref f) = true)
    (hb : KBinds X.K fd ps ks g gV) (hx : ∀ σ, PassesAt CX X σ (E σ)) (hkw : PK X kws tk)
    (hall : (backToKw pos (keywordEach kws X.env)).all (·.1.isSome) = true := by rfl) (hks : (backToKw pos (keywordEach kws X.env)).filterMap (·.1) = ks := by rfl)
    (hdb : (x == ("__debug__" : Str)) = false := by decide)
    (hpl : ((backTo pos (starEach [] X.env)).any (·.1) || (backToKw pos (keywordEach kws X.env)).any (·.1.isNone)) = false := by rfl) :
    PE X (.Call (.Name x p) [] kws pos) (tCallKw sp (gV []) E tk) := by
  constructor
  intro pins s σ H Q I h
  refine wpAny_Call_Name_kw (ld_glob I hg hm ?_ hdb)
  refine PySem.W.callWith_KW0 (h₀ := X.base) I.ok.mod.kin hk hall (thn (hkw.run pos pins s σ H _ I h) ?_) hpl
  rintro ws s2 ⟨zs, H2, I2, rz, q2⟩
  refine ⟨I2.kIn, ?_⟩
  rw [hks]
  have r2 : Vals (gV [] zs) (g [] ws) := hb.rel .nil rz
  have hl : (g [] ws).length = ps.length := by rw [← r2.length]; exact F.len _ _ _ _ q2
  refine wpAny_call (codeAny_mono (F.run X.A X.stack s2 H2 ⟨[], ks.zip ws⟩ (g [] ws) (gV [] zs) Q (E σ) hr I2.env0 (hb.to s2 [] ws I2.kIn hl) r2 q2) ?_)
  intro r s' hq
  cases r with
  | error e => exact hx σ pins H2 s2 e s' I2 hq
  | ok fl => cases fl with
    | ret u => exact I2.after hq
    | next => exact False.elim hq
    | brk => exact False.elim hq
    | cont => exact False.elim hq
end

/-! ## math.comb, and tuple * int with few turns -/
section
variable {X : Cx}
def rComb : List V → Hp → VK → Prop := fun vs H Q => ∃ a b : Int, vs = [.int a, .int b] ∧ 0 ≤ a ∧ a ≤ 1000 ∧ 0 ≤ b ∧ b ≤ 1000 ∧ Q (.int (PySem.W.mcComb a b)) H
theorem cr_comb : CallR X (.builtin "math.comb") rComb := by
  intro pins s σ H vs us Q I r h
  obtain ⟨a, b, rfl, h1, h2, h3, h4, q⟩ := h
  obtain ⟨u1, u2, rfl, r1, r2⟩ := vals2 r
  obtain ⟨t, rfl⟩ := r1
  obtain ⟨u, rfl⟩ := r2
  exact PySem.W.mc_comb h1 h3 (by omega) (by omega) fun _ => ⟨.int _, H, I.tok _, ⟨_, rfl⟩, q⟩
end

/-! ## sum of a list or a tuple of ints; x *= y of great ints; a for over a list or a tuple -/
section
variable {X : Cx}
def rSumS (K : PySem.W.Frag) : List V → Hp → VK → Prop := fun vs H Q => ∃ (a : Addr) (ns : List Int), vs = [V.ref a] ∧ (SqL K H a (ns.map V.int) ∨ SqT K H a (ns.map V.int)) ∧ Q (.int ns.sum) H
theorem cr_sumS (hc : X.calm = true) : CallR X (.builtin "sum") (rSumS X.K) := by
  intro pins s σ H vs us Q I r h
  obtain ⟨a, ns, e, hs | hs, q⟩ := h
  · exact cr_sum hc pins s σ H vs us Q I r ⟨a, ns, e, hs, q⟩
  · subst e
    obtain ⟨its, rv, hl, _⟩ := I.tuple hs
    rw [Vals.ref1 r]
    have hi := rv.ints
    have hl2 : s.heap.IsTuple a its.toArray := hl
    obtain ⟨xs, ex⟩ := hi.allInts.items
    have hn : numsOf (intItems xs).toList = ns := by rw [← ex]; exact hi.numsOf
    rw [nums_intItems] at hn
    rw [ex] at hl2
    refine PySem.W.ktm_sumG (I.ok.hd hc) hl2 fun h' tk t' hk => ?_
    rw [preSum_eq, List.take_of_length_le (by simp), hn]
    exact ⟨.int _, H, I.kept hk, ⟨_, rfl⟩, q⟩
theorem ip_mulC : PIp X .Mult (fun x y H Q => ∃ i j, x = .int i ∧ y = .int j ∧ CMul i j ∧ Q (.int (i * j)) H) := by
  intro pins s σ H x y v u Q I r1 r2 h
  obtain ⟨i, j, rfl, rfl, hc, q⟩ := h
  obtain ⟨t, rfl⟩ := r1
  obtain ⟨t', rfl⟩ := r2
  exact imul_int ⟨.int _, H, I.tok _, ⟨_, rfl⟩, q⟩ hc.ok
def iSeq (K : PySem.W.Frag) (tl : TE) : TI := fun σ H R => iList K tl σ H R ∨ iTup K tl σ H R
theorem pi_seq {tg l : Expr} {tl : TE} (hl : PE X l tl) : PI X tg l (iSeq X.K tl) := by
  constructor
  intro pins s σ H R I h
  rcases h with h | h
  · exact (pi_list hl).run pins s σ H R I h
  · exact (pi_tup hl).run pins s σ H R I h
end

/-! ## how keywords bind -/
def kw1 {α : Type} : List α → List α → List α
  | [], [a] => [a]
  | _, _ => []
def kw12 {α : Type} : List α → List α → List α
  | [], [a, b] => [a, b]
  | _, _ => []
def kw21 {α : Type} : List α → List α → List α
  | [], [a, b] => [b, a]
  | _, _ => []
theorem kw1_rel {vs : List V} {us : List Value} {zs : List V} {ws : List Value} (r : Vals vs us) (t : Vals zs ws) : Vals (kw1 vs zs) (kw1 us ws) := by
  cases r with
  | cons _ _ => exact .nil
  | nil => cases t with
    | nil => exact .nil
    | cons a t => cases t with
      | nil => exact .cons a .nil
      | cons _ _ => exact .nil
theorem kw12_rel {vs : List V} {us : List Value} {zs : List V} {ws : List Value} (r : Vals vs us) (t : Vals zs ws) : Vals (kw12 vs zs) (kw12 us ws) := by
  cases r with
  | cons _ _ => exact .nil
  | nil => cases t with
    | nil => exact .nil
    | cons a t => cases t with
      | nil => exact .nil
      | cons b t => cases t with
        | nil => exact .cons a (.cons b .nil)
        | cons _ _ => exact .nil
theorem kw21_rel {vs : List V} {us : List Value} {zs : List V} {ws : List Value} (r : Vals vs us) (t : Vals zs ws) : Vals (kw21 vs zs) (kw21 us ws) := by
  cases r with
  | cons _ _ => exact .nil
  | nil => cases t with
    | nil => exact .nil
    | cons a t => cases t with
      | nil => exact .nil
      | cons b t => cases t with
        | nil => exact .cons b (.cons a .nil)
        | cons _ _ => exact .nil
theorem kb1 {K : PySem.W.Frag} {x qual : Str} {st : Stmt} {f : Addr} {fd : FuncData} {p k : Str} (F : Fun K x qual st f fd)
    (h : ∀ (kV doc pm : Value) (an : Option Addr) (cdv ct : Value) (u : Value), bindArgs (PySem.W.fnOf x qual (defArgs st) (defBody st) (defScope st) .none kV doc pm an cdv ct) ⟨[], [(k, u)]⟩ = pure [(p, u)]) : KBinds K fd [p] [k] kw1 kw1 := by
  obtain ⟨oc, od, kV, doc, pm, an, cdv, ct, osl, rfl, lk, hcd⟩ := F.ex
  refine ⟨fun s us ws _ hl => ?_, kw1_rel⟩
  match us, ws, hl with
  | [], [u], _ => exact .of_eq (h kV doc pm an cdv ct u)
theorem kb12 {K : PySem.W.Frag} {x qual : Str} {st : Stmt} {f : Addr} {fd : FuncData} {p q k l : Str} (F : Fun K x qual st f fd)
    (h : ∀ (kV doc pm : Value) (an : Option Addr) (cdv ct : Value) (u w : Value), bindArgs (PySem.W.fnOf x qual (defArgs st) (defBody st) (defScope st) .none kV doc pm an cdv ct) ⟨[], [(k, u), (l, w)]⟩ = pure [(p, u), (q, w)]) : KBinds K fd [p, q] [k, l] kw12 kw12 := by
  obtain ⟨oc, od, kV, doc, pm, an, cdv, ct, osl, rfl, lk, hcd⟩ := F.ex
  refine ⟨fun s us ws _ hl => ?_, kw12_rel⟩
  match us, ws, hl with
  | [], [u, w], _ => exact .of_eq (h kV doc pm an cdv ct u w)
theorem kb21 {K : PySem.W.Frag} {x qual : Str} {st : Stmt} {f : Addr} {fd : FuncData} {p q k l : Str} (F : Fun K x qual st f fd)
    (h : ∀ (kV doc pm : Value) (an : Option Addr) (cdv ct : Value) (u w : Value), bindArgs (PySem.W.fnOf x qual (defArgs st) (defBody st) (defScope st) .none kV doc pm an cdv ct) ⟨[], [(k, u), (l, w)]⟩ = pure [(p, w), (q, u)]) : KBinds K fd [p, q] [k, l] kw21 kw21 := by
  obtain ⟨oc, od, kV, doc, pm, an, cdv, ct, osl, rfl, lk, hcd⟩ := F.ex
  refine ⟨fun s us ws _ hl => ?_, kw21_rel⟩
  match us, ws, hl with
  | [], [u, w], _ => exact .of_eq (h kV doc pm an cdv ct u w)

/-! ## tuple * int -/
theorem tmul0 (l : Addr) (items : Array Value) (n : Nat) (dd : Option Addr) (sl : Array (Option Value)) (u : Tok) (hne : items.isEmpty = false) :
    Meets (Builtin.«tuple.__mul__» ⟨[.ref l, .int 0 u], []⟩) (fun _ R s => s.heap.get? l = some { cls := .type "tuple", dict := dd, data := .seq items n, slots := sl } ∧
      R (.ok (.ret (Value.ref s.heap.objs.size))) { s with heap := s.heap.push { cls := Value.type "tuple", data := Data.seq #[] } }) :=
  .of_wp fun prog w A R s h => by
    obtain ⟨hp, g, d, tk, os⟩ := s
    obtain ⟨hl, h⟩ := h
    have f1 := AutoSeq1.idx_int
    have c1 : (items.isEmpty || (0 : Int) == 1) = false := by rw [hne]; rfl
    wp_walk using wpAny_loadPart' hl
    exact ⟨_, rfl, h⟩
theorem tmul1 (l : Addr) (items : Array Value) (n : Nat) (dd : Option Addr) (sl : Array (Option Value)) (u : Tok) (hne : items.isEmpty = false) :
    Meets (Builtin.«tuple.__mul__» ⟨[.ref l, .int 1 u], []⟩) (fun _ R s => s.heap.get? l = some { cls := .type "tuple", dict := dd, data := .seq items n, slots := sl } ∧
      R (.ok (.ret (Value.ref l))) s) :=
  .of_wp fun prog w A R s h => by
    obtain ⟨hp, g, d, tk, os⟩ := s
    obtain ⟨hl, h⟩ := h
    have f1 := AutoSeq1.idx_int
    wp_walk using wpAny_loadPart' hl
    exact ⟨_, rfl, h⟩

def rRepA (K : PySem.W.Frag) : R2 := fun x y H Q => ∃ (l : Addr) (k : Int) (xs : List V), x = .ref l ∧ y = .int k ∧ SqT K H l xs ∧ xs ≠ [] ∧ 0 ≤ k ∧ k ≤ 1000 ∧ xs.length ≤ 1000 ∧
  ∀ p H', Ex H H' → SqT K H' p (List.replicate k.toNat xs).flatten → Q (.ref p) H'
theorem op_repA {X : Cx} : OpR X (binaryOp .Mult) (rRepA X.K) := by
  intro pins s σ H x y v u Q I rx ry h
  obtain ⟨l, k, xs, rfl, rfl, hT, hne, h0, h1, hz, q⟩ := h
  by_cases h2 : 2 ≤ k
  · exact op_repT pins s σ H (.ref l) (.int k) v u Q I rx ry ⟨l, k, xs, rfl, rfl, hT, hne, h2, h1, hz, fun p hp => q p _ (Ex.new hp) (st_of upd_same)⟩
  · cases rx
    obtain ⟨t, rfl⟩ := ry
    obtain ⟨its, r, ⟨⟨cls, dd, data, sl⟩, ho, hc, n, hd⟩, hs⟩ := I.tuple hT
    simp only at hc hd
    subst hc hd
    have hle : its.length = xs.length := r.length.symm
    have hi : its.toArray.isEmpty = false := by
      cases its with
      | nil => exact absurd (List.eq_nil_of_length_eq_zero hle.symm) hne
      | cons a b => rfl
    rcases (by omega : k = 0 ∨ k = 1) with rfl | rfl
    · refine wpAny_binaryOp_repeat_ref (T := "tuple") (U := "int") (by decide) ⟨_, ho, rfl⟩ (fun s' => typeIs_int s' 0 t) noFill_tuple_mul F.fills_int_mul F.slot_int_rmul repeat_tuple F.slot_int_index.lookup
        (call_meets F.slot_int_rmul (typeIs_int s 0 t) F.entry_int_rmul (F.args_int_rmul_2 _ _) (int_rmul_tuple 0 t l its.toArray n dd sl)
          ⟨ho, rfl, ⟨_, ho, rfl⟩, call_meets F.slot_tuple_mul ⟨_, ho, rfl⟩ F.entry_tuple_mul (F.args_tuple_mul_2 _ _) (tmul0 l its.toArray n dd sl t hi) ⟨ho, ?_⟩⟩)
      refine ⟨.ref s.heap.objs.size, _, I.laid (t' := s.toks) (o := .tup []) (fun b ob e => Heap.get?_push_of_some _ e) (Nat.le_refl _) ?_, rfl, q _ _ (Ex.new (I.hok.fresh (Nat.le_refl _))) (st_of upd_same)⟩
      exact ⟨Nat.zero_le _, [], .nil, IsTup.new _ _⟩
    · refine wpAny_binaryOp_repeat_ref (T := "tuple") (U := "int") (by decide) ⟨_, ho, rfl⟩ (fun s' => typeIs_int s' 1 t) noFill_tuple_mul F.fills_int_mul F.slot_int_rmul repeat_tuple F.slot_int_index.lookup
        (call_meets F.slot_int_rmul (typeIs_int s 1 t) F.entry_int_rmul (F.args_int_rmul_2 _ _) (int_rmul_tuple 1 t l its.toArray n dd sl)
          ⟨ho, rfl, ⟨_, ho, rfl⟩, call_meets F.slot_tuple_mul ⟨_, ho, rfl⟩ F.entry_tuple_mul (F.args_tuple_mul_2 _ _) (tmul1 l its.toArray n dd sl t hi) ⟨ho, ?_⟩⟩)
      refine ⟨.ref l, H, I, rfl, q _ _ (Ex.refl H) ?_⟩
      have e : (List.replicate (Int.toNat 1) xs).flatten = xs := by simp
      rw [e]
      exact hT

/-! ## a def of the text, in one bundle -/
structure DefAt (K : PySem.W.Frag) (mg : Str → Option Value) (x : Str) (st : Stmt) (ps : List Str) where
  a : Addr
  fd : FuncData
  F : Fun K x x st a fd
  m : mg x = some (.ref a)
  b : Binds K fd ps []
theorem pass0At {X : Cx} {σ : St} : PassesAt CX0 X σ E0 := fun _ _ _ _ _ _ h => h.elim

/-! ## heaps: all but one object stands -/
def But (b : Addr) (H H' : Hp) : Prop := ∀ a o, a ≠ b → H a = some o → H' a = some o
theorem But.of {b : Addr} {H H' : Hp} (e : Ex H H') : But b H H' := fun a o _ h => e a o h
theorem But.trans {b : Addr} {H H1 H2 : Hp} (x : But b H H1) (y : But b H1 H2) : But b H H2 := fun a o n h => y a o n (x a o n h)
theorem But.ex {b : Addr} {H H1 H2 : Hp} (x : But b H H1) (y : Ex H1 H2) : But b H H2 := fun a o n h => y a o (x a o n h)
theorem But.pre {b : Addr} {H H1 H2 : Hp} (x : Ex H H1) (y : But b H1 H2) : But b H H2 := fun a o n h => y a o n (x a o h)
theorem But.upd {b : Addr} {H : Hp} {o : HO} : But b H (upd H b o) := fun a u n h => by rw [upd_ne n]; exact h
theorem But.none {b p : Addr} {H H' : Hp} {o : HO} (x : But b H H') (hb : H b = some o) (h : H' p = none) : p ≠ b → H p = none := fun n => by
  cases e : H p with
  | none => rfl
  | some u => rw [x p u n e] at h; cases h
theorem ne_new {H : Hp} {p b : Addr} {o : HO} (h : H p = none) (hb : H b = some o) : p ≠ b := fun e => by rw [e, hb] at h; cases h
/-- what is frozen or written stands whatever happens to b; a tracked list that is no b, too -/
theorem But.sql {K : PySem.W.Frag} {b a : Addr} {H H' : Hp} {xs : List V} (x : But b H H') (n : a ≠ b) (h : SqL K H a xs) : SqL K H' a xs := by
  rcases h with (h | ⟨o, h⟩) | h
  · exact .inl (.inl (x _ _ n h))
  · exact .inl (.inr ⟨o, x _ _ n h⟩)
  · exact .inr h
theorem But.sqt {K : PySem.W.Frag} {b a : Addr} {H H' : Hp} {xs : List V} (x : But b H H') (n : a ≠ b) (h : SqT K H a xs) : SqT K H' a xs := by
  rcases h with (h | ⟨o, h⟩) | h
  · exact .inl (.inl (x _ _ n h))
  · exact .inl (.inr ⟨o, x _ _ n h⟩)
  · exact .inr h

/-! ## the box of draws: digits, flag, seed, count; n draws are left -/
def BoxAt (H : Hp) (b : Addr) (n : Nat) : Prop := ∃ (d m c : Int) (f : Bool), H b = some (.lst [.int d, .bl f, .int m, .int c]) ∧ 0 ≤ d ∧ 0 ≤ m ∧ m < 2147483648 ∧ 0 ≤ c ∧ c + n ≤ 1000000
theorem BoxAt.some {H : Hp} {b : Addr} {n : Nat} (h : BoxAt H b n) : ∃ o, H b = some o := by
  obtain ⟨d, m, c, f, h, _⟩ := h
  exact ⟨_, h⟩
theorem BoxAt.le {H : Hp} {b : Addr} {n k : Nat} (h : BoxAt H b n) (l : k ≤ n) : BoxAt H b k := by
  obtain ⟨d, m, c, f, h, h1, h2, h3, h4, h5⟩ := h
  exact ⟨d, m, c, f, h, h1, h2, h3, h4, by omega⟩
theorem BoxAt.ex {H H' : Hp} {b : Addr} {n : Nat} (h : BoxAt H b n) (e : Ex H H') : BoxAt H' b n := by
  obtain ⟨d, m, c, f, h, r⟩ := h
  exact ⟨d, m, c, f, e _ _ h, r⟩
theorem BoxAt.ne {H : Hp} {b p : Addr} {n : Nat} (h : BoxAt H b n) (hp : H p = none) : p ≠ b := by
  obtain ⟨d, m, c, f, h, _⟩ := h
  exact ne_new hp h
def spCell (K : PySem.W.Frag) : Sp := fun vs H Q _ => ∃ (a : Addr) (ns : List Int) (k : Int), vs = [.ref a, .int k] ∧ SqL K H a (ns.map V.int) ∧ 0 ≤ k ∧ k ≤ 1000 ∧ ∀ (v : Int) H', Ex H H' → Q (.int v) H'
def spBox : Sp := fun vs H Q _ => ∃ g : Int, vs = [.int g] ∧ ∀ p H', H p = none → Ex H H' → BoxAt H' p 1000000 → Q (.ref p) H'
def spTake : Sp := fun vs H Q _ => ∃ (b : Addr) (m : Int) (n : Nat), vs = [.ref b, .int m] ∧ 0 < m ∧ m < 1073741824 ∧ BoxAt H b (n + 1) ∧
  ∀ r H', 0 ≤ r → r < m → BoxAt H' b n → But b H H' → Q (.int r) H'

/-! ## types of data -/
theorem tyL {K : PySem.W.Frag} {H : Hp} {a : Addr} {xs : List V} (h : SqL K H a xs) : TyX K H (.ref a) (.type "list") := by
  rcases h with (h | ⟨o, h⟩) | ⟨o, its, n, hk, hc, _⟩
  · exact .base (.lst h)
  · exact .base (.frz h)
  · exact .kList hk hc
theorem tyT {K : PySem.W.Frag} {H : Hp} {a : Addr} {xs : List V} (h : SqT K H a xs) : TyX K H (.ref a) (.type "tuple") := by
  rcases h with (h | ⟨o, h⟩) | ⟨o, its, n, hk, hc, _⟩
  · exact .base (.tup h)
  · exact .fTuple h
  · exact .kTuple hk hc
/-- two values that hold the same, at most n lists and tuples within one another -/
inductive Sm (K : PySem.W.Frag) (H : Hp) : Nat → V → V → Prop
  | non {n} : Sm K H n .non .non
  | bl {n} (b : Bool) : Sm K H n (.bl b) (.bl b)
  | int {n} (i : Int) : Sm K H n (.int i) (.int i)
  | str {n} (z : Str) (h : z.length ≤ 1000) : Sm K H n (.str z) (.str z)
  | lst {n} {a b : Addr} {xs ys : List V} (h1 : SqL K H a xs) (h2 : SqL K H b ys) (hl : xs.length = ys.length) (hz : xs.length ≤ 1000)
      (all : ∀ (i : Nat) (x y : V), xs[i]? = some x → ys[i]? = some y → Sm K H n x y) : Sm K H (n + 1) (.ref a) (.ref b)
  | tup {n} {a b : Addr} {xs ys : List V} (h1 : SqT K H a xs) (h2 : SqT K H b ys) (hl : xs.length = ys.length) (hz : xs.length ≤ 1000)
      (all : ∀ (i : Nat) (x y : V), xs[i]? = some x → ys[i]? = some y → Sm K H n x y) : Sm K H (n + 1) (.ref a) (.ref b)
theorem Sm.ex {K : PySem.W.Frag} {H H' : Hp} (e : Ex H H') {n : Nat} {x y : V} (h : Sm K H n x y) : Sm K H' n x y := by
  induction h with
  | non => exact .non
  | bl b => exact .bl b
  | int i => exact .int i
  | str z h => exact .str z h
  | lst h1 h2 hl hz _ ih => exact .lst (ex_l e h1) (ex_l e h2) hl hz ih
  | tup h1 h2 hl hz _ ih => exact .tup (ex_t e h1) (ex_t e h2) hl hz ih
theorem Sm.succ {K : PySem.W.Frag} {H : Hp} {n : Nat} {x y : V} (h : Sm K H n x y) : Sm K H (n + 1) x y := by
  induction h with
  | non => exact .non
  | bl b => exact .bl b
  | int i => exact .int i
  | str z h => exact .str z h
  | lst h1 h2 hl hz _ ih => exact .lst h1 h2 hl hz ih
  | tup h1 h2 hl hz _ ih => exact .tup h1 h2 hl hz ih
theorem Sm.le {K : PySem.W.Frag} {H : Hp} {n m : Nat} {x y : V} (h : Sm K H n x y) (l : n ≤ m) : Sm K H m x y := by
  induction l with
  | refl => exact h
  | step _ ih => exact ih.succ
theorem Sm.ints {K : PySem.W.Frag} {H : Hp} {n : Nat} {ns : List Int} : ∀ (i : Nat) (x y : V), (ns.map V.int)[i]? = some x → (ns.map V.int)[i]? = some y → Sm K H n x y := by
  intro i x y h1 h2
  rw [h1] at h2
  cases h2
  rw [List.getElem?_map] at h1
  cases e : ns[i]? with
  | none => rw [e] at h1; cases h1
  | some z => rw [e] at h1; cases h1; exact .int z
def spSame (K : PySem.W.Frag) (n : Nat) : Sp := fun vs H Q _ => ∃ x y, vs = [x, y] ∧ Sm K H n x y ∧ ∀ H', Ex H H' → Q (.bl true) H'
theorem cut_one {z : Str} {k : Nat} {c : Nat} (h : z.cps.toList[k]? = some c) : cutS z (some (k : Int)) (some ((k : Int) + 1)) = ⟨#[c]⟩ := by
  have hk := (List.getElem?_eq_some_iff.mp h).1
  have hz : z.cps.toList.length = z.length := Array.length_toList
  unfold cutS
  have e : ((k : Int) + 1) = ((k + 1 : Nat) : Int) := by omega
  rw [e, HT.sIx_nat, HT.sIx_nat, Nat.min_eq_left (by omega), Nat.min_eq_left (by omega)]
  have e2 : k + 1 - k = 1 := by omega
  rw [e2, List.drop_eq_getElem_cons hk]
  have e3 := (List.getElem?_eq_some_iff.mp h).2
  simp [e3]

/-! ## the rules whose reading speaks of the written part, with it named (within a comprehension's block) -/
section
variable {X : Cx}
def rLen (K : PySem.W.Frag) : List V → Hp → VK → Prop := fun xs H Q => ∃ x n, xs = [x] ∧ LenV K x H n ∧ Q (.int (n : Nat)) H
def rListOf (K : PySem.W.Frag) : List V → Hp → VK → Prop := fun xs H Q => ∃ p ys, xs = [.ref p] ∧ (SqL K H p ys ∨ SqT K H p ys) ∧ ∀ l, H l = none → Q (.ref l) (upd H l (.lst ys))
def rTupOf (K : PySem.W.Frag) : List V → Hp → VK → Prop := fun xs H Q => ∃ p ys, xs = [.ref p] ∧ ((SqL K H p ys ∧ ∀ l, H l = none → Q (.ref l) (upd H l (.tup ys))) ∨ (SqT K H p ys ∧ Q (.ref p) H))
theorem kix (K : PySem.W.Frag) (h : X.K = K := by rfl) : IxR X (rIx K) := by subst h; exact ix_seq
theorem kixl (K : PySem.W.Frag) (h : X.K = K := by rfl) : IxR X (rIxL K) := by subst h; exact ix_list
theorem kixt (K : PySem.W.Frag) (h : X.K = K := by rfl) : IxR X (rIxT K) := by subst h; exact ix_tup
theorem klen (K : PySem.W.Frag) (h : X.K = K := by rfl) : CallR X (.builtin "len") (rLen K) := by subst h; exact call_len
theorem klist (K : PySem.W.Frag) (h : X.K = K := by rfl) : CallR X (.type "list") (rListOf K) := by subst h; exact call_list_of
theorem ktuple (K : PySem.W.Frag) (h : X.K = K := by rfl) : CallR X (.type "tuple") (rTupOf K) := by subst h; exact call_tuple_of
theorem kisi (K : PySem.W.Frag) (h : X.K = K := by rfl) : CallR X (.builtin "isinstance") (rIsi K) := by subst h; exact call_isi
theorem kisiT (K : PySem.W.Frag) (h : X.K = K := by rfl) : CallR X (.builtin "isinstance") (rIsiT K) := by subst h; exact call_isiT
theorem keqD (K : PySem.W.Frag) (hu : X.A.units + 64 < cLine) (h : X.K = K := by rfl) : OpR X (compareOp .Eq) (rEqD K) := by subst h; exact op_eqD hu
theorem kneD (K : PySem.W.Frag) (hu : X.A.units + 64 < cLine) (h : X.K = K := by rfl) : OpR X (compareOp .NotEq) (rNeD K) := by subst h; exact op_neD hu
theorem kin (K : PySem.W.Frag) (h : X.K = K := by rfl) : OpR X (compareOp .In) (rIn K false) := by subst h; exact op_in_seq
theorem knotin (K : PySem.W.Frag) (h : X.K = K := by rfl) : OpR X (compareOp .NotIn) (rIn K true) := by subst h; exact op_notIn_seq
theorem kcatA (K : PySem.W.Frag) (h : X.K = K := by rfl) : OpR X (binaryOp .Add) (rCatA K) := by subst h; exact op_catA
theorem krepA (K : PySem.W.Frag) (h : X.K = K := by rfl) : OpR X (binaryOp .Mult) (rRepA K) := by subst h; exact op_repA
theorem kslL (K : PySem.W.Frag) (h : X.K = K := by rfl) : SlR X (rSlL K) := by subst h; exact sl_list
theorem kslT (K : PySem.W.Frag) (h : X.K = K := by rfl) : SlR X (rSlA K) := by subst h; exact sl_tupA
theorem ksum (K : PySem.W.Frag) (hc : X.calm = true) (h : X.K = K := by rfl) : CallR X (.builtin "sum") (rSumS K) := by subst h; exact cr_sumS hc
theorem kall (K : PySem.W.Frag) (hc : X.calm = true) (h : X.K = K := by rfl) : CallR X (.builtin "all") (rAll K) := by subst h; exact cr_all hc
theorem kpil (K : PySem.W.Frag) {tg l : Expr} {tl : TE} (hl : PE X l tl) (h : X.K = K := by rfl) : PI X tg l (iList K tl) := by subst h; exact pi_list hl
theorem kpit (K : PySem.W.Frag) {tg l : Expr} {tl : TE} (hl : PE X l tl) (h : X.K = K := by rfl) : PI X tg l (iTup K tl) := by subst h; exact pi_tup hl
theorem kpis (K : PySem.W.Frag) {tg l : Expr} {tl : TE} (hl : PE X l tl) (h : X.K = K := by rfl) : PI X tg l (iSeq K tl) := by subst h; exact pi_seq hl
end

/-! ## own errors with one attribute -/
structure ErrAt (K : PySem.W.Frag) (mg : Str → Option Value) (x qi : Str) (st : Stmt) (f : Str) where
  C : Addr
  fI : Addr
  fd : FuncData
  F : Fun K "__init__" qi st fI fd
  b : Binds K fd ["self", f] []
  T : OexC K C
  iC : PySem.W.findIn K (.ref C) "__init__" = some (some (.ref fI))
  tI : PySem.W.typeIn K (.ref fI) = some (.type "function")
  gC : mg x = some (.ref C)
  nf : PySem.W.findIn K (.ref C) f = some none
  xf : XfC K C
def spInit (C : Addr) (f : Str) : Sp := fun vs H Q _ => ∃ (a : Addr) (y : V), vs = [.ref a, y] ∧ H a = some (exo a C none) ∧
  ∀ d, H d = none → d ≠ a → Q .non (upd (upd H d (exd d [(f, y)])) a (exo a C (some d)))
theorem raised {C a : Addr} {H : Hp} {f : Str} {y : V} {Q : XK} {E : XK} (ha : H a = none) (q : ∀ d H', Ex H H' → H' d = some (.xd [(f, y)]) → Q (.ref C) (some d) H') :
    spInit C f [.ref a, y] (upd H a (exo a C none)) (fun v H2 => v = .non ∧ ∃ (d : Addr) (fs : List (Str × V)), H2 a = some (exo a C (some d)) ∧ H2 d = some (exd d fs) ∧ H d = none ∧ Q (.ref C) (some d) (upd (del H2 a) d (.xd fs))) E := by
  refine ⟨a, y, rfl, upd_same, fun d hd nd => ⟨rfl, d, [(f, y)], upd_same, ?_, ?_, ?_⟩⟩
  · rw [upd_ne nd]; exact upd_same
  · rw [upd_ne nd] at hd; exact hd
  · rw [upd_ne nd] at hd
    refine q d _ (fun b o hb => ?_) upd_same
    have h1 : b ≠ a := ne_of_none hb ha
    have h2 : b ≠ d := ne_of_none hb hd
    rw [upd_ne h2, del_ne h1, upd_ne h1, upd_ne h2, upd_ne h1]
    exact hb
/-- a check: it lets what is right, else raises the error of C with the very value -/
def spChk (C : Addr) (ok : Int → Prop) : Sp := fun vs H Q E => ∃ i : Int, vs = [.int i] ∧ (ok i → ∀ H', Ex H H' → Q .non H') ∧
  (¬ ok i → ∀ d H', Ex H H' → H' d = some (.xd [("given", .int i)]) → E (.ref C) (some d) H')
end L2.U


set_option Elab.async false
set_option linter.all false
set_option maxRecDepth 100000
set_option maxHeartbeats 4000000
namespace L2.U
open PySem PySem.Spec PyProof.Rows Evl
/-! ## methods: with arguments by position or by name; they may raise -/
structure MethAt (K : PySem.W.Frag) (C : Addr) (m q : Str) (st : Stmt) (ps : List Str) where
  a : Addr
  fd : FuncData
  F : Fun K m q st a fd
  b : Binds K fd ps []
  M : Meth K C m a
def tMX (C : Addr) (m : Str) (sp : Sp) (E : St → XK) (ta : TE) (t : TA) : TE := fun σ H Q => ta σ H fun x H1 => ∃ a dx fs, x = .ref a ∧ H1 a = some (.ins C dx fs) ∧ fs.lookup m = none ∧ t σ H1 fun vs H2 => sp (x :: vs) H2 Q (E σ)
def tMKw (C : Addr) (m : Str) (sp : Sp) (pm : List V → List V → List V) (E : St → XK) (ta : TE) (t : TA) : TE := fun σ H Q => ta σ H fun x H1 => ∃ a dx fs, x = .ref a ∧ H1 a = some (.ins C dx fs) ∧ fs.lookup m = none ∧
  t σ H1 fun zs H2 => sp (pm [x] zs) H2 Q (E σ)
section
variable {X : Cx} {CX : CXT} {k : Nat} {f C : Addr} {fd : FuncData} {ps ks : List Str} {sp : Sp} {E : St → XK} {m : Str} {pos apos : Pos} {e o : Expr} {es : List Expr} {kws : List Keyword} {ta : TE} {t tk : TA}
  {g : List Value → List Value → List Value} {gV : List V → List V → List V}
theorem pe_mX {pl : Sem Bool} (he : PE X o ta) (c : Cls X.K C) (hm : Meth X.K C m f) (F : FnOk X.prog X.w X.K X.mg X.base CX k f fd ps sp) (hr : Room k X.A) (hb : Binds X.K fd ps []) (hx : ∀ σ, PassesAt CX X σ (E σ)) (ha : PA X (e :: es) t)
    (hst : starEach (e :: es) X.env = (false, eval e X.env) :: starEach es X.env := by rfl) (hpl : (backTo pos (starEach es X.env)).any (·.1) = false := by rfl)
    (ht : eval (.Call (.Attribute o m apos) (e :: es) [] pos) X.env = (do
      let ov ← eval o X.env; standAt apos.atName; let (f, first) ← holding [ov] (getMethod ov m pl)
      callWith pos f first (backTo pos (starEach (e :: es) X.env)) (backToKw pos (keywordEach [] X.env))) := by rfl) :
    PE X (.Call (.Attribute o m apos) (e :: es) [] pos) (tMX C m sp E ta t) := by
  constructor
  intro pins s σ H Q I h
  refine PySem.W.methodCall_KW (pl := pl) (thn (he.run pins s σ H _ I h) ?_) ht
  rintro u s1 ⟨x, H1, I1, rx, a, dx, fs, rfl, ea, l, q⟩
  obtain rfl : u = Value.ref a := rx
  refine getmeth_ok I1 ea c hm l (PySem.W.callWith_K (first := [.ref a]) (h₀ := X.base) I.ok.mod.kin hm.kp (thn (ha.run pos pins s1 σ H1 _ I1 q) ?_) hst hpl)
  rintro us s2 ⟨vs, H2, I2, r, q2⟩
  exact ⟨I2.kIn, run_fnS (us := .ref a :: us) (vs := .ref a :: vs) F hr hb (hx σ) I2 (.cons rfl r) q2⟩
theorem pe_mX0 {pl : Sem Bool} (he : PE X o ta) (c : Cls X.K C) (hm : Meth X.K C m f) (F : FnOk X.prog X.w X.K X.mg X.base CX k f fd ps sp) (hr : Room k X.A) (hb : Binds X.K fd ps []) (hx : ∀ σ, PassesAt CX X σ (E σ))
    (ht : eval (.Call (.Attribute o m apos) [] [] pos) X.env = (do
      let ov ← eval o X.env; standAt apos.atName; let (f, first) ← holding [ov] (getMethod ov m pl)
      callWith pos f first (backTo pos (starEach [] X.env)) (backToKw pos (keywordEach [] X.env))) := by rfl) :
    PE X (.Call (.Attribute o m apos) [] [] pos) (tMX C m sp E ta tNil) := by
  constructor
  intro pins s σ H Q I h
  refine PySem.W.methodCall_KW (pl := pl) (thn (he.run pins s σ H _ I h) ?_) ht
  rintro u s1 ⟨x, H1, I1, rx, a, dx, fs, rfl, ea, l, q⟩
  obtain rfl : u = Value.ref a := rx
  exact getmeth_ok I1 ea c hm l (PySem.W.callWith_K0 (first := [.ref a]) I1.kIn hm.kp (run_fnS (us := [.ref a]) (vs := [.ref a]) F hr hb (hx σ) I1 (.cons rfl .nil) q))
theorem pe_mKw {pl : Sem Bool} (he : PE X o ta) (c : Cls X.K C) (hm : Meth X.K C m f) (F : FnOk X.prog X.w X.K X.mg X.base CX k f fd ps sp) (hr : Room k X.A) (hb : KBinds X.K fd ps ks g gV) (hx : ∀ σ, PassesAt CX X σ (E σ)) (hkw : PK X kws tk)
    (hall : (backToKw pos (keywordEach kws X.env)).all (·.1.isSome) = true := by rfl) (hks : (backToKw pos (keywordEach kws X.env)).filterMap (·.1) = ks := by rfl)
    (hpl : ((backTo pos (starEach [] X.env)).any (·.1) || (backToKw pos (keywordEach kws X.env)).any (·.1.isNone)) = false := by rfl)
    (ht : eval (.Call (.Attribute o m apos) [] kws pos) X.env = (do
      let ov ← eval o X.env; standAt apos.atName; let (f, first) ← holding [ov] (getMethod ov m pl)
      callWith pos f first (backTo pos (starEach [] X.env)) (backToKw pos (keywordEach kws X.env))) := by rfl) :
    PE X (.Call (.Attribute o m apos) [] kws pos) (tMKw C m sp gV E ta tk) := by
  constructor
  intro pins s σ H Q I h
  refine PySem.W.methodCall_KW (pl := pl) (thn (he.run pins s σ H _ I h) ?_) ht
  rintro u s1 ⟨x, H1, I1, rx, a, dx, fs, rfl, ea, l, q⟩
  obtain rfl : u = Value.ref a := rx
  refine getmeth_ok I1 ea c hm l (PySem.W.callWith_KW0 (first := [.ref a]) (h₀ := X.base) I.ok.mod.kin hm.kp hall (thn (hkw.run pos pins s1 σ H1 _ I1 q) ?_) hpl)
  rintro ws s2 ⟨zs, H2, I2, rz, q2⟩
  refine ⟨I2.kIn, ?_⟩
  rw [hks]
  have r2 : Vals (gV [.ref a] zs) (g [.ref a] ws) := hb.rel (.cons rfl .nil) rz
  have hl : (g [.ref a] ws).length = ps.length := by rw [← r2.length]; exact F.len _ _ _ _ q2
  refine wpAny_call (codeAny_mono (F.run X.A X.stack s2 H2 ⟨[.ref a], ks.zip ws⟩ (g [.ref a] ws) (gV [.ref a] zs) Q (E σ) hr I2.env0 (hb.to s2 [.ref a] ws I2.kIn hl) r2 q2) ?_)
  intro r s' hq
  cases r with
  | error e => exact hx σ pins H2 s2 e s' I2 hq
  | ok fl => cases fl with
    | ret u => exact I2.after hq
    | next => exact False.elim hq
    | brk => exact False.elim hq
    | cont => exact False.elim hq
theorem passLAt {X : Cx} {σ : St} : PassesAt (L2.CX X.prog X.w) X σ E0 := fun pins H s e s' I c => passL pins σ H s e s' I c
end
/-! ## a range that stands in a name, walked -/
def iRngV (tl : TE) : TI := fun σ H R => tl σ H fun x H1 => ∃ (a : Addr) (lo hi : Int), x = .ref a ∧ H1 a = some (.rng lo hi) ∧ (-(2 ^ 62) ≤ lo ∧ lo < 2 ^ 62 ∧ -(2 ^ 62) ≤ hi ∧ hi < 2 ^ 62) ∧ R (Itr lo (hi - lo).toNat) H1
theorem pi_rngv {X : Cx} {tg l : Expr} {tl : TE} (hl : PE X l tl) : PI X tg l (iRngV tl) := by
  constructor
  intro pins s σ H R I h
  refine thn (hl.run pins s σ H _ I h) ?_
  rintro v s1 ⟨x, H1, I1, rx, a, lo, hi, rfl, ea, ⟨h1, h2, h3, h4⟩, q⟩
  obtain rfl : v = Value.ref a := rx
  obtain ⟨t, u, w, ho⟩ := (show ∃ t u v, s1.heap.get? a = some { cls := .type "range", data := .fields #[.int lo t, .int hi u, .int 1 v] } from I1.hok a _ ea)
  refine wpAny_pyIter_range (show IsRange s1.heap a lo hi 1 t u w from ho) (small_one h1 h2 h3 h4) ?_
  refine ⟨s1.heap.objs.size, [s1.heap.objs.size], _, _, H1, rfl, I1.kept (t' := s1.toks) fun b o e => Heap.get?_push_of_some _ e, turn_range _ lo (hi - lo).toNat, ?_, ?_, q⟩
  · have e1 : lo + ((0 : Nat) : Int) * 1 = lo := by simp
    have e2 : (((hi - lo).toNat : Nat) : Int) - ((0 : Nat) : Int) = Builtin.Range.rangeSize lo hi 1 := by
      rw [rangeSize_one]; split <;> omega
    show IsRangeIter _ _ (lo + ((0 : Nat) : Int) * 1) ((((hi - lo).toNat : Nat) : Int) - ((0 : Nat) : Int)) 1
    rw [e1, e2]
    exact Heap.get?_push_size _ rfl
  · intro b hb
    obtain rfl : b = s1.heap.objs.size := by simpa using hb
    exact I1.fpOk (Nat.le_refl _) (I1.hok.fresh (Nat.le_refl _))
/-- x in ints -/
theorem inV_ints {i : Int} {ns : List Int} : inV (.int i) (ns.map V.int) = decide (i ∈ ns) := by
  unfold inV
  induction ns with
  | nil => rfl
  | cons n r ih =>
    rw [List.map_cons, List.any_cons, ih]
    have e : eqV (.int n) (.int i) = decide (i = n) := by
      show (n == i) = decide (i = n)
      rw [Bool.beq_eq_decide_eq]
      exact decide_eq_decide.mpr eq_comm
    rw [e]
    by_cases c : i = n <;> simp [c]
theorem flat_ints {ns : List Int} : (ns.map V.int).all flatV = true := by
  rw [List.all_map, List.all_eq_true]
  intro x _
  rfl
end L2.U


set_option Elab.async false
set_option linter.all false
set_option maxRecDepth 100000
set_option maxHeartbeats 4000000
namespace L2.U
open PySem PySem.Spec PyProof.Rows Evl
/-! ## how many there are of different ints in a list: len(set(xs)) -/
/-- the different ones, each where it is met first -/
def diffs (ns : List Int) : List Int := PyProof.Rows.firstMet (fun i => ns.getD i 0) ns.length
def tCountI (K : PySem.W.Frag) (te : TE) : TE := fun σ H Q => te σ H fun x H1 => ∃ (l : Addr) (ns : List Int), x = .ref l ∧ SqL K H1 l (ns.map V.int) ∧ ns.length ≤ 64 ∧ Q (.int (diffs ns).length) H1
theorem pe_countI {X : Cx} {e : Expr} {te : TE} {p p2 q pos : Pos} (calm : X.calm = true) (g1 : Gl X "len") (m1 : X.mg "len" = none) (g2 : Gl X "set") (m2 : X.mg "set" = none) (he : PE X e te)
    (st : starEach [e] X.env = (false, eval e X.env) :: starEach [] X.env := by rfl) : PE X (.Call (.Name "len" p) [.Call (.Name "set" p2) [e] [] q] [] pos) (tCountI X.K te) := by
  constructor
  intro pins s σ H Q I h
  refine Call_ (ld_blt I g1 m1 boot_len (PyProof.Rows.callWith_builtin1 (PyProof.Rows.args_cons ?_ rfl) rfl rfl))
  refine Call_ (ld_blt I g2 m2 boot_set (PyProof.Rows.callWith_type1 (PyProof.Rows.args_cons (thn (he.run pins s σ H _ I h) ?_) st) st rfl))
  rintro v s1 ⟨x, H1, I1, rx, l, ns, rfl, hl, hz, q1⟩
  obtain rfl : v = Value.ref l := rx
  refine PyProof.Rows.args_nil ?_
  obtain ⟨its, rv, pl, hn⟩ := I1.list hl
  have ia : IntsAre its ns := intsAre_of rv
  have il : its.toArray.size = ns.length := by rw [List.size_toArray, ← rv.length, List.length_map]
  refine call_set_list (I1.ok.hd calm) pl.isList (by simpa using ia) (by rw [il]; exact Nat.lt_of_le_of_lt (Nat.succ_le_succ hz) (by decide)) fun h' tk hS hk => ?_
  rw [il] at hS
  refine PyProof.Rows.args_nil ?_
  obtain ⟨o, es, ep, t, ho, hex, hd, _, _, _, hf, hm⟩ := hS
  have I2 : Inv X pins σ H1 { s1 with heap := h', toks := tk } := I1.kept fun b o e => hk b o (Heap.lt_size e) e
  have le : es.size ≤ 64 := by rw [hm]; exact Nat.le_trans (PyProof.Rows.firstMet_length_le _ _) hz
  exact call_len_set ho hex hd hf (by omega) ⟨.int (diffs ns).length, H1, I2.tok _, ⟨_, by rw [hm]; rfl⟩, q1⟩
end L2.U


set_option Elab.async false
set_option linter.all false
set_option maxRecDepth 100000
set_option maxHeartbeats 4000000
namespace L2.U
open PySem PySem.Spec PyProof.Rows Evl
def top (i : Nat) : Stmt := PySem.Challenge.pw_upforgood_k07_wires_raised_by_both.main.body.getD i (.Pass ⟨0, 0, 0, 0⟩)
abbrev s_is_integer : Stmt := top 1
theorem sc_is_integer : FnScope ["value"] ["value"] (defScope s_is_integer) := ⟨rfl, rfl, rfl, by decide +kernel, rfl, by decide +kernel, by decide +kernel⟩
abbrev s_is_between : Stmt := top 2
theorem sc_is_between : FnScope ["value", "low", "high"] ["value", "low", "high"] (defScope s_is_between) := ⟨rfl, rfl, rfl, by decide +kernel, rfl, by decide +kernel, by decide +kernel⟩
abbrev s_are_between : Stmt := top 3
theorem sc_are_between : FnScope ["values", "low", "high", "value"] ["values", "low", "high"] (defScope s_are_between) := ⟨rfl, rfl, rfl, by decide +kernel, rfl, by decide +kernel, by decide +kernel⟩
abbrev s_law_cell : Stmt := top 17
theorem sc_law_cell : FnScope ["script", "k"] ["script", "k"] (defScope s_law_cell) := ⟨rfl, rfl, rfl, by decide +kernel, rfl, by decide +kernel, by decide +kernel⟩
abbrev s_law_box : Stmt := top 18
theorem sc_law_box : FnScope ["great"] ["great"] (defScope s_law_box) := ⟨rfl, rfl, rfl, by decide +kernel, rfl, by decide +kernel, by decide +kernel⟩
abbrev s_law_take : Stmt := top 19
theorem sc_law_take : FnScope ["box", "many", "digit", "mixed"] ["box", "many"] (defScope s_law_take) := ⟨rfl, rfl, rfl, by decide +kernel, rfl, by decide +kernel, by decide +kernel⟩
abbrev s_law_same : Stmt := top 20
theorem sc_law_same : FnScope ["told", "due", "k"] ["told", "due"] (defScope s_law_same) := ⟨rfl, rfl, rfl, by decide +kernel, rfl, by decide +kernel, by decide +kernel⟩
structure TA1 (K : PySem.W.Frag) (mg : Str → Option Value) where
  is_integer : DefAt K mg "is_integer" s_is_integer ["value"]
  is_between : DefAt K mg "is_between" s_is_between ["value", "low", "high"]
  are_between : DefAt K mg "are_between" s_are_between ["values", "low", "high"]
  law_cell : DefAt K mg "_law_cell" s_law_cell ["script", "k"]
  law_box : DefAt K mg "_law_box" s_law_box ["great"]
  law_take : DefAt K mg "_law_take" s_law_take ["box", "many"]
  law_same : DefAt K mg "_law_same" s_law_same ["told", "due"]
  z_int : mg "int" = none
  z_bool : mg "bool" = none
  z_str : mg "str" = none
  z_list : mg "list" = none
  z_tuple : mg "tuple" = none
  z_len : mg "len" = none
  z_sum : mg "sum" = none
  z_abs : mg "abs" = none
  z_all : mg "all" = none
  z_range : mg "range" = none
  z_isinstance : mg "isinstance" = none
section
variable {P : Program} {w : World} {K : PySem.W.Frag} {mg : Str → Option Value} {base : Heap}
def isI : V → Bool
  | .int _ => true
  | _ => false
/-- a value of one of the kinds of data -/
def Dat (K : PySem.W.Frag) (H : Hp) (x : V) : Prop := ∃ t, t ∈ ["NoneType", "bool", "int", "str", "list", "tuple", "dict"] ∧ TyX K H x (.type t) ∧ isI x = decide (t = "int")
theorem Dat.int {H : Hp} {i : Int} : Dat K H (.int i) := ⟨"int", by decide, .base (.int i), rfl⟩
theorem Dat.ex {H H' : Hp} {x : V} (e : Ex H H') (h : Dat K H x) : Dat K H' x := by
  obtain ⟨t, ht, ty, hi⟩ := h
  refine ⟨t, ht, ?_, hi⟩
  cases ty with
  | base b =>
    refine .base ?_
    cases b with
    | non => exact .non
    | bl x => exact .bl x
    | int i => exact .int i
    | str z => exact .str z
    | flt z => exact .flt z
    | lst h => exact .lst (e _ _ h)
    | frz h => exact .frz (e _ _ h)
    | tup h => exact .tup (e _ _ h)
    | dK h => exact .dK (e _ _ h)
    | dT h => exact .dT (e _ _ h)
  | byt b => exact .byt b
  | set h => exact .set (e _ _ h)
  | kList a b => exact .kList a b
  | kTuple a b => exact .kTuple a b
  | kDict a b => exact .kDict a b
  | fTuple h => exact .fTuple (e _ _ h)
  | fDict h => exact .fDict (e _ _ h)
def spIsInteger (K : PySem.W.Frag) : Sp := fun vs H Q _ => ∃ x, vs = [x] ∧ Dat K H x ∧ Q (.bl (isI x)) H
theorem ok_is_integer (T : TA1 K mg) : FnOk P w K mg base CX0 1 T.is_integer.a T.is_integer.fd ["value"] (spIsInteger K) := by
  refine T.is_integer.F.ok sc_is_integer (fun vs H Q E h => ?_) (fun cdv A outer s H vs Q E hr h => ?_)
  · obtain ⟨x, rfl, _⟩ := h; rfl
  obtain ⟨x, rfl, ⟨t, ht, ty, hi⟩, q⟩ := h
  refine ⟨_, (pss_one (ps_ret (pe_and (pe_callB (kisi K) (by rfl) T.z_isinstance (by decide +kernel) (pa_cons (pv 0) (pa_cons (pe_bltn (v := .ty "int") rfl T.z_int (by decide +kernel) rfl) pa_nil))) (pe_one (pe_not (pe_callB (kisi K) (by rfl) T.z_isinstance (by decide +kernel) (pa_cons (pv 0) (pa_cons (pe_bltn (v := .ty "bool") rfl T.z_bool (by decide +kernel) rfl) pa_nil)))))))), ?_⟩
  simp only [List.mem_cons, List.not_mem_nil, or_false] at ht
  rcases ht with rfl | rfl | rfl | rfl | rfl | rfl | rfl
  · refine ⟨_, rfl, _, _, _, _, _, rfl, .ty "int", ty, kit_ty (r := false) (by decide +kernel), false, rfl, iteF ?_⟩
    rw [hi] at q; exact q
  · refine ⟨_, rfl, _, _, _, _, _, rfl, .ty "int", ty, kit_ty (r := true) (by decide +kernel), true, rfl, iteT ?_⟩
    refine ⟨_, rfl, _, _, _, _, _, rfl, .ty "bool", ty, kit_ty (r := true) (by decide +kernel), true, rfl, ?_⟩
    rw [hi] at q; exact q
  · refine ⟨_, rfl, _, _, _, _, _, rfl, .ty "int", ty, kit_ty (r := true) (by decide +kernel), true, rfl, iteT ?_⟩
    refine ⟨_, rfl, _, _, _, _, _, rfl, .ty "bool", ty, kit_ty (r := false) (by decide +kernel), false, rfl, ?_⟩
    rw [hi] at q; exact q
  all_goals
    refine ⟨_, rfl, _, _, _, _, _, rfl, .ty "int", ty, kit_ty (r := false) (by decide +kernel), false, rfl, iteF ?_⟩
    rw [hi] at q; exact q
theorem isI_int {x : V} (h : isI x = true) : ∃ i, x = .int i := by
  cases x <;> first | exact ⟨_, rfl⟩ | cases h
def spIsBetween (K : PySem.W.Frag) : Sp := fun vs H Q _ => ∃ (x : V) (lo hi : Int), vs = [x, .int lo, .int hi] ∧ Dat K H x ∧ ∀ b, (∀ i, x = .int i → b = decide (lo ≤ i ∧ i ≤ hi)) → (isI x = false → b = false) → Q (.bl b) H
theorem ok_is_between (T : TA1 K mg) : FnOk P w K mg base CX0 2 T.is_between.a T.is_between.fd ["value", "low", "high"] (spIsBetween K) := by
  refine T.is_between.F.ok sc_is_between (fun vs H Q E h => ?_) (fun cdv A outer s H vs Q E hr h => ?_)
  · obtain ⟨x, lo, hi, rfl, _⟩ := h; rfl
  obtain ⟨x, lo, hi, rfl, hd, q⟩ := h
  refine ⟨_, (pss_one (ps_ret (pe_and (pe_call (ok_is_integer T) (hr.mono (by decide)) rfl T.is_integer.m T.is_integer.F.kp T.is_integer.b .nil pass0 (pa_cons (pv 0) pa_nil)) (pe_one (pe_chain op_le op_le (pv 1) (pv 0) (pv 2)))))), ?_⟩
  refine ⟨_, rfl, _, rfl, hd, isI x, rfl, ?_⟩
  cases hx : isI x with
  | false => exact q false (fun i e => by rw [e] at hx; cases hx) (fun _ => rfl)
  | true =>
    obtain ⟨i, rfl⟩ := isI_int hx
    refine ⟨_, rfl, _, rfl, _, _, rfl, rfl, _, rfl, ite2 (fun c => ?_) (fun c => ?_)⟩
    · refine ⟨_, rfl, _, _, rfl, rfl, q _ (fun j e => ?_) (fun e => by cases e)⟩
      cases e
      have c' := of_decide_eq_true c
      simp [c']
    · refine q _ (fun j e => ?_) (fun e => by cases e)
      cases e
      have c' := of_decide_eq_false (Bool.eq_false_iff.mpr c)
      simp [c']
def spAreBetween (K : PySem.W.Frag) : Sp := fun vs H Q _ => ∃ (a : Addr) (ns : List Int) (lo hi : Int), vs = [.ref a, .int lo, .int hi] ∧ SqT K H a (ns.map V.int) ∧ ns.length ≤ 1000 ∧ (∀ n ∈ ns, lo ≤ n ∧ n ≤ hi) ∧ ∀ H', Ex H H' → Q (.bl true) H'
theorem tyes {σ : L2.St} {H : Hp} {F G : Hp → Prop} (h : F H) : tYes σ H (fun b H3 => if b = true then F H3 else G H3) := by
  show if true = true then F H else G H
  rw [if_pos rfl]
  exact h
theorem at_get {xs : List V} {k : Int} (h0 : 0 ≤ k) (h : k < (xs.length : Int)) : ∃ v, atI xs k = some v ∧ xs[k.toNat]? = some v := by
  have hk : k.toNat < xs.length := by omega
  refine ⟨xs[k.toNat], ?_, List.getElem?_eq_getElem hk⟩
  exact at_of (by omega) (List.getElem?_eq_getElem hk)
theorem ints_get {ns : List Int} {i : Nat} {v : V} (h : (ns.map V.int)[i]? = some v) : ∃ z, ns[i]? = some z ∧ v = .int z := by
  rw [List.getElem?_map] at h
  cases e : ns[i]? with
  | none => rw [e] at h; cases h
  | some z => rw [e] at h; exact ⟨z, rfl, (Option.some.inj h).symm⟩
theorem ok_are_between (T : TA1 K mg) : FnOk P w K mg base CX0 3 T.are_between.a T.are_between.fd ["values", "low", "high"] (spAreBetween K) := by
  refine T.are_between.F.ok sc_are_between (fun vs H Q E h => ?_) (fun cdv A outer s H vs Q E hr h => ?_)
  · obtain ⟨a, ns, lo, hi, rfl, _⟩ := h; rfl
  obtain ⟨a, ns, lo, hi, rfl, hs, hz, hall, q⟩ := h
  refine ⟨_, (pss_one (ps_ret (pe_callB (kall K rfl) (by rfl) T.z_all (by decide +kernel) (pa_cons (pe_lc (own := [("value", 3)]) (g := gName 3) (by rfl) sc_are_between.nd (kpit K (pv 0)) (blkOk_by (own := [("value", 3)]) (N := ["values", "low", "high", "value"]) (sc := defScope s_are_between) (by decide +kernel)) (fun _ _ _ _ _ => (pg_name (i := 3) sc_are_between.nd rfl (Or.inl rfl))) (fun _ _ _ _ _ => pts_nil) (fun _ _ _ _ _ => (pe_call (ok_is_between T) (hr.mono (by decide)) rfl T.is_between.m T.is_between.F.kp T.is_between.b .nil pass0 (pa_cons (pv 3) (pa_cons (pv 1) (pa_cons (pv 2) pa_nil)))))) pa_nil)))), ?_⟩
  refine ⟨_, rfl, a, rfl, ⟨_, hs⟩, fun D hD => lc_tup (xs := ns.map V.int) (fun i H' => H D = none ∧ Ex H H' ∧ H' D = some (.lst (List.replicate i (.bl true)))) ⟨hD, Ex.new hD, upd_same⟩
    (fun i H' _ p => ex_t p.2.1 hs) ?_ ?_⟩
  · rintro i x H' hx ⟨hD, e, hd⟩
    obtain ⟨z, hz1, rfl⟩ := ints_get hx
    have hzz := hall z (List.mem_of_getElem? hz1)
    have hi2 : i < 1000 := by
      have := (List.getElem?_eq_some_iff.mp hz1).1
      omega
    refine ⟨rfl, tyes ⟨_, rfl, _, rfl, _, rfl, _, _, _, rfl, Dat.int, fun b hb _ => ?_⟩⟩
    have hb' := hb z rfl
    subst hb'
    rw [decide_eq_true hzz]
    refine ⟨_, hd, ?_, hD, e.mut hD, ?_⟩
    · rw [List.length_replicate]
      exact small1000 (by omega)
    · rw [upd_same, List.replicate_succ']
  · rintro H' ⟨_, e, hd⟩
    refine ⟨D, List.replicate (ns.map V.int).length true, rfl, ?_, ?_⟩
    · rw [List.map_replicate]
      exact SqL.of hd
    · have z : (List.replicate (ns.map V.int).length true).all id = true := by
        rw [List.all_eq_true]
        intro b hb
        rw [List.eq_of_mem_replicate hb]
        rfl
      rw [z]
      exact q _ e
theorem cutV_ints (ns : List Int) (lo hi : Option Int) : ∃ ms : List Int, cutV (ns.map V.int) lo hi = ms.map V.int := by
  refine ⟨(ns.drop (HT.sIx (ns.map V.int).length 0 lo)).take (HT.sIx (ns.map V.int).length (ns.map V.int).length hi - HT.sIx (ns.map V.int).length 0 lo), ?_⟩
  unfold cutV
  rw [List.map_take, List.map_drop]
theorem ok_law_cell (T : TA1 K mg) : FnOk P w K mg base CX0 1 T.law_cell.a T.law_cell.fd ["script", "k"] (spCell K) := by
  refine T.law_cell.F.ok sc_law_cell (fun vs H Q E h => ?_) (fun cdv A outer s H vs Q E hr h => ?_)
  · obtain ⟨a, ns, k, rfl, _⟩ := h; rfl
  obtain ⟨a, ns, k, rfl, hS, h0, h1, q⟩ := h
  refine ⟨_, (pss_one (ps_ret (pe_ifExp (pt_cmpR op_lt (pv 1) (pe_callB (klen K) (by rfl) T.z_len (by decide +kernel) (pa_cons (pv 0) pa_nil)) (nomark _)) (pe_ix (kixl K) (pv 0) (pv 1) (fun _ _ => rfl)) (pe_op op_add (pe_op op_mul pe_int (pv 1)) (pe_op op_mod (pe_callTy call_int1 (by rfl) T.z_int (by decide +kernel) (pa_cons (pe_callB (ksum K rfl) (by rfl) T.z_sum (by decide +kernel) (pa_cons (pe_slice (kslL K) (pv 0) po_none (po_some pe_int)) pa_nil)) pa_nil)) pe_int))))), ?_⟩
  refine ⟨_, rfl, _, rfl, _, _, rfl, .inl ⟨_, hS, rfl⟩, _, _, rfl, rfl, _, rfl, ite2 (fun c => ?_) (fun c => ?_)⟩
  · have c' := of_decide_eq_true c
    obtain ⟨v, hv, hg⟩ := at_get h0 c'
    obtain ⟨z, _, rfl⟩ := ints_get hg
    exact ⟨_, rfl, _, rfl, _, _, _, _, rfl, rfl, hS, hv, q _ _ (Ex.refl _)⟩
  · refine ⟨_, rfl, _, _, rfl, rfl, .inl ⟨by decide, by decide⟩, _, rfl, _, rfl, _, _, rfl, hS, fun p hp => ?_⟩
    obtain ⟨ms, em⟩ := cutV_ints ns none (some 1)
    rw [em]
    refine ⟨p, ms, rfl, .inl (SqL.of upd_same), .inl ⟨_, rfl, _, _, rfl, rfl, (show (0 : Int) < 1000033 by decide), _, _, rfl, rfl, q _ _ (Ex.new hp)⟩⟩
theorem ok_law_box (T : TA1 K mg) : FnOk P w K mg base CX0 1 T.law_box.a T.law_box.fd ["great"] spBox := by
  refine T.law_box.F.ok sc_law_box (fun vs H Q E h => ?_) (fun cdv A outer s H vs Q E hr h => ?_)
  · obtain ⟨g, rfl, _⟩ := h; rfl
  obtain ⟨g, rfl, q⟩ := h
  refine ⟨_, (pss_one (ps_ret (pe_lst (pa_cons (pe_callB call_abs (by rfl) T.z_abs (by decide +kernel) (pa_cons (pv 0) pa_nil)) (pa_cons (pe_cmpR op_ge (pe_callB call_abs (by rfl) T.z_abs (by decide +kernel) (pa_cons (pv 0) pa_nil)) (pe_op op_pow pe_int pe_int) (nomark _)) (pa_cons (pe_op op_mod (pe_callTy call_int1 (by rfl) T.z_int (by decide +kernel) (pa_cons (pe_callB call_abs (by rfl) T.z_abs (by decide +kernel) (pa_cons (pv 0) pa_nil)) pa_nil)) pe_int) (pa_cons pe_int pa_nil))))))), ?_⟩
  refine ⟨_, rfl, _, rfl, _, rfl, _, rfl, _, _, rfl, rfl, ⟨by decide, by decide, by decide⟩, _, _, rfl, rfl, _, rfl, _, rfl, .inl ⟨_, rfl, _, _, rfl, rfl, (show (0 : Int) < 2147483629 by decide), (by show 4 ≤ sizeLine; decide), fun p hp => ?_⟩⟩
  refine q p _ hp (Ex.new hp) ⟨_, _, _, _, upd_same, ?_, ?_, ?_, by decide, by decide⟩
  · split <;> omega
  · omega
  · omega
theorem fmod_in {a m : Int} (h : 0 < m) : 0 ≤ a % m ∧ a % m < m := by
  exact ⟨Int.emod_nonneg _ (by omega), Int.emod_lt_of_pos _ h⟩
theorem ok_law_take (T : TA1 K mg) : FnOk P w K mg base CX0 1 T.law_take.a T.law_take.fd ["box", "many"] spTake := by
  refine T.law_take.F.ok sc_law_take (fun vs H Q E h => ?_) (fun cdv A outer s H vs Q E hr h => ?_)
  · obtain ⟨b, m, n, rfl, _⟩ := h; rfl
  obtain ⟨b, m, n, rfl, m0, m1, ⟨d, sd, c, f, hb, d0, s0, s1, c0, c1⟩, q⟩ := h
  have hL := SqL.of (K := K) hb
  refine ⟨_, (pss_cut (ps_if (PW.pt (pw_and (pt_val (pe_ix (kixl K) (pv 0) pe_int (fun _ _ => rfl))) (pw_and1 (pt_cmpR op_gt (pe_ix (kixl K) (pv 0) pe_int (fun _ _ => rfl)) pe_int (nomark _))))) (pss_cons (ps_set (i := 2) sc_law_take.nd rfl (Or.inl rfl) (pe_op op_mod (pe_callTy call_int1 (by rfl) T.z_int (by decide +kernel) (pa_cons (pe_ix (kixl K) (pv 0) pe_int (fun _ _ => rfl)) pa_nil)) (pv 1)))
    (pss_cons (ps_asg (pe_op op_fdiv (pe_ix (kixl K) (pv 0) pe_int (fun _ _ => rfl)) (pv 1)) (pg_sub (pv 0) pe_int set_list))
    (pss_one (ps_ret (pv 2))))) pss_nil)
    (pss_cons (ps_asg (pe_op op_add (pe_ix (kixl K) (pv 0) pe_int (fun _ _ => rfl)) pe_int) (pg_sub (pv 0) pe_int set_list))
    (pss_cons (ps_set (i := 3) sc_law_take.nd rfl (Or.inl rfl) (pe_op op_mod (pe_callTy call_int1 (by rfl) T.z_int (by decide +kernel) (pa_cons (pe_op op_pow (pe_op op_add (pe_op op_add (pe_ix (kixl K) (pv 0) pe_int (fun _ _ => rfl)) (pe_op op_mul pe_int (pe_ix (kixl K) (pv 0) pe_int (fun _ _ => rfl)))) pe_int) pe_int) pa_nil)) pe_int))
    (pss_one (ps_ret (pe_op op_mod (pe_callTy call_int1 (by rfl) T.z_int (by decide +kernel) (pa_cons (pe_op op_fdiv (pe_op op_mod (pe_callTy call_int1 (by rfl) T.z_int (by decide +kernel) (pa_cons (pe_op op_pow (pe_op op_add (pe_op op_mul (pv 3) pe_int) (pe_op op_mul pe_int (pe_ix (kixl K) (pv 0) pe_int (fun _ _ => rfl)))) pe_int) pa_nil)) pe_int) pe_int) pa_nil)) (pv 1))))))), ?_⟩
  have mres : ∀ x : Int, 0 ≤ x % m ∧ x % m < m := fun x => fmod_in m0
  have fm : ∀ {a k : Int}, 0 ≤ a → 0 < k → 0 ≤ a % k ∧ a % k < k := fun _ h => fmod_in h
  refine ⟨fun σ' H' => σ' = [some (.ref b), some (.int m), none, none] ∧ H' = H, ?_, ?_⟩
  · refine ⟨_, rfl, _, _, _, _, rfl, rfl, hL, rfl, f, rfl, ?_⟩
    cases f with
    | false => exact ⟨rfl, rfl⟩
    | true =>
      refine ⟨_, rfl, _, _, _, _, rfl, rfl, hL, rfl, _, _, rfl, rfl, _, rfl, ite2 (fun c => ?_) (fun _ => ⟨rfl, rfl⟩)⟩
      refine ⟨_, rfl, _, _, _, _, rfl, rfl, hL, rfl, .inl ⟨_, rfl, _, rfl, _, _, rfl, rfl, m0, ?_⟩⟩
      refine ⟨_, rfl, _, _, _, _, rfl, rfl, hL, rfl, _, rfl, _, _, rfl, rfl, ⟨by omega, by omega⟩, ?_⟩
      refine ⟨_, rfl, b, _, 0, 0, rfl, rfl, hb, rfl, ?_⟩
      refine ⟨_, rfl, q _ _ (mres _).1 (mres _).2 ⟨_, _, _, _, upd_same, ?_, s0, s1, c0, by omega⟩ But.upd⟩
      exact Int.ediv_nonneg d0 (by omega)
  · rintro σ' H' ⟨rfl, rfl⟩
    refine ⟨_, rfl, _, _, _, _, rfl, rfl, hL, rfl, _, _, rfl, rfl, ?_⟩
    refine ⟨_, rfl, b, _, 3, 3, rfl, rfl, hb, rfl, ?_⟩
    have hb2 : upd H' b (.lst [.int d, .bl f, .int sd, .int (c + 1)]) b = some (.lst [.int d, .bl f, .int sd, .int (c + 1)]) := upd_same
    have hL2 := SqL.of (K := K) hb2
    have r1 := @fmod_in ((sd + 15485863 * (c + 1) + 179424673) ^ (5 : Int).toNat) 2147483647 (by decide)
    refine ⟨_, rfl, _, _, _, _, rfl, rfl, hL2, rfl, ?_⟩
    refine ⟨_, rfl, _, _, _, _, rfl, rfl, hL2, rfl, _, _, rfl, rfl, .inl ⟨by decide, by decide⟩, _, _, rfl, rfl, _, _, rfl, rfl, ?_⟩
    refine ⟨_, _, rfl, rfl, ⟨by decide, by decide, by omega⟩, .inl ⟨_, rfl, _, _, rfl, rfl, (show (0 : Int) < 2147483647 by decide), ?_⟩⟩
    refine ⟨_, rfl, _, _, rfl, rfl, .inr ⟨by decide, by decide⟩, ?_⟩
    refine ⟨_, rfl, _, _, _, _, rfl, rfl, hL2, rfl, _, _, rfl, rfl, .inl ⟨by decide, by decide⟩, _, _, rfl, rfl, ?_⟩
    refine ⟨_, _, rfl, rfl, ⟨by decide, by decide, by omega⟩, .inl ⟨_, rfl, _, _, rfl, rfl, (show (0 : Int) < 2147483587 by decide), ?_⟩⟩
    refine ⟨_, _, rfl, rfl, ⟨by decide, by decide⟩, .inl ⟨_, rfl, _, rfl, _, _, rfl, rfl, m0, ?_⟩⟩
    exact q _ _ (mres _).1 (mres _).2 ⟨_, _, _, _, hb2, d0, s0, s1, by omega, by omega⟩ But.upd
/-! ### the law's own sameness -/
theorem none_left {sp : Sp} {f : Addr} {fd : FuncData} {ps : List Str} (no : ∀ vs H Q E, ¬ sp vs H Q E) : FnOk P w K mg base CX0 0 f fd ps sp :=
  ⟨fun vs H Q E h => absurd h (no vs H Q E), fun A outer s H args us vs Q E _ _ _ _ h => absurd h (no vs H Q E)⟩
theorem isi_at {H : Hp} {x : V} {t u : String} {b : Bool} {Q : VK} (ty : TyX K H x (.type t)) (h : kitB t u = some b) (q : Q (.bl b) H) : rIsi K [x, .ty u] H Q :=
  ⟨x, .ty u, _, _, b, rfl, .ty u, ty, kit_ty h, q⟩
def spS (K : PySem.W.Frag) : Nat → Sp
  | 0 => fun _ _ _ _ => False
  | n + 1 => spSame K n
theorem no_given {n : Nat} {v : Nat → V} : given n (fun _ => false) v = [] := by
  unfold given
  rw [List.filter_eq_nil_iff.mpr (by intro a _; decide)]
  rfl
theorem eq_empty {ta : TE} {σ : L2.St} {H : Hp} {xs : List V} (hx : xs = []) (h : EvL ta σ H xs) : Ev (tOp (rEqD K) ta (tLst tNil)) σ H (.bl true) := by
  subst hx
  exact ev_opLL h (el_lst ea_nil (Nat.zero_le _)) fun p q H1 hp hq _ => rv_val fun H2 e2 Q k =>
    ⟨.list [], .list [], .lst (SqL.of (e2 _ _ hp)) .nil, .lst (SqL.of (e2 _ _ hq)) .nil, rfl, rfl, k⟩
theorem same_step (T : TA1 K mg) (n : Nat) (ih : FnOk P w K mg base CX0 n T.law_same.a T.law_same.fd ["told", "due"] (spS K n)) :
    FnOk P w K mg base CX0 (n + 1) T.law_same.a T.law_same.fd ["told", "due"] (spS K (n + 1)) := by
  refine T.law_same.F.ok sc_law_same (fun vs H Q E h => ?_) (fun cdv A outer s H vs Q E hr h => ?_)
  · obtain ⟨x, y, rfl, _⟩ := h; rfl
  obtain ⟨x, y, rfl, hS, q⟩ := h
  refine ⟨_, (pss_cons (ps_if (PW.pt (pw_or (pt_cmpR op_isN (pv 1) pe_non (nomark _)) (pw_or1 (pt_val (pe_callB (kisi K) (by rfl) T.z_isinstance (by decide +kernel) (pa_cons (pv 1) (pa_cons (pe_bltn (v := .ty "bool") rfl T.z_bool (by decide +kernel) rfl) pa_nil))))))) (pss_one (ps_ret (pe_ifExp (pt_cmpR op_isN (pv 1) pe_non (nomark _)) (pe_cmpR op_isN (pv 0) pe_non (nomark _)) (pe_and (pe_callB (kisi K) (by rfl) T.z_isinstance (by decide +kernel) (pa_cons (pv 0) (pa_cons (pe_bltn (v := .ty "bool") rfl T.z_bool (by decide +kernel) rfl) pa_nil))) (pe_one (pe_cmpR op_eq (pe_cmpR op_is_bl (pv 0) pe_bl (nomark _)) (pe_cmpR op_is_bl (pv 1) pe_bl (nomark _)) (nomark _))))))) pss_nil)
    (pss_cons (ps_if (pt_val (pe_callB (kisi K) (by rfl) T.z_isinstance (by decide +kernel) (pa_cons (pv 1) (pa_cons (pe_bltn (v := .ty "int") rfl T.z_int (by decide +kernel) rfl) pa_nil)))) (pss_one (ps_ret (pe_and (pe_callB (kisi K) (by rfl) T.z_isinstance (by decide +kernel) (pa_cons (pv 0) (pa_cons (pe_bltn (v := .ty "int") rfl T.z_int (by decide +kernel) rfl) pa_nil))) (pe_and (pe_not (pe_callB (kisi K) (by rfl) T.z_isinstance (by decide +kernel) (pa_cons (pv 0) (pa_cons (pe_bltn (v := .ty "bool") rfl T.z_bool (by decide +kernel) rfl) pa_nil)))) (pe_one (pe_cmpR op_eq (pe_op op_sub (pe_callTy call_int1 (by rfl) T.z_int (by decide +kernel) (pa_cons (pv 0) pa_nil)) (pv 1)) pe_int (nomark _))))))) pss_nil)
    (pss_cons (ps_if (pt_val (pe_callB (kisi K) (by rfl) T.z_isinstance (by decide +kernel) (pa_cons (pv 1) (pa_cons (pe_bltn (v := .ty "str") rfl T.z_str (by decide +kernel) rfl) pa_nil)))) (pss_one (ps_ret (pe_and (pe_callB (kisi K) (by rfl) T.z_isinstance (by decide +kernel) (pa_cons (pv 0) (pa_cons (pe_bltn (v := .ty "str") rfl T.z_str (by decide +kernel) rfl) pa_nil))) (pe_and (pe_cmpR op_eq (pe_callB (klen K) (by rfl) T.z_len (by decide +kernel) (pa_cons (pv 0) pa_nil)) (pe_callB (klen K) (by rfl) T.z_len (by decide +kernel) (pa_cons (pv 1) pa_nil)) (nomark _)) (pe_one (pe_cmpR (keqD K hr.units) (pe_lc (own := [("k", 2)]) (g := gName 2) (by rfl) sc_law_same.nd (pi_range1 rfl T.z_range (pa_cons (pe_callB (klen K) (by rfl) T.z_len (by decide +kernel) (pa_cons (pv 1) pa_nil)) pa_nil)) (blkOk_by (own := [("k", 2)]) (N := ["told", "due", "k"]) (sc := defScope s_law_same) (by decide +kernel)) (fun _ _ _ _ _ => (pg_name (i := 2) sc_law_same.nd rfl (Or.inl rfl))) (fun _ _ _ _ _ => (pts_one (pt_cmpR op_ne (pe_slice sl_str (pv 0) (po_some (pv 2)) (po_some (pe_op op_add (pv 2) pe_int))) (pe_ix (kix K) (pv 1) (pv 2) (fun _ _ => rfl)) (nomark _)))) (fun _ _ _ _ _ => (pv 2))) (pe_lst pa_nil) (nomark _))))))) pss_nil)
    (pss_cons (ps_if (PW.pt (pw_or (pt_cmpR op_ne (pe_callB (kisi K) (by rfl) T.z_isinstance (by decide +kernel) (pa_cons (pv 0) (pa_cons (pe_bltn (v := .ty "list") rfl T.z_list (by decide +kernel) rfl) pa_nil))) (pe_callB (kisi K) (by rfl) T.z_isinstance (by decide +kernel) (pa_cons (pv 1) (pa_cons (pe_bltn (v := .ty "list") rfl T.z_list (by decide +kernel) rfl) pa_nil))) (nomark _)) (pw_or1 (pt_cmpR op_ne (pe_callB (kisi K) (by rfl) T.z_isinstance (by decide +kernel) (pa_cons (pv 0) (pa_cons (pe_bltn (v := .ty "tuple") rfl T.z_tuple (by decide +kernel) rfl) pa_nil))) (pe_callB (kisi K) (by rfl) T.z_isinstance (by decide +kernel) (pa_cons (pv 1) (pa_cons (pe_bltn (v := .ty "tuple") rfl T.z_tuple (by decide +kernel) rfl) pa_nil))) (nomark _))))) (pss_one (ps_ret pe_bl)) pss_nil)
    (pss_one (ps_ret (pe_and (pe_cmpR op_eq (pe_callB (klen K) (by rfl) T.z_len (by decide +kernel) (pa_cons (pv 0) pa_nil)) (pe_callB (klen K) (by rfl) T.z_len (by decide +kernel) (pa_cons (pv 1) pa_nil)) (nomark _)) (pe_one (pe_cmpR (keqD K hr.units) (pe_lc (own := [("k", 2)]) (g := gName 2) (by rfl) sc_law_same.nd (pi_range1 rfl T.z_range (pa_cons (pe_callB (klen K) (by rfl) T.z_len (by decide +kernel) (pa_cons (pv 1) pa_nil)) pa_nil)) (blkOk_by (own := [("k", 2)]) (N := ["told", "due", "k"]) (sc := defScope s_law_same) (by decide +kernel)) (fun _ _ _ _ _ => (pg_name (i := 2) sc_law_same.nd rfl (Or.inl rfl))) (fun _ _ _ _ _ => (pts_one (pt_not (pt_val (pe_call (ih) hr rfl T.law_same.m T.law_same.F.kp T.law_same.b .nil pass0 (pa_cons (pe_ix (kix K) (pv 0) (pv 2) (fun _ _ => rfl)) (pa_cons (pe_ix (kix K) (pv 1) (pv 2) (fun _ _ => rfl)) pa_nil))))))) (fun _ _ _ _ _ => (pv 2))) (pe_lst pa_nil) (nomark _)))))))))), ?_⟩
  cases hS with
  | non => exact ⟨_, rfl, rfl, _, rfl, iteT (iteT ⟨_, rfl, rfl, _, rfl, iteT ⟨_, rfl, rfl, q _ (Ex.refl _)⟩⟩)⟩
  | bl b =>
    refine ⟨_, rfl, rfl, _, rfl, iteF ⟨_, rfl, _, _, _, _, true, rfl, .ty _, (.base (.bl b)), kit_ty (by decide +kernel), ⟨_, rfl, iteT ⟨_, rfl, rfl, _, rfl, iteF ?_⟩⟩⟩⟩
    refine ⟨_, rfl, _, _, _, _, true, rfl, .ty _, (.base (.bl b)), kit_ty (by decide +kernel), ⟨_, rfl, iteT ⟨_, rfl, _, _, rfl, rfl, _, rfl, _, _, rfl, rfl, rfl, ?_⟩⟩⟩
    rw [decide_eq_true (rfl : V.bl (decide (b = true)) = V.bl (decide (b = true)))]
    exact q _ (Ex.refl _)
  | int i =>
    refine ⟨_, rfl, rfl, _, rfl, iteF ⟨_, rfl, _, _, _, _, false, rfl, .ty _, (.base (.int i)), kit_ty (by decide +kernel), ⟨_, rfl, iteF ?_⟩⟩⟩
    refine ⟨_, rfl, _, _, _, _, true, rfl, .ty _, (.base (.int i)), kit_ty (by decide +kernel), ⟨_, rfl, iteT ?_⟩⟩
    refine ⟨_, rfl, _, _, _, _, true, rfl, .ty _, (.base (.int i)), kit_ty (by decide +kernel), ⟨_, rfl, iteT ?_⟩⟩
    refine ⟨_, rfl, _, _, _, _, false, rfl, .ty _, (.base (.int i)), kit_ty (by decide +kernel), ⟨_, rfl, _, rfl, iteT ?_⟩⟩
    refine ⟨_, rfl, .inl ⟨_, rfl, _, rfl, _, _, rfl, rfl, rfl, ?_⟩⟩
    show Q (V.bl (decide (V.int (i - i) = V.int 0))) H
    rw [Int.sub_self]
    exact q _ (Ex.refl _)
  | str z hz =>
    have hz' : z.length ≤ sizeLine := Nat.le_trans hz (by decide)
    refine ⟨_, rfl, rfl, _, rfl, iteF ⟨_, rfl, _, _, _, _, false, rfl, .ty _, (.base (.str z)), kit_ty (by decide +kernel), ⟨_, rfl, iteF ?_⟩⟩⟩
    refine ⟨_, rfl, _, _, _, _, false, rfl, .ty _, (.base (.str z)), kit_ty (by decide +kernel), ⟨_, rfl, iteF ?_⟩⟩
    refine ⟨_, rfl, _, _, _, _, true, rfl, .ty _, (.base (.str z)), kit_ty (by decide +kernel), ⟨_, rfl, iteT ?_⟩⟩
    refine ⟨_, rfl, _, _, _, _, true, rfl, .ty _, (.base (.str z)), kit_ty (by decide +kernel), ⟨_, rfl, iteT ?_⟩⟩
    refine ⟨_, rfl, _, z.length, rfl, ⟨hz', rfl⟩, _, rfl, _, z.length, rfl, ⟨hz', rfl⟩, rfl, _, rfl, ?_⟩
    rw [if_pos (decide_eq_true rfl)]
    refine eq_empty (no_given (n := (z.length : Int).toNat) (v := fun _ => V.non)) ?_ H (Ex.refl _) Q (fun H2 e2 => q H2 e2)
    refine el_lcR1 (fun _ => false) (fun _ => V.non) ?_ ⟨by omega, by omega⟩ (fun _ => rfl) ?_ (fun _ _ _ _ hf => nomatch hf)
    · exact fun H1 e Q' k => ⟨_, rfl, _, z.length, rfl, ⟨hz', rfl⟩, k H1 (Ex.refl _)⟩
    · intro i H1 e hi
      have hz2 : i < z.cps.toList.length := by
        have e2 : z.cps.toList.length = z.length := Array.length_toList
        omega
      have hat : atI z.cps.toList (i : Int) = some z.cps.toList[i] := atI_nat (List.getElem?_eq_getElem hz2)
      have hc := cut_one (List.getElem?_eq_getElem hz2)
      intro H2 e2 Q2 k2
      refine ⟨_, rfl, _, rfl, _, rfl, _, rfl, _, _, rfl, rfl, _, rfl, z, rfl, hz', _, rfl, _, rfl, .inr (.inr ⟨z, _, _, rfl, rfl, hz', hat, rfl, _, rfl, ?_⟩)⟩
      rw [hc, decide_eq_true rfl]
      exact k2 H2 (Ex.refl _)
  | @lst n a b xs ys h1 h2 hl hl1 all =>
    refine ⟨_, rfl, rfl, _, rfl, iteF ⟨_, rfl, _, _, _, _, false, rfl, .ty _, (tyL h2), kit_ty (by decide +kernel), ⟨_, rfl, iteF ?_⟩⟩⟩
    refine ⟨_, rfl, _, _, _, _, false, rfl, .ty _, (tyL h2), kit_ty (by decide +kernel), ⟨_, rfl, iteF ?_⟩⟩
    refine ⟨_, rfl, _, _, _, _, false, rfl, .ty _, (tyL h2), kit_ty (by decide +kernel), ⟨_, rfl, iteF ?_⟩⟩
    refine ⟨_, rfl, _, _, _, _, true, rfl, .ty _, (tyL h1), kit_ty (by decide +kernel), ⟨_, rfl, _, _, _, _, true, rfl, .ty _, (tyL h2), kit_ty (by decide +kernel), ⟨rfl, _, rfl, iteF ?_⟩⟩⟩
    refine ⟨_, rfl, _, _, _, _, false, rfl, .ty _, (tyL h1), kit_ty (by decide +kernel), ⟨_, rfl, _, _, _, _, false, rfl, .ty _, (tyL h2), kit_ty (by decide +kernel), ⟨rfl, _, rfl, iteF ?_⟩⟩⟩
    refine ⟨_, rfl, _, xs.length, rfl, .inl ⟨_, h1, rfl⟩, _, rfl, _, ys.length, rfl, .inl ⟨_, h2, rfl⟩, rfl, _, rfl, ?_⟩
    rw [if_pos (decide_eq_true (by rw [hl]))]
    refine eq_empty (no_given (n := (ys.length : Int).toNat) (v := fun _ => V.non)) ?_ H (Ex.refl _) Q (fun H2 e2 => q H2 e2)
    refine el_lcR1 (fun _ => false) (fun _ => V.non) ?_ ⟨by omega, by omega⟩ (fun _ => rfl) ?_ (fun _ _ _ _ hf => nomatch hf)
    · exact fun H1 e Q' k => ⟨_, rfl, _, ys.length, rfl, .inl ⟨_, ex_l e h2, rfl⟩, k H1 (Ex.refl _)⟩
    · intro i H1 e hi H2 e2 Q2 k2
      have hy : ys[i]? = some ys[i] := List.getElem?_eq_getElem (by omega)
      have hx : xs[i]? = some xs[i] := List.getElem?_eq_getElem (by omega)
      refine ⟨_, rfl, _, rfl, .inl ⟨_, _, _, _, rfl, rfl, ex_l (e.trans e2) h1, atI_nat hx, _, rfl, _, rfl, .inl ⟨_, _, _, _, rfl, rfl, ex_l (e.trans e2) h2, atI_nat hy, ?_⟩⟩⟩
      exact ⟨_, _, rfl, (all i _ _ hx hy).ex (e.trans e2), fun H3 e3 => ⟨true, rfl, k2 H3 e3⟩⟩
  | @tup n a b xs ys h1 h2 hl hl1 all =>
    refine ⟨_, rfl, rfl, _, rfl, iteF ⟨_, rfl, _, _, _, _, false, rfl, .ty _, (tyT h2), kit_ty (by decide +kernel), ⟨_, rfl, iteF ?_⟩⟩⟩
    refine ⟨_, rfl, _, _, _, _, false, rfl, .ty _, (tyT h2), kit_ty (by decide +kernel), ⟨_, rfl, iteF ?_⟩⟩
    refine ⟨_, rfl, _, _, _, _, false, rfl, .ty _, (tyT h2), kit_ty (by decide +kernel), ⟨_, rfl, iteF ?_⟩⟩
    refine ⟨_, rfl, _, _, _, _, false, rfl, .ty _, (tyT h1), kit_ty (by decide +kernel), ⟨_, rfl, _, _, _, _, false, rfl, .ty _, (tyT h2), kit_ty (by decide +kernel), ⟨rfl, _, rfl, iteF ?_⟩⟩⟩
    refine ⟨_, rfl, _, _, _, _, true, rfl, .ty _, (tyT h1), kit_ty (by decide +kernel), ⟨_, rfl, _, _, _, _, true, rfl, .ty _, (tyT h2), kit_ty (by decide +kernel), ⟨rfl, _, rfl, iteF ?_⟩⟩⟩
    refine ⟨_, rfl, _, xs.length, rfl, .inr ⟨_, h1, rfl⟩, _, rfl, _, ys.length, rfl, .inr ⟨_, h2, rfl⟩, rfl, _, rfl, ?_⟩
    rw [if_pos (decide_eq_true (by rw [hl]))]
    refine eq_empty (no_given (n := (ys.length : Int).toNat) (v := fun _ => V.non)) ?_ H (Ex.refl _) Q (fun H2 e2 => q H2 e2)
    refine el_lcR1 (fun _ => false) (fun _ => V.non) ?_ ⟨by omega, by omega⟩ (fun _ => rfl) ?_ (fun _ _ _ _ hf => nomatch hf)
    · exact fun H1 e Q' k => ⟨_, rfl, _, ys.length, rfl, .inr ⟨_, ex_t e h2, rfl⟩, k H1 (Ex.refl _)⟩
    · intro i H1 e hi H2 e2 Q2 k2
      have hy : ys[i]? = some ys[i] := List.getElem?_eq_getElem (by omega)
      have hx : xs[i]? = some xs[i] := List.getElem?_eq_getElem (by omega)
      refine ⟨_, rfl, _, rfl, .inr (.inl ⟨_, _, _, _, rfl, rfl, ex_t (e.trans e2) h1, atI_nat hx, _, rfl, _, rfl, .inr (.inl ⟨_, _, _, _, rfl, rfl, ex_t (e.trans e2) h2, atI_nat hy, ?_⟩)⟩)⟩
      exact ⟨_, _, rfl, (all i _ _ hx hy).ex (e.trans e2), fun H3 e3 => ⟨true, rfl, k2 H3 e3⟩⟩
theorem ok_same (T : TA1 K mg) : ∀ n, FnOk P w K mg base CX0 n T.law_same.a T.law_same.fd ["told", "due"] (spS K n)
  | 0 => none_left fun _ _ _ _ h => h
  | n + 1 => same_step T n (ok_same T n)
theorem ok_law_same (T : TA1 K mg) : FnOk P w K mg base CX0 9 T.law_same.a T.law_same.fd ["told", "due"] (spSame K 8) := ok_same T 9
end
end L2.U


set_option Elab.async false
set_option linter.all false
set_option maxRecDepth 100000
set_option maxHeartbeats 4000000
namespace L2.U
open PySem PySem.Spec PyProof.Rows Evl
abbrev s_is_spec : Stmt := top 13
theorem sc_is_spec : FnScope ["value"] ["value"] (defScope s_is_spec) := ⟨rfl, rfl, rfl, by decide +kernel, rfl, by decide +kernel, by decide +kernel⟩
abbrev s_check_side : Stmt := top 15
theorem sc_check_side : FnScope ["side"] ["side"] (defScope s_check_side) := ⟨rfl, rfl, rfl, by decide +kernel, rfl, by decide +kernel, by decide +kernel⟩
abbrev s_Line_init : Stmt := inClass (top 14) 0
theorem sc_Line_init : FnScope ["self", "spec"] ["self", "spec"] (defScope s_Line_init) := ⟨rfl, rfl, rfl, by decide +kernel, rfl, by decide +kernel, by decide +kernel⟩
abbrev s_Line_kinds : Stmt := inClass (top 14) 1
theorem sc_Line_kinds : FnScope ["self", "side"] ["self", "side"] (defScope s_Line_kinds) := ⟨rfl, rfl, rfl, by decide +kernel, rfl, by decide +kernel, by decide +kernel⟩
abbrev s_Line_send : Stmt := inClass (top 14) 2
theorem sc_Line_send : FnScope ["self", "side", "kind"] ["self", "side", "kind"] (defScope s_Line_send) := ⟨rfl, rfl, rfl, by decide +kernel, rfl, by decide +kernel, by decide +kernel⟩
abbrev s_Line_come : Stmt := inClass (top 14) 3
theorem sc_Line_come : FnScope ["self", "side", "kind"] ["self", "side", "kind"] (defScope s_Line_come) := ⟨rfl, rfl, rfl, by decide +kernel, rfl, by decide +kernel, by decide +kernel⟩
abbrev s_Line_sent : Stmt := inClass (top 14) 4
theorem sc_Line_sent : FnScope ["self", "side"] ["self", "side"] (defScope s_Line_sent) := ⟨rfl, rfl, rfl, by decide +kernel, rfl, by decide +kernel, by decide +kernel⟩
abbrev s_Line_come_to : Stmt := inClass (top 14) 5
theorem sc_Line_come_to : FnScope ["self", "side"] ["self", "side"] (defScope s_Line_come_to) := ⟨rfl, rfl, rfl, by decide +kernel, rfl, by decide +kernel, by decide +kernel⟩
abbrev s_Line_under_way : Stmt := inClass (top 14) 6
theorem sc_Line_under_way : FnScope ["self", "side", "kind"] ["self", "side"] (defScope s_Line_under_way) := ⟨rfl, rfl, rfl, by decide +kernel, rfl, by decide +kernel, by decide +kernel⟩
abbrev s_Line_unsent : Stmt := inClass (top 14) 7
theorem sc_Line_unsent : FnScope ["self", "side", "kinds", "kind"] ["self", "side"] (defScope s_Line_unsent) := ⟨rfl, rfl, rfl, by decide +kernel, rfl, by decide +kernel, by decide +kernel⟩
abbrev s_Line_left : Stmt := inClass (top 14) 8
theorem sc_Line_left : FnScope ["self", "raised"] ["self"] (defScope s_Line_left) := ⟨rfl, rfl, rfl, by decide +kernel, rfl, by decide +kernel, by decide +kernel⟩
abbrev s_Line_copy : Stmt := inClass (top 14) 9
theorem sc_Line_copy : FnScope ["self", "line", "sent", "come"] ["self"] (defScope s_Line_copy) := ⟨rfl, rfl, rfl, by decide +kernel, rfl, by decide +kernel, by decide +kernel⟩
abbrev s_Line_has_wires : Stmt := inClass (top 14) 10
theorem sc_Line_has_wires : FnScope ["self"] ["self"] (defScope s_Line_has_wires) := ⟨rfl, rfl, rfl, by decide +kernel, rfl, by decide +kernel, by decide +kernel⟩
abbrev s_Line_can_be_sent : Stmt := inClass (top 14) 11
theorem sc_Line_can_be_sent : FnScope ["self", "side", "kind"] ["self", "side", "kind"] (defScope s_Line_can_be_sent) := ⟨rfl, rfl, rfl, by decide +kernel, rfl, by decide +kernel, by decide +kernel⟩
abbrev s_Line_can_come : Stmt := inClass (top 14) 12
theorem sc_Line_can_come : FnScope ["self", "side", "kind"] ["self", "side", "kind"] (defScope s_Line_can_come) := ⟨rfl, rfl, rfl, by decide +kernel, rfl, by decide +kernel, by decide +kernel⟩
abbrev s_init_InvalidSpec : Stmt := inClass (top 6) 0
theorem sc_init_InvalidSpec : FnScope ["self", "given"] ["self", "given"] (defScope s_init_InvalidSpec) := ⟨rfl, rfl, rfl, by decide +kernel, rfl, by decide +kernel, by decide +kernel⟩
abbrev s_init_InvalidSide : Stmt := inClass (top 7) 0
theorem sc_init_InvalidSide : FnScope ["self", "given"] ["self", "given"] (defScope s_init_InvalidSide) := ⟨rfl, rfl, rfl, by decide +kernel, rfl, by decide +kernel, by decide +kernel⟩
abbrev s_init_InvalidKind : Stmt := inClass (top 8) 0
theorem sc_init_InvalidKind : FnScope ["self", "given"] ["self", "given"] (defScope s_init_InvalidKind) := ⟨rfl, rfl, rfl, by decide +kernel, rfl, by decide +kernel, by decide +kernel⟩
abbrev s_init_NotSent : Stmt := inClass (top 9) 0
theorem sc_init_NotSent : FnScope ["self", "kind"] ["self", "kind"] (defScope s_init_NotSent) := ⟨rfl, rfl, rfl, by decide +kernel, rfl, by decide +kernel, by decide +kernel⟩
structure TL (K : PySem.W.Frag) (mg : Str → Option Value) extends TA1 K mg where
  is_spec : DefAt K mg "is_spec" s_is_spec ["value"]
  check_side : DefAt K mg "_check_side" s_check_side ["side"]
  InvalidSpec : ErrAt K mg "InvalidSpec" "InvalidSpec.__init__" s_init_InvalidSpec "given"
  InvalidSide : ErrAt K mg "InvalidSide" "InvalidSide.__init__" s_init_InvalidSide "given"
  InvalidKind : ErrAt K mg "InvalidKind" "InvalidKind.__init__" s_init_InvalidKind "given"
  NotSent : ErrAt K mg "NotSent" "NotSent.__init__" s_init_NotSent "kind"
  C : Addr
  gL : mg "Line" = some (.ref C)
  cl : Cls K C
  m_init : MethAt K C "__init__" "Line.__init__" s_Line_init ["self", "spec"]
  m_kinds : MethAt K C "kinds" "Line.kinds" s_Line_kinds ["self", "side"]
  m_send : MethAt K C "send" "Line.send" s_Line_send ["self", "side", "kind"]
  m_come : MethAt K C "come" "Line.come" s_Line_come ["self", "side", "kind"]
  m_sent : MethAt K C "sent" "Line.sent" s_Line_sent ["self", "side"]
  m_come_to : MethAt K C "come_to" "Line.come_to" s_Line_come_to ["self", "side"]
  m_under_way : MethAt K C "under_way" "Line.under_way" s_Line_under_way ["self", "side"]
  m_unsent : MethAt K C "unsent" "Line.unsent" s_Line_unsent ["self", "side"]
  m_left : MethAt K C "left" "Line.left" s_Line_left ["self"]
  m_copy : MethAt K C "copy" "Line.copy" s_Line_copy ["self"]
  m_has_wires : MethAt K C "_has_wires" "Line._has_wires" s_Line_has_wires ["self"]
  m_can_be_sent : MethAt K C "_can_be_sent" "Line._can_be_sent" s_Line_can_be_sent ["self", "side", "kind"]
  m_can_come : MethAt K C "_can_come" "Line._can_come" s_Line_can_come ["self", "side", "kind"]
  mkc : Mk K C m_init.a
  n_spec : NoAttr K C "spec"
  n_sent : NoAttr K C "_sent_by"
  n_came : NoAttr K C "_came_to"
  t_MOST_LETTERS : Tok
  c_MOST_LETTERS : mg "MOST_LETTERS" = some (.int 8 t_MOST_LETTERS)
  t_MOST_WIRES : Tok
  c_MOST_WIRES : mg "MOST_WIRES" = some (.int 10 t_MOST_WIRES)
  z_sorted : mg "sorted" = none
  z_set : mg "set" = none
section
variable {P : Program} {w : World} {K : PySem.W.Frag} {mg : Str → Option Value} {base : Heap}
theorem ok_init_InvalidSpec (T : ErrAt K mg "InvalidSpec" "InvalidSpec.__init__" s_init_InvalidSpec "given") : FnOk P w K mg base CX0 1 T.fI T.fd ["self", "given"] (spInit T.C "given") := by
  refine T.F.ok sc_init_InvalidSpec (fun vs H Q E h => ?_) (fun cdv A outer s H vs Q E hr h => ?_)
  · obtain ⟨a, y, rfl, _⟩ := h; rfl
  obtain ⟨a, y, rfl, ha, q⟩ := h
  exact ⟨_, pss_one (ps_ost (pv 0) (pv 1)), _, rfl, _, rfl, a, T.C, rfl, T.T, T.nf, .inl ⟨ha, fun d hd nd => q d hd nd⟩⟩
theorem ok_init_InvalidSide (T : ErrAt K mg "InvalidSide" "InvalidSide.__init__" s_init_InvalidSide "given") : FnOk P w K mg base CX0 1 T.fI T.fd ["self", "given"] (spInit T.C "given") := by
  refine T.F.ok sc_init_InvalidSide (fun vs H Q E h => ?_) (fun cdv A outer s H vs Q E hr h => ?_)
  · obtain ⟨a, y, rfl, _⟩ := h; rfl
  obtain ⟨a, y, rfl, ha, q⟩ := h
  exact ⟨_, pss_one (ps_ost (pv 0) (pv 1)), _, rfl, _, rfl, a, T.C, rfl, T.T, T.nf, .inl ⟨ha, fun d hd nd => q d hd nd⟩⟩
theorem ok_init_InvalidKind (T : ErrAt K mg "InvalidKind" "InvalidKind.__init__" s_init_InvalidKind "given") : FnOk P w K mg base CX0 1 T.fI T.fd ["self", "given"] (spInit T.C "given") := by
  refine T.F.ok sc_init_InvalidKind (fun vs H Q E h => ?_) (fun cdv A outer s H vs Q E hr h => ?_)
  · obtain ⟨a, y, rfl, _⟩ := h; rfl
  obtain ⟨a, y, rfl, ha, q⟩ := h
  exact ⟨_, pss_one (ps_ost (pv 0) (pv 1)), _, rfl, _, rfl, a, T.C, rfl, T.T, T.nf, .inl ⟨ha, fun d hd nd => q d hd nd⟩⟩
theorem ok_init_NotSent (T : ErrAt K mg "NotSent" "NotSent.__init__" s_init_NotSent "kind") : FnOk P w K mg base CX0 1 T.fI T.fd ["self", "kind"] (spInit T.C "kind") := by
  refine T.F.ok sc_init_NotSent (fun vs H Q E h => ?_) (fun cdv A outer s H vs Q E hr h => ?_)
  · obtain ⟨a, y, rfl, _⟩ := h; rfl
  obtain ⟨a, y, rfl, ha, q⟩ := h
  exact ⟨_, pss_one (ps_ost (pv 0) (pv 1)), _, rfl, _, rfl, a, T.C, rfl, T.T, T.nf, .inl ⟨ha, fun d hd nd => q d hd nd⟩⟩
/-! ## a line, and what it knows -/
inductive Knd where
  | letr (m b : Int)
  | wir (k : Int)
def Knd.vals : Knd → List V
  | .letr m b => [.str "letters", .int m, .int b]
  | .wir k => [.str "wires", .int k]
def Knd.many : Knd → Int → Int
  | .letr m b, s => if s = 0 then m else b
  | .wir k, _ => k
def Knd.wires : Knd → Bool
  | .letr _ _ => false
  | .wir _ => true
def Knd.Ok : Knd → Prop
  | .letr m b => (0 ≤ m ∧ m ≤ 8) ∧ 0 ≤ b ∧ b ≤ 8
  | .wir k => 0 ≤ k ∧ k ≤ 10
theorem Knd.many_le {k : Knd} (h : k.Ok) (s : Int) : 0 ≤ k.many s ∧ k.many s ≤ 10 := by
  cases k with
  | letr m b =>
    have h' : (0 ≤ m ∧ m ≤ 8) ∧ 0 ≤ b ∧ b ≤ 8 := h
    show 0 ≤ (if s = 0 then m else b) ∧ (if s = 0 then m else b) ≤ 10
    split <;> omega
  | wir k =>
    have h' : 0 ≤ k ∧ k ≤ 10 := h
    exact h'
structure Ln where
  p : Addr
  dx : Addr
  sp : Addr
  sb : Addr
  cb : Addr
  a0 : Addr
  a1 : Addr
  d0 : Addr
  d1 : Addr
def Ln.a (A : Ln) (s : Int) : Addr := if s = 0 then A.a0 else A.a1
def Ln.d (A : Ln) (s : Int) : Addr := if s = 0 then A.d0 else A.d1
structure LS where
  kd : Knd
  s0 : List Int
  s1 : List Int
  c0 : List Int
  c1 : List Int
def LS.s (L : LS) (s : Int) : List Int := if s = 0 then L.s0 else L.s1
def LS.c (L : LS) (s : Int) : List Int := if s = 0 then L.c0 else L.c1
def Side (s : Int) : Prop := 0 ≤ s ∧ s ≤ 1
structure LineAt (C : Addr) (A : Ln) (L : LS) (H : Hp) : Prop where
  obj : H A.p = some (.ins C A.dx [("spec", .ref A.sp), ("_sent_by", .ref A.sb), ("_came_to", .ref A.cb)])
  sp : H A.sp = some (.tup L.kd.vals)
  sb : H A.sb = some (.lst [.ref A.a0, .ref A.a1])
  cb : H A.cb = some (.lst [.ref A.d0, .ref A.d1])
  a0 : H A.a0 = some (.lst (L.s0.map V.int))
  a1 : H A.a1 = some (.lst (L.s1.map V.int))
  d0 : H A.d0 = some (.lst (L.c0.map V.int))
  d1 : H A.d1 = some (.lst (L.c1.map V.int))
  ok : L.kd.Ok
theorem LineAt.ex {C : Addr} {A : Ln} {L : LS} {H H' : Hp} (l : LineAt C A L H) (e : Ex H H') : LineAt C A L H' :=
  ⟨e _ _ l.obj, e _ _ l.sp, e _ _ l.sb, e _ _ l.cb, e _ _ l.a0, e _ _ l.a1, e _ _ l.d0, e _ _ l.d1, l.ok⟩
theorem LineAt.a {C : Addr} {A : Ln} {L : LS} {H : Hp} (l : LineAt C A L H) (s : Int) : H (A.a s) = some (.lst ((L.s s).map V.int)) := by
  unfold Ln.a LS.s; split
  · exact l.a0
  · exact l.a1
theorem LineAt.d {C : Addr} {A : Ln} {L : LS} {H : Hp} (l : LineAt C A L H) (s : Int) : H (A.d s) = some (.lst ((L.c s).map V.int)) := by
  unfold Ln.d LS.c; split
  · exact l.d0
  · exact l.d1
theorem at_a {A : Ln} {s : Int} (h : Side s) : atI [V.ref A.a0, V.ref A.a1] s = some (.ref (A.a s)) := by
  rcases (by unfold Side at h; omega : s = 0 ∨ s = 1) with rfl | rfl <;> rfl
theorem at_d {A : Ln} {s : Int} (h : Side s) : atI [V.ref A.d0, V.ref A.d1] s = some (.ref (A.d s)) := by
  rcases (by unfold Side at h; omega : s = 0 ∨ s = 1) with rfl | rfl <;> rfl
theorem Side.other {s : Int} (h : Side s) : Side (1 - s) := by unfold Side at *; omega
theorem ok_check_side (T : TL K mg) : FnOk P w K mg base (L2.CX P w) 4 T.check_side.a T.check_side.fd ["side"] (spChk T.InvalidSide.C Side) := by
  refine T.check_side.F.okX sc_check_side (fun vs H Q E h => ?_) (fun cdv A outer s H vs Q E hr h => ?_)
  · obtain ⟨i, rfl, _⟩ := h; rfl
  obtain ⟨i, rfl, q1, q2⟩ := h
  refine ⟨_, (pss_one (ps_if (pt_not (pt_val (pe_call (ok_is_between T.toTA1) (hr.mono (by decide)) rfl T.is_between.m T.is_between.F.kp T.is_between.b .nil pass0 (pa_cons (pv 0) (pa_cons pe_int (pa_cons pe_int pa_nil)))))) (pss_one (ps_raise rfl (takes_of rfl rfl rfl rfl) (pmk_oex T.InvalidSide.T T.InvalidSide.iC T.InvalidSide.tI (ok_init_InvalidSide T.InvalidSide) (hr.mono (by decide)) T.InvalidSide.b .nil pass0 rfl T.InvalidSide.gC (by exact (pa_cons (pv 0) pa_nil))))) pss_nil)), ?_⟩
  refine ⟨_, rfl, _, _, _, rfl, Dat.int, fun b hb _ => ⟨b, rfl, ?_⟩⟩
  have hb' := hb i rfl
  subst hb'
  by_cases c : 0 ≤ i ∧ i ≤ 1
  · rw [decide_eq_true c]
    exact q1 c _ (Ex.refl _)
  · rw [decide_eq_false c]
    exact ⟨_, rfl, (by show 1 ≤ 1000; decide), fun a ha => raised ha fun d H' e h => q2 c d H' e h⟩
def spWires (C : Addr) : Sp := fun vs H Q _ => ∃ (A : Ln) (L : LS), vs = [.ref A.p] ∧ LineAt C A L H ∧ Q (.bl L.kd.wires) H
theorem ok_Line_has_wires (T : TL K mg) : FnOk P w K mg base CX0 1 T.m_has_wires.a T.m_has_wires.fd ["self"] (spWires T.C) := by
  refine T.m_has_wires.F.ok sc_Line_has_wires (fun vs H Q E h => ?_) (fun cdv A outer s H vs Q E hr h => ?_)
  · obtain ⟨A, L, rfl, _⟩ := h; rfl
  obtain ⟨A, L, rfl, l, q⟩ := h
  refine ⟨_, (pss_one (ps_ret (pe_cmpR op_eq (pe_ix (kixt K) (pe_fld (pv 0) rfl) pe_int (fun _ _ => rfl)) pe_str (nomark _)))), ?_⟩
  have hv : ∃ x, atI L.kd.vals 0 = some (.str x) ∧ decide (V.str x = V.str "wires") = L.kd.wires := by
    cases L.kd with
    | letr m b => exact ⟨"letters", rfl, (show decide (V.str "letters" = V.str "wires") = false by decide +kernel)⟩
    | wir k => exact ⟨"wires", rfl, (show decide (V.str "wires" = V.str "wires") = true by decide +kernel)⟩
  obtain ⟨x, hx, hd⟩ := hv
  refine ⟨_, rfl, A.p, T.C, A.dx, _, _, rfl, l.obj, T.cl, T.n_spec, rfl, _, _, _, _, rfl, rfl, st_of l.sp, hx, rfl, ?_⟩
  rw [hd]
  exact q
def canS (L : LS) (s k : Int) : Bool := !(L.kd.wires && decide (k ∈ L.c s)) && !decide (k ∈ L.s s)
def canC (L : LS) (s k : Int) : Bool := !(L.kd.wires && decide (k ∈ L.s s)) && !decide (k ∈ L.c s)
def spCanS (C : Addr) : Sp := fun vs H Q _ => ∃ (A : Ln) (L : LS) (s k : Int), vs = [.ref A.p, .int s, .int k] ∧ Side s ∧ LineAt C A L H ∧ Q (.bl (canS L s k)) H
def spCanC (C : Addr) : Sp := fun vs H Q _ => ∃ (A : Ln) (L : LS) (s k : Int), vs = [.ref A.p, .int s, .int k] ∧ Side s ∧ LineAt C A L H ∧ Q (.bl (canC L s k)) H
theorem ok_Line_can_be_sent (T : TL K mg) : FnOk P w K mg base CX0 2 T.m_can_be_sent.a T.m_can_be_sent.fd ["self", "side", "kind"] (spCanS T.C) := by
  refine T.m_can_be_sent.F.ok sc_Line_can_be_sent (fun vs H Q E h => ?_) (fun cdv A outer s H vs Q E hr h => ?_)
  · obtain ⟨A, L, s, k, rfl, _⟩ := h; rfl
  obtain ⟨A, L, s, k, rfl, hs, l, q⟩ := h
  refine ⟨_, (pss_cut (ps_if (PW.pt (pw_and (pt_val (by exact (pe_mX0 (pv 0) T.cl T.m_has_wires.M (ok_Line_has_wires T) (hr.mono (by decide)) T.m_has_wires.b (fun σ => pass0At)))) (pw_and1 (pt_cmpR (kin K) (pv 2) (pe_ix (kixl K) (pe_fld (pv 0) rfl) (pv 1) (fun _ _ => rfl)) (by rfl))))) (pss_one (ps_ret pe_bl)) pss_nil)
    (pss_one (ps_ret (pe_cmpR (knotin K) (pv 2) (pe_ix (kixl K) (pe_fld (pv 0) rfl) (pv 1) (fun _ _ => rfl)) (by rfl))))), ?_⟩
  refine ⟨fun σ' H' => σ' = start ["self", "side", "kind"] [.ref A.p, .int s, .int k] ∧ H' = H ∧ (L.kd.wires && decide (k ∈ L.c s)) = false, ?_, ?_⟩
  · refine ⟨_, rfl, A.p, A.dx, _, rfl, l.obj, rfl, A, L, rfl, l, L.kd.wires, rfl, ?_⟩
    cases hw : L.kd.wires with
    | false => exact ⟨rfl, rfl, rfl⟩
    | true =>
      refine ⟨_, rfl, _, rfl, A.p, T.C, A.dx, _, _, rfl, l.obj, T.cl, T.n_came, rfl, _, rfl, _, _, _, _, rfl, rfl, SqL.of l.cb, at_d hs, _, _, rfl, .inl (SqL.of (l.d s)), rfl, flat_ints, _, rfl, ?_⟩
      rw [if_neg (by decide), inV_ints]
      by_cases c : k ∈ L.c s
      · rw [decide_eq_true c]
        have z : canS L s k = false := by unfold canS; rw [hw, decide_eq_true c]; rfl
        rw [z] at q
        exact q
      · rw [decide_eq_false c]
        exact ⟨rfl, rfl, rfl⟩
  · rintro σ' H' ⟨rfl, rfl, z⟩
    refine ⟨_, rfl, _, rfl, A.p, T.C, A.dx, _, _, rfl, l.obj, T.cl, T.n_sent, rfl, _, rfl, _, _, _, _, rfl, rfl, SqL.of l.sb, at_a hs, _, _, rfl, .inl (SqL.of (l.a s)), rfl, flat_ints, ?_⟩
    rw [if_pos rfl, inV_ints]
    unfold canS at q
    rw [z] at q
    exact q
theorem ok_Line_can_come (T : TL K mg) : FnOk P w K mg base CX0 2 T.m_can_come.a T.m_can_come.fd ["self", "side", "kind"] (spCanC T.C) := by
  refine T.m_can_come.F.ok sc_Line_can_come (fun vs H Q E h => ?_) (fun cdv A outer s H vs Q E hr h => ?_)
  · obtain ⟨A, L, s, k, rfl, _⟩ := h; rfl
  obtain ⟨A, L, s, k, rfl, hs, l, q⟩ := h
  refine ⟨_, (pss_cut (ps_if (PW.pt (pw_and (pt_val (by exact (pe_mX0 (pv 0) T.cl T.m_has_wires.M (ok_Line_has_wires T) (hr.mono (by decide)) T.m_has_wires.b (fun σ => pass0At)))) (pw_and1 (pt_cmpR (kin K) (pv 2) (pe_ix (kixl K) (pe_fld (pv 0) rfl) (pv 1) (fun _ _ => rfl)) (by rfl))))) (pss_one (ps_ret pe_bl)) pss_nil)
    (pss_one (ps_ret (pe_cmpR (knotin K) (pv 2) (pe_ix (kixl K) (pe_fld (pv 0) rfl) (pv 1) (fun _ _ => rfl)) (by rfl))))), ?_⟩
  refine ⟨fun σ' H' => σ' = start ["self", "side", "kind"] [.ref A.p, .int s, .int k] ∧ H' = H ∧ (L.kd.wires && decide (k ∈ L.s s)) = false, ?_, ?_⟩
  · refine ⟨_, rfl, A.p, A.dx, _, rfl, l.obj, rfl, A, L, rfl, l, L.kd.wires, rfl, ?_⟩
    cases hw : L.kd.wires with
    | false => exact ⟨rfl, rfl, rfl⟩
    | true =>
      refine ⟨_, rfl, _, rfl, A.p, T.C, A.dx, _, _, rfl, l.obj, T.cl, T.n_sent, rfl, _, rfl, _, _, _, _, rfl, rfl, SqL.of l.sb, at_a hs, _, _, rfl, .inl (SqL.of (l.a s)), rfl, flat_ints, _, rfl, ?_⟩
      rw [if_neg (by decide), inV_ints]
      by_cases c : k ∈ L.s s
      · rw [decide_eq_true c]
        have z : canC L s k = false := by unfold canC; rw [hw, decide_eq_true c]; rfl
        rw [z] at q
        exact q
      · rw [decide_eq_false c]
        exact ⟨rfl, rfl, rfl⟩
  · rintro σ' H' ⟨rfl, rfl, z⟩
    refine ⟨_, rfl, _, rfl, A.p, T.C, A.dx, _, _, rfl, l.obj, T.cl, T.n_came, rfl, _, rfl, _, _, _, _, rfl, rfl, SqL.of l.cb, at_d hs, _, _, rfl, .inl (SqL.of (l.d s)), rfl, flat_ints, ?_⟩
    rw [if_pos rfl, inV_ints]
    unfold canC at q
    rw [z] at q
    exact q
def spKinds (C D : Addr) : Sp := fun vs H Q E => ∃ (A : Ln) (L : LS) (s : Int), vs = [.ref A.p, .int s] ∧ LineAt C A L H ∧ (Side s → ∀ H', Ex H H' → Q (.int (L.kd.many s)) H') ∧
  (¬ Side s → ∀ d H', Ex H H' → H' d = some (.xd [("given", .int s)]) → E (.ref D) (some d) H')
theorem ok_Line_kinds (T : TL K mg) : FnOk P w K mg base (L2.CX P w) 5 T.m_kinds.a T.m_kinds.fd ["self", "side"] (spKinds T.C T.InvalidSide.C) := by
  refine T.m_kinds.F.okX sc_Line_kinds (fun vs H Q E h => ?_) (fun cdv A outer s H vs Q E hr h => ?_)
  · obtain ⟨A, L, s, rfl, _⟩ := h; rfl
  obtain ⟨A, L, s, rfl, l, q1, q2⟩ := h
  refine ⟨_, (pss_cons (ps_expr (by exact (pe_callS (ok_check_side T) (hr.mono (by decide)) rfl T.check_side.m T.check_side.F.kp T.check_side.b (fun σ => passAt (takes_of rfl rfl rfl rfl) σ) (pa_cons (pv 1) pa_nil))))
    (pss_cons (ps_if (pt_val (by exact (pe_mX0 (pv 0) T.cl T.m_has_wires.M (ok_Line_has_wires T) (hr.mono (by decide)) T.m_has_wires.b (fun σ => pass0At)))) (pss_one (ps_ret (pe_ix (kixt K) (pe_fld (pv 0) rfl) pe_int (fun _ _ => rfl)))) pss_nil)
    (pss_one (ps_ret (pe_ix (kixt K) (pe_fld (pv 0) rfl) (pe_op op_add pe_int (pv 1)) (fun _ _ => rfl)))))), ?_⟩
  refine ⟨_, rfl, s, rfl, fun ok H1 e1 => ?_, fun no d H1 e1 hd => q2 no d H1 e1 hd⟩
  have l1 := l.ex e1
  have q := q1 ok H1 e1
  refine ⟨_, rfl, A.p, A.dx, _, rfl, l1.obj, rfl, A, L, rfl, l1, L.kd.wires, rfl, ?_⟩
  have sp := l1.sp
  cases hk : L.kd with
  | wir k =>
    rw [hk] at q sp
    exact ⟨_, rfl, A.p, T.C, A.dx, _, _, rfl, l1.obj, T.cl, T.n_spec, rfl, _, _, _, _, rfl, rfl, st_of sp, rfl, q⟩
  | letr m b =>
    rw [hk] at q sp
    refine ⟨_, rfl, A.p, T.C, A.dx, _, _, rfl, l1.obj, T.cl, T.n_spec, rfl, _, rfl, _, _, rfl, rfl, ?_⟩
    rcases (by unfold Side at ok; omega : s = 0 ∨ s = 1) with rfl | rfl
    · exact ⟨_, _, _, _, rfl, rfl, st_of sp, rfl, q⟩
    · exact ⟨_, _, _, _, rfl, rfl, st_of sp, rfl, q⟩
end
end L2.U


set_option Elab.async false
set_option linter.all false
set_option maxRecDepth 100000
set_option maxHeartbeats 4000000
namespace L2.U
open PySem PySem.Spec PyProof.Rows Evl
section
variable {P : Program} {w : World} {K : PySem.W.Frag} {mg : Str → Option Value} {base : Heap}
def Kin (L : LS) (s k : Int) : Prop := 1 ≤ k ∧ k ≤ L.kd.many s
def spSend (C D DK : Addr) : Sp := fun vs H Q E => ∃ (A : Ln) (L : LS) (s k : Int), vs = [.ref A.p, .int s, .int k] ∧ LineAt C A L H ∧ (L.s s).length ≤ 900 ∧
  (¬ Side s → ∀ d H', Ex H H' → H' d = some (.xd [("given", .int s)]) → E (.ref D) (some d) H') ∧
  (Side s → ¬ Kin L s k → ∀ d H', Ex H H' → H' d = some (.xd [("given", .int k)]) → E (.ref DK) (some d) H') ∧
  (Side s → Kin L s k → canS L s k = false → ∀ H', Ex H H' → Q (.bl false) H') ∧
  (Side s → Kin L s k → canS L s k = true → ∀ H', But (A.a s) H H' → H' (A.a s) = some (.lst ((L.s s ++ [k]).map V.int)) → Q (.bl true) H')
theorem ok_Line_send (T : TL K mg) : FnOk P w K mg base (L2.CX P w) 6 T.m_send.a T.m_send.fd ["self", "side", "kind"] (spSend T.C T.InvalidSide.C T.InvalidKind.C) := by
  refine T.m_send.F.okX sc_Line_send (fun vs H Q E h => ?_) (fun cdv A outer s H vs Q E hr h => ?_)
  · obtain ⟨A, L, s, k, rfl, _⟩ := h; rfl
  obtain ⟨A, L, s, k, rfl, l, hz, q1, q2, q3, q4⟩ := h
  refine ⟨_, (pss_cons (ps_expr (by exact (pe_callS (ok_check_side T) (hr.mono (by decide)) rfl T.check_side.m T.check_side.F.kp T.check_side.b (fun σ => passAt (takes_of rfl rfl rfl rfl) σ) (pa_cons (pv 1) pa_nil))))
    (pss_cons (ps_if (pt_not (pt_val (pe_call (ok_is_between T.toTA1) (hr.mono (by decide)) rfl T.is_between.m T.is_between.F.kp T.is_between.b .nil pass0 (pa_cons (pv 2) (pa_cons pe_int (pa_cons (by exact (pe_mX (pv 0) T.cl T.m_kinds.M (ok_Line_kinds T) (hr.mono (by decide)) T.m_kinds.b (fun σ => passAt (takes_of rfl rfl rfl rfl) σ) (pa_cons (pv 1) pa_nil))) pa_nil)))))) (pss_one (ps_raise rfl (takes_of rfl rfl rfl rfl) (pmk_oex T.InvalidKind.T T.InvalidKind.iC T.InvalidKind.tI (ok_init_InvalidKind T.InvalidKind) (hr.mono (by decide)) T.InvalidKind.b .nil pass0 rfl T.InvalidKind.gC (by exact (pa_cons (pv 2) pa_nil))))) pss_nil)
    (pss_cons (ps_if (pt_not (pt_val (by exact (pe_mX (pv 0) T.cl T.m_can_be_sent.M (ok_Line_can_be_sent T) (hr.mono (by decide)) T.m_can_be_sent.b (fun σ => pass0At) (pa_cons (pv 1) (pa_cons (pv 2) pa_nil)))))) (pss_one (ps_ret pe_bl)) pss_nil)
    (pss_cons (ps_expr (pe_bm PySem.F.plainAttrs_list PySem.F.slot_list_append PySem.F.type_list_append mt_append (pe_ix (kixl K) (pe_fld (pv 0) rfl) (pv 1) (fun _ _ => rfl)) (pa_cons (pv 2) pa_nil)))
    (pss_one (ps_ret pe_bl)))))), ?_⟩
  refine ⟨_, rfl, s, rfl, fun ok H1 e1 => ?_, fun no d H1 e1 hd => q1 no d H1 e1 hd⟩
  have l1 := l.ex e1
  refine ⟨_, rfl, _, rfl, A.p, A.dx, _, rfl, l1.obj, rfl, _, rfl, A, L, s, rfl, l1, fun _ H2 e2 => ?_, fun no => absurd ok no⟩
  have l2 := l1.ex e2
  refine ⟨_, _, _, rfl, Dat.int, fun b hb _ => ⟨b, rfl, ?_⟩⟩
  have hb' := hb k rfl
  subst hb'
  by_cases c : 1 ≤ k ∧ k ≤ L.kd.many s
  · rw [decide_eq_true c]
    refine ⟨_, rfl, A.p, A.dx, _, rfl, l2.obj, rfl, _, rfl, _, rfl, A, L, s, k, rfl, ok, l2, canS L s k, rfl, ?_⟩
    cases hc : canS L s k with
    | false => exact q3 ok c hc H2 (e1.trans e2)
    | true =>
      refine ⟨_, rfl, A.p, T.C, A.dx, _, _, rfl, l2.obj, T.cl, T.n_sent, rfl, _, rfl, _, _, _, _, rfl, rfl, SqL.of l2.sb, at_a ok, .inl ⟨rfl, _, SqL.of (l2.a s)⟩, _, rfl, A.a s, _, _, rfl, rfl, l2.a s, small1000 (by rw [List.length_map]; omega), ?_⟩
      refine q4 ok c hc _ (But.pre (e1.trans e2) But.upd) ?_
      rw [upd_same, List.map_append]
      rfl
  · rw [decide_eq_false c]
    exact ⟨_, rfl, (by show 1 ≤ 1000; decide), fun a ha => raised ha fun d H' e h => q2 ok c d H' ((e1.trans e2).trans e) h⟩
def spCome (C D DK DN : Addr) : Sp := fun vs H Q E => ∃ (A : Ln) (L : LS) (s k : Int), vs = [.ref A.p, .int s, .int k] ∧ LineAt C A L H ∧ (L.c s).length ≤ 900 ∧
  (¬ Side s → ∀ d H', Ex H H' → H' d = some (.xd [("given", .int s)]) → E (.ref D) (some d) H') ∧
  (Side s → ¬ Kin L (1 - s) k → ∀ d H', Ex H H' → H' d = some (.xd [("given", .int k)]) → E (.ref DK) (some d) H') ∧
  (Side s → Kin L (1 - s) k → k ∉ L.s (1 - s) → ∀ d H', Ex H H' → H' d = some (.xd [("kind", .int k)]) → E (.ref DN) (some d) H') ∧
  (Side s → Kin L (1 - s) k → k ∈ L.s (1 - s) → canC L s k = false → ∀ H', Ex H H' → Q (.bl false) H') ∧
  (Side s → Kin L (1 - s) k → k ∈ L.s (1 - s) → canC L s k = true → ∀ H', But (A.d s) H H' → H' (A.d s) = some (.lst ((L.c s ++ [k]).map V.int)) → Q (.bl true) H')
theorem ok_Line_come (T : TL K mg) : FnOk P w K mg base (L2.CX P w) 6 T.m_come.a T.m_come.fd ["self", "side", "kind"] (spCome T.C T.InvalidSide.C T.InvalidKind.C T.NotSent.C) := by
  refine T.m_come.F.okX sc_Line_come (fun vs H Q E h => ?_) (fun cdv A outer s H vs Q E hr h => ?_)
  · obtain ⟨A, L, s, k, rfl, _⟩ := h; rfl
  obtain ⟨A, L, s, k, rfl, l, hz, q1, q2, qn, q3, q4⟩ := h
  refine ⟨_, (pss_cons (ps_expr (by exact (pe_callS (ok_check_side T) (hr.mono (by decide)) rfl T.check_side.m T.check_side.F.kp T.check_side.b (fun σ => passAt (takes_of rfl rfl rfl rfl) σ) (pa_cons (pv 1) pa_nil))))
    (pss_cons (ps_if (pt_not (pt_val (pe_call (ok_is_between T.toTA1) (hr.mono (by decide)) rfl T.is_between.m T.is_between.F.kp T.is_between.b .nil pass0 (pa_cons (pv 2) (pa_cons pe_int (pa_cons (by exact (pe_mX (pv 0) T.cl T.m_kinds.M (ok_Line_kinds T) (hr.mono (by decide)) T.m_kinds.b (fun σ => passAt (takes_of rfl rfl rfl rfl) σ) (pa_cons (pe_op op_sub pe_int (pv 1)) pa_nil))) pa_nil)))))) (pss_one (ps_raise rfl (takes_of rfl rfl rfl rfl) (pmk_oex T.InvalidKind.T T.InvalidKind.iC T.InvalidKind.tI (ok_init_InvalidKind T.InvalidKind) (hr.mono (by decide)) T.InvalidKind.b .nil pass0 rfl T.InvalidKind.gC (by exact (pa_cons (pv 2) pa_nil))))) pss_nil)
    (pss_cons (ps_if (pt_cmpR (knotin K) (pv 2) (pe_ix (kixl K) (pe_fld (pv 0) rfl) (pe_op op_sub pe_int (pv 1)) (fun _ _ => rfl)) (by rfl)) (pss_one (ps_raise rfl (takes_of rfl rfl rfl rfl) (pmk_oex T.NotSent.T T.NotSent.iC T.NotSent.tI (ok_init_NotSent T.NotSent) (hr.mono (by decide)) T.NotSent.b .nil pass0 rfl T.NotSent.gC (by exact (pa_cons (pv 2) pa_nil))))) pss_nil)
    (pss_cons (ps_if (pt_not (pt_val (by exact (pe_mX (pv 0) T.cl T.m_can_come.M (ok_Line_can_come T) (hr.mono (by decide)) T.m_can_come.b (fun σ => pass0At) (pa_cons (pv 1) (pa_cons (pv 2) pa_nil)))))) (pss_one (ps_ret pe_bl)) pss_nil)
    (pss_cons (ps_expr (pe_bm PySem.F.plainAttrs_list PySem.F.slot_list_append PySem.F.type_list_append mt_append (pe_ix (kixl K) (pe_fld (pv 0) rfl) (pv 1) (fun _ _ => rfl)) (pa_cons (pv 2) pa_nil)))
    (pss_one (ps_ret pe_bl))))))), ?_⟩
  refine ⟨_, rfl, s, rfl, fun ok H1 e1 => ?_, fun no d H1 e1 hd => q1 no d H1 e1 hd⟩
  have l1 := l.ex e1
  have ok2 := ok.other
  refine ⟨_, rfl, _, rfl, A.p, A.dx, _, rfl, l1.obj, rfl, _, rfl, _, _, rfl, rfl, A, L, 1 - s, rfl, l1, fun _ H2 e2 => ?_, fun no => absurd ok2 no⟩
  have l2 := l1.ex e2
  refine ⟨_, _, _, rfl, Dat.int, fun b hb _ => ⟨b, rfl, ?_⟩⟩
  have hb' := hb k rfl
  subst hb'
  by_cases c : 1 ≤ k ∧ k ≤ L.kd.many (1 - s)
  · rw [decide_eq_true c]
    refine ⟨_, rfl, _, rfl, A.p, T.C, A.dx, _, _, rfl, l2.obj, T.cl, T.n_sent, rfl, _, rfl, _, _, rfl, rfl, _, _, _, _, rfl, rfl, SqL.of l2.sb, at_a ok2, _, _, rfl, .inl (SqL.of (l2.a (1 - s))), rfl, flat_ints, _, rfl, ?_⟩
    rw [if_pos rfl, inV_ints]
    by_cases m : k ∈ L.s (1 - s)
    · rw [decide_eq_true m]
      refine ⟨_, rfl, A.p, A.dx, _, rfl, l2.obj, rfl, _, rfl, _, rfl, A, L, s, k, rfl, ok, l2, canC L s k, rfl, ?_⟩
      cases hc : canC L s k with
      | false => exact q3 ok c m hc H2 (e1.trans e2)
      | true =>
        refine ⟨_, rfl, A.p, T.C, A.dx, _, _, rfl, l2.obj, T.cl, T.n_came, rfl, _, rfl, _, _, _, _, rfl, rfl, SqL.of l2.cb, at_d ok, .inl ⟨rfl, _, SqL.of (l2.d s)⟩, _, rfl, A.d s, _, _, rfl, rfl, l2.d s, small1000 (by rw [List.length_map]; omega), ?_⟩
        refine q4 ok c m hc _ (But.pre (e1.trans e2) But.upd) ?_
        rw [upd_same, List.map_append]
        rfl
    · rw [decide_eq_false m]
      exact ⟨_, rfl, (by show 1 ≤ 1000; decide), fun a ha => raised ha fun d H' e h => qn ok c m d H' ((e1.trans e2).trans e) h⟩
  · rw [decide_eq_false c]
    exact ⟨_, rfl, (by show 1 ≤ 1000; decide), fun a ha => raised ha fun d H' e h => q2 ok c d H' ((e1.trans e2).trans e) h⟩
/-- a new list of ints -/
def spList (C D : Addr) (small : LS → Int → Prop) (r : LS → Int → List Int → Prop) : Sp := fun vs H Q E => ∃ (A : Ln) (L : LS) (s : Int), vs = [.ref A.p, .int s] ∧ LineAt C A L H ∧ small L s ∧
  (Side s → ∀ (p : Addr) (ys : List Int) H', Ex H H' → H p = none → H' p = some (.lst (ys.map V.int)) → r L s ys → Q (.ref p) H') ∧
  (¬ Side s → ∀ d H', Ex H H' → H' d = some (.xd [("given", .int s)]) → E (.ref D) (some d) H')
def Rise (xs ys : List Int) : Prop := ys.Perm xs ∧ ys.Pairwise (fun a b => a ≤ b)
theorem ok_Line_sent (T : TL K mg) : FnOk P w K mg base (L2.CX P w) 5 T.m_sent.a T.m_sent.fd ["self", "side"] (spList T.C T.InvalidSide.C (fun L s => (L.s s).length < 64) fun L s ys => Rise (L.s s) ys) := by
  refine T.m_sent.F.okX sc_Line_sent (fun vs H Q E h => ?_) (fun cdv A outer s H vs Q E hr h => ?_)
  · obtain ⟨A, L, s, rfl, _⟩ := h; rfl
  obtain ⟨A, L, s, rfl, l, hz, q1, q2⟩ := h
  refine ⟨_, (pss_cons (ps_expr (by exact (pe_callS (ok_check_side T) (hr.mono (by decide)) rfl T.check_side.m T.check_side.F.kp T.check_side.b (fun σ => passAt (takes_of rfl rfl rfl rfl) σ) (pa_cons (pv 1) pa_nil))))
    (pss_one (ps_ret (pe_callB cr_sorted (by rfl) T.z_sorted (by decide +kernel) (pa_cons (pe_ix (kixl K) (pe_fld (pv 0) rfl) (pv 1) (fun _ _ => rfl)) pa_nil))))), ?_⟩
  refine ⟨_, rfl, s, rfl, fun ok H1 e1 => ?_, fun no d H1 e1 hd => q2 no d H1 e1 hd⟩
  have l1 := l.ex e1
  refine ⟨_, rfl, A.p, T.C, A.dx, _, _, rfl, l1.obj, T.cl, T.n_sent, rfl, _, rfl, _, _, _, _, rfl, rfl, SqL.of l1.sb, at_a ok, ?_⟩
  refine ⟨A.a s, L.s s, rfl, SqL.of (l1.a s), hz, fun ys p h1 h2 h3 => ?_⟩
  exact q1 ok p ys _ (e1.trans (Ex.new h3)) (fresh_back e1 h3) upd_same ⟨h1, h2⟩
end
end L2.U


set_option Elab.async false
set_option linter.all false
set_option maxRecDepth 100000
set_option maxHeartbeats 4000000
namespace L2.U
open PySem PySem.Spec PyProof.Rows Evl
section
variable {P : Program} {w : World} {K : PySem.W.Frag} {mg : Str → Option Value} {base : Heap}
theorem ok_Line_come_to (T : TL K mg) : FnOk P w K mg base (L2.CX P w) 5 T.m_come_to.a T.m_come_to.fd ["self", "side"] (spList T.C T.InvalidSide.C (fun L s => (L.c s).length < 64) fun L s ys => Rise (L.c s) ys) := by
  refine T.m_come_to.F.okX sc_Line_come_to (fun vs H Q E h => ?_) (fun cdv A outer s H vs Q E hr h => ?_)
  · obtain ⟨A, L, s, rfl, _⟩ := h; rfl
  obtain ⟨A, L, s, rfl, l, hz, q1, q2⟩ := h
  refine ⟨_, (pss_cons (ps_expr (by exact (pe_callS (ok_check_side T) (hr.mono (by decide)) rfl T.check_side.m T.check_side.F.kp T.check_side.b (fun σ => passAt (takes_of rfl rfl rfl rfl) σ) (pa_cons (pv 1) pa_nil))))
    (pss_one (ps_ret (pe_callB cr_sorted (by rfl) T.z_sorted (by decide +kernel) (pa_cons (pe_ix (kixl K) (pe_fld (pv 0) rfl) (pv 1) (fun _ _ => rfl)) pa_nil))))), ?_⟩
  refine ⟨_, rfl, s, rfl, fun ok H1 e1 => ?_, fun no d H1 e1 hd => q2 no d H1 e1 hd⟩
  have l1 := l.ex e1
  refine ⟨_, rfl, A.p, T.C, A.dx, _, _, rfl, l1.obj, T.cl, T.n_came, rfl, _, rfl, _, _, _, _, rfl, rfl, SqL.of l1.cb, at_d ok, ?_⟩
  refine ⟨A.d s, L.c s, rfl, SqL.of (l1.d s), hz, fun ys p h1 h2 h3 => ?_⟩
  exact q1 ok p ys _ (e1.trans (Ex.new h3)) (fresh_back e1 h3) upd_same ⟨h1, h2⟩
theorem filter_take {α : Type} {f : α → Bool} {xs : List α} {i : Nat} {x : α} (h : xs[i]? = some x) : (xs.take (i + 1)).filter f = (xs.take i).filter f ++ (if f x = true then [x] else []) := by
  rw [List.take_add_one, h, List.filter_append]
  congr 1
  show List.filter f [x] = _
  rw [List.filter_cons]
  split <;> rfl
theorem filter_take_le {α : Type} {f : α → Bool} {xs : List α} {i : Nat} : ((xs.take i).filter f).length ≤ xs.length :=
  Nat.le_trans (List.length_filter_le _ _) (List.length_take_le' _ _)
theorem ok_Line_under_way (T : TL K mg) : FnOk P w K mg base (L2.CX P w) 5 T.m_under_way.a T.m_under_way.fd ["self", "side"] (spList T.C T.InvalidSide.C (fun L s => (L.s (1 - s)).length < 64) fun L s ys => Rise ((L.s (1 - s)).filter (canC L s)) ys) := by
  refine T.m_under_way.F.okX sc_Line_under_way (fun vs H Q E h => ?_) (fun cdv A outer s H vs Q E hr h => ?_)
  · obtain ⟨A, L, s, rfl, _⟩ := h; rfl
  obtain ⟨A, L, s, rfl, l, hz, q1, q2⟩ := h
  refine ⟨_, (pss_cons (ps_expr (by exact (pe_callS (ok_check_side T) (hr.mono (by decide)) rfl T.check_side.m T.check_side.F.kp T.check_side.b (fun σ => passAt (takes_of rfl rfl rfl rfl) σ) (pa_cons (pv 1) pa_nil))))
    (pss_one (ps_ret (pe_lc (own := [("kind", 2)]) (g := gName 2) (by rfl) sc_Line_under_way.nd (kpil K (pe_callB cr_sorted (by rfl) T.z_sorted (by decide +kernel) (pa_cons (pe_ix (kixl K) (pe_fld (pv 0) rfl) (pe_op op_sub pe_int (pv 1)) (fun _ _ => rfl)) pa_nil))) (blkOk_by (own := [("kind", 2)]) (N := ["self", "side", "kind"]) (sc := defScope s_Line_under_way) (by decide +kernel)) (fun _ _ _ _ _ => (pg_name (i := 2) sc_Line_under_way.nd rfl (Or.inl rfl))) (fun _ _ _ _ _ => (pts_one (pt_val (by exact (pe_mX (pv 0) T.cl T.m_can_come.M (ok_Line_can_come T) (hr.mono (by decide)) T.m_can_come.b (fun σ => pass0At) (pa_cons (pv 1) (pa_cons (pv 2) pa_nil))))))) (fun _ _ _ _ _ => (pv 2)))))), ?_⟩
  refine ⟨_, rfl, s, rfl, fun ok H1 e1 => ?_, fun no d H1 e1 hd => q2 no d H1 e1 hd⟩
  have l1 := l.ex e1
  have ok2 := ok.other
  refine ⟨_, rfl, A.p, T.C, A.dx, _, _, rfl, l1.obj, T.cl, T.n_sent, rfl, _, rfl, _, _, rfl, rfl, _, _, _, _, rfl, rfl, SqL.of l1.sb, at_a ok2, ?_⟩
  refine ⟨A.a (1 - s), L.s (1 - s), rfl, SqL.of (l1.a (1 - s)), hz, fun ys p h1 h2 h3 => ?_⟩
  have hzy : ys.length < 64 := by rw [h1.length_eq]; exact hz
  have e2 : Ex H1 (upd H1 p (.lst (ys.map V.int))) := Ex.new h3
  refine ⟨p, rfl, ⟨_, SqL.of upd_same⟩, fun D hD => lc_list (xs := ys.map V.int) (fun i H' => Ex (upd H1 p (.lst (ys.map V.int))) H' ∧ H' D = some (.lst (((ys.take i).filter (canC L s)).map V.int))) ⟨Ex.new hD, upd_same⟩
    (fun i H' _ p => SqL.of (p.1 _ _ upd_same)) ?_ ?_⟩
  · rintro i x H' hx ⟨e, hd⟩
    obtain ⟨z, hz1, rfl⟩ := ints_get hx
    have lz : ((ys.take i).filter (canC L s)).length ≤ ys.length := filter_take_le
    refine ⟨rfl, _, rfl, A.p, A.dx, _, rfl, (l1.ex (e2.trans e)).obj, rfl, _, rfl, _, rfl, A, L, s, z, rfl, ok, l1.ex (e2.trans e), canC L s z, rfl, ?_⟩
    cases hc : canC L s z with
    | false =>
      refine ⟨e, ?_⟩
      rw [hd, filter_take hz1, hc]
      simp
    | true =>
      rw [if_pos rfl]
      refine ⟨_, rfl, _, hd, small1000 (by rw [List.length_map]; omega), e.mut hD, ?_⟩
      rw [upd_same, filter_take hz1, hc]
      simp
  · rintro H' ⟨e, hd⟩
    rw [List.length_map, List.take_length] at hd
    refine q1 ok D _ H' (e1.trans (e2.trans e)) (fresh_back (e1.trans e2) hD) hd ⟨h1.filter _, h2.filter _⟩
/-- 1 .. n -/
def upTo (n : Int) : List Int := (List.range n.toNat).map fun (i : Nat) => 1 + (i : Int)
theorem upTo_len (n : Int) : (upTo n).length = n.toNat := by unfold upTo; rw [List.length_map, List.length_range]
theorem upTo_get {n : Int} {i : Nat} (h : i < n.toNat) : (upTo n)[i]? = some (1 + (i : Int)) := by
  unfold upTo
  rw [List.getElem?_map, List.getElem?_range h]
  rfl
theorem ok_Line_unsent (T : TL K mg) : FnOk P w K mg base (L2.CX P w) 6 T.m_unsent.a T.m_unsent.fd ["self", "side"] (spList T.C T.InvalidSide.C (fun _ _ => True) fun L s ys => ys = (upTo (L.kd.many s)).filter (canS L s)) := by
  refine T.m_unsent.F.okX sc_Line_unsent (fun vs H Q E h => ?_) (fun cdv A outer s H vs Q E hr h => ?_)
  · obtain ⟨A, L, s, rfl, _⟩ := h; rfl
  obtain ⟨A, L, s, rfl, l, _, q1, q2⟩ := h
  refine ⟨_, (pss_cons (ps_expr (by exact (pe_callS (ok_check_side T) (hr.mono (by decide)) rfl T.check_side.m T.check_side.F.kp T.check_side.b (fun σ => passAt (takes_of rfl rfl rfl rfl) σ) (pa_cons (pv 1) pa_nil))))
    (pss_cons (ps_set (i := 2) sc_Line_unsent.nd rfl (Or.inl rfl) (pe_callTy cr_range2 (by rfl) T.z_range (by decide +kernel) (pa_cons pe_int (pa_cons (pe_op op_add (by exact (pe_mX (pv 0) T.cl T.m_kinds.M (ok_Line_kinds T) (hr.mono (by decide)) T.m_kinds.b (fun σ => passAt (takes_of rfl rfl rfl rfl) σ) (pa_cons (pv 1) pa_nil))) pe_int) pa_nil))))
    (pss_one (ps_ret (pe_lc (own := [("kind", 3)]) (g := gName 3) (by rfl) sc_Line_unsent.nd (pi_rngv (pv 2)) (blkOk_by (own := [("kind", 3)]) (N := ["self", "side", "kinds", "kind"]) (sc := defScope s_Line_unsent) (by decide +kernel)) (fun _ _ _ _ _ => (pg_name (i := 3) sc_Line_unsent.nd rfl (Or.inl rfl))) (fun _ _ _ _ _ => (pts_one (pt_val (by exact (pe_mX (pv 0) T.cl T.m_can_be_sent.M (ok_Line_can_be_sent T) (hr.mono (by decide)) T.m_can_be_sent.b (fun σ => pass0At) (pa_cons (pv 1) (pa_cons (pv 3) pa_nil))))))) (fun _ _ _ _ _ => (pv 3))))))), ?_⟩
  refine ⟨_, rfl, s, rfl, fun ok H1 e1 => ?_, fun no d H1 e1 hd => q2 no d H1 e1 hd⟩
  have l1 := l.ex e1
  have hm := Knd.many_le l1.ok s
  refine ⟨_, rfl, A.p, A.dx, _, rfl, l1.obj, rfl, _, rfl, A, L, s, rfl, l1, fun _ H2 e2 => ?_, fun no => absurd ok no⟩
  have l2 := l1.ex e2
  refine ⟨_, _, rfl, rfl, _, _, rfl, fun p hp => ?_⟩
  have e3 : Ex H2 (upd H2 p (.rng 1 (L.kd.many s + 1))) := Ex.new hp
  refine ⟨_, rfl, p, _, _, rfl, upd_same, ⟨by omega, by omega, by omega, by omega⟩, fun D hD => lc_range (fun i H' => Ex (upd H2 p (.rng 1 (L.kd.many s + 1))) H' ∧ H' D = some (.lst ((((upTo (L.kd.many s)).take i).filter (canS L s)).map V.int))) ⟨Ex.new hD, upd_same⟩ ?_ ?_⟩
  · rintro i H' hi ⟨e, hd⟩
    have hi' : i < (L.kd.many s).toNat := by omega
    have hz1 := upTo_get hi'
    have lz : (((upTo (L.kd.many s)).take i).filter (canS L s)).length ≤ (upTo (L.kd.many s)).length := filter_take_le
    rw [upTo_len] at lz
    have l3 := l2.ex (e3.trans e)
    refine ⟨rfl, _, rfl, A.p, A.dx, _, rfl, l3.obj, rfl, _, rfl, _, rfl, A, L, s, 1 + (i : Int), rfl, ok, l3, canS L s (1 + (i : Int)), rfl, ?_⟩
    cases hc : canS L s (1 + (i : Int)) with
    | false =>
      refine ⟨e, ?_⟩
      rw [hd, filter_take hz1, hc]
      simp
    | true =>
      rw [if_pos rfl]
      refine ⟨_, rfl, _, hd, small1000 (by rw [List.length_map]; omega), e.mut hD, ?_⟩
      rw [upd_same, filter_take hz1, hc]
      simp
  · rintro H' ⟨e, hd⟩
    rw [show (L.kd.many s + 1 - 1).toNat = (upTo (L.kd.many s)).length by rw [upTo_len]; congr 1; omega, List.take_length] at hd
    exact q1 ok D _ H' (e1.trans (e2.trans (e3.trans e))) (fresh_back (e1.trans (e2.trans e3)) hD) hd rfl
def spLeft (C : Addr) : Sp := fun vs H Q _ => ∃ (A : Ln) (L : LS), vs = [.ref A.p] ∧ LineAt C A L H ∧ L.s0.length ≤ 32 ∧ L.s1.length ≤ 32 ∧
  ((∃ m b, L.kd = .letr m b ∧ ∀ p H', Ex H H' → H p = none → H' p = some (.tup [.int (m - L.s0.length), .int (b - L.s1.length)]) → Q (.ref p) H') ∨
   (∃ k, L.kd = .wir k ∧ ∀ p H', Ex H H' → H p = none → H' p = some (.tup [.int (k - (diffs (L.s0 ++ L.s1)).length)]) → Q (.ref p) H'))
theorem ok_Line_left (T : TL K mg) : FnOk P w K mg base CX0 2 T.m_left.a T.m_left.fd ["self"] (spLeft T.C) := by
  refine T.m_left.F.ok sc_Line_left (fun vs H Q E h => ?_) (fun cdv A outer s H vs Q E hr h => ?_)
  · obtain ⟨A, L, rfl, _⟩ := h; rfl
  obtain ⟨A, L, rfl, l, z0, z1, h⟩ := h
  refine ⟨_, (pss_cons (ps_if (pt_val (by exact (pe_mX0 (pv 0) T.cl T.m_has_wires.M (ok_Line_has_wires T) (hr.mono (by decide)) T.m_has_wires.b (fun σ => pass0At)))) (pss_cons (ps_set (i := 1) sc_Line_left.nd rfl (Or.inl rfl) (pe_countI (by rfl) rfl T.z_len rfl T.z_set (pe_op op_cat (pe_ix (kixl K) (pe_fld (pv 0) rfl) pe_int (fun _ _ => rfl)) (pe_ix (kixl K) (pe_fld (pv 0) rfl) pe_int (fun _ _ => rfl)))))
    (pss_one (ps_ret (pe_tup (pa_cons (pe_op op_sub (pe_ix (kixt K) (pe_fld (pv 0) rfl) pe_int (fun _ _ => rfl)) (pv 1)) pa_nil))))) pss_nil)
    (pss_one (ps_ret (pe_tup (pa_cons (pe_op op_sub (pe_ix (kixt K) (pe_fld (pv 0) rfl) pe_int (fun _ _ => rfl)) (pe_callB (klen K) (by rfl) T.z_len (by decide +kernel) (pa_cons (pe_ix (kixl K) (pe_fld (pv 0) rfl) pe_int (fun _ _ => rfl)) pa_nil))) (pa_cons (pe_op op_sub (pe_ix (kixt K) (pe_fld (pv 0) rfl) pe_int (fun _ _ => rfl)) (pe_callB (klen K) (by rfl) T.z_len (by decide +kernel) (pa_cons (pe_ix (kixl K) (pe_fld (pv 0) rfl) pe_int (fun _ _ => rfl)) pa_nil))) pa_nil)))))), ?_⟩
  refine ⟨_, rfl, A.p, A.dx, _, rfl, l.obj, rfl, A, L, rfl, l, L.kd.wires, rfl, ?_⟩
  have sp := l.sp
  rcases h with ⟨m, b, hk, q⟩ | ⟨k, hk, q⟩
  · rw [hk] at sp ⊢
    refine ⟨_, rfl, A.p, T.C, A.dx, _, _, rfl, l.obj, T.cl, T.n_spec, rfl, _, _, _, _, rfl, rfl, st_of sp, rfl, ?_⟩
    refine ⟨_, rfl, A.p, T.C, A.dx, _, _, rfl, l.obj, T.cl, T.n_sent, rfl, _, _, _, _, rfl, rfl, SqL.of l.sb, rfl, ?_⟩
    refine ⟨_, _, rfl, .inl ⟨_, SqL.of l.a0, rfl⟩, _, _, rfl, rfl, ?_⟩
    refine ⟨_, rfl, A.p, T.C, A.dx, _, _, rfl, l.obj, T.cl, T.n_spec, rfl, _, _, _, _, rfl, rfl, st_of sp, rfl, ?_⟩
    refine ⟨_, rfl, A.p, T.C, A.dx, _, _, rfl, l.obj, T.cl, T.n_sent, rfl, _, _, _, _, rfl, rfl, SqL.of l.sb, rfl, ?_⟩
    refine ⟨_, _, rfl, .inl ⟨_, SqL.of l.a1, rfl⟩, _, _, rfl, rfl, ?_⟩
    refine ⟨(by show 2 ≤ sizeLine; decide), fun p hp => q p _ (Ex.new hp) hp ?_⟩
    rw [upd_same, List.length_map, List.length_map]
  · rw [hk] at sp ⊢
    refine ⟨_, rfl, A.p, T.C, A.dx, _, _, rfl, l.obj, T.cl, T.n_sent, rfl, _, _, _, _, rfl, rfl, SqL.of l.sb, rfl, ?_⟩
    refine ⟨_, rfl, A.p, T.C, A.dx, _, _, rfl, l.obj, T.cl, T.n_sent, rfl, _, _, _, _, rfl, rfl, SqL.of l.sb, rfl, ?_⟩
    refine ⟨A.a0, A.a1, _, _, rfl, rfl, l.a0, l.a1, Nat.le_of_lt (small1000 (by rw [List.length_map, List.length_map]; omega)), fun p hp => ?_⟩
    have e1 : Ex H (upd H p (.lst (L.s0.map V.int ++ L.s1.map V.int))) := Ex.new hp
    refine ⟨p, L.s0 ++ L.s1, rfl, SqL.of (by rw [upd_same, List.map_append]), by rw [List.length_append]; omega, ?_⟩
    have l1 := l.ex e1
    refine ⟨_, rfl, A.p, T.C, A.dx, _, _, rfl, l1.obj, T.cl, T.n_spec, rfl, _, _, _, _, rfl, rfl, st_of (e1 _ _ sp), rfl, _, rfl, _, _, rfl, rfl, ?_⟩
    exact ⟨(by show 1 ≤ sizeLine; decide), fun p2 hp2 => q p2 _ (e1.trans (Ex.new hp2)) (fresh_back e1 hp2) upd_same⟩
end
end L2.U


set_option Elab.async false
set_option linter.all false
set_option maxRecDepth 100000
set_option maxHeartbeats 4000000
namespace L2.U
open PySem PySem.Spec PyProof.Rows Evl
section
variable {P : Program} {w : World} {K : PySem.W.Frag} {mg : Str → Option Value} {base : Heap}
theorem shaped0 : SeqAt.shaped (PyData.tuple []) = true := by
  simp only [SeqAt.shaped, PyData.canLay0, PyData.canLayAll0, PyData.depth, PyData.depthAll]
  decide
theorem shaped3 {m b : Int} : SeqAt.shaped (PyData.tuple [PyData.str "letters", PyData.int m, PyData.int b]) = true := by
  have h : PyData.strOk ("letters" : Str) = true := by decide +kernel
  simp only [SeqAt.shaped, PyData.canLay0, PyData.canLayAll0, PyData.depth, PyData.depthAll, h]
  rfl
theorem shaped2 {m : Int} : SeqAt.shaped (PyData.tuple [PyData.str "wires", PyData.int m]) = true := by
  have h : PyData.strOk ("wires" : Str) = true := by decide +kernel
  simp only [SeqAt.shaped, PyData.canLay0, PyData.canLayAll0, PyData.depth, PyData.depthAll, h]
  rfl
def spIsSpec : Sp := fun vs H Q _ => ∃ (a : Addr) (kd : Knd), vs = [.ref a] ∧ H a = some (.tup kd.vals) ∧ kd.Ok ∧ ∀ H', Ex H H' → Q (.bl true) H'
theorem ok_is_spec (T : TL K mg) : FnOk P w K mg base CX0 4 T.is_spec.a T.is_spec.fd ["value"] spIsSpec := by
  refine T.is_spec.F.ok sc_is_spec (fun vs H Q E h => ?_) (fun cdv A outer s H vs Q E hr h => ?_)
  · obtain ⟨a, kd, rfl, _⟩ := h; rfl
  obtain ⟨a, kd, rfl, ha, hk, q⟩ := h
  refine ⟨_, (pss_cons (ps_if (PW.pt (pw_or (pt_not (pt_val (pe_callB (kisi K) (by rfl) T.z_isinstance (by decide +kernel) (pa_cons (pv 0) (pa_cons (pe_bltn (v := .ty "tuple") rfl T.z_tuple (by decide +kernel) rfl) pa_nil))))) (pw_or1 (pt_cmpR (keqD K hr.units) (pv 0) (pe_tup pa_nil) (nomark _))))) (pss_one (ps_ret pe_bl)) pss_nil)
    (pss_cons (ps_if (pt_cmpR op_eq (pe_ix (kixt K) (pv 0) pe_int (fun _ _ => rfl)) pe_str (nomark _)) (pss_one (ps_ret (pe_and (pe_cmpR op_eq (pe_callB (klen K) (by rfl) T.z_len (by decide +kernel) (pa_cons (pv 0) pa_nil)) pe_int (nomark _)) (pe_one (pe_call (ok_are_between T.toTA1) (hr.mono (by decide)) rfl T.are_between.m T.are_between.F.kp T.are_between.b .nil pass0 (pa_cons (pe_slice (kslT K) (pv 0) (po_some pe_int) po_none) (pa_cons pe_int (pa_cons (pe_glob (v := .int 8) rfl T.c_MOST_LETTERS ⟨_, rfl⟩) pa_nil)))))))) pss_nil)
    (pss_cons (ps_if (pt_cmpR op_eq (pe_ix (kixt K) (pv 0) pe_int (fun _ _ => rfl)) pe_str (nomark _)) (pss_one (ps_ret (pe_and (pe_cmpR op_eq (pe_callB (klen K) (by rfl) T.z_len (by decide +kernel) (pa_cons (pv 0) pa_nil)) pe_int (nomark _)) (pe_one (pe_call (ok_is_between T.toTA1) (hr.mono (by decide)) rfl T.is_between.m T.is_between.F.kp T.is_between.b .nil pass0 (pa_cons (pe_ix (kixt K) (pv 0) pe_int (fun _ _ => rfl)) (pa_cons pe_int (pa_cons (pe_glob (v := .int 10) rfl T.c_MOST_WIRES ⟨_, rfl⟩) pa_nil)))))))) pss_nil)
    (pss_one (ps_ret pe_bl))))), ?_⟩
  refine ⟨_, rfl, _, _, _, _, _, rfl, .ty "tuple", .base (.tup ha), kit_ty (r := true) (by decide +kernel), true, rfl, ?_⟩
  refine iteF ?_
  refine ⟨_, rfl, (by show 0 ≤ sizeLine; decide), fun e he => ?_⟩
  have ha1 : upd H e (.tup []) a = some (.tup kd.vals) := (Ex.new he) _ _ ha
  have n1 : Ex H (upd H e (.tup [])) := Ex.new he
  cases kd with
  | letr m b =>
    have hk' : (0 ≤ m ∧ m ≤ 8) ∧ 0 ≤ b ∧ b ≤ 8 := hk
    refine ⟨.tuple [.str "letters", .int m, .int b], .tuple [], .tup (SqT.of ha1) (.cons (.str _) (.cons (.int _) (.cons (.int _) .nil))), .tup (SqT.of upd_same) .nil, shaped3, shaped0, ?_⟩
    refine ⟨_, rfl, ?_⟩
    refine iteF ?_
    refine ⟨_, rfl, _, _, _, _, rfl, rfl, SqT.of ha1, rfl, rfl, ?_⟩
    rw [decide_eq_true rfl]
    refine ⟨_, rfl, iteT ?_⟩
    refine ⟨_, rfl, _, _, rfl, .inr ⟨_, SqT.of ha1, rfl⟩, rfl, ?_⟩
    refine ⟨_, rfl, ?_⟩
    rw [if_pos (show decide (V.int ↑(Knd.letr m b).vals.length = V.int 3) = true from decide_eq_true rfl)]
    refine ⟨_, rfl, 1, rfl, a, _, rfl, SqT.of ha1, fun z => ?_, fun _ p hp => ?_⟩
    · exact absurd z.1 (by show ¬ HT.sIx 3 0 (some 1) = 0; decide)
    have hc : cutV (Knd.letr m b).vals (some 1) none = [m, b].map V.int := rfl
    rw [hc]
    exact ⟨p, [m, b], 0, 8, rfl, SqT.of upd_same, (by show 2 ≤ 1000; decide), fun n hn => (by
      simp only [List.mem_cons, List.not_mem_nil, or_false] at hn
      rcases hn with rfl | rfl
      · exact hk'.1
      · exact hk'.2), fun H' e' => q H' (n1.trans ((Ex.new hp).trans e'))⟩
  | wir k =>
    have hk' : 0 ≤ k ∧ k ≤ 10 := hk
    refine ⟨.tuple [.str "wires", .int k], .tuple [], .tup (SqT.of ha1) (.cons (.str _) (.cons (.int _) .nil)), .tup (SqT.of upd_same) .nil, shaped2, shaped0, ?_⟩
    refine ⟨_, rfl, ?_⟩
    refine iteF ?_
    refine ⟨_, rfl, _, _, _, _, rfl, rfl, SqT.of ha1, rfl, rfl, ?_⟩
    rw [show decide (V.str "wires" = V.str "letters") = false from decide_eq_false (by intro z; exact absurd (V.str.inj z) (by decide +kernel))]
    refine ⟨_, rfl, iteF ?_⟩
    refine ⟨_, rfl, _, _, _, _, rfl, rfl, SqT.of ha1, rfl, rfl, ?_⟩
    rw [decide_eq_true rfl]
    refine ⟨_, rfl, iteT ?_⟩
    refine ⟨_, rfl, _, _, rfl, .inr ⟨_, SqT.of ha1, rfl⟩, rfl, ?_⟩
    refine ⟨_, rfl, ?_⟩
    rw [if_pos (show decide (V.int ↑(Knd.wir k).vals.length = V.int 2) = true from decide_eq_true rfl)]
    refine ⟨_, rfl, _, _, _, _, rfl, rfl, SqT.of ha1, rfl, ?_⟩
    refine ⟨.int k, 0, 10, rfl, Dat.int, fun b hb _ => ?_⟩
    rw [hb k rfl, decide_eq_true hk']
    exact q _ n1
def spLnInit (C : Addr) : Sp := fun vs H Q _ => ∃ (p sp dx : Addr) (kd : Knd), vs = [.ref p, .ref sp] ∧ H p = some (.ins C dx []) ∧ H sp = some (.tup kd.vals) ∧ kd.Ok ∧
  ∀ (A : Ln) H', A.p = p → A.dx = dx → A.sp = sp → LineAt C A ⟨kd, [], [], [], []⟩ H' → [A.a0, A.a1, A.d0, A.d1].Nodup → (∀ a ∈ [A.a0, A.a1, A.d0, A.d1, A.sb, A.cb], H a = none) → But p H H' → Q .non H'
theorem ok_Line_init (T : TL K mg) : FnOk P w K mg base (L2.CX P w) 5 T.m_init.a T.m_init.fd ["self", "spec"] (spLnInit T.C) := by
  refine T.m_init.F.okX sc_Line_init (fun vs H Q E h => ?_) (fun cdv A outer s H vs Q E hr h => ?_)
  · obtain ⟨p, sp, dx, kd, rfl, _⟩ := h; rfl
  obtain ⟨p, sp, dx, kd, rfl, hp, hs, hk, q⟩ := h
  refine ⟨_, (pss_cons (ps_if (pt_not (pt_val (pe_call (ok_is_spec T) (hr.mono (by decide)) rfl T.is_spec.m T.is_spec.F.kp T.is_spec.b .nil pass0 (pa_cons (pv 1) pa_nil)))) (pss_one (ps_raise rfl (takes_of rfl rfl rfl rfl) (pmk_oex T.InvalidSpec.T T.InvalidSpec.iC T.InvalidSpec.tI (ok_init_InvalidSpec T.InvalidSpec) (hr.mono (by decide)) T.InvalidSpec.b .nil pass0 rfl T.InvalidSpec.gC (by exact (pa_cons (pv 1) pa_nil))))) pss_nil)
    (pss_cons (ps_fld (pv 0) (pv 1) rfl)
    (pss_cons (ps_fld (pv 0) (pe_lst (pa_cons (pe_lst pa_nil) (pa_cons (pe_lst pa_nil) pa_nil))) rfl)
    (pss_one (ps_fld (pv 0) (pe_lst (pa_cons (pe_lst pa_nil) (pa_cons (pe_lst pa_nil) pa_nil))) rfl))))), ?_⟩
  refine ⟨_, rfl, sp, kd, rfl, hs, hk, fun H1 e1 => ?_⟩
  refine ⟨true, rfl, ?_⟩
  refine iteF ?_
  refine ⟨_, rfl, _, rfl, _, _, _, _, rfl, e1 _ _ hp, T.cl, T.n_spec, by decide, ?_⟩
  refine ⟨(by show 0 ≤ sizeLine; decide), fun a0 h0 => ⟨(by show 0 ≤ sizeLine; decide), fun a1 h1 => ⟨(by show 2 ≤ sizeLine; decide), fun sb h2 => ?_⟩⟩⟩
  generalize hg1 : upd H1 p (HO.ins T.C dx (putF (Str.ofString "spec") (V.ref sp) [])) = G1 at h0 h1 h2 ⊢
  have g1p : G1 p = some (.ins T.C dx [("spec", .ref sp)]) := by rw [← hg1, upd_same]; rfl
  have k1 : But p H G1 := by rw [← hg1]; exact But.pre e1 But.upd
  have f4 : Ex G1 (upd (upd (upd G1 a0 (.lst [])) a1 (.lst [])) sb (.lst [.ref a0, .ref a1])) := ((Ex.new h0).trans (Ex.new h1)).trans (Ex.new h2)
  have x0 : G1 a0 = none := h0
  have x1 : G1 a1 = none := fresh_back (Ex.new h0) h1
  have xs : G1 sb = none := fresh_back ((Ex.new h0).trans (Ex.new h1)) h2
  have n01 : a0 ≠ a1 := ne_of_none upd_same h1
  have r0 : upd (upd (upd G1 a0 (.lst [])) a1 (.lst [])) sb (.lst [.ref a0, .ref a1]) a0 = some (.lst []) := (Ex.new h2) _ _ ((Ex.new h1) _ _ upd_same)
  have r1 : upd (upd (upd G1 a0 (.lst [])) a1 (.lst [])) sb (.lst [.ref a0, .ref a1]) a1 = some (.lst []) := (Ex.new h2) _ _ upd_same
  have rs : upd (upd (upd G1 a0 (.lst [])) a1 (.lst [])) sb (.lst [.ref a0, .ref a1]) sb = some (.lst [.ref a0, .ref a1]) := upd_same
  generalize upd (upd (upd G1 a0 (.lst [])) a1 (.lst [])) sb (.lst [.ref a0, .ref a1]) = G4 at f4 r0 r1 rs ⊢
  refine ⟨_, rfl, _, _, _, _, rfl, f4 _ _ g1p, T.cl, T.n_sent, (by show 1 < 1000; decide), ?_⟩
  refine ⟨(by show 0 ≤ sizeLine; decide), fun d0 h5 => ⟨(by show 0 ≤ sizeLine; decide), fun d1 h6 => ⟨(by show 2 ≤ sizeLine; decide), fun cb h7 => ?_⟩⟩⟩
  generalize hg5 : upd G4 p (HO.ins T.C dx (putF (Str.ofString "_sent_by") (V.ref sb) [(Str.ofString "spec", V.ref sp)])) = G5 at h5 h6 h7 ⊢
  have g5p : G5 p = some (.ins T.C dx [("spec", .ref sp), ("_sent_by", .ref sb)]) := by rw [← hg5, upd_same]; rfl
  have k5 : But p G4 G5 := by rw [← hg5]; exact But.upd
  have f8 : Ex G5 (upd (upd (upd G5 d0 (.lst [])) d1 (.lst [])) cb (.lst [.ref d0, .ref d1])) := ((Ex.new h5).trans (Ex.new h6)).trans (Ex.new h7)
  have y0 : G5 d0 = none := h5
  have y1 : G5 d1 = none := fresh_back (Ex.new h5) h6
  have ys : G5 cb = none := fresh_back ((Ex.new h5).trans (Ex.new h6)) h7
  have m01 : d0 ≠ d1 := ne_of_none upd_same h6
  have t0 : upd (upd (upd G5 d0 (.lst [])) d1 (.lst [])) cb (.lst [.ref d0, .ref d1]) d0 = some (.lst []) := (Ex.new h7) _ _ ((Ex.new h6) _ _ upd_same)
  have t1 : upd (upd (upd G5 d0 (.lst [])) d1 (.lst [])) cb (.lst [.ref d0, .ref d1]) d1 = some (.lst []) := (Ex.new h7) _ _ upd_same
  have ts : upd (upd (upd G5 d0 (.lst [])) d1 (.lst [])) cb (.lst [.ref d0, .ref d1]) cb = some (.lst [.ref d0, .ref d1]) := upd_same
  generalize upd (upd (upd G5 d0 (.lst [])) d1 (.lst [])) cb (.lst [.ref d0, .ref d1]) = G8 at f8 t0 t1 ts ⊢
  refine ⟨_, rfl, _, _, _, _, rfl, f8 _ _ g5p, T.cl, T.n_came, (by show 2 < 1000; decide), ?_⟩
  have k9 : But p G8 (upd G8 p (.ins T.C dx (putF "_came_to" (.ref cb) [("spec", .ref sp), ("_sent_by", .ref sb)]))) := But.upd
  have k49 := k5.trans (But.trans (But.of f8) k9)
  have k19 := But.trans (But.of f4) k49
  have px0 : a0 ≠ p := (ne_of_none g1p x0).symm
  have px1 : a1 ≠ p := (ne_of_none g1p x1).symm
  have pxs : sb ≠ p := (ne_of_none g1p xs).symm
  have py0 : d0 ≠ p := (ne_of_none g5p y0).symm
  have py1 : d1 ≠ p := (ne_of_none g5p y1).symm
  have pys : cb ≠ p := (ne_of_none g5p ys).symm
  have spp : sp ≠ p := ne_of hs hp (by intro z; cases z)
  have back : ∀ {x : Addr}, x ≠ p → G5 x = none → G1 x = none := fun {x} hx h => fresh_back f4 (k5.none (f4 _ _ g1p) h hx)
  refine q ⟨p, dx, sp, sb, cb, a0, a1, d0, d1⟩ _ rfl rfl rfl ⟨by rw [upd_same]; rfl, (k1.trans k19) _ _ spp hs, k49 _ _ pxs rs, k9 _ _ pys ts, k49 _ _ px0 r0, k49 _ _ px1 r1, k9 _ _ py0 t0, k9 _ _ py1 t1, hk⟩ ?_ ?_ (k1.trans k19)
  · have q5 : ∀ {x y : Addr} {o : HO}, G4 x = some o → x ≠ p → G5 y = none → x ≠ y := fun h hx hy => ne_of_none (k5 _ _ hx h) hy
    simp only [List.nodup_cons, List.mem_cons, List.not_mem_nil, or_false, not_or, not_false_eq_true, List.nodup_nil, and_true]
    exact ⟨⟨n01, q5 r0 px0 y0, q5 r0 px0 y1⟩, ⟨q5 r1 px1 y0, q5 r1 px1 y1⟩, m01⟩
  · have b1 : ∀ {x : Addr}, x ≠ p → G1 x = none → H x = none := fun hx h => k1.none hp h hx
    intro a ha
    simp only [List.mem_cons, List.not_mem_nil, or_false] at ha
    rcases ha with rfl | rfl | rfl | rfl | rfl | rfl
    · exact b1 px0 x0
    · exact b1 px1 x1
    · exact b1 py0 (back py0 y0)
    · exact b1 py1 (back py1 y1)
    · exact b1 pxs xs
    · exact b1 pys (back pys ys)
end
end L2.U


set_option Elab.async false
set_option linter.all false
set_option maxRecDepth 100000
set_option maxHeartbeats 4000000
namespace L2.U
open PySem PySem.Spec PyProof.Rows Evl
section
variable {P : Program} {w : World} {K : PySem.W.Frag} {mg : Str → Option Value} {base : Heap}
/-- [list(y) for y in two lists of ints] -/
theorem cp_two {K : PySem.W.Frag} {σ : L2.St} {H1 : Hp} {D b a0 a1 : Addr} {n0 n1 : List Int} {i : Nat} {y : Str} {Qd : Hp → Prop} (hb : SqL K H1 b [.ref a0, .ref a1]) (h0 : H1 a0 = some (.lst (n0.map V.int))) (h1 : H1 a1 = some (.lst (n1.map V.int)))
    (z0 : n0.length ≤ 64) (z1 : n1.length ≤ 64) (hi : i < σ.length) (hD : H1 D = none)
    (hq : ∀ e0 e1 H', Ex H1 H' → H1 e0 = none → H1 e1 = none → e0 ≠ e1 → H' e0 = some (.lst (n0.map V.int)) → H' e1 = some (.lst (n1.map V.int)) → H' D = some (.lst [.ref e0, .ref e1]) → Qd H') :
    ∃ W : Nat → Nat → Hp → Prop, (∃ m, W 0 m (upd H1 D (.lst []))) ∧ ∀ i' m H, W i' m H →
      ((Itl K b).stop i' H ∧ Qd H) ∨ ((Itl K b).go i' H ∧ ∃ Nx : Hp → Prop, (∀ H', Nx H' → ∃ m', m' < m ∧ W (i' + 1) m' H') ∧ ∀ x H', (Itl K b).yld i' H x H' → gName i x (wipe σ ([(y, i)].map (fun x => x.2))) H' fun σ2 H2 => wipe σ2 ([(y, i)].map (fun x => x.2)) = wipe σ ([(y, i)].map (fun x => x.2)) ∧ tYes σ2 H2 fun b H3 =>
        if b = true then tCB (rListOf K) (tCons (tVar i) tNil) σ2 H3 fun y H4 => ∃ acc, H4 D = some (.lst acc) ∧ acc.length < sizeLine ∧ Nx (upd H4 D (.lst (acc ++ [y]))) else Nx H3) := by
  have ws : ∀ x : V, wipe ((wipe σ [i]).set i (some x)) [i] = wipe σ [i] := fun x => by simp [wipe]
  have ln : ∀ x : V, ((wipe σ [i]).set i (some x))[i]? = some (some x) := fun x => by simp [wipe, hi]
  refine lc_list (xs := [.ref a0, .ref a1]) (fun k H' => Ex H1 H' ∧ ∃ es : List Addr, es.length = k ∧ H' D = some (.lst (es.map V.ref)) ∧ (∀ e ∈ es, H1 e = none ∧ e ≠ D) ∧ es.Nodup ∧
    (∀ e, es[0]? = some e → H' e = some (.lst (n0.map V.int))) ∧ (∀ e, es[1]? = some e → H' e = some (.lst (n1.map V.int)))) ⟨Ex.new hD, [], rfl, upd_same, (fun e h => absurd h (by simp)), .nil, (fun e h => by cases h), (fun e h => by cases h)⟩
    (fun k H' _ p => ex_l p.1 hb) ?_ ?_
  · rintro k x H' hx ⟨e, es, hl, hd, hes, hn, g0, g1⟩
    refine ⟨ws x, tyes ?_⟩
    have main : ∀ (a : Addr) (ns : List Int), x = .ref a → H1 a = some (.lst (ns.map V.int)) → ns.length ≤ 64 → (k = 0 → ns = n0) → (k = 1 → ns = n1) → tCB (rListOf K) (tCons (tVar i) tNil) ((wipe σ [i]).set i (some x)) H' fun y H4 => ∃ acc, H4 D = some (.lst acc) ∧ acc.length < sizeLine ∧
        (fun k H' => Ex H1 H' ∧ ∃ es : List Addr, es.length = k ∧ H' D = some (.lst (es.map V.ref)) ∧ (∀ e ∈ es, H1 e = none ∧ e ≠ D) ∧ es.Nodup ∧
    (∀ e, es[0]? = some e → H' e = some (.lst (n0.map V.int))) ∧ (∀ e, es[1]? = some e → H' e = some (.lst (n1.map V.int)))) (k + 1) (upd H4 D (.lst (acc ++ [y]))) := by
      rintro a ns rfl ha hz k0 k1
      refine ⟨_, ln _, a, ns.map V.int, rfl, .inl (ex_l e (SqL.of ha)), fun l hl => ?_⟩
      have lD : D ≠ l := ne_of_none hd hl
      have x2 : Ex H' (upd H' l (.lst (ns.map V.int))) := Ex.new hl
      refine ⟨_, x2 _ _ hd, small1000 (by rw [List.length_map, ‹es.length = k›]; have := (List.getElem?_eq_some_iff.mp hx).1; simp only [List.length_cons, List.length_nil] at this; omega), (e.trans x2).mut hD, es ++ [l], ?_, ?_, ?_, ?_, ?_, ?_⟩
      · rw [List.length_append, ‹es.length = k›]; rfl
      · rw [upd_same, List.map_append]; rfl
      · intro e' he'
        rcases List.mem_append.mp he' with h | h
        · exact hes e' h
        · obtain rfl := List.mem_singleton.mp h
          exact ⟨fresh_back e hl, lD.symm⟩
      · refine List.nodup_append.mpr ⟨hn, by simp, ?_⟩
        intro e' he' e'' he''
        obtain rfl := List.mem_singleton.mp he''
        rintro rfl
        match es, he', hl, g0, g1, hn, ‹es.length = k› with
        | [e1], h, hl, g0, g1, hn, hk =>
          obtain rfl := List.mem_singleton.mp h
          rw [g0 _ rfl] at hl; cases hl
        | [e1, e2], h, hl, g0, g1, hn, hk => have := (List.getElem?_eq_some_iff.mp hx).1; simp only [List.length_cons, List.length_nil] at this hk; omega
        | e1 :: e2 :: e3 :: r, h, hl, g0, g1, hn, hk => have := (List.getElem?_eq_some_iff.mp hx).1; simp only [List.length_cons, List.length_nil] at this hk; omega
      · intro e' he'
        match es, he', hes, g0, ‹es.length = k› with
        | [], h, _, _, hk =>
          obtain rfl := Option.some.inj h
          rw [upd_ne lD.symm, upd_same, k0 hk.symm]
        | e1 :: r, h, hes, g0, hk =>
          obtain rfl := Option.some.inj h
          rw [upd_ne (hes e1 (by simp)).2]
          exact x2 _ _ (g0 _ rfl)
      · intro e' he'
        match es, he', hes, g1, ‹es.length = k› with
        | [], h, _, _, hk => cases h
        | [e1], h, _, _, hk =>
          obtain rfl := Option.some.inj h
          rw [upd_ne lD.symm, upd_same, k1 hk.symm]
        | e1 :: e2 :: r, h, hes, g1, hk =>
          obtain rfl := Option.some.inj h
          rw [upd_ne (hes e2 (by simp)).2]
          exact x2 _ _ (g1 _ rfl)
    match k, hx with
    | 0, hx => exact main a0 n0 (Option.some.inj hx).symm h0 z0 (fun _ => rfl) (fun h => by omega)
    | 1, hx => exact main a1 n1 (Option.some.inj hx).symm h1 z1 (fun h => by omega) (fun _ => rfl)
    | k + 2, hx => cases hx
  · rintro H' ⟨e, es, hl, hd, hes, hn, g0, g1⟩
    match es, hl with
    | [e0, e1], _ =>
      have nn : e0 ≠ e1 := by
        have := hn
        simp only [List.nodup_cons, List.mem_cons, List.not_mem_nil, or_false] at this
        exact this.1
      exact hq e0 e1 H' e (hes e0 (by simp)).1 (hes e1 (by simp)).1 nn (g0 _ rfl) (g1 _ rfl) hd
def spCopy (C : Addr) : Sp := fun vs H Q _ => ∃ (A : Ln) (L : LS), vs = [.ref A.p] ∧ LineAt C A L H ∧ (∀ s, Side s → (L.s s).length ≤ 64 ∧ (L.c s).length ≤ 64) ∧
  ∀ (B : Ln) H', LineAt C B L H' → [B.a0, B.a1, B.d0, B.d1].Nodup → (∀ a ∈ [B.a0, B.a1, B.d0, B.d1], H a = none) → Ex H H' → Q (.ref B.p) H'
theorem ok_Line_copy (T : TL K mg) : FnOk P w K mg base (L2.CX P w) 7 T.m_copy.a T.m_copy.fd ["self"] (spCopy T.C) := by
  refine T.m_copy.F.okX sc_Line_copy (fun vs H Q E h => ?_) (fun cdv A outer s H vs Q E hr h => ?_)
  · obtain ⟨A, L, rfl, _⟩ := h; rfl
  obtain ⟨A, L, rfl, l, hz, q⟩ := h
  refine ⟨_, (pss_cons (ps_set (i := 1) sc_Line_copy.nd rfl (Or.inl rfl) (by exact (pe_make T.mkc (ok_Line_init T) (hr.mono (by decide)) rfl T.gL T.m_init.b .nil passL (pa_cons (pe_fld (pv 0) rfl) pa_nil))))
    (pss_cons (ps_fld (pv 1) (pe_lc (own := [("sent", 2)]) (g := gName 2) (by rfl) sc_Line_copy.nd (kpil K (pe_fld (pv 0) rfl)) (blkOk_by (own := [("sent", 2)]) (N := ["self", "line", "sent", "come"]) (sc := defScope s_Line_copy) (by decide +kernel)) (fun _ _ _ _ _ => (pg_name (i := 2) sc_Line_copy.nd rfl (Or.inl rfl))) (fun _ _ _ _ _ => pts_nil) (fun _ _ _ _ _ => (pe_callTy (klist K) (by rfl) T.z_list (by decide +kernel) (pa_cons (pv 2) pa_nil)))) rfl)
    (pss_cons (ps_fld (pv 1) (pe_lc (own := [("come", 3)]) (g := gName 3) (by rfl) sc_Line_copy.nd (kpil K (pe_fld (pv 0) rfl)) (blkOk_by (own := [("come", 3)]) (N := ["self", "line", "sent", "come"]) (sc := defScope s_Line_copy) (by decide +kernel)) (fun _ _ _ _ _ => (pg_name (i := 3) sc_Line_copy.nd rfl (Or.inl rfl))) (fun _ _ _ _ _ => pts_nil) (fun _ _ _ _ _ => (pe_callTy (klist K) (by rfl) T.z_list (by decide +kernel) (pa_cons (pv 3) pa_nil)))) rfl)
    (pss_one (ps_ret (pv 1)))))), ?_⟩
  refine ⟨_, rfl, A.p, T.C, A.dx, _, _, rfl, l.obj, T.cl, T.n_spec, rfl, ?_⟩
  intro x dx hx hdx nxd
  refine ⟨x, A.sp, dx, L.kd, rfl, upd_same, ?_, l.ok, fun B H' bp bdx bsp lB nd fr k => ⟨rfl, ?_⟩⟩
  · exact (Ex.new (by rw [upd_ne nxd.symm]; exact hx)) _ _ ((Ex.new hdx) _ _ l.sp)
  subst bp
  have e1 : Ex H H' := fun a o h => k a o (ne_of_none h hx) (by rw [upd_ne (ne_of_none h hx), upd_ne (ne_of_none h hdx)]; exact h)
  have l1 := l.ex e1
  have hxo := lB.obj
  refine ⟨_, rfl, A.p, T.C, A.dx, _, _, rfl, l1.obj, T.cl, T.n_sent, rfl, A.sb, rfl, ⟨_, SqL.of l1.sb⟩, fun D hD => cp_two (SqL.of l1.sb) l1.a0 l1.a1 (hz 0 (by unfold Side; omega)).1 (hz 1 (by unfold Side; omega)).1 (by show 2 < 4; decide) hD fun c0 c1 H2 x2 f0 f1 n01 r0 r1 rD => ?_⟩
  rw [bsp] at hxo
  refine ⟨_, rfl, _, _, _, _, rfl, x2 _ _ hxo, T.cl, T.n_sent, (by show 3 < 1000; decide), ?_⟩
  have s1 : Ex H (upd H2 B.p (.ins T.C B.dx (putF "_sent_by" (.ref D) [("spec", .ref A.sp), ("_sent_by", .ref B.sb), ("_came_to", .ref B.cb)]))) := (e1.trans x2).mut hx
  have g5p : upd H2 B.p (.ins T.C B.dx (putF "_sent_by" (.ref D) [("spec", .ref A.sp), ("_sent_by", .ref B.sb), ("_came_to", .ref B.cb)])) B.p = some (.ins T.C B.dx [("spec", .ref A.sp), ("_sent_by", .ref D), ("_came_to", .ref B.cb)]) := by rw [upd_same]; rfl
  have k5 : But B.p H2 (upd H2 B.p (.ins T.C B.dx (putF "_sent_by" (.ref D) [("spec", .ref A.sp), ("_sent_by", .ref B.sb), ("_came_to", .ref B.cb)]))) := But.upd
  generalize upd H2 B.p (.ins T.C B.dx (putF "_sent_by" (.ref D) [("spec", .ref A.sp), ("_sent_by", .ref B.sb), ("_came_to", .ref B.cb)])) = G5 at s1 g5p k5 ⊢
  have l5 := l.ex s1
  have pc0 : c0 ≠ B.p := (ne_of_none hxo f0).symm
  have pc1 : c1 ≠ B.p := (ne_of_none hxo f1).symm
  have pD : D ≠ B.p := (ne_of_none hxo hD).symm
  refine ⟨_, rfl, A.p, T.C, A.dx, _, _, rfl, l5.obj, T.cl, T.n_came, rfl, A.cb, rfl, ⟨_, SqL.of l5.cb⟩, fun D2 hD2 => cp_two (SqL.of l5.cb) l5.d0 l5.d1 (hz 0 (by unfold Side; omega)).2 (hz 1 (by unfold Side; omega)).2 (by show 3 < 4; decide) hD2 fun c2 c3 H3 x3 f2 f3 n23 r2 r3 rD2 => ?_⟩
  refine ⟨_, rfl, _, _, _, _, rfl, x3 _ _ g5p, T.cl, T.n_came, (by show 3 < 1000; decide), ?_⟩
  have k9 : But B.p H3 (upd H3 B.p (.ins T.C B.dx (putF "_came_to" (.ref D2) [("spec", .ref A.sp), ("_sent_by", .ref D), ("_came_to", .ref B.cb)]))) := But.upd
  have k59 := But.trans (But.of x3) k9
  have s9 : Ex H (upd H3 B.p (.ins T.C B.dx (putF "_came_to" (.ref D2) [("spec", .ref A.sp), ("_sent_by", .ref D), ("_came_to", .ref B.cb)]))) := (s1.trans x3).mut hx
  have pc2 : c2 ≠ B.p := (ne_of_none g5p f2).symm
  have pc3 : c3 ≠ B.p := (ne_of_none g5p f3).symm
  have pD2 : D2 ≠ B.p := (ne_of_none g5p hD2).symm
  refine ⟨_, rfl, q ⟨B.p, B.dx, A.sp, D, D2, c0, c1, c2, c3⟩ _ ⟨by rw [upd_same]; rfl, s9 _ _ l.sp, (k5.trans k59) _ _ pD rD, k9 _ _ pD2 rD2, (k5.trans k59) _ _ pc0 r0, (k5.trans k59) _ _ pc1 r1, k9 _ _ pc2 r2, k9 _ _ pc3 r3, l.ok⟩ ?_ ?_ s9⟩
  · have z : ∀ {x y : Addr} {o : HO}, H2 x = some o → x ≠ B.p → G5 y = none → x ≠ y := fun h hx hy => ne_of_none (k5 _ _ hx h) hy
    simp only [List.nodup_cons, List.mem_cons, List.not_mem_nil, or_false, not_or, not_false_eq_true, List.nodup_nil, and_true]
    exact ⟨⟨n01, z r0 pc0 f2, z r0 pc0 f3⟩, ⟨z r1 pc1 f2, z r1 pc1 f3⟩, n23⟩
  · intro a ha
    simp only [List.mem_cons, List.not_mem_nil, or_false] at ha
    rcases ha with rfl | rfl | rfl | rfl
    · exact fresh_back e1 f0
    · exact fresh_back e1 f1
    · exact fresh_back s1 f2
    · exact fresh_back s1 f3
end
end L2.U


set_option Elab.async false
set_option linter.all false
set_option maxRecDepth 100000
set_option maxHeartbeats 4000000
namespace L2.U
open PySem PySem.Spec PyProof.Rows Evl
abbrev s_law_did : Stmt := top 21
theorem sc_law_did : FnScope ["line", "named", "deed", "side", "wire", "error"] ["line", "named", "deed", "side", "wire"] (defScope s_law_did) := ⟨rfl, rfl, rfl, by decide +kernel, rfl, by decide +kernel, by decide +kernel⟩
abbrev s_law_due : Stmt := top 22
theorem sc_law_due : FnScope ["model", "deed", "side", "wire", "many", "up", "raised", "here", "mine"] ["model", "deed", "side", "wire"] (defScope s_law_due) := ⟨rfl, rfl, rfl, by decide +kernel, rfl, by decide +kernel, by decide +kernel⟩
abbrev s_law_view : Stmt := top 23
theorem sc_law_view : FnScope ["model", "question", "side", "many", "up", "raised", "wire"] ["model", "question", "side"] (defScope s_law_view) := ⟨rfl, rfl, rfl, by decide +kernel, rfl, by decide +kernel, by decide +kernel⟩
abbrev s_law_told : Stmt := top 24
theorem sc_law_told : FnScope ["line", "named", "question", "side"] ["line", "named", "question", "side"] (defScope s_law_told) := ⟨rfl, rfl, rfl, by decide +kernel, rfl, by decide +kernel, by decide +kernel⟩
abbrev s_law_asked : Stmt := top 25
theorem sc_law_asked : FnScope ["line", "model", "named", "begin", "turn", "question", "side", "due", "told"] ["line", "model", "named", "begin"] (defScope s_law_asked) := ⟨rfl, rfl, rfl, by decide +kernel, rfl, by decide +kernel, by decide +kernel⟩
abbrev s_law_drawn : Stmt := top 26
theorem sc_law_drawn : FnScope ["box", "model", "way", "side", "many", "waits", "here", "wire"] ["box", "model"] (defScope s_law_drawn) := ⟨rfl, rfl, rfl, by decide +kernel, rfl, by decide +kernel, by decide +kernel⟩
abbrev s_law_again : Stmt := top 27
theorem sc_law_again : FnScope ["model", "ups", "up", "wire", "wires"] ["model"] (defScope s_law_again) := ⟨rfl, rfl, rfl, by decide +kernel, rfl, by decide +kernel, by decide +kernel⟩
abbrev s_law_made : Stmt := top 28
theorem sc_law_made : FnScope ["box", "many", "line"] ["box"] (defScope s_law_made) := ⟨rfl, rfl, rfl, by decide +kernel, rfl, by decide +kernel, by decide +kernel⟩
abbrev s_law : Stmt := top 29
theorem sc_law : FnScope ["script", "k", "box", "named", "pairs", "turn", "line", "model", "deed", "side", "wire", "due"] ["script"] (defScope s_law) := ⟨rfl, rfl, rfl, by decide +kernel, rfl, by decide +kernel, by decide +kernel⟩
def kmw1 {α : Type} : List α → List α → List α
  | [x], [a] => [x, a]
  | _, _ => []
def kmw21 {α : Type} : List α → List α → List α
  | [x], [a, b] => [x, b, a]
  | _, _ => []
theorem kmw1_rel {vs : List V} {us : List Value} {zs : List V} {ws : List Value} (r : Vals vs us) (t : Vals zs ws) : Vals (kmw1 vs zs) (kmw1 us ws) := by
  cases r with
  | nil => exact .nil
  | cons x r => cases r with
    | cons _ _ => exact .nil
    | nil => cases t with
      | nil => exact .nil
      | cons a t => cases t with
        | nil => exact .cons x (.cons a .nil)
        | cons _ _ => exact .nil
theorem kmw21_rel {vs : List V} {us : List Value} {zs : List V} {ws : List Value} (r : Vals vs us) (t : Vals zs ws) : Vals (kmw21 vs zs) (kmw21 us ws) := by
  cases r with
  | nil => exact .nil
  | cons x r => cases r with
    | cons _ _ => exact .nil
    | nil => cases t with
      | nil => exact .nil
      | cons a t => cases t with
        | nil => exact .nil
        | cons b t => cases t with
          | nil => exact .cons x (.cons b (.cons a .nil))
          | cons _ _ => exact .nil
theorem kbm1 {K : PySem.W.Frag} {x qual : Str} {st : Stmt} {f : Addr} {fd : FuncData} {o p k : Str} (F : Fun K x qual st f fd)
    (h : ∀ (kV doc pm : Value) (an : Option Addr) (cdv ct : Value) (z u : Value), bindArgs (PySem.W.fnOf x qual (defArgs st) (defBody st) (defScope st) .none kV doc pm an cdv ct) ⟨[z], [(k, u)]⟩ = pure [(o, z), (p, u)]) : KBinds K fd [o, p] [k] kmw1 kmw1 := by
  obtain ⟨oc, od, kV, doc, pm, an, cdv, ct, osl, rfl, lk, hcd⟩ := F.ex
  refine ⟨fun s us ws _ hl => ?_, kmw1_rel⟩
  match us, ws, hl with
  | [z], [u], _ => exact .of_eq (h kV doc pm an cdv ct z u)
theorem kbm21 {K : PySem.W.Frag} {x qual : Str} {st : Stmt} {f : Addr} {fd : FuncData} {o p q k l : Str} (F : Fun K x qual st f fd)
    (h : ∀ (kV doc pm : Value) (an : Option Addr) (cdv ct : Value) (z u w : Value), bindArgs (PySem.W.fnOf x qual (defArgs st) (defBody st) (defScope st) .none kV doc pm an cdv ct) ⟨[z], [(k, u), (l, w)]⟩ = pure [(o, z), (p, w), (q, u)]) : KBinds K fd [o, p, q] [k, l] kmw21 kmw21 := by
  obtain ⟨oc, od, kV, doc, pm, an, cdv, ct, osl, rfl, lk, hcd⟩ := F.ex
  refine ⟨fun s us ws _ hl => ?_, kmw21_rel⟩
  match us, ws, hl with
  | [z], [u, w], _ => exact .of_eq (h kV doc pm an cdv ct z u w)
theorem kbn1 {K : PySem.W.Frag} {x qual : Str} {st : Stmt} {f : Addr} {fd : FuncData} {o p k : Str} (F : Fun K x qual st f fd)
    (h : ∀ (kV doc pm : Value) (an : Option Addr) (cdv ct : Value) (z u : Value), bindArgs (PySem.W.fnOf x qual (defArgs st) (defBody st) (defScope st) .none kV doc pm an cdv ct) ⟨[z], [(k, u)]⟩ = pure [(o, z), (p, u)]) : KBn K fd [o, p] 1 [k] kmw1 kmw1 := by
  obtain ⟨oc, od, kV, doc, pm, an, cdv, ct, osl, rfl, lk, hcd⟩ := F.ex
  refine ⟨fun s us ws _ hl hm => ?_, kmw1_rel⟩
  match us, ws, hl, hm with
  | [z], [u], _, _ => exact .of_eq (h kV doc pm an cdv ct z u)
structure TK (K : PySem.W.Frag) (mg : Str → Option Value) extends TL K mg where
  law_did : DefAt K mg "_law_did" s_law_did ["line", "named", "deed", "side", "wire"]
  law_due : DefAt K mg "_law_due" s_law_due ["model", "deed", "side", "wire"]
  law_view : DefAt K mg "_law_view" s_law_view ["model", "question", "side"]
  law_told : DefAt K mg "_law_told" s_law_told ["line", "named", "question", "side"]
  law_asked : DefAt K mg "_law_asked" s_law_asked ["line", "model", "named", "begin"]
  law_drawn : DefAt K mg "_law_drawn" s_law_drawn ["box", "model"]
  law_again : DefAt K mg "_law_again" s_law_again ["model"]
  law_made : DefAt K mg "_law_made" s_law_made ["box"]
  law : DefAt K mg "law" s_law ["script"]
  TalkError_C : Addr
  TalkError_gC : mg "TalkError" = some (.ref TalkError_C)
  eSS : PySem.W.exmOne K (.ref InvalidSide.C) (.ref InvalidSide.C) = some true
  eKS : PySem.W.exmOne K (.ref InvalidKind.C) (.ref InvalidSide.C) = some false
  eKK : PySem.W.exmOne K (.ref InvalidKind.C) (.ref InvalidKind.C) = some true
  eNS : PySem.W.exmOne K (.ref NotSent.C) (.ref InvalidSide.C) = some false
  eNK : PySem.W.exmOne K (.ref NotSent.C) (.ref InvalidKind.C) = some false
  eNN : PySem.W.exmOne K (.ref NotSent.C) (.ref NotSent.C) = some true
  z_dict : mg "dict" = none
  z_max : mg "max" = none
  z_min : mg "min" = none
  kb_send_kind_side : KBinds K m_send.fd ["self", "side", "kind"] ["kind", "side"] kmw21 kmw21
  kb_come_kind_side : KBinds K m_come.fd ["self", "side", "kind"] ["kind", "side"] kmw21 kmw21
  kb_sent_side : KBinds K m_sent.fd ["self", "side"] ["side"] kmw1 kmw1
  kb_come_to_side : KBinds K m_come_to.fd ["self", "side"] ["side"] kmw1 kmw1
  kb_under_way_side : KBinds K m_under_way.fd ["self", "side"] ["side"] kmw1 kmw1
  kb_unsent_side : KBinds K m_unsent.fd ["self", "side"] ["side"] kmw1 kmw1
  kb_kinds_side : KBinds K m_kinds.fd ["self", "side"] ["side"] kmw1 kmw1
  kb_init_spec : KBn K m_init.fd ["self", "spec"] 1 ["spec"] kmw1 kmw1

section
variable {P : Program} {w : World} {K : PySem.W.Frag} {mg : Str → Option Value} {base : Heap}
/-! ### a send or a coming -/
def Sender (deed s : Int) : Int := if deed = 0 then s else 1 - s
def canD (L : LS) (deed s k : Int) : Bool := if deed = 0 then canS L s k else canC L s k
inductive DidEx (L : LS) (deed s k : Int) : List V → Prop
  | side (h : ¬ Side s) : DidEx L deed s k [.str "side", .int s]
  | kind (h : Side s) (h2 : ¬ Kin L (Sender deed s) k) : DidEx L deed s k [.str "kind", .int k]
  | not (h : Side s) (h2 : Kin L (Sender deed s) k) (h3 : deed ≠ 0) (h4 : k ∉ L.s (1 - s)) : DidEx L deed s k [.str "not sent", .int k]
  | no (h : Side s) (h2 : Kin L (Sender deed s) k) (h3 : deed ≠ 0 → k ∈ L.s (1 - s)) (h4 : canD L deed s k = false) : DidEx L deed s k [.str "done", .bl false]
structure DidMut (L : LS) (deed s k : Int) : Prop where
  side : Side s
  kin : Kin L (Sender deed s) k
  sent : deed ≠ 0 → k ∈ L.s (1 - s)
  can : canD L deed s k = true
def Ln.cell (A : Ln) (deed s : Int) : Addr := if deed = 0 then A.a s else A.d s
def LS.cell (L : LS) (deed s : Int) : List Int := if deed = 0 then L.s s else L.c s
def spDid (C : Addr) : Sp := fun vs H Q _ => ∃ (A : Ln) (L : LS) (n deed s k : Int), vs = [.ref A.p, .int n, .int deed, .int s, .int k] ∧ LineAt C A L H ∧ (L.cell deed s).length ≤ 900 ∧
  (∀ out t H', DidEx L deed s k out → Ex H H' → H t = none → H' t = some (.tup out) → Q (.ref t) H') ∧
  (∀ t H', DidMut L deed s k → But (A.cell deed s) H H' → H' (A.cell deed s) = some (.lst ((L.cell deed s ++ [k]).map V.int)) → t ≠ A.cell deed s → H t = none → H' t = some (.tup [.str "done", .bl true]) → Q (.ref t) H')
theorem two_le : 2 ≤ sizeLine := by decide
theorem ok_law_did (T : TK K mg) : FnOk P w K mg base CX0 7 T.law_did.a T.law_did.fd ["line", "named", "deed", "side", "wire"] (spDid T.C) := by
  refine T.law_did.F.ok sc_law_did (fun vs H Q E h => ?_) (fun cdv A outer s H vs Q E hr h => ?_)
  · obtain ⟨A, L, n, deed, s, k, rfl, _⟩ := h; rfl
  obtain ⟨A, L, n, deed, s, k, rfl, l, hz, q1, q2⟩ := h
  refine ⟨_, (pss_one (ps_tryC rfl rfl takes0 (fun W pn xe tk _ => (pss_cons (ps_if (pt_cmpR op_eq (pv 2) pe_int (nomark _)) (pss_one (ps_ret (pe_tup (pa_cons pe_str (pa_cons (pe_ifExp (pt_cmpR op_eq (pv 1) pe_int (nomark _)) (by exact (pe_mX (pv 0) T.cl T.m_send.M (ok_Line_send T.toTL) (hr.mono (by decide)) T.m_send.b (fun σ => passAt tk σ) (pa_cons (pv 3) (pa_cons (pv 4) pa_nil)))) (by exact (pe_mKw (pv 0) T.cl T.m_send.M (ok_Line_send T.toTL) (hr.mono (by decide)) T.kb_send_kind_side (fun σ => passAt tk σ) (pk_cons (pv 4) (pk_cons (pv 3) pk_nil))))) pa_nil))))) pss_nil)
    (pss_one (ps_ret (pe_tup (pa_cons pe_str (pa_cons (pe_ifExp (pt_cmpR op_eq (pv 1) pe_int (nomark _)) (by exact (pe_mX (pv 0) T.cl T.m_come.M (ok_Line_come T.toTL) (hr.mono (by decide)) T.m_come.b (fun σ => passAt tk σ) (pa_cons (pv 3) (pa_cons (pv 4) pa_nil)))) (by exact (pe_mKw (pv 0) T.cl T.m_come.M (ok_Line_come T.toTL) (hr.mono (by decide)) T.kb_come_kind_side (fun σ => passAt tk σ) (pk_cons (pv 4) (pk_cons (pv 3) pk_nil))))) pa_nil))))))) (ClausesOk.cons (ClauseOk.named (i := 5) sc_law_did.nd rfl rfl ⟨rfl, by decide, Or.inl T.InvalidSide.gC⟩ (fun a oe cls d pn hz hf => (pss_one (ps_ret (pe_tup (pa_cons pe_str (pa_cons (pe_xf T.InvalidSide.xf T.InvalidSide.nf hz hf (pv 5)) pa_nil)))))))
     (ClausesOk.cons (ClauseOk.named (i := 5) sc_law_did.nd rfl rfl ⟨rfl, by decide, Or.inl T.InvalidKind.gC⟩ (fun a oe cls d pn hz hf => (pss_one (ps_ret (pe_tup (pa_cons pe_str (pa_cons (pe_xf T.InvalidKind.xf T.InvalidKind.nf hz hf (pv 5)) pa_nil)))))))
     (ClausesOk.cons (ClauseOk.named (i := 5) sc_law_did.nd rfl rfl ⟨rfl, by decide, Or.inl T.NotSent.gC⟩ (fun a oe cls d pn hz hf => (pss_one (ps_ret (pe_tup (pa_cons pe_str (pa_cons (pe_xf T.NotSent.xf T.NotSent.nf hz hf (pv 5)) pa_nil)))))))
     (ClausesOk.cons (ClauseOk.bare ⟨rfl, by decide, Or.inl T.TalkError_gC⟩ (fun a oe cls d pn hz hf => (pss_one (ps_ret (pe_tup (pa_cons pe_str (pa_cons pe_non pa_nil)))))))
     ClausesOk.nil)))))), ?_⟩
  by_cases c : deed = 0
  · subst c
    refine ⟨_, rfl, rfl, _, rfl, iteT ⟨_, rfl, rfl, _, rfl, ite2 (fun _ => ?_) (fun _ => ?_)⟩⟩
    all_goals
      refine ⟨_, rfl, A.p, A.dx, _, rfl, l.obj, rfl, _, rfl, _, rfl, A, L, s, k, rfl, l, hz, ?_, ?_, ?_, ?_⟩
      · exact fun no d H1 e1 hd => ⟨true, T.eSS, fun _ x hx => ⟨_, rfl, rfl, rfl, d, _, _, rfl, hd, rfl, two_le, fun t ht => q1 _ t _ (.side no) (e1.trans (Ex.new ht)) (fresh_back e1 ht) upd_same⟩, fun z => nomatch z⟩
      · exact fun ok no d H1 e1 hd => ⟨false, T.eKS, (fun z => nomatch z), fun _ => ⟨true, T.eKK, fun _ x hx => ⟨_, rfl, rfl, rfl, d, _, _, rfl, hd, rfl, two_le, fun t ht => q1 _ t _ (.kind ok no) (e1.trans (Ex.new ht)) (fresh_back e1 ht) upd_same⟩, fun z => nomatch z⟩⟩
      · exact fun ok kin no H1 e1 => ⟨two_le, fun t ht => q1 _ t _ (.no ok kin (fun z => absurd rfl z) no) (e1.trans (Ex.new ht)) (fresh_back e1 ht) upd_same⟩
      · exact fun ok kin can H1 b1 hc => ⟨two_le, fun t ht => q2 t _ ⟨ok, kin, (fun z => absurd rfl z), can⟩ (b1.ex (Ex.new ht)) ((Ex.new ht) _ _ hc) (ne_of_none hc ht).symm (b1.none (l.a s) ht (ne_of_none hc ht).symm) upd_same⟩
  · have sn : Sender deed s = 1 - s := if_neg c
    have cn : canD L deed s k = canC L s k := if_neg c
    have cl : L.cell deed s = L.c s := if_neg c
    have ca : A.cell deed s = A.d s := if_neg c
    rw [cl] at hz q2
    rw [ca] at q2
    refine ⟨_, rfl, rfl, _, rfl, ?_⟩
    rw [show decide (V.int deed = V.int 0) = false from decide_eq_false fun z => c (V.int.inj z)]
    refine iteF ⟨_, rfl, rfl, _, rfl, ite2 (fun _ => ?_) (fun _ => ?_)⟩
    all_goals
      refine ⟨_, rfl, A.p, A.dx, _, rfl, l.obj, rfl, _, rfl, _, rfl, A, L, s, k, rfl, l, hz, ?_, ?_, ?_, ?_, ?_⟩
      · exact fun no d H1 e1 hd => ⟨true, T.eSS, fun _ x hx => ⟨_, rfl, rfl, rfl, d, _, _, rfl, hd, rfl, two_le, fun t ht => q1 _ t _ (.side no) (e1.trans (Ex.new ht)) (fresh_back e1 ht) upd_same⟩, fun z => nomatch z⟩
      · exact fun ok no d H1 e1 hd => ⟨false, T.eKS, (fun z => nomatch z), fun _ => ⟨true, T.eKK, fun _ x hx => ⟨_, rfl, rfl, rfl, d, _, _, rfl, hd, rfl, two_le, fun t ht => q1 _ t _ (.kind ok (by rw [sn]; exact no)) (e1.trans (Ex.new ht)) (fresh_back e1 ht) upd_same⟩, fun z => nomatch z⟩⟩
      · exact fun ok kin no d H1 e1 hd => ⟨false, T.eNS, (fun z => nomatch z), fun _ => ⟨false, T.eNK, (fun z => nomatch z), fun _ => ⟨true, T.eNN, fun _ x hx => ⟨_, rfl, rfl, rfl, d, _, _, rfl, hd, rfl, two_le, fun t ht => q1 _ t _ (.not ok (by rw [sn]; exact kin) c no) (e1.trans (Ex.new ht)) (fresh_back e1 ht) upd_same⟩, fun z => nomatch z⟩⟩⟩
      · exact fun ok kin m no H1 e1 => ⟨two_le, fun t ht => q1 _ t _ (.no ok (by rw [sn]; exact kin) (fun _ => m) (cn.trans no)) (e1.trans (Ex.new ht)) (fresh_back e1 ht) upd_same⟩
      · exact fun ok kin m can H1 b1 hc => ⟨two_le, fun t ht => q2 t _ ⟨ok, by rw [sn]; exact kin, fun _ => m, cn.trans can⟩ (b1.ex (Ex.new ht)) ((Ex.new ht) _ _ hc) (ne_of_none hc ht).symm (b1.none (l.d s) ht (ne_of_none hc ht).symm) upd_same⟩
end
end L2.U


set_option Elab.async false
set_option linter.all false
set_option maxRecDepth 100000
set_option maxHeartbeats 4000000
namespace L2.U
open PySem PySem.Spec PyProof.Rows Evl
section
variable {P : Program} {w : World} {K : PySem.W.Frag} {mg : Str → Option Value} {base : Heap}
/-! ### the law's own model of wires -/
structure Md where
  mp : Addr
  us : Addr
  rs : Addr
  t0 : Addr
  t1 : Addr
  u0 : Addr
  u1 : Addr
def Md.t (M : Md) (s : Int) : Addr := if s = 0 then M.t0 else M.t1
def Md.u (M : Md) (s : Int) : Addr := if s = 0 then M.u0 else M.u1
/-- what a dict of a side holds: its own wires, and those that came -/
structure UpOk (kvs : List (Key × V)) (own came : List Int) : Prop where
  val : ∀ w : Int, valV kvs (.inl w) = if w ∈ own then some (.str "raised") else if w ∈ came then some (.str "came") else none
  dis : ∀ w ∈ own, w ∉ came
  keys : ∃ ks : List Int, kvs.map (·.1) = ks.map Sum.inl ∧ ks.Perm (own ++ came)
structure ModAt (M : Md) (L : LS) (H : Hp) : Prop where
  mp : H M.mp = some (.lst [.int (L.kd.many 0), .ref M.us, .ref M.rs])
  us : H M.us = some (.lst [.ref M.u0, .ref M.u1])
  rs : H M.rs = some (.lst [.ref M.t0, .ref M.t1])
  t0 : H M.t0 = some (.lst (L.s0.map V.int))
  t1 : H M.t1 = some (.lst (L.s1.map V.int))
  u0 : ∃ kvs, H M.u0 = some (.dK kvs) ∧ UpOk kvs L.s0 L.c0
  u1 : ∃ kvs, H M.u1 = some (.dK kvs) ∧ UpOk kvs L.s1 L.c1
  lets : ∃ m, L.kd = .wir m
  ok : L.kd.Ok
theorem ModAt.ex {M : Md} {L : LS} {H H' : Hp} (l : ModAt M L H) (e : Ex H H') : ModAt M L H' :=
  ⟨e _ _ l.mp, e _ _ l.us, e _ _ l.rs, e _ _ l.t0, e _ _ l.t1, l.u0.imp fun _ h => ⟨e _ _ h.1, h.2⟩, l.u1.imp fun _ h => ⟨e _ _ h.1, h.2⟩, l.lets, l.ok⟩
theorem ModAt.t {M : Md} {L : LS} {H : Hp} (l : ModAt M L H) (s : Int) : H (M.t s) = some (.lst ((L.s s).map V.int)) := by
  unfold Md.t LS.s; split
  · exact l.t0
  · exact l.t1
theorem ModAt.u {M : Md} {L : LS} {H : Hp} (l : ModAt M L H) (s : Int) : ∃ kvs, H (M.u s) = some (.dK kvs) ∧ UpOk kvs (L.s s) (L.c s) := by
  unfold Md.u LS.c LS.s; split
  · exact l.u0
  · exact l.u1
theorem ModAt.wires {M : Md} {L : LS} {H : Hp} (l : ModAt M L H) : L.kd.wires = true := by
  obtain ⟨m, h⟩ := l.lets; rw [h]; rfl
theorem ModAt.many {M : Md} {L : LS} {H : Hp} (l : ModAt M L H) (s : Int) : L.kd.many s = L.kd.many 0 := by
  obtain ⟨m, h⟩ := l.lets; rw [h]; rfl
theorem at_t {M : Md} {s : Int} (h : Side s) : atI [V.ref M.t0, V.ref M.t1] s = some (.ref (M.t s)) := by
  rcases (by unfold Side at h; omega : s = 0 ∨ s = 1) with rfl | rfl <;> rfl
theorem at_u {M : Md} {s : Int} (h : Side s) : atI [V.ref M.u0, V.ref M.u1] s = some (.ref (M.u s)) := by
  rcases (by unfold Side at h; omega : s = 0 ∨ s = 1) with rfl | rfl <;> rfl
theorem UpOk.some_iff {kvs : List (Key × V)} {own came : List Int} (h : UpOk kvs own came) (w : Int) : (valV kvs (.inl w)).isSome = (decide (w ∈ own) || decide (w ∈ came)) := by
  rw [h.val]
  by_cases c : w ∈ own
  · simp [c]
  · by_cases d : w ∈ came <;> simp [c, d]
theorem canS_w {L : LS} {s k : Int} (h : L.kd.wires = true) : canS L s k = !(decide (k ∈ L.s s) || decide (k ∈ L.c s)) := by
  unfold canS; rw [h]
  by_cases c : k ∈ L.s s <;> by_cases d : k ∈ L.c s <;> simp [c, d]
theorem canC_w {L : LS} {s k : Int} (h : L.kd.wires = true) : canC L s k = !(decide (k ∈ L.s s) || decide (k ∈ L.c s)) := by
  unfold canC; rw [h]
  by_cases c : k ∈ L.s s <;> by_cases d : k ∈ L.c s <;> simp [c, d]
def wordOf (deed : Int) : V := if deed = 0 then .str "raised" else .str "came"
/-- the heap behind a deed that counts: the dict of the side, and, of a raising, the list -/
structure Did (M : Md) (L : LS) (deed s k : Int) (H H' : Hp) : Prop where
  but : ∀ a o, a ≠ M.u s → a ≠ M.t s → H a = some o → H' a = some o
  u : ∃ kvs, H (M.u s) = some (.dK kvs) ∧ UpOk kvs (L.s s) (L.c s) ∧ H' (M.u s) = some (.dK (kvs ++ [(.inl k, wordOf deed)]))
  t : H' (M.t s) = some (.lst ((if deed = 0 then L.s s ++ [k] else L.s s).map V.int))
def spDue : Sp := fun vs H Q _ => ∃ (M : Md) (L : LS) (deed s k : Int), vs = [.ref M.mp, .int deed, .int s, .int k] ∧ ModAt M L H ∧ Side s ∧ (deed = 0 ∨ deed = 1) ∧ (L.s s).length ≤ 400 ∧ (L.c s).length ≤ 400 ∧
  (∀ out t H', DidEx L deed s k out → Ex H H' → H t = none → H' t = some (.tup out) → Q (.ref t) H') ∧
  (∀ t H', DidMut L deed s k → Did M L deed s k H H' → t ≠ M.u s → t ≠ M.t s → H t = none → H' t = some (.tup [.str "done", .bl true]) → Q (.ref t) H')
theorem putK_end {kvs : List (Key × V)} {k : Key} {v : V} (h : valV kvs k = none) : putK kvs k v = kvs ++ [(k, v)] := by
  unfold putK
  have : (kvs.any fun kv => decide (kv.1 = k)) = false := by
    unfold valV at h
    cases e : kvs.find? (fun kv => decide (kv.1 = k)) with
    | some x => rw [e] at h; cases h
    | none =>
      rw [List.find?_eq_none] at e
      rw [List.any_eq_false]
      exact e
  rw [this]
  rfl
theorem ok_law_due (T : TK K mg) : FnOk P w K mg base CX0 1 T.law_due.a T.law_due.fd ["model", "deed", "side", "wire"] spDue := by
  refine T.law_due.F.ok sc_law_due (fun vs H Q E h => ?_) (fun cdv A outer s H vs Q E hr h => ?_)
  · obtain ⟨M, L, deed, s, k, rfl, _⟩ := h; rfl
  obtain ⟨M, L, deed, s, k, rfl, l, ok, hd, hz, hzc, q1, q2⟩ := h
  refine ⟨_, (pss_cons (ps_asg (pv 0) (pg_lst (by rfl) (pgs_cons (pg_name (i := 4) sc_law_due.nd rfl (Or.inl rfl)) (pgs_cons (pg_name (i := 5) sc_law_due.nd rfl (Or.inl rfl)) (pgs_cons (pg_name (i := 6) sc_law_due.nd rfl (Or.inl rfl)) pgs_nil)))))
    (pss_cons (ps_if (PW.pt (pw_or (pt_cmpR op_lt (pv 3) pe_int (nomark _)) (pw_or1 (pt_cmpR op_gt (pv 3) (pv 4) (nomark _))))) (pss_one (ps_ret (pe_tup (pa_cons pe_str (pa_cons (pv 3) pa_nil))))) pss_nil)
    (pss_cons (ps_if (PW.pt (pw_and (pt_cmpR op_eq (pv 1) pe_int (nomark _)) (pw_and1 (pt_cmpR (knotin K) (pv 3) (pe_ix (kixl K) (pv 6) (pe_op op_sub pe_int (pv 2)) (fun _ _ => rfl)) (by rfl))))) (pss_one (ps_ret (pe_tup (pa_cons pe_str (pa_cons (pv 3) pa_nil))))) pss_nil)
    (pss_cons (ps_set (i := 7) sc_law_due.nd rfl (Or.inl rfl) (pe_ix (kixl K) (pv 5) (pv 2) (fun _ _ => rfl)))
    (pss_cons (ps_if (pt_cmp (pc_din (hu_of hr) (pv 3) (pv 7))) (pss_one (ps_ret (pe_tup (pa_cons pe_str (pa_cons pe_bl pa_nil))))) pss_nil)
    (pss_cons (ps_dput (hu_of hr) (pv 7) (pv 3) (pe_ix (kixl K) (pe_lst (pa_cons pe_str (pa_cons pe_str pa_nil))) (pv 1) (fun _ _ => rfl)) rfl)
    (pss_cons (ps_if (pt_cmpR op_eq (pv 1) pe_int (nomark _)) (pss_cons (ps_set (i := 8) sc_law_due.nd rfl (Or.inl rfl) (pe_ix (kixl K) (pv 6) (pv 2) (fun _ _ => rfl)))
    (pss_one (ps_expr (pe_bm PySem.F.plainAttrs_list PySem.F.slot_list_append PySem.F.type_list_append mt_append (pv 8) (pa_cons (pv 3) pa_nil))))) pss_nil)
    (pss_one (ps_ret (pe_tup (pa_cons pe_str (pa_cons pe_bl pa_nil)))))))))))), ?_⟩
  have wr := l.wires
  refine ⟨_, rfl, M.mp, _, rfl, SqL.of l.mp, rfl, _, _, rfl, _, _, rfl, _, _, rfl, rfl, ?_⟩
  refine ⟨_, rfl, _, _, rfl, rfl, _, rfl, ?_⟩
  by_cases c1 : k < 1
  · rw [decide_eq_true c1]
    exact iteT (iteT ⟨_, rfl, two_le, fun t ht => q1 _ t _ (.kind ok (fun z => by have := z.1; omega)) (Ex.new ht) ht upd_same⟩)
  rw [decide_eq_false c1]
  refine iteF ⟨_, rfl, _, rfl, _, _, rfl, rfl, _, rfl, ?_⟩
  by_cases c2 : L.kd.many 0 < k
  · rw [decide_eq_true c2]
    exact iteT ⟨_, rfl, two_le, fun t ht => q1 _ t _ (.kind ok (fun z => by have := z.2; rw [l.many] at this; omega)) (Ex.new ht) ht upd_same⟩
  rw [decide_eq_false c2]
  have kin : Kin L (Sender deed s) k := ⟨by omega, by rw [l.many]; omega⟩
  refine iteF ?_
  obtain ⟨kvs, hu, up⟩ := l.u s
  have klen : kvs.length ≤ 800 := by
    obtain ⟨ks, e, pm⟩ := up.keys
    have h1 := pm.length_eq
    have h2 : kvs.length = ks.length := by rw [← List.length_map (f := (·.1)) (as := kvs), e, List.length_map]
    rw [List.length_append] at h1
    omega
  have nRu : M.rs ≠ M.u s := ne_of l.rs hu (by intro z; cases z)
  have nTu : M.t s ≠ M.u s := ne_of (l.t s) hu (by intro z; cases z)
  rcases hd with rfl | rfl
  · refine ⟨_, rfl, rfl, _, rfl, iteF (iteF ?_)⟩
    refine ⟨_, rfl, _, rfl, _, _, _, _, rfl, rfl, SqL.of l.us, at_u ok, ?_⟩
    refine ⟨_, rfl, _, rfl, M.u s, _, rfl, DGet.k (k := .inl k) hu, _, rfl, ?_⟩
    rw [up.some_iff k]
    cases hb : (decide (k ∈ L.s s) || decide (k ∈ L.c s)) with
    | true =>
      exact iteT ⟨two_le, fun t ht => q1 _ t _ (.no ok kin (fun z => absurd rfl z) (by show canS L s k = false; rw [canS_w wr, hb]; rfl)) (Ex.new ht) ht upd_same⟩
    | false =>
      have hv : valV kvs (.inl k) = none := by
        have := up.some_iff k
        rw [hb] at this
        cases e : valV kvs (.inl k) with
        | none => rfl
        | some _ => rw [e] at this; cases this
      refine iteF ⟨two_le, fun e he => ?_⟩
      have x1 : Ex H (upd H e (.lst [.str "raised", .str "came"])) := Ex.new he
      refine ⟨_, rfl, _, _, _, _, rfl, rfl, SqL.of upd_same, rfl, _, rfl, _, rfl, M.u s, _, rfl, .inl ⟨kvs, .inl k, x1 _ _ hu, rfl, small1000 (by omega), rfl⟩, ?_⟩
      rw [putK_end hv]
      have k2 : But (M.u s) (upd H e (.lst [.str "raised", .str "came"])) (upd (upd H e (.lst [.str "raised", .str "came"])) (M.u s) (.dK (kvs ++ [(.inl k, .str "raised")]))) := But.upd
      refine ⟨_, rfl, rfl, _, rfl, iteT ⟨_, rfl, _, rfl, _, _, _, _, rfl, rfl, SqL.of (k2 _ _ nRu (x1 _ _ l.rs)), at_t ok, ?_⟩⟩
      have tt := k2 _ _ nTu (x1 _ _ (l.t s))
      refine ⟨_, rfl, .inl ⟨rfl, _, SqL.of tt⟩, _, rfl, M.t s, _, _, rfl, rfl, tt, small1000 (by rw [List.length_map]; omega), two_le, fun t ht => ?_⟩
      have k3 : But (M.t s) (upd (upd H e (.lst [.str "raised", .str "came"])) (M.u s) (.dK (kvs ++ [(.inl k, .str "raised")]))) (upd (upd (upd H e (.lst [.str "raised", .str "came"])) (M.u s) (.dK (kvs ++ [(.inl k, .str "raised")]))) (M.t s) (.lst ((L.s s).map V.int ++ [.int k]))) := But.upd
      have x4 := Ex.new (o := .tup [.str "done", .bl true]) ht
      have uu := x4 _ _ (k3 _ _ nTu.symm upd_same)
      have t4 := x4 _ _ (upd_same (H := upd (upd H e (.lst [.str "raised", .str "came"])) (M.u s) (.dK (kvs ++ [(.inl k, .str "raised")]))) (a := M.t s) (o := .lst ((L.s s).map V.int ++ [.int k])))
      have n1 : t ≠ M.u s := (ne_of_none (k3 _ _ nTu.symm upd_same) ht).symm
      have n2 : t ≠ M.t s := (ne_of_none upd_same ht).symm
      have f0 : H t = none := by
        have h1 := k3.none tt ht n2
        have h2 := k2.none (x1 _ _ hu) h1 n1
        exact fresh_back x1 h2
      refine q2 t _ ⟨ok, kin, (fun z => absurd rfl z), (by show canS L s k = true; rw [canS_w wr, hb]; rfl)⟩ ⟨fun a o na nt h => x4 _ _ (k3 _ _ nt (k2 _ _ na (x1 _ _ h))), ⟨kvs, hu, up, uu⟩, ?_⟩ n1 n2 f0 upd_same
      rw [if_pos rfl, List.map_append]
      exact t4
  · refine ⟨_, rfl, rfl, _, rfl, iteT ⟨_, rfl, _, rfl, _, rfl, _, _, rfl, rfl, _, _, _, _, rfl, rfl, SqL.of l.rs, at_t ok.other, _, _, rfl, .inl (SqL.of (l.t (1 - s))), rfl, flat_ints, _, rfl, ?_⟩⟩
    rw [if_pos rfl, inV_ints]
    by_cases m0 : k ∈ L.s (1 - s)
    · rw [decide_eq_true m0]
      refine iteF ?_
      refine ⟨_, rfl, _, rfl, _, _, _, _, rfl, rfl, SqL.of l.us, at_u ok, ?_⟩
      refine ⟨_, rfl, _, rfl, M.u s, _, rfl, DGet.k (k := .inl k) hu, _, rfl, ?_⟩
      rw [up.some_iff k]
      cases hb : (decide (k ∈ L.s s) || decide (k ∈ L.c s)) with
      | true =>
        exact iteT ⟨two_le, fun t ht => q1 _ t _ (.no ok kin (fun _ => m0) (by show canC L s k = false; rw [canC_w wr, hb]; rfl)) (Ex.new ht) ht upd_same⟩
      | false =>
        have hv : valV kvs (.inl k) = none := by
          have := up.some_iff k
          rw [hb] at this
          cases e : valV kvs (.inl k) with
          | none => rfl
          | some _ => rw [e] at this; cases this
        refine iteF ⟨two_le, fun e he => ?_⟩
        have x1 : Ex H (upd H e (.lst [.str "raised", .str "came"])) := Ex.new he
        refine ⟨_, rfl, _, _, _, _, rfl, rfl, SqL.of upd_same, rfl, _, rfl, _, rfl, M.u s, _, rfl, .inl ⟨kvs, .inl k, x1 _ _ hu, rfl, small1000 (by omega), rfl⟩, ?_⟩
        rw [putK_end hv]
        have k2 : But (M.u s) (upd H e (.lst [.str "raised", .str "came"])) (upd (upd H e (.lst [.str "raised", .str "came"])) (M.u s) (.dK (kvs ++ [(.inl k, .str "came")]))) := But.upd
        refine ⟨_, rfl, rfl, _, rfl, iteF ⟨two_le, fun t ht => ?_⟩⟩
        have x4 := Ex.new (o := .tup [.str "done", .bl true]) ht
        have tt := k2 _ _ nTu (x1 _ _ (l.t s))
        have n1 : t ≠ M.u s := (ne_of_none upd_same ht).symm
        have n2 : t ≠ M.t s := (ne_of_none tt ht).symm
        refine q2 t _ ⟨ok, kin, (fun _ => m0), (by show canC L s k = true; rw [canC_w wr, hb]; rfl)⟩ ⟨fun a o na nt h => x4 _ _ (k2 _ _ na (x1 _ _ h)), ⟨kvs, hu, up, x4 _ _ upd_same⟩, ?_⟩ n1 n2 (fresh_back x1 (k2.none (x1 _ _ hu) ht n1)) upd_same
        rw [if_neg (by decide)]
        exact x4 _ _ tt
    · rw [decide_eq_false m0]
      exact iteT ⟨_, rfl, two_le, fun t ht => q1 _ t _ (.not ok kin (by decide) m0) (Ex.new ht) ht upd_same⟩
end
end L2.U


set_option Elab.async false
set_option linter.all false
set_option maxRecDepth 100000
set_option maxHeartbeats 4000000
namespace L2.U
open PySem PySem.Spec PyProof.Rows Evl
section
variable {P : Program} {w : World} {K : PySem.W.Frag} {mg : Str → Option Value} {base : Heap}
def Vl (L : LS) (s q : Int) (ys : List Int) : Prop := (q = 0 ∧ Rise (L.s s) ys) ∨ (q = 1 ∧ Rise (L.c s) ys) ∨ (q = 2 ∧ Rise ((L.s (1 - s)).filter (canC L s)) ys) ∨ (q = 3 ∧ ys = (upTo (L.kd.many s)).filter (canS L s))
inductive Vw (L : LS) (s : Int) (H : Hp) : Int → V → Prop
  | list {q : Int} {p : Addr} {ys : List Int} (v : Vl L s q ys) (hp : H p = some (.lst (ys.map V.int))) : Vw L s H q (.ref p)
  | many : Vw L s H 4 (.int (L.kd.many s))
  | left {p : Addr} (hp : H p = some (.tup [.int (L.kd.many 0 - (diffs (L.s0 ++ L.s1)).length)])) : Vw L s H 5 (.ref p)
theorem Vw.ex {L : LS} {s : Int} {H H' : Hp} {q : Int} {v : V} (h : Vw L s H q v) (e : Ex H H') : Vw L s H' q v := by
  cases h with
  | list v hp => exact .list v (e _ _ hp)
  | many => exact .many
  | left hp => exact .left (e _ _ hp)
structure LSm (L : LS) : Prop where
  s : ∀ s, (L.s s).length < 32
  c : ∀ s, (L.c s).length < 32
  nd : ∀ s, (L.s s ++ L.c s).Nodup
  rng : ∀ k ∈ L.s0 ++ L.s1, 1 ≤ k ∧ k ≤ L.kd.many 0
theorem sub_len : ∀ {xs ys : List Int}, xs.Nodup → (∀ x ∈ xs, x ∈ ys) → xs.length ≤ ys.length
  | [], _, _, _ => Nat.zero_le _
  | x :: r, ys, nd, h => by
    have n1 := List.nodup_cons.mp nd
    have m := h x (by simp)
    have := sub_len (xs := r) (ys := ys.erase x) n1.2 (fun z hz => by
      have hne : z ≠ x := fun e => n1.1 (e ▸ hz)
      exact (List.mem_erase_of_ne hne).mpr (h z (by simp [hz])))
    rw [List.length_erase_of_mem m] at this
    have := List.length_pos_of_mem m
    simp only [List.length_cons]
    omega
theorem upTo_nodup (n : Int) : (upTo n).Nodup := by
  unfold upTo List.Nodup
  rw [List.pairwise_map]
  exact List.Pairwise.imp (fun h e => h (by omega)) List.nodup_range
theorem upTo_mem {n k : Int} : k ∈ upTo n ↔ 1 ≤ k ∧ k ≤ n := by
  unfold upTo
  rw [List.mem_map]
  constructor
  · rintro ⟨i, hi, rfl⟩
    rw [List.mem_range] at hi
    omega
  · rintro ⟨h1, h2⟩
    exact ⟨(k - 1).toNat, by rw [List.mem_range]; omega, by omega⟩
theorem diffs_mem {ns : List Int} {k : Int} : k ∈ diffs ns ↔ k ∈ ns := by
  have h := PyProof.Rows.firstMet_any (fun i => ns.getD i 0) ns.length k
  have e : (List.range ns.length).map (fun i => ns.getD i 0) = ns := by
    apply List.ext_getElem?
    intro i
    rw [List.getElem?_map]
    by_cases c : i < ns.length
    · rw [List.getElem?_range c, List.getElem?_eq_getElem c]
      simp [List.getD_eq_getElem?_getD, List.getElem?_eq_getElem c]
    · rw [List.getElem?_eq_none (by rw [List.length_range]; omega), List.getElem?_eq_none (by omega)]
      rfl
  rw [e] at h
  unfold diffs
  constructor
  · intro m
    have : (PyProof.Rows.firstMet (fun i => ns.getD i 0) ns.length).any (· == k) = true := List.any_eq_true.mpr ⟨k, m, by simp⟩
    rw [h] at this
    obtain ⟨x, hx, e⟩ := List.any_eq_true.mp this
    rw [← eq_of_beq e]; exact hx
  · intro m
    have : ns.any (· == k) = true := List.any_eq_true.mpr ⟨k, m, by simp⟩
    rw [← h] at this
    obtain ⟨x, hx, e⟩ := List.any_eq_true.mp this
    rw [← eq_of_beq e]; exact hx
theorem diffs_nodup (ns : List Int) : (diffs ns).Nodup := by
  unfold diffs
  generalize (fun i => ns.getD i 0) = f
  generalize ns.length = n
  induction n with
  | zero => rw [PyProof.Rows.firstMet_zero]; exact .nil
  | succ n ih =>
    rw [PyProof.Rows.firstMet_succ]
    unfold PyProof.Rows.step_dedup
    split
    · exact ih
    · refine List.nodup_append.mpr ⟨ih, by simp, ?_⟩
      intro a ha b hb
      obtain rfl := List.mem_singleton.mp hb
      rintro rfl
      rename_i hn
      exact hn (List.any_eq_true.mpr ⟨_, ha, by simp⟩)
theorem filt_len {f : Int → Bool} : ∀ (xs : List Int), (xs.filter f).length + (xs.filter (fun z => !f z)).length = xs.length
  | [] => rfl
  | x :: r => by
    have := filt_len (f := f) r
    rw [List.filter_cons, List.filter_cons]
    cases f x <;> simp <;> omega
theorem count_left {n : Int} {xs : List Int} (h : ∀ k ∈ xs, 1 ≤ k ∧ k ≤ n) : ((upTo n).filter (fun z => !decide (z ∈ xs))).length + (diffs xs).length = n.toNat := by
  have a : ((upTo n).filter (fun z => decide (z ∈ xs))).length = (diffs xs).length := by
    refine Nat.le_antisymm (sub_len ((upTo_nodup n).filter _) fun x hx => ?_) (sub_len (diffs_nodup xs) fun x hx => ?_)
    · rw [List.mem_filter] at hx
      exact diffs_mem.mpr (of_decide_eq_true hx.2)
    · have hm := diffs_mem.mp hx
      rw [List.mem_filter]
      exact ⟨upTo_mem.mpr (h x hm), decide_eq_true hm⟩
  have b := filt_len (f := fun z => decide (z ∈ xs)) (upTo n)
  rw [upTo_len] at b
  rw [← a]
  omega
def spView : Sp := fun vs H Q _ => ∃ (M : Md) (L : LS) (q s : Int), vs = [.ref M.mp, .int q, .int s] ∧ ModAt M L H ∧ LSm L ∧ Side s ∧ (0 ≤ q ∧ q ≤ 5) ∧
  ∀ v H', Ex H H' → Vw L s H' q v → (∀ p, v = .ref p → H p = none) → Q v H'
theorem own_filter {own came : List Int} (d : ∀ w ∈ own, w ∉ came) : (own ++ came).filter (fun z => decide (z ∈ own)) = own := by
  rw [List.filter_append, List.filter_eq_self.mpr (fun z h => decide_eq_true h), List.filter_eq_nil_iff.mpr (fun z h e => d z (of_decide_eq_true e) h), List.append_nil]
theorem came_filter {own came : List Int} (d : ∀ w ∈ own, w ∉ came) : (own ++ came).filter (fun z => !decide (z ∈ own)) = came := by
  rw [List.filter_append, List.filter_eq_nil_iff.mpr (fun z h e => by rw [decide_eq_true h] at e; cases e), List.filter_eq_self.mpr (fun z h => by rw [decide_eq_false (fun m => d z m h)]; rfl), List.nil_append]
theorem ok_law_view (T : TK K mg) : FnOk P w K mg base CX0 1 T.law_view.a T.law_view.fd ["model", "question", "side"] spView := by
  refine T.law_view.F.ok sc_law_view (fun vs H Q E h => ?_) (fun cdv A outer s H vs Q E hr h => ?_)
  · obtain ⟨M, L, q, s, rfl, _⟩ := h; rfl
  obtain ⟨M, L, q, s, rfl, l, hz, ok, hq, k⟩ := h
  refine ⟨_, (pss_cons (ps_asg (pv 0) (pg_lst (by rfl) (pgs_cons (pg_name (i := 3) sc_law_view.nd rfl (Or.inl rfl)) (pgs_cons (pg_name (i := 4) sc_law_view.nd rfl (Or.inr rfl)) (pgs_cons (pg_name (i := 5) sc_law_view.nd rfl (Or.inr rfl)) pgs_nil)))))
    (pss_cons (ps_if (pt_cmpR op_lt (pv 1) pe_int (nomark _)) (pss_one (ps_ret (pe_lc (own := [("wire", 6)]) (g := gName 6) (by rfl) sc_law_view.nd (kpil K (pe_callB (call_sortedDI rfl) (by rfl) T.z_sorted (by decide +kernel) (pa_cons (pe_ix (kixl K) (pv 4) (pv 2) (fun _ _ => rfl)) pa_nil))) (blkOk_by (own := [("wire", 6)]) (N := ["model", "question", "side", "many", "up", "raised", "wire"]) (sc := defScope s_law_view) (by decide +kernel)) (fun _ _ _ _ _ => (pg_name (i := 6) sc_law_view.nd rfl (Or.inl rfl))) (fun _ _ _ _ _ => (pts_one (pt_cmpR op_eq (pe_dget (hu_of hr) (pe_ix (kixl K) (pv 4) (pv 2) (fun _ _ => rfl)) (pv 6) (fun _ _ => rfl)) (pe_ix (kixl K) (pe_lst (pa_cons pe_str (pa_cons pe_str pa_nil))) (pv 1) (fun _ _ => rfl)) (nomark _)))) (fun _ _ _ _ _ => (pv 6))))) pss_nil)
    (pss_cons (ps_if (pt_cmpR op_eq (pv 1) pe_int (nomark _)) (pss_one (ps_ret (pe_lc (own := [("wire", 6)]) (g := gName 6) (by rfl) sc_law_view.nd (kpil K (pe_callB cr_sorted (by rfl) T.z_sorted (by decide +kernel) (pa_cons (pe_ix (kixl K) (pv 5) (pe_op op_sub pe_int (pv 2)) (fun _ _ => rfl)) pa_nil))) (blkOk_by (own := [("wire", 6)]) (N := ["model", "question", "side", "many", "up", "raised", "wire"]) (sc := defScope s_law_view) (by decide +kernel)) (fun _ _ _ _ _ => (pg_name (i := 6) sc_law_view.nd rfl (Or.inl rfl))) (fun _ _ _ _ _ => (pts_one (pt_cmp (pc_dnotin (hu_of hr) (pv 6) (pe_ix (kixl K) (pv 4) (pv 2) (fun _ _ => rfl)))))) (fun _ _ _ _ _ => (pv 6))))) pss_nil)
    (pss_cons (ps_if (pt_cmpR op_eq (pv 1) pe_int (nomark _)) (pss_one (ps_ret (pe_lc (own := [("wire", 6)]) (g := gName 6) (by rfl) sc_law_view.nd (pi_range2 rfl T.z_range (pa_cons pe_int (pa_cons (pe_op op_add (pv 3) pe_int) pa_nil))) (blkOk_by (own := [("wire", 6)]) (N := ["model", "question", "side", "many", "up", "raised", "wire"]) (sc := defScope s_law_view) (by decide +kernel)) (fun _ _ _ _ _ => (pg_name (i := 6) sc_law_view.nd rfl (Or.inl rfl))) (fun _ _ _ _ _ => (pts_one (pt_cmp (pc_dnotin (hu_of hr) (pv 6) (pe_ix (kixl K) (pv 4) (pv 2) (fun _ _ => rfl)))))) (fun _ _ _ _ _ => (pv 6))))) pss_nil)
    (pss_one (ps_ret (pe_ifExp (pt_cmpR op_eq (pv 1) pe_int (nomark _)) (pv 3) (pe_tup (pa_cons (pe_callB (klen K) (by rfl) T.z_len (by decide +kernel) (pa_cons (pe_lc (own := [("wire", 6)]) (g := gName 6) (by rfl) sc_law_view.nd (pi_range2 rfl T.z_range (pa_cons pe_int (pa_cons (pe_op op_add (pv 3) pe_int) pa_nil))) (blkOk_by (own := [("wire", 6)]) (N := ["model", "question", "side", "many", "up", "raised", "wire"]) (sc := defScope s_law_view) (by decide +kernel)) (fun _ _ _ _ _ => (pg_name (i := 6) sc_law_view.nd rfl (Or.inl rfl))) (fun _ _ _ _ _ => (pts_one (pt_cmpR (knotin K) (pv 6) (pe_op op_cat (pe_ix (kixl K) (pv 5) pe_int (fun _ _ => rfl)) (pe_ix (kixl K) (pv 5) pe_int (fun _ _ => rfl))) (by rfl)))) (fun _ _ _ _ _ => (pv 6))) pa_nil)) pa_nil))))))))), ?_⟩
  have wr := l.wires
  obtain ⟨kvs, hu, up⟩ := l.u s
  refine ⟨_, rfl, M.mp, _, rfl, SqL.of l.mp, rfl, _, _, rfl, _, _, rfl, _, _, rfl, rfl, ?_⟩
  rcases (by omega : q = 0 ∨ q = 1 ∨ q = 2 ∨ q = 3 ∨ q = 4 ∨ q = 5) with rfl | rfl | rfl | rfl | rfl | rfl
  · refine ⟨_, rfl, _, _, rfl, rfl, _, rfl, iteT ?_⟩
    obtain ⟨ks, hks, pm⟩ := up.keys
    have z1 := hz.s s
    have z2 := hz.c s
    have pl := pm.length_eq
    rw [List.length_append] at pl
    refine ⟨_, rfl, _, rfl, _, _, _, _, rfl, rfl, SqL.of l.us, at_u ok, M.u s, kvs, ks, rfl, .inl hu, hks, by omega, fun ys p h1' h2 h3 => ?_⟩
    have h1 : ys.Perm (L.s s ++ L.c s) := h1'.trans pm
    have e2 : Ex H (upd H p (.lst (ys.map V.int))) := Ex.new h3
    have hy : ys.length < 64 := by rw [h1'.length_eq]; omega
    refine ⟨p, rfl, ⟨_, SqL.of upd_same⟩, fun D hD => lc_list (xs := ys.map V.int) (fun i H' => Ex (upd H p (.lst (ys.map V.int))) H' ∧ H' D = some (.lst (((ys.take i).filter (fun z => decide (z ∈ L.s s))).map V.int))) ⟨Ex.new hD, upd_same⟩
      (fun i H' _ p => SqL.of (p.1 _ _ upd_same)) ?_ ?_⟩
    · rintro i x H' hx ⟨e, hd⟩
      obtain ⟨z, hz1, rfl⟩ := ints_get hx
      have l3 := l.ex (e2.trans e)
      have lz : ((ys.take i).filter (fun z => decide (z ∈ L.s s))).length ≤ ys.length := filter_take_le
      have hzm : z ∈ L.s s ++ L.c s := h1.mem_iff.mp (List.mem_of_getElem? hz1)
      have gg := DGet.k (k := .inl z) ((e2.trans e) _ _ hu)
      rw [up.val z] at gg
      by_cases zo : z ∈ L.s s
      · rw [if_pos zo] at gg
        refine ⟨rfl, _, rfl, _, rfl, _, _, _, _, rfl, rfl, SqL.of l3.us, at_u ok, _, rfl, M.u s, _, rfl, gg, two_le, fun e' he' => ?_⟩
        have x5 : Ex H' (upd H' e' (.lst [.str "raised", .str "came"])) := Ex.new he'
        refine ⟨_, rfl, _, _, _, _, rfl, rfl, SqL.of upd_same, rfl, rfl, _, rfl, ?_⟩
        rw [(show decide (V.str "raised" = V.str "raised") = true from decide_eq_true rfl)]
        refine iteT ?_
        refine ⟨_, rfl, _, x5 _ _ hd, small1000 (by rw [List.length_map]; omega), (e.trans x5).mut hD, ?_⟩
        rw [upd_same, filter_take hz1]
        simp [zo]
      · rw [if_neg zo, if_pos ((List.mem_append.mp hzm).resolve_left zo)] at gg
        refine ⟨rfl, _, rfl, _, rfl, _, _, _, _, rfl, rfl, SqL.of l3.us, at_u ok, _, rfl, M.u s, _, rfl, gg, two_le, fun e' he' => ?_⟩
        have x5 : Ex H' (upd H' e' (.lst [.str "raised", .str "came"])) := Ex.new he'
        refine ⟨_, rfl, _, _, _, _, rfl, rfl, SqL.of upd_same, rfl, rfl, _, rfl, ?_⟩
        rw [show decide (V.str "came" = V.str "raised") = false from decide_eq_false (by intro z; exact absurd (V.str.inj z) (by decide +kernel))]
        refine iteF ?_
        refine ⟨e.trans x5, ?_⟩
        rw [x5 _ _ hd, filter_take hz1]
        simp [zo]
    · rintro H' ⟨e, hd⟩
      rw [List.length_map, List.take_length] at hd
      exact k _ _ (e2.trans e) (.list (.inl ⟨rfl, (by have t := h1.filter (fun z => decide (z ∈ L.s s)); rw [own_filter up.dis] at t; exact t), h2.filter _⟩) hd) (fun p' e' => by cases e'; exact fresh_back e2 hD)
  · refine ⟨_, rfl, _, _, rfl, rfl, _, rfl, iteT ?_⟩
    obtain ⟨ks, hks, pm⟩ := up.keys
    have z1 := hz.s s
    have z2 := hz.c s
    have pl := pm.length_eq
    rw [List.length_append] at pl
    refine ⟨_, rfl, _, rfl, _, _, _, _, rfl, rfl, SqL.of l.us, at_u ok, M.u s, kvs, ks, rfl, .inl hu, hks, by omega, fun ys p h1' h2 h3 => ?_⟩
    have h1 : ys.Perm (L.s s ++ L.c s) := h1'.trans pm
    have e2 : Ex H (upd H p (.lst (ys.map V.int))) := Ex.new h3
    have hy : ys.length < 64 := by rw [h1'.length_eq]; omega
    refine ⟨p, rfl, ⟨_, SqL.of upd_same⟩, fun D hD => lc_list (xs := ys.map V.int) (fun i H' => Ex (upd H p (.lst (ys.map V.int))) H' ∧ H' D = some (.lst (((ys.take i).filter (fun z => !decide (z ∈ L.s s))).map V.int))) ⟨Ex.new hD, upd_same⟩
      (fun i H' _ p => SqL.of (p.1 _ _ upd_same)) ?_ ?_⟩
    · rintro i x H' hx ⟨e, hd⟩
      obtain ⟨z, hz1, rfl⟩ := ints_get hx
      have l3 := l.ex (e2.trans e)
      have lz : ((ys.take i).filter (fun z => !decide (z ∈ L.s s))).length ≤ ys.length := filter_take_le
      have hzm : z ∈ L.s s ++ L.c s := h1.mem_iff.mp (List.mem_of_getElem? hz1)
      have gg := DGet.k (k := .inl z) ((e2.trans e) _ _ hu)
      rw [up.val z] at gg
      by_cases zo : z ∈ L.s s
      · rw [if_pos zo] at gg
        refine ⟨rfl, _, rfl, _, rfl, _, _, _, _, rfl, rfl, SqL.of l3.us, at_u ok, _, rfl, M.u s, _, rfl, gg, two_le, fun e' he' => ?_⟩
        have x5 : Ex H' (upd H' e' (.lst [.str "raised", .str "came"])) := Ex.new he'
        refine ⟨_, rfl, _, _, _, _, rfl, rfl, SqL.of upd_same, rfl, rfl, _, rfl, ?_⟩
        rw [show decide (V.str "raised" = V.str "came") = false from decide_eq_false (by intro z; exact absurd (V.str.inj z) (by decide +kernel))]
        refine iteF ?_
        refine ⟨e.trans x5, ?_⟩
        rw [x5 _ _ hd, filter_take hz1]
        simp [zo]
      · rw [if_neg zo, if_pos ((List.mem_append.mp hzm).resolve_left zo)] at gg
        refine ⟨rfl, _, rfl, _, rfl, _, _, _, _, rfl, rfl, SqL.of l3.us, at_u ok, _, rfl, M.u s, _, rfl, gg, two_le, fun e' he' => ?_⟩
        have x5 : Ex H' (upd H' e' (.lst [.str "raised", .str "came"])) := Ex.new he'
        refine ⟨_, rfl, _, _, _, _, rfl, rfl, SqL.of upd_same, rfl, rfl, _, rfl, ?_⟩
        rw [(show decide (V.str "came" = V.str "came") = true from decide_eq_true rfl)]
        refine iteT ?_
        refine ⟨_, rfl, _, x5 _ _ hd, small1000 (by rw [List.length_map]; omega), (e.trans x5).mut hD, ?_⟩
        rw [upd_same, filter_take hz1]
        simp [zo]
    · rintro H' ⟨e, hd⟩
      rw [List.length_map, List.take_length] at hd
      exact k _ _ (e2.trans e) (.list (.inr (.inl ⟨rfl, (by have t := h1.filter (fun z => !decide (z ∈ L.s s)); rw [came_filter up.dis] at t; exact t), h2.filter _⟩)) hd) (fun p' e' => by cases e'; exact fresh_back e2 hD)
  · refine ⟨_, rfl, _, _, rfl, rfl, _, rfl, iteF ⟨_, rfl, rfl, _, rfl, iteT ?_⟩⟩
    refine ⟨_, rfl, _, rfl, _, _, rfl, rfl, _, _, _, _, rfl, rfl, SqL.of l.rs, at_t ok.other, M.t (1 - s), L.s (1 - s), rfl, SqL.of (l.t (1 - s)), Nat.lt_of_lt_of_le (hz.s (1 - s)) (by decide), fun ys p h1 h2 h3 => ?_⟩
    have e2 : Ex H (upd H p (.lst (ys.map V.int))) := Ex.new h3
    have hy : ys.length < 32 := by rw [h1.length_eq]; exact hz.s _
    refine ⟨p, rfl, ⟨_, SqL.of upd_same⟩, fun D hD => lc_list (xs := ys.map V.int) (fun i H' => Ex (upd H p (.lst (ys.map V.int))) H' ∧ H' D = some (.lst (((ys.take i).filter (canC L s)).map V.int))) ⟨Ex.new hD, upd_same⟩
      (fun i H' _ p => SqL.of (p.1 _ _ upd_same)) ?_ ?_⟩
    · rintro i x H' hx ⟨e, hd⟩
      obtain ⟨z, hz1, rfl⟩ := ints_get hx
      have l3 := l.ex (e2.trans e)
      have lz : ((ys.take i).filter (canC L s)).length ≤ ys.length := filter_take_le
      refine ⟨rfl, _, rfl, _, rfl, _, rfl, _, _, _, _, rfl, rfl, SqL.of l3.us, at_u ok, M.u s, _, rfl, DGet.k (k := .inl z) ((e2.trans e) _ _ hu), _, rfl, ?_⟩
      rw [up.some_iff z, ← canC_w wr]
      cases hc : canC L s z with
      | false =>
        refine ⟨e, ?_⟩
        rw [hd, filter_take hz1, hc]
        simp
      | true =>
        rw [if_pos rfl]
        refine ⟨_, rfl, _, hd, small1000 (by rw [List.length_map]; omega), e.mut hD, ?_⟩
        rw [upd_same, filter_take hz1, hc]
        simp
    · rintro H' ⟨e, hd⟩
      rw [List.length_map, List.take_length] at hd
      exact k _ _ (e2.trans e) (.list (.inr (.inr (.inl ⟨rfl, h1.filter _, h2.filter _⟩))) hd) (fun p' e' => by cases e'; exact fresh_back e2 hD)
  · refine ⟨_, rfl, _, _, rfl, rfl, _, rfl, iteF ⟨_, rfl, rfl, _, rfl, iteF ⟨_, rfl, rfl, _, rfl, iteT ?_⟩⟩⟩
    have hm := Knd.many_le l.ok 0
    have hs := l.many s
    refine ⟨_, rfl, _, _, rfl, rfl, _, _, rfl, ⟨by omega, by omega, by omega, by omega⟩, fun D hD => lc_range (fun i H' => Ex H H' ∧ H' D = some (.lst ((((upTo (L.kd.many s)).take i).filter (canS L s)).map V.int))) ⟨Ex.new hD, upd_same⟩ ?_ ?_⟩
    · rintro i H' hi ⟨e, hd⟩
      have hi' : i < (L.kd.many s).toNat := by omega
      have hz1 := upTo_get hi'
      have lz : (((upTo (L.kd.many s)).take i).filter (canS L s)).length ≤ (upTo (L.kd.many s)).length := filter_take_le
      rw [upTo_len] at lz
      have l3 := l.ex e
      refine ⟨rfl, _, rfl, _, rfl, _, rfl, _, _, _, _, rfl, rfl, SqL.of l3.us, at_u ok, M.u s, _, rfl, DGet.k (k := .inl (1 + (i : Int))) (e _ _ hu), _, rfl, ?_⟩
      rw [up.some_iff, ← canS_w wr]
      cases hc : canS L s (1 + (i : Int)) with
      | false =>
        refine ⟨e, ?_⟩
        rw [hd, filter_take hz1, hc]
        simp
      | true =>
        rw [if_pos rfl]
        refine ⟨_, rfl, _, hd, small1000 (by rw [List.length_map]; omega), e.mut hD, ?_⟩
        rw [upd_same, filter_take hz1, hc]
        simp
    · rintro H' ⟨e, hd⟩
      rw [show (L.kd.many 0 + 1 - 1).toNat = (upTo (L.kd.many s)).length by rw [upTo_len, hs]; congr 1; omega, List.take_length] at hd
      exact k _ _ e (.list (.inr (.inr (.inr ⟨rfl, rfl⟩))) hd) (fun p' e' => by cases e'; exact hD)
  · refine ⟨_, rfl, _, _, rfl, rfl, _, rfl, iteF ⟨_, rfl, rfl, _, rfl, iteF ⟨_, rfl, rfl, _, rfl, iteF ⟨_, rfl, rfl, _, rfl, iteT ?_⟩⟩⟩⟩
    refine ⟨_, rfl, ?_⟩
    rw [← l.many s]
    exact k _ _ (Ex.refl _) .many (fun p e => by cases e)
  · refine ⟨_, rfl, _, _, rfl, rfl, _, rfl, iteF ⟨_, rfl, rfl, _, rfl, iteF ⟨_, rfl, rfl, _, rfl, iteF ⟨_, rfl, rfl, _, rfl, iteF ?_⟩⟩⟩⟩
    have hm := Knd.many_le l.ok 0
    refine ⟨_, rfl, _, _, rfl, rfl, _, _, rfl, ⟨by omega, by omega, by omega, by omega⟩, fun D hD => lc_range (fun i H' => Ex H H' ∧ H' D = some (.lst ((((upTo (L.kd.many 0)).take i).filter (fun z => !decide (z ∈ L.s0 ++ L.s1))).map V.int))) ⟨Ex.new hD, upd_same⟩ ?_ ?_⟩
    · rintro i H' hi ⟨e, hd⟩
      have hi' : i < (L.kd.many 0).toNat := by omega
      have hz1 := upTo_get hi'
      have lz : (((upTo (L.kd.many 0)).take i).filter (fun z => !decide (z ∈ L.s0 ++ L.s1))).length ≤ (upTo (L.kd.many 0)).length := filter_take_le
      rw [upTo_len] at lz
      have l3 := l.ex e
      have z0 := hz.s 0
      have z1 := hz.s 1
      have z0' : L.s0.length < 32 := z0
      have z1' : L.s1.length < 32 := z1
      refine ⟨rfl, _, rfl, _, rfl, _, _, _, _, rfl, rfl, SqL.of l3.rs, rfl, _, rfl, _, _, _, _, rfl, rfl, SqL.of l3.rs, rfl, M.t0, M.t1, _, _, rfl, rfl, l3.t0, l3.t1, Nat.le_of_lt (small1000 (by rw [List.length_map, List.length_map]; omega)), fun e' he' => ?_⟩
      have x5 : Ex H' (upd H' e' (.lst (L.s0.map V.int ++ L.s1.map V.int))) := Ex.new he'
      refine ⟨e', (L.s0 ++ L.s1).map V.int, rfl, .inl (SqL.of (by rw [upd_same, List.map_append])), rfl, flat_ints, _, rfl, ?_⟩
      rw [if_pos rfl, inV_ints]
      cases hc : decide ((1 + (i : Int)) ∈ L.s0 ++ L.s1) with
      | true =>
        refine ⟨e.trans x5, ?_⟩
        rw [x5 _ _ hd, filter_take hz1, hc]
        simp
      | false =>
        refine ⟨_, rfl, _, x5 _ _ hd, small1000 (by rw [List.length_map]; omega), (e.trans x5).mut hD, ?_⟩
        rw [upd_same, filter_take hz1, hc]
        simp
    · rintro H' ⟨e, hd⟩
      rw [show (L.kd.many 0 + 1 - 1).toNat = (upTo (L.kd.many 0)).length by rw [upTo_len]; congr 1; omega, List.take_length] at hd
      refine ⟨_, _, rfl, .inl ⟨_, SqL.of hd, rfl⟩, (by show 1 ≤ sizeLine; decide), fun p hp => k _ _ (e.trans (Ex.new hp)) (.left ?_) (fun p' e' => by cases e'; exact fresh_back e hp)⟩
      have cnt := count_left hz.rng
      rw [upd_same, List.length_map]
      congr 5
      omega
end
end L2.U


set_option Elab.async false
set_option linter.all false
set_option maxRecDepth 100000
set_option maxHeartbeats 4000000
namespace L2.U
open PySem PySem.Spec PyProof.Rows Evl
section
variable {P : Program} {w : World} {K : PySem.W.Frag} {mg : Str → Option Value} {base : Heap}
def spTold (C : Addr) : Sp := fun vs H Q _ => ∃ (A : Ln) (L : LS) (n q s : Int), vs = [.ref A.p, .int n, .int q, .int s] ∧ LineAt C A L H ∧ (∃ m, L.kd = .wir m) ∧ LSm L ∧ Side s ∧ (0 ≤ q ∧ q ≤ 5) ∧
  ∀ v H', Ex H H' → Vw L s H' q v → (∀ p, v = .ref p → H p = none) → Q v H'
theorem ok_law_told (T : TK K mg) : FnOk P w K mg base CX0 7 T.law_told.a T.law_told.fd ["line", "named", "question", "side"] (spTold T.C) := by
  refine T.law_told.F.ok sc_law_told (fun vs H Q E h => ?_) (fun cdv A outer s H vs Q E hr h => ?_)
  · obtain ⟨A, L, n, q, s, rfl, _⟩ := h; rfl
  obtain ⟨A, L, n, q, s, rfl, l, ⟨m, hk⟩, hz, ok, hq, k⟩ := h
  refine ⟨_, (pss_cons (ps_if (pt_cmpR op_eq (pv 2) pe_int (nomark _)) (pss_one (ps_ret (pe_ifExp (pt_cmpR op_eq (pv 1) pe_int (nomark _)) (by exact (pe_mX (pv 0) T.cl T.m_sent.M (ok_Line_sent T.toTL) (hr.mono (by decide)) T.m_sent.b (fun σ => passLAt) (pa_cons (pv 3) pa_nil))) (by exact (pe_mKw (pv 0) T.cl T.m_sent.M (ok_Line_sent T.toTL) (hr.mono (by decide)) T.kb_sent_side (fun σ => passLAt) (pk_cons (pv 3) pk_nil)))))) pss_nil)
    (pss_cons (ps_if (pt_cmpR op_eq (pv 2) pe_int (nomark _)) (pss_one (ps_ret (pe_ifExp (pt_cmpR op_eq (pv 1) pe_int (nomark _)) (by exact (pe_mX (pv 0) T.cl T.m_come_to.M (ok_Line_come_to T.toTL) (hr.mono (by decide)) T.m_come_to.b (fun σ => passLAt) (pa_cons (pv 3) pa_nil))) (by exact (pe_mKw (pv 0) T.cl T.m_come_to.M (ok_Line_come_to T.toTL) (hr.mono (by decide)) T.kb_come_to_side (fun σ => passLAt) (pk_cons (pv 3) pk_nil)))))) pss_nil)
    (pss_cons (ps_if (pt_cmpR op_eq (pv 2) pe_int (nomark _)) (pss_one (ps_ret (pe_ifExp (pt_cmpR op_eq (pv 1) pe_int (nomark _)) (by exact (pe_mX (pv 0) T.cl T.m_under_way.M (ok_Line_under_way T.toTL) (hr.mono (by decide)) T.m_under_way.b (fun σ => passLAt) (pa_cons (pv 3) pa_nil))) (by exact (pe_mKw (pv 0) T.cl T.m_under_way.M (ok_Line_under_way T.toTL) (hr.mono (by decide)) T.kb_under_way_side (fun σ => passLAt) (pk_cons (pv 3) pk_nil)))))) pss_nil)
    (pss_cons (ps_if (pt_cmpR op_eq (pv 2) pe_int (nomark _)) (pss_one (ps_ret (pe_ifExp (pt_cmpR op_eq (pv 1) pe_int (nomark _)) (by exact (pe_mX (pv 0) T.cl T.m_unsent.M (ok_Line_unsent T.toTL) (hr.mono (by decide)) T.m_unsent.b (fun σ => passLAt) (pa_cons (pv 3) pa_nil))) (by exact (pe_mKw (pv 0) T.cl T.m_unsent.M (ok_Line_unsent T.toTL) (hr.mono (by decide)) T.kb_unsent_side (fun σ => passLAt) (pk_cons (pv 3) pk_nil)))))) pss_nil)
    (pss_cons (ps_if (pt_cmpR op_eq (pv 2) pe_int (nomark _)) (pss_one (ps_ret (pe_ifExp (pt_cmpR op_eq (pv 1) pe_int (nomark _)) (by exact (pe_mX (pv 0) T.cl T.m_kinds.M (ok_Line_kinds T.toTL) (hr.mono (by decide)) T.m_kinds.b (fun σ => passLAt) (pa_cons (pv 3) pa_nil))) (by exact (pe_mKw (pv 0) T.cl T.m_kinds.M (ok_Line_kinds T.toTL) (hr.mono (by decide)) T.kb_kinds_side (fun σ => passLAt) (pk_cons (pv 3) pk_nil)))))) pss_nil)
    (pss_one (ps_ret (by exact (pe_mX0 (pv 0) T.cl T.m_left.M (ok_Line_left T.toTL) (hr.mono (by decide)) T.m_left.b (fun σ => pass0At)))))))))), ?_⟩
  have lst : ∀ {q : Int} {r : List Int → Prop}, (∀ ys, r ys → Vl L s q ys) → (∀ v H', Ex H H' → Vw L s H' q v → (∀ p, v = .ref p → H p = none) → Q v H') → ∀ (p : Addr) (ys : List Int) H', Ex H H' → H p = none → H' p = some (.lst (ys.map V.int)) → r ys → Q (.ref p) H' :=
    fun hr k p ys H' e hp hl r => k _ _ e (.list (hr ys r) hl) (fun p' e' => by cases e'; exact hp)
  rcases (by omega : q = 0 ∨ q = 1 ∨ q = 2 ∨ q = 3 ∨ q = 4 ∨ q = 5) with rfl | rfl | rfl | rfl | rfl | rfl
  · refine ⟨_, rfl, rfl, _, rfl, iteT ⟨_, rfl, rfl, _, rfl, ite2 (fun _ => ?_) (fun _ => ?_)⟩⟩
    all_goals exact ⟨_, rfl, A.p, A.dx, _, rfl, l.obj, rfl, _, rfl, A, L, s, rfl, l, Nat.lt_of_lt_of_le (hz.s s) (by decide), fun _ => lst (fun ys r => .inl ⟨rfl, r⟩) k, fun no => absurd ok no⟩
  · refine ⟨_, rfl, rfl, _, rfl, iteF ⟨_, rfl, rfl, _, rfl, iteT ⟨_, rfl, rfl, _, rfl, ite2 (fun _ => ?_) (fun _ => ?_)⟩⟩⟩
    all_goals exact ⟨_, rfl, A.p, A.dx, _, rfl, l.obj, rfl, _, rfl, A, L, s, rfl, l, Nat.lt_of_lt_of_le (hz.c s) (by decide), fun _ => lst (fun ys r => .inr (.inl ⟨rfl, r⟩)) k, fun no => absurd ok no⟩
  · refine ⟨_, rfl, rfl, _, rfl, iteF ⟨_, rfl, rfl, _, rfl, iteF ⟨_, rfl, rfl, _, rfl, iteT ⟨_, rfl, rfl, _, rfl, ite2 (fun _ => ?_) (fun _ => ?_)⟩⟩⟩⟩
    all_goals exact ⟨_, rfl, A.p, A.dx, _, rfl, l.obj, rfl, _, rfl, A, L, s, rfl, l, Nat.lt_of_lt_of_le (hz.s (1 - s)) (by decide), fun _ => lst (fun ys r => .inr (.inr (.inl ⟨rfl, r⟩))) k, fun no => absurd ok no⟩
  · refine ⟨_, rfl, rfl, _, rfl, iteF ⟨_, rfl, rfl, _, rfl, iteF ⟨_, rfl, rfl, _, rfl, iteF ⟨_, rfl, rfl, _, rfl, iteT ⟨_, rfl, rfl, _, rfl, ite2 (fun _ => ?_) (fun _ => ?_)⟩⟩⟩⟩⟩
    all_goals exact ⟨_, rfl, A.p, A.dx, _, rfl, l.obj, rfl, _, rfl, A, L, s, rfl, l, trivial, fun _ => lst (fun ys r => .inr (.inr (.inr ⟨rfl, r⟩))) k, fun no => absurd ok no⟩
  · refine ⟨_, rfl, rfl, _, rfl, iteF ⟨_, rfl, rfl, _, rfl, iteF ⟨_, rfl, rfl, _, rfl, iteF ⟨_, rfl, rfl, _, rfl, iteF ⟨_, rfl, rfl, _, rfl, iteT ⟨_, rfl, rfl, _, rfl, ite2 (fun _ => ?_) (fun _ => ?_)⟩⟩⟩⟩⟩⟩
    all_goals exact ⟨_, rfl, A.p, A.dx, _, rfl, l.obj, rfl, _, rfl, A, L, s, rfl, l, fun _ H' e => k _ _ e .many (fun p e => by cases e), fun no => absurd ok no⟩
  · refine ⟨_, rfl, rfl, _, rfl, iteF ⟨_, rfl, rfl, _, rfl, iteF ⟨_, rfl, rfl, _, rfl, iteF ⟨_, rfl, rfl, _, rfl, iteF ⟨_, rfl, rfl, _, rfl, iteF ?_⟩⟩⟩⟩⟩
    refine ⟨_, rfl, A.p, A.dx, _, rfl, l.obj, rfl, A, L, rfl, l, Nat.le_of_lt (hz.s 0), Nat.le_of_lt (hz.s 1), .inr ⟨m, hk, fun p H' e hp hl => k _ _ e (.left ?_) (fun p' e => by cases e; exact hp)⟩⟩
    rw [hl, hk]
    rfl
end
end L2.U


set_option Elab.async false
set_option linter.all false
set_option maxRecDepth 100000
set_option maxHeartbeats 4000000
namespace L2.U
open PySem PySem.Spec PyProof.Rows Evl
section
variable {P : Program} {w : World} {K : PySem.W.Frag} {mg : Str → Option Value} {base : Heap}
theorem rise_uniq {xs ys zs : List Int} (h : Rise xs ys) (h' : Rise xs zs) : ys = zs :=
  List.Perm.eq_of_pairwise (le := fun a b => a ≤ b) (fun a b _ _ h1 h2 => Int.le_antisymm h1 h2) h.2 h'.2 (h.1.trans h'.1.symm)
theorem vl_uniq {L : LS} {s q : Int} {ys zs : List Int} (h : Vl L s q ys) (h' : Vl L s q zs) : ys = zs := by
  rcases h with ⟨rfl, h⟩ | ⟨rfl, h⟩ | ⟨rfl, h⟩ | ⟨rfl, h⟩ <;> rcases h' with ⟨e, h'⟩ | ⟨e, h'⟩ | ⟨e, h'⟩ | ⟨e, h'⟩ <;> first | exact absurd e (by decide) | exact rise_uniq h h' | exact h.trans h'.symm
theorem vl_len {L : LS} {s q : Int} {ys : List Int} (hz : LSm L) (ok : L.kd.Ok) (h : Vl L s q ys) : ys.length ≤ 64 := by
  rcases h with ⟨rfl, h⟩ | ⟨rfl, h⟩ | ⟨rfl, h⟩ | ⟨rfl, h⟩
  · rw [h.1.length_eq]; exact Nat.le_trans (Nat.le_of_lt (hz.s s)) (by decide)
  · rw [h.1.length_eq]; exact Nat.le_trans (Nat.le_of_lt (hz.c s)) (by decide)
  · rw [h.1.length_eq]; exact Nat.le_trans (List.length_filter_le _ _) (Nat.le_trans (Nat.le_of_lt (hz.s _)) (by decide))
  · subst h
    refine Nat.le_trans (List.length_filter_le _ _) ?_
    rw [upTo_len]
    have := Knd.many_le ok s
    omega
theorem sm_ints {K : PySem.W.Frag} {H : Hp} {n : Nat} {a b : Addr} {ns : List Int} (ha : H a = some (.lst (ns.map V.int))) (hb : H b = some (.lst (ns.map V.int))) (hz : ns.length ≤ 64) : Sm K H (n + 1) (.ref a) (.ref b) :=
  .lst (SqL.of ha) (SqL.of hb) rfl (by rw [List.length_map]; omega) fun i x y hx hy => by
    rw [hx] at hy
    obtain rfl := Option.some.inj hy
    obtain ⟨z, _, rfl⟩ := ints_get hx
    exact .int z
theorem vw_sm {K : PySem.W.Frag} {L : LS} {s q : Int} {H : Hp} {n : Nat} {v d : V} (hz : LSm L) (ok : L.kd.Ok) (h : Vw L s H q v) (h' : Vw L s H q d) : Sm K H (n + 1) v d := by
  cases h with
  | list v hp => cases h' with
    | list v' hp' =>
      have e := vl_uniq v v'
      subst e
      exact sm_ints hp hp' (vl_len hz ok v)
    | many => rcases v with ⟨e, _⟩ | ⟨e, _⟩ | ⟨e, _⟩ | ⟨e, _⟩ <;> exact absurd e (by decide)
    | left _ => rcases v with ⟨e, _⟩ | ⟨e, _⟩ | ⟨e, _⟩ | ⟨e, _⟩ <;> exact absurd e (by decide)
  | many => cases h' with
    | list v _ => rcases v with ⟨e, _⟩ | ⟨e, _⟩ | ⟨e, _⟩ | ⟨e, _⟩ <;> exact absurd e (by decide)
    | many => exact .int _
  | left hp => cases h' with
    | list v _ => rcases v with ⟨e, _⟩ | ⟨e, _⟩ | ⟨e, _⟩ | ⟨e, _⟩ <;> exact absurd e (by decide)
    | left hp' =>
      refine .tup (SqT.of hp) (SqT.of hp') rfl (by show 1 ≤ 1000; decide) fun i x y hx hy => ?_
      · rw [hx] at hy
        obtain rfl := Option.some.inj hy
        match i, hx with
        | 0, hx => obtain rfl := Option.some.inj hx; exact .int _
        | i + 1, hx => cases hx
theorem Vw.inv {L : LS} {s q : Int} {H : Hp} {v : V} (hz : LSm L) (ok : L.kd.Ok) (h : Vw L s H q v) : (∃ (p : Addr) (ys : List Int), v = .ref p ∧ H p = some (.lst (ys.map V.int)) ∧ ys.length ≤ 64) ∨ (∃ i : Int, v = .int i) ∨ (∃ (p : Addr) (xs : List V), v = .ref p ∧ H p = some (.tup xs)) := by
  cases h with
  | list v hp => exact .inl ⟨_, _, rfl, hp, vl_len hz ok v⟩
  | many => exact .inr (.inl ⟨_, rfl⟩)
  | left hp => exact .inr (.inr ⟨_, _, rfl, hp⟩)
def spAsked (C : Addr) : Sp := fun vs H Q _ => ∃ (A : Ln) (M : Md) (L : LS) (n b : Int), vs = [.ref A.p, .ref M.mp, .int n, .int b] ∧ LineAt C A L H ∧ ModAt M L H ∧ LSm L ∧ (0 ≤ b ∧ b ≤ 100) ∧ (0 ≤ n ∧ n ≤ 100) ∧
  ∀ H', Ex H H' → Q (.bl true) H'
theorem ok_law_asked (T : TK K mg) : FnOk P w K mg base CX0 10 T.law_asked.a T.law_asked.fd ["line", "model", "named", "begin"] (spAsked T.C) := by
  refine T.law_asked.F.ok sc_law_asked (fun vs H Q E h => ?_) (fun cdv A outer s H vs Q E hr h => ?_)
  · obtain ⟨A, M, L, n, b, rfl, _⟩ := h; rfl
  obtain ⟨A, M, L, n, b, rfl, l, d, hz, hb, hn, q⟩ := h
  refine ⟨_, (pss_cons (ps_if (pt_not (pt_val (pe_call (ok_law_same T.toTA1) (hr.mono (by decide)) rfl T.law_same.m T.law_same.F.kp T.law_same.b .nil pass0 (pa_cons (pe_fld (pv 0) rfl) (pa_cons (pe_tup (pa_cons pe_str (pa_cons (pe_ix (kixl K) (pv 1) pe_int (fun _ _ => rfl)) pa_nil))) pa_nil))))) (pss_one (ps_ret pe_bl)) pss_nil)
    (pss_cons (ps_for PassesOwn.never rfl (pi_range1 rfl T.z_range (pa_cons pe_int pa_nil)) (pg_name (i := 4) sc_law_asked.nd rfl (Or.inl rfl)) (pss_cons (ps_par (i := 5) (j := 6) (by rfl) sc_law_asked.nd rfl rfl (by decide) rfl rfl (pa_cons (pe_op op_fdiv (pe_op op_mod (pe_callTy call_int1 (by rfl) T.z_int (by decide +kernel) (pa_cons (pe_op op_add (pv 3) (pv 4)) pa_nil)) pe_int) pe_int) (pa_cons (pe_op op_mod (pe_callTy call_int1 (by rfl) T.z_int (by decide +kernel) (pa_cons (pe_op op_add (pv 3) (pv 4)) pa_nil)) pe_int) pa_nil)) (by rfl))
    (pss_cons (ps_set (i := 7) sc_law_asked.nd rfl (Or.inl rfl) (pe_call (ok_law_view T) (hr.mono (by decide)) rfl T.law_view.m T.law_view.F.kp T.law_view.b .nil pass0 (pa_cons (pv 1) (pa_cons (pv 5) (pa_cons (pv 6) pa_nil)))))
    (pss_cons (ps_set (i := 8) sc_law_asked.nd rfl (Or.inl rfl) (pe_call (ok_law_told T) (hr.mono (by decide)) rfl T.law_told.m T.law_told.F.kp T.law_told.b .nil pass0 (pa_cons (pv 0) (pa_cons (pe_op op_mod (pe_callTy call_int1 (by rfl) T.z_int (by decide +kernel) (pa_cons (pe_op op_add (pv 2) (pv 4)) pa_nil)) pe_int) (pa_cons (pv 5) (pa_cons (pv 6) pa_nil))))))
    (pss_cons (ps_if (pt_not (pt_val (pe_call (ok_law_same T.toTA1) (hr.mono (by decide)) rfl T.law_same.m T.law_same.F.kp T.law_same.b .nil pass0 (pa_cons (pv 8) (pa_cons (pv 7) pa_nil))))) (pss_one (ps_ret pe_bl)) pss_nil)
    (pss_cons (ps_if (pt_val (pe_callB (kisi K) (by rfl) T.z_isinstance (by decide +kernel) (pa_cons (pv 8) (pa_cons (pe_bltn (v := .ty "list") rfl T.z_list (by decide +kernel) rfl) pa_nil)))) (pss_cons (ps_expr (pe_bm PySem.F.plainAttrs_list PySem.F.slot_list_append PySem.F.type_list_append mt_append (pv 8) (pa_cons pe_int pa_nil)))
    (pss_one (ps_expr (pe_bm PySem.F.plainAttrs_list PySem.F.slot_list_insert PySem.F.type_list_insert mt_insert (pv 8) (pa_cons pe_int (pa_cons pe_int pa_nil)))))) pss_nil)
    (pss_one (ps_if (pt_not (pt_val (pe_call (ok_law_same T.toTA1) (hr.mono (by decide)) rfl T.law_same.m T.law_same.F.kp T.law_same.b .nil pass0 (pa_cons (pe_call (ok_law_told T) (hr.mono (by decide)) rfl T.law_told.m T.law_told.F.kp T.law_told.b .nil pass0 (pa_cons (pv 0) (pa_cons (pe_op op_mod (pe_callTy call_int1 (by rfl) T.z_int (by decide +kernel) (pa_cons (pe_op op_add (pe_op op_add (pv 2) (pv 4)) pe_int) pa_nil)) pe_int) (pa_cons (pv 5) (pa_cons (pv 6) pa_nil))))) (pa_cons (pv 7) pa_nil))))) (pss_one (ps_ret pe_bl)) pss_nil))))))))
    (pss_one (ps_ret pe_bl)))), ?_⟩
  obtain ⟨m0, hk⟩ := d.lets
  refine ⟨_, rfl, A.p, T.C, A.dx, _, _, rfl, l.obj, T.cl, T.n_spec, rfl, ?_⟩
  refine ⟨_, rfl, _, _, _, _, rfl, rfl, SqL.of d.mp, rfl, ?_⟩
  refine ⟨(by show 2 ≤ sizeLine; decide), fun t ht => ?_⟩
  have e1 : Ex H (upd H t (.tup [.str "wires", .int (L.kd.many 0)])) := Ex.new ht
  refine ⟨_, _, rfl, .tup (SqT.of (e1 _ _ l.sp)) (SqT.of upd_same) (by rw [hk]; rfl) (by rw [hk]; show 2 ≤ 1000; decide) ?_, fun H1 e2 => ?_⟩
  · rw [hk]
    intro i x y hx hy
    match i, hx, hy with
    | 0, hx, hy => obtain rfl := Option.some.inj hx; obtain rfl := Option.some.inj hy; exact .str _ (by decide +kernel)
    | 1, hx, hy => obtain rfl := Option.some.inj hx; obtain rfl := Option.some.inj hy; exact .int _
    | i + 2, hx, _ => cases hx
  refine ⟨true, rfl, iteF ?_⟩
  refine ⟨12, rfl, by decide, by decide, for_range (lo := 0) (n := (12 : Int).toNat) (fun i σ H' => Ex H H' ∧ ∃ x4 x5 x6 x7 x8, σ = [some (.ref A.p), some (.ref M.mp), some (.int n), some (.int b), x4, x5, x6, x7, x8]) ⟨e1.trans e2, _, _, _, _, _, rfl⟩ ?_ ?_⟩
  · rintro i σ H2 hi ⟨e3, x4, x5, x6, x7, x8, rfl⟩
    have hi' : i < 12 := hi
    have hk2 : ∀ z : Int, 0 ≤ z → Side (z % 2) := fun z h => by unfold Side; omega
    have sd : Side ((b + (0 + (i : Int))) % 2) := hk2 _ (by omega)
    have qd : 0 ≤ (b + (0 + (i : Int))) % 12 / 2 ∧ (b + (0 + (i : Int))) % 12 / 2 ≤ 5 := by omega
    refine ⟨_, rfl, _, rfl, _, _, rfl, rfl, .inl ⟨_, rfl, _, _, rfl, rfl, (by show (0 : Int) < 12; decide), _, _, rfl, rfl, ⟨by decide, by decide⟩, _, rfl, _, rfl, _, _, rfl, rfl, .inl ⟨_, rfl, _, _, rfl, rfl, (by show (0 : Int) < 2; decide), _, _, rfl, ?_⟩⟩⟩
    refine ⟨_, rfl, _, rfl, _, rfl, M, L, _, _, rfl, d.ex e3, hz, sd, qd, fun v H3 e4 w1 f1 => ?_⟩
    have e34 := e3.trans e4
    refine ⟨_, rfl, _, rfl, _, rfl, _, _, rfl, rfl, .inl ⟨_, rfl, _, _, rfl, rfl, (by show (0 : Int) < 2; decide), _, rfl, _, rfl, A, L, _, _, _, rfl, l.ex e34, d.lets, hz, sd, qd, fun u H4 e5 w2 f2 => ?_⟩⟩
    refine ⟨_, rfl, _, rfl, _, _, rfl, vw_sm (n := 7) hz d.ok w2 (w1.ex e5), fun H5 e6 => ⟨true, rfl, iteF ?_⟩⟩
    have e36 := e5.trans e6
    have w5 := w2.ex e6
    rcases w5.inv hz d.ok with ⟨p, ys, rfl, hp, hl⟩ | ⟨z, rfl⟩ | ⟨p, xs, rfl, hp⟩
    · refine ⟨_, rfl, _, _, _, _, _, rfl, .ty "list", .base (.lst hp), kit_ty (r := true) (by decide +kernel), true, rfl, iteT ?_⟩
      refine ⟨_, rfl, .inl ⟨rfl, _, SqL.of hp⟩, p, _, _, rfl, rfl, hp, small1000 (by rw [List.length_map]; omega), ?_⟩
      refine ⟨_, rfl, .inl ⟨rfl, _, SqL.of upd_same⟩, p, _, 0, .int 11, rfl, rfl, upd_same, small1000 (by rw [List.length_append, List.length_map]; show _ + 1 ≤ 1000; omega), by decide, by decide, ?_⟩
      have e37 : Ex H3 (upd (upd H5 p (.lst (ys.map V.int ++ [.int 2]))) p (.lst ((ys.map V.int ++ [V.int 2]).take (0 : Int).toNat ++ [.int 11] ++ (ys.map V.int ++ [V.int 2]).drop (0 : Int).toNat))) := (e36.mut (f2 p rfl)).mut (f2 p rfl)
      exact ⟨_, rfl, _, rfl, _, rfl, _, _, rfl, rfl, _, _, rfl, rfl, .inl ⟨_, rfl, _, _, rfl, rfl, (by show (0 : Int) < 2; decide), _, rfl, _, rfl, A, L, _, _, _, rfl, l.ex (e34.trans e37), d.lets, hz, sd, qd, fun u2 H7 e7 w7 f7 => ⟨_, rfl, _, _, rfl, vw_sm (n := 7) hz d.ok w7 (w1.ex (e37.trans e7)), fun H8 e8 => ⟨true, rfl, iteF ⟨((e34.trans e37).trans e7).trans e8, _, _, _, _, _, rfl⟩⟩⟩⟩⟩
    · refine ⟨_, rfl, _, _, _, _, _, rfl, .ty "list", .base (.int z), kit_ty (r := false) (by decide +kernel), false, rfl, iteF ?_⟩
      have e37 := e36
      exact ⟨_, rfl, _, rfl, _, rfl, _, _, rfl, rfl, _, _, rfl, rfl, .inl ⟨_, rfl, _, _, rfl, rfl, (by show (0 : Int) < 2; decide), _, rfl, _, rfl, A, L, _, _, _, rfl, l.ex (e34.trans e37), d.lets, hz, sd, qd, fun u2 H7 e7 w7 f7 => ⟨_, rfl, _, _, rfl, vw_sm (n := 7) hz d.ok w7 (w1.ex (e37.trans e7)), fun H8 e8 => ⟨true, rfl, iteF ⟨((e34.trans e37).trans e7).trans e8, _, _, _, _, _, rfl⟩⟩⟩⟩⟩
    · refine ⟨_, rfl, _, _, _, _, _, rfl, .ty "list", .base (.tup hp), kit_ty (r := false) (by decide +kernel), false, rfl, iteF ?_⟩
      have e37 := e36
      exact ⟨_, rfl, _, rfl, _, rfl, _, _, rfl, rfl, _, _, rfl, rfl, .inl ⟨_, rfl, _, _, rfl, rfl, (by show (0 : Int) < 2; decide), _, rfl, _, rfl, A, L, _, _, _, rfl, l.ex (e34.trans e37), d.lets, hz, sd, qd, fun u2 H7 e7 w7 f7 => ⟨_, rfl, _, _, rfl, vw_sm (n := 7) hz d.ok w7 (w1.ex (e37.trans e7)), fun H8 e8 => ⟨true, rfl, iteF ⟨((e34.trans e37).trans e7).trans e8, _, _, _, _, _, rfl⟩⟩⟩⟩⟩
  · rintro σ H2 ⟨e3, x4, x5, x6, x7, x8, rfl⟩
    exact q H2 e3
end
end L2.U


set_option Elab.async false
set_option linter.all false
set_option maxRecDepth 100000
set_option maxHeartbeats 4000000
namespace L2.U
open PySem PySem.Spec PyProof.Rows Evl
section
variable {P : Program} {w : World} {K : PySem.W.Frag} {mg : Str → Option Value} {base : Heap}
theorem bx_ints {H : Hp} {b : Addr} {n : Nat} {a : Addr} {ns : List Int} (h : BoxAt H b n) (ha : H a = some (.lst (ns.map V.int))) : a ≠ b := by
  obtain ⟨d, m, c, f, hb, _⟩ := h
  refine ne_of ha hb fun z => ?_
  have z2 := HO.lst.inj z
  match ns, z2 with
  | _ :: _ :: _, z2 => exact nomatch (List.cons.inj (List.cons.inj z2).2).1
theorem bx_refs {H : Hp} {b : Addr} {n : Nat} {a c : Addr} {xs : List V} (h : BoxAt H b n) (ha : H a = some (.lst (.ref c :: xs))) : a ≠ b := by
  obtain ⟨d, m, c, f, hb, _⟩ := h
  exact ne_of ha hb fun z => nomatch (List.cons.inj (HO.lst.inj z)).1
theorem bx_tup {H : Hp} {b : Addr} {n : Nat} {a : Addr} {xs : List V} (h : BoxAt H b n) (ha : H a = some (.tup xs)) : a ≠ b := by
  obtain ⟨d, m, c, f, hb, _⟩ := h
  exact ne_of ha hb fun z => nomatch z
theorem bx_ins {H : Hp} {b : Addr} {n : Nat} {a c d : Addr} {xs : List (Str × V)} (h : BoxAt H b n) (ha : H a = some (.ins c d xs)) : a ≠ b := by
  obtain ⟨d, m, c, f, hb, _⟩ := h
  exact ne_of ha hb fun z => nomatch z
theorem bx_dict {H : Hp} {b : Addr} {n : Nat} {a : Addr} {kvs : List (Key × V)} (h : BoxAt H b n) (ha : H a = Option.some (.dK kvs)) : a ≠ b := by
  obtain ⟨d, m, c, f, hb, _⟩ := h
  exact ne_of ha hb fun z => nomatch z
theorem bx_mp {H : Hp} {b : Addr} {n : Nat} {a c d : Addr} {i : Int} (h : BoxAt H b n) (ha : H a = Option.some (.lst [.int i, .ref c, .ref d])) : a ≠ b := by
  obtain ⟨d, m, c, f, hb, _⟩ := h
  exact ne_of ha hb fun z => nomatch (List.cons.inj (List.cons.inj (HO.lst.inj z)).2).1
theorem ModAt.box {M : Md} {L : LS} {H H' : Hp} {b : Addr} {n : Nat} (l : ModAt M L H) (hb : BoxAt H b n) (k : But b H H') : ModAt M L H' :=
  ⟨k _ _ (bx_mp hb l.mp) l.mp, k _ _ (bx_refs hb l.us) l.us, k _ _ (bx_refs hb l.rs) l.rs, k _ _ (bx_ints hb l.t0) l.t0, k _ _ (bx_ints hb l.t1) l.t1,
    l.u0.imp fun _ h => ⟨k _ _ (bx_dict hb h.1) h.1, h.2⟩, l.u1.imp fun _ h => ⟨k _ _ (bx_dict hb h.1) h.1, h.2⟩, l.lets, l.ok⟩
theorem LineAt.box {C : Addr} {A : Ln} {L : LS} {H H' : Hp} {b : Addr} {n : Nat} (l : LineAt C A L H) (hb : BoxAt H b n) (k : But b H H') : LineAt C A L H' :=
  ⟨k _ _ (bx_ins hb l.obj) l.obj, k _ _ (bx_tup hb l.sp) l.sp, k _ _ (bx_refs hb l.sb) l.sb, k _ _ (bx_refs hb l.cb) l.cb, k _ _ (bx_ints hb l.a0) l.a0, k _ _ (bx_ints hb l.a1) l.a1,
    k _ _ (bx_ints hb l.d0) l.d0, k _ _ (bx_ints hb l.d1) l.d1, l.ok⟩
theorem but_fresh {H H' : Hp} {b f : Addr} {n m : Nat} (k : But b H H') (hb : BoxAt H b n) (hb2 : BoxAt H' b m) (h : H' f = none) : H f = none := by
  obtain ⟨o, ho⟩ := hb.some
  exact k.none ho h (hb2.ne h)
theorem dp_ints {K : PySem.W.Frag} {H : Hp} : ∀ (ns : List Int), DpAll K H (ns.map V.int) (ns.map PyData.int)
  | [] => .nil
  | n :: r => .cons (.int n) (dp_ints r)
theorem lay_ints : ∀ (ns : List Int), PyData.canLayAll0 (ns.map PyData.int) = true ∧ PyData.depthAll (ns.map PyData.int) = 0
  | [] => by simp [PyData.canLayAll0, PyData.depthAll]
  | n :: r => by
    have h := lay_ints r
    simp only [List.map_cons, PyData.canLayAll0, PyData.depthAll, PyData.canLay0, PyData.depth, h.1, h.2]
    exact ⟨rfl, rfl⟩
theorem shaped_ints (ns : List Int) : SeqAt.shaped (PyData.list (ns.map PyData.int)) = true := by
  have h := lay_ints ns
  simp only [SeqAt.shaped, PyData.canLay0, PyData.depth, h.1, h.2]
  rfl
/-- xs != [] of a list of ints -/
theorem ne_nil {K : PySem.W.Frag} {H : Hp} {p e : Addr} {ns : List Int} {R : VK} (hp : H p = some (.lst (ns.map V.int))) (he : H e = none) (h : R (.bl (!decide (ns = []))) (upd H e (.lst []))) : rNeD K (.ref p) (.ref e) (upd H e (.lst [])) R := by
  refine ⟨.list (ns.map PyData.int), .list [], .lst (SqL.of ((Ex.new he) _ _ hp)) (dp_ints ns), .lst (SqL.of upd_same) .nil, shaped_ints ns, shaped_ints [], ?_⟩
  cases ns with
  | nil => exact h
  | cons n r => exact h
def spDrawn : Sp := fun vs H Q _ => ∃ (b : Addr) (M : Md) (L : LS) (n : Nat), vs = [.ref b, .ref M.mp] ∧ BoxAt H b (n + 4) ∧ ModAt M L H ∧ LSm L ∧
  ∀ (t : Addr) (deed s k : Int) H', (deed = 0 ∨ deed = 1) → Side s → H t = none → H' t = some (.tup [.int deed, .int s, .int k]) → BoxAt H' b n → But b H H' → Q (.ref t) H'
theorem three_le : 3 ≤ sizeLine := by decide
theorem ok_law_drawn (T : TK K mg) : FnOk P w K mg base CX0 2 T.law_drawn.a T.law_drawn.fd ["box", "model"] spDrawn := by
  refine T.law_drawn.F.ok sc_law_drawn (fun vs H Q E h => ?_) (fun cdv A outer s H vs Q E hr h => ?_)
  · obtain ⟨b, M, L, n, rfl, _⟩ := h; rfl
  obtain ⟨b, M, L, n, rfl, hB, l, hz, q⟩ := h
  refine ⟨_, (pss_cons (ps_par3 (i := 2) (j := 3) (l := 4) (by rfl) sc_law_drawn.nd rfl rfl rfl (by decide) (by decide) (by decide) rfl rfl rfl (pa_cons (pe_call (ok_law_take T.toTA1) (hr.mono (by decide)) rfl T.law_take.m T.law_take.F.kp T.law_take.b .nil pass0 (pa_cons (pv 0) (pa_cons pe_int pa_nil))) (pa_cons (pe_call (ok_law_take T.toTA1) (hr.mono (by decide)) rfl T.law_take.m T.law_take.F.kp T.law_take.b .nil pass0 (pa_cons (pv 0) (pa_cons pe_int pa_nil))) (pa_cons (pe_ix (kixl K) (pv 1) pe_int (fun _ _ => rfl)) pa_nil))) (by rfl))
    (pss_cons (ps_par (i := 5) (j := 6) (by rfl) sc_law_drawn.nd rfl rfl (by decide) rfl rfl (pa_cons (pe_call (ok_law_view T) (hr.mono (by decide)) rfl T.law_view.m T.law_view.F.kp T.law_view.b .nil pass0 (pa_cons (pv 1) (pa_cons pe_int (pa_cons (pv 3) pa_nil)))) (pa_cons (pe_callB (call_sortedDI rfl) (by rfl) T.z_sorted (by decide +kernel) (pa_cons (pe_ix (kixl K) (pe_ix (kixl K) (pv 1) pe_int (fun _ _ => rfl)) (pv 3) (fun _ _ => rfl)) pa_nil)) pa_nil)) (by rfl))
    (pss_cut (ps_if (PW.pt (pw_and (pt_cmpR op_lt (pv 2) pe_int (nomark _)) (pw_and1 (pt_cmpR (kneD K hr.units) (pv 5) (pe_lst pa_nil) (nomark _))))) (pss_one (ps_ret (pe_tup (pa_cons pe_int (pa_cons (pv 3) (pa_cons (pe_ix (kixl K) (pv 5) (pe_call (ok_law_take T.toTA1) (hr.mono (by decide)) rfl T.law_take.m T.law_take.F.kp T.law_take.b .nil pass0 (pa_cons (pv 0) (pa_cons (pe_callB (klen K) (by rfl) T.z_len (by decide +kernel) (pa_cons (pv 5) pa_nil)) pa_nil))) (fun _ _ => rfl)) pa_nil)))))) pss_nil)
    (pss_cut (ps_if (PW.pt (pw_and (pt_cmpR op_lt (pv 2) pe_int (nomark _)) (pw_and1 (pt_cmpR (kneD K hr.units) (pv 5) (pe_lst pa_nil) (nomark _))))) (pss_one (ps_ret (pe_tup (pa_cons pe_int (pa_cons (pv 3) (pa_cons (pe_ix (kixl K) (pv 5) (pe_call (ok_law_take T.toTA1) (hr.mono (by decide)) rfl T.law_take.m T.law_take.F.kp T.law_take.b .nil pass0 (pa_cons (pv 0) (pa_cons (pe_callB (klen K) (by rfl) T.z_len (by decide +kernel) (pa_cons (pv 5) pa_nil)) pa_nil))) (fun _ _ => rfl)) pa_nil)))))) pss_nil)
    (pss_cons (ps_if (pt_cmpR op_eq (pv 2) pe_int (nomark _)) (pss_one (ps_ret (pe_tup (pa_cons (pe_call (ok_law_take T.toTA1) (hr.mono (by decide)) rfl T.law_take.m T.law_take.F.kp T.law_take.b .nil pass0 (pa_cons (pv 0) (pa_cons pe_int pa_nil))) (pa_cons (pv 3) (pa_cons (pe_ix (kixl K) (pe_lst (pa_cons pe_int (pa_cons (pe_un un_neg pe_int) (pa_cons (pe_op op_add (pv 4) pe_int) (pa_cons pe_int (pa_cons (pe_op op_pow pe_int pe_int) pa_nil)))))) (pe_call (ok_law_take T.toTA1) (hr.mono (by decide)) rfl T.law_take.m T.law_take.F.kp T.law_take.b .nil pass0 (pa_cons (pv 0) (pa_cons pe_int pa_nil))) (fun _ _ => rfl)) pa_nil)))))) pss_nil)
    (pss_cut (ps_if (PW.pt (pw_and (pt_cmpR op_lt (pv 2) pe_int (nomark _)) (pw_and1 (pt_cmpR (kneD K hr.units) (pv 6) (pe_lst pa_nil) (nomark _))))) (pss_cons (ps_set (i := 7) sc_law_drawn.nd rfl (Or.inl rfl) (pe_ix (kixl K) (pv 6) (pe_call (ok_law_take T.toTA1) (hr.mono (by decide)) rfl T.law_take.m T.law_take.F.kp T.law_take.b .nil pass0 (pa_cons (pv 0) (pa_cons (pe_callB (klen K) (by rfl) T.z_len (by decide +kernel) (pa_cons (pv 6) pa_nil)) pa_nil))) (fun _ _ => rfl)))
    (pss_one (ps_ret (pe_tup (pa_cons (pe_op op_mod (pe_callTy call_int1 (by rfl) T.z_int (by decide +kernel) (pa_cons (pv 2) pa_nil)) pe_int) (pa_cons (pv 3) (pa_cons (pv 7) pa_nil))))))) pss_nil)
    (pss_cons (ps_if (pt_cmpR op_eq (pv 2) pe_int (nomark _)) (pss_one (ps_ret (pe_tup (pa_cons pe_int (pa_cons (pv 3) (pa_cons (pe_op op_add pe_int (pe_call (ok_law_take T.toTA1) (hr.mono (by decide)) rfl T.law_take.m T.law_take.F.kp T.law_take.b .nil pass0 (pa_cons (pv 0) (pa_cons (pe_callB (call_max2 rfl) (by rfl) T.z_max (by decide +kernel) (pa_cons pe_int (pa_cons (pv 4) pa_nil))) pa_nil)))) pa_nil)))))) pss_nil)
    (pss_one (ps_ret (pe_tup (pa_cons pe_int (pa_cons (pv 3) (pa_cons (pe_op op_add pe_int (pe_call (ok_law_take T.toTA1) (hr.mono (by decide)) rfl T.law_take.m T.law_take.F.kp T.law_take.b .nil pass0 (pa_cons (pv 0) (pa_cons (pe_callB (call_max2 rfl) (by rfl) T.z_max (by decide +kernel) (pa_cons pe_int (pa_cons (pv 4) pa_nil))) pa_nil)))) pa_nil))))))))))))), ?_⟩
  refine ⟨_, rfl, b, 12, n + 3, rfl, by decide, by decide, hB, fun way H1 w0 w1 B1 k1 => ?_⟩
  refine ⟨_, rfl, b, 2, n + 2, rfl, by decide, by decide, B1, fun sd H2 s0 s1 B2 k2 => ?_⟩
  have l1 := l.box hB k1
  have l2 := l1.box B1 k2
  refine ⟨_, rfl, _, _, _, _, rfl, rfl, SqL.of l2.mp, rfl, _, _, _, rfl, ?_⟩
  have ok : Side sd := ⟨s0, by omega⟩
  have K2 := k1.trans k2
  refine ⟨_, rfl, _, rfl, M, L, 2, sd, rfl, l2, hz, ok, by decide, fun v H3 e3 w3 f3 => ?_⟩
  have l3' := l2.ex e3
  obtain ⟨kvs, hu, up⟩ := l3'.u sd
  obtain ⟨ks, hks, pm⟩ := up.keys
  have y1 := hz.s sd
  have y2 := hz.c sd
  have pl := pm.length_eq
  rw [List.length_append] at pl
  refine ⟨_, rfl, _, _, _, _, rfl, rfl, SqL.of l3'.mp, rfl, _, rfl, _, _, _, _, rfl, rfl, SqL.of l3'.us, at_u ok, M.u sd, kvs, ks, rfl, .inl hu, hks, by omega, fun hs ph hperm _ hph => ?_⟩
  have x3 : Ex H3 (upd H3 ph (.lst (hs.map V.int))) := Ex.new hph
  have w3' := w3.ex x3
  have ee := e3.trans x3
  have hph2 : upd H3 ph (.lst (hs.map V.int)) ph = some (.lst (hs.map V.int)) := upd_same
  have hsl : hs.length ≤ 64 := by rw [hperm.length_eq]; omega
  generalize upd H3 ph (.lst (hs.map V.int)) = H3 at x3 w3' ee hph2 ⊢
  have l3 := l2.ex ee
  have B3 := B2.ex ee
  have K3 : But b H H3 := K2.ex ee
  obtain ⟨p, ns, rfl, hp, hl⟩ : ∃ (p : Addr) (ns : List Int), v = .ref p ∧ H3 p = some (.lst (ns.map V.int)) ∧ ns.length ≤ 64 := by
    cases w3' with
    | list vv hp => exact ⟨_, _, rfl, hp, vl_len hz l.ok vv⟩
  have fin : ∀ (deed k : Int) (H' : Hp) (t : Addr), (deed = 0 ∨ deed = 1) → But b H H' → BoxAt H' b n → H' t = none → Q (.ref t) (upd H' t (.tup [.int deed, .int sd, .int k])) := fun deed k H' t hd kk BB ht =>
    q t deed sd k _ hd ok (but_fresh kk hB BB ht) upd_same (BB.ex (Ex.new ht)) (kk.ex (Ex.new ht))
  have one : ∀ {a : Addr} {xs : List Int} {r : Int} {H' : Hp}, 0 ≤ r → r < (xs.length : Int) → ∃ z, atI (xs.map V.int) r = some (.int z) := fun {a xs r H'} r0 r1 => by
    obtain ⟨v, hv, hg⟩ := at_get (xs := xs.map V.int) r0 (by rw [List.length_map]; exact r1)
    obtain ⟨z, _, rfl⟩ := ints_get hg
    exact ⟨z, hv⟩
  refine ⟨_, _, rfl, ?_⟩
  let σ0 : St := [some (.ref b), some (.ref M.mp), some (.int way), some (.int sd), some (.int (L.kd.many 0)), some (.ref p), some (.ref ph), none]
  refine ⟨fun σ' H' => σ' = σ0 ∧ Ex H3 H', ?_, ?_⟩
  · refine ⟨_, rfl, _, _, rfl, rfl, _, rfl, ?_⟩
    by_cases c : way < 4
    · rw [decide_eq_true c]
      refine iteT ⟨_, rfl, Nat.zero_le _, fun e he => ne_nil hp he ?_⟩
      refine ⟨_, rfl, ?_⟩
      by_cases hn : ns = []
      · rw [decide_eq_true hn]
        exact iteF ⟨rfl, Ex.new he⟩
      · rw [decide_eq_false hn]
        refine iteT ?_
        have e4 : Ex H3 (upd H3 e (.lst [])) := Ex.new he
        have p4 := e4 _ _ hp
        have B4 := B3.ex e4
        refine ⟨_, rfl, _, rfl, _, rfl, _, rfl, _, _, rfl, .inl ⟨_, SqL.of p4, rfl⟩, b, _, n + 1, rfl, ?_, ?_, B4, fun r H5 a0 a1 B5 k5 => ?_⟩
        · rw [List.length_map]; have := List.length_pos_iff.mpr hn; omega
        · rw [List.length_map]; omega
        rw [List.length_map] at a1
        obtain ⟨z, hz⟩ := one (a := p) (H' := H5) a0 a1
        exact ⟨_, _, _, _, rfl, rfl, SqL.of (k5 _ _ (bx_ints B4 p4) p4), hz, three_le, fun t ht => fin 1 z H5 t (.inr rfl) ((K3.ex e4).trans k5) (B5.le (by omega)) ht⟩
    · rw [decide_eq_false c]
      exact iteF ⟨rfl, Ex.refl _⟩
  rintro σ' H4 ⟨rfl, e4⟩
  have l4 := l3.ex e4
  have B4 := B3.ex e4
  have K4 : But b H H4 := K3.ex e4
  have hp4 := e4 _ _ hp
  refine ⟨fun σ' H' => σ' = σ0 ∧ Ex H4 H', ?_, ?_⟩
  · refine ⟨_, rfl, _, _, rfl, rfl, _, rfl, ?_⟩
    by_cases c : way < 6
    · rw [decide_eq_true c]
      refine iteT ⟨_, rfl, Nat.zero_le _, fun e he => ne_nil hp4 he ?_⟩
      refine ⟨_, rfl, ?_⟩
      by_cases hn : ns = []
      · rw [decide_eq_true hn]
        exact iteF ⟨rfl, Ex.new he⟩
      · rw [decide_eq_false hn]
        refine iteT ?_
        have e4' : Ex H4 (upd H4 e (.lst [])) := Ex.new he
        have p4 := e4' _ _ hp4
        have B4 := B4.ex e4'
        refine ⟨_, rfl, _, rfl, _, rfl, _, rfl, _, _, rfl, .inl ⟨_, SqL.of p4, rfl⟩, b, _, n + 1, rfl, ?_, ?_, B4, fun r H5 a0 a1 B5 k5 => ?_⟩
        · rw [List.length_map]; have := List.length_pos_iff.mpr hn; omega
        · rw [List.length_map]; omega
        rw [List.length_map] at a1
        obtain ⟨z, hz⟩ := one (a := p) (H' := H5) a0 a1
        exact ⟨_, _, _, _, rfl, rfl, SqL.of (k5 _ _ (bx_ints B4 p4) p4), hz, three_le, fun t ht => fin 0 z H5 t (.inl rfl) ((K4.ex e4').trans k5) (B5.le (by omega)) ht⟩
    · rw [decide_eq_false c]
      exact iteF ⟨rfl, Ex.refl _⟩
  rintro σ' H5 ⟨rfl, e5⟩
  have B5 := B4.ex e5
  have K5 : But b H H5 := K4.ex e5
  have hph5 := e5 _ _ (e4 _ _ hph2)
  have hm := Knd.many_le l.ok 0
  refine ⟨_, rfl, rfl, _, rfl, ?_⟩
  by_cases c6 : way = 6
  · rw [show decide (V.int way = V.int 6) = true from decide_eq_true (by rw [c6])]
    refine iteT ⟨_, rfl, b, 2, n + 1, rfl, by decide, by decide, B5, fun dd H6 d0 d1 B6 k6 => ?_⟩
    refine ⟨_, rfl, 1, rfl, _, rfl, _, _, rfl, rfl, _, _, rfl, rfl, ⟨by decide, by decide, by decide⟩, ?_⟩
    refine ⟨(by show 5 ≤ sizeLine; decide), fun e he => ?_⟩
    have e7 : Ex H6 (upd H6 e (.lst [.int 0, .int (-1), .int (L.kd.many 0 + 1), .int 11, .int (10 ^ (39 : Int).toNat)])) := Ex.new he
    have B7 := B6.ex e7
    refine ⟨_, rfl, b, 5, n, rfl, by decide, by decide, B7, fun r H8 r0 r1 B8 k8 => ?_⟩
    obtain ⟨z, hzz⟩ := one (a := e) (H' := H8) (xs := [0, -1, L.kd.many 0 + 1, 11, 10 ^ (39 : Int).toNat]) r0 (by show r < 5; exact r1)
    exact ⟨_, _, _, _, rfl, rfl, SqL.of (k8 _ _ (B6.ne he) upd_same), hzz, three_le, fun t ht => fin dd z H8 t (by omega) (((K5.trans k6).ex e7).trans k8) B8 ht⟩
  rw [show decide (V.int way = V.int 6) = false from decide_eq_false fun z => c6 (V.int.inj z)]
  refine iteF ?_
  refine ⟨fun σ' H' => σ' = σ0 ∧ Ex H5 H', ?_, ?_⟩
  · refine ⟨_, rfl, _, _, rfl, rfl, _, rfl, ?_⟩
    by_cases c : way < 9
    · rw [decide_eq_true c]
      refine iteT ⟨_, rfl, Nat.zero_le _, fun e he => ne_nil hph5 he ?_⟩
      refine ⟨_, rfl, ?_⟩
      by_cases hn : hs = []
      · rw [decide_eq_true hn]
        exact iteF ⟨rfl, Ex.new he⟩
      · rw [decide_eq_false hn]
        refine iteT ?_
        have e6 : Ex H5 (upd H5 e (.lst [])) := Ex.new he
        have p6 := e6 _ _ hph5
        have B6 := B5.ex e6
        refine ⟨_, rfl, _, rfl, _, rfl, _, _, rfl, .inl ⟨_, SqL.of p6, rfl⟩, b, _, n + 1, rfl, ?_, ?_, B6, fun r H7 a0 a1 B7 k7 => ?_⟩
        · rw [List.length_map]; have := List.length_pos_iff.mpr hn; omega
        · rw [List.length_map]; omega
        rw [List.length_map] at a1
        obtain ⟨z, hz⟩ := one (a := p) (H' := H7) a0 a1
        refine ⟨_, _, _, _, rfl, rfl, SqL.of (k7 _ _ (bx_ints B6 p6) p6), hz, ?_⟩
        exact ⟨_, rfl, .inl ⟨_, rfl, _, _, rfl, rfl, (by show (0 : Int) < 2; decide), _, rfl, _, rfl, three_le, fun t ht => fin (way % 2) z H7 t (by omega) ((K5.ex e6).trans k7) (B7.le (by omega)) ht⟩⟩
    · rw [decide_eq_false c]
      exact iteF ⟨rfl, Ex.refl _⟩
  rintro σ' H6 ⟨rfl, e6⟩
  have B6 := B5.ex e6
  have K6 : But b H H6 := K5.ex e6
  have mx : 0 < (if L.kd.many 0 > 1 then L.kd.many 0 else 1) ∧ (if L.kd.many 0 > 1 then L.kd.many 0 else 1) < 1073741824 := by split <;> omega
  refine ⟨_, rfl, rfl, _, rfl, ?_⟩
  by_cases c : way = 9
  · rw [show decide (V.int way = V.int 9) = true from decide_eq_true (by rw [c])]
    refine iteT ⟨_, rfl, _, rfl, _, rfl, _, _, rfl, b, _, n + 1, rfl, mx.1, mx.2, B6, fun r H7 a0 a1 B7 k7 => ?_⟩
    exact ⟨_, _, rfl, rfl, three_le, fun t ht => fin 1 _ H7 t (.inr rfl) (K6.trans k7) (B7.le (by omega)) ht⟩
  · rw [show decide (V.int way = V.int 9) = false from decide_eq_false fun z => c (V.int.inj z)]
    refine iteF ⟨_, rfl, _, rfl, _, rfl, _, _, rfl, b, _, n + 1, rfl, mx.1, mx.2, B6, fun r H7 a0 a1 B7 k7 => ?_⟩
    exact ⟨_, _, rfl, rfl, three_le, fun t ht => fin 0 _ H7 t (.inl rfl) (K6.trans k7) (B7.le (by omega)) ht⟩
end
end L2.U


set_option Elab.async false
set_option linter.all false
set_option maxRecDepth 100000
set_option maxHeartbeats 4000000
namespace L2.U
open PySem PySem.Spec PyProof.Rows Evl
section
variable {P : Program} {w : World} {K : PySem.W.Frag} {mg : Str → Option Value} {base : Heap}
def Ln.cells (A : Ln) : List Addr := [A.a0, A.a1, A.d0, A.d1]
def Md.cells (M : Md) : List Addr := [M.t0, M.t1, M.u0, M.u1]
structure Pr where
  pr : Addr
  A : Ln
  M : Md
def Pr.cells (R : Pr) : List Addr := R.A.cells ++ R.M.cells
structure PairAt (C : Addr) (R : Pr) (L : LS) (H : Hp) : Prop where
  pr : H R.pr = some (.lst [.ref R.A.p, .ref R.M.mp])
  line : LineAt C R.A L H
  mod : ModAt R.M L H
theorem PairAt.ex {C : Addr} {R : Pr} {L : LS} {H H' : Hp} (h : PairAt C R L H) (e : Ex H H') : PairAt C R L H' := ⟨e _ _ h.pr, h.line.ex e, h.mod.ex e⟩
theorem PairAt.box {C : Addr} {R : Pr} {L : LS} {H H' : Hp} {b : Addr} {n : Nat} (h : PairAt C R L H) (hb : BoxAt H b n) (k : But b H H') : PairAt C R L H' := ⟨k _ _ (bx_refs hb h.pr) h.pr, h.line.box hb k, h.mod.box hb k⟩
def spMade (C : Addr) : Sp := fun vs H Q _ => ∃ (bx : Addr) (n : Nat), vs = [.ref bx] ∧ BoxAt H bx (n + 4) ∧
  ∀ (R : Pr) (m : Int) H', PairAt C R ⟨.wir m, [], [], [], []⟩ H' → R.cells.Nodup → (∀ a ∈ R.pr :: R.cells, H a = none) → BoxAt H' bx n → But bx H H' → Q (.ref R.pr) H'
theorem ok_law_made (T : TK K mg) : FnOk P w K mg base CX0 7 T.law_made.a T.law_made.fd ["box"] (spMade T.C) := by
  refine T.law_made.F.ok sc_law_made (fun vs H Q E h => ?_) (fun cdv A outer s H vs Q E hr h => ?_)
  · obtain ⟨bx, n, rfl, _⟩ := h; rfl
  obtain ⟨bx, n, rfl, hB, q⟩ := h
  refine ⟨_, (pss_cons (ps_set (i := 1) sc_law_made.nd rfl (Or.inl rfl) (pe_ix (kixl K) (pe_lst (pa_cons pe_int (pa_cons pe_int (pa_cons pe_int (pa_cons pe_int (pa_cons pe_int (pa_cons pe_int (pa_cons pe_int (pa_cons (pe_call (ok_law_take T.toTA1) (hr.mono (by decide)) rfl T.law_take.m T.law_take.F.kp T.law_take.b .nil pass0 (pa_cons (pv 0) (pa_cons pe_int pa_nil))) pa_nil))))))))) (pe_call (ok_law_take T.toTA1) (hr.mono (by decide)) rfl T.law_take.m T.law_take.F.kp T.law_take.b .nil pass0 (pa_cons (pv 0) (pa_cons pe_int pa_nil))) (fun _ _ => rfl)))
    (pss_cut (ps_set (i := 2) sc_law_made.nd rfl (Or.inl rfl) (pe_ifExp (pt_cmpR op_eq (pe_call (ok_law_take T.toTA1) (hr.mono (by decide)) rfl T.law_take.m T.law_take.F.kp T.law_take.b .nil pass0 (pa_cons (pv 0) (pa_cons pe_int pa_nil))) pe_int (nomark _)) (by exact (pe_make T.mkc (ok_Line_init T.toTL) (hr.mono (by decide)) rfl T.gL T.m_init.b .nil passL (pa_cons (pe_tup (pa_cons pe_str (pa_cons (pv 1) pa_nil))) pa_nil))) (by exact (pe_makeK0 T.mkc (ok_Line_init T.toTL) (hr.mono (by decide)) rfl T.gL T.kb_init_spec passL (pk_cons (pe_tup (pa_cons pe_str (pa_cons (pv 1) pa_nil))) pk_nil)))))
    (pss_one (ps_ret (pe_lst (pa_cons (pv 2) (pa_cons (pe_lst (pa_cons (pv 1) (pa_cons (pe_lst (pa_cons pe_dnewK (pa_cons pe_dnewK pa_nil))) (pa_cons (pe_lst (pa_cons (pe_lst pa_nil) (pa_cons (pe_lst pa_nil) pa_nil))) pa_nil)))) pa_nil))))))), ?_⟩
  refine ⟨_, rfl, bx, 11, n + 3, rfl, by decide, by decide, hB, fun x0 H0 x00 x01 B0 k0 => ⟨(by show 8 ≤ sizeLine; decide), fun pl hpl => ?_⟩⟩
  have BL := B0.ex (Ex.new (o := .lst ([10, 5, 3, 1, 0, 2, 4, x0].map V.int)) hpl)
  refine ⟨_, rfl, bx, 8, n + 2, rfl, by decide, by decide, BL, fun r H1 r0 r1 B1 k1' => ?_⟩
  obtain ⟨m, hat, hm⟩ : ∃ m : Int, atI ([10, 5, 3, 1, 0, 2, 4, x0].map V.int) r = some (.int m) ∧ 0 ≤ m ∧ m ≤ 10 := by
    obtain ⟨v, hv, hg⟩ := at_get (xs := [10, 5, 3, 1, 0, 2, 4, x0].map V.int) r0 (by show r < 8; exact r1)
    obtain ⟨z, hz, rfl⟩ := ints_get hg
    have := List.mem_of_getElem? hz
    simp only [List.mem_cons, List.not_mem_nil, or_false] at this
    exact ⟨z, hv, by omega⟩
  refine ⟨_, _, _, _, rfl, rfl, SqL.of (k1' _ _ (B0.ne hpl) upd_same), hat, ?_⟩
  have k1 : But bx H H1 := (k0.ex (Ex.new hpl)).trans k1'
  have B1 := B1.le (show n + 1 ≤ n + 2 by omega)
  refine ⟨fun σ' H' => ∃ (A : Ln), σ' = [some (.ref bx), some (.int m), some (.ref A.p)] ∧ LineAt T.C A ⟨.wir m, [], [], [], []⟩ H' ∧ A.cells.Nodup ∧ (∀ a ∈ A.cells, H a = none) ∧ BoxAt H' bx n ∧ But bx H H', ?_, ?_⟩
  · refine ⟨_, rfl, bx, 2, n, rfl, by decide, by decide, B1, fun c H2 c0 c1 B2 k2 => ⟨rfl, _, rfl, ite2 (fun _ => ?_) (fun _ => ?_)⟩⟩
    all_goals
      refine ⟨_, rfl, two_le, fun t ht => ?_⟩
      first
        | intro x dx hx hdx nxd
        | (refine ⟨rfl, rfl, ?_⟩; intro x dx hx hdx nxd)
      have x1 : Ex H2 _ := Ex.new (o := .tup [.str "wires", .int m]) ht
      have x2 := x1.trans (Ex.new (o := .own x) hdx)
      have hx2 : upd (upd H2 t (.tup [.str "wires", .int m])) dx (.own x) x = none := by rw [upd_ne nxd.symm]; exact hx
      have x3 := x2.trans (Ex.new (o := .ins T.C dx []) hx2)
      refine ⟨x, t, dx, .wir m, rfl, upd_same, ((Ex.new hdx).trans (Ex.new hx2)) _ _ upd_same, hm, fun A H' ap adx asp lA nd fr kk => ⟨rfl, A, ?_, lA, nd, fun a ha => ?_, ?_, ?_⟩⟩
      · rw [ap]; rfl
      · have h2 : a ∈ [A.a0, A.a1, A.d0, A.d1, A.sb, A.cb] := by
          have h3 : a ∈ [A.a0, A.a1, A.d0, A.d1] := ha
          simp only [List.mem_cons, List.not_mem_nil, or_false] at h3 ⊢
          rcases h3 with h | h | h | h <;> simp [h]
        exact but_fresh (k1.trans k2) hB B2 (fresh_back x3 (fr a h2))
      · have e : Ex H2 H' := fun a o h => kk a o (ne_of_none (x2 _ _ h) hx2) (x3 _ _ h)
        exact B2.ex e
      · have e : Ex H2 H' := fun a o h => kk a o (ne_of_none (x2 _ _ h) hx2) (x3 _ _ h)
        exact (k1.trans k2).ex e
  rintro σ' H2 ⟨A, rfl, l, nd, fr, B2, k2⟩
  refine ⟨_, rfl, _, rfl, fun u0 h1 u1 h2 => ⟨two_le, fun us h3 => ⟨Nat.zero_le _, fun t0 h4 => ⟨Nat.zero_le _, fun t1 h5 => ⟨two_le, fun rs h6 => ⟨three_le, fun mp h7 => ⟨two_le, fun pr h8 => ?_⟩⟩⟩⟩⟩⟩⟩
  have y8 := Ex.new (o := .lst [.ref A.p, .ref mp]) h8
  have y7 := (Ex.new (o := .lst [.int m, .ref us, .ref rs]) h7).trans y8
  have y6 := (Ex.new (o := .lst [.ref t0, .ref t1]) h6).trans y7
  have y5 := (Ex.new (o := .lst []) h5).trans y6
  have y4 := (Ex.new (o := .lst []) h4).trans y5
  have y3 := (Ex.new (o := .lst [.ref u0, .ref u1]) h3).trans y4
  have y2 := (Ex.new (o := .dK []) h2).trans y3
  have y1 := (Ex.new (o := .dK []) h1).trans y2
  have z1 : Ex H2 (upd H2 u0 (.dK [])) := Ex.new h1
  have z2 := z1.trans (Ex.new (o := .dK []) h2)
  have z3 := z2.trans (Ex.new (o := .lst [.ref u0, .ref u1]) h3)
  have z4 := z3.trans (Ex.new (o := .lst []) h4)
  have z5 := z4.trans (Ex.new (o := .lst []) h5)
  have z6 := z5.trans (Ex.new (o := .lst [.ref t0, .ref t1]) h6)
  have z7 := z6.trans (Ex.new (o := .lst [.int m, .ref us, .ref rs]) h7)
  have f2 := fresh_back z1 h2
  have f4 := fresh_back z3 h4
  have f5 := fresh_back z4 h5
  have f8 := fresh_back z7 h8
  have back : ∀ {a : Addr}, H2 a = none → H a = none := fun h => but_fresh k2 hB B2 h
  have some_l : ∀ a ∈ A.cells, H2 a = some (.lst []) := by
    intro a ha
    have h3 : a ∈ [A.a0, A.a1, A.d0, A.d1] := ha
    simp only [List.mem_cons, List.not_mem_nil, or_false] at h3
    rcases h3 with rfl | rfl | rfl | rfl
    · exact l.a0
    · exact l.a1
    · exact l.d0
    · exact l.d1
  have em : UpOk [] [] [] := ⟨fun w => rfl, (fun w h => absurd h (by simp)), [], rfl, .nil⟩
  refine q ⟨pr, A, ⟨mp, us, rs, t0, t1, u0, u1⟩⟩ m _ ⟨upd_same, l.ex y1, ⟨y8 _ _ upd_same, y4 _ _ upd_same, y7 _ _ upd_same, y5 _ _ upd_same, y6 _ _ upd_same, ⟨[], y2 _ _ upd_same, em⟩, ⟨[], y3 _ _ upd_same, em⟩, ⟨m, rfl⟩, hm⟩⟩ ?_ ?_ (B2.ex y1) (k2.ex y1)
  · refine List.nodup_append.mpr ⟨nd, ?_, ?_⟩
    · show [t0, t1, u0, u1].Nodup
      have n1 : t0 ≠ t1 := ne_of_none upd_same h5
      have n2 : t0 ≠ u0 := (ne_of_none ((Ex.new h3) _ _ ((Ex.new h2) _ _ upd_same)) h4).symm
      have n3 : t0 ≠ u1 := (ne_of_none ((Ex.new h3) _ _ upd_same) h4).symm
      have n4 : t1 ≠ u0 := (ne_of_none ((Ex.new h4) _ _ ((Ex.new h3) _ _ ((Ex.new h2) _ _ upd_same))) h5).symm
      have n5 : t1 ≠ u1 := (ne_of_none ((Ex.new h4) _ _ ((Ex.new h3) _ _ upd_same)) h5).symm
      have n6 : u0 ≠ u1 := ne_of_none upd_same h2
      simp only [List.nodup_cons, List.mem_cons, List.not_mem_nil, or_false, not_or, not_false_eq_true, List.nodup_nil, and_true]
      exact ⟨⟨n1, n2, n3⟩, ⟨n4, n5⟩, n6⟩
    · intro a ha c hc
      have h3 : c ∈ [t0, t1, u0, u1] := hc
      simp only [List.mem_cons, List.not_mem_nil, or_false] at h3
      rcases h3 with rfl | rfl | rfl | rfl
      · exact ne_of_none (some_l a ha) f4
      · exact ne_of_none (some_l a ha) f5
      · exact ne_of_none (some_l a ha) h1
      · exact ne_of_none (some_l a ha) f2
  · intro a ha
    rcases List.mem_cons.mp ha with rfl | ha
    · exact back f8
    rcases List.mem_append.mp ha with h | h
    · exact fr a h
    · have h3 : a ∈ [t0, t1, u0, u1] := h
      simp only [List.mem_cons, List.not_mem_nil, or_false] at h3
      rcases h3 with rfl | rfl | rfl | rfl
      · exact back f4
      · exact back f5
      · exact back h1
      · exact back f2
end
end L2.U


set_option Elab.async false
set_option linter.all false
set_option maxRecDepth 100000
set_option maxHeartbeats 4000000
namespace L2.U
open PySem PySem.Spec PyProof.Rows Evl
section
variable {P : Program} {w : World} {K : PySem.W.Frag} {mg : Str → Option Value} {base : Heap}
/-! ### the model's own copy -/
def wOf (own : List Int) (z : Int) : V := if z ∈ own then .str "raised" else .str "came"
def entOf (own : List Int) (z : Int) : Key × V := (.inl z, wOf own z)
theorem valV_ent {own ys : List Int} {z : Int} : valV (ys.map (entOf own)) (.inl z) = if z ∈ ys then some (wOf own z) else none := by
  unfold valV
  induction ys with
  | nil => rfl
  | cons y r ih =>
    rw [List.map_cons, List.find?_cons]
    by_cases e : y = z
    · subst e
      simp [entOf]
    · have : decide ((entOf own y).1 = (Sum.inl z : Key)) = false := decide_eq_false (by intro h; exact e (Sum.inl.inj h))
      rw [this, ih]
      simp [List.mem_cons, Ne.symm e]
theorem merge_ent {own : List Int} : ∀ (ys acc : List Int), (acc ++ ys).Nodup → mergeK (acc.map (entOf own)) (ys.map (entOf own)) = (acc ++ ys).map (entOf own)
  | [], acc, _ => by rw [List.append_nil]; rfl
  | y :: r, acc, nd => by
    have hn : y ∉ acc := fun h => (List.nodup_append.mp nd).2.2 y h y (by simp) rfl
    have step : putK (acc.map (entOf own)) (.inl y) (wOf own y) = (acc ++ [y]).map (entOf own) := by
      rw [putK_end (by rw [valV_ent, if_neg hn]), List.map_append]
      rfl
    have ih := merge_ent (own := own) r (acc ++ [y]) (by rw [List.append_assoc]; exact nd)
    rw [List.append_assoc] at ih
    rw [← show _ = (acc ++ y :: r).map (entOf own) from ih, ← step]
    rfl
theorem up_ent {own came ys : List Int} (d : ∀ w ∈ own, w ∉ came) (pm : ys.Perm (own ++ came)) : UpOk (ys.map (entOf own)) own came := by
  refine ⟨fun w => ?_, d, ys, by rw [List.map_map]; rfl, pm⟩
  rw [valV_ent]
  unfold wOf
  by_cases a : w ∈ own
  · rw [if_pos (pm.mem_iff.mpr (by simp [a])), if_pos a, if_pos a]
  · rw [if_neg a, if_neg a]
    by_cases c : w ∈ came
    · rw [if_pos (pm.mem_iff.mpr (by simp [c])), if_pos c]
    · rw [if_neg (fun h => by have := pm.mem_iff.mp h; simp [a, c] at this), if_neg c]
theorem paired_mono {α β : Type} {F G : α → β → Prop} (h : ∀ a b, F a b → G a b) : ∀ {xs : List α} {ys : List β}, Paired F xs ys → Paired G xs ys
  | _, _, .nil => .nil
  | _, _, .cons a r => .cons (h _ _ a) (paired_mono h r)
theorem paired_len {α β : Type} {F : α → β → Prop} : ∀ {xs : List α} {ys : List β}, Paired F xs ys → xs.length = ys.length
  | _, _, .nil => rfl
  | _, _, .cons _ r => by rw [List.length_cons, List.length_cons, paired_len r]
def spAgain : Sp := fun vs H Q _ => ∃ (M : Md) (L : LS), vs = [.ref M.mp] ∧ ModAt M L H ∧ LSm L ∧
  ∀ (N : Md) H', ModAt N L H' → N.cells.Nodup → (∀ a ∈ N.mp :: N.cells, H a = none) → Ex H H' → Q (.ref N.mp) H'
theorem ok_law_again (T : TK K mg) : FnOk P w K mg base CX0 1 T.law_again.a T.law_again.fd ["model"] spAgain := by
  refine T.law_again.F.ok sc_law_again (fun vs H Q E h => ?_) (fun cdv A outer s H vs Q E hr h => ?_)
  · obtain ⟨M, L, rfl, _⟩ := h; rfl
  obtain ⟨M, L, rfl, l, hz, q⟩ := h
  refine ⟨_, (pss_cons (ps_set (i := 1) sc_law_again.nd rfl (Or.inl rfl) (pe_lst pa_nil))
    (pss_cons (ps_for PassesOwn.never rfl (kpil K (pe_ix (kixl K) (pv 0) pe_int (fun _ _ => rfl))) (pg_name (i := 2) sc_law_again.nd rfl (Or.inr rfl)) (pss_one (ps_expr (pe_bm PySem.F.plainAttrs_list PySem.F.slot_list_append PySem.F.type_list_append mt_append (pv 1) (pa_cons (pe_callTy (call_dictP rfl) (by rfl) T.z_dict (by decide +kernel) (pa_cons (pe_lc (own := [("wire", 3)]) (g := gName 3) (by rfl) sc_law_again.nd (kpil K (pe_callB (call_sortedDI rfl) (by rfl) T.z_sorted (by decide +kernel) (pa_cons (pv 2) pa_nil))) (blkOk_by (own := [("wire", 3)]) (N := ["model", "ups", "up", "wire", "wires"]) (sc := defScope s_law_again) (by decide +kernel)) (fun _ _ _ _ _ => (pg_name (i := 3) sc_law_again.nd rfl (Or.inl rfl))) (fun _ _ _ _ _ => pts_nil) (fun _ _ _ _ _ => (pe_tup (pa_cons (pv 3) (pa_cons (pe_dget (hu_of hr) (pv 2) (pv 3) (fun _ _ => rfl)) pa_nil))))) pa_nil)) pa_nil)))))
    (pss_one (ps_ret (pe_lst (pa_cons (pe_ix (kixl K) (pv 0) pe_int (fun _ _ => rfl)) (pa_cons (pv 1) (pa_cons (pe_lc (own := [("wires", 4)]) (g := gName 4) (by rfl) sc_law_again.nd (kpil K (pe_ix (kixl K) (pv 0) pe_int (fun _ _ => rfl))) (blkOk_by (own := [("wires", 4)]) (N := ["model", "ups", "up", "wire", "wires"]) (sc := defScope s_law_again) (by decide +kernel)) (fun _ _ _ _ _ => (pg_name (i := 4) sc_law_again.nd rfl (Or.inl rfl))) (fun _ _ _ _ _ => pts_nil) (fun _ _ _ _ _ => (pe_callTy (klist K) (by rfl) T.z_list (by decide +kernel) (pa_cons (pv 4) pa_nil)))) pa_nil)))))))), ?_⟩
  refine ⟨Nat.zero_le _, fun U hU => ?_⟩
  have eU : Ex H (upd H U (.lst [])) := Ex.new hU
  have lU := l.ex eU
  refine ⟨_, rfl, _, _, _, _, rfl, rfl, SqL.of lU.mp, rfl, M.us, rfl, ⟨_, SqL.of lU.us⟩, for_list (xs := [V.ref M.u0, V.ref M.u1]) (fun i σ H' => Ex H H' ∧ (∃ es : List Addr, es.length = i ∧ H' U = some (.lst (es.map V.ref)) ∧ (∀ e ∈ es, H e = none) ∧ es.Nodup ∧
    ∀ (j : Nat) (e : Addr), es[j]? = some e → ∃ kvs, H' e = some (.dK kvs) ∧ UpOk kvs (L.s j) (L.c j)) ∧ ∃ x2 x3 x4, σ = [some (.ref M.mp), some (.ref U), x2, x3, x4]) ⟨eU, ⟨[], rfl, upd_same, (fun e h => absurd h (by simp)), .nil, (fun j e h => by cases h)⟩, _, _, _, rfl⟩ (fun i σ H' _ p => SqL.of (p.1 _ _ l.us)) ?_ ?_⟩
  · rintro i x σ H1 hx ⟨e1, ⟨es, hl, hd, hes, hn, hu⟩, x2, x3, x4, rfl⟩
    have hi : i < 2 := (List.getElem?_eq_some_iff.mp hx).1
    have ok : Side (i : Int) := by unfold Side; omega
    obtain rfl : x = .ref (M.u i) := by
      rcases (by omega : i = 0 ∨ i = 1) with rfl | rfl
      · exact (Option.some.inj hx).symm
      · exact (Option.some.inj hx).symm
    have l1 := l.ex e1
    obtain ⟨kvs, hk, up⟩ := l1.u i
    obtain ⟨ks, hks, pm⟩ := up.keys
    have y1 := hz.s i
    have y2 := hz.c i
    have pl := pm.length_eq
    rw [List.length_append] at pl
    refine ⟨_, rfl, .inl ⟨rfl, _, SqL.of hd⟩, ?_⟩
    refine ⟨_, rfl, M.u i, kvs, ks, rfl, .inl hk, hks, by omega, fun ys p hperm _ hp => ⟨p, rfl, ⟨_, SqL.of upd_same⟩, fun D hD => lc_list (xs := ys.map V.int)
      (fun k H' => Ex (upd H1 p (.lst (ys.map V.int))) H' ∧ ∃ ts : List Addr, H' D = some (.lst (ts.map V.ref)) ∧ Paired (fun t (kv : Key × V) => H' t = some (.tup [kV kv.1, kv.2])) ts ((ys.take k).map (entOf (L.s i)))) ⟨Ex.new hD, [], upd_same, .nil⟩ (fun k H' _ z => SqL.of (z.1 _ _ upd_same)) ?_ ?_⟩⟩
    · rintro k x H2 hx2 ⟨e2, ts, hdd, pr⟩
      obtain ⟨z, hz1, rfl⟩ := ints_get hx2
      have x1 := (Ex.new (o := .lst (ys.map V.int)) hp).trans e2
      have zm : z ∈ L.s i ++ L.c i := pm.mem_iff.mp (hperm.mem_iff.mp (List.mem_of_getElem? hz1))
      have gv : valV kvs (.inl z) = some (wOf (L.s i) z) := by
        rw [up.val z]
        unfold wOf
        by_cases c : z ∈ L.s i
        · rw [if_pos c, if_pos c]
        · rw [if_neg c, if_neg c, if_pos ((List.mem_append.mp zm).resolve_left c)]
      have gg := DGet.k (k := .inl z) (x1 _ _ hk)
      rw [gv] at gg
      have tl := paired_len pr
      rw [List.length_map, List.length_take] at tl
      have yl := hperm.length_eq
      refine ⟨rfl, tyes ⟨_, rfl, _, rfl, _, rfl, M.u i, _, rfl, gg, two_le, fun t ht => ?_⟩⟩
      have x4 : Ex H2 (upd H2 t (.tup [.int z, wOf (L.s i) z])) := Ex.new ht
      refine ⟨_, x4 _ _ hdd, small1000 (by rw [List.length_map]; omega), (e2.trans x4).mut hD, ts ++ [t], by rw [upd_same, List.map_append]; rfl, ?_⟩
      rw [List.take_add_one, hz1, List.map_append]
      have kD : But D (upd H2 t (.tup [.int z, wOf (L.s i) z])) (upd (upd H2 t (.tup [.int z, wOf (L.s i) z])) D (.lst (ts.map V.ref ++ [.ref t]))) := But.upd
      refine Paired.snoc (paired_mono (fun a b hab => ?_) pr) ?_
      · exact kD _ _ (ne_of hab hdd (by intro w; cases w)) (x4 _ _ hab)
      · exact kD _ _ (ne_of_none hdd ht).symm upd_same
    · rintro H2 ⟨e2, ts, hdd, pr⟩
      rw [List.length_map, List.take_length] at pr
      have x1 := (Ex.new (o := .lst (ys.map V.int)) hp).trans e2
      refine ⟨D, ts, ys.map (entOf (L.s i)), rfl, SqL.of hdd, paired_mono (fun a b hab => SqT.of hab) pr, fun p2 hp2 => ?_⟩
      have ynd : ys.Nodup := (hperm.trans pm).nodup_iff.mpr (hz.nd i)
      have mg := merge_ent (own := L.s i) ys [] ynd
      rw [List.map_nil, List.nil_append] at mg
      rw [mg]
      have x3 : Ex H2 (upd H2 p2 (.dK (ys.map (entOf (L.s i))))) := Ex.new hp2
      have x13 := x1.trans x3
      have hdU := x13 _ _ hd
      have kU : But U (upd H2 p2 (.dK (ys.map (entOf (L.s i))))) (upd (upd H2 p2 (.dK (ys.map (entOf (L.s i))))) U (.lst (es.map V.ref ++ [.ref p2]))) := But.upd
      have pU : p2 ≠ U := (ne_of_none (x1 _ _ hd) hp2).symm
      refine ⟨U, _, _, rfl, rfl, hdU, small1000 (by rw [List.length_map]; omega), (e1.trans x13).mut hU, ⟨es ++ [p2], by rw [List.length_append, hl]; rfl, by rw [upd_same, List.map_append]; rfl, ?_, ?_, ?_⟩, _, _, _, rfl⟩
      · intro e he
        rcases List.mem_append.mp he with h | h
        · exact hes e h
        · obtain rfl := List.mem_singleton.mp h
          exact fresh_back (e1.trans x1) hp2
      · refine List.nodup_append.mpr ⟨hn, by simp, ?_⟩
        intro e he e' he'
        obtain rfl := List.mem_singleton.mp he'
        obtain ⟨j, hj⟩ := List.mem_iff_getElem?.mp he
        obtain ⟨kv, hkv, _⟩ := hu j e hj
        exact ne_of_none (x1 _ _ hkv) hp2
      · intro j e hj
        by_cases c : j < es.length
        · rw [List.getElem?_append_left c] at hj
          obtain ⟨kv, hkv, uk⟩ := hu j e hj
          exact ⟨kv, kU _ _ (ne_of hkv hd (by intro w; cases w)) (x13 _ _ hkv), uk⟩
        · rw [List.getElem?_append_right (by omega)] at hj
          have j0 : j - es.length = 0 := by
            have := (List.getElem?_eq_some_iff.mp hj).1
            simp only [List.length_cons, List.length_nil] at this
            omega
          rw [j0] at hj
          obtain rfl := Option.some.inj hj
          have ji : j = i := by omega
          rw [ji]
          exact ⟨_, kU _ _ pU upd_same, up_ent up.dis (hperm.trans pm)⟩
  · rintro σ H1 ⟨e1, ⟨es, hl, hd, hes, hn, hu⟩, x2, x3, x4, rfl⟩
    match es, hl with
    | [e0, e1'], _ =>
      have l1 := l.ex e1
      have ne : e0 ≠ e1' := by
        have := hn
        simp only [List.nodup_cons, List.mem_cons, List.not_mem_nil, or_false] at this
        exact this.1
      obtain ⟨kv0, hk0, u0⟩ := hu 0 e0 rfl
      obtain ⟨kv1, hk1, u1⟩ := hu 1 e1' rfl
      refine ⟨_, rfl, _, _, _, _, rfl, rfl, SqL.of l1.mp, rfl, _, rfl, _, rfl, _, _, _, _, rfl, rfl, SqL.of l1.mp, rfl, M.rs, rfl, ⟨_, SqL.of l1.rs⟩, fun D2 hD2 => cp_two (SqL.of l1.rs) l1.t0 l1.t1 (Nat.le_trans (Nat.le_of_lt (hz.s 0)) (by decide)) (Nat.le_trans (Nat.le_of_lt (hz.s 1)) (by decide)) (by show 4 < 5; decide) hD2 fun c2 c3 H3 e3 f2 f3 n23 r2 r3 rD2 => ⟨three_le, fun p hp => ?_⟩⟩
      have e4 : Ex H3 (upd H3 p (.lst [.int (L.kd.many 0), .ref U, .ref D2])) := Ex.new hp
      have e34 := e3.trans e4
      have ea := e1.trans e34
      refine q ⟨p, U, D2, c2, c3, e0, e1'⟩ _ ⟨upd_same, e34 _ _ hd, e4 _ _ rD2, e4 _ _ r2, e4 _ _ r3, ⟨kv0, e34 _ _ hk0, u0⟩, ⟨kv1, e34 _ _ hk1, u1⟩, l.lets, l.ok⟩ ?_ ?_ ea
      · show [c2, c3, e0, e1'].Nodup
        simp only [List.nodup_cons, List.mem_cons, List.not_mem_nil, or_false, not_or, not_false_eq_true, List.nodup_nil, and_true]
        exact ⟨⟨n23, (ne_of_none hk0 f2).symm, (ne_of_none hk1 f2).symm⟩, ⟨(ne_of_none hk0 f3).symm, (ne_of_none hk1 f3).symm⟩, ne⟩
      · intro a ha
        rcases List.mem_cons.mp ha with rfl | ha
        · exact fresh_back (e1.trans e3) hp
        have h3 : a ∈ [c2, c3, e0, e1'] := ha
        simp only [List.mem_cons, List.not_mem_nil, or_false] at h3
        rcases h3 with rfl | rfl | rfl | rfl
        · exact fresh_back e1 f2
        · exact fresh_back e1 f3
        · exact hes _ (by simp)
        · exact hes _ (by simp)
end
end L2.U


set_option Elab.async false
set_option linter.all false
set_option maxRecDepth 100000
set_option maxHeartbeats 4000000
namespace L2.U
open PySem PySem.Spec PyProof.Rows Evl
section
variable {P : Program} {w : World} {K : PySem.W.Frag} {mg : Str → Option Value} {base : Heap}
/-! ### what is within a line of wires -/
structure LGood (L : LS) : Prop where
  s : ∀ s, (L.s s).Nodup ∧ ∀ k ∈ L.s s, 1 ≤ k ∧ k ≤ L.kd.many 0
  c : ∀ s, (L.c s).Nodup ∧ ∀ k ∈ L.c s, 1 ≤ k ∧ k ≤ L.kd.many 0
  dis : ∀ s, ∀ k ∈ L.s s, k ∉ L.c s
  wir : ∃ m, L.kd = .wir m
  ok : L.kd.Ok
theorem pigeon {n : Int} {xs : List Int} (nd : xs.Nodup) (h : ∀ x ∈ xs, 1 ≤ x ∧ x ≤ n) : xs.length ≤ n.toNat := by
  have := sub_len nd (ys := upTo n) fun x hx => upTo_mem.mpr (h x hx)
  rw [upTo_len] at this
  exact this
theorem LGood.sm {L : LS} (h : LGood L) : LSm L := by
  have hm := Knd.many_le h.ok 0
  refine ⟨fun s => ?_, fun s => ?_, fun s => ?_, ?_⟩
  · have := pigeon (h.s s).1 (h.s s).2; omega
  · have := pigeon (h.c s).1 (h.c s).2; omega
  · refine List.nodup_append.mpr ⟨(h.s s).1, (h.c s).1, ?_⟩
    rintro a ha b hb rfl
    exact h.dis s a ha hb
  · intro k hk
    rcases List.mem_append.mp hk with m | m
    · exact (h.s 0).2 k m
    · exact (h.s 1).2 k m
def LS.put (L : LS) (deed s k : Int) : LS :=
  if deed = 0 then (if s = 0 then { L with s0 := L.s0 ++ [k] } else { L with s1 := L.s1 ++ [k] }) else (if s = 0 then { L with c0 := L.c0 ++ [k] } else { L with c1 := L.c1 ++ [k] })
theorem put_kd {L : LS} {deed s k : Int} : (L.put deed s k).kd = L.kd := by
  unfold LS.put
  split <;> split <;> rfl
theorem put_s {L : LS} {deed s k s' : Int} (hs : Side s) : (L.put deed s k).s s' = if deed = 0 ∧ (s = 0 ↔ s' = 0) then L.s s' ++ [k] else L.s s' := by
  unfold LS.put LS.s
  have hs' : s = 0 ∨ s = 1 := by unfold Side at hs; omega
  by_cases c : deed = 0 <;> by_cases d : s' = 0 <;> rcases hs' with rfl | rfl <;> simp [c, d]
theorem put_c {L : LS} {deed s k s' : Int} (hs : Side s) : (L.put deed s k).c s' = if ¬ deed = 0 ∧ (s = 0 ↔ s' = 0) then L.c s' ++ [k] else L.c s' := by
  unfold LS.put LS.c
  have hs' : s = 0 ∨ s = 1 := by unfold Side at hs; omega
  by_cases c : deed = 0 <;> by_cases d : s' = 0 <;> rcases hs' with rfl | rfl <;> simp [c, d]
theorem s_iff {L : LS} {s s' : Int} (h : s = 0 ↔ s' = 0) : L.s s = L.s s' := by
  unfold LS.s
  by_cases c : s = 0
  · rw [if_pos c, if_pos (h.mp c)]
  · rw [if_neg c, if_neg (fun z => c (h.mpr z))]
theorem c_iff {L : LS} {s s' : Int} (h : s = 0 ↔ s' = 0) : L.c s = L.c s' := by
  unfold LS.c
  by_cases c : s = 0
  · rw [if_pos c, if_pos (h.mp c)]
  · rw [if_neg c, if_neg (fun z => c (h.mpr z))]
theorem canD_not {L : LS} {deed s k : Int} (w : L.kd.wires = true) (h : canD L deed s k = true) : k ∉ L.s s ∧ k ∉ L.c s := by
  unfold canD at h
  have h2 : (!(decide (k ∈ L.s s) || decide (k ∈ L.c s))) = true := by
    split at h
    · rw [← canS_w w]; exact h
    · rw [← canC_w w]; exact h
  constructor
  · intro m; rw [decide_eq_true m] at h2; simp at h2
  · intro m; rw [decide_eq_true m, Bool.or_true] at h2; simp at h2
theorem nd_add {n : Int} {xs : List Int} {k : Int} (h : xs.Nodup ∧ ∀ x ∈ xs, 1 ≤ x ∧ x ≤ n) (hk : k ∉ xs) (h1 : 1 ≤ k ∧ k ≤ n) : (xs ++ [k]).Nodup ∧ ∀ x ∈ xs ++ [k], 1 ≤ x ∧ x ≤ n := by
  refine ⟨List.nodup_append.mpr ⟨h.1, by simp, ?_⟩, ?_⟩
  · intro a ha b hb
    obtain rfl := List.mem_singleton.mp hb
    rintro rfl
    exact hk ha
  · intro x hx
    rcases List.mem_append.mp hx with h2 | h2
    · exact h.2 x h2
    · obtain rfl := List.mem_singleton.mp h2
      exact h1
theorem wir_many {L : LS} (h : ∃ m, L.kd = .wir m) (s : Int) : L.kd.many s = L.kd.many 0 := by
  obtain ⟨m, e⟩ := h
  rw [e]
  rfl
theorem wir_wires {L : LS} (h : ∃ m, L.kd = .wir m) : L.kd.wires = true := by
  obtain ⟨m, e⟩ := h
  rw [e]
  rfl
theorem LGood.put {L : LS} {deed s k : Int} (h : LGood L) (d : DidMut L deed s k) : LGood (L.put deed s k) := by
  have k1 : 1 ≤ k ∧ k ≤ L.kd.many 0 := ⟨d.kin.1, by rw [← wir_many h.wir (Sender deed s)]; exact d.kin.2⟩
  obtain ⟨n1, n2⟩ := canD_not (wir_wires h.wir) d.can
  refine ⟨fun s' => ?_, fun s' => ?_, fun s' => ?_, by rw [put_kd]; exact h.wir, by rw [put_kd]; exact h.ok⟩
  · rw [put_s d.side, put_kd]
    split
    · rename_i c
      exact nd_add (h.s s') (by rw [← s_iff c.2]; exact n1) k1
    · exact h.s s'
  · rw [put_c d.side, put_kd]
    split
    · rename_i c
      exact nd_add (h.c s') (by rw [← c_iff c.2]; exact n2) k1
    · exact h.c s'
  · have hd := h.dis s'
    by_cases e : deed = 0
    · have hc' : (L.put deed s k).c s' = L.c s' := by rw [put_c d.side, if_neg (fun z => z.1 e)]
      rw [hc', put_s d.side]
      split
      · rename_i c
        intro x hx
        rcases List.mem_append.mp hx with m | m
        · exact hd x m
        · obtain rfl := List.mem_singleton.mp m
          rw [← c_iff c.2]; exact n2
      · exact hd
    · have hc' : (L.put deed s k).s s' = L.s s' := by rw [put_s d.side, if_neg (fun z => e z.1)]
      rw [hc', put_c d.side]
      split
      · rename_i c
        intro x hx m
        rcases List.mem_append.mp m with m | m
        · exact hd x hx m
        · obtain rfl := List.mem_singleton.mp m
          rw [← s_iff c.2] at hx; exact n1 hx
      · exact hd
/-! ### some cells change -/
def Butl (X : List Addr) (H H' : Hp) : Prop := ∀ a o, a ∉ X → H a = some o → H' a = some o
theorem Butl.of {x : Addr} {H H' : Hp} (k : But x H H') : Butl [x] H H' := fun a o n h => k a o (fun e => n (by rw [e]; simp)) h
def IsCell (H : Hp) (x : Addr) : Prop := (∃ ns : List Int, H x = some (.lst (ns.map V.int))) ∨ ∃ kvs : List (Key × V), H x = some (.dK kvs)
theorem IsCell.refs {H : Hp} {x a c : Addr} {xs : List V} (h : IsCell H x) (ha : H a = some (.lst (.ref c :: xs))) : a ≠ x := by
  rcases h with ⟨ns, hx⟩ | ⟨kvs, hx⟩
  · refine ne_of ha hx fun z => ?_
    have z2 := HO.lst.inj z
    match ns, z2 with
    | _ :: _, z2 => exact nomatch (List.cons.inj z2).1
  · exact ne_of ha hx fun z => nomatch z
theorem IsCell.mp {H : Hp} {x a c d : Addr} {i : Int} (h : IsCell H x) (ha : H a = Option.some (.lst [.int i, .ref c, .ref d])) : a ≠ x := by
  rcases h with ⟨ns, hx⟩ | ⟨kvs, hx⟩
  · refine ne_of ha hx fun z => ?_
    have z2 := HO.lst.inj z
    match ns, z2 with
    | _ :: _ :: _, z2 => exact nomatch (List.cons.inj (List.cons.inj z2).2).1
  · exact ne_of ha hx fun z => nomatch z
theorem IsCell.tup {H : Hp} {x a : Addr} {xs : List V} (h : IsCell H x) (ha : H a = some (.tup xs)) : a ≠ x := by
  rcases h with ⟨ns, hx⟩ | ⟨kvs, hx⟩
  · exact ne_of ha hx fun z => nomatch z
  · exact ne_of ha hx fun z => nomatch z
theorem IsCell.ins {H : Hp} {x a c d : Addr} {xs : List (Str × V)} (h : IsCell H x) (ha : H a = some (.ins c d xs)) : a ≠ x := by
  rcases h with ⟨ns, hx⟩ | ⟨kvs, hx⟩
  · exact ne_of ha hx fun z => nomatch z
  · exact ne_of ha hx fun z => nomatch z
theorem IsCell.box {H : Hp} {x b : Addr} {n : Nat} (h : IsCell H x) (hb : BoxAt H b n) : x ≠ b := by
  rcases h with ⟨ns, hx⟩ | ⟨kvs, hx⟩
  · exact bx_ints hb hx
  · exact bx_dict hb hx
theorem IsCell.some {H : Hp} {x : Addr} (h : IsCell H x) : ∃ o, H x = Option.some o := by
  rcases h with ⟨ns, hx⟩ | ⟨kvs, hx⟩
  · exact ⟨_, hx⟩
  · exact ⟨_, hx⟩
def Cells (H : Hp) (X : List Addr) : Prop := ∀ x ∈ X, IsCell H x
section
variable {C : Addr} {A : Ln} {M : Md} {L : LS} {H H' : Hp} {X : List Addr}
theorem Cells.refs {a c : Addr} {xs : List V} (h : Cells H X) (ha : H a = some (.lst (.ref c :: xs))) : a ∉ X := fun m => (h a m).refs ha rfl
theorem Cells.mp {a c d : Addr} {i : Int} (h : Cells H X) (ha : H a = Option.some (.lst [.int i, .ref c, .ref d])) : a ∉ X := fun m => (h a m).mp ha rfl
theorem Cells.tup {a : Addr} {xs : List V} (h : Cells H X) (ha : H a = some (.tup xs)) : a ∉ X := fun m => (h a m).tup ha rfl
theorem Cells.ins {a c d : Addr} {xs : List (Str × V)} (h : Cells H X) (ha : H a = some (.ins c d xs)) : a ∉ X := fun m => (h a m).ins ha rfl
theorem LineAt.keep (l : LineAt C A L H) (h : Cells H X) (k : Butl X H H') (n : ∀ x ∈ X, x ∉ A.cells) : LineAt C A L H' := by
  have nn : ∀ {a : Addr}, a ∈ A.cells → a ∉ X := fun ha m => n _ m ha
  refine ⟨k _ _ (h.ins l.obj) l.obj, k _ _ (h.tup l.sp) l.sp, k _ _ (h.refs l.sb) l.sb, k _ _ (h.refs l.cb) l.cb, k _ _ (nn ?_) l.a0, k _ _ (nn ?_) l.a1, k _ _ (nn ?_) l.d0, k _ _ (nn ?_) l.d1, l.ok⟩ <;> simp [Ln.cells]
theorem ModAt.keep (l : ModAt M L H) (h : Cells H X) (k : Butl X H H') (n : ∀ x ∈ X, x ∉ M.cells) : ModAt M L H' := by
  have nn : ∀ {a : Addr}, a ∈ M.cells → a ∉ X := fun ha m => n _ m ha
  refine ⟨k _ _ (h.mp l.mp) l.mp, k _ _ (h.refs l.us) l.us, k _ _ (h.refs l.rs) l.rs, k _ _ (nn ?_) l.t0, k _ _ (nn ?_) l.t1, l.u0.imp fun _ z => ⟨k _ _ (nn ?_) z.1, z.2⟩, l.u1.imp fun _ z => ⟨k _ _ (nn ?_) z.1, z.2⟩, l.lets, l.ok⟩ <;> simp [Md.cells]
theorem Ln.cell_mem {deed s : Int} : A.cell deed s ∈ A.cells := by
  unfold Ln.cell Ln.cells Ln.a Ln.d
  split <;> split <;> simp
theorem Md.t_mem {s : Int} : M.t s ∈ M.cells := by
  unfold Md.cells Md.t
  split <;> simp
theorem Md.u_mem {s : Int} : M.u s ∈ M.cells := by
  unfold Md.cells Md.u
  split <;> simp
theorem LineAt.cell (l : LineAt C A L H) (deed s : Int) : H (A.cell deed s) = some (.lst ((L.cell deed s).map V.int)) := by
  unfold Ln.cell LS.cell
  split
  · exact l.a s
  · exact l.d s
theorem LineAt.put {deed s k : Int} (l : LineAt C A L H) (hs : Side s) (nd : A.cells.Nodup) (kk : But (A.cell deed s) H H') (hc : H' (A.cell deed s) = some (.lst ((L.cell deed s ++ [k]).map V.int))) : LineAt C A (L.put deed s k) H' := by
  have h : IsCell H (A.cell deed s) := .inl ⟨_, l.cell deed s⟩
  have o := kk _ _ (h.ins l.obj) l.obj
  have sp := kk _ _ (h.tup l.sp) l.sp
  have sb := kk _ _ (h.refs l.sb) l.sb
  have cb := kk _ _ (h.refs l.cb) l.cb
  have nd' : [A.a0, A.a1, A.d0, A.d1].Nodup := nd
  simp only [List.nodup_cons, List.mem_cons, List.not_mem_nil, or_false, not_or, not_false_eq_true, List.nodup_nil, and_true] at nd'
  obtain ⟨⟨n1, n2, n3⟩, ⟨n4, n5⟩, n6⟩ := nd'
  unfold LS.put
  unfold Ln.cell Ln.a Ln.d at kk
  unfold Ln.cell Ln.a Ln.d LS.cell LS.s LS.c at hc
  by_cases c : deed = 0
  · simp only [if_pos c] at kk hc ⊢
    rcases (by unfold Side at hs; omega : s = 0 ∨ s = 1) with rfl | rfl
    · simp only [if_pos] at kk hc ⊢
      exact ⟨o, sp, sb, cb, hc, kk _ _ (Ne.symm n1) l.a1, kk _ _ (Ne.symm n2) l.d0, kk _ _ (Ne.symm n3) l.d1, l.ok⟩
    · simp only [if_neg (show ¬ (1 : Int) = 0 by decide)] at kk hc ⊢
      exact ⟨o, sp, sb, cb, kk _ _ n1 l.a0, hc, kk _ _ (Ne.symm n4) l.d0, kk _ _ (Ne.symm n5) l.d1, l.ok⟩
  · simp only [if_neg c] at kk hc ⊢
    rcases (by unfold Side at hs; omega : s = 0 ∨ s = 1) with rfl | rfl
    · simp only [if_pos] at kk hc ⊢
      exact ⟨o, sp, sb, cb, kk _ _ n2 l.a0, kk _ _ n4 l.a1, hc, kk _ _ (Ne.symm n6) l.d1, l.ok⟩
    · simp only [if_neg (show ¬ (1 : Int) = 0 by decide)] at kk hc ⊢
      exact ⟨o, sp, sb, cb, kk _ _ n3 l.a0, kk _ _ n5 l.a1, kk _ _ n6 l.d0, hc, l.ok⟩
theorem valV_app {kvs : List (Key × V)} {k k' : Key} {v : V} (h : valV kvs k = none) : valV (kvs ++ [(k, v)]) k' = if k' = k then some v else valV kvs k' := by
  unfold valV at h ⊢
  rw [List.find?_append]
  by_cases e : k' = k
  · subst e
    rw [if_pos rfl]
    cases f : kvs.find? (fun kv => decide (kv.1 = k')) with
    | some x => rw [f] at h; cases h
    | none => simp
  · rw [if_neg e]
    have : decide (k = k') = false := decide_eq_false (Ne.symm e)
    cases f : kvs.find? (fun kv => decide (kv.1 = k')) with
    | some x => simp
    | none => simp [this]
theorem UpOk.none {kvs : List (Key × V)} {own came : List Int} (h : UpOk kvs own came) {k : Int} (n1 : k ∉ own) (n2 : k ∉ came) : valV kvs (.inl k) = Option.none := by
  rw [h.val, if_neg n1, if_neg n2]
theorem UpOk.own {kvs : List (Key × V)} {own came : List Int} (h : UpOk kvs own came) {k : Int} (n1 : k ∉ own) (n2 : k ∉ came) : UpOk (kvs ++ [(.inl k, .str "raised")]) (own ++ [k]) came := by
  refine ⟨fun w => ?_, fun w hw => ?_, ?_⟩
  · rw [valV_app (h.none n1 n2)]
    by_cases e : w = k
    · subst e
      rw [if_pos rfl, if_pos (by simp)]
    · rw [if_neg (fun z => e (Sum.inl.inj z)), h.val]
      have : (w ∈ own ++ [k]) ↔ w ∈ own := by simp [e]
      simp only [this]
  · rcases List.mem_append.mp hw with m | m
    · exact h.dis w m
    · obtain rfl := List.mem_singleton.mp m; exact n2
  · obtain ⟨ks, e, pm⟩ := h.keys
    refine ⟨ks ++ [k], by rw [List.map_append, e, List.map_append]; rfl, ?_⟩
    rw [List.append_assoc]
    refine (pm.append_right [k]).trans ?_
    rw [List.append_assoc]
    exact List.Perm.append_left _ List.perm_append_comm
theorem UpOk.came {kvs : List (Key × V)} {own came : List Int} (h : UpOk kvs own came) {k : Int} (n1 : k ∉ own) (n2 : k ∉ came) : UpOk (kvs ++ [(.inl k, .str "came")]) own (came ++ [k]) := by
  refine ⟨fun w => ?_, fun w hw m => ?_, ?_⟩
  · rw [valV_app (h.none n1 n2)]
    by_cases e : w = k
    · subst e
      rw [if_pos rfl, if_neg n1, if_pos (by simp)]
    · rw [if_neg (fun z => e (Sum.inl.inj z)), h.val]
      have : (w ∈ came ++ [k]) ↔ w ∈ came := by simp [e]
      simp only [this]
  · rcases List.mem_append.mp m with m | m
    · exact h.dis w hw m
    · obtain rfl := List.mem_singleton.mp m; exact n1 hw
  · obtain ⟨ks, e, pm⟩ := h.keys
    refine ⟨ks ++ [k], by rw [List.map_append, e, List.map_append]; rfl, ?_⟩
    rw [← List.append_assoc]
    exact pm.append_right [k]
theorem Did.butl {deed s k : Int} (d : Did M L deed s k H H') : Butl [M.u s, M.t s] H H' := fun a o n h => d.but a o (fun e => n (by simp [e])) (fun e => n (by simp [e])) h
theorem ModAt.cells (l : ModAt M L H) (s : Int) : Cells H [M.u s, M.t s] := by
  intro x hx
  simp only [List.mem_cons, List.not_mem_nil, or_false] at hx
  rcases hx with rfl | rfl
  · obtain ⟨kvs, h, _⟩ := l.u s
    exact .inr ⟨_, h⟩
  · exact .inl ⟨_, l.t s⟩
theorem ModAt.put {deed s k : Int} (l : ModAt M L H) (g : LGood L) (dm : DidMut L deed s k) (nd : M.cells.Nodup) (d : Did M L deed s k H H') : ModAt M (L.put deed s k) H' := by
  have h := l.cells s
  have kk := d.butl
  have o := kk _ _ (h.mp l.mp) l.mp
  have us := kk _ _ (h.refs l.us) l.us
  have rs := kk _ _ (h.refs l.rs) l.rs
  have nd' : [M.t0, M.t1, M.u0, M.u1].Nodup := nd
  simp only [List.nodup_cons, List.mem_cons, List.not_mem_nil, or_false, not_or, not_false_eq_true, List.nodup_nil, and_true] at nd'
  obtain ⟨⟨n1, n2, n3⟩, ⟨n4, n5⟩, n6⟩ := nd'
  obtain ⟨m1, m2⟩ := canD_not l.wires dm.can
  have hs := dm.side
  obtain ⟨kvs, e1, up, e2⟩ := d.u
  have tt := d.t
  unfold LS.put
  have nin : ∀ {a b c : Addr}, a ≠ b → a ≠ c → a ∉ [b, c] := fun p q m => by simp only [List.mem_cons, List.not_mem_nil, or_false] at m; rcases m with m | m; exact p m; exact q m
  rcases (by unfold Side at hs; omega : s = 0 ∨ s = 1) with rfl | rfl
  · have q1 := l.u1.imp fun kv z => (⟨kk _ _ (nin (Ne.symm n6) (Ne.symm n3)) z.1, z.2⟩ : H' M.u1 = some (.dK kv) ∧ UpOk kv L.s1 L.c1)
    have q2 := kk _ _ (nin n4 (Ne.symm n1)) l.t1
    by_cases c : deed = 0
    · subst c
      exact ⟨o, us, rs, tt, q2, ⟨_, e2, up.own m1 m2⟩, q1, l.lets, l.ok⟩
    · rw [if_neg c] at tt
      rw [if_neg c, if_pos rfl]
      unfold wordOf at e2
      rw [if_neg c] at e2
      exact ⟨o, us, rs, tt, q2, ⟨_, e2, up.came m1 m2⟩, q1, l.lets, l.ok⟩
  · have q1 := l.u0.imp fun kv z => (⟨kk _ _ (nin n6 (Ne.symm n4)) z.1, z.2⟩ : H' M.u0 = some (.dK kv) ∧ UpOk kv L.s0 L.c0)
    have q2 := kk _ _ (nin n3 n1) l.t0
    by_cases c : deed = 0
    · subst c
      exact ⟨o, us, rs, q2, tt, q1, ⟨_, e2, up.own m1 m2⟩, l.lets, l.ok⟩
    · rw [if_neg c] at tt
      rw [if_neg c, if_neg (by decide)]
      unfold wordOf at e2
      rw [if_neg c] at e2
      exact ⟨o, us, rs, q2, tt, q1, ⟨_, e2, up.came m1 m2⟩, l.lets, l.ok⟩
end
theorem PairAt.keep {C : Addr} {R : Pr} {L : LS} {H H' : Hp} {X : List Addr} (l : PairAt C R L H) (h : Cells H X) (k : Butl X H H') (n : ∀ x ∈ X, x ∉ R.cells) : PairAt C R L H' :=
  ⟨k _ _ (h.refs l.pr) l.pr, l.line.keep h k fun x hx m => n x hx (List.mem_append.mpr (.inl m)), l.mod.keep h k fun x hx m => n x hx (List.mem_append.mpr (.inr m))⟩
end
end L2.U


set_option Elab.async false
set_option linter.all false
set_option maxRecDepth 100000
set_option maxHeartbeats 4000000
namespace L2.U
open PySem PySem.Spec PyProof.Rows Evl
section
variable {P : Program} {w : World} {K : PySem.W.Frag} {mg : Str → Option Value} {base : Heap}
/-! ### all that stand side by side -/
theorem fm_same {α β : Type} {f : α → List β} : ∀ {l : List α}, (l.flatMap f).Nodup → ∀ {a b : α}, a ∈ l → b ∈ l → ∀ {x : β}, x ∈ f a → x ∈ f b → a = b
  | c :: r, nd, a, b, ha, hb, x, xa, xb => by
    rw [List.flatMap_cons] at nd
    obtain ⟨n1, n2, n3⟩ := List.nodup_append.mp nd
    rcases List.mem_cons.mp ha with rfl | ha' <;> rcases List.mem_cons.mp hb with rfl | hb'
    · rfl
    · exact absurd rfl (n3 x xa x (List.mem_flatMap.mpr ⟨b, hb', xb⟩))
    · exact absurd rfl (n3 x xb x (List.mem_flatMap.mpr ⟨a, ha', xa⟩))
    · exact fm_same n2 ha' hb' xa xb
theorem fm_nd {α β : Type} {f : α → List β} : ∀ {l : List α}, (l.flatMap f).Nodup → ∀ {a : α}, a ∈ l → (f a).Nodup
  | c :: r, nd, a, ha => by
    rw [List.flatMap_cons] at nd
    obtain ⟨n1, n2, n3⟩ := List.nodup_append.mp nd
    rcases List.mem_cons.mp ha with rfl | ha'
    · exact n1
    · exact fm_nd n2 ha'
structure Jc (H1 : Hp) (bx D : Addr) (n : Nat) (Rs : List Pr) (H : Hp) : Prop where
  box : BoxAt H bx n
  b0 : H1 bx = none
  D0 : H1 D = none
  ex : Ex H1 H
  dir : H D = some (.lst (Rs.map fun R => V.ref R.pr))
  two : 2 ≤ Rs.length
  four : Rs.length ≤ 4
  nd : (Rs.flatMap Pr.cells).Nodup
  c0 : ∀ a ∈ Rs.flatMap Pr.cells, H1 a = none
def AllAt (C : Addr) (Rs : List Pr) (H : Hp) : Prop := ∀ R ∈ Rs, ∃ L, PairAt C R L H ∧ LGood L
section
variable {C bx D : Addr} {n k : Nat} {Rs : List Pr} {H1 H H' : Hp} {X : List Addr}
theorem Jc.dir' (j : Jc H1 bx D n Rs H) : ∃ c xs, H D = some (.lst (.ref c :: xs)) := by
  have h := j.dir
  have t := j.two
  match Rs, t, h with
  | R :: r, _, h => exact ⟨_, _, h⟩
theorem Jc.exx (j : Jc H1 bx D n Rs H) (e : Ex H H') : Jc H1 bx D n Rs H' := ⟨j.box.ex e, j.b0, j.D0, j.ex.trans e, e _ _ j.dir, j.two, j.four, j.nd, j.c0⟩
theorem Jc.but (j : Jc H1 bx D n Rs H) (hb : BoxAt H' bx k) (kk : But bx H H') : Jc H1 bx D k Rs H' := by
  obtain ⟨c, xs, hd⟩ := j.dir'
  exact ⟨hb, j.b0, j.D0, fun a o h => kk a o (ne_of_none h j.b0) (j.ex a o h), kk _ _ (bx_refs j.box hd) j.dir, j.two, j.four, j.nd, j.c0⟩
theorem Jc.le (j : Jc H1 bx D n Rs H) (h : k ≤ n) : Jc H1 bx D k Rs H := ⟨j.box.le h, j.b0, j.D0, j.ex, j.dir, j.two, j.four, j.nd, j.c0⟩
theorem Jc.write (j : Jc H1 bx D n Rs H) (h : Cells H X) (hx : ∀ x ∈ X, H1 x = none) (kk : Butl X H H') : Jc H1 bx D n Rs H' := by
  obtain ⟨c, xs, hd⟩ := j.dir'
  have hb' := j.box
  obtain ⟨d, m, c', f, hb, hr⟩ := j.box
  have nb : bx ∉ X := fun hm => (h _ hm).box hb' rfl
  exact ⟨⟨d, m, c', f, kk _ _ nb hb, hr⟩, j.b0, j.D0, fun a o ha => kk a o (fun hm => by rw [hx a hm] at ha; cases ha) (j.ex a o ha), kk _ _ (h.refs hd) j.dir, j.two, j.four, j.nd, j.c0⟩
theorem AllAt.exx (a : AllAt C Rs H) (e : Ex H H') : AllAt C Rs H' := fun R hR => by
  obtain ⟨L, p, g⟩ := a R hR
  exact ⟨L, p.ex e, g⟩
theorem AllAt.but (a : AllAt C Rs H) (hb : BoxAt H bx n) (kk : But bx H H') : AllAt C Rs H' := fun R hR => by
  obtain ⟨L, p, g⟩ := a R hR
  exact ⟨L, p.box hb kk, g⟩
theorem AllAt.write (a : AllAt C Rs H) (h : Cells H X) (kk : Butl X H H') (n : ∀ x ∈ X, ∀ R ∈ Rs, x ∉ R.cells) : AllAt C Rs H' := fun R hR => by
  obtain ⟨L, p, g⟩ := a R hR
  exact ⟨L, p.keep h kk fun x hx => n x hx R hR, g⟩
end
theorem LSm.cell {L : LS} (h : LSm L) (deed s : Int) : (L.cell deed s).length ≤ 900 := by
  have h1 := h.s s
  have h2 := h.c s
  unfold LS.cell
  split <;> omega
theorem did_det {L : LS} {deed s k : Int} {o1 o2 : List V} (h : DidEx L deed s k o1) (h' : DidEx L deed s k o2) : o1 = o2 := by
  cases h <;> cases h' <;> first | rfl | contradiction | (exfalso; rename_i a b c d e f g; first | exact absurd (f ‹_›) ‹_› | exact absurd (c ‹_›) ‹_›) | (exfalso; simp_all)
theorem did_not {L : LS} {deed s k : Int} {o : List V} (h : DidEx L deed s k o) (m : DidMut L deed s k) : False := by
  cases h with
  | side n => exact n m.side
  | kind _ n => exact n m.kin
  | not _ _ d n => exact n (m.sent d)
  | no _ _ _ c => have := m.can; rw [c] at this; cases this
theorem sm_two {K : PySem.W.Frag} {H : Hp} {n : Nat} {a b : Addr} {u v : V} (hu : Sm K H n u u) (hv : Sm K H n v v) (ha : H a = some (.tup [u, v])) (hb : H b = some (.tup [u, v])) : Sm K H (n + 1) (.ref a) (.ref b) := by
  refine .tup (SqT.of ha) (SqT.of hb) rfl (by show 2 ≤ 1000; decide) fun i x y hx hy => ?_
  rw [hx] at hy
  obtain rfl := Option.some.inj hy
  match i, hx with
  | 0, hx => obtain rfl := Option.some.inj hx; exact hu
  | 1, hx => obtain rfl := Option.some.inj hx; exact hv
  | i + 2, hx => cases hx
theorem sm_out {K : PySem.W.Frag} {L : LS} {deed s k : Int} {o : List V} {H : Hp} {n : Nat} {a b : Addr} (h : DidEx L deed s k o) (ha : H a = some (.tup o)) (hb : H b = some (.tup o)) : Sm K H (n + 1) (.ref a) (.ref b) := by
  cases h with
  | side => exact sm_two (.str _ (by decide +kernel)) (.int _) ha hb
  | kind => exact sm_two (.str _ (by decide +kernel)) (.int _) ha hb
  | not => exact sm_two (.str _ (by decide +kernel)) (.int _) ha hb
  | no => exact sm_two (.str _ (by decide +kernel)) (.bl _) ha hb
theorem sm_done {K : PySem.W.Frag} {H : Hp} {n : Nat} {a b : Addr} (ha : H a = some (.tup [.str "done", .bl true])) (hb : H b = some (.tup [.str "done", .bl true])) : Sm K H (n + 1) (.ref a) (.ref b) :=
  sm_two (.str _ (by decide +kernel)) (.bl _) ha hb
theorem line_cells {C : Addr} {A : Ln} {L : LS} {H : Hp} (p : LineAt C A L H) : Cells H A.cells := by
  intro a h
  have h3 : a ∈ [A.a0, A.a1, A.d0, A.d1] := h
  simp only [List.mem_cons, List.not_mem_nil, or_false] at h3
  rcases h3 with rfl | rfl | rfl | rfl
  · exact .inl ⟨_, p.a0⟩
  · exact .inl ⟨_, p.a1⟩
  · exact .inl ⟨_, p.d0⟩
  · exact .inl ⟨_, p.d1⟩
theorem mod_cells {M : Md} {L : LS} {H : Hp} (p : ModAt M L H) : Cells H M.cells := by
  intro a h
  have h3 : a ∈ [M.t0, M.t1, M.u0, M.u1] := h
  simp only [List.mem_cons, List.not_mem_nil, or_false] at h3
  rcases h3 with rfl | rfl | rfl | rfl
  · exact .inl ⟨_, p.t0⟩
  · exact .inl ⟨_, p.t1⟩
  · obtain ⟨kv, z, _⟩ := p.u0; exact .inr ⟨_, z⟩
  · obtain ⟨kv, z, _⟩ := p.u1; exact .inr ⟨_, z⟩
theorem pair_cells {C : Addr} {R : Pr} {L : LS} {H : Hp} (p : PairAt C R L H) : Cells H R.cells := by
  intro a ha
  rcases List.mem_append.mp ha with h | h
  · exact line_cells p.line a h
  · exact mod_cells p.mod a h
theorem good_empty {m : Int} (ok : (Knd.wir m).Ok) : LGood ⟨.wir m, [], [], [], []⟩ := by
  refine ⟨fun s => ?_, fun s => ?_, fun s => ?_, ⟨m, rfl⟩, ok⟩
  · unfold LS.s; split <;> simp
  · unfold LS.c; split <;> simp
  · unfold LS.s; split <;> simp
/-- one more pair at the end of the list -/
theorem Jc.add {H1 H : Hp} {C b D : Addr} {n : Nat} {Rs : List Pr} {R : Pr} {L : LS} (j : Jc H1 b D n Rs H) (a : AllAt C Rs H) (p : PairAt C R L H) (g : LGood L) (h4 : Rs.length < 4) (nd : R.cells.Nodup)
    (fr : ∀ x ∈ R.cells, ∀ R' ∈ Rs, x ∉ R'.cells) (c0 : ∀ x ∈ R.cells, H1 x = none) :
    Jc H1 b D n (Rs ++ [R]) (upd H D (.lst (Rs.map (fun R => V.ref R.pr) ++ [.ref R.pr]))) ∧ AllAt C (Rs ++ [R]) (upd H D (.lst (Rs.map (fun R => V.ref R.pr) ++ [.ref R.pr]))) := by
  have fm : (Rs ++ [R]).flatMap Pr.cells = Rs.flatMap Pr.cells ++ R.cells := by simp
  obtain ⟨c, xs, hd⟩ := j.dir'
  obtain ⟨d, m, c', f, hb, hr⟩ := j.box
  have bD : b ≠ D := (bx_refs j.box hd).symm
  have kD : But D H (upd H D (.lst (Rs.map (fun R => V.ref R.pr) ++ [.ref R.pr]))) := But.upd
  obtain ⟨R0, hR0, hd0⟩ : ∃ R0 ∈ Rs, ∃ xs, H D = some (.lst (.ref R0.pr :: xs)) := by
    have h := j.dir
    have t := j.two
    match Rs, t, h with
    | R0 :: r, _, h => exact ⟨R0, by simp, _, h⟩
  obtain ⟨xs0, hd0⟩ := hd0
  obtain ⟨L0, p0, _⟩ := a R0 hR0
  have ne : ∀ {x c : Addr} {xs : List V}, H x = some (.lst (.ref c :: xs)) → (IsCell H c ∨ ∃ d e fs, H c = some (.ins d e fs)) → x ≠ D := by
    rintro x c xs hx hc rfl
    rw [hd0] at hx
    have e : R0.pr = c := by
      have := (List.cons.inj (HO.lst.inj (Option.some.inj hx))).1
      exact V.ref.inj this
    subst e
    rcases hc with h | ⟨d, e, fs, h⟩
    · exact h.refs p0.pr rfl
    · rw [p0.pr] at h; cases h
  have nI : ∀ {x : Addr}, IsCell H x → x ≠ D := fun h e => (h.refs hd0) e.symm
  have nM : ∀ {x c d : Addr} {i : Int}, H x = some (.lst [.int i, .ref c, .ref d]) → x ≠ D := fun h => ne_of h hd0 fun z => nomatch (List.cons.inj (HO.lst.inj z)).1
  have pD : ∀ {R1 : Pr} {L1 : LS}, PairAt C R1 L1 H → PairAt C R1 L1 (upd H D (.lst (Rs.map (fun R => V.ref R.pr) ++ [.ref R.pr]))) := by
    intro R1 L1 q
    have ql := q.line
    have qm := q.mod
    have lc := line_cells ql
    have mc := mod_cells qm
    have la : ∀ x ∈ R1.A.cells, x ≠ D := fun x hx => nI (lc x hx)
    have ma : ∀ x ∈ R1.M.cells, x ≠ D := fun x hx => nI (mc x hx)
    exact ⟨kD _ _ (ne q.pr (.inr ⟨_, _, _, ql.obj⟩)) q.pr,
      ⟨kD _ _ (ne_of ql.obj hd0 (by intro z; cases z)) ql.obj, kD _ _ (ne_of ql.sp hd0 (by intro z; cases z)) ql.sp, kD _ _ (ne ql.sb (.inl (lc _ (by simp [Ln.cells])))) ql.sb, kD _ _ (ne ql.cb (.inl (lc _ (by simp [Ln.cells])))) ql.cb,
        kD _ _ (la _ (by simp [Ln.cells])) ql.a0, kD _ _ (la _ (by simp [Ln.cells])) ql.a1, kD _ _ (la _ (by simp [Ln.cells])) ql.d0, kD _ _ (la _ (by simp [Ln.cells])) ql.d1, ql.ok⟩,
      ⟨kD _ _ (nM qm.mp) qm.mp, kD _ _ (ne qm.us (.inl (mc _ (by simp [Md.cells])))) qm.us, kD _ _ (ne qm.rs (.inl (mc _ (by simp [Md.cells])))) qm.rs,
        kD _ _ (ma _ (by simp [Md.cells])) qm.t0, kD _ _ (ma _ (by simp [Md.cells])) qm.t1, qm.u0.imp fun _ z => ⟨kD _ _ (ma _ (by simp [Md.cells])) z.1, z.2⟩, qm.u1.imp fun _ z => ⟨kD _ _ (ma _ (by simp [Md.cells])) z.1, z.2⟩, qm.lets, qm.ok⟩⟩
  refine ⟨⟨⟨d, m, c', f, kD _ _ bD hb, hr⟩, j.b0, j.D0, j.ex.mut j.D0, by rw [upd_same, List.map_append]; rfl, by rw [List.length_append]; have := j.two; show 2 ≤ _ + 1; omega, by rw [List.length_append]; show _ + 1 ≤ 4; omega, ?_, ?_⟩, ?_⟩
  · rw [fm]
    refine List.nodup_append.mpr ⟨j.nd, nd, ?_⟩
    rintro x hx y hy rfl
    obtain ⟨R', hR', hx'⟩ := List.mem_flatMap.mp hx
    exact fr x hy R' hR' hx'
  · rw [fm]
    intro x hx
    rcases List.mem_append.mp hx with h | h
    · exact j.c0 x h
    · exact c0 x h
  · intro R' hR'
    rcases List.mem_append.mp hR' with h | h
    · obtain ⟨L', p', g'⟩ := a R' h
      exact ⟨L', pD p', g'⟩
    · obtain rfl := List.mem_singleton.mp h
      exact ⟨L, pD p, g⟩
/-- a line and a model of the same, somewhere -/
structure Both (C : Addr) (R : Pr) (L : LS) (H : Hp) : Prop where
  line : LineAt C R.A L H
  mod : ModAt R.M L H
  nd : R.cells.Nodup
  good : LGood L
/-- what a deed does to both -/
theorem Both.put {C : Addr} {R : Pr} {L : LS} {H3 H4 H5 : Hp} {deed s k : Int} (b : Both C R L H3) (d : Did R.M L deed s k H3 H4) (dm : DidMut L deed s k)
    (kk : But (R.A.cell deed s) H4 H5) (hc : H5 (R.A.cell deed s) = some (.lst ((L.cell deed s ++ [k]).map V.int))) : Both C R (L.put deed s k) H5 := by
  have ndA : R.A.cells.Nodup := (List.nodup_append.mp b.nd).1
  have ndM : R.M.cells.Nodup := (List.nodup_append.mp b.nd).2.1
  have nAM : ∀ x ∈ R.A.cells, ∀ y ∈ R.M.cells, x ≠ y := (List.nodup_append.mp b.nd).2.2
  have inM : ∀ x ∈ [R.M.u s, R.M.t s], x ∈ R.M.cells := fun x hx => by
    simp only [List.mem_cons, List.not_mem_nil, or_false] at hx
    rcases hx with rfl | rfl
    · exact Md.u_mem
    · exact Md.t_mem
  have l4 : LineAt C R.A L H4 := b.line.keep (b.mod.cells s) d.butl fun x hx m => nAM _ m _ (inM x hx) rfl
  have m4 := b.mod.put b.good dm ndM d
  have ia : Cells H4 [R.A.cell deed s] := fun x hx => by obtain rfl := List.mem_singleton.mp hx; exact .inl ⟨_, l4.cell deed s⟩
  exact ⟨l4.put dm.side ndA kk hc, m4.keep ia (Butl.of kk) (fun x hx m => by obtain rfl := List.mem_singleton.mp hx; exact nAM _ Ln.cell_mem _ m rfl), b.nd, b.good.put dm⟩
theorem put_cells {C : Addr} {R : Pr} {L : LS} {H3 H4 H5 : Hp} {deed s k : Int} (b : Both C R L H3) (d : Did R.M L deed s k H3 H4) : (Cells H3 [R.M.u s, R.M.t s] ∧ ∀ x ∈ [R.M.u s, R.M.t s], x ∈ R.cells) ∧ Cells H4 [R.A.cell deed s] ∧ ∀ x ∈ [R.A.cell deed s], x ∈ R.cells := by
  have nAM : ∀ x ∈ R.A.cells, ∀ y ∈ R.M.cells, x ≠ y := (List.nodup_append.mp b.nd).2.2
  have inM : ∀ x ∈ [R.M.u s, R.M.t s], x ∈ R.M.cells := fun x hx => by
    simp only [List.mem_cons, List.not_mem_nil, or_false] at hx
    rcases hx with rfl | rfl
    · exact Md.u_mem
    · exact Md.t_mem
  have l4 : LineAt C R.A L H4 := b.line.keep (b.mod.cells s) d.butl fun x hx m => nAM _ m _ (inM x hx) rfl
  refine ⟨⟨b.mod.cells s, fun x hx => List.mem_append.mpr (.inr (inM x hx))⟩, fun x hx => ?_, fun x hx => ?_⟩
  · obtain rfl := List.mem_singleton.mp hx; exact .inl ⟨_, l4.cell deed s⟩
  · obtain rfl := List.mem_singleton.mp hx; exact List.mem_append.mpr (.inl Ln.cell_mem)
end
end L2.U


set_option Elab.async false
set_option linter.all false
set_option maxRecDepth 100000
set_option maxHeartbeats 4000000
namespace L2.U
open PySem PySem.Spec PyProof.Rows Evl
section
variable {P : Program} {w : World} {K : PySem.W.Frag} {mg : Str → Option Value} {base : Heap}
theorem mm (L : Int) : 1 ≤ (if (if L < 2 then L else 2) > 1 then (if L < 2 then L else 2) else 1) ∧ (if (if L < 2 then L else 2) > 1 then (if L < 2 then L else 2) else 1) ≤ 2 := by
  by_cases c : L < 2
  · rw [if_pos c]; split <;> omega
  · rw [if_neg c]; split <;> omega
theorem new_model {H2 H3 H4 H5 H6 H7 H8 H9 : Hp} {m : Int} {u0 u1 us t0 t1 rs mp : Addr} (ok : (Knd.wir m).Ok) (h1 : H2 u0 = none) (e1 : H3 = upd H2 u0 (.dK [])) (h2 : H3 u1 = none) (e2 : H4 = upd H3 u1 (.dK [])) (h3 : H4 us = none) (e3 : H5 = upd H4 us (.lst [.ref u0, .ref u1]))
    (h4 : H5 t0 = none) (e4 : H6 = upd H5 t0 (.lst [])) (h5 : H6 t1 = none) (e5 : H7 = upd H6 t1 (.lst [])) (h6 : H7 rs = none) (e6 : H8 = upd H7 rs (.lst [.ref t0, .ref t1])) (h7 : H8 mp = none) (e7 : H9 = upd H8 mp (.lst [.int m, .ref us, .ref rs])) :
    ModAt ⟨mp, us, rs, t0, t1, u0, u1⟩ ⟨.wir m, [], [], [], []⟩ H9 ∧ Ex H2 H9 ∧ [t0, t1, u0, u1].Nodup ∧ ∀ a ∈ [t0, t1, u0, u1], H2 a = none := by
  have z1 : Ex H2 H3 := by rw [e1]; exact Ex.new h1
  have z2 : Ex H3 H4 := by rw [e2]; exact Ex.new h2
  have z3 : Ex H4 H5 := by rw [e3]; exact Ex.new h3
  have z4 : Ex H5 H6 := by rw [e4]; exact Ex.new h4
  have z5 : Ex H6 H7 := by rw [e5]; exact Ex.new h5
  have z6 : Ex H7 H8 := by rw [e6]; exact Ex.new h6
  have z7 : Ex H8 H9 := by rw [e7]; exact Ex.new h7
  have y6 := z6.trans z7
  have y5 := z5.trans y6
  have y4 := z4.trans y5
  have y3 := z3.trans y4
  have y2 := z2.trans y3
  have b0 : H3 u0 = some (.dK []) := by rw [e1]; exact upd_same
  have b1 : H4 u1 = some (.dK []) := by rw [e2]; exact upd_same
  have b2 : H5 us = some (.lst [.ref u0, .ref u1]) := by rw [e3]; exact upd_same
  have b3 : H6 t0 = some (.lst []) := by rw [e4]; exact upd_same
  have b4 : H7 t1 = some (.lst []) := by rw [e5]; exact upd_same
  have b5 : H8 rs = some (.lst [.ref t0, .ref t1]) := by rw [e6]; exact upd_same
  have b6 : H9 mp = some (.lst [.int m, .ref us, .ref rs]) := by rw [e7]; exact upd_same
  have em : UpOk [] [] [] := ⟨fun w => rfl, (fun w h => absurd h (by simp)), [], rfl, .nil⟩
  refine ⟨⟨b6, y4 _ _ b2, z7 _ _ b5, y5 _ _ b3, y6 _ _ b4, ⟨[], y2 _ _ b0, em⟩, ⟨[], y3 _ _ b1, em⟩, ⟨m, rfl⟩, ok⟩, z1.trans y2, ?_, ?_⟩
  · have n1 : t0 ≠ t1 := ne_of_none b3 h5
    have n2 : t0 ≠ u0 := (ne_of_none (z3 _ _ (z2 _ _ b0)) h4).symm
    have n3 : t0 ≠ u1 := (ne_of_none (z3 _ _ b1) h4).symm
    have n4 : t1 ≠ u0 := (ne_of_none (z4 _ _ (z3 _ _ (z2 _ _ b0))) h5).symm
    have n5 : t1 ≠ u1 := (ne_of_none (z4 _ _ (z3 _ _ b1)) h5).symm
    have n6 : u0 ≠ u1 := ne_of_none b0 h2
    simp only [List.nodup_cons, List.mem_cons, List.not_mem_nil, or_false, not_or, not_false_eq_true, List.nodup_nil, and_true]
    exact ⟨⟨n1, n2, n3⟩, ⟨n4, n5⟩, n6⟩
  · intro a ha
    simp only [List.mem_cons, List.not_mem_nil, or_false] at ha
    have z12 := z1.trans z2
    rcases ha with rfl | rfl | rfl | rfl
    · exact fresh_back (z12.trans z3) h4
    · exact fresh_back ((z12.trans z3).trans z4) h5
    · exact h1
    · exact fresh_back z1 h2
theorem rev_name {a b c : Addr} {X : List Addr} (h : c ∉ X) (e : a = c) : a ∉ X := e ▸ h
def Trip (H : Hp) (t : Addr) : Prop := ∃ d s k : Int, H t = some (.tup [.int d, .int s, .int k]) ∧ (d = 0 ∨ d = 1) ∧ Side s ∧ 0 ≤ k ∧ k ≤ 100
/-- two lists of pairs, and a line and a model apart -/
structure St3 (C : Addr) (H1 : Hp) (b D : Addr) (n : Nat) (Rs : List Pr) (R3 : Pr) (ts : List Addr) (H : Hp) : Prop where
  j : Jc H1 b D n Rs H
  a : AllAt C Rs H
  bo : ∃ L, Both C R3 L H
  ap : ∀ x ∈ R3.cells, ∀ R ∈ Rs, x ∉ R.cells
  fr : ∀ x ∈ R3.cells, H1 x = none
  tr : ∀ t ∈ ts, Trip H t
theorem Both.ex {C : Addr} {R : Pr} {L : LS} {H H' : Hp} (b : Both C R L H) (e : Ex H H') : Both C R L H' := ⟨b.line.ex e, b.mod.ex e, b.nd, b.good⟩
theorem Trip.ex {H H' : Hp} {t : Addr} (h : Trip H t) (e : Ex H H') : Trip H' t := by
  obtain ⟨d, s, k, h, r⟩ := h
  exact ⟨d, s, k, e _ _ h, r⟩
section
variable {C : Addr} {H1 H H' : Hp} {b D : Addr} {n : Nat} {Rs : List Pr} {R3 : Pr} {ts : List Addr} {X : List Addr}
theorem St3.exx (z : St3 C H1 b D n Rs R3 ts H) (e : Ex H H') : St3 C H1 b D n Rs R3 ts H' := ⟨z.j.exx e, z.a.exx e, z.bo.imp fun _ w => w.ex e, z.ap, z.fr, fun t ht => (z.tr t ht).ex e⟩
theorem St3.new {t : Addr} {d s k : Int} (z : St3 C H1 b D n Rs R3 ts H) (ht : H t = none) (hd : d = 0 ∨ d = 1) (hs : Side s) (hk : 0 ≤ k ∧ k ≤ 100) : St3 C H1 b D n Rs R3 (t :: ts) (upd H t (.tup [.int d, .int s, .int k])) := by
  have y := z.exx (Ex.new (o := .tup [.int d, .int s, .int k]) ht)
  exact ⟨y.j, y.a, y.bo, y.ap, y.fr, fun x hx => by
    rcases List.mem_cons.mp hx with rfl | hx
    · exact ⟨d, s, k, upd_same, hd, hs, hk⟩
    · exact y.tr x hx⟩
theorem St3.write (z : St3 C H1 b D n Rs R3 ts H) (h : Cells H X) (hx : ∀ x ∈ X, x ∈ R3.cells) (kk : Butl X H H') (L : LS) (bo : Both C R3 L H') : St3 C H1 b D n Rs R3 ts H' :=
  ⟨z.j.write h (fun x m => z.fr x (hx x m)) kk, z.a.write h kk (fun x m R hR => z.ap x (hx x m) R hR), ⟨L, bo⟩, z.ap, z.fr, fun t ht => by
    obtain ⟨d, s, k, w, r⟩ := z.tr t ht
    exact ⟨d, s, k, kk _ _ (h.tup w) w, r⟩⟩
end
def spLaw (K : PySem.W.Frag) : Sp := fun vs H Q _ => ∃ (a : Addr) (ns : List Int), vs = [.ref a] ∧ SqL K H a (ns.map V.int) ∧ ns.length ≤ 63 ∧ ∀ H', Q (.bl true) H'
theorem ok_law (T : TK K mg) : FnOk P w K mg base CX0 11 T.law.a T.law.fd ["script"] (spLaw K) := by
  refine T.law.F.ok sc_law (fun vs H Q E h => ?_) (fun cdv A outer s H vs Q E hr h => ?_)
  · obtain ⟨a, ns, rfl, _⟩ := h; rfl
  obtain ⟨a, ns, rfl, hS, h63, q⟩ := h
  refine ⟨_, (pss_cons (ps_for PassesOwn.never rfl (pi_range1 rfl T.z_range (pa_cons (pe_callB (call_max2 rfl) (by rfl) T.z_max (by decide +kernel) (pa_cons pe_int (pa_cons (pe_callB (call_min2 rfl) (by rfl) T.z_min (by decide +kernel) (pa_cons pe_int (pa_cons (pe_callB (klen K) (by rfl) T.z_len (by decide +kernel) (pa_cons (pv 0) pa_nil)) pa_nil))) pa_nil))) pa_nil)) (pg_name (i := 1) sc_law.nd rfl (Or.inl rfl)) (pss_cons (ps_set (i := 2) sc_law.nd rfl (Or.inl rfl) (pe_call (ok_law_box T.toTA1) (hr.mono (by decide)) rfl T.law_box.m T.law_box.F.kp T.law_box.b .nil pass0 (pa_cons (pe_call (ok_law_cell T.toTA1) (hr.mono (by decide)) rfl T.law_cell.m T.law_cell.F.kp T.law_cell.b .nil pass0 (pa_cons (pv 0) (pa_cons (pv 1) pa_nil))) pa_nil)))
    (pss_cons (ps_par (i := 3) (j := 4) (by rfl) sc_law.nd rfl rfl (by decide) rfl rfl (pa_cons (pe_call (ok_law_take T.toTA1) (hr.mono (by decide)) rfl T.law_take.m T.law_take.F.kp T.law_take.b .nil pass0 (pa_cons (pv 2) (pa_cons pe_int pa_nil))) (pa_cons (pe_lst pa_nil) pa_nil)) (by rfl))
    (pss_cons (ps_set (i := 4) sc_law.nd rfl (Or.inl rfl) (pe_lst (pa_cons (pe_call (ok_law_made T) (hr.mono (by decide)) rfl T.law_made.m T.law_made.F.kp T.law_made.b .nil pass0 (pa_cons (pv 2) pa_nil)) (pa_cons (pe_call (ok_law_made T) (hr.mono (by decide)) rfl T.law_made.m T.law_made.F.kp T.law_made.b .nil pass0 (pa_cons (pv 2) pa_nil)) pa_nil))))
    (pss_cons (ps_if (pt_not (pt_val (pe_call (ok_law_asked T) (hr.mono (by decide)) rfl T.law_asked.m T.law_asked.F.kp T.law_asked.b .nil pass0 (pa_cons (pe_ix (kixl K) (pe_ix (kixl K) (pv 4) pe_int (fun _ _ => rfl)) pe_int (fun _ _ => rfl)) (pa_cons (pe_ix (kixl K) (pe_ix (kixl K) (pv 4) pe_int (fun _ _ => rfl)) pe_int (fun _ _ => rfl)) (pa_cons (pv 3) (pa_cons (pe_call (ok_law_take T.toTA1) (hr.mono (by decide)) rfl T.law_take.m T.law_take.F.kp T.law_take.b .nil pass0 (pa_cons (pv 2) (pa_cons pe_int pa_nil))) pa_nil))))))) (pss_one (ps_ret pe_bl)) pss_nil)
    (pss_cons (ps_for PassesOwn.never rfl (pi_range1 rfl T.z_range (pa_cons (pe_op op_add pe_int (pe_call (ok_law_take T.toTA1) (hr.mono (by decide)) rfl T.law_take.m T.law_take.F.kp T.law_take.b .nil pass0 (pa_cons (pv 2) (pa_cons pe_int pa_nil)))) pa_nil)) (pg_name (i := 5) sc_law.nd rfl (Or.inl rfl)) (pss_cons (ps_asg (pe_ix (kixl K) (pv 4) (pe_call (ok_law_take T.toTA1) (hr.mono (by decide)) rfl T.law_take.m T.law_take.F.kp T.law_take.b .nil pass0 (pa_cons (pv 2) (pa_cons (pe_callB (klen K) (by rfl) T.z_len (by decide +kernel) (pa_cons (pv 4) pa_nil)) pa_nil))) (fun _ _ => rfl)) (pg_lst (by rfl) (pgs_cons (pg_name (i := 6) sc_law.nd rfl (Or.inl rfl)) (pgs_cons (pg_name (i := 7) sc_law.nd rfl (Or.inl rfl)) pgs_nil))))
    (pss_cons (ps_asg (pe_call (ok_law_drawn T) (hr.mono (by decide)) rfl T.law_drawn.m T.law_drawn.F.kp T.law_drawn.b .nil pass0 (pa_cons (pv 2) (pa_cons (pv 7) pa_nil))) (pg_tup (by rfl) (pgs_cons (pg_name (i := 8) sc_law.nd rfl (Or.inl rfl)) (pgs_cons (pg_name (i := 9) sc_law.nd rfl (Or.inl rfl)) (pgs_cons (pg_name (i := 10) sc_law.nd rfl (Or.inl rfl)) pgs_nil)))))
    (pss_cut (ps_set (i := 11) sc_law.nd rfl (Or.inl rfl) (pe_call (ok_law_due T) (hr.mono (by decide)) rfl T.law_due.m T.law_due.F.kp T.law_due.b .nil pass0 (pa_cons (pv 7) (pa_cons (pv 8) (pa_cons (pv 9) (pa_cons (pv 10) pa_nil))))))
    (pss_cut (ps_if (pt_not (pt_val (pe_call (ok_law_same T.toTA1) (hr.mono (by decide)) rfl T.law_same.m T.law_same.F.kp T.law_same.b .nil pass0 (pa_cons (pe_call (ok_law_did T) (hr.mono (by decide)) rfl T.law_did.m T.law_did.F.kp T.law_did.b .nil pass0 (pa_cons (pv 6) (pa_cons (pe_op op_mod (pe_callTy call_int1 (by rfl) T.z_int (by decide +kernel) (pa_cons (pe_op op_add (pv 3) (pv 5)) pa_nil)) pe_int) (pa_cons (pv 8) (pa_cons (pv 9) (pa_cons (pv 10) pa_nil)))))) (pa_cons (pv 11) pa_nil))))) (pss_one (ps_ret pe_bl)) pss_nil)
    (pss_cut (ps_if (PW.pt (pw_and (pt_cmpR op_eq (pe_call (ok_law_take T.toTA1) (hr.mono (by decide)) rfl T.law_take.m T.law_take.F.kp T.law_take.b .nil pass0 (pa_cons (pv 2) (pa_cons pe_int pa_nil))) pe_int (nomark _)) (pw_and1 (pt_not (pt_val (pe_call (ok_law_asked T) (hr.mono (by decide)) rfl T.law_asked.m T.law_asked.F.kp T.law_asked.b .nil pass0 (pa_cons (pv 6) (pa_cons (pv 7) (pa_cons (pv 3) (pa_cons (pe_call (ok_law_take T.toTA1) (hr.mono (by decide)) rfl T.law_take.m T.law_take.F.kp T.law_take.b .nil pass0 (pa_cons (pv 2) (pa_cons pe_int pa_nil))) pa_nil)))))))))) (pss_one (ps_ret pe_bl)) pss_nil)
    (pss_one (ps_if (PW.pt (pw_and (pt_cmpR op_lt (pe_callB (klen K) (by rfl) T.z_len (by decide +kernel) (pa_cons (pv 4) pa_nil)) pe_int (nomark _)) (pw_and1 (pt_cmpR op_eq (pe_call (ok_law_take T.toTA1) (hr.mono (by decide)) rfl T.law_take.m T.law_take.F.kp T.law_take.b .nil pass0 (pa_cons (pv 2) (pa_cons pe_int pa_nil))) pe_int (nomark _))))) (pss_one (ps_expr (pe_bm PySem.F.plainAttrs_list PySem.F.slot_list_append PySem.F.type_list_append mt_append (pv 4) (pa_cons (pe_lst (pa_cons (by exact (pe_mX0 (pv 6) T.cl T.m_copy.M (ok_Line_copy T.toTL) (hr.mono (by decide)) T.m_copy.b (fun σ => passLAt))) (pa_cons (pe_call (ok_law_again T) (hr.mono (by decide)) rfl T.law_again.m T.law_again.F.kp T.law_again.b .nil pass0 (pa_cons (pv 7) pa_nil)) pa_nil))) pa_nil)))) pss_nil))))))))
    (pss_cons (ps_par (i := 6) (j := 7) (by rfl) sc_law.nd rfl rfl (by decide) rfl rfl (pa_cons (by exact (pe_make T.mkc (ok_Line_init T.toTL) (hr.mono (by decide)) rfl T.gL T.m_init.b .nil passL (pa_cons (pe_tup (pa_cons pe_str (pa_cons pe_int pa_nil))) pa_nil))) (pa_cons (pe_lst (pa_cons pe_int (pa_cons (pe_lst (pa_cons pe_dnewK (pa_cons pe_dnewK pa_nil))) (pa_cons (pe_lst (pa_cons (pe_lst pa_nil) (pa_cons (pe_lst pa_nil) pa_nil))) pa_nil)))) pa_nil)) (by rfl))
    (pss_cons (ps_for PassesOwn.never rfl (kpil K (pe_lst (pa_cons (pe_tup (pa_cons pe_int (pa_cons pe_int (pa_cons pe_int pa_nil)))) (pa_cons (pe_tup (pa_cons pe_int (pa_cons pe_int (pa_cons pe_int pa_nil)))) (pa_cons (pe_tup (pa_cons pe_int (pa_cons pe_int (pa_cons pe_int pa_nil)))) (pa_cons (pe_tup (pa_cons pe_int (pa_cons pe_int (pa_cons pe_int pa_nil)))) (pa_cons (pe_tup (pa_cons pe_int (pa_cons pe_int (pa_cons pe_int pa_nil)))) (pa_cons (pe_tup (pa_cons pe_int (pa_cons pe_int (pa_cons pe_int pa_nil)))) (pa_cons (pe_tup (pa_cons pe_int (pa_cons pe_int (pa_cons pe_int pa_nil)))) (pa_cons (pe_tup (pa_cons pe_int (pa_cons pe_int (pa_cons pe_int pa_nil)))) (pa_cons (pe_tup (pa_cons pe_int (pa_cons pe_int (pa_cons pe_int pa_nil)))) (pa_cons (pe_tup (pa_cons pe_int (pa_cons pe_int (pa_cons pe_int pa_nil)))) pa_nil)))))))))))) (pg_tup (by rfl) (pgs_cons (pg_name (i := 8) sc_law.nd rfl (Or.inl rfl)) (pgs_cons (pg_name (i := 9) sc_law.nd rfl (Or.inl rfl)) (pgs_cons (pg_name (i := 10) sc_law.nd rfl (Or.inl rfl)) pgs_nil)))) (pss_cut (ps_set (i := 11) sc_law.nd rfl (Or.inl rfl) (pe_call (ok_law_due T) (hr.mono (by decide)) rfl T.law_due.m T.law_due.F.kp T.law_due.b .nil pass0 (pa_cons (pv 7) (pa_cons (pv 8) (pa_cons (pv 9) (pa_cons (pv 10) pa_nil))))))
    (pss_one (ps_if (PW.pt (pw_or (pt_not (pt_val (pe_call (ok_law_same T.toTA1) (hr.mono (by decide)) rfl T.law_same.m T.law_same.F.kp T.law_same.b .nil pass0 (pa_cons (pe_call (ok_law_did T) (hr.mono (by decide)) rfl T.law_did.m T.law_did.F.kp T.law_did.b .nil pass0 (pa_cons (pv 6) (pa_cons (pv 3) (pa_cons (pv 8) (pa_cons (pv 9) (pa_cons (pv 10) pa_nil)))))) (pa_cons (pv 11) pa_nil))))) (pw_or1 (pt_not (pt_val (pe_call (ok_law_asked T) (hr.mono (by decide)) rfl T.law_asked.m T.law_asked.F.kp T.law_asked.b .nil pass0 (pa_cons (pv 6) (pa_cons (pv 7) (pa_cons (pv 3) (pa_cons (pv 10) pa_nil)))))))))) (pss_one (ps_ret pe_bl)) pss_nil))))
    (pss_one (ps_for PassesOwn.never rfl (kpil K (pe_op op_cat (pv 4) (pe_revL (pv 4)))) (pg_lst (by rfl) (pgs_cons (pg_name (i := 6) sc_law.nd rfl (Or.inl rfl)) (pgs_cons (pg_name (i := 7) sc_law.nd rfl (Or.inl rfl)) pgs_nil))) (pss_cons (ps_if (pt_not (pt_val (pe_call (ok_law_asked T) (hr.mono (by decide)) rfl T.law_asked.m T.law_asked.F.kp T.law_asked.b .nil pass0 (pa_cons (pv 6) (pa_cons (pv 7) (pa_cons (pe_op op_sub pe_int (pv 3)) (pa_cons (pe_call (ok_law_take T.toTA1) (hr.mono (by decide)) rfl T.law_take.m T.law_take.F.kp T.law_take.b .nil pass0 (pa_cons (pv 2) (pa_cons pe_int pa_nil))) pa_nil))))))) (pss_one (ps_ret pe_bl)) pss_nil)
    (pss_one (ps_if (PW.pt (pw_or (pt_not (pt_val (pe_call (ok_law_same T.toTA1) (hr.mono (by decide)) rfl T.law_same.m T.law_same.F.kp T.law_same.b .nil pass0 (pa_cons (pe_call (ok_law_did T) (hr.mono (by decide)) rfl T.law_did.m T.law_did.F.kp T.law_did.b .nil pass0 (pa_cons (pv 6) (pa_cons (pv 3) (pa_cons pe_int (pa_cons pe_int (pa_cons pe_int pa_nil)))))) (pa_cons (pe_tup (pa_cons pe_str (pa_cons pe_int pa_nil))) pa_nil))))) (pw_or1 (pt_not (pt_val (pe_call (ok_law_same T.toTA1) (hr.mono (by decide)) rfl T.law_same.m T.law_same.F.kp T.law_same.b .nil pass0 (pa_cons (pe_call (ok_law_did T) (hr.mono (by decide)) rfl T.law_did.m T.law_did.F.kp T.law_did.b .nil pass0 (pa_cons (pv 6) (pa_cons (pv 3) (pa_cons pe_int (pa_cons (pe_un un_neg pe_int) (pa_cons pe_int pa_nil)))))) (pa_cons (pe_tup (pa_cons pe_str (pa_cons (pe_un un_neg pe_int) pa_nil))) pa_nil)))))))) (pss_one (ps_ret pe_bl)) pss_nil)))))))))))))
    (pss_one (ps_ret pe_bl))), ?_⟩
  refine ⟨_, rfl, _, _, rfl, .inl ⟨_, hS, rfl⟩, _, _, rfl, _, _, rfl, _, rfl, ?_, ?_, for_range (lo := 0) (n := _)
    (fun k σ H' => Ex H H' ∧ ∃ x1 x2 x3 x4 x5 x6 x7 x8 x9 x10 x11, σ = [some (.ref a), x1, x2, x3, x4, x5, x6, x7, x8, x9, x10, x11]) ⟨Ex.refl _, _, _, _, _, _, _, _, _, _, _, _, rfl⟩ ?_ ?_⟩
  · have := (mm ((ns.map V.int).length : Int)).1
    exact Int.le_trans (by decide) this
  · have := (mm ((ns.map V.int).length : Int)).2
    exact Int.lt_of_le_of_lt this (by decide)
  · rintro k σ H1 hk ⟨e1, x1, x2, x3, x4, x5, x6, x7, x8, x9, x10, x11, rfl⟩
    have hS1 := ex_l e1 hS
    have hk2 : k ≤ 2 := by
      have := (mm ((ns.map V.int).length : Int)).2
      omega
    -- box
    refine ⟨_, rfl, _, rfl, a, ns, _, rfl, hS1, by omega, by omega, fun v H2 e2 => ?_⟩
    refine ⟨v, rfl, fun b H3 hb0 e3 B3 => ?_⟩
    have E13 := e2.trans e3
    have b0 : H1 b = none := fresh_back e2 hb0
    -- named
    refine ⟨_, rfl, b, 2, 999999, rfl, by decide, by decide, B3, fun named H4 n0 n1 B4 k4 => ?_⟩
    refine ⟨Nat.zero_le _, fun p0 hp0 => ⟨_, _, rfl, ?_⟩⟩
    have ex4 : Ex H1 (upd H4 p0 (.lst [])) := fun c o h => (Ex.new hp0) c o (k4 c o (ne_of_none h b0) (E13 _ _ h))
    have B4 := B4.ex (Ex.new (o := .lst []) hp0)
    generalize upd H4 p0 (.lst []) = H4 at ex4 B4 ⊢
    -- two pairs
    refine ⟨_, rfl, b, 999990, rfl, B4.le (by decide), fun R1 m1 H5 P1 nd1 fr1 B5 k5 => ?_⟩
    have ex5 : Ex H1 H5 := fun c o h => k5 c o (ne_of_none h b0) (ex4 _ _ h)
    refine ⟨_, rfl, b, 999980, rfl, B5.le (by decide), fun R2 m2 H6 P2 nd2 fr2 B6 k6 => ?_⟩
    have ex6 : Ex H1 H6 := fun c o h => k6 c o (ne_of_none h b0) (ex5 _ _ h)
    refine ⟨two_le, fun D hD => ?_⟩
    have J0 : Jc H1 b D 999980 [R1, R2] (upd H6 D (.lst [.ref R1.pr, .ref R2.pr])) ∧ AllAt T.C [R1, R2] (upd H6 D (.lst [.ref R1.pr, .ref R2.pr])) := by
      have e7 : Ex H6 (upd H6 D (.lst [.ref R1.pr, .ref R2.pr])) := Ex.new hD
      have fm : [R1, R2].flatMap Pr.cells = R1.cells ++ R2.cells := by simp
      have apart : ∀ x ∈ R1.cells, ∀ y ∈ R2.cells, x ≠ y := fun x hx y hy => by
        obtain ⟨o, hn⟩ := (pair_cells P1 x hx).some
        exact ne_of_none hn (fr2 y (by simp [hy]))
      refine ⟨⟨B6.ex e7, b0, fresh_back ex6 hD, ex6.trans e7, upd_same, Nat.le_refl _, (by show 2 ≤ 4; decide), ?_, ?_⟩, ?_⟩
      · rw [fm]
        exact List.nodup_append.mpr ⟨nd1, nd2, apart⟩
      · rw [fm]
        intro x hx
        rcases List.mem_append.mp hx with h | h
        · exact fresh_back ex4 (fr1 x (by simp [h]))
        · exact fresh_back ex5 (fr2 x (by simp [h]))
      · intro R hR
        rcases List.mem_cons.mp hR with rfl | hR
        · exact ⟨_, (P1.box B5 k6).ex e7, good_empty P1.line.ok⟩
        · obtain rfl := List.mem_singleton.mp hR
          exact ⟨_, P2.ex e7, good_empty P2.line.ok⟩
    obtain ⟨J0, A0⟩ := J0
    generalize hH7 : upd H6 D (.lst [.ref R1.pr, .ref R2.pr]) = H7 at J0 A0 ⊢
    -- asked at once
    obtain ⟨L1, Q1, g1⟩ := A0 R1 (by simp)
    refine ⟨_, rfl, _, _, _, _, rfl, rfl, SqL.of J0.dir, rfl, _, _, _, _, rfl, rfl, SqL.of Q1.pr, rfl, _, rfl, _, _, _, _, rfl, rfl, SqL.of J0.dir, rfl, _, _, _, _, rfl, rfl, SqL.of Q1.pr, rfl, _, rfl, _, rfl, b, 12, 999970, rfl, by decide, by decide, J0.box.le (by decide), fun r H8 r0 r1 B8 k8 => ?_⟩
    have J8 := J0.but B8 k8
    have A8 := A0.but J0.box k8
    have Q8 := Q1.box J0.box k8
    refine ⟨R1.A, R1.M, L1, named, r, rfl, Q8.line, Q8.mod, g1.sm, ⟨r0, by omega⟩, ⟨n0, by omega⟩, fun H9 e9 => ⟨true, rfl, iteF ?_⟩⟩
    have J9 := J8.exx e9
    have A9 := A8.exx e9
    refine ⟨_, rfl, b, 29, 999960, rfl, by decide, by decide, J9.box.le (by decide), fun m H10 m0 m9 B10 k10 => ?_⟩
    have J10 := J9.but B10 k10
    have A10 := A9.but J9.box k10
    refine ⟨_, _, rfl, rfl, 12 + m, rfl, by omega, by omega, for_range (lo := 0) (n := (12 + m).toNat)
      (fun i σ H' => ∃ Rs, Jc H1 b D (990000 - 20 * i) Rs H' ∧ AllAt T.C Rs H' ∧ ∃ y5 y6 y7 y8 y9 y10 y11, σ = [some (.ref a), some (.int (0 + (k : Int))), some (.ref b), some (.int named), some (.ref D), y5, y6, y7, y8, y9, y10, y11])
      ⟨[R1, R2], J10.le (by decide), A10, _, _, _, _, _, _, _, rfl⟩ ?_ ?_⟩
    · rintro i σ H' hi ⟨Rs, J, AA, y5, y6, y7, y8, y9, y10, y11, rfl⟩
      have hi41 : i < 41 := by omega
      obtain ⟨n', hn'⟩ : ∃ n', 990000 - 20 * i = n' + 20 := ⟨990000 - 20 * i - 20, by omega⟩
      have hn2 : 990000 - 20 * (i + 1) ≤ n' := by omega
      rw [hn'] at J
      clear hn'
      have two := J.two
      have four := J.four
      refine ⟨_, rfl, _, rfl, _, rfl, _, _, rfl, .inl ⟨_, SqL.of J.dir, rfl⟩, b, _, n' + 19, rfl, ?_, ?_, J.box, fun r2 H2 r20 r21 B2 k2 => ?_⟩
      · rw [List.length_map]; omega
      · rw [List.length_map]; omega
      rw [List.length_map] at r21
      have J2 := J.but B2 k2
      have A2 := AA.but J.box k2
      obtain ⟨R, hR, hat⟩ : ∃ R, R ∈ Rs ∧ atI (Rs.map fun R => V.ref R.pr) r2 = some (.ref R.pr) := by
        obtain ⟨v, hv, hg⟩ := at_get (xs := Rs.map fun R => V.ref R.pr) r20 (by rw [List.length_map]; exact r21)
        rw [List.getElem?_map] at hg
        cases e : Rs[r2.toNat]? with
        | none => rw [e] at hg; cases hg
        | some R =>
          rw [e] at hg
          obtain rfl := Option.some.inj hg
          exact ⟨R, List.mem_of_getElem? e, hv⟩
      obtain ⟨L, P2, g⟩ := A2 R hR
      refine ⟨_, _, _, _, rfl, rfl, SqL.of J2.dir, hat, R.pr, _, rfl, SqL.of P2.pr, rfl, _, _, rfl, _, _, rfl, rfl, ?_⟩
      refine ⟨_, rfl, _, rfl, b, R.M, L, n' + 15, rfl, J2.box, P2.mod, g.sm, fun t deed sd kd H3 hd hs ft ht B3 k3 => ?_⟩
      have J3 := J2.but B3 k3
      have A3 := A2.but J2.box k3
      have P3 := P2.box J2.box k3
      have ndR : R.cells.Nodup := fm_nd J3.nd hR
      have inR : ∀ {x : Addr}, x ∈ R.cells → x ∈ Rs.flatMap Pr.cells := fun h => List.mem_flatMap.mpr ⟨R, hR, h⟩
      have bt : Both T.C R L H3 := ⟨P3.line, P3.mod, ndR, g⟩
      refine ⟨t, _, rfl, SqT.of ht, rfl, _, _, rfl, _, _, rfl, _, _, rfl, rfl, ?_⟩
      -- what is due
      refine ⟨fun σ' H4 => ∃ t', σ' = [some (.ref a), some (.int (0 + (k : Int))), some (.ref b), some (.int named), some (.ref D), some (.int (0 + (i : Int))), some (.ref R.A.p), some (.ref R.M.mp), some (.int deed), some (.int sd), some (.int kd), some (.ref t')] ∧
        ((∃ out, DidEx L deed sd kd out ∧ Ex H3 H4 ∧ H4 t' = some (.tup out)) ∨ (DidMut L deed sd kd ∧ Did R.M L deed sd kd H3 H4 ∧ H4 t' = some (.tup [.str "done", .bl true]))), ?_, ?_⟩
      · refine ⟨_, rfl, _, rfl, _, rfl, _, rfl, R.M, L, deed, sd, kd, rfl, P3.mod, hs, hd, ?_, ?_, fun out t' H4 dx e4 f4 ht' => ⟨t', rfl, .inl ⟨out, dx, e4, ht'⟩⟩, fun t' H4 dm dd n1 n2 f4 ht' => ⟨t', rfl, .inr ⟨dm, dd, ht'⟩⟩⟩
        · have := g.sm.s sd; omega
        · have := g.sm.c sd; omega
      rintro σ' H4 ⟨t', rfl, dd⟩
      -- what was done is the same
      refine ⟨fun σ' H6 => σ' = [some (.ref a), some (.int (0 + (k : Int))), some (.ref b), some (.int named), some (.ref D), some (.int (0 + (i : Int))), some (.ref R.A.p), some (.ref R.M.mp), some (.int deed), some (.int sd), some (.int kd), some (.ref t')] ∧ Jc H1 b D (n' + 15) Rs H6 ∧ AllAt T.C Rs H6, ?_, ?_⟩
      · refine ⟨_, rfl, _, rfl, _, rfl, _, _, rfl, rfl, .inl ⟨_, rfl, _, _, rfl, rfl, (by show (0 : Int) < 2; decide), _, rfl, _, rfl, _, rfl, ?_⟩⟩
        rcases dd with ⟨out, dx, e4, ht'⟩ | ⟨dm, dd, ht'⟩
        · refine ⟨R.A, L, _, deed, sd, kd, rfl, (P3.ex e4).line, g.sm.cell _ _, fun out2 t2 H5 dx2 e5 f5 ht2 => ?_, fun t2 H5 dm2 _ _ _ _ _ => (did_not dx dm2).elim⟩
          have e := did_det dx2 dx
          subst e
          exact ⟨_, rfl, _, _, rfl, sm_out dx2 ht2 (e5 _ _ ht'), fun H6 e6 => ⟨true, rfl, iteF ⟨rfl, J3.exx ((e4.trans e5).trans e6), A3.exx ((e4.trans e5).trans e6)⟩⟩⟩
        · obtain ⟨⟨c3, i3⟩, c4, i4⟩ := put_cells (deed := deed) (H5 := H4) bt dd
          have l4 : LineAt T.C R.A L H4 := P3.line.keep c3 dd.butl fun x hx m => by
            have nAM : ∀ x ∈ R.A.cells, ∀ y ∈ R.M.cells, x ≠ y := (List.nodup_append.mp ndR).2.2
            simp only [List.mem_cons, List.not_mem_nil, or_false] at hx
            rcases hx with rfl | rfl
            · exact nAM _ m _ Md.u_mem rfl
            · exact nAM _ m _ Md.t_mem rfl
          have J4 := J3.write c3 (fun x hx => J3.c0 x (inR (i3 x hx))) dd.butl
          refine ⟨R.A, L, _, deed, sd, kd, rfl, l4, g.sm.cell _ _, fun out2 t2 H5 dx2 _ _ _ => (did_not dx2 dm).elim, fun t2 H5 dm2 k5 hc5 n5 f5 ht2 => ?_⟩
          have b5 := bt.put dd dm k5 hc5
          have J5 := J4.write c4 (fun x hx => J3.c0 x (inR (i4 x hx))) (Butl.of k5)
          have pr4 := dd.butl _ _ (c3.refs P3.pr) P3.pr
          have pr5 := k5 _ _ ((c4 _ (by simp)).refs pr4) pr4
          have A5 : AllAt T.C Rs H5 := by
            intro R' hR'
            by_cases eq : R' = R
            · subst eq
              exact ⟨L.put deed sd kd, ⟨pr5, b5.line, b5.mod⟩, b5.good⟩
            · obtain ⟨L', p', g'⟩ := A3 R' hR'
              have o1 : ∀ x ∈ [R.M.u sd, R.M.t sd], x ∉ R'.cells := fun x hx h => eq (fm_same J3.nd hR' hR h (i3 x hx))
              have o2 : ∀ x ∈ [R.A.cell deed sd], x ∉ R'.cells := fun x hx h => eq (fm_same J3.nd hR' hR h (i4 x hx))
              exact ⟨L', (p'.keep c3 dd.butl o1).keep c4 (Butl.of k5) o2, g'⟩
          have nt2 : t' ≠ R.A.cell deed sd := (c4 _ (by simp)).tup ht'
          exact ⟨_, rfl, _, _, rfl, sm_done ht2 (k5 _ _ nt2 ht'), fun H6 e6 => ⟨true, rfl, iteF ⟨rfl, J5.exx e6, A5.exx e6⟩⟩⟩
      rintro σ' H6 ⟨rfl, J6, A6⟩
      -- asked, now and then
      refine ⟨fun σ' H9 => σ' = [some (.ref a), some (.int (0 + (k : Int))), some (.ref b), some (.int named), some (.ref D), some (.int (0 + (i : Int))), some (.ref R.A.p), some (.ref R.M.mp), some (.int deed), some (.int sd), some (.int kd), some (.ref t')] ∧ Jc H1 b D (n' + 10) Rs H9 ∧ AllAt T.C Rs H9, ?_, ?_⟩
      · refine ⟨_, rfl, b, 6, n' + 14, rfl, by decide, by decide, J6.box, fun c H7 c0 c1 B7 k7 => ⟨rfl, _, rfl, ?_⟩⟩
        have J7 := J6.but B7 k7
        have A7 := A6.but J6.box k7
        by_cases hc : c = 0
        · rw [show decide (V.int c = V.int 0) = true from decide_eq_true (by rw [hc])]
          refine iteT ⟨_, rfl, _, rfl, _, rfl, _, rfl, b, 12, n' + 13, rfl, by decide, by decide, J7.box, fun r H8 r0 r1 B8 k8 => ?_⟩
          have J8 := J7.but B8 k8
          have A8 := A7.but J7.box k8
          obtain ⟨L', P8, g8⟩ := A8 R hR
          exact ⟨R.A, R.M, L', named, r, rfl, P8.line, P8.mod, g8.sm, ⟨r0, by omega⟩, ⟨n0, by omega⟩, fun H9 e9 => ⟨true, rfl, iteF ⟨rfl, (J8.exx e9).le (by omega), A8.exx e9⟩⟩⟩
        · rw [show decide (V.int c = V.int 0) = false from decide_eq_false fun z => hc (V.int.inj z)]
          exact iteF ⟨rfl, J7.le (by omega), A7⟩
      rintro σ' H9 ⟨rfl, J9, A9⟩
      -- a copy
      refine ⟨_, rfl, _, _, rfl, .inl ⟨_, SqL.of J9.dir, rfl⟩, _, _, rfl, rfl, _, rfl, ?_⟩
      rw [List.length_map]
      by_cases c4 : (Rs.length : Int) < 4
      · rw [decide_eq_true c4]
        refine iteT ⟨_, rfl, b, 9, n' + 9, rfl, by decide, by decide, J9.box, fun c H10 c0 c1 B10 k10 => ⟨rfl, _, rfl, ?_⟩⟩
        have J10 := J9.but B10 k10
        have A10 := A9.but J9.box k10
        by_cases hc : c = 0
        · rw [show decide (V.int c = V.int 0) = true from decide_eq_true (by rw [hc])]
          refine iteT ?_
          obtain ⟨L', P10, g10⟩ := A10 R hR
          refine ⟨_, rfl, .inl ⟨rfl, _, SqL.of J10.dir⟩, _, rfl, R.A.p, R.A.dx, _, rfl, P10.line.obj, rfl, R.A, L', rfl, P10.line, fun s _ => ⟨Nat.le_of_lt (Nat.lt_trans (g10.sm.s s) (by decide)), Nat.le_of_lt (Nat.lt_trans (g10.sm.c s) (by decide))⟩, fun B H11 lB ndB frB e11 => ?_⟩
          have J11 := J10.exx e11
          have A11 := A10.exx e11
          have P11 := P10.ex e11
          refine ⟨_, rfl, R.M, L', rfl, P11.mod, g10.sm, fun N H12 dN ndN frN e12 => ⟨two_le, fun pr hpr => ?_⟩⟩
          have e13 : Ex H12 (upd H12 pr (.lst [.ref B.p, .ref N.mp])) := Ex.new hpr
          have J13 := (J11.exx e12).exx e13
          have A13 := (A11.exx e12).exx e13
          have cells10 : ∀ R' ∈ Rs, Cells H10 R'.cells := fun R' hR' => by
            obtain ⟨L2, p2, _⟩ := A10 R' hR'
            exact pair_cells p2
          have frB' : ∀ x ∈ B.cells, H10 x = none := frB
          have frN' : ∀ x ∈ N.cells, H11 x = none := fun x hx => frN x (by simp [hx])
          have fr10 : ∀ x ∈ B.cells ++ N.cells, H10 x = none := fun x hx => by
            rcases List.mem_append.mp hx with h | h
            · exact frB' x h
            · exact fresh_back e11 (frN' x h)
          have P13 : PairAt T.C ⟨pr, B, N⟩ L' (upd H12 pr (.lst [.ref B.p, .ref N.mp])) := ⟨upd_same, (lB.ex e12).ex e13, dN.ex e13⟩
          have add := J13.add A13 P13 g10 (by omega) (List.nodup_append.mpr ⟨ndB, ndN, fun x hx y hy => by
              obtain ⟨o, h⟩ := (line_cells lB x hx).some
              exact ne_of_none h (frN' y hy)⟩)
            (fun x hx R' hR' h => by
              obtain ⟨o, z⟩ := (cells10 R' hR' x h).some
              rw [fr10 x hx] at z
              cases z)
            (fun x hx => fresh_back J10.ex (fr10 x hx))
          exact ⟨D, _, _, rfl, rfl, J13.dir, small1000 (by rw [List.length_map]; omega), _, add.1.le (by omega), add.2, _, _, _, _, _, _, _, rfl⟩
        · rw [show decide (V.int c = V.int 0) = false from decide_eq_false fun z => hc (V.int.inj z)]
          exact iteF ⟨_, J10.le (by omega), A10, _, _, _, _, _, _, _, rfl⟩
      · rw [decide_eq_false c4]
        exact iteF ⟨_, J9.le (by omega), A9, _, _, _, _, _, _, _, rfl⟩
    · rintro σ H11 ⟨Rs, J, AA, y5, y6, y7, y8, y9, y10, y11, rfl⟩
      have two := J.two
      have four := J.four
      have J' : Jc H1 b D 900000 Rs H11 := J.le (by omega)
      -- the third line
      refine ⟨two_le, fun q0 hq0 => ?_⟩
      intro x dx hx hdx nxd
      have x1 : Ex H11 _ := Ex.new (o := .tup [.str "wires", .int 3]) hq0
      have x2 := x1.trans (Ex.new (o := .own x) hdx)
      have hx2 : upd (upd H11 q0 (.tup [.str "wires", .int 3])) dx (.own x) x = none := by rw [upd_ne nxd.symm]; exact hx
      have x3 := x2.trans (Ex.new (o := .ins T.C dx []) hx2)
      have ok3 : (Knd.wir 3).Ok := by show (0 : Int) ≤ 3 ∧ (3 : Int) ≤ 10; decide
      refine ⟨x, q0, dx, .wir 3, rfl, upd_same, ((Ex.new hdx).trans (Ex.new hx2)) _ _ upd_same, ok3, fun A3 H12 ap adx asp lA nd3 fr3 kk3 => ?_⟩
      have e12 : Ex H11 H12 := fun a o h => kk3 a o (ne_of_none (x2 _ _ h) hx2) (x3 _ _ h)
      have frA : ∀ a ∈ A3.cells, H11 a = none := fun a ha => by
        have h2 : a ∈ [A3.a0, A3.a1, A3.d0, A3.d1, A3.sb, A3.cb] := by
          have h3 : a ∈ [A3.a0, A3.a1, A3.d0, A3.d1] := ha
          simp only [List.mem_cons, List.not_mem_nil, or_false] at h3 ⊢
          rcases h3 with h | h | h | h <;> simp [h]
        exact fresh_back x3 (fr3 a h2)
      refine ⟨rfl, ?_⟩
      intro u0 h1 u1 h2
      refine ⟨two_le, fun us h3 => ⟨Nat.zero_le _, fun t0 h4 => ⟨Nat.zero_le _, fun t1 h5 => ⟨two_le, fun rs h6 => ⟨three_le, fun mp h7 => ?_⟩⟩⟩⟩⟩
      have nm := new_model ok3 h1 rfl h2 rfl h3 rfl h4 rfl h5 rfl h6 rfl h7 rfl
      refine ⟨_, _, rfl, ?_⟩
      rw [← ap]
      generalize hH13 : upd _ mp _ = H13 at nm ⊢
      obtain ⟨m3, e13, ndM3, frM⟩ := nm
      have E13' := e12.trans e13
      have z0 : St3 T.C H1 b D 900000 Rs ⟨A3.p, A3, ⟨mp, us, rs, t0, t1, u0, u1⟩⟩ [] H13 := by
        have fr : ∀ x ∈ (Pr.mk A3.p A3 ⟨mp, us, rs, t0, t1, u0, u1⟩).cells, H11 x = none := fun x hx => by
          rcases List.mem_append.mp hx with h | h
          · exact frA x h
          · exact fresh_back e12 (frM x h)
        refine ⟨J'.exx E13', AA.exx E13', ⟨_, lA.ex e13, m3, List.nodup_append.mpr ⟨nd3, ndM3, fun x hx y hy => ?_⟩, good_empty ok3⟩, fun x hx R hR m => ?_, fun x hx => fresh_back J'.ex (fr x hx), fun t ht => absurd ht (by simp)⟩
        · obtain ⟨o, h⟩ := (line_cells lA x hx).some
          exact ne_of_none h (frM y hy)
        · obtain ⟨L2, p2, _⟩ := AA R hR
          obtain ⟨o, h⟩ := (pair_cells p2 x m).some
          rw [fr x hx] at h
          cases h
      refine ⟨three_le, fun v0 hv0 => ?_⟩
      have z1 := z0.new (d := 0) (s := 0) (k := 1) hv0 (by decide) (by unfold Side; decide) (by decide)
      generalize upd _ v0 _ = G0 at z1 ⊢
      refine ⟨three_le, fun v1 hv1 => ?_⟩
      have z2 := z1.new (d := 0) (s := 1) (k := 1) hv1 (by decide) (by unfold Side; decide) (by decide)
      generalize upd _ v1 _ = G1 at z2 ⊢
      refine ⟨three_le, fun v2 hv2 => ?_⟩
      have z3 := z2.new (d := 1) (s := 1) (k := 1) hv2 (by decide) (by unfold Side; decide) (by decide)
      generalize upd _ v2 _ = G2 at z3 ⊢
      refine ⟨three_le, fun v3 hv3 => ?_⟩
      have z4 := z3.new (d := 1) (s := 0) (k := 1) hv3 (by decide) (by unfold Side; decide) (by decide)
      generalize upd _ v3 _ = G3 at z4 ⊢
      refine ⟨three_le, fun v4 hv4 => ?_⟩
      have z5 := z4.new (d := 0) (s := 1) (k := 2) hv4 (by decide) (by unfold Side; decide) (by decide)
      generalize upd _ v4 _ = G4 at z5 ⊢
      refine ⟨three_le, fun v5 hv5 => ?_⟩
      have z6 := z5.new (d := 1) (s := 0) (k := 2) hv5 (by decide) (by unfold Side; decide) (by decide)
      generalize upd _ v5 _ = G5 at z6 ⊢
      refine ⟨three_le, fun v6 hv6 => ?_⟩
      have z7 := z6.new (d := 0) (s := 0) (k := 2) hv6 (by decide) (by unfold Side; decide) (by decide)
      generalize upd _ v6 _ = G6 at z7 ⊢
      refine ⟨three_le, fun v7 hv7 => ?_⟩
      have z8 := z7.new (d := 0) (s := 1) (k := 3) hv7 (by decide) (by unfold Side; decide) (by decide)
      generalize upd _ v7 _ = G7 at z8 ⊢
      refine ⟨three_le, fun v8 hv8 => ?_⟩
      have z9 := z8.new (d := 0) (s := 0) (k := 3) hv8 (by decide) (by unfold Side; decide) (by decide)
      generalize upd _ v8 _ = G8 at z9 ⊢
      refine ⟨three_le, fun v9 hv9 => ?_⟩
      have z10 := z9.new (d := 1) (s := 0) (k := 2) hv9 (by decide) (by unfold Side; decide) (by decide)
      generalize upd _ v9 _ = G9 at z10 ⊢
      refine ⟨(by show 10 ≤ sizeLine; decide), fun S3 hS3 => ?_⟩
      have zz := z10.exx (Ex.new (o := .lst [.ref v0, .ref v1, .ref v2, .ref v3, .ref v4, .ref v5, .ref v6, .ref v7, .ref v8, .ref v9]) hS3)
      let R3 : Pr := ⟨A3.p, A3, ⟨mp, us, rs, t0, t1, u0, u1⟩⟩
      refine ⟨S3, rfl, ⟨_, SqL.of upd_same⟩, for_list (xs := [.ref v0, .ref v1, .ref v2, .ref v3, .ref v4, .ref v5, .ref v6, .ref v7, .ref v8, .ref v9])
        (fun i σ H' => St3 T.C H1 b D 900000 Rs R3 [v9, v8, v7, v6, v5, v4, v3, v2, v1, v0] H' ∧ H' S3 = some (.lst [.ref v0, .ref v1, .ref v2, .ref v3, .ref v4, .ref v5, .ref v6, .ref v7, .ref v8, .ref v9]) ∧ ∃ y5 y8 y9 y10 y11, σ = [some (.ref a), some (.int (0 + (k : Int))), some (.ref b), some (.int named), some (.ref D), y5, some (.ref R3.A.p), some (.ref R3.M.mp), y8, y9, y10, y11])
        ⟨zz, upd_same, _, _, _, _, _, rfl⟩ (fun i σ H' _ p => SqL.of p.2.1) ?_ ?_⟩
      · rintro i x σ H' hx ⟨z, hSS, y5, y8, y9, y10, y11, rfl⟩
        obtain ⟨t, htm, rfl⟩ : ∃ t, t ∈ [v9, v8, v7, v6, v5, v4, v3, v2, v1, v0] ∧ x = .ref t := by
          have := List.mem_of_getElem? hx
          simp only [List.mem_cons, List.not_mem_nil, or_false] at this
          rcases this with rfl | rfl | rfl | rfl | rfl | rfl | rfl | rfl | rfl | rfl <;> exact ⟨_, by simp, rfl⟩
        obtain ⟨deed, sd, kd, ht, hd, hs, hk0, hk1⟩ := z.tr t htm
        obtain ⟨L, bt⟩ := z.bo
        have g := bt.good
        refine ⟨t, _, rfl, SqT.of ht, rfl, _, _, rfl, _, _, rfl, _, _, rfl, rfl, ?_⟩
        refine ⟨fun σ' H4 => ∃ t', σ' = [some (.ref a), some (.int (0 + (k : Int))), some (.ref b), some (.int named), some (.ref D), y5, some (.ref R3.A.p), some (.ref R3.M.mp), some (.int deed), some (.int sd), some (.int kd), some (.ref t')] ∧
          ((∃ out, DidEx L deed sd kd out ∧ Ex H' H4 ∧ H4 t' = some (.tup out)) ∨ (DidMut L deed sd kd ∧ Did R3.M L deed sd kd H' H4 ∧ H4 t' = some (.tup [.str "done", .bl true]))), ?_, ?_⟩
        · refine ⟨_, rfl, _, rfl, _, rfl, _, rfl, R3.M, L, deed, sd, kd, rfl, bt.mod, hs, hd, ?_, ?_, fun out t' H4 dx e4 f4 ht' => ⟨t', rfl, .inl ⟨out, dx, e4, ht'⟩⟩, fun t' H4 dm dd n1 n2 f4 ht' => ⟨t', rfl, .inr ⟨dm, dd, ht'⟩⟩⟩
          · have := g.sm.s sd; omega
          · have := g.sm.c sd; omega
        rintro σ' H4 ⟨t', rfl, dd⟩
        refine ⟨_, rfl, _, rfl, _, rfl, _, rfl, _, rfl, ?_⟩
        rcases dd with ⟨out, dx, e4, ht'⟩ | ⟨dm, dd, ht'⟩
        · refine ⟨R3.A, L, named, deed, sd, kd, rfl, (bt.ex e4).line, g.sm.cell _ _, fun out2 t2 H5 dx2 e5 f5 ht2 => ?_, fun t2 H5 dm2 _ _ _ _ _ => (did_not dx dm2).elim⟩
          have e := did_det dx2 dx
          subst e
          refine ⟨_, rfl, _, _, rfl, sm_out dx2 ht2 (e5 _ _ ht'), fun H6 e6 => ⟨true, rfl, iteF ?_⟩⟩
          have e46 := (e4.trans e5).trans e6
          have b6 := bt.ex e46
          exact ⟨_, rfl, _, rfl, _, rfl, _, rfl, R3.A, R3.M, L, named, kd, rfl, b6.line, b6.mod, g.sm, ⟨hk0, hk1⟩, ⟨n0, by omega⟩, fun H9 e9 => ⟨true, rfl, iteF ⟨z.exx (e46.trans e9), (e46.trans e9) _ _ hSS, _, _, _, _, _, rfl⟩⟩⟩
        · obtain ⟨⟨c3, i3⟩, c4, i4⟩ := put_cells (deed := deed) (H5 := H4) bt dd
          have nAM : ∀ x ∈ R3.A.cells, ∀ y ∈ R3.M.cells, x ≠ y := (List.nodup_append.mp bt.nd).2.2
          have l4 : LineAt T.C R3.A L H4 := bt.line.keep c3 dd.butl fun x hx m => by
            simp only [List.mem_cons, List.not_mem_nil, or_false] at hx
            rcases hx with rfl | rfl
            · exact nAM _ m _ Md.u_mem rfl
            · exact nAM _ m _ Md.t_mem rfl
          refine ⟨R3.A, L, named, deed, sd, kd, rfl, l4, g.sm.cell _ _, fun out2 t2 H5 dx2 _ _ _ => (did_not dx2 dm).elim, fun t2 H5 dm2 k5 hc5 n5 f5 ht2 => ?_⟩
          have b5 := bt.put dd dm k5 hc5
          have J5 := (z.j.write c3 (fun x m => z.fr x (i3 x m)) dd.butl).write c4 (fun x m => z.fr x (i4 x m)) (Butl.of k5)
          have A5 := (z.a.write c3 dd.butl (fun x m R hR => z.ap x (i3 x m) R hR)).write c4 (Butl.of k5) (fun x m R hR => z.ap x (i4 x m) R hR)
          have S4 := dd.butl _ _ (c3.refs hSS) hSS
          have S5 := k5 _ _ ((c4 _ (by simp)).refs S4) S4
          have z5 : St3 T.C H1 b D 900000 Rs R3 [v9, v8, v7, v6, v5, v4, v3, v2, v1, v0] H5 := ⟨J5, A5, ⟨_, b5⟩, z.ap, z.fr, fun t ht => by
            obtain ⟨d', s', k', w, r⟩ := z.tr t ht
            have w4 := dd.butl _ _ (c3.tup w) w
            exact ⟨d', s', k', k5 _ _ ((c4 _ (by simp)).tup w4) w4, r⟩⟩
          have nt2 : t' ≠ R3.A.cell deed sd := (c4 _ (by simp)).tup ht'
          refine ⟨_, rfl, _, _, rfl, sm_done ht2 (k5 _ _ nt2 ht'), fun H6 e6 => ⟨true, rfl, iteF ?_⟩⟩
          have b6 := b5.ex e6
          exact ⟨_, rfl, _, rfl, _, rfl, _, rfl, R3.A, R3.M, _, named, kd, rfl, b6.line, b6.mod, b6.good.sm, ⟨hk0, hk1⟩, ⟨n0, by omega⟩, fun H9 e9 => ⟨true, rfl, iteF ⟨z5.exx (e6.trans e9), (e6.trans e9) _ _ S5, _, _, _, _, _, rfl⟩⟩⟩
      rintro σ H14 ⟨z, _, y5', y8', y9', y10', y11', rfl⟩
      have J' : Jc H1 b D 900000 Rs H14 := z.j
      have AA := z.a
      clear z
      refine ⟨_, rfl, _, rfl, D, _, rfl, SqL.of J'.dir, fun p1 hp1 => ?_⟩
      have x1 : Ex H14 (upd H14 p1 (.lst (Rs.map fun R => V.ref R.pr).reverse)) := Ex.new hp1
      refine ⟨D, p1, _, _, rfl, rfl, x1 _ _ J'.dir, upd_same, Nat.le_of_lt (small1000 (by rw [List.length_reverse, List.length_map]; omega)), fun S hS => ?_⟩
      have x2 : Ex H14 (upd (upd H14 p1 (.lst (Rs.map fun R => V.ref R.pr).reverse)) S (.lst ((Rs.map fun R => V.ref R.pr) ++ (Rs.map fun R => V.ref R.pr).reverse))) := x1.trans (Ex.new hS)
      refine ⟨S, rfl, ⟨_, SqL.of upd_same⟩, for_list (xs := (Rs.map fun R => V.ref R.pr) ++ (Rs.map fun R => V.ref R.pr).reverse)
        (fun i σ H' => Jc H1 b D (900000 - 10 * i) Rs H' ∧ AllAt T.C Rs H' ∧ H' S = some (.lst ((Rs.map fun R => V.ref R.pr) ++ (Rs.map fun R => V.ref R.pr).reverse)) ∧ ∃ y5 y6 y7 y8 y9 y10 y11, σ = [some (.ref a), some (.int (0 + (k : Int))), some (.ref b), some (.int named), some (.ref D), y5, y6, y7, y8, y9, y10, y11])
        ⟨J'.exx x2, AA.exx x2, upd_same, _, _, _, _, _, _, _, rfl⟩ (fun i σ H' _ p => SqL.of p.2.2.1) ?_ ?_⟩
      · rintro i x σ H' hx ⟨J2, A2, hSS, y5, y6, y7, y8, y9, y10, y11, rfl⟩
        have hi8 : i < 8 := by
          have := (List.getElem?_eq_some_iff.mp hx).1
          rw [List.length_append, List.length_reverse, List.length_map] at this
          omega
        obtain ⟨R, hR, rfl⟩ : ∃ R, R ∈ Rs ∧ x = .ref R.pr := by
          have := List.mem_of_getElem? hx
          rcases List.mem_append.mp this with h | h
          · obtain ⟨R, hR, rfl⟩ := List.mem_map.mp h
            exact ⟨R, hR, rfl⟩
          · obtain ⟨R, hR, rfl⟩ := List.mem_map.mp (List.mem_reverse.mp h)
            exact ⟨R, hR, rfl⟩
        obtain ⟨L, P2, g⟩ := A2 R hR
        refine ⟨R.pr, _, rfl, SqL.of P2.pr, rfl, _, _, rfl, _, _, rfl, rfl, ?_⟩
        have J2' : Jc H1 b D (900000 - 10 * (i + 1) + 1) Rs H' := J2.le (by omega)
        refine ⟨_, rfl, _, rfl, _, rfl, _, _, rfl, rfl, _, rfl, b, 12, _, rfl, by decide, by decide, J2'.box, fun r H8 r0 r1 B8 k8 => ?_⟩
        have J8 := J2'.but B8 k8
        have A8 := A2.but J2'.box k8
        have P8 := P2.box J2'.box k8
        have nS : S ≠ b := by
          obtain ⟨c, xs, h⟩ := J2.dir'
          rw [J2.dir] at h
          have h' : (Rs.map fun R => V.ref R.pr) = .ref c :: xs := HO.lst.inj (Option.some.inj h)
          rw [h'] at hSS
          exact bx_refs J2'.box hSS
        have S8 := k8 _ _ nS hSS
        refine ⟨R.A, R.M, L, 1 - named, r, rfl, P8.line, P8.mod, g.sm, ⟨r0, by omega⟩, ⟨by omega, by omega⟩, fun H9 e9 => ⟨true, rfl, iteF ?_⟩⟩
        have no2 : ¬ Side 2 := by unfold Side; omega
        have no1 : ¬ Side (-1) := by unfold Side; omega
        refine ⟨_, rfl, _, rfl, R.A, L, named, 1, 2, 1, rfl, P8.line.ex e9, g.sm.cell _ _, fun out t2 H10 dx e10 f10 ht2 => ?_, fun _ _ dm _ _ _ _ _ => (no2 dm.side).elim⟩
        refine ⟨two_le, fun t3 ht3 => ?_⟩
        have e11 : Ex H10 (upd H10 t3 (.tup [.str "side", .int 2])) := Ex.new ht3
        have eo : out = [.str "side", .int 2] := did_det dx (.side no2)
        refine ⟨_, _, rfl, sm_out dx (e11 _ _ ht2) (by rw [eo]; exact upd_same), fun H12 e12 => ⟨true, rfl, iteF ?_⟩⟩
        have e9' := ((e9.trans e10).trans e11).trans e12
        refine ⟨_, rfl, _, rfl, 1, rfl, R.A, L, named, 0, -1, 0, rfl, P8.line.ex e9', g.sm.cell _ _, fun out t4 H13 dx' e13 f13 ht4 => ?_, fun _ _ dm _ _ _ _ _ => (no1 dm.side).elim⟩
        refine ⟨1, rfl, two_le, fun t5 ht5 => ?_⟩
        have e14 : Ex H13 (upd H13 t5 (.tup [.str "side", .int (-1)])) := Ex.new ht5
        have eo' : out = [.str "side", .int (-1)] := did_det dx' (.side no1)
        refine ⟨_, _, rfl, sm_out dx' (e14 _ _ ht4) (by rw [eo']; exact upd_same), fun H15 e15 => ⟨true, rfl, iteF ?_⟩⟩
        have eE := ((e9'.trans e13).trans e14).trans e15
        exact ⟨J8.exx eE, A8.exx eE, eE _ _ S8, _, _, _, _, _, _, _, rfl⟩
      · rintro σ H12 ⟨J2, A2, hSS, y5, y6, y7, y8, y9, y10, y11, rfl⟩
        exact ⟨e1.trans J2.ex, _, _, _, _, _, _, _, _, _, _, _, rfl⟩
  · rintro σ H1 _
    exact q H1
end
end L2.U


set_option Elab.async false
set_option linter.all false
set_option maxRecDepth 100000
set_option maxHeartbeats 4000000
namespace L2.U
open PySem PySem.Spec PyProof.Rows Evl
theorem exm_of {K : PySem.W.Frag} {C D : Addr} {b : Bool} (h1 : PySem.W.subIn K (.ref D) (.type "BaseException") = some true) (h2 : PySem.W.isClsIn K D = true) (h3 : PySem.W.typeIn K (.ref D) = some (.type "type"))
    (h4 : PySem.W.subIn K (.ref C) (.ref D) = some b) : PySem.W.exmOne K (.ref C) (.ref D) = some b := by
  have h2' : (PySem.W.clsIn K D).isSome = true := h2
  unfold PySem.W.exmOne
  rw [h1, if_pos (by rfl)]
  unfold PySem.W.kitCls
  simp only [h2', h3, h4, beq_self_eq_true, Bool.and_self, if_true]
def mkDef {K : PySem.W.Frag} {h : Heap} {mg : Str → Option Value} (X : K.In h) (G : h.Ns mainGlobals mg) {x : Str} {st : Stmt} {ps : List Str} {f : Addr} {od an : Option Addr} {sl : Array (Option Value)} {oc kV dc pm cd ct : Value}
    (a : PySem.W.nsIn K mainGlobals x = some (some (.ref f))) (l : K.lookup f = some ⟨oc, od, .func (PySem.W.fnOf x x (defArgs st) (defBody st) (defScope st) .none kV dc pm an cd ct), sl⟩) (c : PySem.W.codeIn K cd x = true) (k : PySem.W.keepIn K (.ref f) = true)
    (h2 : ∀ (kV doc pm : Value) (an : Option Addr) (cdv ct : Value) (us : List Value), us.length = ps.length → bindArgs (PySem.W.fnOf x x (defArgs st) (defBody st) (defScope st) .none kV doc pm an cdv ct) ⟨us, []⟩ = pure (ps.zip us)) : DefAt K mg x st ps :=
  ⟨f, _, fun_mk (st := st) l c k, PySem.W.mg_of X G a, (fun_mk (st := st) l c k).binds h2⟩

theorem all_mk {l : PySem.W.OpenLaw} {w : World} {K : PySem.W.Frag} {h : Heap} {mg : Str → Option Value} {fa : Addr} (X : K.In h) (G : h.Ns mainGlobals mg) (hfa : mg "law" = some (.ref fa))
    {f1 : Addr} {od1 an1 : Option Addr} {sl1 : Array (Option Value)} {oc1 kV1 dc1 pm1 cd1 ct1 : Value}
    {f2 : Addr} {od2 an2 : Option Addr} {sl2 : Array (Option Value)} {oc2 kV2 dc2 pm2 cd2 ct2 : Value}
    {f3 : Addr} {od3 an3 : Option Addr} {sl3 : Array (Option Value)} {oc3 kV3 dc3 pm3 cd3 ct3 : Value}
    {f4 : Addr} {od4 an4 : Option Addr} {sl4 : Array (Option Value)} {oc4 kV4 dc4 pm4 cd4 ct4 : Value}
    {f5 : Addr} {od5 an5 : Option Addr} {sl5 : Array (Option Value)} {oc5 kV5 dc5 pm5 cd5 ct5 : Value}
    {f6 : Addr} {od6 an6 : Option Addr} {sl6 : Array (Option Value)} {oc6 kV6 dc6 pm6 cd6 ct6 : Value}
    {f7 : Addr} {od7 an7 : Option Addr} {sl7 : Array (Option Value)} {oc7 kV7 dc7 pm7 cd7 ct7 : Value}
    {f8 : Addr} {od8 an8 : Option Addr} {sl8 : Array (Option Value)} {oc8 kV8 dc8 pm8 cd8 ct8 : Value}
    {f9 : Addr} {od9 an9 : Option Addr} {sl9 : Array (Option Value)} {oc9 kV9 dc9 pm9 cd9 ct9 : Value}
    {f10 : Addr} {od10 an10 : Option Addr} {sl10 : Array (Option Value)} {oc10 kV10 dc10 pm10 cd10 ct10 : Value}
    {f11 : Addr} {od11 an11 : Option Addr} {sl11 : Array (Option Value)} {oc11 kV11 dc11 pm11 cd11 ct11 : Value}
    {f12 : Addr} {od12 an12 : Option Addr} {sl12 : Array (Option Value)} {oc12 kV12 dc12 pm12 cd12 ct12 : Value}
    {f13 : Addr} {od13 an13 : Option Addr} {sl13 : Array (Option Value)} {oc13 kV13 dc13 pm13 cd13 ct13 : Value}
    {f14 : Addr} {od14 an14 : Option Addr} {sl14 : Array (Option Value)} {oc14 kV14 dc14 pm14 cd14 ct14 : Value}
    {f15 : Addr} {od15 an15 : Option Addr} {sl15 : Array (Option Value)} {oc15 kV15 dc15 pm15 cd15 ct15 : Value}
    {f16 : Addr} {od16 an16 : Option Addr} {sl16 : Array (Option Value)} {oc16 kV16 dc16 pm16 cd16 ct16 : Value}
    {f17 : Addr} {od17 an17 : Option Addr} {sl17 : Array (Option Value)} {oc17 kV17 dc17 pm17 cd17 ct17 : Value}
    {f18 : Addr} {od18 an18 : Option Addr} {sl18 : Array (Option Value)} {oc18 kV18 dc18 pm18 cd18 ct18 : Value}
    {t_MOST_LETTERS : Tok}
    {t_MOST_WIRES : Tok}
    {CT : Addr}
    {CInvalidSpec NInvalidSpec fIInvalidSpec : Addr} {nmInvalidSpec qInvalidSpec : Str} {bsInvalidSpec : List Value} {snInvalidSpec : List Str} {subInvalidSpec : List Value} {abInvalidSpec : Bool} {colInvalidSpec : Option Bool} {ddInvalidSpec : Option Addr} {m0InvalidSpec m1InvalidSpec m2InvalidSpec m3InvalidSpec m5InvalidSpec : Option Value}
    {odInvalidSpec anInvalidSpec : Option Addr} {slInvalidSpec : Array (Option Value)} {ocInvalidSpec kVInvalidSpec dcInvalidSpec pmInvalidSpec cdInvalidSpec ctInvalidSpec : Value}
    {CInvalidSide NInvalidSide fIInvalidSide : Addr} {nmInvalidSide qInvalidSide : Str} {bsInvalidSide : List Value} {snInvalidSide : List Str} {subInvalidSide : List Value} {abInvalidSide : Bool} {colInvalidSide : Option Bool} {ddInvalidSide : Option Addr} {m0InvalidSide m1InvalidSide m2InvalidSide m3InvalidSide m5InvalidSide : Option Value}
    {odInvalidSide anInvalidSide : Option Addr} {slInvalidSide : Array (Option Value)} {ocInvalidSide kVInvalidSide dcInvalidSide pmInvalidSide cdInvalidSide ctInvalidSide : Value}
    {CInvalidKind NInvalidKind fIInvalidKind : Addr} {nmInvalidKind qInvalidKind : Str} {bsInvalidKind : List Value} {snInvalidKind : List Str} {subInvalidKind : List Value} {abInvalidKind : Bool} {colInvalidKind : Option Bool} {ddInvalidKind : Option Addr} {m0InvalidKind m1InvalidKind m2InvalidKind m3InvalidKind m5InvalidKind : Option Value}
    {odInvalidKind anInvalidKind : Option Addr} {slInvalidKind : Array (Option Value)} {ocInvalidKind kVInvalidKind dcInvalidKind pmInvalidKind cdInvalidKind ctInvalidKind : Value}
    {CNotSent NNotSent fINotSent : Addr} {nmNotSent qNotSent : Str} {bsNotSent : List Value} {snNotSent : List Str} {subNotSent : List Value} {abNotSent : Bool} {colNotSent : Option Bool} {ddNotSent : Option Addr} {m0NotSent m1NotSent m2NotSent m3NotSent m5NotSent : Option Value}
    {odNotSent anNotSent : Option Addr} {slNotSent : Array (Option Value)} {ocNotSent kVNotSent dcNotSent pmNotSent cdNotSent ctNotSent : Value}
    {CL : Addr}
    {fM0 : Addr} {odM0 anM0 : Option Addr} {slM0 : Array (Option Value)} {ocM0 kVM0 dcM0 pmM0 cdM0 ctM0 : Value}
    {fM1 : Addr} {odM1 anM1 : Option Addr} {slM1 : Array (Option Value)} {ocM1 kVM1 dcM1 pmM1 cdM1 ctM1 : Value}
    {fM2 : Addr} {odM2 anM2 : Option Addr} {slM2 : Array (Option Value)} {ocM2 kVM2 dcM2 pmM2 cdM2 ctM2 : Value}
    {fM3 : Addr} {odM3 anM3 : Option Addr} {slM3 : Array (Option Value)} {ocM3 kVM3 dcM3 pmM3 cdM3 ctM3 : Value}
    {fM4 : Addr} {odM4 anM4 : Option Addr} {slM4 : Array (Option Value)} {ocM4 kVM4 dcM4 pmM4 cdM4 ctM4 : Value}
    {fM5 : Addr} {odM5 anM5 : Option Addr} {slM5 : Array (Option Value)} {ocM5 kVM5 dcM5 pmM5 cdM5 ctM5 : Value}
    {fM6 : Addr} {odM6 anM6 : Option Addr} {slM6 : Array (Option Value)} {ocM6 kVM6 dcM6 pmM6 cdM6 ctM6 : Value}
    {fM7 : Addr} {odM7 anM7 : Option Addr} {slM7 : Array (Option Value)} {ocM7 kVM7 dcM7 pmM7 cdM7 ctM7 : Value}
    {fM8 : Addr} {odM8 anM8 : Option Addr} {slM8 : Array (Option Value)} {ocM8 kVM8 dcM8 pmM8 cdM8 ctM8 : Value}
    {fM9 : Addr} {odM9 anM9 : Option Addr} {slM9 : Array (Option Value)} {ocM9 kVM9 dcM9 pmM9 cdM9 ctM9 : Value}
    {fM10 : Addr} {odM10 anM10 : Option Addr} {slM10 : Array (Option Value)} {ocM10 kVM10 dcM10 pmM10 cdM10 ctM10 : Value}
    {fM11 : Addr} {odM11 anM11 : Option Addr} {slM11 : Array (Option Value)} {ocM11 kVM11 dcM11 pmM11 cdM11 ctM11 : Value}
    {fM12 : Addr} {odM12 anM12 : Option Addr} {slM12 : Array (Option Value)} {ocM12 kVM12 dcM12 pmM12 cdM12 ctM12 : Value}
    (a1 : PySem.W.nsIn K mainGlobals "is_integer" = some (some (.ref f1)))
    (l1 : K.lookup f1 = some ⟨oc1, od1, .func (PySem.W.fnOf "is_integer" "is_integer" (defArgs s_is_integer) (defBody s_is_integer) (defScope s_is_integer) .none kV1 dc1 pm1 an1 cd1 ct1), sl1⟩)
    (c1 : PySem.W.codeIn K cd1 "is_integer" = true)
    (k1 : PySem.W.keepIn K (.ref f1) = true)
    (a2 : PySem.W.nsIn K mainGlobals "is_between" = some (some (.ref f2)))
    (l2 : K.lookup f2 = some ⟨oc2, od2, .func (PySem.W.fnOf "is_between" "is_between" (defArgs s_is_between) (defBody s_is_between) (defScope s_is_between) .none kV2 dc2 pm2 an2 cd2 ct2), sl2⟩)
    (c2 : PySem.W.codeIn K cd2 "is_between" = true)
    (k2 : PySem.W.keepIn K (.ref f2) = true)
    (a3 : PySem.W.nsIn K mainGlobals "are_between" = some (some (.ref f3)))
    (l3 : K.lookup f3 = some ⟨oc3, od3, .func (PySem.W.fnOf "are_between" "are_between" (defArgs s_are_between) (defBody s_are_between) (defScope s_are_between) .none kV3 dc3 pm3 an3 cd3 ct3), sl3⟩)
    (c3 : PySem.W.codeIn K cd3 "are_between" = true)
    (k3 : PySem.W.keepIn K (.ref f3) = true)
    (a4 : PySem.W.nsIn K mainGlobals "is_spec" = some (some (.ref f4)))
    (l4 : K.lookup f4 = some ⟨oc4, od4, .func (PySem.W.fnOf "is_spec" "is_spec" (defArgs s_is_spec) (defBody s_is_spec) (defScope s_is_spec) .none kV4 dc4 pm4 an4 cd4 ct4), sl4⟩)
    (c4 : PySem.W.codeIn K cd4 "is_spec" = true)
    (k4 : PySem.W.keepIn K (.ref f4) = true)
    (a5 : PySem.W.nsIn K mainGlobals "_check_side" = some (some (.ref f5)))
    (l5 : K.lookup f5 = some ⟨oc5, od5, .func (PySem.W.fnOf "_check_side" "_check_side" (defArgs s_check_side) (defBody s_check_side) (defScope s_check_side) .none kV5 dc5 pm5 an5 cd5 ct5), sl5⟩)
    (c5 : PySem.W.codeIn K cd5 "_check_side" = true)
    (k5 : PySem.W.keepIn K (.ref f5) = true)
    (a6 : PySem.W.nsIn K mainGlobals "_law_cell" = some (some (.ref f6)))
    (l6 : K.lookup f6 = some ⟨oc6, od6, .func (PySem.W.fnOf "_law_cell" "_law_cell" (defArgs s_law_cell) (defBody s_law_cell) (defScope s_law_cell) .none kV6 dc6 pm6 an6 cd6 ct6), sl6⟩)
    (c6 : PySem.W.codeIn K cd6 "_law_cell" = true)
    (k6 : PySem.W.keepIn K (.ref f6) = true)
    (a7 : PySem.W.nsIn K mainGlobals "_law_box" = some (some (.ref f7)))
    (l7 : K.lookup f7 = some ⟨oc7, od7, .func (PySem.W.fnOf "_law_box" "_law_box" (defArgs s_law_box) (defBody s_law_box) (defScope s_law_box) .none kV7 dc7 pm7 an7 cd7 ct7), sl7⟩)
    (c7 : PySem.W.codeIn K cd7 "_law_box" = true)
    (k7 : PySem.W.keepIn K (.ref f7) = true)
    (a8 : PySem.W.nsIn K mainGlobals "_law_take" = some (some (.ref f8)))
    (l8 : K.lookup f8 = some ⟨oc8, od8, .func (PySem.W.fnOf "_law_take" "_law_take" (defArgs s_law_take) (defBody s_law_take) (defScope s_law_take) .none kV8 dc8 pm8 an8 cd8 ct8), sl8⟩)
    (c8 : PySem.W.codeIn K cd8 "_law_take" = true)
    (k8 : PySem.W.keepIn K (.ref f8) = true)
    (a9 : PySem.W.nsIn K mainGlobals "_law_same" = some (some (.ref f9)))
    (l9 : K.lookup f9 = some ⟨oc9, od9, .func (PySem.W.fnOf "_law_same" "_law_same" (defArgs s_law_same) (defBody s_law_same) (defScope s_law_same) .none kV9 dc9 pm9 an9 cd9 ct9), sl9⟩)
    (c9 : PySem.W.codeIn K cd9 "_law_same" = true)
    (k9 : PySem.W.keepIn K (.ref f9) = true)
    (a10 : PySem.W.nsIn K mainGlobals "_law_did" = some (some (.ref f10)))
    (l10 : K.lookup f10 = some ⟨oc10, od10, .func (PySem.W.fnOf "_law_did" "_law_did" (defArgs s_law_did) (defBody s_law_did) (defScope s_law_did) .none kV10 dc10 pm10 an10 cd10 ct10), sl10⟩)
    (c10 : PySem.W.codeIn K cd10 "_law_did" = true)
    (k10 : PySem.W.keepIn K (.ref f10) = true)
    (a11 : PySem.W.nsIn K mainGlobals "_law_due" = some (some (.ref f11)))
    (l11 : K.lookup f11 = some ⟨oc11, od11, .func (PySem.W.fnOf "_law_due" "_law_due" (defArgs s_law_due) (defBody s_law_due) (defScope s_law_due) .none kV11 dc11 pm11 an11 cd11 ct11), sl11⟩)
    (c11 : PySem.W.codeIn K cd11 "_law_due" = true)
    (k11 : PySem.W.keepIn K (.ref f11) = true)
    (a12 : PySem.W.nsIn K mainGlobals "_law_view" = some (some (.ref f12)))
    (l12 : K.lookup f12 = some ⟨oc12, od12, .func (PySem.W.fnOf "_law_view" "_law_view" (defArgs s_law_view) (defBody s_law_view) (defScope s_law_view) .none kV12 dc12 pm12 an12 cd12 ct12), sl12⟩)
    (c12 : PySem.W.codeIn K cd12 "_law_view" = true)
    (k12 : PySem.W.keepIn K (.ref f12) = true)
    (a13 : PySem.W.nsIn K mainGlobals "_law_told" = some (some (.ref f13)))
    (l13 : K.lookup f13 = some ⟨oc13, od13, .func (PySem.W.fnOf "_law_told" "_law_told" (defArgs s_law_told) (defBody s_law_told) (defScope s_law_told) .none kV13 dc13 pm13 an13 cd13 ct13), sl13⟩)
    (c13 : PySem.W.codeIn K cd13 "_law_told" = true)
    (k13 : PySem.W.keepIn K (.ref f13) = true)
    (a14 : PySem.W.nsIn K mainGlobals "_law_asked" = some (some (.ref f14)))
    (l14 : K.lookup f14 = some ⟨oc14, od14, .func (PySem.W.fnOf "_law_asked" "_law_asked" (defArgs s_law_asked) (defBody s_law_asked) (defScope s_law_asked) .none kV14 dc14 pm14 an14 cd14 ct14), sl14⟩)
    (c14 : PySem.W.codeIn K cd14 "_law_asked" = true)
    (k14 : PySem.W.keepIn K (.ref f14) = true)
    (a15 : PySem.W.nsIn K mainGlobals "_law_drawn" = some (some (.ref f15)))
    (l15 : K.lookup f15 = some ⟨oc15, od15, .func (PySem.W.fnOf "_law_drawn" "_law_drawn" (defArgs s_law_drawn) (defBody s_law_drawn) (defScope s_law_drawn) .none kV15 dc15 pm15 an15 cd15 ct15), sl15⟩)
    (c15 : PySem.W.codeIn K cd15 "_law_drawn" = true)
    (k15 : PySem.W.keepIn K (.ref f15) = true)
    (a16 : PySem.W.nsIn K mainGlobals "_law_again" = some (some (.ref f16)))
    (l16 : K.lookup f16 = some ⟨oc16, od16, .func (PySem.W.fnOf "_law_again" "_law_again" (defArgs s_law_again) (defBody s_law_again) (defScope s_law_again) .none kV16 dc16 pm16 an16 cd16 ct16), sl16⟩)
    (c16 : PySem.W.codeIn K cd16 "_law_again" = true)
    (k16 : PySem.W.keepIn K (.ref f16) = true)
    (a17 : PySem.W.nsIn K mainGlobals "_law_made" = some (some (.ref f17)))
    (l17 : K.lookup f17 = some ⟨oc17, od17, .func (PySem.W.fnOf "_law_made" "_law_made" (defArgs s_law_made) (defBody s_law_made) (defScope s_law_made) .none kV17 dc17 pm17 an17 cd17 ct17), sl17⟩)
    (c17 : PySem.W.codeIn K cd17 "_law_made" = true)
    (k17 : PySem.W.keepIn K (.ref f17) = true)
    (a18 : PySem.W.nsIn K mainGlobals "law" = some (some (.ref f18)))
    (l18 : K.lookup f18 = some ⟨oc18, od18, .func (PySem.W.fnOf "law" "law" (defArgs s_law) (defBody s_law) (defScope s_law) .none kV18 dc18 pm18 an18 cd18 ct18), sl18⟩)
    (c18 : PySem.W.codeIn K cd18 "law" = true)
    (k18 : PySem.W.keepIn K (.ref f18) = true)
    (z_int : PySem.W.nsIn K mainGlobals "int" = some none)
    (z_bool : PySem.W.nsIn K mainGlobals "bool" = some none)
    (z_str : PySem.W.nsIn K mainGlobals "str" = some none)
    (z_list : PySem.W.nsIn K mainGlobals "list" = some none)
    (z_tuple : PySem.W.nsIn K mainGlobals "tuple" = some none)
    (z_len : PySem.W.nsIn K mainGlobals "len" = some none)
    (z_sum : PySem.W.nsIn K mainGlobals "sum" = some none)
    (z_abs : PySem.W.nsIn K mainGlobals "abs" = some none)
    (z_all : PySem.W.nsIn K mainGlobals "all" = some none)
    (z_range : PySem.W.nsIn K mainGlobals "range" = some none)
    (z_isinstance : PySem.W.nsIn K mainGlobals "isinstance" = some none)
    (z_sorted : PySem.W.nsIn K mainGlobals "sorted" = some none)
    (z_max : PySem.W.nsIn K mainGlobals "max" = some none)
    (z_min : PySem.W.nsIn K mainGlobals "min" = some none)
    (z_set : PySem.W.nsIn K mainGlobals "set" = some none)
    (z_dict : PySem.W.nsIn K mainGlobals "dict" = some none)
    (c_MOST_LETTERS : PySem.W.nsIn K mainGlobals "MOST_LETTERS" = some (some (.int 8 t_MOST_LETTERS)))
    (c_MOST_WIRES : PySem.W.nsIn K mainGlobals "MOST_WIRES" = some (some (.int 10 t_MOST_WIRES)))
    (aCT : PySem.W.nsIn K mainGlobals "TalkError" = some (some (.ref CT)))
    (aCInvalidSpec : PySem.W.nsIn K mainGlobals "InvalidSpec" = some (some (.ref CInvalidSpec)))
    (xLInvalidSpec : K.lookup CInvalidSpec = some (excClassObj nmInvalidSpec qInvalidSpec CInvalidSpec NInvalidSpec bsInvalidSpec [.ref CT, .type "ValueError", .type "Exception", .type "BaseException", .type "object"] true snInvalidSpec subInvalidSpec abInvalidSpec colInvalidSpec ddInvalidSpec m0InvalidSpec m1InvalidSpec m2InvalidSpec m3InvalidSpec m5InvalidSpec "ValueError.__new__"))
    (saInvalidSpec : PySem.W.findIn K (.ref CInvalidSpec) "__setattr__" = some (some (.builtin "object.__setattr__")))
    (gaInvalidSpec : PySem.W.findIn K (.ref CInvalidSpec) "__getattribute__" = some (some (.builtin "BaseException.__getattribute__")))
    (ggInvalidSpec : PySem.W.findIn K (.ref CInvalidSpec) "__getattr__" = some none)
    (nbInvalidSpec : PySem.W.findIn K (.ref CInvalidSpec) "given" = some none)
    (iCInvalidSpec : PySem.W.findIn K (.ref CInvalidSpec) "__init__" = some (some (.ref fIInvalidSpec)))
    (tIInvalidSpec : PySem.W.typeIn K (.ref fIInvalidSpec) = some (.type "function"))
    (lIInvalidSpec : K.lookup fIInvalidSpec = some ⟨ocInvalidSpec, odInvalidSpec, .func (PySem.W.fnOf "__init__" "InvalidSpec.__init__" (defArgs s_init_InvalidSpec) (defBody s_init_InvalidSpec) (defScope s_init_InvalidSpec) .none kVInvalidSpec dcInvalidSpec pmInvalidSpec anInvalidSpec cdInvalidSpec ctInvalidSpec), slInvalidSpec⟩)
    (cIInvalidSpec : PySem.W.codeIn K cdInvalidSpec "InvalidSpec.__init__" = true)
    (kIInvalidSpec : PySem.W.keepIn K (.ref fIInvalidSpec) = true)
    (kCInvalidSpec : PySem.W.keepIn K (.ref CInvalidSpec) = true)
    (eCInvalidSpec : PySem.W.subIn K (.ref CInvalidSpec) (.type "BaseException") = some true)
    (tCInvalidSpec : PySem.W.typeIn K (.ref CInvalidSpec) = some (.type "type"))
    (hCInvalidSpec : PySem.W.hasDictIn K CInvalidSpec = true)
    (iSInvalidSpec : PySem.W.isClsIn K CInvalidSpec = true)
    (aCInvalidSide : PySem.W.nsIn K mainGlobals "InvalidSide" = some (some (.ref CInvalidSide)))
    (xLInvalidSide : K.lookup CInvalidSide = some (excClassObj nmInvalidSide qInvalidSide CInvalidSide NInvalidSide bsInvalidSide [.ref CT, .type "ValueError", .type "Exception", .type "BaseException", .type "object"] true snInvalidSide subInvalidSide abInvalidSide colInvalidSide ddInvalidSide m0InvalidSide m1InvalidSide m2InvalidSide m3InvalidSide m5InvalidSide "ValueError.__new__"))
    (saInvalidSide : PySem.W.findIn K (.ref CInvalidSide) "__setattr__" = some (some (.builtin "object.__setattr__")))
    (gaInvalidSide : PySem.W.findIn K (.ref CInvalidSide) "__getattribute__" = some (some (.builtin "BaseException.__getattribute__")))
    (ggInvalidSide : PySem.W.findIn K (.ref CInvalidSide) "__getattr__" = some none)
    (nbInvalidSide : PySem.W.findIn K (.ref CInvalidSide) "given" = some none)
    (iCInvalidSide : PySem.W.findIn K (.ref CInvalidSide) "__init__" = some (some (.ref fIInvalidSide)))
    (tIInvalidSide : PySem.W.typeIn K (.ref fIInvalidSide) = some (.type "function"))
    (lIInvalidSide : K.lookup fIInvalidSide = some ⟨ocInvalidSide, odInvalidSide, .func (PySem.W.fnOf "__init__" "InvalidSide.__init__" (defArgs s_init_InvalidSide) (defBody s_init_InvalidSide) (defScope s_init_InvalidSide) .none kVInvalidSide dcInvalidSide pmInvalidSide anInvalidSide cdInvalidSide ctInvalidSide), slInvalidSide⟩)
    (cIInvalidSide : PySem.W.codeIn K cdInvalidSide "InvalidSide.__init__" = true)
    (kIInvalidSide : PySem.W.keepIn K (.ref fIInvalidSide) = true)
    (kCInvalidSide : PySem.W.keepIn K (.ref CInvalidSide) = true)
    (eCInvalidSide : PySem.W.subIn K (.ref CInvalidSide) (.type "BaseException") = some true)
    (tCInvalidSide : PySem.W.typeIn K (.ref CInvalidSide) = some (.type "type"))
    (hCInvalidSide : PySem.W.hasDictIn K CInvalidSide = true)
    (iSInvalidSide : PySem.W.isClsIn K CInvalidSide = true)
    (aCInvalidKind : PySem.W.nsIn K mainGlobals "InvalidKind" = some (some (.ref CInvalidKind)))
    (xLInvalidKind : K.lookup CInvalidKind = some (excClassObj nmInvalidKind qInvalidKind CInvalidKind NInvalidKind bsInvalidKind [.ref CT, .type "ValueError", .type "Exception", .type "BaseException", .type "object"] true snInvalidKind subInvalidKind abInvalidKind colInvalidKind ddInvalidKind m0InvalidKind m1InvalidKind m2InvalidKind m3InvalidKind m5InvalidKind "ValueError.__new__"))
    (saInvalidKind : PySem.W.findIn K (.ref CInvalidKind) "__setattr__" = some (some (.builtin "object.__setattr__")))
    (gaInvalidKind : PySem.W.findIn K (.ref CInvalidKind) "__getattribute__" = some (some (.builtin "BaseException.__getattribute__")))
    (ggInvalidKind : PySem.W.findIn K (.ref CInvalidKind) "__getattr__" = some none)
    (nbInvalidKind : PySem.W.findIn K (.ref CInvalidKind) "given" = some none)
    (iCInvalidKind : PySem.W.findIn K (.ref CInvalidKind) "__init__" = some (some (.ref fIInvalidKind)))
    (tIInvalidKind : PySem.W.typeIn K (.ref fIInvalidKind) = some (.type "function"))
    (lIInvalidKind : K.lookup fIInvalidKind = some ⟨ocInvalidKind, odInvalidKind, .func (PySem.W.fnOf "__init__" "InvalidKind.__init__" (defArgs s_init_InvalidKind) (defBody s_init_InvalidKind) (defScope s_init_InvalidKind) .none kVInvalidKind dcInvalidKind pmInvalidKind anInvalidKind cdInvalidKind ctInvalidKind), slInvalidKind⟩)
    (cIInvalidKind : PySem.W.codeIn K cdInvalidKind "InvalidKind.__init__" = true)
    (kIInvalidKind : PySem.W.keepIn K (.ref fIInvalidKind) = true)
    (kCInvalidKind : PySem.W.keepIn K (.ref CInvalidKind) = true)
    (eCInvalidKind : PySem.W.subIn K (.ref CInvalidKind) (.type "BaseException") = some true)
    (tCInvalidKind : PySem.W.typeIn K (.ref CInvalidKind) = some (.type "type"))
    (hCInvalidKind : PySem.W.hasDictIn K CInvalidKind = true)
    (iSInvalidKind : PySem.W.isClsIn K CInvalidKind = true)
    (aCNotSent : PySem.W.nsIn K mainGlobals "NotSent" = some (some (.ref CNotSent)))
    (xLNotSent : K.lookup CNotSent = some (excClassObj nmNotSent qNotSent CNotSent NNotSent bsNotSent [.ref CT, .type "ValueError", .type "Exception", .type "BaseException", .type "object"] true snNotSent subNotSent abNotSent colNotSent ddNotSent m0NotSent m1NotSent m2NotSent m3NotSent m5NotSent "ValueError.__new__"))
    (saNotSent : PySem.W.findIn K (.ref CNotSent) "__setattr__" = some (some (.builtin "object.__setattr__")))
    (gaNotSent : PySem.W.findIn K (.ref CNotSent) "__getattribute__" = some (some (.builtin "BaseException.__getattribute__")))
    (ggNotSent : PySem.W.findIn K (.ref CNotSent) "__getattr__" = some none)
    (nbNotSent : PySem.W.findIn K (.ref CNotSent) "kind" = some none)
    (iCNotSent : PySem.W.findIn K (.ref CNotSent) "__init__" = some (some (.ref fINotSent)))
    (tINotSent : PySem.W.typeIn K (.ref fINotSent) = some (.type "function"))
    (lINotSent : K.lookup fINotSent = some ⟨ocNotSent, odNotSent, .func (PySem.W.fnOf "__init__" "NotSent.__init__" (defArgs s_init_NotSent) (defBody s_init_NotSent) (defScope s_init_NotSent) .none kVNotSent dcNotSent pmNotSent anNotSent cdNotSent ctNotSent), slNotSent⟩)
    (cINotSent : PySem.W.codeIn K cdNotSent "NotSent.__init__" = true)
    (kINotSent : PySem.W.keepIn K (.ref fINotSent) = true)
    (kCNotSent : PySem.W.keepIn K (.ref CNotSent) = true)
    (eCNotSent : PySem.W.subIn K (.ref CNotSent) (.type "BaseException") = some true)
    (tCNotSent : PySem.W.typeIn K (.ref CNotSent) = some (.type "type"))
    (hCNotSent : PySem.W.hasDictIn K CNotSent = true)
    (iSNotSent : PySem.W.isClsIn K CNotSent = true)
    (eSS : PySem.W.subIn K (.ref CInvalidSide) (.ref CInvalidSide) = some true)
    (eKS : PySem.W.subIn K (.ref CInvalidKind) (.ref CInvalidSide) = some false)
    (eKK : PySem.W.subIn K (.ref CInvalidKind) (.ref CInvalidKind) = some true)
    (eNS : PySem.W.subIn K (.ref CNotSent) (.ref CInvalidSide) = some false)
    (eNK : PySem.W.subIn K (.ref CNotSent) (.ref CInvalidKind) = some false)
    (eNN : PySem.W.subIn K (.ref CNotSent) (.ref CNotSent) = some true)
    (aCL : PySem.W.nsIn K mainGlobals "Line" = some (some (.ref CL)))
    (pgL : PySem.W.plainGet K CL Str.empty = true)
    (hdL : PySem.W.hasDictIn K CL = true)
    (poL : PySem.W.plainOver K CL = true)
    (saL : PySem.W.findIn K (.ref CL) "__setattr__" = some (some (.builtin "object.__setattr__")))
    (mkL : PySem.W.makesIn K CL = true)
    (kcL : PySem.W.keepIn K (.ref CL) = true)
    (aM0 : PySem.W.findIn K (.ref CL) "__init__" = some (some (.ref fM0)))
    (iM0 : PySem.W.isFn K (.ref fM0) = true)
    (lM0 : K.lookup fM0 = some ⟨ocM0, odM0, .func (PySem.W.fnOf "__init__" "Line.__init__" (defArgs s_Line_init) (defBody s_Line_init) (defScope s_Line_init) .none kVM0 dcM0 pmM0 anM0 cdM0 ctM0), slM0⟩)
    (cM0 : PySem.W.codeIn K cdM0 "Line.__init__" = true)
    (kM0 : PySem.W.keepIn K (.ref fM0) = true)
    (aM1 : PySem.W.findIn K (.ref CL) "kinds" = some (some (.ref fM1)))
    (iM1 : PySem.W.isFn K (.ref fM1) = true)
    (lM1 : K.lookup fM1 = some ⟨ocM1, odM1, .func (PySem.W.fnOf "kinds" "Line.kinds" (defArgs s_Line_kinds) (defBody s_Line_kinds) (defScope s_Line_kinds) .none kVM1 dcM1 pmM1 anM1 cdM1 ctM1), slM1⟩)
    (cM1 : PySem.W.codeIn K cdM1 "Line.kinds" = true)
    (kM1 : PySem.W.keepIn K (.ref fM1) = true)
    (aM2 : PySem.W.findIn K (.ref CL) "send" = some (some (.ref fM2)))
    (iM2 : PySem.W.isFn K (.ref fM2) = true)
    (lM2 : K.lookup fM2 = some ⟨ocM2, odM2, .func (PySem.W.fnOf "send" "Line.send" (defArgs s_Line_send) (defBody s_Line_send) (defScope s_Line_send) .none kVM2 dcM2 pmM2 anM2 cdM2 ctM2), slM2⟩)
    (cM2 : PySem.W.codeIn K cdM2 "Line.send" = true)
    (kM2 : PySem.W.keepIn K (.ref fM2) = true)
    (aM3 : PySem.W.findIn K (.ref CL) "come" = some (some (.ref fM3)))
    (iM3 : PySem.W.isFn K (.ref fM3) = true)
    (lM3 : K.lookup fM3 = some ⟨ocM3, odM3, .func (PySem.W.fnOf "come" "Line.come" (defArgs s_Line_come) (defBody s_Line_come) (defScope s_Line_come) .none kVM3 dcM3 pmM3 anM3 cdM3 ctM3), slM3⟩)
    (cM3 : PySem.W.codeIn K cdM3 "Line.come" = true)
    (kM3 : PySem.W.keepIn K (.ref fM3) = true)
    (aM4 : PySem.W.findIn K (.ref CL) "sent" = some (some (.ref fM4)))
    (iM4 : PySem.W.isFn K (.ref fM4) = true)
    (lM4 : K.lookup fM4 = some ⟨ocM4, odM4, .func (PySem.W.fnOf "sent" "Line.sent" (defArgs s_Line_sent) (defBody s_Line_sent) (defScope s_Line_sent) .none kVM4 dcM4 pmM4 anM4 cdM4 ctM4), slM4⟩)
    (cM4 : PySem.W.codeIn K cdM4 "Line.sent" = true)
    (kM4 : PySem.W.keepIn K (.ref fM4) = true)
    (aM5 : PySem.W.findIn K (.ref CL) "come_to" = some (some (.ref fM5)))
    (iM5 : PySem.W.isFn K (.ref fM5) = true)
    (lM5 : K.lookup fM5 = some ⟨ocM5, odM5, .func (PySem.W.fnOf "come_to" "Line.come_to" (defArgs s_Line_come_to) (defBody s_Line_come_to) (defScope s_Line_come_to) .none kVM5 dcM5 pmM5 anM5 cdM5 ctM5), slM5⟩)
    (cM5 : PySem.W.codeIn K cdM5 "Line.come_to" = true)
    (kM5 : PySem.W.keepIn K (.ref fM5) = true)
    (aM6 : PySem.W.findIn K (.ref CL) "under_way" = some (some (.ref fM6)))
    (iM6 : PySem.W.isFn K (.ref fM6) = true)
    (lM6 : K.lookup fM6 = some ⟨ocM6, odM6, .func (PySem.W.fnOf "under_way" "Line.under_way" (defArgs s_Line_under_way) (defBody s_Line_under_way) (defScope s_Line_under_way) .none kVM6 dcM6 pmM6 anM6 cdM6 ctM6), slM6⟩)
    (cM6 : PySem.W.codeIn K cdM6 "Line.under_way" = true)
    (kM6 : PySem.W.keepIn K (.ref fM6) = true)
    (aM7 : PySem.W.findIn K (.ref CL) "unsent" = some (some (.ref fM7)))
    (iM7 : PySem.W.isFn K (.ref fM7) = true)
    (lM7 : K.lookup fM7 = some ⟨ocM7, odM7, .func (PySem.W.fnOf "unsent" "Line.unsent" (defArgs s_Line_unsent) (defBody s_Line_unsent) (defScope s_Line_unsent) .none kVM7 dcM7 pmM7 anM7 cdM7 ctM7), slM7⟩)
    (cM7 : PySem.W.codeIn K cdM7 "Line.unsent" = true)
    (kM7 : PySem.W.keepIn K (.ref fM7) = true)
    (aM8 : PySem.W.findIn K (.ref CL) "left" = some (some (.ref fM8)))
    (iM8 : PySem.W.isFn K (.ref fM8) = true)
    (lM8 : K.lookup fM8 = some ⟨ocM8, odM8, .func (PySem.W.fnOf "left" "Line.left" (defArgs s_Line_left) (defBody s_Line_left) (defScope s_Line_left) .none kVM8 dcM8 pmM8 anM8 cdM8 ctM8), slM8⟩)
    (cM8 : PySem.W.codeIn K cdM8 "Line.left" = true)
    (kM8 : PySem.W.keepIn K (.ref fM8) = true)
    (aM9 : PySem.W.findIn K (.ref CL) "copy" = some (some (.ref fM9)))
    (iM9 : PySem.W.isFn K (.ref fM9) = true)
    (lM9 : K.lookup fM9 = some ⟨ocM9, odM9, .func (PySem.W.fnOf "copy" "Line.copy" (defArgs s_Line_copy) (defBody s_Line_copy) (defScope s_Line_copy) .none kVM9 dcM9 pmM9 anM9 cdM9 ctM9), slM9⟩)
    (cM9 : PySem.W.codeIn K cdM9 "Line.copy" = true)
    (kM9 : PySem.W.keepIn K (.ref fM9) = true)
    (aM10 : PySem.W.findIn K (.ref CL) "_has_wires" = some (some (.ref fM10)))
    (iM10 : PySem.W.isFn K (.ref fM10) = true)
    (lM10 : K.lookup fM10 = some ⟨ocM10, odM10, .func (PySem.W.fnOf "_has_wires" "Line._has_wires" (defArgs s_Line_has_wires) (defBody s_Line_has_wires) (defScope s_Line_has_wires) .none kVM10 dcM10 pmM10 anM10 cdM10 ctM10), slM10⟩)
    (cM10 : PySem.W.codeIn K cdM10 "Line._has_wires" = true)
    (kM10 : PySem.W.keepIn K (.ref fM10) = true)
    (aM11 : PySem.W.findIn K (.ref CL) "_can_be_sent" = some (some (.ref fM11)))
    (iM11 : PySem.W.isFn K (.ref fM11) = true)
    (lM11 : K.lookup fM11 = some ⟨ocM11, odM11, .func (PySem.W.fnOf "_can_be_sent" "Line._can_be_sent" (defArgs s_Line_can_be_sent) (defBody s_Line_can_be_sent) (defScope s_Line_can_be_sent) .none kVM11 dcM11 pmM11 anM11 cdM11 ctM11), slM11⟩)
    (cM11 : PySem.W.codeIn K cdM11 "Line._can_be_sent" = true)
    (kM11 : PySem.W.keepIn K (.ref fM11) = true)
    (aM12 : PySem.W.findIn K (.ref CL) "_can_come" = some (some (.ref fM12)))
    (iM12 : PySem.W.isFn K (.ref fM12) = true)
    (lM12 : K.lookup fM12 = some ⟨ocM12, odM12, .func (PySem.W.fnOf "_can_come" "Line._can_come" (defArgs s_Line_can_come) (defBody s_Line_can_come) (defScope s_Line_can_come) .none kVM12 dcM12 pmM12 anM12 cdM12 ctM12), slM12⟩)
    (cM12 : PySem.W.codeIn K cdM12 "Line._can_come" = true)
    (kM12 : PySem.W.keepIn K (.ref fM12) = true)
    (n_spec : PySem.W.findIn K (.ref CL) "spec" = some none)
    (n_sent : PySem.W.findIn K (.ref CL) "_sent_by" = some none)
    (n_came : PySem.W.findIn K (.ref CL) "_came_to" = some none) :
    ∃ fd : FuncData, (∀ (s : Shared) (v : Value), BindsTo s fd ⟨[v], []⟩ [("script", v)]) ∧ ∀ base : Heap, K.In base → base.Ns mainGlobals mg → FnOk l.prog w K mg base CX0 11 fa fd ["script"] (spLaw K) := by
  have e := hfa.symm.trans (PySem.W.mg_of X G a18)
  cases e
  let T : TK K mg := {
    is_integer := mkDef X G a1 l1 c1 k1 (fun _ _ _ _ _ _ us hl => match us, hl with | [_], _ => rfl)
    is_between := mkDef X G a2 l2 c2 k2 (fun _ _ _ _ _ _ us hl => match us, hl with | [_, _, _], _ => rfl)
    are_between := mkDef X G a3 l3 c3 k3 (fun _ _ _ _ _ _ us hl => match us, hl with | [_, _, _], _ => rfl)
    is_spec := mkDef X G a4 l4 c4 k4 (fun _ _ _ _ _ _ us hl => match us, hl with | [_], _ => rfl)
    check_side := mkDef X G a5 l5 c5 k5 (fun _ _ _ _ _ _ us hl => match us, hl with | [_], _ => rfl)
    law_cell := mkDef X G a6 l6 c6 k6 (fun _ _ _ _ _ _ us hl => match us, hl with | [_, _], _ => rfl)
    law_box := mkDef X G a7 l7 c7 k7 (fun _ _ _ _ _ _ us hl => match us, hl with | [_], _ => rfl)
    law_take := mkDef X G a8 l8 c8 k8 (fun _ _ _ _ _ _ us hl => match us, hl with | [_, _], _ => rfl)
    law_same := mkDef X G a9 l9 c9 k9 (fun _ _ _ _ _ _ us hl => match us, hl with | [_, _], _ => rfl)
    law_did := mkDef X G a10 l10 c10 k10 (fun _ _ _ _ _ _ us hl => match us, hl with | [_, _, _, _, _], _ => rfl)
    law_due := mkDef X G a11 l11 c11 k11 (fun _ _ _ _ _ _ us hl => match us, hl with | [_, _, _, _], _ => rfl)
    law_view := mkDef X G a12 l12 c12 k12 (fun _ _ _ _ _ _ us hl => match us, hl with | [_, _, _], _ => rfl)
    law_told := mkDef X G a13 l13 c13 k13 (fun _ _ _ _ _ _ us hl => match us, hl with | [_, _, _, _], _ => rfl)
    law_asked := mkDef X G a14 l14 c14 k14 (fun _ _ _ _ _ _ us hl => match us, hl with | [_, _, _, _], _ => rfl)
    law_drawn := mkDef X G a15 l15 c15 k15 (fun _ _ _ _ _ _ us hl => match us, hl with | [_, _], _ => rfl)
    law_again := mkDef X G a16 l16 c16 k16 (fun _ _ _ _ _ _ us hl => match us, hl with | [_], _ => rfl)
    law_made := mkDef X G a17 l17 c17 k17 (fun _ _ _ _ _ _ us hl => match us, hl with | [_], _ => rfl)
    law := mkDef X G a18 l18 c18 k18 (fun _ _ _ _ _ _ us hl => match us, hl with | [_], _ => rfl)
    z_int := PySem.W.mg_none_of X G z_int
    z_bool := PySem.W.mg_none_of X G z_bool
    z_str := PySem.W.mg_none_of X G z_str
    z_list := PySem.W.mg_none_of X G z_list
    z_tuple := PySem.W.mg_none_of X G z_tuple
    z_len := PySem.W.mg_none_of X G z_len
    z_sum := PySem.W.mg_none_of X G z_sum
    z_abs := PySem.W.mg_none_of X G z_abs
    z_all := PySem.W.mg_none_of X G z_all
    z_range := PySem.W.mg_none_of X G z_range
    z_isinstance := PySem.W.mg_none_of X G z_isinstance
    z_sorted := PySem.W.mg_none_of X G z_sorted
    z_max := PySem.W.mg_none_of X G z_max
    z_min := PySem.W.mg_none_of X G z_min
    z_set := PySem.W.mg_none_of X G z_set
    z_dict := PySem.W.mg_none_of X G z_dict
    t_MOST_LETTERS := t_MOST_LETTERS
    c_MOST_LETTERS := PySem.W.mg_of X G c_MOST_LETTERS
    t_MOST_WIRES := t_MOST_WIRES
    c_MOST_WIRES := PySem.W.mg_of X G c_MOST_WIRES
    TalkError_C := CT
    TalkError_gC := PySem.W.mg_of X G aCT
    InvalidSpec := ⟨CInvalidSpec, fIInvalidSpec, _, fun_mk (st := s_init_InvalidSpec) lIInvalidSpec cIInvalidSpec kIInvalidSpec, (fun_mk (st := s_init_InvalidSpec) lIInvalidSpec cIInvalidSpec kIInvalidSpec).binds (ps := ["self", "given"]) fun _ _ _ _ _ _ us hl => match us, hl with | [_, _], _ => rfl, ⟨⟨_, _, _, _, _, _, _, _, _, _, _, _, _, _, _, xLInvalidSpec, rfl⟩, saInvalidSpec, eCInvalidSpec, tCInvalidSpec, kCInvalidSpec⟩, iCInvalidSpec, tIInvalidSpec, PySem.W.mg_of X G aCInvalidSpec, nbInvalidSpec, ⟨gaInvalidSpec, ggInvalidSpec, eCInvalidSpec, hCInvalidSpec⟩⟩
    InvalidSide := ⟨CInvalidSide, fIInvalidSide, _, fun_mk (st := s_init_InvalidSide) lIInvalidSide cIInvalidSide kIInvalidSide, (fun_mk (st := s_init_InvalidSide) lIInvalidSide cIInvalidSide kIInvalidSide).binds (ps := ["self", "given"]) fun _ _ _ _ _ _ us hl => match us, hl with | [_, _], _ => rfl, ⟨⟨_, _, _, _, _, _, _, _, _, _, _, _, _, _, _, xLInvalidSide, rfl⟩, saInvalidSide, eCInvalidSide, tCInvalidSide, kCInvalidSide⟩, iCInvalidSide, tIInvalidSide, PySem.W.mg_of X G aCInvalidSide, nbInvalidSide, ⟨gaInvalidSide, ggInvalidSide, eCInvalidSide, hCInvalidSide⟩⟩
    InvalidKind := ⟨CInvalidKind, fIInvalidKind, _, fun_mk (st := s_init_InvalidKind) lIInvalidKind cIInvalidKind kIInvalidKind, (fun_mk (st := s_init_InvalidKind) lIInvalidKind cIInvalidKind kIInvalidKind).binds (ps := ["self", "given"]) fun _ _ _ _ _ _ us hl => match us, hl with | [_, _], _ => rfl, ⟨⟨_, _, _, _, _, _, _, _, _, _, _, _, _, _, _, xLInvalidKind, rfl⟩, saInvalidKind, eCInvalidKind, tCInvalidKind, kCInvalidKind⟩, iCInvalidKind, tIInvalidKind, PySem.W.mg_of X G aCInvalidKind, nbInvalidKind, ⟨gaInvalidKind, ggInvalidKind, eCInvalidKind, hCInvalidKind⟩⟩
    NotSent := ⟨CNotSent, fINotSent, _, fun_mk (st := s_init_NotSent) lINotSent cINotSent kINotSent, (fun_mk (st := s_init_NotSent) lINotSent cINotSent kINotSent).binds (ps := ["self", "kind"]) fun _ _ _ _ _ _ us hl => match us, hl with | [_, _], _ => rfl, ⟨⟨_, _, _, _, _, _, _, _, _, _, _, _, _, _, _, xLNotSent, rfl⟩, saNotSent, eCNotSent, tCNotSent, kCNotSent⟩, iCNotSent, tINotSent, PySem.W.mg_of X G aCNotSent, nbNotSent, ⟨gaNotSent, ggNotSent, eCNotSent, hCNotSent⟩⟩
    eSS := exm_of eCInvalidSide iSInvalidSide tCInvalidSide eSS
    eKS := exm_of eCInvalidSide iSInvalidSide tCInvalidSide eKS
    eKK := exm_of eCInvalidKind iSInvalidKind tCInvalidKind eKK
    eNS := exm_of eCInvalidSide iSInvalidSide tCInvalidSide eNS
    eNK := exm_of eCInvalidKind iSInvalidKind tCInvalidKind eNK
    eNN := exm_of eCNotSent iSNotSent tCNotSent eNN
    C := CL
    gL := PySem.W.mg_of X G aCL
    cl := ⟨pgL, hdL, poL, saL⟩
    m_init := ⟨fM0, _, fun_mk (st := s_Line_init) lM0 cM0 kM0, (fun_mk (st := s_Line_init) lM0 cM0 kM0).binds (ps := ["self", "spec"]) fun _ _ _ _ _ _ us hl => match us, hl with | [_, _], _ => rfl, ⟨aM0, iM0, kM0⟩⟩
    m_kinds := ⟨fM1, _, fun_mk (st := s_Line_kinds) lM1 cM1 kM1, (fun_mk (st := s_Line_kinds) lM1 cM1 kM1).binds (ps := ["self", "side"]) fun _ _ _ _ _ _ us hl => match us, hl with | [_, _], _ => rfl, ⟨aM1, iM1, kM1⟩⟩
    m_send := ⟨fM2, _, fun_mk (st := s_Line_send) lM2 cM2 kM2, (fun_mk (st := s_Line_send) lM2 cM2 kM2).binds (ps := ["self", "side", "kind"]) fun _ _ _ _ _ _ us hl => match us, hl with | [_, _, _], _ => rfl, ⟨aM2, iM2, kM2⟩⟩
    m_come := ⟨fM3, _, fun_mk (st := s_Line_come) lM3 cM3 kM3, (fun_mk (st := s_Line_come) lM3 cM3 kM3).binds (ps := ["self", "side", "kind"]) fun _ _ _ _ _ _ us hl => match us, hl with | [_, _, _], _ => rfl, ⟨aM3, iM3, kM3⟩⟩
    m_sent := ⟨fM4, _, fun_mk (st := s_Line_sent) lM4 cM4 kM4, (fun_mk (st := s_Line_sent) lM4 cM4 kM4).binds (ps := ["self", "side"]) fun _ _ _ _ _ _ us hl => match us, hl with | [_, _], _ => rfl, ⟨aM4, iM4, kM4⟩⟩
    m_come_to := ⟨fM5, _, fun_mk (st := s_Line_come_to) lM5 cM5 kM5, (fun_mk (st := s_Line_come_to) lM5 cM5 kM5).binds (ps := ["self", "side"]) fun _ _ _ _ _ _ us hl => match us, hl with | [_, _], _ => rfl, ⟨aM5, iM5, kM5⟩⟩
    m_under_way := ⟨fM6, _, fun_mk (st := s_Line_under_way) lM6 cM6 kM6, (fun_mk (st := s_Line_under_way) lM6 cM6 kM6).binds (ps := ["self", "side"]) fun _ _ _ _ _ _ us hl => match us, hl with | [_, _], _ => rfl, ⟨aM6, iM6, kM6⟩⟩
    m_unsent := ⟨fM7, _, fun_mk (st := s_Line_unsent) lM7 cM7 kM7, (fun_mk (st := s_Line_unsent) lM7 cM7 kM7).binds (ps := ["self", "side"]) fun _ _ _ _ _ _ us hl => match us, hl with | [_, _], _ => rfl, ⟨aM7, iM7, kM7⟩⟩
    m_left := ⟨fM8, _, fun_mk (st := s_Line_left) lM8 cM8 kM8, (fun_mk (st := s_Line_left) lM8 cM8 kM8).binds (ps := ["self"]) fun _ _ _ _ _ _ us hl => match us, hl with | [_], _ => rfl, ⟨aM8, iM8, kM8⟩⟩
    m_copy := ⟨fM9, _, fun_mk (st := s_Line_copy) lM9 cM9 kM9, (fun_mk (st := s_Line_copy) lM9 cM9 kM9).binds (ps := ["self"]) fun _ _ _ _ _ _ us hl => match us, hl with | [_], _ => rfl, ⟨aM9, iM9, kM9⟩⟩
    m_has_wires := ⟨fM10, _, fun_mk (st := s_Line_has_wires) lM10 cM10 kM10, (fun_mk (st := s_Line_has_wires) lM10 cM10 kM10).binds (ps := ["self"]) fun _ _ _ _ _ _ us hl => match us, hl with | [_], _ => rfl, ⟨aM10, iM10, kM10⟩⟩
    m_can_be_sent := ⟨fM11, _, fun_mk (st := s_Line_can_be_sent) lM11 cM11 kM11, (fun_mk (st := s_Line_can_be_sent) lM11 cM11 kM11).binds (ps := ["self", "side", "kind"]) fun _ _ _ _ _ _ us hl => match us, hl with | [_, _, _], _ => rfl, ⟨aM11, iM11, kM11⟩⟩
    m_can_come := ⟨fM12, _, fun_mk (st := s_Line_can_come) lM12 cM12 kM12, (fun_mk (st := s_Line_can_come) lM12 cM12 kM12).binds (ps := ["self", "side", "kind"]) fun _ _ _ _ _ _ us hl => match us, hl with | [_, _, _], _ => rfl, ⟨aM12, iM12, kM12⟩⟩
    mkc := ⟨mkL, aM0, iM0, kcL⟩
    n_spec := n_spec
    n_sent := n_sent
    n_came := n_came
    kb_send_kind_side := kbm21 (fun_mk (st := s_Line_send) lM2 cM2 kM2) fun _ _ _ _ _ _ _ _ _ => rfl
    kb_come_kind_side := kbm21 (fun_mk (st := s_Line_come) lM3 cM3 kM3) fun _ _ _ _ _ _ _ _ _ => rfl
    kb_sent_side := kbm1 (fun_mk (st := s_Line_sent) lM4 cM4 kM4) fun _ _ _ _ _ _ _ _ => rfl
    kb_come_to_side := kbm1 (fun_mk (st := s_Line_come_to) lM5 cM5 kM5) fun _ _ _ _ _ _ _ _ => rfl
    kb_under_way_side := kbm1 (fun_mk (st := s_Line_under_way) lM6 cM6 kM6) fun _ _ _ _ _ _ _ _ => rfl
    kb_unsent_side := kbm1 (fun_mk (st := s_Line_unsent) lM7 cM7 kM7) fun _ _ _ _ _ _ _ _ => rfl
    kb_kinds_side := kbm1 (fun_mk (st := s_Line_kinds) lM1 cM1 kM1) fun _ _ _ _ _ _ _ _ => rfl
    kb_init_spec := kbn1 (fun_mk (st := s_Line_init) lM0 cM0 kM0) fun _ _ _ _ _ _ _ _ => rfl }
  exact ⟨PySem.W.fnOf "law" "law" (defArgs s_law) (defBody s_law) (defScope s_law) .none kV18 dc18 pm18 an18 cd18 ct18, fun s v => .of_eq rfl, fun base _ _ => ok_law T⟩
theorem walk {l : PySem.W.OpenLaw} {q : Program} {loose : List Str} {XP : (Str → Option Value) → Heap → Prop} {YP : World → Heap → Prop} {d : DefRec} {K : Params → PySem.W.Frag} (hn : l.most = some 63) (hdf : d.params.defaults = [])
    (hY : ∀ (w : World) (h : Heap), YP w h → (K w.params).In h)
    (F : ∀ (w : World) (mg : Str → Option Value) (fa : Addr) (h : Heap), (K w.params).In h → h.Ns mainGlobals mg → mg d.name = some (.ref fa) →
      ∃ fd : FuncData, (∀ (s : Shared) (u : Value), BindsTo s fd ⟨[u], []⟩ [("script", u)]) ∧ ∀ base : Heap, (K w.params).In base → base.Ns mainGlobals mg → FnOk l.prog w (K w.params) mg base CX0 11 fa fd ["script"] (spLaw (K w.params))) :
    PySem.W.WalkO q loose XP YP l.row.toRowW d [] (fun f vs => PySem.call f vs) :=
  L2.walk_of (n := 63) (k := 11) (x := "script") (CX := fun _ => CX0) (sp := fun w => spLaw (K w.params)) hn (by decide) hdf ⟨rfl, by decide, by decide⟩ hY F
    (fun _ _ a ns hl _ hS => ⟨a, ns, rfl, hS, hl, fun _ => rfl⟩) fun _ _ _ _ _ z => z
end L2.U
open PySem PySem.W PyProof.Rows
set_option maxRecDepth 100000 in
set_option maxHeartbeats 0 in
theorem PySem.Challenge.cw_upforgood_k07_wires_raised_by_both_holds : PySem.Challenge.rw_upforgood_k07_wires_raised_by_both.Holds := by
  w_on; o_law; k_head; (case hw => w_witness2)
  k_fill
  refine L2.U.walk (l := PySem.Challenge.rw_upforgood_k07_wires_raised_by_both) rfl rfl (fun w h Y => PySem.W.kIn_of Y) ?F
  case F =>
    intro w mg fa h KX G hmg
    refine' L2.U.all_mk KX G hmg ?a1 ?l1 ?c1 ?k1 ?a2 ?l2 ?c2 ?k2 ?a3 ?l3 ?c3 ?k3 ?a4 ?l4 ?c4 ?k4 ?a5 ?l5 ?c5 ?k5 ?a6 ?l6 ?c6 ?k6 ?a7 ?l7 ?c7 ?k7 ?a8 ?l8 ?c8 ?k8 ?a9 ?l9 ?c9 ?k9 ?a10 ?l10 ?c10 ?k10 ?a11 ?l11 ?c11 ?k11 ?a12 ?l12 ?c12 ?k12 ?a13 ?l13 ?c13 ?k13 ?a14 ?l14 ?c14 ?k14 ?a15 ?l15 ?c15 ?k15 ?a16 ?l16 ?c16 ?k16 ?a17 ?l17 ?c17 ?k17 ?a18 ?l18 ?c18 ?k18 ?z_int ?z_bool ?z_str ?z_list ?z_tuple ?z_len ?z_sum ?z_abs ?z_all ?z_range ?z_isinstance ?z_sorted ?z_max ?z_min ?z_set ?z_dict ?c_MOST_LETTERS ?c_MOST_WIRES ?aCT ?aCInvalidSpec ?xLInvalidSpec ?saInvalidSpec ?gaInvalidSpec ?ggInvalidSpec ?nbInvalidSpec ?iCInvalidSpec ?tIInvalidSpec ?lIInvalidSpec ?cIInvalidSpec ?kIInvalidSpec ?kCInvalidSpec ?eCInvalidSpec ?tCInvalidSpec ?hCInvalidSpec ?iSInvalidSpec ?aCInvalidSide ?xLInvalidSide ?saInvalidSide ?gaInvalidSide ?ggInvalidSide ?nbInvalidSide ?iCInvalidSide ?tIInvalidSide ?lIInvalidSide ?cIInvalidSide ?kIInvalidSide ?kCInvalidSide ?eCInvalidSide ?tCInvalidSide ?hCInvalidSide ?iSInvalidSide ?aCInvalidKind ?xLInvalidKind ?saInvalidKind ?gaInvalidKind ?ggInvalidKind ?nbInvalidKind ?iCInvalidKind ?tIInvalidKind ?lIInvalidKind ?cIInvalidKind ?kIInvalidKind ?kCInvalidKind ?eCInvalidKind ?tCInvalidKind ?hCInvalidKind ?iSInvalidKind ?aCNotSent ?xLNotSent ?saNotSent ?gaNotSent ?ggNotSent ?nbNotSent ?iCNotSent ?tINotSent ?lINotSent ?cINotSent ?kINotSent ?kCNotSent ?eCNotSent ?tCNotSent ?hCNotSent ?iSNotSent ?eSS ?eKS ?eKK ?eNS ?eNK ?eNN ?aCL ?pgL ?hdL ?poL ?saL ?mkL ?kcL ?aM0 ?iM0 ?lM0 ?cM0 ?kM0 ?aM1 ?iM1 ?lM1 ?cM1 ?kM1 ?aM2 ?iM2 ?lM2 ?cM2 ?kM2 ?aM3 ?iM3 ?lM3 ?cM3 ?kM3 ?aM4 ?iM4 ?lM4 ?cM4 ?kM4 ?aM5 ?iM5 ?lM5 ?cM5 ?kM5 ?aM6 ?iM6 ?lM6 ?cM6 ?kM6 ?aM7 ?iM7 ?lM7 ?cM7 ?kM7 ?aM8 ?iM8 ?lM8 ?cM8 ?kM8 ?aM9 ?iM9 ?lM9 ?cM9 ?kM9 ?aM10 ?iM10 ?lM10 ?cM10 ?kM10 ?aM11 ?iM11 ?lM11 ?cM11 ?kM11 ?aM12 ?iM12 ?lM12 ?cM12 ?kM12 ?n_spec ?n_sent ?n_came
    (case a1 => k_is)
    (case l1 => k_is)
    (case c1 => k_is)
    (case k1 => k_is)
    (case a2 => k_is)
    (case l2 => k_is)
    (case c2 => k_is)
    (case k2 => k_is)
    (case a3 => k_is)
    (case l3 => k_is)
    (case c3 => k_is)
    (case k3 => k_is)
    (case a4 => k_is)
    (case l4 => k_is)
    (case c4 => k_is)
    (case k4 => k_is)
    (case a5 => k_is)
    (case l5 => k_is)
    (case c5 => k_is)
    (case k5 => k_is)
    (case a6 => k_is)
    (case l6 => k_is)
    (case c6 => k_is)
    (case k6 => k_is)
    (case a7 => k_is)
    (case l7 => k_is)
    (case c7 => k_is)
    (case k7 => k_is)
    (case a8 => k_is)
    (case l8 => k_is)
    (case c8 => k_is)
    (case k8 => k_is)
    (case a9 => k_is)
    (case l9 => k_is)
    (case c9 => k_is)
    (case k9 => k_is)
    (case a10 => k_is)
    (case l10 => k_is)
    (case c10 => k_is)
    (case k10 => k_is)
    (case a11 => k_is)
    (case l11 => k_is)
    (case c11 => k_is)
    (case k11 => k_is)
    (case a12 => k_is)
    (case l12 => k_is)
    (case c12 => k_is)
    (case k12 => k_is)
    (case a13 => k_is)
    (case l13 => k_is)
    (case c13 => k_is)
    (case k13 => k_is)
    (case a14 => k_is)
    (case l14 => k_is)
    (case c14 => k_is)
    (case k14 => k_is)
    (case a15 => k_is)
    (case l15 => k_is)
    (case c15 => k_is)
    (case k15 => k_is)
    (case a16 => k_is)
    (case l16 => k_is)
    (case c16 => k_is)
    (case k16 => k_is)
    (case a17 => k_is)
    (case l17 => k_is)
    (case c17 => k_is)
    (case k17 => k_is)
    (case a18 => k_is)
    (case l18 => k_is)
    (case c18 => k_is)
    (case k18 => k_is)
    (case z_int => k_is)
    (case z_bool => k_is)
    (case z_str => k_is)
    (case z_list => k_is)
    (case z_tuple => k_is)
    (case z_len => k_is)
    (case z_sum => k_is)
    (case z_abs => k_is)
    (case z_all => k_is)
    (case z_range => k_is)
    (case z_isinstance => k_is)
    (case z_sorted => k_is)
    (case z_max => k_is)
    (case z_min => k_is)
    (case z_set => k_is)
    (case z_dict => k_is)
    (case c_MOST_LETTERS => k_is)
    (case c_MOST_WIRES => k_is)
    (case aCT => k_is)
    (case aCInvalidSpec => k_is)
    (case xLInvalidSpec => k_is)
    (case saInvalidSpec => k_is)
    (case gaInvalidSpec => k_is)
    (case ggInvalidSpec => k_is)
    (case nbInvalidSpec => k_is)
    (case iCInvalidSpec => k_is)
    (case tIInvalidSpec => k_is)
    (case lIInvalidSpec => k_is)
    (case cIInvalidSpec => k_is)
    (case kIInvalidSpec => k_is)
    (case kCInvalidSpec => k_is)
    (case eCInvalidSpec => k_is)
    (case tCInvalidSpec => k_is)
    (case hCInvalidSpec => k_is)
    (case iSInvalidSpec => k_is)
    (case aCInvalidSide => k_is)
    (case xLInvalidSide => k_is)
    (case saInvalidSide => k_is)
    (case gaInvalidSide => k_is)
    (case ggInvalidSide => k_is)
    (case nbInvalidSide => k_is)
    (case iCInvalidSide => k_is)
    (case tIInvalidSide => k_is)
    (case lIInvalidSide => k_is)
    (case cIInvalidSide => k_is)
    (case kIInvalidSide => k_is)
    (case kCInvalidSide => k_is)
    (case eCInvalidSide => k_is)
    (case tCInvalidSide => k_is)
    (case hCInvalidSide => k_is)
    (case iSInvalidSide => k_is)
    (case aCInvalidKind => k_is)
    (case xLInvalidKind => k_is)
    (case saInvalidKind => k_is)
    (case gaInvalidKind => k_is)
    (case ggInvalidKind => k_is)
    (case nbInvalidKind => k_is)
    (case iCInvalidKind => k_is)
    (case tIInvalidKind => k_is)
    (case lIInvalidKind => k_is)
    (case cIInvalidKind => k_is)
    (case kIInvalidKind => k_is)
    (case kCInvalidKind => k_is)
    (case eCInvalidKind => k_is)
    (case tCInvalidKind => k_is)
    (case hCInvalidKind => k_is)
    (case iSInvalidKind => k_is)
    (case aCNotSent => k_is)
    (case xLNotSent => k_is)
    (case saNotSent => k_is)
    (case gaNotSent => k_is)
    (case ggNotSent => k_is)
    (case nbNotSent => k_is)
    (case iCNotSent => k_is)
    (case tINotSent => k_is)
    (case lINotSent => k_is)
    (case cINotSent => k_is)
    (case kINotSent => k_is)
    (case kCNotSent => k_is)
    (case eCNotSent => k_is)
    (case tCNotSent => k_is)
    (case hCNotSent => k_is)
    (case iSNotSent => k_is)
    (case eSS => first | rfl | k_is)
    (case eKS => first | rfl | k_is)
    (case eKK => first | rfl | k_is)
    (case eNS => first | rfl | k_is)
    (case eNK => first | rfl | k_is)
    (case eNN => first | rfl | k_is)
    (case aCL => k_is)
    (case pgL => k_is)
    (case hdL => k_is)
    (case poL => k_is)
    (case saL => k_is)
    (case mkL => k_is)
    (case kcL => k_is)
    (case aM0 => k_is)
    (case iM0 => k_is)
    (case lM0 => k_is)
    (case cM0 => k_is)
    (case kM0 => k_is)
    (case aM1 => k_is)
    (case iM1 => k_is)
    (case lM1 => k_is)
    (case cM1 => k_is)
    (case kM1 => k_is)
    (case aM2 => k_is)
    (case iM2 => k_is)
    (case lM2 => k_is)
    (case cM2 => k_is)
    (case kM2 => k_is)
    (case aM3 => k_is)
    (case iM3 => k_is)
    (case lM3 => k_is)
    (case cM3 => k_is)
    (case kM3 => k_is)
    (case aM4 => k_is)
    (case iM4 => k_is)
    (case lM4 => k_is)
    (case cM4 => k_is)
    (case kM4 => k_is)
    (case aM5 => k_is)
    (case iM5 => k_is)
    (case lM5 => k_is)
    (case cM5 => k_is)
    (case kM5 => k_is)
    (case aM6 => k_is)
    (case iM6 => k_is)
    (case lM6 => k_is)
    (case cM6 => k_is)
    (case kM6 => k_is)
    (case aM7 => k_is)
    (case iM7 => k_is)
    (case lM7 => k_is)
    (case cM7 => k_is)
    (case kM7 => k_is)
    (case aM8 => k_is)
    (case iM8 => k_is)
    (case lM8 => k_is)
    (case cM8 => k_is)
    (case kM8 => k_is)
    (case aM9 => k_is)
    (case iM9 => k_is)
    (case lM9 => k_is)
    (case cM9 => k_is)
    (case kM9 => k_is)
    (case aM10 => k_is)
    (case iM10 => k_is)
    (case lM10 => k_is)
    (case cM10 => k_is)
    (case kM10 => k_is)
    (case aM11 => k_is)
    (case iM11 => k_is)
    (case lM11 => k_is)
    (case cM11 => k_is)
    (case kM11 => k_is)
    (case aM12 => k_is)
    (case iM12 => k_is)
    (case lM12 => k_is)
    (case cM12 => k_is)
    (case kM12 => k_is)
    (case n_spec => k_is)
    (case n_sent => k_is)
    (case n_came => k_is)

