import PyProof.Rows.All
import Wide.All
import OpenK.AllK
import Wide.FinOn
import HandS.ForMost
import HandS.ForExc
import HandS.ExcInit
import HandS.ExcField
import HandS.TryMany
import HandS.IsInst
import HandS.Gcd
import HandS.Wide
import HandS.TupMul
import HandS.TupAny
import HandS.TupLe
import HandS.Deep
import HandS.Flow
import HandS.Defaults
import HandS.Evl
import HandS.More
import HandS.WordsDict
import KE.KMathGC
import KE.KTupSum
import HandS.Walk
import KE.GoesMore
import HandS.Style
import PyProof.WalksMore
import PyProof.WalkInts
import HandS.Conv
import HandS.Flt
import PySem.Challenge.RW_upforgood_k14_whole_rows_on_letters
set_option Elab.async false
set_option linter.all false
set_option maxRecDepth 100000
set_option maxHeartbeats 4000000
namespace L2.U
open PySem PySem.Spec PyProof.Rows Evl

/-! ## several except clauses, each with a name or without one -/
structure Clause where
  cls : Value
  slot : Option Nat
  rd : Addr → Value → Option Addr → TS
def afterC : Option Nat → Ends → Ends
  | none, D => D
  | some i, D => ⟨fun s h => D.nx (s.set i none) h, D.rt, fun s h => D.bk (s.set i none) h, fun s h => D.ct (s.set i none) h⟩
def holdC : Option Nat → Addr → St → St
  | none, _, s => s
  | some i, a, s => s.set i (some (.ref a))
def wishC (K : PySem.W.Frag) (Wo : WX) (D : Ends) : List Clause → WX
  | [] => Wo
  | c :: r => fun cls d s h => ∃ b, PySem.W.exmOne K cls c.cls = some b ∧
      (b = true → ∀ a, h a = none → c.rd a cls d (afterC c.slot D) (holdC c.slot a s) h) ∧ (b = false → wishC K Wo D r cls d s h)
abbrev SuiteOk (X : Cx) (body : List Stmt) (rd : Addr → Value → Option Addr → TS) : Prop :=
  ∀ (a : Addr) (o : Obj) (cls : Value) (d : Option Addr) (pn : List (Addr × Obj)), Zc cls d o → (∃ vs, o.data = .fields vs) → PSs (X.suite a ((a, o) :: pn)) body (rd a cls d)
inductive ClauseOk (X : Cx) : ExceptHandler → Clause → Prop
  | bare {x : Str} {c : Value} {rd} {b0 : Stmt} {su : List Stmt} {np p : Pos} (hc : Names X x c) (hs : SuiteOk X (b0 :: su) rd) :
      ClauseOk X (.ExceptHandler (some (.Name x np)) none (b0 :: su) p) ⟨c, none, rd⟩
  | named {x n : Str} {i : Nat} {c : Value} {rd} {b0 : Stmt} {su : List Stmt} {np p : Pos} (hN : X.N.Nodup) (hi : X.N[i]? = some n)
      (hl : X.env.kindOf n = some .local) (hc : Names X x c) (hs : SuiteOk X (b0 :: su) rd) :
      ClauseOk X (.ExceptHandler (some (.Name x np)) (some n) (b0 :: su) p) ⟨c, some i, rd⟩
inductive ClausesOk (X : Cx) : List ExceptHandler → List Clause → Prop
  | nil : ClausesOk X [] []
  | cons {h c hs cs} (a : ClauseOk X h c) (r : ClausesOk X hs cs) : ClausesOk X (h :: hs) (c :: cs)
section
variable {X : Cx} {body : List Stmt} {h0 : ExceptHandler} {hds : List ExceptHandler} {cs : List Clause} {pos : Pos} {tb : WX → TS} {Wo : WX}
theorem ps_tryC (hs : X.stack = X.env :: X.outer) (hf : X.env.frame = some X.env.locals) (tk : Takes X Wo)
    (hb : ∀ (W : WX) (pn : List (Addr × Obj)) (xe : Value → Shared → Prop), Takes (X.tr pn xe) W → PassesOwn (model X.prog X.w) X.A X.env xe → PSs (X.tr pn xe) body (tb W))
    (hh : ClausesOk X (h0 :: hds) cs) : PS X (.Try body (h0 :: hds) [] [] pos) (fun D s h => tb (wishC X.K Wo D cs) D s h) := by
  constructor
  intro pins s σ H D I h
  have ok := I.ok
  have frames : X.A.frames = some (X.env :: X.outer) := by rw [ok.frames, hs]
  refine wpAny_Try_except ?_
  let caught : Value → Shared → Prop := fun e s1 =>
    wpAny (model X.prog X.w) X.A (noteFrame e X.env) (fun _ s2 => wpAny (model X.prog X.w) X.A (setFlight e none)
      (fun _ s3 => wpAny (model X.prog X.w) X.A (handleBy e X.env (h0 :: hds)) (SP X pins D) X.xe s3) X.xe s2) X.xe s1
  have takesB : Takes (X.tr (X.pn ++ pins) caught) (wishC X.K Wo D cs) := by
    rintro u s' ⟨a, B, sI, pins', σ', H', cls, d, rfl, J0, nb, up, sky, na, os, ag, w⟩
    have J : Inv X pins σ' H' sI := J0.ofTry ok
    have sky1 : Sky B (X.env :: X.outer) a (Zc cls d) X.env.locals s'.heap := hs ▸ sky
    show wpAny _ X.A (noteFrame (.ref a) X.env) _ _ _
    refine Sky.land Zc.steady frames hf sky1 fun h3 fl up3 => ?_
    have J3 : Inv X pins σ' H' { s' with heap := h3 } := J.landed nb fl.1 (up.trans up3) os ag
    obtain ⟨o3, v3, g3, z3, d3⟩ := fl.there
    have out : a ∉ frs (X.env :: X.outer) := by
      intro hm
      obtain ⟨_, o', e', no⟩ := fl.2.2.1.mem hm
      rw [g3] at e'
      cases e'
      exact no _ d3
    have nL : a ≠ X.env.locals := by
      intro z
      exact out (List.mem_filterMap.mpr ⟨X.env, List.mem_cons_self, z ▸ hf⟩)
    have nF : a ∉ X.fs := by
      intro hm
      obtain ⟨e, he, q⟩ := List.mem_filterMap.mp hm
      exact out (List.mem_filterMap.mpr ⟨e, List.mem_cons_of_mem _ he, q⟩)
    have S3 := J3.suite g3 d3 na nL nF
    have ty : PySem.W.Looks (model X.prog X.w) h3 (typeOf (.ref a)) cls := fun A Q E t k q => wpAny_typeOf_ref (k _ _ g3) (by rw [z3.1]; exact q)
    have asked : ∀ {x : Str} {c : Value} {np : Pos} {Q E : Value → Shared → Prop}, Names X x c → Q c { s' with heap := h3 } →
        wpAny (model X.prog X.w) (X.A.mark (some (.ref a))) (eval (.Name x np) X.env) Q E { s' with heap := h3 } := by
      rintro x c np Q E ⟨hg, hd, hm | ⟨hm, hv, hn⟩⟩ q
      · exact ld_glob (X := X.suite a ((a, o3) :: (X.pn ++ pins))) S3 hg hm q hd
      · exact ld_blt (X := X.suite a ((a, o3) :: (X.pn ++ pins))) S3 hg hm hv q hn hd
    have run : ∀ {l : List ExceptHandler} {k : List Clause}, ClausesOk X l k → wishC X.K Wo D k cls d σ' H' →
        wpAny (model X.prog X.w) X.A (handleBy (.ref a) X.env l) (SP X pins D) X.xe { s' with heap := h3 } := by
      intro l k hk
      induction hk with
      | nil =>
        intro w
        refine wpAny_handleBy_nil ?_
        obtain ⟨_, _, _, oe, vs, T, oT, ts, he, _, hd, h1, _⟩ := id fl
        unfold PySem.passOn
        refine wpAny_bind (wpAny_field he hd h1 ?_)
        rw [if_neg (by simp : ¬ ((Value.ref T == Value.none) = true))]
        have up : wpAny (model X.prog X.w) X.A (setFlight (.ref a) X.env.frame)
            (fun _ t => wpAny (model X.prog X.w) X.A (throw (.ref a) : Sem Flow) (SP X pins D) X.xe t) X.xe { s' with heap := h3 } := by
          rw [hf]
          refine HandSPX.setFlight_upZ fl fun h4 hh4 up4 => wpAny_throw (tk _ _ ?_)
          refine ⟨a, B, sI, pins, σ', H', cls, d, rfl, J, nb, (up.trans up3).trans up4, .inr (.inr ?_), na, os, ag, w⟩
          rw [hs]
          exact hh4
        first
          | exact wpAny_bind (wpAny_pure (wpAny_bind up))
          | exact wpAny_bind up
      | @cons h1 c hs1 cs1 hc1 _ ih =>
        rintro ⟨b, mb, yes, no⟩
        have LM := PySem.W.exm_one (M := model X.prog X.w) J3.kIn ty mb
        cases hc1 with
        | @bare x c rd b0 su np p hc hsu =>
          refine wpAny_handleBy_cons (codeAny_handlers_test ?_) (by intro q; cases q)
          refine asked hc (LM.here ?_)
          cases b with
          | false => exact ih (no rfl)
          | true =>
            refine codeAny_handlers_suite (HandSPX.lands_againZ fl fun h4 fl4 up4 => ?_)
            have J4 : Inv X pins σ' H' { s' with heap := h4 } := J.landed nb fl4.1 ((up.trans up3).trans up4) os ag
            obtain ⟨o4, v4, g4, z4, d4⟩ := fl4.there
            refine wpAny_mono ((hsu a o4 cls d (X.pn ++ pins) z4 ⟨_, d4⟩).run [] _ _ H' _ (J4.suite g4 d4 na nL nF) (yes rfl a na)) ?_ (fun _ _ z => False.elim z)
            intro f s6 sp
            cases f with
            | ret u => obtain ⟨v6, σ6, H6, S6, r6, q6⟩ := sp; exact ⟨_, _, _, S6.unsuite ok, r6, q6⟩
            | next => obtain ⟨σ6, H6, S6, q6⟩ := sp; exact ⟨_, _, S6.unsuite ok, q6⟩
            | brk => obtain ⟨σ6, H6, S6, q6⟩ := sp; exact ⟨_, _, S6.unsuite ok, q6⟩
            | cont => obtain ⟨σ6, H6, S6, q6⟩ := sp; exact ⟨_, _, S6.unsuite ok, q6⟩
        | @named x n i c rd b0 su np p hN hi hl hc hsu =>
          refine wpAny_handleBy_cons (codeAny_handlers_test ?_) (by intro q; cases q)
          refine asked hc (LM.here ?_)
          cases b with
          | false => exact ih (no rfl)
          | true =>
            refine codeAny_handlers_suite_as (HandSPX.lands_againZ fl fun h4 fl4 up4 => ?_)
            have J4 : Inv X pins σ' H' { s' with heap := h4 } := J.landed nb fl4.1 ((up.trans up3).trans up4) os ag
            obtain ⟨o4, v4, g4, z4, d4⟩ := fl4.there
            refine store_ok (X := X.suite a ((a, o4) :: (X.pn ++ pins))) (v := .ref a) (J4.suite g4 d4 na nL nF) hN hi (.inl hl) rfl (fun s5 S5 => ?_) (.inr hl)
            refine wpAny_mono ((hsu a o4 cls d (X.pn ++ pins) z4 ⟨_, d4⟩).run [] s5 _ H' _ S5 (yes rfl a na)) ?_ (fun _ _ z => False.elim z)
            intro f s6 sp
            have gone : ∀ {σ6 : St} {H6 : Hp} {Q : Shared → Prop}, Inv (X.suite a ((a, o4) :: (X.pn ++ pins))) [] σ6 H6 s6 → (∀ t, Inv X pins (σ6.set i none) H6 t → Q t) →
                wpAny (model X.prog X.w) X.A (do bindName X.env n .none; unbindBehindTheSuite X.env n p) (fun _ t => Q t) X.xe s6 := fun S6 hq => gone_ok (S6.unsuite ok) hN hi hl hq
            cases f with
            | ret u => obtain ⟨v6, σ6, H6, S6, r6, q6⟩ := sp; exact gone S6 fun t J7 => ⟨_, _, _, J7, r6, q6⟩
            | next => obtain ⟨σ6, H6, S6, q6⟩ := sp; exact gone S6 fun t J7 => ⟨_, _, J7, q6⟩
            | brk => obtain ⟨σ6, H6, S6, q6⟩ := sp; exact gone S6 fun t J7 => ⟨_, _, J7, q6⟩
            | cont => obtain ⟨σ6, H6, S6, q6⟩ := sp; exact gone S6 fun t J7 => ⟨_, _, J7, q6⟩
    exact run hh w
  refine wpAny_mono ((hb (wishC X.K Wo D cs) (X.pn ++ pins) caught takesB PassesOwn.looking).run [] s σ H D (I.toTry _) h) ?_ (fun e s1 he => he)
  intro f s1 sp
  cases f with
  | ret u => obtain ⟨v, σ', H', J', r, q⟩ := sp; exact ⟨v, σ', H', J'.ofTry ok, r, q⟩
  | next => obtain ⟨σ', H', J', q⟩ := sp; exact wpAny_execs_nil ⟨σ', H', J'.ofTry ok, q⟩
  | brk => obtain ⟨σ', H', J', q⟩ := sp; exact ⟨σ', H', J'.ofTry ok, q⟩
  | cont => obtain ⟨σ', H', J', q⟩ := sp; exact ⟨σ', H', J'.ofTry ok, q⟩
end

/-! ## f(k = v, ..): keywords alone -/
def tCallKw (sp : Sp) (pm : List V → List V) (E : St → XK) (tk : TA) : TE := fun σ H Q => tk σ H fun zs H1 => sp (pm zs) H1 Q (E σ)
section
variable {X : Cx} {CX : CXT} {k : Nat} {f : Addr} {fd : FuncData} {ps ks : List Str} {sp : Sp} {E : St → XK} {x : Str} {p pos : Pos} {kws : List Keyword} {tk : TA}
  {g : List Value → List Value → List Value} {gV : List V → List V → List V}
theorem pe_callKw (F : FnOk X.prog X.w X.K X.mg X.base CX k f fd ps sp) (hr : Room k X.A) (hg : Gl X x) (hm : X.mg x = some (.ref f)) (hk : PySem.W.keepIn X.K (.ref f) = true)
    (hb : KBinds X.K fd ps ks g gV) (hx : ∀ σ, PassesAt CX X σ (E σ)) (hkw : PK X kws tk)
    (hall : (backToKw pos (keywordEach kws X.env)).all (·.1.isSome) = true := by rfl) (hks : (backToKw pos (keywordEach kws X.env)).filterMap (·.1) = ks := by rfl)
    (hdb : (x == ("__debug__" : Str)) = false := by decide)
    (hpl : ((backTo pos (starEach [] X.env)).any (·.1) || (backToKw pos (keywordEach kws X.env)).any (·.1.isNone)) = false := by rfl) :
    PE X (.Call (.Name x p) [] kws pos) (tCallKw sp (gV []) E tk) := by
  constructor
  intro pins s σ H Q I h
  refine wpAny_Call_Name_kw (ld_glob I hg hm ?_ hdb)
  refine PySem.W.callWith_KW0 (h₀ := X.base) I.ok.mod.kin hk hall (thn (hkw.run pos pins s σ H _ I h) ?_) hpl
  rintro ws s2 ⟨zs, H2, I2, rz, q2⟩
  refine ⟨I2.kIn, ?_⟩
  rw [hks]
  have r2 : Vals (gV [] zs) (g [] ws) := hb.rel .nil rz
  have hl : (g [] ws).length = ps.length := by rw [← r2.length]; exact F.len _ _ _ _ q2
  refine wpAny_call (codeAny_mono (F.run X.A X.stack s2 H2 ⟨[], ks.zip ws⟩ (g [] ws) (gV [] zs) Q (E σ) hr I2.env0 (hb.to s2 [] ws I2.kIn hl) r2 q2) ?_)
  intro r s' hq
  cases r with
  | error e => exact hx σ pins H2 s2 e s' I2 hq
  | ok fl => cases fl with
    | ret u => exact I2.after hq
    | next => exact False.elim hq
    | brk => exact False.elim hq
    | cont => exact False.elim hq
end

/-! ## math.comb, and tuple * int with few turns -/
section
variable {X : Cx}
def rComb : List V → Hp → VK → Prop := fun vs H Q => ∃ a b : Int, vs = [.int a, .int b] ∧ 0 ≤ a ∧ a ≤ 1000 ∧ 0 ≤ b ∧ b ≤ 1000 ∧ Q (.int (PySem.W.mcComb a b)) H
theorem cr_comb : CallR X (.builtin "math.comb") rComb := by
  intro pins s σ H vs us Q I r h
  obtain ⟨a, b, rfl, h1, h2, h3, h4, q⟩ := h
  obtain ⟨u1, u2, rfl, r1, r2⟩ := vals2 r
  obtain ⟨t, rfl⟩ := r1
  obtain ⟨u, rfl⟩ := r2
  exact PySem.W.mc_comb h1 h3 (by omega) (by omega) fun _ => ⟨.int _, H, I.tok _, ⟨_, rfl⟩, q⟩
end

/-! ## sum of a list or a tuple of ints; x *= y of great ints; a for over a list or a tuple -/
section
variable {X : Cx}
def rSumS (K : PySem.W.Frag) : List V → Hp → VK → Prop := fun vs H Q => ∃ (a : Addr) (ns : List Int), vs = [V.ref a] ∧ (SqL K H a (ns.map V.int) ∨ SqT K H a (ns.map V.int)) ∧ Q (.int ns.sum) H
theorem cr_sumS (hc : X.calm = true) : CallR X (.builtin "sum") (rSumS X.K) := by
  intro pins s σ H vs us Q I r h
  obtain ⟨a, ns, e, hs | hs, q⟩ := h
  · exact cr_sum hc pins s σ H vs us Q I r ⟨a, ns, e, hs, q⟩
  · subst e
    obtain ⟨its, rv, hl, _⟩ := I.tuple hs
    rw [Vals.ref1 r]
    have hi := rv.ints
    have hl2 : s.heap.IsTuple a its.toArray := hl
    obtain ⟨xs, ex⟩ := hi.allInts.items
    have hn : numsOf (intItems xs).toList = ns := by rw [← ex]; exact hi.numsOf
    rw [nums_intItems] at hn
    rw [ex] at hl2
    refine PySem.W.ktm_sumG (I.ok.hd hc) hl2 fun h' tk t' hk => ?_
    rw [preSum_eq, List.take_of_length_le (by simp), hn]
    exact ⟨.int _, H, I.kept hk, ⟨_, rfl⟩, q⟩
theorem ip_mulC : PIp X .Mult (fun x y H Q => ∃ i j, x = .int i ∧ y = .int j ∧ CMul i j ∧ Q (.int (i * j)) H) := by
  intro pins s σ H x y v u Q I r1 r2 h
  obtain ⟨i, j, rfl, rfl, hc, q⟩ := h
  obtain ⟨t, rfl⟩ := r1
  obtain ⟨t', rfl⟩ := r2
  exact imul_int ⟨.int _, H, I.tok _, ⟨_, rfl⟩, q⟩ hc.ok
def iSeq (K : PySem.W.Frag) (tl : TE) : TI := fun σ H R => iList K tl σ H R ∨ iTup K tl σ H R
theorem pi_seq {tg l : Expr} {tl : TE} (hl : PE X l tl) : PI X tg l (iSeq X.K tl) := by
  constructor
  intro pins s σ H R I h
  rcases h with h | h
  · exact (pi_list hl).run pins s σ H R I h
  · exact (pi_tup hl).run pins s σ H R I h
end

/-! ## how keywords bind -/
def kw1 {α : Type} : List α → List α → List α
  | [], [a] => [a]
  | _, _ => []
def kw12 {α : Type} : List α → List α → List α
  | [], [a, b] => [a, b]
  | _, _ => []
def kw21 {α : Type} : List α → List α → List α
  | [], [a, b] => [b, a]
  | _, _ => []
theorem kw1_rel {vs : List V} {us : List Value} {zs : List V} {ws : List Value} (r : Vals vs us) (t : Vals zs ws) : Vals (kw1 vs zs) (kw1 us ws) := by
  cases r with
  | cons _ _ => exact .nil
  | nil => cases t with
    | nil => exact .nil
    | cons a t => cases t with
      | nil => exact .cons a .nil
      | cons _ _ => exact .nil
theorem kw12_rel {vs : List V} {us : List Value} {zs : List V} {ws : List Value} (r : Vals vs us) (t : Vals zs ws) : Vals (kw12 vs zs) (kw12 us ws) := by
  cases r with
  | cons _ _ => exact .nil
  | nil => cases t with
    | nil => exact .nil
    | cons a t => cases t with
      | nil => exact .nil
      | cons b t => cases t with
        | nil => exact .cons a (.cons b .nil)
        | cons _ _ => exact .nil
theorem kw21_rel {vs : List V} {us : List Value} {zs : List V} {ws : List Value} (r : Vals vs us) (t : Vals zs ws) : Vals (kw21 vs zs) (kw21 us ws) := by
  cases r with
  | cons _ _ => exact .nil
  | nil => cases t with
    | nil => exact .nil
    | cons a t => cases t with
      | nil => exact .nil
      | cons b t => cases t with
        | nil => exact .cons b (.cons a .nil)
        | cons _ _ => exact .nil
theorem kb1 {K : PySem.W.Frag} {x qual : Str} {st : Stmt} {f : Addr} {fd : FuncData} {p k : Str} (F : Fun K x qual st f fd)
    (h : ∀ (kV doc pm : Value) (an : Option Addr) (cdv ct : Value) (u : Value), bindArgs (PySem.W.fnOf x qual (defArgs st) (defBody st) (defScope st) .none kV doc pm an cdv ct) ⟨[], [(k, u)]⟩ = pure [(p, u)]) : KBinds K fd [p] [k] kw1 kw1 := by
  obtain ⟨oc, od, kV, doc, pm, an, cdv, ct, osl, rfl, lk, hcd⟩ := F.ex
  refine ⟨fun s us ws _ hl => ?_, kw1_rel⟩
  match us, ws, hl with
  | [], [u], _ => exact .of_eq (h kV doc pm an cdv ct u)
theorem kb12 {K : PySem.W.Frag} {x qual : Str} {st : Stmt} {f : Addr} {fd : FuncData} {p q k l : Str} (F : Fun K x qual st f fd)
    (h : ∀ (kV doc pm : Value) (an : Option Addr) (cdv ct : Value) (u w : Value), bindArgs (PySem.W.fnOf x qual (defArgs st) (defBody st) (defScope st) .none kV doc pm an cdv ct) ⟨[], [(k, u), (l, w)]⟩ = pure [(p, u), (q, w)]) : KBinds K fd [p, q] [k, l] kw12 kw12 := by
  obtain ⟨oc, od, kV, doc, pm, an, cdv, ct, osl, rfl, lk, hcd⟩ := F.ex
  refine ⟨fun s us ws _ hl => ?_, kw12_rel⟩
  match us, ws, hl with
  | [], [u, w], _ => exact .of_eq (h kV doc pm an cdv ct u w)
theorem kb21 {K : PySem.W.Frag} {x qual : Str} {st : Stmt} {f : Addr} {fd : FuncData} {p q k l : Str} (F : Fun K x qual st f fd)
    (h : ∀ (kV doc pm : Value) (an : Option Addr) (cdv ct : Value) (u w : Value), bindArgs (PySem.W.fnOf x qual (defArgs st) (defBody st) (defScope st) .none kV doc pm an cdv ct) ⟨[], [(k, u), (l, w)]⟩ = pure [(p, w), (q, u)]) : KBinds K fd [p, q] [k, l] kw21 kw21 := by
  obtain ⟨oc, od, kV, doc, pm, an, cdv, ct, osl, rfl, lk, hcd⟩ := F.ex
  refine ⟨fun s us ws _ hl => ?_, kw21_rel⟩
  match us, ws, hl with
  | [], [u, w], _ => exact .of_eq (h kV doc pm an cdv ct u w)

/-! ## tuple * int -/
theorem tmul0 (l : Addr) (items : Array Value) (n : Nat) (dd : Option Addr) (sl : Array (Option Value)) (u : Tok) (hne : items.isEmpty = false) :
    Meets (Builtin.«tuple.__mul__» ⟨[.ref l, .int 0 u], []⟩) (fun _ R s => s.heap.get? l = some { cls := .type "tuple", dict := dd, data := .seq items n, slots := sl } ∧
      R (.ok (.ret (Value.ref s.heap.objs.size))) { s with heap := s.heap.push { cls := Value.type "tuple", data := Data.seq #[] } }) :=
  .of_wp fun prog w A R s h => by
    obtain ⟨hp, g, d, tk, os⟩ := s
    obtain ⟨hl, h⟩ := h
    have f1 := AutoSeq1.idx_int
    have c1 : (items.isEmpty || (0 : Int) == 1) = false := by rw [hne]; rfl
    wp_walk using wpAny_loadPart' hl
    exact ⟨_, rfl, h⟩
theorem tmul1 (l : Addr) (items : Array Value) (n : Nat) (dd : Option Addr) (sl : Array (Option Value)) (u : Tok) (hne : items.isEmpty = false) :
    Meets (Builtin.«tuple.__mul__» ⟨[.ref l, .int 1 u], []⟩) (fun _ R s => s.heap.get? l = some { cls := .type "tuple", dict := dd, data := .seq items n, slots := sl } ∧
      R (.ok (.ret (Value.ref l))) s) :=
  .of_wp fun prog w A R s h => by
    obtain ⟨hp, g, d, tk, os⟩ := s
    obtain ⟨hl, h⟩ := h
    have f1 := AutoSeq1.idx_int
    wp_walk using wpAny_loadPart' hl
    exact ⟨_, rfl, h⟩

def rRepA (K : PySem.W.Frag) : R2 := fun x y H Q => ∃ (l : Addr) (k : Int) (xs : List V), x = .ref l ∧ y = .int k ∧ SqT K H l xs ∧ xs ≠ [] ∧ 0 ≤ k ∧ k ≤ 1000 ∧ xs.length ≤ 1000 ∧
  ∀ p H', Ex H H' → SqT K H' p (List.replicate k.toNat xs).flatten → Q (.ref p) H'
theorem op_repA {X : Cx} : OpR X (binaryOp .Mult) (rRepA X.K) := by
  intro pins s σ H x y v u Q I rx ry h
  obtain ⟨l, k, xs, rfl, rfl, hT, hne, h0, h1, hz, q⟩ := h
  by_cases h2 : 2 ≤ k
  · exact op_repT pins s σ H (.ref l) (.int k) v u Q I rx ry ⟨l, k, xs, rfl, rfl, hT, hne, h2, h1, hz, fun p hp => q p _ (Ex.new hp) (st_of upd_same)⟩
  · cases rx
    obtain ⟨t, rfl⟩ := ry
    obtain ⟨its, r, ⟨⟨cls, dd, data, sl⟩, ho, hc, n, hd⟩, hs⟩ := I.tuple hT
    simp only at hc hd
    subst hc hd
    have hle : its.length = xs.length := r.length.symm
    have hi : its.toArray.isEmpty = false := by
      cases its with
      | nil => exact absurd (List.eq_nil_of_length_eq_zero hle.symm) hne
      | cons a b => rfl
    rcases (by omega : k = 0 ∨ k = 1) with rfl | rfl
    · refine wpAny_binaryOp_repeat_ref (T := "tuple") (U := "int") (by decide) ⟨_, ho, rfl⟩ (fun s' => typeIs_int s' 0 t) noFill_tuple_mul F.fills_int_mul F.slot_int_rmul repeat_tuple F.slot_int_index.lookup
        (call_meets F.slot_int_rmul (typeIs_int s 0 t) F.entry_int_rmul (F.args_int_rmul_2 _ _) (int_rmul_tuple 0 t l its.toArray n dd sl)
          ⟨ho, rfl, ⟨_, ho, rfl⟩, call_meets F.slot_tuple_mul ⟨_, ho, rfl⟩ F.entry_tuple_mul (F.args_tuple_mul_2 _ _) (tmul0 l its.toArray n dd sl t hi) ⟨ho, ?_⟩⟩)
      refine ⟨.ref s.heap.objs.size, _, I.laid (t' := s.toks) (o := .tup []) (fun b ob e => Heap.get?_push_of_some _ e) (Nat.le_refl _) ?_, rfl, q _ _ (Ex.new (I.hok.fresh (Nat.le_refl _))) (st_of upd_same)⟩
      exact ⟨Nat.zero_le _, [], .nil, IsTup.new _ _⟩
    · refine wpAny_binaryOp_repeat_ref (T := "tuple") (U := "int") (by decide) ⟨_, ho, rfl⟩ (fun s' => typeIs_int s' 1 t) noFill_tuple_mul F.fills_int_mul F.slot_int_rmul repeat_tuple F.slot_int_index.lookup
        (call_meets F.slot_int_rmul (typeIs_int s 1 t) F.entry_int_rmul (F.args_int_rmul_2 _ _) (int_rmul_tuple 1 t l its.toArray n dd sl)
          ⟨ho, rfl, ⟨_, ho, rfl⟩, call_meets F.slot_tuple_mul ⟨_, ho, rfl⟩ F.entry_tuple_mul (F.args_tuple_mul_2 _ _) (tmul1 l its.toArray n dd sl t hi) ⟨ho, ?_⟩⟩)
      refine ⟨.ref l, H, I, rfl, q _ _ (Ex.refl H) ?_⟩
      have e : (List.replicate (Int.toNat 1) xs).flatten = xs := by simp
      rw [e]
      exact hT

/-! ## a def of the text, in one bundle -/
structure DefAt (K : PySem.W.Frag) (mg : Str → Option Value) (x : Str) (st : Stmt) (ps : List Str) where
  a : Addr
  fd : FuncData
  F : Fun K x x st a fd
  m : mg x = some (.ref a)
  b : Binds K fd ps []
theorem pass0At {X : Cx} {σ : St} : PassesAt CX0 X σ E0 := fun _ _ _ _ _ _ h => h.elim

/-! ## heaps: all but one object stands -/
def But (b : Addr) (H H' : Hp) : Prop := ∀ a o, a ≠ b → H a = some o → H' a = some o
theorem But.of {b : Addr} {H H' : Hp} (e : Ex H H') : But b H H' := fun a o _ h => e a o h
theorem But.trans {b : Addr} {H H1 H2 : Hp} (x : But b H H1) (y : But b H1 H2) : But b H H2 := fun a o n h => y a o n (x a o n h)
theorem But.ex {b : Addr} {H H1 H2 : Hp} (x : But b H H1) (y : Ex H1 H2) : But b H H2 := fun a o n h => y a o (x a o n h)
theorem But.pre {b : Addr} {H H1 H2 : Hp} (x : Ex H H1) (y : But b H1 H2) : But b H H2 := fun a o n h => y a o n (x a o h)
theorem But.upd {b : Addr} {H : Hp} {o : HO} : But b H (upd H b o) := fun a u n h => by rw [upd_ne n]; exact h
theorem But.none {b p : Addr} {H H' : Hp} {o : HO} (x : But b H H') (hb : H b = some o) (h : H' p = none) : p ≠ b → H p = none := fun n => by
  cases e : H p with
  | none => rfl
  | some u => rw [x p u n e] at h; cases h
theorem ne_new {H : Hp} {p b : Addr} {o : HO} (h : H p = none) (hb : H b = some o) : p ≠ b := fun e => by rw [e, hb] at h; cases h
/-- what is frozen or written stands whatever happens to b; a tracked list that is no b, too -/
theorem But.sql {K : PySem.W.Frag} {b a : Addr} {H H' : Hp} {xs : List V} (x : But b H H') (n : a ≠ b) (h : SqL K H a xs) : SqL K H' a xs := by
  rcases h with (h | ⟨o, h⟩) | h
  · exact .inl (.inl (x _ _ n h))
  · exact .inl (.inr ⟨o, x _ _ n h⟩)
  · exact .inr h
theorem But.sqt {K : PySem.W.Frag} {b a : Addr} {H H' : Hp} {xs : List V} (x : But b H H') (n : a ≠ b) (h : SqT K H a xs) : SqT K H' a xs := by
  rcases h with (h | ⟨o, h⟩) | h
  · exact .inl (.inl (x _ _ n h))
  · exact .inl (.inr ⟨o, x _ _ n h⟩)
  · exact .inr h

/-! ## the box of draws: digits, flag, seed, count; n draws are left -/
def BoxAt (H : Hp) (b : Addr) (n : Nat) : Prop := ∃ (d m c : Int) (f : Bool), H b = some (.lst [.int d, .bl f, .int m, .int c]) ∧ 0 ≤ d ∧ 0 ≤ m ∧ m < 2147483648 ∧ 0 ≤ c ∧ c + n ≤ 1000000
theorem BoxAt.some {H : Hp} {b : Addr} {n : Nat} (h : BoxAt H b n) : ∃ o, H b = some o := by
  obtain ⟨d, m, c, f, h, _⟩ := h
  exact ⟨_, h⟩
theorem BoxAt.le {H : Hp} {b : Addr} {n k : Nat} (h : BoxAt H b n) (l : k ≤ n) : BoxAt H b k := by
  obtain ⟨d, m, c, f, h, h1, h2, h3, h4, h5⟩ := h
  exact ⟨d, m, c, f, h, h1, h2, h3, h4, by omega⟩
theorem BoxAt.ex {H H' : Hp} {b : Addr} {n : Nat} (h : BoxAt H b n) (e : Ex H H') : BoxAt H' b n := by
  obtain ⟨d, m, c, f, h, r⟩ := h
  exact ⟨d, m, c, f, e _ _ h, r⟩
theorem BoxAt.ne {H : Hp} {b p : Addr} {n : Nat} (h : BoxAt H b n) (hp : H p = none) : p ≠ b := by
  obtain ⟨d, m, c, f, h, _⟩ := h
  exact ne_new hp h
def spCell (K : PySem.W.Frag) : Sp := fun vs H Q _ => ∃ (a : Addr) (ns : List Int) (k : Int), vs = [.ref a, .int k] ∧ SqL K H a (ns.map V.int) ∧ 0 ≤ k ∧ k ≤ 1000 ∧ ∀ (v : Int) H', Ex H H' → Q (.int v) H'
def spBox : Sp := fun vs H Q _ => ∃ g : Int, vs = [.int g] ∧ ∀ p H', H p = none → Ex H H' → BoxAt H' p 1000000 → Q (.ref p) H'
def spTake : Sp := fun vs H Q _ => ∃ (b : Addr) (m : Int) (n : Nat), vs = [.ref b, .int m] ∧ 0 < m ∧ m < 1073741824 ∧ BoxAt H b (n + 1) ∧
  ∀ r H', 0 ≤ r → r < m → BoxAt H' b n → But b H H' → Q (.int r) H'

/-! ## types of data -/
theorem tyL {K : PySem.W.Frag} {H : Hp} {a : Addr} {xs : List V} (h : SqL K H a xs) : TyX K H (.ref a) (.type "list") := by
  rcases h with (h | ⟨o, h⟩) | ⟨o, its, n, hk, hc, _⟩
  · exact .base (.lst h)
  · exact .base (.frz h)
  · exact .kList hk hc
theorem tyT {K : PySem.W.Frag} {H : Hp} {a : Addr} {xs : List V} (h : SqT K H a xs) : TyX K H (.ref a) (.type "tuple") := by
  rcases h with (h | ⟨o, h⟩) | ⟨o, its, n, hk, hc, _⟩
  · exact .base (.tup h)
  · exact .fTuple h
  · exact .kTuple hk hc
/-- two values that hold the same, at most n lists and tuples within one another -/
inductive Sm (K : PySem.W.Frag) (H : Hp) : Nat → V → V → Prop
  | non {n} : Sm K H n .non .non
  | bl {n} (b : Bool) : Sm K H n (.bl b) (.bl b)
  | int {n} (i : Int) : Sm K H n (.int i) (.int i)
  | str {n} (z : Str) (h : z.length ≤ 1000) : Sm K H n (.str z) (.str z)
  | lst {n} {a b : Addr} {xs ys : List V} (h1 : SqL K H a xs) (h2 : SqL K H b ys) (hl : xs.length = ys.length) (hz : xs.length ≤ 1000)
      (all : ∀ (i : Nat) (x y : V), xs[i]? = some x → ys[i]? = some y → Sm K H n x y) : Sm K H (n + 1) (.ref a) (.ref b)
  | tup {n} {a b : Addr} {xs ys : List V} (h1 : SqT K H a xs) (h2 : SqT K H b ys) (hl : xs.length = ys.length) (hz : xs.length ≤ 1000)
      (all : ∀ (i : Nat) (x y : V), xs[i]? = some x → ys[i]? = some y → Sm K H n x y) : Sm K H (n + 1) (.ref a) (.ref b)
  | dct {n} {a b : Addr} (h1 : H a = some (.dK [])) (h2 : H b = some (.dK [])) : Sm K H (n + 1) (.ref a) (.ref b)
theorem Sm.ex {K : PySem.W.Frag} {H H' : Hp} (e : Ex H H') {n : Nat} {x y : V} (h : Sm K H n x y) : Sm K H' n x y := by
  induction h with
  | non => exact .non
  | bl b => exact .bl b
  | int i => exact .int i
  | str z h => exact .str z h
  | lst h1 h2 hl hz _ ih => exact .lst (ex_l e h1) (ex_l e h2) hl hz ih
  | tup h1 h2 hl hz _ ih => exact .tup (ex_t e h1) (ex_t e h2) hl hz ih
  | dct h1 h2 => exact .dct (e _ _ h1) (e _ _ h2)
theorem Sm.succ {K : PySem.W.Frag} {H : Hp} {n : Nat} {x y : V} (h : Sm K H n x y) : Sm K H (n + 1) x y := by
  induction h with
  | non => exact .non
  | bl b => exact .bl b
  | int i => exact .int i
  | str z h => exact .str z h
  | lst h1 h2 hl hz _ ih => exact .lst h1 h2 hl hz ih
  | tup h1 h2 hl hz _ ih => exact .tup h1 h2 hl hz ih
  | dct h1 h2 => exact .dct h1 h2
theorem Sm.le {K : PySem.W.Frag} {H : Hp} {n m : Nat} {x y : V} (h : Sm K H n x y) (l : n ≤ m) : Sm K H m x y := by
  induction l with
  | refl => exact h
  | step _ ih => exact ih.succ
theorem Sm.ints {K : PySem.W.Frag} {H : Hp} {n : Nat} {ns : List Int} : ∀ (i : Nat) (x y : V), (ns.map V.int)[i]? = some x → (ns.map V.int)[i]? = some y → Sm K H n x y := by
  intro i x y h1 h2
  rw [h1] at h2
  cases h2
  rw [List.getElem?_map] at h1
  cases e : ns[i]? with
  | none => rw [e] at h1; cases h1
  | some z => rw [e] at h1; cases h1; exact .int z
def spSame (K : PySem.W.Frag) (n : Nat) : Sp := fun vs H Q _ => ∃ x y, vs = [x, y] ∧ Sm K H n x y ∧ ∀ H', Ex H H' → Q (.bl true) H'
theorem cut_one {z : Str} {k : Nat} {c : Nat} (h : z.cps.toList[k]? = some c) : cutS z (some (k : Int)) (some ((k : Int) + 1)) = ⟨#[c]⟩ := by
  have hk := (List.getElem?_eq_some_iff.mp h).1
  have hz : z.cps.toList.length = z.length := Array.length_toList
  unfold cutS
  have e : ((k : Int) + 1) = ((k + 1 : Nat) : Int) := by omega
  rw [e, HT.sIx_nat, HT.sIx_nat, Nat.min_eq_left (by omega), Nat.min_eq_left (by omega)]
  have e2 : k + 1 - k = 1 := by omega
  rw [e2, List.drop_eq_getElem_cons hk]
  have e3 := (List.getElem?_eq_some_iff.mp h).2
  simp [e3]

/-! ## the rules whose reading speaks of the written part, with it named (within a comprehension's block) -/
section
variable {X : Cx}
def rLen (K : PySem.W.Frag) : List V → Hp → VK → Prop := fun xs H Q => ∃ x n, xs = [x] ∧ LenV K x H n ∧ Q (.int (n : Nat)) H
def rListOf (K : PySem.W.Frag) : List V → Hp → VK → Prop := fun xs H Q => ∃ p ys, xs = [.ref p] ∧ (SqL K H p ys ∨ SqT K H p ys) ∧ ∀ l, H l = none → Q (.ref l) (upd H l (.lst ys))
def rTupOf (K : PySem.W.Frag) : List V → Hp → VK → Prop := fun xs H Q => ∃ p ys, xs = [.ref p] ∧ ((SqL K H p ys ∧ ∀ l, H l = none → Q (.ref l) (upd H l (.tup ys))) ∨ (SqT K H p ys ∧ Q (.ref p) H))
theorem kix (K : PySem.W.Frag) (h : X.K = K := by rfl) : IxR X (rIx K) := by subst h; exact ix_seq
theorem kixl (K : PySem.W.Frag) (h : X.K = K := by rfl) : IxR X (rIxL K) := by subst h; exact ix_list
theorem kixt (K : PySem.W.Frag) (h : X.K = K := by rfl) : IxR X (rIxT K) := by subst h; exact ix_tup
theorem klen (K : PySem.W.Frag) (h : X.K = K := by rfl) : CallR X (.builtin "len") (rLen K) := by subst h; exact call_len
theorem klist (K : PySem.W.Frag) (h : X.K = K := by rfl) : CallR X (.type "list") (rListOf K) := by subst h; exact call_list_of
theorem ktuple (K : PySem.W.Frag) (h : X.K = K := by rfl) : CallR X (.type "tuple") (rTupOf K) := by subst h; exact call_tuple_of
theorem kisi (K : PySem.W.Frag) (h : X.K = K := by rfl) : CallR X (.builtin "isinstance") (rIsi K) := by subst h; exact call_isi
theorem kisiT (K : PySem.W.Frag) (h : X.K = K := by rfl) : CallR X (.builtin "isinstance") (rIsiT K) := by subst h; exact call_isiT
theorem keqD (K : PySem.W.Frag) (hu : X.A.units + 64 < cLine) (h : X.K = K := by rfl) : OpR X (compareOp .Eq) (rEqD K) := by subst h; exact op_eqD hu
theorem kneD (K : PySem.W.Frag) (hu : X.A.units + 64 < cLine) (h : X.K = K := by rfl) : OpR X (compareOp .NotEq) (rNeD K) := by subst h; exact op_neD hu
theorem kin (K : PySem.W.Frag) (h : X.K = K := by rfl) : OpR X (compareOp .In) (rIn K false) := by subst h; exact op_in_seq
theorem knotin (K : PySem.W.Frag) (h : X.K = K := by rfl) : OpR X (compareOp .NotIn) (rIn K true) := by subst h; exact op_notIn_seq
theorem kcatA (K : PySem.W.Frag) (h : X.K = K := by rfl) : OpR X (binaryOp .Add) (rCatA K) := by subst h; exact op_catA
theorem krepA (K : PySem.W.Frag) (h : X.K = K := by rfl) : OpR X (binaryOp .Mult) (rRepA K) := by subst h; exact op_repA
theorem kslL (K : PySem.W.Frag) (h : X.K = K := by rfl) : SlR X (rSlL K) := by subst h; exact sl_list
theorem kslT (K : PySem.W.Frag) (h : X.K = K := by rfl) : SlR X (rSlA K) := by subst h; exact sl_tupA
theorem ksum (K : PySem.W.Frag) (hc : X.calm = true) (h : X.K = K := by rfl) : CallR X (.builtin "sum") (rSumS K) := by subst h; exact cr_sumS hc
theorem kall (K : PySem.W.Frag) (hc : X.calm = true) (h : X.K = K := by rfl) : CallR X (.builtin "all") (rAll K) := by subst h; exact cr_all hc
theorem kpil (K : PySem.W.Frag) {tg l : Expr} {tl : TE} (hl : PE X l tl) (h : X.K = K := by rfl) : PI X tg l (iList K tl) := by subst h; exact pi_list hl
theorem kpit (K : PySem.W.Frag) {tg l : Expr} {tl : TE} (hl : PE X l tl) (h : X.K = K := by rfl) : PI X tg l (iTup K tl) := by subst h; exact pi_tup hl
theorem kpis (K : PySem.W.Frag) {tg l : Expr} {tl : TE} (hl : PE X l tl) (h : X.K = K := by rfl) : PI X tg l (iSeq K tl) := by subst h; exact pi_seq hl
end

/-! ## own errors with one attribute -/
structure ErrAt (K : PySem.W.Frag) (mg : Str → Option Value) (x qi : Str) (st : Stmt) (f : Str) where
  C : Addr
  fI : Addr
  fd : FuncData
  F : Fun K "__init__" qi st fI fd
  b : Binds K fd ["self", f] []
  T : OexC K C
  iC : PySem.W.findIn K (.ref C) "__init__" = some (some (.ref fI))
  tI : PySem.W.typeIn K (.ref fI) = some (.type "function")
  gC : mg x = some (.ref C)
  nf : PySem.W.findIn K (.ref C) f = some none
  xf : XfC K C
def spInit (C : Addr) (f : Str) : Sp := fun vs H Q _ => ∃ (a : Addr) (y : V), vs = [.ref a, y] ∧ H a = some (exo a C none) ∧
  ∀ d, H d = none → d ≠ a → Q .non (upd (upd H d (exd d [(f, y)])) a (exo a C (some d)))
theorem raised {C a : Addr} {H : Hp} {f : Str} {y : V} {Q : XK} {E : XK} (ha : H a = none) (q : ∀ d H', Ex H H' → H' d = some (.xd [(f, y)]) → Q (.ref C) (some d) H') :
    spInit C f [.ref a, y] (upd H a (exo a C none)) (fun v H2 => v = .non ∧ ∃ (d : Addr) (fs : List (Str × V)), H2 a = some (exo a C (some d)) ∧ H2 d = some (exd d fs) ∧ H d = none ∧ Q (.ref C) (some d) (upd (del H2 a) d (.xd fs))) E := by
  refine ⟨a, y, rfl, upd_same, fun d hd nd => ⟨rfl, d, [(f, y)], upd_same, ?_, ?_, ?_⟩⟩
  · rw [upd_ne nd]; exact upd_same
  · rw [upd_ne nd] at hd; exact hd
  · rw [upd_ne nd] at hd
    refine q d _ (fun b o hb => ?_) upd_same
    have h1 : b ≠ a := ne_of_none hb ha
    have h2 : b ≠ d := ne_of_none hb hd
    rw [upd_ne h2, del_ne h1, upd_ne h1, upd_ne h2, upd_ne h1]
    exact hb
/-- a check: it lets what is right, else raises the error of C with the very value -/
def spChk (C : Addr) (ok : Int → Prop) : Sp := fun vs H Q E => ∃ i : Int, vs = [.int i] ∧ (ok i → ∀ H', Ex H H' → Q .non H') ∧
  (¬ ok i → ∀ d H', Ex H H' → H' d = some (.xd [("given", .int i)]) → E (.ref C) (some d) H')
end L2.U


set_option Elab.async false
set_option linter.all false
set_option maxRecDepth 100000
set_option maxHeartbeats 4000000
namespace L2.U
open PySem PySem.Spec PyProof.Rows Evl
open Sem (wp)
open AutoSeq1 (wpAny_loadPart')
/-! ### enumerate(tuple), and enumerate of a list or a tuple -/
theorem meets_enumT (l : Addr) (items : Array Value) (n : Nat) (dct : Option Addr) (sl : Array (Option Value)) :
    Meets (Builtin.«enumerate.__new__» ⟨[.type "enumerate", .ref l], []⟩) (fun _ R s => s.heap.get? l = some { cls := .type "tuple", dict := dct, data := .seq items n, slots := sl } ∧
      R (.ok (.ret (.ref (s.heap.push { cls := .type "tuple_iterator", data := .fields #[.ref l, .int 0 0] }).objs.size)))
        { s with heap := (s.heap.push { cls := .type "tuple_iterator", data := .fields #[.ref l, .int 0 0] }).push { cls := .type "enumerate", data := .fields #[.none, .bool false, .ref s.heap.objs.size, rawInt 0, .none, .none] } }) :=
  .of_wp fun prog w A R s h => by
    obtain ⟨hp, g, d, tk, os⟩ := s
    obtain ⟨hl, h⟩ := h
    have hsub := sub_enumerate
    have hL : Heap.IsTuple (Shared.heap ⟨hp, g, d, tk, os⟩) l items := ⟨_, hl, rfl, n, rfl⟩
    wp_walk using wpAny_loadPart' hl
    refine wpAny_stack_any fun st => wpAny_pure ?_
    split
    · rename_i c _ _ _ _ _
      cases (c == Value.type "enumerate")
      · wp_walk using wpAny_loadPart' hl, wpAny_pyIter_tuple hL
        exact ⟨_, rfl, h⟩
      · wp_walk using wpAny_loadPart' hl, wpAny_pyIter_tuple hL
        exact ⟨_, rfl, h⟩
    · wp_walk using wpAny_loadPart' hl, wpAny_pyIter_tuple hL
      exact ⟨_, rfl, h⟩
theorem call_enumT {prog : Program} {w : World} {A : Around} {E : Value → Shared → Prop} {s : Shared} {l : Addr} {items : Array Value} {Q : Value → Shared → Prop} (hL : s.heap.IsTuple l items)
    (h : ∀ h', IsEnum h' (s.heap.objs.size + 1) s.heap.objs.size 0 .none → h'.IsTupleIter s.heap.objs.size l 0 → h'.objs.size = s.heap.objs.size + 2 →
      (∀ b o, s.heap.get? b = some o → h'.get? b = some o) → Q (.ref (s.heap.objs.size + 1)) { s with heap := h' }) :
    wpAny (model prog w) A (call (.type "enumerate") [.ref l]) Q E s := by
  obtain ⟨⟨c, dct, dt, sl⟩, hl, hc, n, hd⟩ := hL
  replace hc : c = .type "tuple" := hc
  replace hd : dt = .seq items n := hd
  subst hc hd
  refine callType_new F.called_enumerate (by decide) (F.typeCall_enumerate_1 _) (F.newCall_enumerate_1 _) (fun obj => F.args_object_init_2 obj _) F.entry_enumerate_new
    (meets_enumT l items n dct sl) ⟨hl, ?_⟩
  have hz : (s.heap.push { cls := .type "tuple_iterator", data := .fields #[.ref l, .int 0 0] }).objs.size = s.heap.objs.size + 1 := Heap.size_push ..
  show _ ∧ _
  rw [hz]
  have he : IsEnum ((s.heap.push { cls := .type "tuple_iterator", data := .fields #[.ref l, .int 0 0] }).push
      { cls := .type "enumerate", data := .fields #[.none, .bool false, .ref s.heap.objs.size, rawInt 0, .none, .none] }) (s.heap.objs.size + 1) s.heap.objs.size 0 .none := by
    have := Heap.get?_push_size (s.heap.push { cls := .type "tuple_iterator", data := .fields #[.ref l, .int 0 0] })
      (o := { cls := .type "enumerate", data := .fields #[.none, .bool false, .ref s.heap.objs.size, rawInt 0, .none, .none] }) rfl
    rw [hz] at this
    exact this
  refine ⟨⟨_, he, rfl⟩, h _ he ⟨_, Heap.get?_push_of_some _ (Heap.get?_push_size _ rfl), rfl, rfl⟩ (by rw [Heap.size_push, hz]) fun b o x => Heap.get?_push_of_some _ (Heap.get?_push_of_some _ x)⟩
def IteT (K : PySem.W.Frag) (a : Addr) : It :=
  ⟨fun i H => ∃ (xs : List V) (x : V), SqT K H a xs ∧ xs[i]? = some x, fun i H v H' => ∃ T x, v = .ref T ∧ H T = none ∧ H' = upd H T (.tup [.int (i : Nat), x]) ∧ ∀ xs, SqT K H a xs → xs[i]? = some x, fun i H => ∃ xs : List V, SqT K H a xs ∧ xs.length ≤ i⟩
theorem turn_enumT {P : Program} {w : World} {K : PySem.W.Frag} {elts : List Expr} {kk : Nat} {tpos : Pos} (a e it : Addr) (hai : a ≠ it) (hae : a ≠ e) :
    Turn P w K (.Tuple elts kk tpos) (IteT K a) [e, it] e (fun i h => (∃ old, IsEnum h e it ((i : Nat) : Int) old) ∧ h.IsTupleIter it a i ∧ e ≠ it) where
  mem := by simp
  obj := fun i h st b hb => by
    obtain ⟨⟨old, he⟩, ⟨o, ho, hc, hd⟩, _⟩ := st
    have e' : b = e ∨ b = it := by simpa using hb
    rcases e' with z | z
    · rw [z]; exact ⟨_, he, fun v q => nomatch q⟩
    · rw [z]; exact ⟨o, ho, fun v q => by rw [hd] at q; cases q⟩
  keep := fun i h h' st k => let ⟨⟨old, he⟩, hi, hne⟩ := st; ⟨⟨old, k e (by simp) _ he⟩, hi.at fun o q => k it (by simp) o q, hne⟩
  item := by
    intro X hP hw hK hc i pins s σ H E I hf st hg
    subst hP hw hK
    obtain ⟨⟨old, he⟩, hit, hne⟩ := st
    obtain ⟨xs, x, hq, hx⟩ := hg
    obtain ⟨its, rv, p, hz⟩ := I.tuple hq
    have p' : s.heap.IsTuple a its.toArray := p
    obtain ⟨u, hu, ru⟩ := rv.get hx
    have hel : e < s.heap.objs.size := Heap.lt_size he
    have hil : it < s.heap.objs.size := by obtain ⟨_, q, _⟩ := hit; exact Heap.lt_size q
    have hlt : i < its.toArray.size := by simpa using (List.getElem?_eq_some_iff.mp hu).1
    refine wpAny_pyNext_enum_itemD (Draws.tuple (prog := X.prog) (w := X.w) (A := X.A.in1) (I.ok.hd hc) it a hai its.toArray) he ⟨hit, p'⟩ hlt hne (by simp [hne, Ne.symm hae]) fun v h' tk hv ho hst hT hsz hk => ?_
    obtain ⟨hit', p2⟩ := hst
    have hvu : v = u := by
      have h2 : its.toArray[i]? = some u := by simpa using hu
      rw [h2] at hv
      exact (Option.some.inj hv).symm
    subst hvu
    refine ⟨_, rfl, wpAny_letOwnedTupleGo_enum (s := { s with heap := h', toks := tk + 1 }) ho fun h'' he' sb => ?_⟩
    have hT2 : h''.get? s.heap.objs.size = some { cls := .type "tuple", data := .seq #[.int i tk, v] } := (sb.2 _ (Nat.ne_of_gt hel)).trans hT
    have new : ObjOk X.prog X.w (upd H s.heap.objs.size (.tup [.int (i : Nat), x])) h'' s.heap.objs.size (.tup [.int (i : Nat), x]) :=
      ⟨by show 2 ≤ sizeLine; decide, [.int i tk, v], .cons ⟨_, rfl⟩ (.cons ru .nil), ⟨_, hT2, rfl, _, rfl⟩⟩
    have I1 : Inv X pins σ (upd H s.heap.objs.size (.tup [.int (i : Nat), x])) { s with heap := h'', toks := tk + 1 } :=
      I.turnedNew (ch := [e, it]) (fun b ob hb q => (sb.2 b (fun z => hb (by simp [z]))).trans (hk b ob (fun z => hb (by simp [z])) (fun z => hb (by simp [z])) q)) hf (Nat.le_refl _) new
    refine ⟨.ref s.heap.objs.size, _, I1, rfl, ⟨_, x, rfl, I.hok.fresh (Nat.le_refl _), rfl, fun ys hy => by rw [I.tuple_inj hy hq]; exact hx⟩, ⟨⟨v, ?_⟩, hit'.at fun o q => (sb.2 it (Ne.symm hne)).trans q, hne⟩, fun b hb => ?_⟩
    · have e1 : ((i + 1 : Nat) : Int) = (i : Int) + 1 := by omega
      rw [e1]; exact he'
    · have hb' : b < s.heap.objs.size := by
        have e' : b = e ∨ b = it := by simpa using hb
        rcases e' with z | z
        · rw [z]; exact hel
        · rw [z]; exact hil
      rw [upd_ne (Nat.ne_of_lt hb')]
      exact (hf b hb).1
  done := by
    intro X hP hw hK hc i pins s σ H E I hf st hg
    subst hP hw hK
    obtain ⟨⟨old, he⟩, hit, hne⟩ := st
    obtain ⟨xs, hq, hx⟩ := hg
    obtain ⟨its, rv, p, hz⟩ := I.tuple hq
    have p' : s.heap.IsTuple a its.toArray := p
    obtain ⟨f0, f1, f2, f3, f4, f5⟩ := hf it (by simp)
    have hl := rv.length
    have full : Draws X.prog X.w X.A.in1 it [it, a] i (fun _ _ => True) (fun j h => j = i ∧ h.IsTupleIter it a j ∧ h.IsTuple a its.toArray) :=
      { live := fun j h st => let ⟨_, ⟨o, ho, _⟩, _⟩ := st; ⟨o, ho⟩
        frame := fun j h h' st hk => ⟨st.1, st.2.1.at fun o e => hk it (by simp) o e, by
          obtain ⟨o, ho, r⟩ := st.2.2
          exact ⟨o, hk a (by simp) o ho, r⟩⟩
        item := fun j s Q E hj st hQ => absurd st.1 (Nat.ne_of_lt hj)
        done := fun s Q E st hE => wpAny_nextOf_tuple_end (show X.A.in1.handled = none from I.ok.hd hc) st.2.1 st.2.2 (by simp; omega) hE }
    exact wpAny_pyNext_enum_endD full he ⟨rfl, hit, p'⟩ fun h' eb => ⟨rfl, I.turned (t' := s.toks) (fun b o hb q => eb b o hb q) f0 f1 f3 f4 f5⟩
  self := fun A i s Q E st h => let ⟨⟨_, he⟩, _⟩ := st; wpAny_pyIter_enum he h
def iEnumT (K : PySem.W.Frag) (ta : TA) : TI := fun σ H R => ta σ H fun vs H1 => ∃ a xs, vs = [.ref a] ∧ SqT K H1 a xs ∧ R (IteT K a) H1
theorem pi_enumT {X : Cx} {e : Expr} {ta : TA} {p pos tpos : Pos} {elts : List Expr} {kk : Nat} (hg : Gl X "enumerate") (hm : X.mg "enumerate" = none) (ha : PA X [e] ta) (hs : starEach [e] X.env = [(false, eval e X.env)] := by rfl) :
    PI X (.Tuple elts kk tpos) (.Call (.Name "enumerate" p) [e] [] pos) (iEnumT X.K ta) := by
  refine ⟨fun pins s σ H R I h => ?_⟩
  refine Call_ (ld_blt I hg hm boot_enumerate (PyProof.Rows.callWith_type1 (thn (ha.run pos pins s σ H _ I h) fun us s1 ⟨vs, H1, I1, r1, q1⟩ => ?_) hs rfl))
  obtain ⟨a, xs, ex, hq, q⟩ := q1
  subst ex
  cases r1 with
  | cons r rr =>
    cases rr
    cases r
    obtain ⟨its, rv, p', hz⟩ := I1.tuple hq
    have p2 : s1.heap.IsTuple a its.toArray := p'
    have hal : a < s1.heap.objs.size := by obtain ⟨_, q, _⟩ := p2; exact Heap.lt_size q
    refine call_enumT p2 fun h' he hit hsz hk => wpAny_pyIter_enum he ?_
    have I2 : Inv X pins σ H1 { s1 with heap := h' } := I1.kept (t' := s1.toks) hk
    refine ⟨s1.heap.objs.size + 1, [s1.heap.objs.size + 1, s1.heap.objs.size], _, _, H1, rfl, I2, turn_enumT a (s1.heap.objs.size + 1) s1.heap.objs.size (Nat.ne_of_lt hal) (Nat.ne_of_lt (Nat.lt_succ_of_lt hal)), ⟨⟨.none, he⟩, hit, Nat.succ_ne_self _⟩, fun b hb => ?_, q⟩
    have e' : b = s1.heap.objs.size + 1 ∨ b = s1.heap.objs.size := by simpa using hb
    have hle : s1.heap.objs.size ≤ b := by
      rcases e' with z | z
      · rw [z]; exact Nat.le_add_right _ _
      · rw [z]; exact Nat.le_refl _
    exact I1.fpOk hle (I1.hok.fresh hle)
def iEnumS (K : PySem.W.Frag) (ta : TA) : TI := fun σ H R => iEnum K ta σ H R ∨ iEnumT K ta σ H R
theorem pi_enumS {X : Cx} {e : Expr} {ta : TA} {p pos tpos : Pos} {elts : List Expr} {kk : Nat} (hg : Gl X "enumerate") (hm : X.mg "enumerate" = none) (ha : PA X [e] ta) (hs : starEach [e] X.env = [(false, eval e X.env)] := by rfl) :
    PI X (.Tuple elts kk tpos) (.Call (.Name "enumerate" p) [e] [] pos) (iEnumS X.K ta) := by
  refine ⟨fun pins s σ H R I h => ?_⟩
  rcases h with h | h
  · exact (pi_enum hg hm ha hs).run pins s σ H R I h
  · exact (pi_enumT hg hm ha hs).run pins s σ H R I h
section
variable {K : PySem.W.Frag} {a : Addr} {xs : List V}
theorem walk_enumT : Walk (IteT K a) xs.length (fun H => SqT K H a xs) (YPair (fun i => some (.int (i : Nat))) (fun i => xs[i]?)) := by
  refine ⟨fun i _ hi q => ⟨xs, xs[i], q, by simp [hi]⟩, fun _ q => ⟨xs, q, Nat.le_refl _⟩, fun i H v H' _ q y => ?_⟩
  obtain ⟨T, x, h1, h2, h3, h4⟩ := y
  exact ⟨T, .int (i : Nat), x, h1, h2, h3, rfl, h4 xs q⟩
/-- for i, x in enumerate(xs) with two names as the target: the pair is a new tuple that nobody keeps -/
theorem for_enum {tb : TS} {D : Ends} {σ : L2.St} {H : Hp} {p q : Nat} {ta : TA} (ea : ∀ R : List V → Hp → Prop, R [.ref a] H → ta σ H R) (hx : SqL K H a xs ∨ SqT K H a xs) (Pv : Nat → L2.St → Hp → Prop) (h0 : Pv 0 σ H)
    (hG : ∀ i σ H', i ≤ xs.length → Pv i σ H' → Ex H H')
    (hs : ∀ i x σ H' T, xs[i]? = some x → Pv i σ H' → H' T = none → tb { D with nx := Pv (i + 1), ct := Pv (i + 1), bk := D.nx } ((σ.set p (some (.int (i : Int)))).set q (some x)) (upd H' T (.tup [.int (i : Int), x]))) (hd : ∀ σ H, Pv xs.length σ H → D.nx σ H) :
    tFor (iEnumS K ta) (gTup K 2 (gCons (gName p) (gCons (gName q) gNil))) tb D σ H := by
  have turn : ∀ i v σ' H1 H2, i < xs.length → Pv i σ' H1 → YPair (fun i => some (V.int (i : Nat))) (fun i => xs[i]?) i H1 v H2 → gTup K 2 (gCons (gName p) (gCons (gName q) gNil)) v σ' H2 fun σ2 H3 => tb { D with nx := Pv (i + 1), ct := Pv (i + 1), bk := D.nx } σ2 H3 := by
    rintro i v σ' H1 H2 hi pv ⟨T, u, x, rfl, hT, rfl, h1, h2⟩
    cases Option.some.inj h1
    exact ⟨T, _, rfl, SqT.of upd_same, rfl, _, _, rfl, _, _, rfl, rfl, hs i x σ' H1 T h2 pv hT⟩
  rcases hx with hx | hx
  · exact .inl (ea _ ⟨a, xs, rfl, hx, for_it walk_enum Pv h0 (fun i σ' H' hi pv => ex_l (hG i σ' H' hi pv) hx) turn hd⟩)
  · exact .inr (ea _ ⟨a, xs, rfl, hx, for_it walk_enumT Pv h0 (fun i σ' H' hi pv => ex_t (hG i σ' H' hi pv) hx) turn hd⟩)
end
end L2.U


set_option Elab.async false
set_option linter.all false
set_option maxRecDepth 100000
set_option maxHeartbeats 4000000
namespace L2.U
open PySem PySem.Spec PyProof.Rows Evl
/-! ### min of a list or a tuple of ints -/
section
variable {prog : Program} {w : World} {A : Around} {E : Value → Shared → Prop} {s : Shared} {l : Addr} {xs : Array (Int × Tok)}
theorem iter_intTup {Q : Value → Shared → Prop} (hl : s.heap.IsTuple l (intItems xs))
    (h : ∀ s₂ : Shared, s₂ = { s with heap := s.heap.push { cls := .type "tuple_iterator", data := .fields #[.ref l, .int 0 0] } } →
      (s₂.heap.IsTupleIter s.heap.objs.size l 0 ∧ s₂.heap.IsTuple l (intItems xs)) → (∀ b ∈ [s.heap.objs.size, l], b < s₂.heap.objs.size) → l ≠ s.heap.objs.size → Q (.ref s.heap.objs.size) s₂) :
    wpAny (model prog w) A (pyIter (.ref l)) Q E s := by
  have hlt : l < s.heap.objs.size := by obtain ⟨_, e, _⟩ := hl; exact Heap.lt_size e
  refine wpAny_pyIter_tuple hl (h _ rfl ⟨⟨_, Heap.get?_push_size _ rfl, rfl, rfl⟩, hl.push _⟩ (fun b hb => ?_) (Nat.ne_of_lt hlt))
  show b < (s.heap.push _).objs.size
  rw [Heap.size_push]
  rcases List.mem_cons.mp hb with rfl | hb
  · exact Nat.lt_succ_self _
  · rcases List.mem_cons.mp hb with rfl | hb
    · exact Nat.lt_succ_of_lt hlt
    · cases hb
theorem old_keptT {h' : Heap} (hk : ∀ b o, b ∉ [s.heap.objs.size] → (s.heap.push { cls := .type "tuple_iterator", data := .fields #[.ref l, .int 0 0] }).get? b = some o → h'.get? b = some o) :
    ∀ b o, s.heap.get? b = some o → h'.get? b = some o := fun b o e => by
  refine hk b o (fun hm => ?_) (Heap.get?_push_of_some _ e)
  rcases List.mem_cons.mp hm with e1 | hm
  · exact absurd (e1 ▸ Heap.lt_size e) (Nat.lt_irrefl _)
  · cases hm
theorem min_intTup {Q : Value → Shared → Prop} (hh : A.handled = none) (hl : s.heap.IsTuple l (intItems xs)) (hne : 0 < xs.size)
    (h : ∀ v h' tk, (intItems xs)[argBest (fun i j => decide (numAt xs i < numAt xs j)) (xs.size - 1)]? = some v → (∀ b o, s.heap.get? b = some o → h'.get? b = some o) → Q v { s with heap := h', toks := tk }) :
    wpAny (model prog w) A (call (.builtin "min") [.ref l]) Q E s := by
  refine call_min_walk (iter_intTup hl fun s₂ e st hfp hlI => ?_)
  subst e
  refine ⟨_, _, _, _, _, _, _, rfl, Walks.tuple (A := A.in1) hh _ l hlI (intItems xs), st, hfp, by simpa [intItems] using hne, CmpOf.ints_lt (numAt xs) (fun _ _ => intItems_at), fun v h' tk hP hk => ?_⟩
  exact h v h' tk (by simpa [intItems] using hP) (old_keptT hk)
theorem min_rawT {its : List Value} {ns : List Int} {Q : Value → Shared → Prop} (hh : A.handled = none) (hl : s.heap.IsTuple l its.toArray) (hi : IntsAre its ns) (hne : 0 < ns.length)
    (h : ∀ h' tk M t', (∀ b o, s.heap.get? b = some o → h'.get? b = some o) → M ∈ ns → (∀ a, a ∈ ns → M ≤ a) → Q (.int M t') { s with heap := h', toks := tk }) : wpAny (model prog w) A (call (.builtin "min") [.ref l]) Q E s := by
  obtain ⟨xs, e⟩ := hi.allInts.items
  have hn : numsOf (intItems xs).toList = ns := by rw [← e]; exact hi.numsOf
  rw [nums_intItems] at hn
  subst hn
  rw [e] at hl
  have hsz : 0 < xs.size := by simpa using hne
  refine min_intTup hh hl hsz fun v h' tk hv hk => ?_
  obtain ⟨t, rfl⟩ := intItems_at hv
  obtain ⟨h1, h2⟩ := argBest_lt (numAt xs) (xs.size - 1)
  refine h h' tk _ t hk ?_ fun a ha => ?_
  · rw [numAt_eq]; exact PySem.getD_mem (by rw [List.length_map, Array.length_toList]; omega)
  · obtain ⟨j, hj, rfl⟩ := mem_getD ha
    rw [List.length_map, Array.length_toList] at hj
    rw [← numAt_eq]; exact h2 j (by omega)
end
section
variable {X : Cx}
def rMinS (K : PySem.W.Frag) : List V → Hp → VK → Prop := fun vs H Q => ∃ (a : Addr) (ns : List Int), vs = [V.ref a] ∧ (SqL K H a (ns.map V.int) ∨ SqT K H a (ns.map V.int)) ∧ 0 < ns.length ∧ ∀ m, m ∈ ns → (∀ y, y ∈ ns → m ≤ y) → Q (.int m) H
theorem cr_minS (hc : X.calm = true) : CallR X (.builtin "min") (rMinS X.K) := by
  intro pins s σ H vs us Q I r h
  obtain ⟨a, ns, e, hs | hs, hne, q⟩ := h
  · exact cr_min hc pins s σ H vs us Q I r ⟨a, ns, e, hs, hne, q⟩
  · subst e
    obtain ⟨its, rv, hl, _⟩ := I.tuple hs
    rw [Vals.ref1 r]
    exact min_rawT (I.ok.hd hc) (show s.heap.IsTuple a its.toArray from hl) rv.ints hne fun h' tk m t' hk h1 h2 => ⟨.int _, H, I.kept hk, ⟨_, rfl⟩, q m h1 h2⟩
theorem kminS (K : PySem.W.Frag) (hc : X.calm = true) (h : X.K = K := by rfl) : CallR X (.builtin "min") (rMinS K) := by subst h; exact cr_minS hc
end
end L2.U


set_option Elab.async false
set_option linter.all false
set_option maxRecDepth 100000
set_option maxHeartbeats 4000000
namespace HT
open PySem PySem.Spec PyProof.Rows
variable {prog : Program} {w : World} {A : Around} {E : Value → Shared → Prop} {s : Shared}
theorem adjust_rev (n : Nat) : Builtin.Slice.sliceAdjust none none (-1) (n : Int) = ((n : Int) - 1, -1) := by
  unfold Builtin.Slice.sliceAdjust
  simp
theorem places_rev (n : Nat) : Builtin.Slice.slicePlaces ((n : Int) - 1) (-1) (-1) = n := by
  unfold Builtin.Slice.slicePlaces
  have h1 : ¬ ((-1 : Int) > 0) := by omega
  simp only [h1, if_false]
  rw [show (- (-1 : Int)) = 1 from rfl]
  simp only [Int.ediv_one]
  split <;> omega
theorem fm_congr {α β : Type} {f g : α → Option β} : ∀ (l : List α), (∀ a ∈ l, f a = g a) → l.filterMap f = l.filterMap g
  | [], _ => rfl
  | a :: r, h => by
    rw [List.filterMap_cons, List.filterMap_cons, h a (by simp), fm_congr r fun b hb => h b (List.mem_cons_of_mem _ hb)]
theorem pick_rev (xs : Array Value) : ((List.range xs.size).filterMap fun (m : Nat) => xs[(((xs.size : Nat) : Int) - 1 + (m : Int) * (-1)).toNat]?).toArray = xs.toList.reverse.toArray := by
  congr 1
  apply List.ext_getElem?
  intro i
  have e : (List.range xs.size).filterMap (fun (m : Nat) => xs[(((xs.size : Nat) : Int) - 1 + (m : Int) * (-1)).toNat]?) = (List.range xs.size).filterMap (fun m => xs.toList.reverse[m]?) := by
    apply fm_congr
    intro m hm
    have hm' := List.mem_range.mp hm
    rw [List.getElem?_reverse (by rw [Array.length_toList]; exact hm'), Array.length_toList, Array.getElem?_toList]
    congr 1
    omega
  rw [e]
  have all : (List.range xs.toList.reverse.length).filterMap (fun m => xs.toList.reverse[m]?) = xs.toList.reverse := by
    generalize xs.toList.reverse = l
    induction l with
    | nil => rfl
    | cons a r ih =>
      rw [List.length_cons, List.range_succ_eq_map, List.filterMap_cons]
      show a :: _ = _
      rw [List.filterMap_map]
      exact congrArg (a :: ·) ih
  rw [List.length_reverse, Array.length_toList] at all
  rw [all]
theorem sliceApplied_rev {sl : Addr} {vs : Value} {n : Nat} {Q : Int × Int × Nat → Shared → Prop} (hs : s.heap.IsSliceOf sl .none .none vs) (ps : IsPart vs (some (-1)))
    (h : Q ((n : Int) - 1, -1, n) s) : wpAny (model prog w) A (Builtin.Slice.sliceApplied (.ref sl) (pure (n : Int))) Q E s := by
  obtain ⟨os, hos, hcs, hds⟩ := id hs
  unfold Builtin.Slice.sliceApplied Builtin.Slice.sliceFields
  refine wpAny_bind (wpAny_bind (wpAny_field hos hds (x := .none) rfl (wpAny_bind (wpAny_field hos hds (x := .none) rfl (wpAny_bind (wpAny_field hos hds (x := vs) rfl (wpAny_pure ?_)))))))
  refine wpAny_bind (slicePart_ ps ?_)
  show wpAny _ _ (if ((-1 : Int) == 0) = true then _ else _) _ _ s
  rw [if_neg (by decide)]
  refine wpAny_bind (slicePart_none (wpAny_bind (slicePart_none (wpAny_bind (wpAny_pure ?_)))))
  show wpAny _ _ (match Builtin.Slice.sliceAdjust none none (-1) (n : Int) with | (lo, hi) => pure (lo, (-1 : Int), Builtin.Slice.slicePlaces lo hi (-1))) _ _ s
  rw [adjust_rev]
  show wpAny _ _ (pure ((n : Int) - 1, (-1 : Int), Builtin.Slice.slicePlaces ((n : Int) - 1) (-1) (-1))) _ _ s
  rw [places_rev]
  exact wpAny_pure h
theorem getItem_tuple_rev {t sl : Addr} {items : Array Value} {vs : Value} {Q : Value → Shared → Prop} (ht : IsTup s.heap t items) (hs : s.heap.IsSliceOf sl .none .none vs) (ps : IsPart vs (some (-1)))
    (h : Q (.ref s.heap.objs.size) { s with heap := s.heap.push { cls := .type "tuple", data := .seq items.toList.reverse.toArray } })
    (hsz : items.size ≤ sizeLine) : wpAny (model prog w) A (getItem (.ref t) (.ref sl)) Q E s := by
  have htake : sizeOk (.seq items.toList.reverse.toArray) := by
    show items.toList.reverse.toArray.size ≤ sizeLine
    rw [List.size_toArray, List.length_reverse, Array.length_toList]
    exact hsz
  obtain ⟨os, hos, hcs, hds⟩ := id hs
  have hTs : s.TypeIs (.ref sl) "slice" := ⟨os, hos, hcs⟩
  unfold getItem
  try with_reducible refine wpAny_holding ?_
  first | refine wpAny_bind (wpAny_pure ?_) | skip
  refine wpAny_bind (wpAny_sequenceKey ht.typeIs (by decide) ?_)
  refine wpAny_bind (wpAny_callSpecial?_slot (name := Str.ofString "__getitem__") ht.typeIs PyProof.Rows.slot_tuple_getitem
    (wpAny_call_entry PyProof.Rows.slot_tuple_getitem ht.typeIs entry_tuple_getitem ?_ (args_tuple_getitem _ _)))
  show wpAny _ _ (Builtin.Tuple.tupleItemsOf (.ref t) >>= _) _ _ s
  refine wpAny_bind (tupleItemsOf_ ht ?_)
  refine wpAny_bind (wpAny_typeOf hTs ?_)
  rw [if_pos (by decide)]
  refine wpAny_bind (sliceApplied_rev hs ps ?_)
  have hno : ¬ ((((items.size : Nat) : Int) - 1 == 0 && (-1 : Int) == 1 && items.size == items.size) = true) := by
    intro q
    rw [Bool.and_eq_true, Bool.and_eq_true] at q
    exact absurd q.1.2 (by decide)
  show wpAny _ _ (if (((items.size : Nat) : Int) - 1 == 0 && (-1 : Int) == 1 && items.size == items.size) = true then _ else _) _ _ s
  rw [if_neg hno, pick_rev]
  first
    | exact wpAny_bind (m := Builtin.Tuple.tupleExact _) (wpAny_newObj_type (wpAny_pure ⟨_, rfl, wpAny_pure h⟩) htake)
    | exact wpAny_bind (m := Builtin.Tuple.tupleExact _) (wpAny_newObj_type (wpAny_bind (wpAny_pure (wpAny_pure ⟨_, rfl, wpAny_pure h⟩))) htake)
    | exact wpAny_bind (wpAny_bind (m := Builtin.Tuple.tupleExact _) (wpAny_newObj_type (wpAny_pure (wpAny_pure ⟨_, rfl, wpAny_pure h⟩)) htake))
    | exact wpAny_bind (wpAny_bind (m := Builtin.Tuple.tupleExact _) (wpAny_newObj_type (wpAny_pure ⟨_, rfl, wpAny_pure h⟩) htake))
end HT
namespace L2
open PySem PySem.Spec PyProof.Rows
section
variable {X : Cx}
/-- xs[::-1], of a list or a tuple -/
def tRevS (K : PySem.W.Frag) (te : TE) : TE := fun σ H Q => te σ H fun x H1 => ∃ a xs, x = .ref a ∧ ((SqL K H1 a xs ∧ ∀ p, H1 p = none → Q (.ref p) (upd H1 p (.lst xs.reverse))) ∨ (SqT K H1 a xs ∧ ∀ p, H1 p = none → Q (.ref p) (upd H1 p (.tup xs.reverse))))
theorem pe_revS {e : Expr} {te : TE} {k : Nat} {p1 p2 p3 pos : Pos} (he : PE X e te) : PE X (.Subscript e (.Slice none none (some (.UnaryOp .USub (.Constant (.int 1) k p1) p2)) p3) pos) (tRevS X.K te) := by
  refine ⟨fun pins s σ H Q I h => ?_⟩
  refine Subscript_ (thn (he.run pins s σ H _ I h) fun v s1 ⟨x, H1, I1, r1, q1⟩ => ?_)
  obtain ⟨a, xs, ex, hx⟩ := q1
  subst ex
  cases r1
  have hst : PO X (some (.UnaryOp .USub (.Constant (.int 1) k p1) p2)) (tPart (tUn (rU fun i => .int (-i)) (tC (.int 1)))) := po_some (pe_un un_neg pe_int)
  refine wpAny_Slice (thn (po_none.run pins s1 σ H1 (fun o H2 => o = none ∧ H2 = H1) I1 ⟨rfl, rfl⟩) fun vl s2 ⟨l, H2, I2, pl, el, e2⟩ => ?_)
  subst el e2
  refine thn (po_none.run pins s2 σ H2 (fun o H3 => o = none ∧ H3 = H2) I2 ⟨rfl, rfl⟩) fun vu s3 ⟨u, H3, I3, pu, eu, e3⟩ => ?_
  subst eu e3
  refine thn (hst.run pins s3 σ H3 (fun o H4 => o = some (-1) ∧ H4 = H3) I3 ⟨1, rfl, -1, rfl, rfl, rfl⟩) fun vs s4 ⟨o, H4, I4, ps, eo, e4⟩ => ?_
  subst eo e4
  have I5 : Inv X pins σ H4 { s4 with heap := s4.heap.push { cls := .type "slice", data := .fields #[vl, vu, vs] } } := I4.kept (t' := s4.toks) fun b ob q => Heap.get?_push_of_some _ q
  show wpAny (model X.prog X.w) X.A (subscriptTail e (.Slice none none (some (.UnaryOp .USub (.Constant (.int 1) k p1) p2)) p3) (.ref a) (.ref s4.heap.objs.size)) (EP X pins σ Q) X.xe { s4 with heap := s4.heap.push { cls := .type "slice", data := .fields #[vl, vu, vs] } }
  rcases hx with ⟨hx, q⟩ | ⟨hx, q⟩
  · obtain ⟨its, r, ht, hz⟩ := I5.list hx
    have hlen := r.length
    refine tail_any (ops := [.ref a, .ref s4.heap.objs.size]) ht.isList.typeIs (PySem.slot_list_getitem.lookup) ?_ (by with_unfolding_all rfl)
    refine wpAny_getItem_list_slice ht.isList (Heap.IsSliceOf.new _ vl vu vs) pl pu ps (by decide) ?_ (by rw [List.size_toArray]; omega)
    rw [PySem.W.krv_pick]
    refine ⟨.ref _, _, I5.laid (t' := s4.toks) (o := .lst xs.reverse) (fun b ob q => Heap.get?_push_of_some _ q) (Nat.le_refl _) ?_, rfl, q _ (I5.hok.fresh (Nat.le_refl _))⟩
    exact ⟨by rw [List.length_reverse]; exact hz, _, 0, r.reverse, Heap.get?_push_size _ rfl⟩
  · obtain ⟨its, r, ht, hz⟩ := I5.tuple hx
    have hlen := r.length
    cases pl
    cases pu
    refine tail_any (ops := [.ref a, .ref s4.heap.objs.size]) ht.typeIs (PyProof.Rows.slot_tuple_getitem.lookup) ?_ (by with_unfolding_all rfl)
    refine HT.getItem_tuple_rev ht (Heap.IsSliceOf.new _ .none .none vs) ps ?_ (by rw [List.size_toArray]; omega)
    refine ⟨.ref _, _, I5.laid (t' := s4.toks) (o := .tup xs.reverse) (fun b ob q => Heap.get?_push_of_some _ q) (Nat.le_refl _) ?_, rfl, q _ (I5.hok.fresh (Nat.le_refl _))⟩
    exact ⟨by rw [List.length_reverse]; exact hz, _, r.reverse, IsTup.new _ _⟩
end
end L2


set_option Elab.async false
set_option linter.all false
set_option maxRecDepth 100000
set_option maxHeartbeats 4000000
namespace L2.U
open PySem PySem.Spec PyProof.Rows Evl
def top (i : Nat) : Stmt := PySem.Challenge.pw_upforgood_k14_whole_rows_on_letters.main.body.getD i (.Pass ⟨0, 0, 0, 0⟩)
abbrev s_is_integer : Stmt := top 2
theorem sc_is_integer : FnScope ["value"] ["value"] (defScope s_is_integer) := ⟨rfl, rfl, rfl, by decide +kernel, rfl, by decide +kernel, by decide +kernel⟩
abbrev s_is_between : Stmt := top 3
theorem sc_is_between : FnScope ["value", "low", "high"] ["value", "low", "high"] (defScope s_is_between) := ⟨rfl, rfl, rfl, by decide +kernel, rfl, by decide +kernel, by decide +kernel⟩
abbrev s_is_from : Stmt := top 4
theorem sc_is_from : FnScope ["value", "low"] ["value", "low"] (defScope s_is_from) := ⟨rfl, rfl, rfl, by decide +kernel, rfl, by decide +kernel, by decide +kernel⟩
abbrev s_is_list : Stmt := top 5
theorem sc_is_list : FnScope ["value"] ["value"] (defScope s_is_list) := ⟨rfl, rfl, rfl, by decide +kernel, rfl, by decide +kernel, by decide +kernel⟩
abbrev s_are_from : Stmt := top 7
theorem sc_are_from : FnScope ["values", "low", "value"] ["values", "low"] (defScope s_are_from) := ⟨rfl, rfl, rfl, by decide +kernel, rfl, by decide +kernel, by decide +kernel⟩
abbrev s_law_cell : Stmt := top 41
theorem sc_law_cell : FnScope ["script", "k"] ["script", "k"] (defScope s_law_cell) := ⟨rfl, rfl, rfl, by decide +kernel, rfl, by decide +kernel, by decide +kernel⟩
abbrev s_law_box : Stmt := top 42
theorem sc_law_box : FnScope ["great"] ["great"] (defScope s_law_box) := ⟨rfl, rfl, rfl, by decide +kernel, rfl, by decide +kernel, by decide +kernel⟩
abbrev s_law_take : Stmt := top 43
theorem sc_law_take : FnScope ["box", "many", "digit", "mixed"] ["box", "many"] (defScope s_law_take) := ⟨rfl, rfl, rfl, by decide +kernel, rfl, by decide +kernel, by decide +kernel⟩
abbrev s_law_same : Stmt := top 44
theorem sc_law_same : FnScope ["told", "due", "k"] ["told", "due"] (defScope s_law_same) := ⟨rfl, rfl, rfl, by decide +kernel, rfl, by decide +kernel, by decide +kernel⟩
structure TA1 (K : PySem.W.Frag) (mg : Str → Option Value) where
  is_integer : DefAt K mg "is_integer" s_is_integer ["value"]
  is_between : DefAt K mg "is_between" s_is_between ["value", "low", "high"]
  is_from : DefAt K mg "is_from" s_is_from ["value", "low"]
  is_list : DefAt K mg "is_list" s_is_list ["value"]
  are_from : DefAt K mg "are_from" s_are_from ["values", "low"]
  law_cell : DefAt K mg "_law_cell" s_law_cell ["script", "k"]
  law_box : DefAt K mg "_law_box" s_law_box ["great"]
  law_take : DefAt K mg "_law_take" s_law_take ["box", "many"]
  law_same : DefAt K mg "_law_same" s_law_same ["told", "due"]
  z_int : mg "int" = none
  z_bool : mg "bool" = none
  z_str : mg "str" = none
  z_list : mg "list" = none
  z_tuple : mg "tuple" = none
  z_len : mg "len" = none
  z_sum : mg "sum" = none
  z_abs : mg "abs" = none
  z_all : mg "all" = none
  z_range : mg "range" = none
  z_isinstance : mg "isinstance" = none
section
variable {P : Program} {w : World} {K : PySem.W.Frag} {mg : Str → Option Value} {base : Heap}
def isI : V → Bool
  | .int _ => true
  | _ => false
/-- a value of one of the kinds of data -/
def Dat (K : PySem.W.Frag) (H : Hp) (x : V) : Prop := ∃ t, t ∈ ["NoneType", "bool", "int", "str", "list", "tuple", "dict"] ∧ TyX K H x (.type t) ∧ isI x = decide (t = "int")
theorem Dat.int {H : Hp} {i : Int} : Dat K H (.int i) := ⟨"int", by decide, .base (.int i), rfl⟩
theorem Dat.ex {H H' : Hp} {x : V} (e : Ex H H') (h : Dat K H x) : Dat K H' x := by
  obtain ⟨t, ht, ty, hi⟩ := h
  refine ⟨t, ht, ?_, hi⟩
  cases ty with
  | base b =>
    refine .base ?_
    cases b with
    | non => exact .non
    | bl x => exact .bl x
    | int i => exact .int i
    | str z => exact .str z
    | flt z => exact .flt z
    | lst h => exact .lst (e _ _ h)
    | frz h => exact .frz (e _ _ h)
    | tup h => exact .tup (e _ _ h)
    | dK h => exact .dK (e _ _ h)
    | dT h => exact .dT (e _ _ h)
  | byt b => exact .byt b
  | set h => exact .set (e _ _ h)
  | kList a b => exact .kList a b
  | kTuple a b => exact .kTuple a b
  | kDict a b => exact .kDict a b
  | fTuple h => exact .fTuple (e _ _ h)
  | fDict h => exact .fDict (e _ _ h)
def spIsInteger (K : PySem.W.Frag) : Sp := fun vs H Q _ => ∃ x, vs = [x] ∧ Dat K H x ∧ Q (.bl (isI x)) H
theorem ok_is_integer (T : TA1 K mg) : FnOk P w K mg base CX0 1 T.is_integer.a T.is_integer.fd ["value"] (spIsInteger K) := by
  refine T.is_integer.F.ok sc_is_integer (fun vs H Q E h => ?_) (fun cdv A outer s H vs Q E hr h => ?_)
  · obtain ⟨x, rfl, _⟩ := h; rfl
  obtain ⟨x, rfl, ⟨t, ht, ty, hi⟩, q⟩ := h
  refine ⟨_, (pss_one (ps_ret (pe_and (pe_callB (kisi K) (by rfl) T.z_isinstance (by decide +kernel) (pa_cons (pv 0) (pa_cons (pe_bltn (v := .ty "int") rfl T.z_int (by decide +kernel) rfl) pa_nil))) (pe_one (pe_not (pe_callB (kisi K) (by rfl) T.z_isinstance (by decide +kernel) (pa_cons (pv 0) (pa_cons (pe_bltn (v := .ty "bool") rfl T.z_bool (by decide +kernel) rfl) pa_nil)))))))), ?_⟩
  simp only [List.mem_cons, List.not_mem_nil, or_false] at ht
  rcases ht with rfl | rfl | rfl | rfl | rfl | rfl | rfl
  · refine ⟨_, rfl, _, _, _, _, _, rfl, .ty "int", ty, kit_ty (r := false) (by decide +kernel), false, rfl, iteF ?_⟩
    rw [hi] at q; exact q
  · refine ⟨_, rfl, _, _, _, _, _, rfl, .ty "int", ty, kit_ty (r := true) (by decide +kernel), true, rfl, iteT ?_⟩
    refine ⟨_, rfl, _, _, _, _, _, rfl, .ty "bool", ty, kit_ty (r := true) (by decide +kernel), true, rfl, ?_⟩
    rw [hi] at q; exact q
  · refine ⟨_, rfl, _, _, _, _, _, rfl, .ty "int", ty, kit_ty (r := true) (by decide +kernel), true, rfl, iteT ?_⟩
    refine ⟨_, rfl, _, _, _, _, _, rfl, .ty "bool", ty, kit_ty (r := false) (by decide +kernel), false, rfl, ?_⟩
    rw [hi] at q; exact q
  all_goals
    refine ⟨_, rfl, _, _, _, _, _, rfl, .ty "int", ty, kit_ty (r := false) (by decide +kernel), false, rfl, iteF ?_⟩
    rw [hi] at q; exact q
def spIsFrom (K : PySem.W.Frag) : Sp := fun vs H Q _ => ∃ (x : V) (lo : Int), vs = [x, .int lo] ∧ Dat K H x ∧ ∀ b, (∀ i, x = .int i → b = decide (lo ≤ i)) → (isI x = false → b = false) → Q (.bl b) H
theorem isI_int {x : V} (h : isI x = true) : ∃ i, x = .int i := by
  cases x <;> first | exact ⟨_, rfl⟩ | cases h
theorem ok_is_from (T : TA1 K mg) : FnOk P w K mg base CX0 2 T.is_from.a T.is_from.fd ["value", "low"] (spIsFrom K) := by
  refine T.is_from.F.ok sc_is_from (fun vs H Q E h => ?_) (fun cdv A outer s H vs Q E hr h => ?_)
  · obtain ⟨x, lo, rfl, _⟩ := h; rfl
  obtain ⟨x, lo, rfl, hd, q⟩ := h
  refine ⟨_, (pss_one (ps_ret (pe_and (pe_call (ok_is_integer T) (hr.mono (by decide)) rfl T.is_integer.m T.is_integer.F.kp T.is_integer.b .nil pass0 (pa_cons (pv 0) pa_nil)) (pe_one (pe_cmpR op_le (pv 1) (pv 0) (nomark _)))))), ?_⟩
  refine ⟨_, rfl, _, rfl, hd, isI x, rfl, ?_⟩
  cases hx : isI x with
  | false => exact q false (fun i e => by rw [e] at hx; cases hx) (fun _ => rfl)
  | true =>
    obtain ⟨i, rfl⟩ := isI_int hx
    refine ⟨_, rfl, _, rfl, _, _, rfl, rfl, q _ (fun j e => by cases e; rfl) (fun e => by cases e)⟩
def spIsBetween (K : PySem.W.Frag) : Sp := fun vs H Q _ => ∃ (x : V) (lo hi : Int), vs = [x, .int lo, .int hi] ∧ Dat K H x ∧ ∀ b, (∀ i, x = .int i → b = decide (lo ≤ i ∧ i ≤ hi)) → (isI x = false → b = false) → Q (.bl b) H
theorem ok_is_between (T : TA1 K mg) : FnOk P w K mg base CX0 2 T.is_between.a T.is_between.fd ["value", "low", "high"] (spIsBetween K) := by
  refine T.is_between.F.ok sc_is_between (fun vs H Q E h => ?_) (fun cdv A outer s H vs Q E hr h => ?_)
  · obtain ⟨x, lo, hi, rfl, _⟩ := h; rfl
  obtain ⟨x, lo, hi, rfl, hd, q⟩ := h
  refine ⟨_, (pss_one (ps_ret (pe_and (pe_call (ok_is_integer T) (hr.mono (by decide)) rfl T.is_integer.m T.is_integer.F.kp T.is_integer.b .nil pass0 (pa_cons (pv 0) pa_nil)) (pe_one (pe_chain op_le op_le (pv 1) (pv 0) (pv 2)))))), ?_⟩
  refine ⟨_, rfl, _, rfl, hd, isI x, rfl, ?_⟩
  cases hx : isI x with
  | false => exact q false (fun i e => by rw [e] at hx; cases hx) (fun _ => rfl)
  | true =>
    obtain ⟨i, rfl⟩ := isI_int hx
    refine ⟨_, rfl, _, rfl, _, _, rfl, rfl, _, rfl, ite2 (fun c => ?_) (fun c => ?_)⟩
    · refine ⟨_, rfl, _, _, rfl, rfl, q _ (fun j e => ?_) (fun e => by cases e)⟩
      cases e
      have c' := of_decide_eq_true c
      simp [c']
    · refine q _ (fun j e => ?_) (fun e => by cases e)
      cases e
      have c' := of_decide_eq_false (Bool.eq_false_iff.mpr c)
      simp [c']
/-! ### data: what a value holds -/
inductive Rd (K : PySem.W.Frag) (ok : Addr → Prop) (H : Hp) : Nat → V → PyData → Prop
  | non {n} : Rd K ok H n .non .none
  | bl {n} (b : Bool) : Rd K ok H n (.bl b) (.bool b)
  | int {n} (i : Int) : Rd K ok H n (.int i) (.int i)
  | str {n} (z : Str) (h : z.length ≤ 1000) (h2 : PyData.strOk z = true) : Rd K ok H n (.str z) (.str z)
  | lst {n} {a : Addr} {xs : List V} {ds : List PyData} (h : H a = some (.lst xs)) (ha : ok a) (hl : xs.length = ds.length) (hz : xs.length ≤ 900)
      (all : ∀ (i : Nat) (x : V) (d : PyData), xs[i]? = some x → ds[i]? = some d → Rd K ok H n x d) : Rd K ok H (n + 1) (.ref a) (.list ds)
  | tup {n} {a : Addr} {xs : List V} {ds : List PyData} (h : SqT K H a xs) (ha : ok a) (hl : xs.length = ds.length) (hz : xs.length ≤ 900)
      (all : ∀ (i : Nat) (x : V) (d : PyData), xs[i]? = some x → ds[i]? = some d → Rd K ok H n x d) : Rd K ok H (n + 1) (.ref a) (.tuple ds)
def RdL (K : PySem.W.Frag) (ok : Addr → Prop) (H : Hp) (n : Nat) (xs : List V) (ds : List PyData) : Prop :=
  xs.length = ds.length ∧ ∀ (i : Nat) (x : V) (d : PyData), xs[i]? = some x → ds[i]? = some d → Rd K ok H n x d
section
variable {ok : Addr → Prop} {H H' : Hp} {n : Nat} {x y : V} {d : PyData}
theorem Rd.keep (kl : ∀ a xs, ok a → H a = some (.lst xs) → H' a = some (.lst xs)) (kt : ∀ a xs, ok a → SqT K H a xs → SqT K H' a xs) (h : Rd K ok H n x d) : Rd K ok H' n x d := by
  induction h with
  | non => exact .non
  | bl b => exact .bl b
  | int i => exact .int i
  | str z h h2 => exact .str z h h2
  | lst h1 ha hl hz _ ih => exact .lst (kl _ _ ha h1) ha hl hz ih
  | tup h1 ha hl hz _ ih => exact .tup (kt _ _ ha h1) ha hl hz ih
theorem Rd.ex (e : Ex H H') (h : Rd K ok H n x d) : Rd K ok H' n x d := h.keep (fun _ _ _ => e _ _) (fun _ _ _ => ex_t e)
theorem Rd.but {b : Addr} (k : But b H H') (hb : ∀ a, ok a → a ≠ b) (h : Rd K ok H n x d) : Rd K ok H' n x d :=
  h.keep (fun _ _ ha hs => k _ _ (hb _ ha) hs) (fun _ _ ha hs => k.sqt (hb _ ha) hs)
theorem Rd.of {ok' : Addr → Prop} (w : ∀ a, ok a → ok' a) (h : Rd K ok H n x d) : Rd K ok' H n x d := by
  induction h with
  | non => exact .non
  | bl b => exact .bl b
  | int i => exact .int i
  | str z h h2 => exact .str z h h2
  | lst h1 ha hl hz _ ih => exact .lst h1 (w _ ha) hl hz ih
  | tup h1 ha hl hz _ ih => exact .tup h1 (w _ ha) hl hz ih
theorem Rd.succ (h : Rd K ok H n x d) : Rd K ok H (n + 1) x d := by
  induction h with
  | non => exact .non
  | bl b => exact .bl b
  | int i => exact .int i
  | str z h h2 => exact .str z h h2
  | lst h1 ha hl hz _ ih => exact .lst h1 ha hl hz ih
  | tup h1 ha hl hz _ ih => exact .tup h1 ha hl hz ih
theorem Rd.le {m : Nat} (h : Rd K ok H n x d) (l : n ≤ m) : Rd K ok H m x d := by
  induction l with
  | refl => exact h
  | step _ ih => exact ih.succ
theorem RdL.ex {xs : List V} {ds : List PyData} (e : Ex H H') (h : RdL K ok H n xs ds) : RdL K ok H' n xs ds := ⟨h.1, fun i x d hx hd => (h.2 i x d hx hd).ex e⟩
theorem RdL.but {b : Addr} {xs : List V} {ds : List PyData} (k : But b H H') (hb : ∀ a, ok a → a ≠ b) (h : RdL K ok H n xs ds) : RdL K ok H' n xs ds := ⟨h.1, fun i x d hx hd => (h.2 i x d hx hd).but k hb⟩
theorem Rd.sm (h : Rd K ok H n x d) : ∀ {ok' : Addr → Prop} {y : V}, Rd K ok' H n y d → Sm K H n x y := by
  induction h with
  | non => intro ok' y h2; cases h2; exact .non
  | bl b => intro ok' y h2; cases h2; exact .bl b
  | int i => intro ok' y h2; cases h2; exact .int i
  | str z h h3 => intro ok' y h2; cases h2; exact .str z h
  | lst h1 ha hl hz all ih =>
    intro ok' y h2
    cases h2 with
    | lst h1' ha' hl' hz' all' =>
      refine .lst (SqL.of h1) (SqL.of h1') (by omega) (by omega) fun i x y hx hy => ?_
      have hi := (List.getElem?_eq_some_iff.mp hx).1
      exact ih i x _ hx (List.getElem?_eq_getElem (by omega)) (all' i y _ hy (List.getElem?_eq_getElem (by omega)))
  | tup h1 ha hl hz all ih =>
    intro ok' y h2
    cases h2 with
    | tup h1' ha' hl' hz' all' =>
      refine .tup h1 h1' (by omega) (by omega) fun i x y hx hy => ?_
      have hi := (List.getElem?_eq_some_iff.mp hx).1
      exact ih i x _ hx (List.getElem?_eq_getElem (by omega)) (all' i y _ hy (List.getElem?_eq_getElem (by omega)))
theorem dpAll_of {xs : List V} : ∀ {ds : List PyData}, xs.length = ds.length → (∀ (i : Nat) (x : V) (d : PyData), xs[i]? = some x → ds[i]? = some d → Dp K H x d) → DpAll K H xs ds := by
  induction xs with
  | nil => intro ds hl _; cases ds with
    | nil => exact .nil
    | cons d r => cases hl
  | cons x r ih => intro ds hl h; cases ds with
    | nil => cases hl
    | cons d r2 => exact .cons (h 0 x d rfl rfl) (ih (Nat.succ.inj hl) fun i x d hx hd => h (i + 1) x d hx hd)
theorem Rd.dp (h : Rd K ok H n x d) : Dp K H x d := by
  induction h with
  | non => exact .non
  | bl b => exact .bl b
  | int i => exact .int i
  | str z h h2 => exact .str z
  | lst h1 ha hl hz _ ih => exact .lst (SqL.of h1) (dpAll_of hl ih)
  | tup h1 ha hl hz _ ih => exact .tup h1 (dpAll_of hl ih)
theorem layAll_of : ∀ {ds : List PyData} {n : Nat}, (∀ d ∈ ds, d.canLay0 = true ∧ d.depth ≤ n) → PyData.canLayAll0 ds = true ∧ PyData.depthAll ds ≤ n
  | [], n, _ => by simp [PyData.canLayAll0, PyData.depthAll]
  | d :: r, n, h => by
    have h1 := h d (by simp)
    have h2 := layAll_of (ds := r) (n := n) fun z hz => h z (by simp [hz])
    simp only [PyData.canLayAll0, PyData.depthAll, h1.1, h2.1, Bool.and_self, true_and]
    omega
theorem Rd.lay (h : Rd K ok H n x d) : d.canLay0 = true ∧ d.depth ≤ n := by
  induction h with
  | non => simp [PyData.canLay0, PyData.depth]
  | bl b => simp [PyData.canLay0, PyData.depth]
  | int i => simp [PyData.canLay0, PyData.depth]
  | str z h h2 => simp [PyData.canLay0, PyData.depth, h2]
  | @lst n a xs ds h1 ha hl hz all ih =>
    have := layAll_of (ds := ds) (n := n) fun d hd => by
      obtain ⟨i, hi⟩ := List.mem_iff_getElem?.mp hd
      have hlt := (List.getElem?_eq_some_iff.mp hi).1
      exact ih i _ d (List.getElem?_eq_getElem (by omega)) hi
    simp only [PyData.canLay0, PyData.depth, this.1, true_and]
    omega
  | @tup n a xs ds h1 ha hl hz all ih =>
    have := layAll_of (ds := ds) (n := n) fun d hd => by
      obtain ⟨i, hi⟩ := List.mem_iff_getElem?.mp hd
      have hlt := (List.getElem?_eq_some_iff.mp hi).1
      exact ih i _ d (List.getElem?_eq_getElem (by omega)) hi
    simp only [PyData.canLay0, PyData.depth, this.1, true_and]
    omega
theorem Rd.shaped (h : Rd K ok H n x d) (hn : n ≤ 64) : SeqAt.shaped d = true := by
  have := h.lay
  unfold SeqAt.shaped
  rw [this.1, decide_eq_true (by omega)]
  rfl
theorem Rd.dat (h : Rd K ok H n x d) : Dat K H x := by
  cases h with
  | non => exact ⟨"NoneType", by decide, .base .non, rfl⟩
  | bl b => exact ⟨"bool", by decide, .base (.bl b), rfl⟩
  | int i => exact .int
  | str z h h2 => exact ⟨"str", by decide, .base (.str z), rfl⟩
  | lst h1 => exact ⟨"list", by decide, tyL (SqL.of h1), rfl⟩
  | tup h1 => exact ⟨"tuple", by decide, tyT h1, rfl⟩
end
def fromD (lo : Int) : PyData → Bool
  | .int i => decide (lo ≤ i)
  | _ => false
def betwD (lo hi : Int) : PyData → Bool
  | .int i => decide (lo ≤ i ∧ i ≤ hi)
  | _ => false
def isSeq : PyData → Bool
  | .list _ => true
  | .tuple _ => true
  | _ => false
theorem rd_from {ok : Addr → Prop} {H : Hp} {n : Nat} {x : V} {d : PyData} {lo : Int} {b : Bool} (h : Rd K ok H n x d) (h1 : ∀ i, x = .int i → b = decide (lo ≤ i)) (h2 : isI x = false → b = false) : b = fromD lo d := by
  cases h <;> first | exact h1 _ rfl | exact h2 rfl
theorem rd_betw {ok : Addr → Prop} {H : Hp} {n : Nat} {x : V} {d : PyData} {lo hi : Int} {b : Bool} (h : Rd K ok H n x d) (h1 : ∀ i, x = .int i → b = decide (lo ≤ i ∧ i ≤ hi)) (h2 : isI x = false → b = false) : b = betwD lo hi d := by
  cases h <;> first | exact h1 _ rfl | exact h2 rfl
/-- data, or an empty dict -/
def RdA (K : PySem.W.Frag) (ok : Addr → Prop) (H : Hp) (n : Nat) (x : V) (d : PyData) : Prop := Rd K ok H n x d ∨ ∃ a, x = .ref a ∧ d = .dict [] ∧ ok a ∧ H a = some (.dK [])
section
variable {ok : Addr → Prop} {H H' : Hp} {n : Nat} {x : V} {d : PyData}
theorem RdA.rd (h : RdA K ok H n x d) (s : isSeq d = true) : Rd K ok H n x d := by
  rcases h with h | ⟨a, rfl, rfl, _⟩
  · exact h
  · cases s
theorem RdA.ex (e : Ex H H') (h : RdA K ok H n x d) : RdA K ok H' n x d := by
  rcases h with h | ⟨a, h1, h2, h3, h4⟩
  · exact .inl (h.ex e)
  · exact .inr ⟨a, h1, h2, h3, e _ _ h4⟩
theorem RdA.but {b : Addr} (k : But b H H') (hb : ∀ a, ok a → a ≠ b) (h : RdA K ok H n x d) : RdA K ok H' n x d := by
  rcases h with h | ⟨a, h1, h2, h3, h4⟩
  · exact .inl (h.but k hb)
  · exact .inr ⟨a, h1, h2, h3, k _ _ (hb a h3) h4⟩
theorem RdA.of {ok' : Addr → Prop} (w : ∀ a, ok a → ok' a) (h : RdA K ok H n x d) : RdA K ok' H n x d := by
  rcases h with h | ⟨a, h1, h2, h3, h4⟩
  · exact .inl (h.of w)
  · exact .inr ⟨a, h1, h2, w a h3, h4⟩
theorem RdA.dat (h : RdA K ok H n x d) : Dat K H x := by
  rcases h with h | ⟨a, rfl, rfl, _, h4⟩
  · exact h.dat
  · exact ⟨"dict", by decide, .base (.dK h4), rfl⟩
theorem rda_betw {lo hi : Int} {b : Bool} (h : RdA K ok H n x d) (h1 : ∀ i, x = .int i → b = decide (lo ≤ i ∧ i ≤ hi)) (h2 : isI x = false → b = false) : b = betwD lo hi d := by
  rcases h with h | ⟨a, rfl, rfl, _⟩
  · exact rd_betw h h1 h2
  · exact h2 rfl
theorem RdA.sm {ok' : Addr → Prop} {y : V} (h : RdA K ok H n x d) (h2 : RdA K ok' H n y d) : Sm K H (n + 1) x y := by
  rcases h with h | ⟨a, rfl, rfl, _, h4⟩
  · rcases h2 with h2 | ⟨a, rfl, rfl, _⟩
    · exact (h.sm h2).succ
    · cases h
  · rcases h2 with h2 | ⟨c, rfl, _, _, h5⟩
    · cases h2
    · exact .dct h4 h5
end
def spIsList (K : PySem.W.Frag) : Sp := fun vs H Q _ => ∃ x d n ok, vs = [x] ∧ RdA K ok H n x d ∧ ∀ H', Ex H H' → Q (.bl (isSeq d)) H'
theorem ok_is_list (T : TA1 K mg) : FnOk P w K mg base CX0 1 T.is_list.a T.is_list.fd ["value"] (spIsList K) := by
  refine T.is_list.F.ok sc_is_list (fun vs H Q E h => ?_) (fun cdv A outer s H vs Q E hr h => ?_)
  · obtain ⟨x, d, n, ok, rfl, _⟩ := h; rfl
  obtain ⟨x, d, n, ok, rfl, h, q⟩ := h
  refine ⟨_, (pss_one (ps_ret (pe_callB (kisiT K) (by rfl) T.z_isinstance (by decide +kernel) (pa_cons (pv 0) (pa_cons (pe_tup (pa_cons (pe_bltn (v := .ty "list") rfl T.z_list (by decide +kernel) rfl) (pa_cons (pe_bltn (v := .ty "tuple") rfl T.z_tuple (by decide +kernel) rfl) pa_nil))) pa_nil))))), ?_⟩
  refine ⟨_, rfl, (by show 2 ≤ sizeLine; decide), fun p hp => ?_⟩
  have q1 := q _ (Ex.new (o := .tup [.ty "list", .ty "tuple"]) hp)
  rcases h with h | ⟨a, rfl, rfl, _, hd⟩
  case inr =>
    exact ⟨_, p, [.ty "list", .ty "tuple"], _, [.type "list", .type "tuple"], false, rfl, upd_same, .cons (.ty _) (.cons (.ty _) .nil), .base (.dK ((Ex.new hp) _ _ hd)), rfl, q1⟩
  cases h with
  | non => exact ⟨_, p, [.ty "list", .ty "tuple"], _, [.type "list", .type "tuple"], false, rfl, upd_same, .cons (.ty _) (.cons (.ty _) .nil), .base .non, rfl, q1⟩
  | bl b => exact ⟨_, p, [.ty "list", .ty "tuple"], _, [.type "list", .type "tuple"], false, rfl, upd_same, .cons (.ty _) (.cons (.ty _) .nil), .base (.bl b), rfl, q1⟩
  | int i => exact ⟨_, p, [.ty "list", .ty "tuple"], _, [.type "list", .type "tuple"], false, rfl, upd_same, .cons (.ty _) (.cons (.ty _) .nil), .base (.int i), rfl, q1⟩
  | str z _ _ => exact ⟨_, p, [.ty "list", .ty "tuple"], _, [.type "list", .type "tuple"], false, rfl, upd_same, .cons (.ty _) (.cons (.ty _) .nil), .base (.str z), rfl, q1⟩
  | lst h1 => exact ⟨_, p, [.ty "list", .ty "tuple"], _, [.type "list", .type "tuple"], true, rfl, upd_same, .cons (.ty _) (.cons (.ty _) .nil), tyL (SqL.of ((Ex.new hp) _ _ h1)), rfl, q1⟩
  | tup h1 => exact ⟨_, p, [.ty "list", .ty "tuple"], _, [.type "list", .type "tuple"], true, rfl, upd_same, .cons (.ty _) (.cons (.ty _) .nil), tyT (ex_t (Ex.new hp) h1), rfl, q1⟩
theorem at_get {xs : List V} {k : Int} (h0 : 0 ≤ k) (h : k < (xs.length : Int)) : ∃ v, atI xs k = some v ∧ xs[k.toNat]? = some v := by
  have hk : k.toNat < xs.length := by omega
  refine ⟨xs[k.toNat], ?_, List.getElem?_eq_getElem hk⟩
  exact at_of (by omega) (List.getElem?_eq_getElem hk)
theorem ints_get {ns : List Int} {i : Nat} {v : V} (h : (ns.map V.int)[i]? = some v) : ∃ z, ns[i]? = some z ∧ v = .int z := by
  rw [List.getElem?_map] at h
  cases e : ns[i]? with
  | none => rw [e] at h; cases h
  | some z => rw [e] at h; exact ⟨z, rfl, (Option.some.inj h).symm⟩
theorem cutV_ints (ns : List Int) (lo hi : Option Int) : ∃ ms : List Int, cutV (ns.map V.int) lo hi = ms.map V.int := by
  refine ⟨(ns.drop (HT.sIx (ns.map V.int).length 0 lo)).take (HT.sIx (ns.map V.int).length (ns.map V.int).length hi - HT.sIx (ns.map V.int).length 0 lo), ?_⟩
  unfold cutV
  rw [List.map_take, List.map_drop]
theorem ok_law_cell (T : TA1 K mg) : FnOk P w K mg base CX0 1 T.law_cell.a T.law_cell.fd ["script", "k"] (spCell K) := by
  refine T.law_cell.F.ok sc_law_cell (fun vs H Q E h => ?_) (fun cdv A outer s H vs Q E hr h => ?_)
  · obtain ⟨a, ns, k, rfl, _⟩ := h; rfl
  obtain ⟨a, ns, k, rfl, hS, h0, h1, q⟩ := h
  refine ⟨_, (pss_one (ps_ret (pe_ifExp (pt_cmpR op_lt (pv 1) (pe_callB (klen K) (by rfl) T.z_len (by decide +kernel) (pa_cons (pv 0) pa_nil)) (nomark _)) (pe_ix (kixl K) (pv 0) (pv 1) (fun _ _ => rfl)) (pe_op op_add (pe_op op_mul pe_int (pv 1)) (pe_op op_mod (pe_callTy call_int1 (by rfl) T.z_int (by decide +kernel) (pa_cons (pe_callB (ksum K rfl) (by rfl) T.z_sum (by decide +kernel) (pa_cons (pe_slice (kslL K) (pv 0) po_none (po_some pe_int)) pa_nil)) pa_nil)) pe_int))))), ?_⟩
  refine ⟨_, rfl, _, rfl, _, _, rfl, .inl ⟨_, hS, rfl⟩, _, _, rfl, rfl, _, rfl, ite2 (fun c => ?_) (fun c => ?_)⟩
  · have c' := of_decide_eq_true c
    obtain ⟨v, hv, hg⟩ := at_get h0 c'
    obtain ⟨z, _, rfl⟩ := ints_get hg
    exact ⟨_, rfl, _, rfl, _, _, _, _, rfl, rfl, hS, hv, q _ _ (Ex.refl _)⟩
  · refine ⟨_, rfl, _, _, rfl, rfl, .inl ⟨by decide, by decide⟩, _, rfl, _, rfl, _, _, rfl, hS, fun p hp => ?_⟩
    obtain ⟨ms, em⟩ := cutV_ints ns none (some 1)
    rw [em]
    refine ⟨p, ms, rfl, .inl (SqL.of upd_same), .inl ⟨_, rfl, _, _, rfl, rfl, (show (0 : Int) < 1000033 by decide), _, _, rfl, rfl, q _ _ (Ex.new hp)⟩⟩
theorem ok_law_box (T : TA1 K mg) : FnOk P w K mg base CX0 1 T.law_box.a T.law_box.fd ["great"] spBox := by
  refine T.law_box.F.ok sc_law_box (fun vs H Q E h => ?_) (fun cdv A outer s H vs Q E hr h => ?_)
  · obtain ⟨g, rfl, _⟩ := h; rfl
  obtain ⟨g, rfl, q⟩ := h
  refine ⟨_, (pss_one (ps_ret (pe_lst (pa_cons (pe_callB call_abs (by rfl) T.z_abs (by decide +kernel) (pa_cons (pv 0) pa_nil)) (pa_cons (pe_cmpR op_ge (pe_callB call_abs (by rfl) T.z_abs (by decide +kernel) (pa_cons (pv 0) pa_nil)) (pe_op op_pow pe_int pe_int) (nomark _)) (pa_cons (pe_op op_mod (pe_callTy call_int1 (by rfl) T.z_int (by decide +kernel) (pa_cons (pe_callB call_abs (by rfl) T.z_abs (by decide +kernel) (pa_cons (pv 0) pa_nil)) pa_nil)) pe_int) (pa_cons pe_int pa_nil))))))), ?_⟩
  refine ⟨_, rfl, _, rfl, _, rfl, _, rfl, _, _, rfl, rfl, ⟨by decide, by decide, by decide⟩, _, _, rfl, rfl, _, rfl, _, rfl, .inl ⟨_, rfl, _, _, rfl, rfl, (show (0 : Int) < 2147483629 by decide), (by show 4 ≤ sizeLine; decide), fun p hp => ?_⟩⟩
  refine q p _ hp (Ex.new hp) ⟨_, _, _, _, upd_same, ?_, ?_, ?_, by decide, by decide⟩
  · split <;> omega
  · omega
  · omega
theorem fmod_in {a m : Int} (h : 0 < m) : 0 ≤ a % m ∧ a % m < m := by
  exact ⟨Int.emod_nonneg _ (by omega), Int.emod_lt_of_pos _ h⟩
theorem ok_law_take (T : TA1 K mg) : FnOk P w K mg base CX0 1 T.law_take.a T.law_take.fd ["box", "many"] spTake := by
  refine T.law_take.F.ok sc_law_take (fun vs H Q E h => ?_) (fun cdv A outer s H vs Q E hr h => ?_)
  · obtain ⟨b, m, n, rfl, _⟩ := h; rfl
  obtain ⟨b, m, n, rfl, m0, m1, ⟨d, sd, c, f, hb, d0, s0, s1, c0, c1⟩, q⟩ := h
  have hL := SqL.of (K := K) hb
  refine ⟨_, (pss_cut (ps_if (PW.pt (pw_and (pt_val (pe_ix (kixl K) (pv 0) pe_int (fun _ _ => rfl))) (pw_and1 (pt_cmpR op_gt (pe_ix (kixl K) (pv 0) pe_int (fun _ _ => rfl)) pe_int (nomark _))))) (pss_cons (ps_set (i := 2) sc_law_take.nd rfl (Or.inl rfl) (pe_op op_mod (pe_callTy call_int1 (by rfl) T.z_int (by decide +kernel) (pa_cons (pe_ix (kixl K) (pv 0) pe_int (fun _ _ => rfl)) pa_nil)) (pv 1)))
    (pss_cons (ps_asg (pe_op op_fdiv (pe_ix (kixl K) (pv 0) pe_int (fun _ _ => rfl)) (pv 1)) (pg_sub (pv 0) pe_int set_list))
    (pss_one (ps_ret (pv 2))))) pss_nil)
    (pss_cons (ps_asg (pe_op op_add (pe_ix (kixl K) (pv 0) pe_int (fun _ _ => rfl)) pe_int) (pg_sub (pv 0) pe_int set_list))
    (pss_cons (ps_set (i := 3) sc_law_take.nd rfl (Or.inl rfl) (pe_op op_mod (pe_callTy call_int1 (by rfl) T.z_int (by decide +kernel) (pa_cons (pe_op op_pow (pe_op op_add (pe_op op_add (pe_ix (kixl K) (pv 0) pe_int (fun _ _ => rfl)) (pe_op op_mul pe_int (pe_ix (kixl K) (pv 0) pe_int (fun _ _ => rfl)))) pe_int) pe_int) pa_nil)) pe_int))
    (pss_one (ps_ret (pe_op op_mod (pe_callTy call_int1 (by rfl) T.z_int (by decide +kernel) (pa_cons (pe_op op_fdiv (pe_op op_mod (pe_callTy call_int1 (by rfl) T.z_int (by decide +kernel) (pa_cons (pe_op op_pow (pe_op op_add (pe_op op_mul (pv 3) pe_int) (pe_op op_mul pe_int (pe_ix (kixl K) (pv 0) pe_int (fun _ _ => rfl)))) pe_int) pa_nil)) pe_int) pe_int) pa_nil)) (pv 1))))))), ?_⟩
  have mres : ∀ x : Int, 0 ≤ x % m ∧ x % m < m := fun x => fmod_in m0
  have fm : ∀ {a k : Int}, 0 ≤ a → 0 < k → 0 ≤ a % k ∧ a % k < k := fun _ h => fmod_in h
  refine ⟨fun σ' H' => σ' = [some (.ref b), some (.int m), none, none] ∧ H' = H, ?_, ?_⟩
  · refine ⟨_, rfl, _, _, _, _, rfl, rfl, hL, rfl, f, rfl, ?_⟩
    cases f with
    | false => exact ⟨rfl, rfl⟩
    | true =>
      refine ⟨_, rfl, _, _, _, _, rfl, rfl, hL, rfl, _, _, rfl, rfl, _, rfl, ite2 (fun c => ?_) (fun _ => ⟨rfl, rfl⟩)⟩
      refine ⟨_, rfl, _, _, _, _, rfl, rfl, hL, rfl, .inl ⟨_, rfl, _, rfl, _, _, rfl, rfl, m0, ?_⟩⟩
      refine ⟨_, rfl, _, _, _, _, rfl, rfl, hL, rfl, _, rfl, _, _, rfl, rfl, ⟨by omega, by omega⟩, ?_⟩
      refine ⟨_, rfl, b, _, 0, 0, rfl, rfl, hb, rfl, ?_⟩
      refine ⟨_, rfl, q _ _ (mres _).1 (mres _).2 ⟨_, _, _, _, upd_same, ?_, s0, s1, c0, by omega⟩ But.upd⟩
      exact Int.ediv_nonneg d0 (by omega)
  · rintro σ' H' ⟨rfl, rfl⟩
    refine ⟨_, rfl, _, _, _, _, rfl, rfl, hL, rfl, _, _, rfl, rfl, ?_⟩
    refine ⟨_, rfl, b, _, 3, 3, rfl, rfl, hb, rfl, ?_⟩
    have hb2 : upd H' b (.lst [.int d, .bl f, .int sd, .int (c + 1)]) b = some (.lst [.int d, .bl f, .int sd, .int (c + 1)]) := upd_same
    have hL2 := SqL.of (K := K) hb2
    have r1 := @fmod_in ((sd + 15485863 * (c + 1) + 179424673) ^ (5 : Int).toNat) 2147483647 (by decide)
    refine ⟨_, rfl, _, _, _, _, rfl, rfl, hL2, rfl, ?_⟩
    refine ⟨_, rfl, _, _, _, _, rfl, rfl, hL2, rfl, _, _, rfl, rfl, .inl ⟨by decide, by decide⟩, _, _, rfl, rfl, _, _, rfl, rfl, ?_⟩
    refine ⟨_, _, rfl, rfl, ⟨by decide, by decide, by omega⟩, .inl ⟨_, rfl, _, _, rfl, rfl, (show (0 : Int) < 2147483647 by decide), ?_⟩⟩
    refine ⟨_, rfl, _, _, rfl, rfl, .inr ⟨by decide, by decide⟩, ?_⟩
    refine ⟨_, rfl, _, _, _, _, rfl, rfl, hL2, rfl, _, _, rfl, rfl, .inl ⟨by decide, by decide⟩, _, _, rfl, rfl, ?_⟩
    refine ⟨_, _, rfl, rfl, ⟨by decide, by decide, by omega⟩, .inl ⟨_, rfl, _, _, rfl, rfl, (show (0 : Int) < 2147483587 by decide), ?_⟩⟩
    refine ⟨_, _, rfl, rfl, ⟨by decide, by decide⟩, .inl ⟨_, rfl, _, rfl, _, _, rfl, rfl, m0, ?_⟩⟩
    exact q _ _ (mres _).1 (mres _).2 ⟨_, _, _, _, hb2, d0, s0, s1, by omega, by omega⟩ But.upd
section
variable {X : Cx}
def rLenA (K : PySem.W.Frag) : List V → Hp → VK → Prop := fun xs H Q => rLen K xs H Q ∨ ∃ a kvs, xs = [V.ref a] ∧ H a = some (.dK kvs) ∧ Q (.int (kvs.length : Nat)) H
theorem klenA (K : PySem.W.Frag) (h : X.K = K := by rfl) : CallR X (.builtin "len") (rLenA K) := by
  subst h
  intro pins s σ H vs us Q I r h
  rcases h with h | h
  · exact call_len pins s σ H vs us Q I r h
  · exact call_lenD pins s σ H vs us Q I r h
end
/-! ### the law's own sameness -/
theorem none_left {sp : Sp} {f : Addr} {fd : FuncData} {ps : List Str} (no : ∀ vs H Q E, ¬ sp vs H Q E) : FnOk P w K mg base CX0 0 f fd ps sp :=
  ⟨fun vs H Q E h => absurd h (no vs H Q E), fun A outer s H args us vs Q E _ _ _ _ h => absurd h (no vs H Q E)⟩
theorem isi_at {H : Hp} {x : V} {t u : String} {b : Bool} {Q : VK} (ty : TyX K H x (.type t)) (h : kitB t u = some b) (q : Q (.bl b) H) : rIsi K [x, .ty u] H Q :=
  ⟨x, .ty u, _, _, b, rfl, .ty u, ty, kit_ty h, q⟩
def spS (K : PySem.W.Frag) : Nat → Sp
  | 0 => fun _ _ _ _ => False
  | n + 1 => spSame K n
theorem no_given {n : Nat} {v : Nat → V} : given n (fun _ => false) v = [] := by
  unfold given
  rw [List.filter_eq_nil_iff.mpr (by intro a _; decide)]
  rfl
theorem eq_empty {ta : TE} {σ : L2.St} {H : Hp} {xs : List V} (hx : xs = []) (h : EvL ta σ H xs) : Ev (tOp (rEqD K) ta (tLst tNil)) σ H (.bl true) := by
  subst hx
  exact ev_opLL h (el_lst ea_nil (Nat.zero_le _)) fun p q H1 hp hq _ => rv_val fun H2 e2 Q k =>
    ⟨.list [], .list [], .lst (SqL.of (e2 _ _ hp)) .nil, .lst (SqL.of (e2 _ _ hq)) .nil, rfl, rfl, k⟩
theorem same_step (T : TA1 K mg) (n : Nat) (ih : FnOk P w K mg base CX0 n T.law_same.a T.law_same.fd ["told", "due"] (spS K n)) :
    FnOk P w K mg base CX0 (n + 1) T.law_same.a T.law_same.fd ["told", "due"] (spS K (n + 1)) := by
  refine T.law_same.F.ok sc_law_same (fun vs H Q E h => ?_) (fun cdv A outer s H vs Q E hr h => ?_)
  · obtain ⟨x, y, rfl, _⟩ := h; rfl
  obtain ⟨x, y, rfl, hS, q⟩ := h
  refine ⟨_, (pss_cons (ps_if (PW.pt (pw_or (pt_cmpR op_isN (pv 1) pe_non (nomark _)) (pw_or1 (pt_val (pe_callB (kisi K) (by rfl) T.z_isinstance (by decide +kernel) (pa_cons (pv 1) (pa_cons (pe_bltn (v := .ty "bool") rfl T.z_bool (by decide +kernel) rfl) pa_nil))))))) (pss_one (ps_ret (pe_ifExp (pt_cmpR op_isN (pv 1) pe_non (nomark _)) (pe_cmpR op_isN (pv 0) pe_non (nomark _)) (pe_and (pe_callB (kisi K) (by rfl) T.z_isinstance (by decide +kernel) (pa_cons (pv 0) (pa_cons (pe_bltn (v := .ty "bool") rfl T.z_bool (by decide +kernel) rfl) pa_nil))) (pe_one (pe_cmpR op_eq (pe_cmpR op_is_bl (pv 0) pe_bl (nomark _)) (pe_cmpR op_is_bl (pv 1) pe_bl (nomark _)) (nomark _))))))) pss_nil)
    (pss_cons (ps_if (pt_val (pe_callB (kisi K) (by rfl) T.z_isinstance (by decide +kernel) (pa_cons (pv 1) (pa_cons (pe_bltn (v := .ty "int") rfl T.z_int (by decide +kernel) rfl) pa_nil)))) (pss_one (ps_ret (pe_and (pe_callB (kisi K) (by rfl) T.z_isinstance (by decide +kernel) (pa_cons (pv 0) (pa_cons (pe_bltn (v := .ty "int") rfl T.z_int (by decide +kernel) rfl) pa_nil))) (pe_and (pe_not (pe_callB (kisi K) (by rfl) T.z_isinstance (by decide +kernel) (pa_cons (pv 0) (pa_cons (pe_bltn (v := .ty "bool") rfl T.z_bool (by decide +kernel) rfl) pa_nil)))) (pe_one (pe_cmpR op_eq (pe_op op_sub (pe_callTy call_int1 (by rfl) T.z_int (by decide +kernel) (pa_cons (pv 0) pa_nil)) (pv 1)) pe_int (nomark _))))))) pss_nil)
    (pss_cons (ps_if (pt_val (pe_callB (kisi K) (by rfl) T.z_isinstance (by decide +kernel) (pa_cons (pv 1) (pa_cons (pe_bltn (v := .ty "str") rfl T.z_str (by decide +kernel) rfl) pa_nil)))) (pss_one (ps_ret (pe_and (pe_callB (kisi K) (by rfl) T.z_isinstance (by decide +kernel) (pa_cons (pv 0) (pa_cons (pe_bltn (v := .ty "str") rfl T.z_str (by decide +kernel) rfl) pa_nil))) (pe_and (pe_cmpR op_eq (pe_callB (klen K) (by rfl) T.z_len (by decide +kernel) (pa_cons (pv 0) pa_nil)) (pe_callB (klen K) (by rfl) T.z_len (by decide +kernel) (pa_cons (pv 1) pa_nil)) (nomark _)) (pe_one (pe_cmpR (keqD K hr.units) (pe_lc (own := [("k", 2)]) (g := gName 2) (by rfl) sc_law_same.nd (pi_range1 rfl T.z_range (pa_cons (pe_callB (klen K) (by rfl) T.z_len (by decide +kernel) (pa_cons (pv 1) pa_nil)) pa_nil)) (blkOk_by (own := [("k", 2)]) (N := ["told", "due", "k"]) (sc := defScope s_law_same) (by decide +kernel)) (fun _ _ _ _ _ => (pg_name (i := 2) sc_law_same.nd rfl (Or.inl rfl))) (fun _ _ _ _ _ => (pts_one (pt_cmpR op_ne (pe_slice sl_str (pv 0) (po_some (pv 2)) (po_some (pe_op op_add (pv 2) pe_int))) (pe_ix (kix K) (pv 1) (pv 2) (fun _ _ => rfl)) (nomark _)))) (fun _ _ _ _ _ => (pv 2))) (pe_lst pa_nil) (nomark _))))))) pss_nil)
    (pss_cons (ps_if (PW.pt (pw_or (pt_cmpR op_ne (pe_callB (kisi K) (by rfl) T.z_isinstance (by decide +kernel) (pa_cons (pv 0) (pa_cons (pe_bltn (v := .ty "list") rfl T.z_list (by decide +kernel) rfl) pa_nil))) (pe_callB (kisi K) (by rfl) T.z_isinstance (by decide +kernel) (pa_cons (pv 1) (pa_cons (pe_bltn (v := .ty "list") rfl T.z_list (by decide +kernel) rfl) pa_nil))) (nomark _)) (pw_or1 (pt_cmpR op_ne (pe_callB (kisi K) (by rfl) T.z_isinstance (by decide +kernel) (pa_cons (pv 0) (pa_cons (pe_bltn (v := .ty "tuple") rfl T.z_tuple (by decide +kernel) rfl) pa_nil))) (pe_callB (kisi K) (by rfl) T.z_isinstance (by decide +kernel) (pa_cons (pv 1) (pa_cons (pe_bltn (v := .ty "tuple") rfl T.z_tuple (by decide +kernel) rfl) pa_nil))) (nomark _))))) (pss_one (ps_ret pe_bl)) pss_nil)
    (pss_one (ps_ret (pe_and (pe_cmpR op_eq (pe_callB (klenA K) (by rfl) T.z_len (by decide +kernel) (pa_cons (pv 0) pa_nil)) (pe_callB (klenA K) (by rfl) T.z_len (by decide +kernel) (pa_cons (pv 1) pa_nil)) (nomark _)) (pe_one (pe_cmpR (keqD K hr.units) (pe_lc (own := [("k", 2)]) (g := gName 2) (by rfl) sc_law_same.nd (pi_range1 rfl T.z_range (pa_cons (pe_callB (klenA K) (by rfl) T.z_len (by decide +kernel) (pa_cons (pv 1) pa_nil)) pa_nil)) (blkOk_by (own := [("k", 2)]) (N := ["told", "due", "k"]) (sc := defScope s_law_same) (by decide +kernel)) (fun _ _ _ _ _ => (pg_name (i := 2) sc_law_same.nd rfl (Or.inl rfl))) (fun _ _ _ _ _ => (pts_one (pt_not (pt_val (pe_call (ih) hr rfl T.law_same.m T.law_same.F.kp T.law_same.b .nil pass0 (pa_cons (pe_ix (kix K) (pv 0) (pv 2) (fun _ _ => rfl)) (pa_cons (pe_ix (kix K) (pv 1) (pv 2) (fun _ _ => rfl)) pa_nil))))))) (fun _ _ _ _ _ => (pv 2))) (pe_lst pa_nil) (nomark _)))))))))), ?_⟩
  cases hS with
  | non => exact ⟨_, rfl, rfl, _, rfl, iteT (iteT ⟨_, rfl, rfl, _, rfl, iteT ⟨_, rfl, rfl, q _ (Ex.refl _)⟩⟩)⟩
  | bl b =>
    refine ⟨_, rfl, rfl, _, rfl, iteF ⟨_, rfl, _, _, _, _, true, rfl, .ty _, (.base (.bl b)), kit_ty (by decide +kernel), ⟨_, rfl, iteT ⟨_, rfl, rfl, _, rfl, iteF ?_⟩⟩⟩⟩
    refine ⟨_, rfl, _, _, _, _, true, rfl, .ty _, (.base (.bl b)), kit_ty (by decide +kernel), ⟨_, rfl, iteT ⟨_, rfl, _, _, rfl, rfl, _, rfl, _, _, rfl, rfl, rfl, ?_⟩⟩⟩
    rw [decide_eq_true (rfl : V.bl (decide (b = true)) = V.bl (decide (b = true)))]
    exact q _ (Ex.refl _)
  | int i =>
    refine ⟨_, rfl, rfl, _, rfl, iteF ⟨_, rfl, _, _, _, _, false, rfl, .ty _, (.base (.int i)), kit_ty (by decide +kernel), ⟨_, rfl, iteF ?_⟩⟩⟩
    refine ⟨_, rfl, _, _, _, _, true, rfl, .ty _, (.base (.int i)), kit_ty (by decide +kernel), ⟨_, rfl, iteT ?_⟩⟩
    refine ⟨_, rfl, _, _, _, _, true, rfl, .ty _, (.base (.int i)), kit_ty (by decide +kernel), ⟨_, rfl, iteT ?_⟩⟩
    refine ⟨_, rfl, _, _, _, _, false, rfl, .ty _, (.base (.int i)), kit_ty (by decide +kernel), ⟨_, rfl, _, rfl, iteT ?_⟩⟩
    refine ⟨_, rfl, .inl ⟨_, rfl, _, rfl, _, _, rfl, rfl, rfl, ?_⟩⟩
    show Q (V.bl (decide (V.int (i - i) = V.int 0))) H
    rw [Int.sub_self]
    exact q _ (Ex.refl _)
  | str z hz =>
    have hz' : z.length ≤ sizeLine := Nat.le_trans hz (by decide)
    refine ⟨_, rfl, rfl, _, rfl, iteF ⟨_, rfl, _, _, _, _, false, rfl, .ty _, (.base (.str z)), kit_ty (by decide +kernel), ⟨_, rfl, iteF ?_⟩⟩⟩
    refine ⟨_, rfl, _, _, _, _, false, rfl, .ty _, (.base (.str z)), kit_ty (by decide +kernel), ⟨_, rfl, iteF ?_⟩⟩
    refine ⟨_, rfl, _, _, _, _, true, rfl, .ty _, (.base (.str z)), kit_ty (by decide +kernel), ⟨_, rfl, iteT ?_⟩⟩
    refine ⟨_, rfl, _, _, _, _, true, rfl, .ty _, (.base (.str z)), kit_ty (by decide +kernel), ⟨_, rfl, iteT ?_⟩⟩
    refine ⟨_, rfl, _, z.length, rfl, ⟨hz', rfl⟩, _, rfl, _, z.length, rfl, ⟨hz', rfl⟩, rfl, _, rfl, ?_⟩
    rw [if_pos (decide_eq_true rfl)]
    refine eq_empty (no_given (n := (z.length : Int).toNat) (v := fun _ => V.non)) ?_ H (Ex.refl _) Q (fun H2 e2 => q H2 e2)
    refine el_lcR1 (fun _ => false) (fun _ => V.non) ?_ ⟨by omega, by omega⟩ (fun _ => rfl) ?_ (fun _ _ _ _ hf => nomatch hf)
    · exact fun H1 e Q' k => ⟨_, rfl, _, z.length, rfl, ⟨hz', rfl⟩, k H1 (Ex.refl _)⟩
    · intro i H1 e hi
      have hz2 : i < z.cps.toList.length := by
        have e2 : z.cps.toList.length = z.length := Array.length_toList
        omega
      have hat : atI z.cps.toList (i : Int) = some z.cps.toList[i] := atI_nat (List.getElem?_eq_getElem hz2)
      have hc := cut_one (List.getElem?_eq_getElem hz2)
      intro H2 e2 Q2 k2
      refine ⟨_, rfl, _, rfl, _, rfl, _, rfl, _, _, rfl, rfl, _, rfl, z, rfl, hz', _, rfl, _, rfl, .inr (.inr ⟨z, _, _, rfl, rfl, hz', hat, rfl, _, rfl, ?_⟩)⟩
      rw [hc, decide_eq_true rfl]
      exact k2 H2 (Ex.refl _)
  | @lst n a b xs ys h1 h2 hl hl1 all =>
    refine ⟨_, rfl, rfl, _, rfl, iteF ⟨_, rfl, _, _, _, _, false, rfl, .ty _, (tyL h2), kit_ty (by decide +kernel), ⟨_, rfl, iteF ?_⟩⟩⟩
    refine ⟨_, rfl, _, _, _, _, false, rfl, .ty _, (tyL h2), kit_ty (by decide +kernel), ⟨_, rfl, iteF ?_⟩⟩
    refine ⟨_, rfl, _, _, _, _, false, rfl, .ty _, (tyL h2), kit_ty (by decide +kernel), ⟨_, rfl, iteF ?_⟩⟩
    refine ⟨_, rfl, _, _, _, _, true, rfl, .ty _, (tyL h1), kit_ty (by decide +kernel), ⟨_, rfl, _, _, _, _, true, rfl, .ty _, (tyL h2), kit_ty (by decide +kernel), ⟨rfl, _, rfl, iteF ?_⟩⟩⟩
    refine ⟨_, rfl, _, _, _, _, false, rfl, .ty _, (tyL h1), kit_ty (by decide +kernel), ⟨_, rfl, _, _, _, _, false, rfl, .ty _, (tyL h2), kit_ty (by decide +kernel), ⟨rfl, _, rfl, iteF ?_⟩⟩⟩
    refine ⟨_, rfl, .inl ⟨_, xs.length, rfl, .inl ⟨_, h1, rfl⟩, _, rfl, .inl ⟨_, ys.length, rfl, .inl ⟨_, h2, rfl⟩, rfl, _, rfl, ?_⟩⟩⟩
    rw [if_pos (decide_eq_true (by rw [hl]))]
    refine eq_empty (no_given (n := (ys.length : Int).toNat) (v := fun _ => V.non)) ?_ H (Ex.refl _) Q (fun H2 e2 => q H2 e2)
    refine el_lcR1 (fun _ => false) (fun _ => V.non) ?_ ⟨by omega, by omega⟩ (fun _ => rfl) ?_ (fun _ _ _ _ hf => nomatch hf)
    · exact fun H1 e Q' k => ⟨_, rfl, .inl ⟨_, ys.length, rfl, .inl ⟨_, ex_l e h2, rfl⟩, k H1 (Ex.refl _)⟩⟩
    · intro i H1 e hi H2 e2 Q2 k2
      have hy : ys[i]? = some ys[i] := List.getElem?_eq_getElem (by omega)
      have hx : xs[i]? = some xs[i] := List.getElem?_eq_getElem (by omega)
      refine ⟨_, rfl, _, rfl, .inl ⟨_, _, _, _, rfl, rfl, ex_l (e.trans e2) h1, atI_nat hx, _, rfl, _, rfl, .inl ⟨_, _, _, _, rfl, rfl, ex_l (e.trans e2) h2, atI_nat hy, ?_⟩⟩⟩
      exact ⟨_, _, rfl, (all i _ _ hx hy).ex (e.trans e2), fun H3 e3 => ⟨true, rfl, k2 H3 e3⟩⟩
  | @tup n a b xs ys h1 h2 hl hl1 all =>
    refine ⟨_, rfl, rfl, _, rfl, iteF ⟨_, rfl, _, _, _, _, false, rfl, .ty _, (tyT h2), kit_ty (by decide +kernel), ⟨_, rfl, iteF ?_⟩⟩⟩
    refine ⟨_, rfl, _, _, _, _, false, rfl, .ty _, (tyT h2), kit_ty (by decide +kernel), ⟨_, rfl, iteF ?_⟩⟩
    refine ⟨_, rfl, _, _, _, _, false, rfl, .ty _, (tyT h2), kit_ty (by decide +kernel), ⟨_, rfl, iteF ?_⟩⟩
    refine ⟨_, rfl, _, _, _, _, false, rfl, .ty _, (tyT h1), kit_ty (by decide +kernel), ⟨_, rfl, _, _, _, _, false, rfl, .ty _, (tyT h2), kit_ty (by decide +kernel), ⟨rfl, _, rfl, iteF ?_⟩⟩⟩
    refine ⟨_, rfl, _, _, _, _, true, rfl, .ty _, (tyT h1), kit_ty (by decide +kernel), ⟨_, rfl, _, _, _, _, true, rfl, .ty _, (tyT h2), kit_ty (by decide +kernel), ⟨rfl, _, rfl, iteF ?_⟩⟩⟩
    refine ⟨_, rfl, .inl ⟨_, xs.length, rfl, .inr ⟨_, h1, rfl⟩, _, rfl, .inl ⟨_, ys.length, rfl, .inr ⟨_, h2, rfl⟩, rfl, _, rfl, ?_⟩⟩⟩
    rw [if_pos (decide_eq_true (by rw [hl]))]
    refine eq_empty (no_given (n := (ys.length : Int).toNat) (v := fun _ => V.non)) ?_ H (Ex.refl _) Q (fun H2 e2 => q H2 e2)
    refine el_lcR1 (fun _ => false) (fun _ => V.non) ?_ ⟨by omega, by omega⟩ (fun _ => rfl) ?_ (fun _ _ _ _ hf => nomatch hf)
    · exact fun H1 e Q' k => ⟨_, rfl, .inl ⟨_, ys.length, rfl, .inr ⟨_, ex_t e h2, rfl⟩, k H1 (Ex.refl _)⟩⟩
    · intro i H1 e hi H2 e2 Q2 k2
      have hy : ys[i]? = some ys[i] := List.getElem?_eq_getElem (by omega)
      have hx : xs[i]? = some xs[i] := List.getElem?_eq_getElem (by omega)
      refine ⟨_, rfl, _, rfl, .inr (.inl ⟨_, _, _, _, rfl, rfl, ex_t (e.trans e2) h1, atI_nat hx, _, rfl, _, rfl, .inr (.inl ⟨_, _, _, _, rfl, rfl, ex_t (e.trans e2) h2, atI_nat hy, ?_⟩)⟩)⟩
      exact ⟨_, _, rfl, (all i _ _ hx hy).ex (e.trans e2), fun H3 e3 => ⟨true, rfl, k2 H3 e3⟩⟩
  | @dct n a b h1 h2 =>
    have t1 : TyX K H (.ref a) (.type "dict") := .base (.dK h1)
    have t2 : TyX K H (.ref b) (.type "dict") := .base (.dK h2)
    refine ⟨_, rfl, rfl, _, rfl, iteF ⟨_, rfl, _, _, _, _, false, rfl, .ty _, t2, kit_ty (by decide +kernel), ⟨_, rfl, iteF ?_⟩⟩⟩
    refine ⟨_, rfl, _, _, _, _, false, rfl, .ty _, t2, kit_ty (by decide +kernel), ⟨_, rfl, iteF ?_⟩⟩
    refine ⟨_, rfl, _, _, _, _, false, rfl, .ty _, t2, kit_ty (by decide +kernel), ⟨_, rfl, iteF ?_⟩⟩
    refine ⟨_, rfl, _, _, _, _, false, rfl, .ty _, t1, kit_ty (by decide +kernel), ⟨_, rfl, _, _, _, _, false, rfl, .ty _, t2, kit_ty (by decide +kernel), ⟨rfl, _, rfl, iteF ?_⟩⟩⟩
    refine ⟨_, rfl, _, _, _, _, false, rfl, .ty _, t1, kit_ty (by decide +kernel), ⟨_, rfl, _, _, _, _, false, rfl, .ty _, t2, kit_ty (by decide +kernel), ⟨rfl, _, rfl, iteF ?_⟩⟩⟩
    refine ⟨_, rfl, .inr ⟨a, [], rfl, h1, _, rfl, .inr ⟨b, [], rfl, h2, rfl, _, rfl, ?_⟩⟩⟩
    rw [if_pos (decide_eq_true rfl)]
    refine eq_empty (no_given (n := (0 : Int).toNat) (v := fun _ => V.non)) ?_ H (Ex.refl _) Q (fun H2 e2 => q H2 e2)
    refine el_lcR1 (n := 0) (fun _ => false) (fun _ => V.non) ?_ ⟨by omega, by omega⟩ (fun _ => rfl) ?_ (fun _ _ _ _ hf => nomatch hf)
    · exact fun H1 e Q' k => ⟨_, rfl, .inr ⟨b, [], rfl, e _ _ h2, k H1 (Ex.refl _)⟩⟩
    · intro i H1 e hi
      omega
theorem ok_same (T : TA1 K mg) : ∀ n, FnOk P w K mg base CX0 n T.law_same.a T.law_same.fd ["told", "due"] (spS K n)
  | 0 => none_left fun _ _ _ _ h => h
  | n + 1 => same_step T n (ok_same T n)
theorem ok_law_same (T : TA1 K mg) : FnOk P w K mg base CX0 9 T.law_same.a T.law_same.fd ["told", "due"] (spSame K 8) := ok_same T 9
end
end L2.U


set_option Elab.async false
set_option linter.all false
set_option maxRecDepth 100000
set_option maxHeartbeats 4000000
namespace L2.U
open PySem PySem.Spec PyProof.Rows Evl
abbrev s_arrangements : Stmt := top 19
theorem sc_arrangements : FnScope ["parts", "result", "total", "part"] ["parts"] (defScope s_arrangements) := ⟨rfl, rfl, rfl, by decide +kernel, rfl, by decide +kernel, by decide +kernel⟩
abbrev s_even_parts : Stmt := top 20
theorem sc_even_parts : FnScope ["total", "many", "low", "greater"] ["total", "many"] (defScope s_even_parts) := ⟨rfl, rfl, rfl, by decide +kernel, rfl, by decide +kernel, by decide +kernel⟩
abbrev s_most_arranged : Stmt := top 21
theorem sc_most_arranged : FnScope ["total", "rounds", "rest"] ["total", "rounds", "rest"] (defScope s_most_arranged) := ⟨rfl, rfl, rfl, by decide +kernel, rfl, by decide +kernel, by decide +kernel⟩
abbrev s_check_number : Stmt := top 22
theorem sc_check_number : FnScope ["number"] ["number"] (defScope s_check_number) := ⟨rfl, rfl, rfl, by decide +kernel, rfl, by decide +kernel, by decide +kernel⟩
abbrev s_check_many : Stmt := top 23
theorem sc_check_many : FnScope ["many"] ["many"] (defScope s_check_many) := ⟨rfl, rfl, rfl, by decide +kernel, rfl, by decide +kernel, by decide +kernel⟩
abbrev s_are_between : Stmt := top 6
theorem sc_are_between : FnScope ["values", "low", "high", "value"] ["values", "low", "high"] (defScope s_are_between) := ⟨rfl, rfl, rfl, by decide +kernel, rfl, by decide +kernel, by decide +kernel⟩
abbrev s_can_tell : Stmt := top 28
theorem sc_can_tell : FnScope ["row", "own", "other", "least"] ["row", "own", "other"] (defScope s_can_tell) := ⟨rfl, rfl, rfl, by decide +kernel, rfl, by decide +kernel, by decide +kernel⟩
abbrev s_is_row : Stmt := top 29
theorem sc_is_row : FnScope ["value"] ["value"] (defScope s_is_row) := ⟨rfl, rfl, rfl, by decide +kernel, rfl, by decide +kernel, by decide +kernel⟩
abbrev s_stairs_by : Stmt := top 30
theorem sc_stairs_by : FnScope ["row", "told", "found", "number"] ["row", "told"] (defScope s_stairs_by) := ⟨rfl, rfl, rfl, by decide +kernel, rfl, by decide +kernel, by decide +kernel⟩
abbrev s_stair : Stmt := top 31
theorem sc_stair : FnScope ["number", "told", "further", "needs", "rest", "kinds"] ["number", "told", "further"] (defScope s_stair) := ⟨rfl, rfl, rfl, by decide +kernel, rfl, by decide +kernel, by decide +kernel⟩
abbrev s_least : Stmt := top 32
theorem sc_least : FnScope ["number", "told", "needs", "least", "rest", "values", "answers", "both"] ["number", "told", "needs"] (defScope s_least) := ⟨rfl, rfl, rfl, by decide +kernel, rfl, by decide +kernel, by decide +kernel⟩
abbrev s_need : Stmt := top 33
theorem sc_need : FnScope ["further", "rest", "kinds", "least"] ["further", "rest"] (defScope s_need) := ⟨rfl, rfl, rfl, by decide +kernel, rfl, by decide +kernel, by decide +kernel⟩
abbrev s_fewest_answers : Stmt := top 34
theorem sc_fewest_answers : FnScope ["number", "values", "answers", "many"] ["number", "values"] (defScope s_fewest_answers) := ⟨rfl, rfl, rfl, by decide +kernel, rfl, by decide +kernel, by decide +kernel⟩
abbrev s_told_by_kinds : Stmt := top 35
theorem sc_told_by_kinds : FnScope ["most", "rest", "kinds"] ["most"] (defScope s_told_by_kinds) := ⟨rfl, rfl, rfl, by decide +kernel, rfl, by decide +kernel, by decide +kernel⟩
abbrev s_told_by : Stmt := top 36
theorem sc_told_by : FnScope ["kinds", "rest", "rounds"] ["kinds", "rest"] (defScope s_told_by) := ⟨rfl, rfl, rfl, by decide +kernel, rfl, by decide +kernel, by decide +kernel⟩
abbrev s_check_row_and_kinds : Stmt := top 37
theorem sc_check_row_and_kinds : FnScope ["row", "own", "other"] ["row", "own", "other"] (defScope s_check_row_and_kinds) := ⟨rfl, rfl, rfl, by decide +kernel, rfl, by decide +kernel, by decide +kernel⟩
abbrev s_check_row : Stmt := top 38
theorem sc_check_row : FnScope ["row"] ["row"] (defScope s_check_row) := ⟨rfl, rfl, rfl, by decide +kernel, rfl, by decide +kernel, by decide +kernel⟩
abbrev s_check_kinds : Stmt := top 39
theorem sc_check_kinds : FnScope ["own", "other"] ["own", "other"] (defScope s_check_kinds) := ⟨rfl, rfl, rfl, by decide +kernel, rfl, by decide +kernel, by decide +kernel⟩
abbrev s_init_InvalidNumber : Stmt := inClass (top 10) 0
theorem sc_init_InvalidNumber : FnScope ["self", "given"] ["self", "given"] (defScope s_init_InvalidNumber) := ⟨rfl, rfl, rfl, by decide +kernel, rfl, by decide +kernel, by decide +kernel⟩
abbrev s_init_InvalidMany : Stmt := inClass (top 11) 0
theorem sc_init_InvalidMany : FnScope ["self", "given"] ["self", "given"] (defScope s_init_InvalidMany) := ⟨rfl, rfl, rfl, by decide +kernel, rfl, by decide +kernel, by decide +kernel⟩
abbrev s_init_InvalidParts : Stmt := inClass (top 12) 0
theorem sc_init_InvalidParts : FnScope ["self", "given"] ["self", "given"] (defScope s_init_InvalidParts) := ⟨rfl, rfl, rfl, by decide +kernel, rfl, by decide +kernel, by decide +kernel⟩
abbrev s_init_InvalidRest : Stmt := inClass (top 13) 0
theorem sc_init_InvalidRest : FnScope ["self", "given"] ["self", "given"] (defScope s_init_InvalidRest) := ⟨rfl, rfl, rfl, by decide +kernel, rfl, by decide +kernel, by decide +kernel⟩
abbrev s_init_InvalidRow : Stmt := inClass (top 14) 0
theorem sc_init_InvalidRow : FnScope ["self", "given"] ["self", "given"] (defScope s_init_InvalidRow) := ⟨rfl, rfl, rfl, by decide +kernel, rfl, by decide +kernel, by decide +kernel⟩
abbrev s_init_InvalidOwn : Stmt := inClass (top 15) 0
theorem sc_init_InvalidOwn : FnScope ["self", "given"] ["self", "given"] (defScope s_init_InvalidOwn) := ⟨rfl, rfl, rfl, by decide +kernel, rfl, by decide +kernel, by decide +kernel⟩
abbrev s_init_InvalidOther : Stmt := inClass (top 16) 0
theorem sc_init_InvalidOther : FnScope ["self", "given"] ["self", "given"] (defScope s_init_InvalidOther) := ⟨rfl, rfl, rfl, by decide +kernel, rfl, by decide +kernel, by decide +kernel⟩
structure TA2 (K : PySem.W.Frag) (mg : Str → Option Value) extends TA1 K mg where
  arrangements : DefAt K mg "arrangements" s_arrangements ["parts"]
  even_parts : DefAt K mg "even_parts" s_even_parts ["total", "many"]
  most_arranged : DefAt K mg "most_arranged" s_most_arranged ["total", "rounds", "rest"]
  check_number : DefAt K mg "_check_number" s_check_number ["number"]
  check_many : DefAt K mg "_check_many" s_check_many ["many"]
  are_between : DefAt K mg "are_between" s_are_between ["values", "low", "high"]
  can_tell : DefAt K mg "can_tell" s_can_tell ["row", "own", "other"]
  is_row : DefAt K mg "is_row" s_is_row ["value"]
  stairs_by : DefAt K mg "stairs_by" s_stairs_by ["row", "told"]
  stair : DefAt K mg "_stair" s_stair ["number", "told", "further"]
  least : DefAt K mg "_least" s_least ["number", "told", "needs"]
  need : DefAt K mg "_need" s_need ["further", "rest"]
  fewest_answers : DefAt K mg "_fewest_answers" s_fewest_answers ["number", "values"]
  told_by_kinds : DefAt K mg "told_by_kinds" s_told_by_kinds ["most"]
  told_by : DefAt K mg "_told_by" s_told_by ["kinds", "rest"]
  check_row_and_kinds : DefAt K mg "check_row_and_kinds" s_check_row_and_kinds ["row", "own", "other"]
  check_row : DefAt K mg "_check_row" s_check_row ["row"]
  check_kinds : DefAt K mg "_check_kinds" s_check_kinds ["own", "other"]
  InvalidNumber : ErrAt K mg "InvalidNumber" "InvalidNumber.__init__" s_init_InvalidNumber "given"
  InvalidMany : ErrAt K mg "InvalidMany" "InvalidMany.__init__" s_init_InvalidMany "given"
  InvalidParts : ErrAt K mg "InvalidParts" "InvalidParts.__init__" s_init_InvalidParts "given"
  InvalidRest : ErrAt K mg "InvalidRest" "InvalidRest.__init__" s_init_InvalidRest "given"
  InvalidRow : ErrAt K mg "InvalidRow" "InvalidRow.__init__" s_init_InvalidRow "given"
  InvalidOwn : ErrAt K mg "InvalidOwn" "InvalidOwn.__init__" s_init_InvalidOwn "given"
  InvalidOther : ErrAt K mg "InvalidOther" "InvalidOther.__init__" s_init_InvalidOther "given"
  t_HIGHEST : Tok
  c_HIGHEST : mg "HIGHEST" = some (.int 64 t_HIGHEST)
  t_MOST_NUMBERS : Tok
  c_MOST_NUMBERS : mg "MOST_NUMBERS" = some (.int 16 t_MOST_NUMBERS)
  t_GREATEST : Tok
  c_GREATEST : mg "GREATEST" = some (.int 100000000000000000000000000000000000000000000000000 t_GREATEST)
  t_MOST_KINDS : Tok
  c_MOST_KINDS : mg "MOST_KINDS" = some (.int 16 t_MOST_KINDS)
  c_comb : mg "comb" = some (.builtin "math.comb")
  z_max : mg "max" = none
  z_min : mg "min" = none
  z_enumerate : mg "enumerate" = none
section
variable {P : Program} {w : World} {K : PySem.W.Frag} {mg : Str → Option Value} {base : Heap}
section
variable {X : Cx}
theorem kmax (K : PySem.W.Frag) (hc : X.calm = true) (h : X.K = K := by rfl) : CallR X (.builtin "max") (rMax K) := by subst h; exact cr_max hc
theorem kmin (K : PySem.W.Frag) (hc : X.calm = true) (h : X.K = K := by rfl) : CallR X (.builtin "min") (rMin K) := by subst h; exact cr_min hc
end
theorem two_le : 2 ≤ sizeLine := by decide
theorem ok_init_InvalidNumber (T : ErrAt K mg "InvalidNumber" "InvalidNumber.__init__" s_init_InvalidNumber "given") : FnOk P w K mg base CX0 1 T.fI T.fd ["self", "given"] (spInit T.C "given") := by
  refine T.F.ok sc_init_InvalidNumber (fun vs H Q E h => ?_) (fun cdv A outer s H vs Q E hr h => ?_)
  · obtain ⟨a, y, rfl, _⟩ := h; rfl
  obtain ⟨a, y, rfl, ha, q⟩ := h
  exact ⟨_, pss_one (ps_ost (pv 0) (pv 1)), _, rfl, _, rfl, a, T.C, rfl, T.T, T.nf, .inl ⟨ha, fun d hd nd => q d hd nd⟩⟩
theorem ok_init_InvalidMany (T : ErrAt K mg "InvalidMany" "InvalidMany.__init__" s_init_InvalidMany "given") : FnOk P w K mg base CX0 1 T.fI T.fd ["self", "given"] (spInit T.C "given") := by
  refine T.F.ok sc_init_InvalidMany (fun vs H Q E h => ?_) (fun cdv A outer s H vs Q E hr h => ?_)
  · obtain ⟨a, y, rfl, _⟩ := h; rfl
  obtain ⟨a, y, rfl, ha, q⟩ := h
  exact ⟨_, pss_one (ps_ost (pv 0) (pv 1)), _, rfl, _, rfl, a, T.C, rfl, T.T, T.nf, .inl ⟨ha, fun d hd nd => q d hd nd⟩⟩
theorem ok_init_InvalidParts (T : ErrAt K mg "InvalidParts" "InvalidParts.__init__" s_init_InvalidParts "given") : FnOk P w K mg base CX0 1 T.fI T.fd ["self", "given"] (spInit T.C "given") := by
  refine T.F.ok sc_init_InvalidParts (fun vs H Q E h => ?_) (fun cdv A outer s H vs Q E hr h => ?_)
  · obtain ⟨a, y, rfl, _⟩ := h; rfl
  obtain ⟨a, y, rfl, ha, q⟩ := h
  exact ⟨_, pss_one (ps_ost (pv 0) (pv 1)), _, rfl, _, rfl, a, T.C, rfl, T.T, T.nf, .inl ⟨ha, fun d hd nd => q d hd nd⟩⟩
theorem ok_init_InvalidRest (T : ErrAt K mg "InvalidRest" "InvalidRest.__init__" s_init_InvalidRest "given") : FnOk P w K mg base CX0 1 T.fI T.fd ["self", "given"] (spInit T.C "given") := by
  refine T.F.ok sc_init_InvalidRest (fun vs H Q E h => ?_) (fun cdv A outer s H vs Q E hr h => ?_)
  · obtain ⟨a, y, rfl, _⟩ := h; rfl
  obtain ⟨a, y, rfl, ha, q⟩ := h
  exact ⟨_, pss_one (ps_ost (pv 0) (pv 1)), _, rfl, _, rfl, a, T.C, rfl, T.T, T.nf, .inl ⟨ha, fun d hd nd => q d hd nd⟩⟩
theorem ok_init_InvalidRow (T : ErrAt K mg "InvalidRow" "InvalidRow.__init__" s_init_InvalidRow "given") : FnOk P w K mg base CX0 1 T.fI T.fd ["self", "given"] (spInit T.C "given") := by
  refine T.F.ok sc_init_InvalidRow (fun vs H Q E h => ?_) (fun cdv A outer s H vs Q E hr h => ?_)
  · obtain ⟨a, y, rfl, _⟩ := h; rfl
  obtain ⟨a, y, rfl, ha, q⟩ := h
  exact ⟨_, pss_one (ps_ost (pv 0) (pv 1)), _, rfl, _, rfl, a, T.C, rfl, T.T, T.nf, .inl ⟨ha, fun d hd nd => q d hd nd⟩⟩
theorem ok_init_InvalidOwn (T : ErrAt K mg "InvalidOwn" "InvalidOwn.__init__" s_init_InvalidOwn "given") : FnOk P w K mg base CX0 1 T.fI T.fd ["self", "given"] (spInit T.C "given") := by
  refine T.F.ok sc_init_InvalidOwn (fun vs H Q E h => ?_) (fun cdv A outer s H vs Q E hr h => ?_)
  · obtain ⟨a, y, rfl, _⟩ := h; rfl
  obtain ⟨a, y, rfl, ha, q⟩ := h
  exact ⟨_, pss_one (ps_ost (pv 0) (pv 1)), _, rfl, _, rfl, a, T.C, rfl, T.T, T.nf, .inl ⟨ha, fun d hd nd => q d hd nd⟩⟩
theorem ok_init_InvalidOther (T : ErrAt K mg "InvalidOther" "InvalidOther.__init__" s_init_InvalidOther "given") : FnOk P w K mg base CX0 1 T.fI T.fd ["self", "given"] (spInit T.C "given") := by
  refine T.F.ok sc_init_InvalidOther (fun vs H Q E h => ?_) (fun cdv A outer s H vs Q E hr h => ?_)
  · obtain ⟨a, y, rfl, _⟩ := h; rfl
  obtain ⟨a, y, rfl, ha, q⟩ := h
  exact ⟨_, pss_one (ps_ost (pv 0) (pv 1)), _, rfl, _, rfl, a, T.C, rfl, T.T, T.nf, .inl ⟨ha, fun d hd nd => q d hd nd⟩⟩
/-- a check of any data: it lets what is right, else raises the error of C with the very value -/
def spChkD (K : PySem.W.Frag) (C : Addr) (okD : PyData → Bool) : Sp := fun vs H Q E => ∃ x d n ok, vs = [x] ∧ Rd K ok H n x d ∧ (okD d = true → ∀ H', Ex H H' → Q .non H') ∧
  (okD d = false → ∀ e H', Ex H H' → H' e = some (.xd [("given", x)]) → E (.ref C) (some e) H')
def num64 (d : PyData) : Bool := betwD 0 64 d
def many64 (d : PyData) : Bool := betwD 1 64 d
theorem ok_check_number (T : TA2 K mg) : FnOk P w K mg base (L2.CX P w) 4 T.check_number.a T.check_number.fd ["number"] (spChkD K T.InvalidNumber.C num64) := by
  refine T.check_number.F.okX sc_check_number (fun vs H Q E h => ?_) (fun cdv A outer s H vs Q E hr h => ?_)
  · obtain ⟨x, d, n, ok, rfl, _⟩ := h; rfl
  obtain ⟨x, d, n, ok, rfl, h, q1, q2⟩ := h
  refine ⟨_, (pss_one (ps_if (pt_not (pt_val (pe_call (ok_is_between T.toTA1) (hr.mono (by decide)) rfl T.is_between.m T.is_between.F.kp T.is_between.b .nil pass0 (pa_cons (pv 0) (pa_cons pe_int (pa_cons (pe_glob (v := .int 64) rfl T.c_HIGHEST ⟨_, rfl⟩) pa_nil)))))) (pss_one (ps_raise rfl (takes_of rfl rfl rfl rfl) (pmk_oex T.InvalidNumber.T T.InvalidNumber.iC T.InvalidNumber.tI (ok_init_InvalidNumber T.InvalidNumber) (hr.mono (by decide)) T.InvalidNumber.b .nil pass0 rfl T.InvalidNumber.gC (by exact (pa_cons (pv 0) pa_nil))))) pss_nil)), ?_⟩
  refine ⟨_, rfl, _, _, _, rfl, h.dat, fun b h1 h2 => ⟨b, rfl, ?_⟩⟩
  have hb := rd_betw h h1 h2
  subst hb
  cases c : betwD 0 64 d with
  | true => exact q1 c _ (Ex.refl _)
  | false => exact ⟨_, rfl, (by show 1 ≤ 1000; decide), fun a ha => raised ha fun e H' ex he => q2 c e H' ex he⟩
theorem ok_check_many (T : TA2 K mg) : FnOk P w K mg base (L2.CX P w) 4 T.check_many.a T.check_many.fd ["many"] (spChkD K T.InvalidMany.C many64) := by
  refine T.check_many.F.okX sc_check_many (fun vs H Q E h => ?_) (fun cdv A outer s H vs Q E hr h => ?_)
  · obtain ⟨x, d, n, ok, rfl, _⟩ := h; rfl
  obtain ⟨x, d, n, ok, rfl, h, q1, q2⟩ := h
  refine ⟨_, (pss_one (ps_if (pt_not (pt_val (pe_call (ok_is_between T.toTA1) (hr.mono (by decide)) rfl T.is_between.m T.is_between.F.kp T.is_between.b .nil pass0 (pa_cons (pv 0) (pa_cons pe_int (pa_cons (pe_glob (v := .int 64) rfl T.c_HIGHEST ⟨_, rfl⟩) pa_nil)))))) (pss_one (ps_raise rfl (takes_of rfl rfl rfl rfl) (pmk_oex T.InvalidMany.T T.InvalidMany.iC T.InvalidMany.tI (ok_init_InvalidMany T.InvalidMany) (hr.mono (by decide)) T.InvalidMany.b .nil pass0 rfl T.InvalidMany.gC (by exact (pa_cons (pv 0) pa_nil))))) pss_nil)), ?_⟩
  refine ⟨_, rfl, _, _, _, rfl, h.dat, fun b h1 h2 => ⟨b, rfl, ?_⟩⟩
  have hb := rd_betw h h1 h2
  subst hb
  cases c : betwD 1 64 d with
  | true => exact q1 c _ (Ex.refl _)
  | false => exact ⟨_, rfl, (by show 1 ≤ 1000; decide), fun a ha => raised ha fun e H' ex he => q2 c e H' ex he⟩
theorem betw_int {lo hi : Int} {ok : Addr → Prop} {H : Hp} {n : Nat} {x : V} {d : PyData} (h : Rd K ok H n x d) (c : betwD lo hi d = true) : ∃ i, x = .int i ∧ d = .int i ∧ lo ≤ i ∧ i ≤ hi := by
  cases h with
  | int i => exact ⟨i, rfl, rfl, of_decide_eq_true c⟩
  | non => cases c
  | bl _ => cases c
  | str _ _ _ => cases c
  | lst _ _ _ _ _ => cases c
  | tup _ _ _ _ _ => cases c

def evenOf (i j : Int) : List Int := List.replicate (i - i / j * j).toNat (i / j + 1) ++ List.replicate (j - (i - i / j * j)).toNat (i / j)
def spEven (K : PySem.W.Frag) (C D : Addr) : Sp := fun vs H Q E => ∃ x y dx dy n ok, vs = [x, y] ∧ Rd K ok H n x dx ∧ Rd K ok H n y dy ∧
  (num64 dx = true → many64 dy = true → ∀ p H', Ex H H' → (∀ i j, x = .int i → y = .int j → SqT K H' p ((evenOf i j).map V.int)) → Q (.ref p) H') ∧
  (num64 dx = false → ∀ e H', Ex H H' → H' e = some (.xd [("given", x)]) → E (.ref C) (some e) H') ∧
  (num64 dx = true → many64 dy = false → ∀ e H', Ex H H' → H' e = some (.xd [("given", y)]) → E (.ref D) (some e) H')
theorem rep_one {n : Nat} {x : V} : (List.replicate n [x]).flatten = List.replicate n x := by
  induction n with
  | zero => rfl
  | succ n ih => rw [List.replicate_succ, List.flatten_cons, ih, List.replicate_succ]; rfl
theorem even_map {i j : Int} : (List.replicate (i - i / j * j).toNat (V.int (i / j + 1)) ++ List.replicate (j - (i - i / j * j)).toNat (V.int (i / j))) = (evenOf i j).map V.int := by
  unfold evenOf
  rw [List.map_append, List.map_replicate, List.map_replicate]
theorem ok_even_parts (T : TA2 K mg) : FnOk P w K mg base (L2.CX P w) 5 T.even_parts.a T.even_parts.fd ["total", "many"] (spEven K T.InvalidNumber.C T.InvalidMany.C) := by
  refine T.even_parts.F.okX sc_even_parts (fun vs H Q E h => ?_) (fun cdv A outer s H vs Q E hr h => ?_)
  · obtain ⟨x, y, dx, dy, n, ok, rfl, _⟩ := h; rfl
  obtain ⟨x, y, dx, dy, n, ok, rfl, hx, hy, q1', q2, q3⟩ := h
  refine ⟨_, (pss_cons (ps_expr (by exact (pe_callS (ok_check_number T) (hr.mono (by decide)) rfl T.check_number.m T.check_number.F.kp T.check_number.b (fun σ => passAt (takes_of rfl rfl rfl rfl) σ) (pa_cons (pv 0) pa_nil))))
    (pss_cons (ps_expr (by exact (pe_callS (ok_check_many T) (hr.mono (by decide)) rfl T.check_many.m T.check_many.F.kp T.check_many.b (fun σ => passAt (takes_of rfl rfl rfl rfl) σ) (pa_cons (pv 1) pa_nil))))
    (pss_cons (ps_set (i := 2) sc_even_parts.nd rfl (Or.inl rfl) (pe_op op_fdiv (pv 0) (pv 1)))
    (pss_cons (ps_set (i := 3) sc_even_parts.nd rfl (Or.inl rfl) (pe_op op_sub (pv 0) (pe_op op_mul (pv 2) (pv 1))))
    (pss_one (ps_ret (pe_op (kcatA K) (pe_op (krepA K) (pe_tup (pa_cons (pe_op op_add (pv 2) pe_int) pa_nil)) (pv 3)) (pe_op (krepA K) (pe_tup (pa_cons (pv 2) pa_nil)) (pe_op op_sub (pv 1) (pv 3)))))))))), ?_⟩
  refine ⟨_, rfl, x, dx, n, ok, rfl, hx, fun c H1 e1 => ?_, fun no e H1 e1 he => q2 no e H1 e1 he⟩
  refine ⟨_, rfl, y, dy, n, ok, rfl, hy.ex e1, fun c2 H2 e2 => ?_, fun no e H2 e2 he => q3 c no e H2 (e1.trans e2) he⟩
  obtain ⟨i, rfl, rfl, i0, i1⟩ := betw_int hx c
  obtain ⟨j, rfl, rfl, j0, j1⟩ := betw_int hy c2
  have q1 : ∀ p H', Ex H H' → SqT K H' p (List.replicate (i - i / j * j).toNat (V.int (i / j + 1)) ++ List.replicate (j - (i - i / j * j)).toNat (V.int (i / j))) → Q (.ref p) H' := fun p H' e h => q1' c c2 p H' e fun i' j' ei ej => by
    cases ei; cases ej; rw [even_map] at h; exact h
  have d2 : i / j * j ≤ i := Int.ediv_mul_le _ (by omega)
  have d3 : i - i / j * j < j := by
    have := Int.lt_ediv_add_one_mul_self i (show 0 < j by omega)
    have e : (i / j + 1) * j = i / j * j + j := by rw [Int.add_mul, Int.one_mul]
    omega
  refine ⟨_, rfl, _, rfl, _, _, rfl, rfl, ⟨by omega, by omega⟩, ?_⟩
  refine ⟨_, rfl, _, rfl, _, rfl, _, _, rfl, rfl, .inr ⟨by omega, by omega⟩, _, _, rfl, rfl, ?_⟩
  refine ⟨_, rfl, _, _, rfl, rfl, (by show 1 ≤ sizeLine; decide), fun p hp => ?_⟩
  refine ⟨_, rfl, p, _, _, rfl, rfl, st_of upd_same, by simp, by omega, by omega, (by show 1 ≤ 1000; decide), fun r H3 e3 hr3 => ?_⟩
  refine ⟨_, rfl, (by show 1 ≤ sizeLine; decide), fun p2 hp2 => ?_⟩
  refine ⟨_, rfl, _, rfl, _, _, rfl, rfl, p2, _, _, rfl, rfl, st_of upd_same, by simp, by omega, by omega, (by show 1 ≤ 1000; decide), fun r2 H4 e4 hr4 => ?_⟩
  rw [rep_one] at hr3 hr4
  have hr3' := ex_t e4 (ex_t (Ex.new hp2) hr3)
  have e5 : Ex H H4 := (((e1.trans e2).trans (Ex.new hp)).trans e3).trans ((Ex.new hp2).trans e4)
  refine ⟨r, r2, _, _, rfl, rfl, hr3', hr4, ?_, ?_, ?_, ?_⟩
  · rw [List.length_replicate, List.length_replicate]
    exact Nat.le_trans (show _ ≤ 1000 by omega) (by decide)
  · intro z
    refine q1 r2 _ e5 ?_
    rw [z]
    exact hr4
  · intro _ z
    refine q1 r _ e5 ?_
    rw [z, List.append_nil]
    exact hr3'
  · intro _ _ p5 hp5
    exact q1 p5 _ (e5.trans (Ex.new hp5)) (st_of upd_same)
/-! ### comprehensions over a list or a tuple -/
theorem given_all {n : Nat} {v : Nat → V} : given n (fun _ => true) v = (List.range n).map v := by
  unfold given
  rw [List.filter_eq_self.mpr (by intro a _; rfl)]
theorem el_lcT {σ : L2.St} {H : Hp} {a : Addr} {xs : List V} {tl te : TE} {t : TT} {j : Nat} {vs : List Nat} (f : Nat → Bool) (v : Nat → V) (h : Ev tl σ H (.ref a)) (hx : SqT K H a xs) (hz : xs.length ≤ 40000)
    (hw : ∀ x, wipe ((wipe σ vs).set j (some x)) vs = wipe σ vs) (ht : ∀ (i : Nat) (x : V) H1, Ex H H1 → xs[i]? = some x → EvT t ((wipe σ vs).set j (some x)) H1 (f i))
    (he : ∀ (i : Nat) (x : V) H1, Ex H H1 → xs[i]? = some x → f i = true → Ev te ((wipe σ vs).set j (some x)) H1 (v i)) : EvL (tLc (iTup K tl) (gName j) t te vs) σ H (given xs.length f v) := by
  intro H0 e Q q
  refine h H0 e _ fun H1 e1 => ?_
  have e01 := e.trans e1
  refine ⟨a, rfl, ⟨xs, ex_t e01 hx⟩, fun Dl hD => lc_tup (xs := xs) (Cw H1 f v Dl) ⟨hD, Ex.new hD, upd_same⟩ (fun i H' _ p => ex_t (e01.trans p.2.1) hx) ?_ ?_⟩
  · intro i x H' hi p
    have hlt := (List.getElem?_eq_some_iff.mp hi).1
    exact ⟨hw x, cw_turn p (by omega) (ht i x H1 e01 hi) (fun hf => he i x H1 e01 hi hf)⟩
  · exact fun H' p => q Dl H' (fresh_back e1 p.1) (e1.trans p.2.1) p.2.2
theorem el_lcL {σ : L2.St} {H : Hp} {a : Addr} {xs : List V} {tl te : TE} {t : TT} {j : Nat} {vs : List Nat} (f : Nat → Bool) (v : Nat → V) (h : Ev tl σ H (.ref a)) (hx : SqL K H a xs) (hz : xs.length ≤ 40000)
    (hw : ∀ x, wipe ((wipe σ vs).set j (some x)) vs = wipe σ vs) (ht : ∀ (i : Nat) (x : V) H1, Ex H H1 → xs[i]? = some x → EvT t ((wipe σ vs).set j (some x)) H1 (f i))
    (he : ∀ (i : Nat) (x : V) H1, Ex H H1 → xs[i]? = some x → f i = true → Ev te ((wipe σ vs).set j (some x)) H1 (v i)) : EvL (tLc (iList K tl) (gName j) t te vs) σ H (given xs.length f v) := by
  intro H0 e Q q
  refine h H0 e _ fun H1 e1 => ?_
  have e01 := e.trans e1
  refine ⟨a, rfl, ⟨xs, ex_l e01 hx⟩, fun Dl hD => lc_list (xs := xs) (Cw H1 f v Dl) ⟨hD, Ex.new hD, upd_same⟩ (fun i H' _ p => ex_l (e01.trans p.2.1) hx) ?_ ?_⟩
  · intro i x H' hi p
    have hlt := (List.getElem?_eq_some_iff.mp hi).1
    exact ⟨hw x, cw_turn p (by omega) (ht i x H1 e01 hi) (fun hf => he i x H1 e01 hi hf)⟩
  · exact fun H' p => q Dl H' (fresh_back e1 p.1) (e1.trans p.2.1) p.2.2
/-! ### all of a list or tuple are ints from lo on -/
def itemsD : PyData → List PyData
  | .list ds => ds
  | .tuple ds => ds
  | _ => []
/-- an address of a list or a tuple that holds data -/
theorem rd_seq {ok : Addr → Prop} {H : Hp} {n : Nat} {x : V} {d : PyData} (h : Rd K ok H n x d) (s : isSeq d = true) : ∃ a xs, x = .ref a ∧ (SqL K H a xs ∧ d = .list (itemsD d) ∨ SqT K H a xs ∧ d = .tuple (itemsD d)) ∧ xs.length = (itemsD d).length ∧ xs.length ≤ 1000 ∧
    ∀ (i : Nat) (x : V) (e : PyData), xs[i]? = some x → (itemsD d)[i]? = some e → Rd K ok H (n - 1) x e := by
  cases h with
  | lst h ha hl hz all => exact ⟨_, _, rfl, .inl ⟨SqL.of h, rfl⟩, hl, by omega, all⟩
  | tup h ha hl hz all => exact ⟨_, _, rfl, .inr ⟨h, rfl⟩, hl, by omega, all⟩
  | non => cases s
  | bl _ => cases s
  | int _ => cases s
  | str _ _ _ => cases s
def spAreFrom (K : PySem.W.Frag) : Sp := fun vs H Q _ => ∃ x d n ok lo, vs = [x, .int lo] ∧ Rd K ok H n x d ∧ isSeq d = true ∧ ∀ H', Ex H H' → Q (.bl ((itemsD d).all (fromD lo))) H'
theorem ok_are_from (T : TA2 K mg) : FnOk P w K mg base CX0 3 T.are_from.a T.are_from.fd ["values", "low"] (spAreFrom K) := by
  refine T.are_from.F.ok sc_are_from (fun vs H Q E h => ?_) (fun cdv A outer s H vs Q E hr h => ?_)
  · obtain ⟨x, d, n, ok, lo, rfl, _⟩ := h; rfl
  obtain ⟨x, d, n, ok, lo, rfl, h, sq, q⟩ := h
  obtain ⟨a, xs, rfl, hs, hl, hz, all⟩ := rd_seq h sq
  refine ⟨_, (pss_one (ps_ret (pe_callB (kall K rfl) (by rfl) T.z_all (by decide +kernel) (pa_cons (pe_lc (own := [("value", 2)]) (g := gName 2) (by rfl) sc_are_from.nd (kpis K (pv 0)) (blkOk_by (own := [("value", 2)]) (N := ["values", "low", "value"]) (sc := defScope s_are_from) (by decide +kernel)) (fun _ _ _ _ _ => (pg_name (i := 2) sc_are_from.nd rfl (Or.inl rfl))) (fun _ _ _ _ _ => pts_nil) (fun _ _ _ _ _ => (pe_call (ok_is_from T.toTA1) (hr.mono (by decide)) rfl T.is_from.m T.is_from.F.kp T.is_from.b .nil pass0 (pa_cons (pv 2) (pa_cons (pv 1) pa_nil))))) pa_nil)))), ?_⟩
  have fin : ∀ (p : Addr) (H2 : Hp), H p = none → Ex H H2 → H2 p = some (.lst (given xs.length (fun _ => true) (fun i => .bl (fromD lo ((itemsD d).getD i .none))))) → ∃ (a : Addr) (bs : List Bool), [V.ref p] = [V.ref a] ∧ SqL K H2 a (bs.map V.bl) ∧ Q (.bl (bs.all id)) H2 := by
    intro p H2 _ e2 h2
    rw [given_all] at h2
    refine ⟨p, (itemsD d).map (fromD lo), rfl, ?_, ?_⟩
    · have e : (List.range xs.length).map (fun i => V.bl (fromD lo ((itemsD d).getD i .none))) = ((itemsD d).map (fromD lo)).map V.bl := by
        apply List.ext_getElem?
        intro i
        rw [List.getElem?_map, List.getElem?_map, List.getElem?_map]
        by_cases c : i < xs.length
        · rw [List.getElem?_range c, List.getElem?_eq_getElem (show i < (itemsD d).length by omega)]
          simp [List.getD_eq_getElem?_getD, List.getElem?_eq_getElem (show i < (itemsD d).length by omega)]
        · rw [List.getElem?_eq_none (by rw [List.length_range]; omega), List.getElem?_eq_none (show (itemsD d).length ≤ i by omega)]
          rfl
      rw [e] at h2
      exact SqL.of h2
    · rw [List.all_map]
      exact q H2 e2
  have he : ∀ (i : Nat) (x : V) (H1 : Hp), Ex H H1 → xs[i]? = some x → Ev (tCall (spIsFrom K) [] E0 (tCons (tVar 2) (tCons (tVar 1) tNil))) ((wipe (start ["values", "low", "value"] [.ref a, .int lo]) [2]).set 2 (some x)) H1 (.bl (fromD lo ((itemsD d).getD i .none))) := by
    intro i x H1 e1 hx H2 e2 Q2 k2
    have hi := (List.getElem?_eq_some_iff.mp hx).1
    have hd : (itemsD d)[i]? = some ((itemsD d)[i]'(by omega)) := List.getElem?_eq_getElem _
    have r := (all i x _ hx hd).ex (e1.trans e2)
    have g : (itemsD d).getD i .none = (itemsD d)[i]'(by omega) := by rw [List.getD_eq_getElem?_getD, hd]; rfl
    refine ⟨_, rfl, _, rfl, _, _, rfl, r.dat, fun b h1 h2 => ?_⟩
    rw [rd_from r h1 h2, ← g]
    exact k2 H2 (Ex.refl _)
  rcases hs with ⟨hs, _⟩ | ⟨hs, _⟩
  · exact .inl ((el_lcL (t := tYes) (σ := start ["values", "low", "value"] [.ref a, .int lo]) (vs := [2]) (fun _ => true) (fun i => .bl (fromD lo ((itemsD d).getD i .none))) (ev_var rfl) hs (by omega) (fun _ => rfl) (fun i x H1 _ _ H2 _ Q k => k H2 (Ex.refl _)) (fun i x H1 e1 hx _ => he i x H1 e1 hx)) H (Ex.refl _) (fun v H2 => rAll K [v] H2 Q) fin)
  · exact .inr ((el_lcT (t := tYes) (σ := start ["values", "low", "value"] [.ref a, .int lo]) (vs := [2]) (fun _ => true) (fun i => .bl (fromD lo ((itemsD d).getD i .none))) (ev_var rfl) hs (by omega) (fun _ => rfl) (fun i x H1 _ _ H2 _ Q k => k H2 (Ex.refl _)) (fun i x H1 e1 hx _ => he i x H1 e1 hx)) H (Ex.refl _) (fun v H2 => rAll K [v] H2 Q) fin)

/-- what arrangements reckons -/
def arr : Int → List Int → Int
  | _, [] => 1
  | t, p :: r => PySem.W.mcComb (t + p) p * arr (t + p) r
def arrUp (l : List Int) : Int × Int := l.foldl (fun s p => (s.1 * PySem.W.mcComb (s.2 + p) p, s.2 + p)) (1, 0)
theorem arrUp_more {l : List Int} {i : Nat} {z : Int} (h : l[i]? = some z) : arrUp (l.take (i + 1)) = ((arrUp (l.take i)).1 * PySem.W.mcComb ((arrUp (l.take i)).2 + z) z, (arrUp (l.take i)).2 + z) := by
  obtain ⟨hi, e⟩ := List.getElem?_eq_some_iff.mp h
  rw [← List.take_append_getElem hi, e]
  unfold arrUp
  rw [List.foldl_append]
  rfl
theorem arrUp_two (l : List Int) (i : Nat) : (arrUp (l.take i)).2 = (l.take i).sum := by
  have gen : ∀ (m : List Int) (s : Int × Int), (m.foldl (fun s p => (s.1 * PySem.W.mcComb (s.2 + p) p, s.2 + p)) s).2 = s.2 + m.sum := by
    intro m
    induction m with
    | nil => intro s; simp
    | cons a r ih => intro s; rw [List.foldl_cons, ih, List.sum_cons]; exact Int.add_assoc _ _ _
  have g := gen (l.take i) (1, 0)
  unfold arrUp
  rw [g]
  exact Int.zero_add _
theorem nn_sum {l : List Int} (h : ∀ n ∈ l, 0 ≤ n) : 0 ≤ l.sum := by
  induction l with
  | nil => exact Int.le_refl _
  | cons a r ih =>
    rw [List.sum_cons]
    have h1 := h a List.mem_cons_self
    have h2 := ih fun n hn => h n (List.mem_cons_of_mem _ hn)
    omega
theorem part_le {l : List Int} (h : ∀ n ∈ l, 0 ≤ n) {i : Nat} {z : Int} (hz : l[i]? = some z) : 0 ≤ z ∧ 0 ≤ (l.take i).sum ∧ (l.take i).sum + z ≤ l.sum := by
  obtain ⟨hi, e⟩ := List.getElem?_eq_some_iff.mp hz
  have h1 : 0 ≤ z := h z (e ▸ List.getElem_mem hi)
  have h2 : 0 ≤ (l.take i).sum := nn_sum fun n hn => h n (List.mem_of_mem_take hn)
  have h3 : 0 ≤ (l.drop (i + 1)).sum := nn_sum fun n hn => h n (List.mem_of_mem_drop hn)
  have h4 : l.sum = (l.take i).sum + (z + (l.drop (i + 1)).sum) := by
    conv => lhs; rw [← List.take_append_drop i l, List.drop_eq_getElem_cons hi, e]
    rw [List.sum_append, List.sum_cons]
  omega
theorem comb_lt {a b : Int} (ha : 0 ≤ a) (h : a ≤ 64) (hb : 0 ≤ b) (hb2 : b ≤ 64) : 0 ≤ PySem.W.mcComb a b ∧ PySem.W.mcComb a b < 2 ^ 64 := by
  have key : ∀ n : Fin 65, ∀ k : Fin 65, 0 ≤ PySem.W.mcComb (n.val : Int) (k.val : Int) ∧ PySem.W.mcComb (n.val : Int) (k.val : Int) < 2 ^ 64 := by decide +kernel
  have := key ⟨a.toNat, by omega⟩ ⟨b.toNat, by omega⟩
  simpa [Int.toNat_of_nonneg ha, Int.toNat_of_nonneg hb] using this

def intD : PyData → Int
  | .int i => i
  | _ => 0
def intsD (d : PyData) : List Int := (itemsD d).map intD
def partsD (d : PyData) : Bool := isSeq d && (itemsD d).all (fromD 0) && decide ((intsD d).sum ≤ 64)
theorem ints_of {ok : Addr → Prop} {H : Hp} {n : Nat} {xs : List V} : ∀ {ds : List PyData} {xs : List V} {lo : Int}, xs.length = ds.length → (∀ (i : Nat) (x : V) (e : PyData), xs[i]? = some x → ds[i]? = some e → Rd K ok H n x e) → ds.all (fromD lo) = true →
    xs = (ds.map intD).map V.int ∧ ∀ z ∈ ds.map intD, lo ≤ z := by
  intro ds
  induction ds with
  | nil => intro xs lo hl _ _; cases xs with
    | nil => exact ⟨rfl, by simp⟩
    | cons _ _ => cases hl
  | cons d r ih => intro xs lo hl h ha; cases xs with
    | nil => cases hl
    | cons x xs =>
      rw [List.all_cons, Bool.and_eq_true] at ha
      have h0 := h 0 x d rfl rfl
      obtain ⟨e, f⟩ := ih (Nat.succ.inj hl) (fun i x e hx he => h (i + 1) x e hx he) ha.2
      have ha1 := ha.1
      cases h0 with
      | int i =>
        have hi : lo ≤ i := of_decide_eq_true ha1
        refine ⟨?_, ?_⟩
        · rw [List.map_cons, List.map_cons, ← e]; rfl
        · intro z hz
          rcases List.mem_cons.mp hz with rfl | hz
          · exact hi
          · exact f z hz
      | non => cases ha1
      | bl _ => cases ha1
      | str _ _ _ => cases ha1
      | lst _ _ _ _ _ => cases ha1
      | tup _ _ _ _ _ => cases ha1
def spArr (K : PySem.W.Frag) (C : Addr) : Sp := fun vs H Q E => ∃ x d n ok, vs = [x] ∧ Rd K ok H n x d ∧
  (partsD d = true → ∀ H', Ex H H' → Q (.int (arrUp (intsD d)).1) H') ∧
  (partsD d = false → ∀ e H', Ex H H' → H' e = some (.xd [("given", x)]) → E (.ref C) (some e) H')
theorem ok_arrangements (T : TA2 K mg) : FnOk P w K mg base (L2.CX P w) 5 T.arrangements.a T.arrangements.fd ["parts"] (spArr K T.InvalidParts.C) := by
  refine T.arrangements.F.okX sc_arrangements (fun vs H Q E h => ?_) (fun cdv A outer s H vs Q E hr h => ?_)
  · obtain ⟨x, d, n, ok, rfl, _⟩ := h; rfl
  obtain ⟨x, d, n, ok, rfl, h, q1, q2⟩ := h
  refine ⟨_, (pss_cons (ps_if (PW.pt (pw_or (pt_not (pt_val (pe_call (ok_is_list T.toTA1) (hr.mono (by decide)) rfl T.is_list.m T.is_list.F.kp T.is_list.b .nil pass0 (pa_cons (pv 0) pa_nil)))) (pw_or (pt_not (pt_val (pe_call (ok_are_from T) (hr.mono (by decide)) rfl T.are_from.m T.are_from.F.kp T.are_from.b .nil pass0 (pa_cons (pv 0) (pa_cons pe_int pa_nil))))) (pw_or1 (pt_cmpR op_gt (pe_callB (ksum K rfl) (by rfl) T.z_sum (by decide +kernel) (pa_cons (pv 0) pa_nil)) (pe_glob (v := .int 64) rfl T.c_HIGHEST ⟨_, rfl⟩) (nomark _)))))) (pss_one (ps_raise rfl (takes_of rfl rfl rfl rfl) (pmk_oex T.InvalidParts.T T.InvalidParts.iC T.InvalidParts.tI (ok_init_InvalidParts T.InvalidParts) (hr.mono (by decide)) T.InvalidParts.b .nil pass0 rfl T.InvalidParts.gC (by exact (pa_cons (pv 0) pa_nil))))) pss_nil)
    (pss_cons (ps_set (i := 1) sc_arrangements.nd rfl (Or.inl rfl) pe_int)
    (pss_cons (ps_set (i := 2) sc_arrangements.nd rfl (Or.inl rfl) pe_int)
    (pss_cons (ps_for (passes_of rfl) rfl (kpis K (pv 0)) (pg_name (i := 3) sc_arrangements.nd rfl (Or.inl rfl)) (pss_cons (ps_aug (i := 2) sc_arrangements.nd rfl (Or.inl rfl) (pv 3) ip_add)
    (pss_one (ps_aug (i := 1) sc_arrangements.nd rfl (Or.inl rfl) (pe_callBfun cr_comb rfl T.c_comb (pa_cons (pv 2) (pa_cons (pv 3) pa_nil))) ip_mulC))))
    (pss_one (ps_ret (pv 1))))))), ?_⟩
  refine ⟨_, rfl, x, d, n, ok, rfl, .inl h, fun H1 e1 => ⟨isSeq d, rfl, ?_⟩⟩
  cases sq : isSeq d with
  | false => exact ⟨_, rfl, (by show 1 ≤ 1000; decide), fun a ha => raised ha fun e H' ex he => q2 (by unfold partsD; rw [sq]; rfl) e H' (e1.trans ex) he⟩
  | true =>
  have h1 := h.ex e1
  refine ⟨_, rfl, x, d, n, ok, 0, rfl, h1, sq, fun H2 e2 => ⟨_, rfl, ?_⟩⟩
  cases al : (itemsD d).all (fromD 0) with
  | false => exact ⟨_, rfl, (by show 1 ≤ 1000; decide), fun a ha => raised ha fun e H' ex he => q2 (by unfold partsD; rw [sq, al]; rfl) e H' ((e1.trans e2).trans ex) he⟩
  | true =>
  obtain ⟨a, xs, rfl, hs, hl, hz, all⟩ := rd_seq (h1.ex e2) sq
  obtain ⟨hxs, hall⟩ := ints_of (xs := xs) hl all al
  have e12 := e1.trans e2
  obtain ⟨ns, hns⟩ : ∃ ns, ns = intsD d := ⟨_, rfl⟩
  have hxs' : xs = ns.map V.int := by rw [hns]; exact hxs
  rw [hxs'] at hs
  have exs : SqL K H2 a (ns.map V.int) ∨ SqT K H2 a (ns.map V.int) := hs.imp (fun z => z.1) (fun z => z.1)
  have hall : ∀ z ∈ ns, 0 ≤ z := by rw [hns]; exact hall
  refine ⟨_, rfl, a, ns, rfl, exs, _, _, rfl, rfl, _, rfl, ite2 (fun c => ?_) (fun c => ?_)⟩
  · have c' : ¬ ns.sum ≤ 64 := by have := of_decide_eq_true c; omega
    exact ⟨_, rfl, (by show 1 ≤ 1000; decide), fun x hx => raised hx fun e H' ex he => q2 (by unfold partsD; rw [sq, al, ← hns, decide_eq_false c']; rfl) e H' (e12.trans ex) he⟩
  · have c' : ns.sum ≤ 64 := by
      have := of_decide_eq_false (Bool.eq_false_iff.mpr c)
      omega
    have okp : partsD d = true := by unfold partsD; rw [sq, al, ← hns, decide_eq_true c']; rfl
    rw [← hns] at q1
    have turn : ∀ (i : Nat) (x : V) (σ : L2.St), (ns.map V.int)[i]? = some x → (∃ v, σ = [some (.ref a), some (.int (arrUp (ns.take i)).1), some (.int (arrUp (ns.take i)).2), v]) →
        gName 3 x σ H2 fun σ2 H3 => tSeq (tAug 2 (tVar 3) (ipI fun i j => i + j)) (tAug 1 (tCB rComb (tCons (tVar 2) (tCons (tVar 3) tNil))) (fun x y H Q => ∃ i j, x = .int i ∧ y = .int j ∧ CMul i j ∧ Q (.int (i * j)) H))
          { nx := fun σ' H' => H' = H2 ∧ ∃ v, σ' = [some (.ref a), some (.int (arrUp (ns.take (i + 1))).1), some (.int (arrUp (ns.take (i + 1))).2), v], rt := Q } σ2 H3 := by
      rintro i x σ hx ⟨v, rfl⟩
      obtain ⟨z, hz, rfl⟩ := ints_get hx
      have hp := part_le hall hz
      have hm := arrUp_more hz
      have h2 := arrUp_two ns i
      have hc := @comb_lt ((arrUp (ns.take i)).2 + z) z (by omega) (by omega) hp.1 (by omega)
      refine ⟨_, rfl, _, rfl, _, _, rfl, rfl, ?_⟩
      refine ⟨_, rfl, _, rfl, _, rfl, _, _, rfl, (show 0 ≤ (arrUp (ns.take i)).2 + z by omega), (show (arrUp (ns.take i)).2 + z ≤ 1000 by omega), hp.1, by omega, _, _, rfl, rfl, .inr ⟨(show -(2 ^ 64) < PySem.W.mcComb ((arrUp (ns.take i)).2 + z) z by omega), hc.2⟩, rfl, some (.int z), ?_⟩
      rw [hm]
      rfl
    have fin : ∀ σ H', (H' = H2 ∧ ∃ v, σ = [some (.ref a), some (.int (arrUp (ns.take (ns.map V.int).length)).1), some (.int (arrUp (ns.take (ns.map V.int).length)).2), v]) → tRet (tVar 1) { nx := fun _ H' => Q .non H', rt := Q } σ H' := by
      rintro σ H' ⟨rfl, v, rfl⟩
      rw [List.length_map, List.take_length]
      exact ⟨_, rfl, q1 okp _ e12⟩
    rcases exs with hs2 | hs2
    · exact .inl ⟨_, rfl, a, rfl, ⟨_, hs2⟩, for_list (xs := ns.map V.int) (fun i σ H' => H' = H2 ∧ ∃ v, σ = [some (.ref a), some (.int (arrUp (ns.take i)).1), some (.int (arrUp (ns.take i)).2), v]) ⟨rfl, none, rfl⟩
        (fun i σ H' _ ⟨e, _⟩ => e ▸ hs2) (fun i x σ H' hx ⟨e, hv⟩ => e ▸ turn i x σ hx hv) fin⟩
    · exact .inr ⟨_, rfl, a, rfl, ⟨_, hs2⟩, for_tup (xs := ns.map V.int) (fun i σ H' => H' = H2 ∧ ∃ v, σ = [some (.ref a), some (.int (arrUp (ns.take i)).1), some (.int (arrUp (ns.take i)).2), v]) ⟨rfl, none, rfl⟩
        (fun i σ H' _ ⟨e, _⟩ => e ▸ hs2) (fun i x σ H' hx ⟨e, hv⟩ => e ▸ turn i x σ hx hv) fin⟩

def mostA (t r s : Int) : Int := if t - s < r then 0 else (arrUp (evenOf (t - s) r ++ [s])).1
def spMost (K : PySem.W.Frag) (C D F : Addr) : Sp := fun vs H Q E => ∃ x y z dx dy dz n ok, vs = [x, y, z] ∧ Rd K ok H n x dx ∧ Rd K ok H n y dy ∧ Rd K ok H n z dz ∧
  (num64 dx = true → many64 dy = true → num64 dz = true → ∀ H', Ex H H' → Q (.int (mostA (intD dx) (intD dy) (intD dz))) H') ∧
  (num64 dx = false → ∀ e H', Ex H H' → H' e = some (.xd [("given", x)]) → E (.ref C) (some e) H') ∧
  (num64 dx = true → many64 dy = false → ∀ e H', Ex H H' → H' e = some (.xd [("given", y)]) → E (.ref D) (some e) H') ∧
  (num64 dx = true → many64 dy = true → num64 dz = false → ∀ e H', Ex H H' → H' e = some (.xd [("given", z)]) → E (.ref F) (some e) H')
theorem even_sum {i j : Int} (h0 : 0 ≤ i) (hj : 1 ≤ j) : (evenOf i j).length = j.toNat ∧ (evenOf i j).sum = i ∧ ∀ x ∈ evenOf i j, 0 ≤ x := by
  have d2 : i / j * j ≤ i := Int.ediv_mul_le _ (by omega)
  have d0 : 0 ≤ i / j := Int.ediv_nonneg h0 (by omega)
  have d3 : i - i / j * j < j := by
    have := Int.lt_ediv_add_one_mul_self i (show 0 < j by omega)
    have e : (i / j + 1) * j = i / j * j + j := by rw [Int.add_mul, Int.one_mul]
    omega
  generalize hg : i - i / j * j = g at *
  have sums : ∀ (n : Nat) (x : Int), (List.replicate n x).sum = n * x := by
    intro n x
    induction n with
    | zero => simp
    | succ n ih => rw [List.replicate_succ, List.sum_cons, ih]; rw [Int.natCast_succ, Int.add_mul, Int.one_mul, Int.add_comm]
  unfold evenOf
  rw [hg]
  refine ⟨by rw [List.length_append, List.length_replicate, List.length_replicate]; omega, ?_, ?_⟩
  · rw [List.sum_append, sums, sums, Int.toNat_of_nonneg (by omega), Int.toNat_of_nonneg (by omega), Int.mul_add, Int.sub_mul, Int.mul_one, Int.mul_comm j]
    omega
  · intro x hx
    rw [List.mem_append] at hx
    rcases hx with hx | hx
    · rw [List.eq_of_mem_replicate hx]; omega
    · rw [List.eq_of_mem_replicate hx]; omega
theorem okr_most_arranged (T : TA2 K mg) : FnOk P w K mg base (L2.CX P w) 6 T.most_arranged.a T.most_arranged.fd ["total", "rounds", "rest"] (spMost K T.InvalidNumber.C T.InvalidMany.C T.InvalidRest.C) := by
  refine T.most_arranged.F.okX sc_most_arranged (fun vs H Q E h => ?_) (fun cdv A outer s H vs Q E hr h => ?_)
  · obtain ⟨x, y, z, dx, dy, dz, n, ok, rfl, _⟩ := h; rfl
  obtain ⟨x, y, z, dx, dy, dz, n, ok, rfl, hx, hy, hz, q1, q2, q3, q4⟩ := h
  refine ⟨_, (pss_cons (ps_expr (by exact (pe_callS (ok_check_number T) (hr.mono (by decide)) rfl T.check_number.m T.check_number.F.kp T.check_number.b (fun σ => passAt (takes_of rfl rfl rfl rfl) σ) (pa_cons (pv 0) pa_nil))))
    (pss_cons (ps_expr (by exact (pe_callS (ok_check_many T) (hr.mono (by decide)) rfl T.check_many.m T.check_many.F.kp T.check_many.b (fun σ => passAt (takes_of rfl rfl rfl rfl) σ) (pa_cons (pv 1) pa_nil))))
    (pss_cons (ps_if (pt_not (pt_val (pe_call (ok_is_between T.toTA1) (hr.mono (by decide)) rfl T.is_between.m T.is_between.F.kp T.is_between.b .nil pass0 (pa_cons (pv 2) (pa_cons pe_int (pa_cons (pe_glob (v := .int 64) rfl T.c_HIGHEST ⟨_, rfl⟩) pa_nil)))))) (pss_one (ps_raise rfl (takes_of rfl rfl rfl rfl) (pmk_oex T.InvalidRest.T T.InvalidRest.iC T.InvalidRest.tI (ok_init_InvalidRest T.InvalidRest) (hr.mono (by decide)) T.InvalidRest.b .nil pass0 rfl T.InvalidRest.gC (by exact (pa_cons (pv 2) pa_nil))))) pss_nil)
    (pss_cons (ps_if (pt_cmpR op_lt (pe_op op_sub (pv 0) (pv 2)) (pv 1) (nomark _)) (pss_one (ps_ret pe_int)) pss_nil)
    (pss_one (ps_ret (by exact (pe_callS (ok_arrangements T) (hr.mono (by decide)) rfl T.arrangements.m T.arrangements.F.kp T.arrangements.b (fun σ => passAt (takes_of rfl rfl rfl rfl) σ) (pa_cons (pe_op (kcatA K) (by exact (pe_callS (ok_even_parts T) (hr.mono (by decide)) rfl T.even_parts.m T.even_parts.F.kp T.even_parts.b (fun σ => passAt (takes_of rfl rfl rfl rfl) σ) (pa_cons (pe_op op_sub (pv 0) (pv 2)) (pa_cons (pv 1) pa_nil)))) (pe_tup (pa_cons (pv 2) pa_nil))) pa_nil))))))))), ?_⟩
  refine ⟨_, rfl, x, dx, n, ok, rfl, hx, fun c H1 e1 => ?_, fun no e H1 e1 he => q2 no e H1 e1 he⟩
  refine ⟨_, rfl, y, dy, n, ok, rfl, hy.ex e1, fun c2 H2 e2 => ?_, fun no e H2 e2 he => q3 c no e H2 (e1.trans e2) he⟩
  have e12 := e1.trans e2
  obtain ⟨i, rfl, rfl, i0, i1⟩ := betw_int hx c
  obtain ⟨j, rfl, rfl, j0, j1⟩ := betw_int hy c2
  have hz2 := hz.ex e12
  refine ⟨_, rfl, _, _, _, rfl, hz2.dat, fun b h1 h2 => ⟨b, rfl, ?_⟩⟩
  have hb := rd_betw hz2 h1 h2
  subst hb
  cases c3 : betwD 0 64 dz with
  | false => exact ⟨_, rfl, (by show 1 ≤ 1000; decide), fun a ha => raised ha fun e H' ex he => q4 c c2 c3 e H' (e12.trans ex) he⟩
  | true =>
  obtain ⟨k, rfl, rfl, k0, k1⟩ := betw_int hz c3
  have q := q1 c c2 c3
  refine ⟨_, rfl, _, rfl, _, _, rfl, rfl, _, rfl, _, _, rfl, rfl, _, rfl, ite2 (fun c4 => ?_) (fun c4 => ?_)⟩
  · have := of_decide_eq_true c4
    have e : mostA (intD (.int i)) (intD (.int j)) (intD (.int k)) = 0 := if_pos this
    rw [e] at q
    exact q _ e12
  · have c5 : ¬ (i - k < j) := of_decide_eq_false (Bool.eq_false_iff.mpr c4)
    have e : mostA (intD (.int i)) (intD (.int j)) (intD (.int k)) = (arrUp (evenOf (i - k) j ++ [k])).1 := if_neg c5
    rw [e] at q
    have cn : num64 (.int (i - k)) = true := decide_eq_true ⟨by omega, by omega⟩
    refine ⟨_, rfl, _, rfl, _, _, rfl, rfl, _, rfl, .int (i - k), .int j, .int (i - k), .int j, 0, fun _ => True, rfl, .int _, .int _, fun _ _ p H3 e3 hp => ?_, fun no => absurd cn (by rw [no]; decide), fun _ no => absurd c2 (by rw [no]; decide)⟩
    have hp3 := hp _ _ rfl rfl
    obtain ⟨f1, f2, f3⟩ := even_sum (i := i - k) (j := j) (by omega) (by omega)
    refine ⟨_, rfl, (by show 1 ≤ sizeLine; decide), fun p2 hp2 => ?_⟩
    have e4 := Ex.new (o := .tup [.int k]) hp2
    have ds : ((evenOf (i - k) j).map V.int ++ [V.int k]) = (evenOf (i - k) j ++ [k]).map V.int := by rw [List.map_append]; rfl
    have lenE : (evenOf (i - k) j ++ [k]).length ≤ 900 := by rw [List.length_append, f1]; show _ + 1 ≤ 900; omega
    have sumE : (evenOf (i - k) j ++ [k]).sum = i := by rw [List.sum_append, f2]; simp
    have allE : ∀ x ∈ evenOf (i - k) j ++ [k], 0 ≤ x := by
      intro x hx
      rcases List.mem_append.mp hx with h | h
      · exact f3 x h
      · obtain rfl := List.mem_singleton.mp h; exact k0
    have go : ∀ (p5 : Addr) (H5 : Hp), Ex H H5 → SqT K H5 p5 ((evenOf (i - k) j ++ [k]).map V.int) → spArr K T.InvalidParts.C [.ref p5] H5 Q E := by
      intro p5 H5 e5 h5
      have ri : Rd K (fun _ => True) H5 1 (.ref p5) (.tuple ((evenOf (i - k) j ++ [k]).map PyData.int)) := .tup h5 trivial (by rw [List.length_map, List.length_map]) (by rw [List.length_map]; exact lenE) fun m x d hx hd => by
        obtain ⟨z, hz, rfl⟩ := ints_get hx
        rw [List.getElem?_map, hz] at hd
        obtain rfl := Option.some.inj hd
        exact .int z
      have ii : intsD (.tuple ((evenOf (i - k) j ++ [k]).map PyData.int)) = evenOf (i - k) j ++ [k] := by
        show ((evenOf (i - k) j ++ [k]).map PyData.int).map intD = _
        rw [List.map_map]
        exact List.map_id _
      have pd : partsD (.tuple ((evenOf (i - k) j ++ [k]).map PyData.int)) = true := by
        unfold partsD
        rw [ii, decide_eq_true (by rw [sumE]; exact i1), Bool.and_true, Bool.and_eq_true]
        refine ⟨rfl, ?_⟩
        show ((evenOf (i - k) j ++ [k]).map PyData.int).all (fromD 0) = true
        rw [List.all_eq_true]
        intro d hd
        obtain ⟨z, hz, rfl⟩ := List.mem_map.mp hd
        exact decide_eq_true (allE z hz)
      refine ⟨_, _, _, _, rfl, ri, fun _ H6 e6 => ?_, fun no => absurd pd (by rw [no]; decide)⟩
      rw [ii]
      exact q _ (e5.trans e6)
    have e34 := (e12.trans e3).trans e4
    refine ⟨p, p2, _, _, rfl, rfl, ex_t e4 hp3, st_of upd_same, ?_, ?_, ?_, ?_⟩
    · rw [List.length_map, f1]; exact Nat.le_trans (show _ + 1 ≤ 1000 by omega) (by decide)
    · intro z
      refine go p2 _ e34 ?_
      rw [← ds, z]
      exact st_of upd_same
    · intro _ z; cases z
    · intro _ _ p5 hp5
      refine go p5 _ (e34.trans (Ex.new hp5)) ?_
      rw [← ds]
      exact st_of upd_same

def spAreBetween (K : PySem.W.Frag) : Sp := fun vs H Q _ => ∃ x d n ok lo hi, vs = [x, .int lo, .int hi] ∧ Rd K ok H n x d ∧ isSeq d = true ∧ ∀ H', Ex H H' → Q (.bl ((itemsD d).all (betwD lo hi))) H'
theorem ok_are_between (T : TA2 K mg) : FnOk P w K mg base CX0 3 T.are_between.a T.are_between.fd ["values", "low", "high"] (spAreBetween K) := by
  refine T.are_between.F.ok sc_are_between (fun vs H Q E h => ?_) (fun cdv A outer s H vs Q E hr h => ?_)
  · obtain ⟨x, d, n, ok, lo, hi, rfl, _⟩ := h; rfl
  obtain ⟨x, d, n, ok, lo, hi, rfl, h, sq, q⟩ := h
  obtain ⟨a, xs, rfl, hs, hl, hz, all⟩ := rd_seq h sq
  refine ⟨_, (pss_one (ps_ret (pe_callB (kall K rfl) (by rfl) T.z_all (by decide +kernel) (pa_cons (pe_lc (own := [("value", 3)]) (g := gName 3) (by rfl) sc_are_between.nd (kpis K (pv 0)) (blkOk_by (own := [("value", 3)]) (N := ["values", "low", "high", "value"]) (sc := defScope s_are_between) (by decide +kernel)) (fun _ _ _ _ _ => (pg_name (i := 3) sc_are_between.nd rfl (Or.inl rfl))) (fun _ _ _ _ _ => pts_nil) (fun _ _ _ _ _ => (pe_call (ok_is_between T.toTA1) (hr.mono (by decide)) rfl T.is_between.m T.is_between.F.kp T.is_between.b .nil pass0 (pa_cons (pv 3) (pa_cons (pv 1) (pa_cons (pv 2) pa_nil)))))) pa_nil)))), ?_⟩
  have fin : ∀ (p : Addr) (H2 : Hp), H p = none → Ex H H2 → H2 p = some (.lst (given xs.length (fun _ => true) (fun i => .bl (betwD lo hi ((itemsD d).getD i .none))))) → ∃ (a : Addr) (bs : List Bool), [V.ref p] = [V.ref a] ∧ SqL K H2 a (bs.map V.bl) ∧ Q (.bl (bs.all id)) H2 := by
    intro p H2 _ e2 h2
    rw [given_all] at h2
    refine ⟨p, (itemsD d).map (betwD lo hi), rfl, ?_, ?_⟩
    · have e : (List.range xs.length).map (fun i => V.bl (betwD lo hi ((itemsD d).getD i .none))) = ((itemsD d).map (betwD lo hi)).map V.bl := by
        apply List.ext_getElem?
        intro i
        rw [List.getElem?_map, List.getElem?_map, List.getElem?_map]
        by_cases c : i < xs.length
        · rw [List.getElem?_range c, List.getElem?_eq_getElem (show i < (itemsD d).length by omega)]
          simp [List.getD_eq_getElem?_getD, List.getElem?_eq_getElem (show i < (itemsD d).length by omega)]
        · rw [List.getElem?_eq_none (by rw [List.length_range]; omega), List.getElem?_eq_none (show (itemsD d).length ≤ i by omega)]
          rfl
      rw [e] at h2
      exact SqL.of h2
    · rw [List.all_map]
      exact q H2 e2
  have he : ∀ (i : Nat) (x : V) (H1 : Hp), Ex H H1 → xs[i]? = some x → Ev (tCall (spIsBetween K) [] E0 (tCons (tVar 3) (tCons (tVar 1) (tCons (tVar 2) tNil)))) ((wipe (start ["values", "low", "high", "value"] [.ref a, .int lo, .int hi]) [3]).set 3 (some x)) H1 (.bl (betwD lo hi ((itemsD d).getD i .none))) := by
    intro i x H1 e1 hx H2 e2 Q2 k2
    have hi := (List.getElem?_eq_some_iff.mp hx).1
    have hd : (itemsD d)[i]? = some ((itemsD d)[i]'(by omega)) := List.getElem?_eq_getElem _
    have r := (all i x _ hx hd).ex (e1.trans e2)
    have g : (itemsD d).getD i .none = (itemsD d)[i]'(by omega) := by rw [List.getD_eq_getElem?_getD, hd]; rfl
    refine ⟨_, rfl, _, rfl, _, rfl, _, _, _, rfl, r.dat, fun b h1 h2 => ?_⟩
    rw [rd_betw r h1 h2, ← g]
    exact k2 H2 (Ex.refl _)
  rcases hs with ⟨hs, _⟩ | ⟨hs, _⟩
  · exact .inl ((el_lcL (t := tYes) (σ := start ["values", "low", "high", "value"] [.ref a, .int lo, .int hi]) (vs := [3]) (fun _ => true) (fun i => .bl (betwD lo hi ((itemsD d).getD i .none))) (ev_var rfl) hs (by omega) (fun _ => rfl) (fun i x H1 _ _ H2 _ Q k => k H2 (Ex.refl _)) (fun i x H1 e1 hx _ => he i x H1 e1 hx)) H (Ex.refl _) (fun v H2 => rAll K [v] H2 Q) fin)
  · exact .inr ((el_lcT (t := tYes) (σ := start ["values", "low", "high", "value"] [.ref a, .int lo, .int hi]) (vs := [3]) (fun _ => true) (fun i => .bl (betwD lo hi ((itemsD d).getD i .none))) (ev_var rfl) hs (by omega) (fun _ => rfl) (fun i x H1 _ _ H2 _ Q k => k H2 (Ex.refl _)) (fun i x H1 e1 hx _ => he i x H1 e1 hx)) H (Ex.refl _) (fun v H2 => rAll K [v] H2 Q) fin)


theorem rdl_ints {ok : Addr → Prop} {H : Hp} {n : Nat} (ns : List Int) : RdL K ok H n (ns.map V.int) (ns.map PyData.int) := by
  refine ⟨by rw [List.length_map, List.length_map], fun i x d hx hd => ?_⟩
  obtain ⟨z, hz, rfl⟩ := ints_get hx
  rw [List.getElem?_map, hz] at hd
  obtain rfl := Option.some.inj hd
  exact .int z
/-- the greatest arrangements of i kinds in j parts -/
def gr (i j : Int) : Int := (arrUp (evenOf i j)).1
theorem ints_dat (ns : List Int) : intsD (.tuple (ns.map PyData.int)) = ns := by
  unfold intsD itemsD
  rw [List.map_map]
  exact List.map_id _
theorem parts_dat {ns : List Int} (h0 : ∀ x ∈ ns, 0 ≤ x) (h : ns.sum ≤ 64) : partsD (.tuple (ns.map PyData.int)) = true := by
  unfold partsD
  rw [ints_dat, decide_eq_true h, Bool.and_true]
  show (true && (ns.map PyData.int).all (fromD 0)) = true
  rw [Bool.true_and, List.all_eq_true]
  intro x hx
  obtain ⟨z, hz, rfl⟩ := List.mem_map.mp hx
  exact decide_eq_true (h0 z hz)
end
end L2.U

set_option Elab.async false
set_option linter.all false
set_option maxRecDepth 100000
set_option maxHeartbeats 4000000
namespace L2.U
open PySem PySem.Spec PyProof.Rows Evl

section
variable {P : Program} {w : World} {K : PySem.W.Frag} {mg : Str → Option Value} {base : Heap}
/-- what never raises -/
theorem fn_calm {k : Nat} {f : Addr} {fd : FuncData} {ps : List Str} {sp sp' : Sp} (F : FnOk P w K mg base (L2.CX P w) k f fd ps sp) (h : ∀ vs H Q E, sp' vs H Q E → sp vs H Q E0) : FnOk P w K mg base CX0 k f fd ps sp' := by
  refine ⟨fun vs H Q E q => F.len vs H Q E0 (h _ _ _ _ q), fun A outer s H args us vs Q E hr he hb hv hs => codeAny_mono (F.run A outer s H args us vs Q E0 hr he hb hv (h _ _ _ _ hs)) fun r s' hq => ?_⟩
  cases r with
  | error e =>
    obtain ⟨_, _, _, _, _, _, _, _, _, _, _, _, hE⟩ := hq
    exact hE.elim
  | ok fl => cases fl <;> exact hq
def spMostI : Sp := fun vs H Q _ => ∃ t r s : Int, vs = [.int t, .int r, .int s] ∧ 0 ≤ t ∧ t ≤ 64 ∧ 1 ≤ r ∧ r ≤ 64 ∧ 0 ≤ s ∧ s ≤ 64 ∧ ∀ H', Ex H H' → Q (.int (mostA t r s)) H'
theorem ok_most_arranged (T : TA2 K mg) : FnOk P w K mg base CX0 6 T.most_arranged.a T.most_arranged.fd ["total", "rounds", "rest"] spMostI := fn_calm (okr_most_arranged T) fun vs H Q E h => by
  obtain ⟨t, r, s, rfl, t0, t1, r0, r1, s0, s1, q⟩ := h
  have n1 : num64 (.int t) = true := decide_eq_true ⟨t0, t1⟩
  have n2 : many64 (.int r) = true := decide_eq_true ⟨r0, r1⟩
  have n3 : num64 (.int s) = true := decide_eq_true ⟨s0, s1⟩
  exact ⟨.int t, .int r, .int s, .int t, .int r, .int s, 0, fun _ => True, rfl, .int _, .int _, .int _, fun _ _ _ => q, fun no => absurd n1 (by rw [no]; decide), fun _ no => absurd n2 (by rw [no]; decide), fun _ _ no => absurd n3 (by rw [no]; decide)⟩
theorem RdL.of {ok ok' : Addr → Prop} {H : Hp} {n : Nat} {xs : List V} {ds : List PyData} (w : ∀ a, ok a → ok' a) (h : RdL K ok H n xs ds) : RdL K ok' H n xs ds := ⟨h.1, fun i x d hx hd => (h.2 i x d hx hd).of w⟩
theorem RdL.snoc {ok : Addr → Prop} {H : Hp} {n : Nat} {xs : List V} {ds : List PyData} {x : V} {d : PyData} (h : RdL K ok H n xs ds) (r : Rd K ok H n x d) : RdL K ok H n (xs ++ [x]) (ds ++ [d]) := by
  refine ⟨by rw [List.length_append, List.length_append, h.1]; rfl, fun i y e hy he => ?_⟩
  by_cases c : i < xs.length
  · rw [List.getElem?_append_left c] at hy
    rw [List.getElem?_append_left (by rw [← h.1]; exact c)] at he
    exact h.2 i y e hy he
  · have hi := (List.getElem?_eq_some_iff.mp hy).1
    rw [List.length_append, List.length_singleton] at hi
    have e1 : i = xs.length := by omega
    subst e1
    rw [List.getElem?_append_right (Nat.le_refl _), Nat.sub_self] at hy
    rw [h.1, List.getElem?_append_right (Nat.le_refl _), Nat.sub_self] at he
    cases Option.some.inj hy
    cases Option.some.inj he
    exact r
theorem tyes {σ : L2.St} {H : Hp} {F G : Hp → Prop} (h : F H) : tYes σ H (fun b H3 => if b = true then F H3 else G H3) := by
  show if true = true then F H else G H
  rw [if_pos rfl]
  exact h
/-- a comprehension over a range that makes data -/
theorem lc_rd {σ : L2.St} {H : Hp} {ta : TA} {te : TE} {j m : Nat} {vs : List Nat} {n : Int} {d : Nat → PyData} (h : EvA ta σ H [.int n]) (hn : 0 ≤ n ∧ n ≤ 900) (hw : ∀ x, wipe ((wipe σ vs).set j (some x)) vs = wipe σ vs)
    (he : ∀ (i : Nat) H1, Ex H H1 → (i : Int) < n → ∀ Q : VK, (∀ x H2, Ex H1 H2 → Rd K (fun a => H1 a = none) H2 m x (d i) → Q x H2) → te ((wipe σ vs).set j (some (.int (i : Int)))) H1 Q)
    {Q : VK} (q : ∀ p H', Ex H H' → Rd K (fun a => H a = none) H' (m + 1) (.ref p) (.list ((List.range n.toNat).map d)) → Q (.ref p) H') : tLc (iRng1 ta) (gName j) tYes te vs σ H Q := by
  refine h H (Ex.refl _) _ fun H1 e1 => ⟨n, rfl, by omega, by omega, fun D hD => ?_⟩
  refine lc_range (lo := 0) (n := n.toNat) (fun i H' => Ex H1 H' ∧ ∃ xs, H' D = some (.lst xs) ∧ xs.length = i ∧ RdL K (fun a => H1 a = none ∧ a ≠ D) H' m xs ((List.range i).map d)) ⟨Ex.new hD, [], upd_same, rfl, rfl, fun i x e hx _ => by cases hx⟩ (fun i H' hi p => ⟨hw _, ?_⟩) (fun H' p => ?_)
  · obtain ⟨p1, xs, p2, p3, p4⟩ := p
    have e0 : (0 : Int) + (i : Int) = (i : Int) := Int.zero_add _
    show tYes _ H' (fun b H3 => if b = true then te ((wipe σ vs).set j (some (.int ((0 : Int) + (i : Int))))) H3 fun y H4 => ∃ acc, H4 D = some (.lst acc) ∧ acc.length < sizeLine ∧ _ else _)
    rw [e0]
    refine tyes ?_
    refine he i H' (e1.trans p1) (by omega) _ fun x H2 e2 rx => ⟨xs, e2 _ _ p2, small1000 (by omega), (p1.trans e2).mut hD, xs ++ [x], upd_same, by rw [List.length_append, p3]; rfl, ?_⟩
    rw [List.range_succ, List.map_append]
    refine RdL.snoc ?_ ?_
    · have r1 := p4.ex e2
      exact r1.but (b := D) But.upd (fun a ha => ha.2)
    · have nD : ∀ a, H' a = none → H1 a = none ∧ a ≠ D := fun a ha => ⟨fresh_back p1 ha, fun z => by rw [z, p2] at ha; cases ha⟩
      exact (rx.of nD).but (b := D) But.upd (fun a ha => ha.2)
  · obtain ⟨p1, xs, p2, p3, p4⟩ := p
    have fr : ∀ a, H1 a = none → H a = none := fun a ha => fresh_back e1 ha
    have r := p4.of (ok' := fun a => H a = none) (fun a ha => fr a ha.1)
    exact q D H' (e1.trans p1) (.lst p2 (fr D hD) r.1 (by omega) r.2)
theorem el_lcR2 {σ : L2.St} {H : Hp} {ta : TA} {t : TT} {te : TE} {j : Nat} {vs : List Nat} {lo n : Int} (f : Nat → Bool) (v : Nat → V) (h : EvA ta σ H [.int lo, .int n]) (hn : 0 ≤ lo ∧ lo ≤ 40000 ∧ -40000 ≤ n ∧ n ≤ 40000) (hw : ∀ x, wipe ((wipe σ vs).set j (some x)) vs = wipe σ vs)
    (ht : ∀ (i : Nat) H1, Ex H H1 → lo + (i : Int) < n → EvT t ((wipe σ vs).set j (some (.int (lo + (i : Int))))) H1 (f i)) (he : ∀ (i : Nat) H1, Ex H H1 → lo + (i : Int) < n → f i = true → Ev te ((wipe σ vs).set j (some (.int (lo + (i : Int))))) H1 (v i)) :
    EvL (tLc (iRng2 ta) (gName j) t te vs) σ H (given (n - lo).toNat f v) := fun H0 e Q q => h H0 e _ fun H1 e1 => ⟨lo, n, rfl, ⟨by omega, by omega, by omega, by omega⟩, fun Dl hD =>
  lc_range (lo := lo) (n := (n - lo).toNat) (Cw H1 f v Dl) ⟨hD, Ex.new hD, upd_same⟩ (fun i H' hi p => ⟨hw _, cw_turn p (by omega) (ht i H1 (e.trans e1) (by omega)) (fun hf => he i H1 (e.trans e1) (by omega) hf)⟩) (fun H' p => q Dl H' (fresh_back e1 p.1) (e1.trans p.2.1) p.2.2)⟩
/-! ### what is told by kinds -/
def toldBy (k r : Nat) : List Int := (List.range (k - r)).map fun i : Nat => mostA (k : Int) ((i : Int) + 1) (r : Int)
def listI (l : List Int) : PyData := .list (l.map PyData.int)
def toldK (m : Nat) : List (List (List Int)) := (List.range (m + 1)).map fun k => (List.range k).map fun r => toldBy k r
def list2 (l : List (List Int)) : PyData := .list (l.map listI)
def list3 (l : List (List (List Int))) : PyData := .list (l.map list2)
def spToldBy (K : PySem.W.Frag) : Sp := fun vs H Q _ => ∃ k r : Nat, vs = [.int (k : Int), .int (r : Int)] ∧ k ≤ 16 ∧ r < k ∧ ∀ p H', Ex H H' → Rd K (fun a => H a = none) H' 1 (.ref p) (listI (toldBy k r)) → Q (.ref p) H'
theorem ok_told_by (T : TA2 K mg) : FnOk P w K mg base CX0 7 T.told_by.a T.told_by.fd ["kinds", "rest"] (spToldBy K) := by
  refine T.told_by.F.ok sc_told_by (fun vs H Q E h => ?_) (fun cdv A outer s H vs Q E hr h => ?_)
  · obtain ⟨k, r, rfl, _⟩ := h; rfl
  obtain ⟨k, r, rfl, hk, hrk, q⟩ := h
  refine ⟨_, (pss_one (ps_ret (pe_lc (own := [("rounds", 2)]) (g := gName 2) (by rfl) sc_told_by.nd (pi_range2 rfl T.z_range (pa_cons pe_int (pa_cons (pe_op op_add (pe_op op_sub (pv 0) (pv 1)) pe_int) pa_nil))) (blkOk_by (own := [("rounds", 2)]) (N := ["kinds", "rest", "rounds"]) (sc := defScope s_told_by) (by decide +kernel)) (fun _ _ _ _ _ => (pg_name (i := 2) sc_told_by.nd rfl (Or.inl rfl))) (fun _ _ _ _ _ => pts_nil) (fun _ _ _ _ _ => (pe_call (ok_most_arranged T) (hr.mono (by decide)) rfl T.most_arranged.m T.most_arranged.F.kp T.most_arranged.b .nil pass0 (pa_cons (pv 0) (pa_cons (pv 2) (pa_cons (pv 1) pa_nil)))))))), ?_⟩
  have one : ∀ (i : Nat) H1, Ex H H1 → (1 : Int) + (i : Int) < ((k : Int) - (r : Int)) + 1 → true = true → Ev (tCall spMostI [] E0 (tCons (tVar 0) (tCons (tVar 2) (tCons (tVar 1) tNil)))) ((wipe [some (.int (k : Int)), some (.int (r : Int)), none] [2]).set 2 (some (.int ((1 : Int) + (i : Int))))) H1 (.int (mostA (k : Int) ((1 : Int) + (i : Int)) (r : Int))) :=
    fun i H1 e1 hi _ H2 e2 Q2 k2 => ⟨_, rfl, _, rfl, _, rfl, _, _, _, rfl, by omega, by omega, by omega, by omega, by omega, by omega, fun H3 e3 => k2 H3 e3⟩
  refine (el_lcR2 (σ := [some (.int (k : Int)), some (.int (r : Int)), none]) (vs := [2]) (t := tYes) (fun _ => true) (fun i => .int (mostA (k : Int) ((1 : Int) + (i : Int)) (r : Int))) (ea_cons ev_c (ea_cons (ev_op (ev_op (ev_var rfl) (ev_var rfl) rv_I0) ev_c rv_I0) ea_nil)) ⟨by decide, by decide, by omega, by omega⟩ (fun _ => rfl) (fun i H1 _ _ H2 _ Q k => k H2 (Ex.refl _)) one) H (Ex.refl _) _ fun p H1 hp e1 h1 => q p H1 e1 ?_
  have eq : given (((k : Int) - (r : Int)) + 1 - 1).toNat (fun _ => true) (fun i => V.int (mostA (k : Int) ((1 : Int) + (i : Int)) (r : Int))) = (toldBy k r).map V.int := by
    rw [given_all]
    unfold toldBy
    rw [List.map_map, show (((k : Int) - (r : Int)) + 1 - 1).toNat = k - r by omega]
    apply List.map_congr_left
    intro i _
    show V.int _ = V.int _
    rw [Int.add_comm 1]
  rw [eq] at h1
  have rd := rdl_ints (K := K) (ok := fun a => H a = none) (H := H1) (n := 0) (toldBy k r)
  exact .lst h1 hp rd.1 (by unfold toldBy; rw [List.length_map, List.length_map, List.length_range]; omega) rd.2
def dumEnv (sc : Scope) : Env := { scope := sc, locals := 0, globals := 0, cells := [], qual := "", func := none, code := .none, frame := none, builtins := 0 }
def lcs_told_by_kinds : Scope := relabel (match (defBody s_told_by_kinds).getD 0 (.Pass ⟨0, 0, 0, 0⟩) with
  | .Return (some (.ListComp _ _ sc _)) _ => sc
  | _ => defScope s_told_by_kinds) (dumEnv (defScope s_told_by_kinds))
def spToldK (K : PySem.W.Frag) : Sp := fun vs H Q _ => ∃ m : Nat, vs = [.int (m : Int)] ∧ m ≤ 16 ∧ ∀ p H', Ex H H' → Rd K (fun a => H a = none) H' 3 (.ref p) (list3 (toldK m)) → Q (.ref p) H'
theorem ok_told_by_kinds (T : TA2 K mg) : FnOk P w K mg base CX0 8 T.told_by_kinds.a T.told_by_kinds.fd ["most"] (spToldK K) := by
  refine T.told_by_kinds.F.ok sc_told_by_kinds (fun vs H Q E h => ?_) (fun cdv A outer s H vs Q E hr h => ?_)
  · obtain ⟨m, rfl, _⟩ := h; rfl
  obtain ⟨m, rfl, hm, q⟩ := h
  refine ⟨_, (pss_one (ps_ret (pe_lc (own := [("kinds", 2)]) (g := gName 2) (by rfl) sc_told_by_kinds.nd (pi_range1 rfl T.z_range (pa_cons (pe_op op_add (pv 0) pe_int) pa_nil)) (blkOk_by (own := [("kinds", 2)]) (N := ["most", "rest", "kinds"]) (sc := defScope s_told_by_kinds) (by decide +kernel)) (fun _ _ _ _ _ => (pg_name (i := 2) sc_told_by_kinds.nd rfl (Or.inr rfl))) (fun _ _ _ _ _ => pts_nil) (fun _ _ _ _ _ => (pe_lc (own := [("rest", 1)]) (g := gName 1) (by rfl) sc_told_by_kinds.nd (pi_range1 rfl T.z_range (pa_cons (pv 2) pa_nil)) (blkOk_by (own := [("rest", 1)]) (N := ["most", "rest", "kinds"]) (sc := lcs_told_by_kinds) (by decide +kernel)) (fun _ _ _ _ _ => (pg_name (i := 1) sc_told_by_kinds.nd rfl (Or.inl rfl))) (fun _ _ _ _ _ => pts_nil) (fun _ _ _ _ _ => (pe_call (ok_told_by T) (hr.mono (by decide)) rfl T.told_by.m T.told_by.F.kp T.told_by.b .nil pass0 (pa_cons (pv 2) (pa_cons (pv 1) pa_nil))))))))), ?_⟩
  refine lc_rd (K := K) (σ := [some (.int (m : Int)), none, none]) (vs := [2]) (m := 2) (d := fun k => list2 ((List.range k).map fun r => toldBy k r)) (ea_cons (ev_op (ev_var rfl) ev_c rv_I0) ea_nil) ⟨by omega, by omega⟩ (fun _ => rfl) (fun k H1 e1 hk Q1 q1 => ?_) (fun p H' e r => q p H' e ?_)
  · refine lc_rd (K := K) (σ := [some (.int (m : Int)), none, some (.int (k : Int))]) (vs := [1]) (m := 1) (d := fun r => listI (toldBy k r)) (ea_cons (ev_var rfl) ea_nil) ⟨by omega, by omega⟩ (fun _ => rfl) (fun r H2 e2 hr Q2 q2 => ?_) (fun p H' e r => q1 _ H' e ?_)
    · exact ⟨_, rfl, _, rfl, k, r, rfl, by omega, by omega, fun p H3 e3 r3 => q2 _ H3 e3 r3⟩
    · have e1 : list2 ((List.range k).map fun r => toldBy k r) = .list ((List.range (k : Int).toNat).map fun r => listI (toldBy k r)) := by
        unfold list2
        rw [List.map_map]
        rfl
      rw [e1]
      exact r
  · have e1 : list3 (toldK m) = .list ((List.range ((m : Int) + 1).toNat).map fun k => list2 ((List.range k).map fun r => toldBy k r)) := by
      unfold list3 toldK
      rw [List.map_map, show ((m : Int) + 1).toNat = m + 1 by omega]
      rfl
    rw [e1]
    exact r
/-! ### the least numbers of answers -/
def optV : Option Int → V
  | none => .non
  | some i => .int i
def fstO {α : Type} (p : α → Bool) : Nat → List α → Option Int
  | _, [] => none
  | k, x :: r => if p x then some (k : Int) else fstO p (k + 1) r
theorem fstO_drop {α : Type} {p : α → Bool} {l : List α} {i : Nat} {x : α} (h : l[i]? = some x) (hp : p x = false) : fstO p i (l.drop i) = fstO p (i + 1) (l.drop (i + 1)) := by
  obtain ⟨hi, e⟩ := List.getElem?_eq_some_iff.mp h
  rw [List.drop_eq_getElem_cons hi, e]
  show (if p x then _ else _) = _
  rw [if_neg (by rw [hp]; decide)]
theorem fstO_hit {α : Type} {p : α → Bool} {l : List α} {i : Nat} {x : α} (h : l[i]? = some x) (hp : p x = true) : fstO p i (l.drop i) = some (i : Int) := by
  obtain ⟨hi, e⟩ := List.getElem?_eq_some_iff.mp h
  rw [List.drop_eq_getElem_cons hi, e]
  show (if p x then _ else _) = _
  rw [if_pos hp]
def fewest (n : Int) (l : List Int) : Option Int := fstO (fun v => decide (n ≤ v)) 0 l
def spFewest (K : PySem.W.Frag) : Sp := fun vs H Q _ => ∃ (n : Int) (a : Addr) (l : List Int), vs = [.int n, .ref a] ∧ SqL K H a (l.map V.int) ∧ ∀ H', Ex H H' → Q (optV (fewest n l)) H'
theorem ok_fewest_answers (T : TA2 K mg) : FnOk P w K mg base CX0 1 T.fewest_answers.a T.fewest_answers.fd ["number", "values"] (spFewest K) := by
  refine T.fewest_answers.F.ok sc_fewest_answers (fun vs H Q E h => ?_) (fun cdv A outer s H vs Q E hr h => ?_)
  · obtain ⟨n, a, l, rfl, _⟩ := h; rfl
  obtain ⟨n, a, l, rfl, hl, q⟩ := h
  refine ⟨_, (pss_cons (ps_for PassesOwn.never rfl (pi_enumS (by rfl) T.z_enumerate (pa_cons (pv 1) pa_nil)) (pg_tup (by rfl) (pgs_cons (pg_name (i := 2) sc_fewest_answers.nd rfl (Or.inl rfl)) (pgs_cons (pg_name (i := 3) sc_fewest_answers.nd rfl (Or.inl rfl)) pgs_nil))) (pss_one (ps_if (pt_cmpR op_ge (pv 3) (pv 0) (nomark _)) (pss_one (ps_ret (pv 2))) pss_nil)))
    (pss_one (ps_ret pe_non))), ?_⟩
  refine for_enum (p := 2) (q := 3) (xs := l.map V.int) (fun R r => ⟨_, rfl, r⟩) (.inl hl) (fun i σ H' => Ex H H' ∧ fewest n l = fstO (fun v => decide (n ≤ v)) i (l.drop i) ∧ ∃ x y, σ = [some (.int n), some (.ref a), x, y]) ⟨Ex.refl _, rfl, _, _, rfl⟩ (fun i σ H' _ p => p.1) ?_ ?_
  · rintro i x σ H' t hx ⟨e, hf, x2, y2, rfl⟩ ht
    obtain ⟨z, hz, rfl⟩ := ints_get hx
    refine ⟨_, rfl, _, rfl, _, _, rfl, rfl, _, rfl, ite2 (fun c => ?_) (fun c => ?_)⟩
    · have c' := of_decide_eq_true c
      refine ⟨_, rfl, ?_⟩
      have := q _ (e.trans (Ex.new (o := .tup [.int (i : Int), .int z]) ht))
      rw [hf, fstO_hit hz (decide_eq_true c')] at this
      exact this
    · have c' := of_decide_eq_false (Bool.eq_false_iff.mpr c)
      exact ⟨e.trans (Ex.new ht), hf.trans (fstO_drop hz (decide_eq_false c')), _, _, rfl⟩
  · rintro σ H' ⟨e, hf, x2, y2, rfl⟩
    have := q _ e
    rw [hf, List.length_map, List.drop_length] at this
    exact this
def needF (os : List (Option Int)) (r : Int) : Option Int := fstO (fun o => match o with | some l => decide (l ≤ r) | none => false) 0 os
def spNeed (K : PySem.W.Frag) : Sp := fun vs H Q _ => ∃ (a : Addr) (os : List (Option Int)) (r : Int), vs = [.ref a, .int r] ∧ SqL K H a (os.map optV) ∧ ∀ H', Ex H H' → Q (optV (needF os r)) H'
theorem opts_get {os : List (Option Int)} {i : Nat} {v : V} (h : (os.map optV)[i]? = some v) : ∃ o, os[i]? = some o ∧ v = optV o := by
  rw [List.getElem?_map] at h
  cases e : os[i]? with
  | none => rw [e] at h; cases h
  | some z => rw [e] at h; exact ⟨z, rfl, (Option.some.inj h).symm⟩
theorem ok_need (T : TA2 K mg) : FnOk P w K mg base CX0 1 T.need.a T.need.fd ["further", "rest"] (spNeed K) := by
  refine T.need.F.ok sc_need (fun vs H Q E h => ?_) (fun cdv A outer s H vs Q E hr h => ?_)
  · obtain ⟨a, os, r, rfl, _⟩ := h; rfl
  obtain ⟨a, os, r, rfl, hl, q⟩ := h
  refine ⟨_, (pss_cons (ps_for PassesOwn.never rfl (pi_enumS (by rfl) T.z_enumerate (pa_cons (pv 0) pa_nil)) (pg_tup (by rfl) (pgs_cons (pg_name (i := 2) sc_need.nd rfl (Or.inl rfl)) (pgs_cons (pg_name (i := 3) sc_need.nd rfl (Or.inl rfl)) pgs_nil))) (pss_one (ps_if (PW.pt (pw_and (pt_cmpR op_notN (pv 3) pe_non (nomark _)) (pw_and1 (pt_cmpR op_le (pv 3) (pv 1) (nomark _))))) (pss_one (ps_ret (pv 2))) pss_nil)))
    (pss_one (ps_ret pe_non))), ?_⟩
  refine for_enum (p := 2) (q := 3) (xs := os.map optV) (fun R r => ⟨_, rfl, r⟩) (.inl hl) (fun i σ H' => Ex H H' ∧ needF os r = fstO (fun o => match o with | some l => decide (l ≤ r) | none => false) i (os.drop i) ∧ ∃ x y, σ = [some (.ref a), some (.int r), x, y]) ⟨Ex.refl _, rfl, _, _, rfl⟩ (fun i σ H' _ p => p.1) ?_ ?_
  · rintro i x σ H' t hx ⟨e, hf, x2, y2, rfl⟩ ht
    obtain ⟨o, ho, rfl⟩ := opts_get hx
    cases o with
    | none => exact ⟨_, rfl, rfl, _, rfl, iteF (iteF ⟨e.trans (Ex.new ht), hf.trans (fstO_drop ho rfl), _, _, rfl⟩)⟩
    | some l =>
      refine ⟨_, rfl, rfl, _, rfl, iteT ⟨_, rfl, _, rfl, _, _, rfl, rfl, _, rfl, ite2 (fun c => ?_) (fun c => ?_)⟩⟩
      · have c' := of_decide_eq_true c
        refine ⟨_, rfl, ?_⟩
        have := q _ (e.trans (Ex.new (o := .tup [.int (i : Int), .int l]) ht))
        rw [hf, fstO_hit ho (decide_eq_true c')] at this
        exact this
      · have c' := of_decide_eq_false (Bool.eq_false_iff.mpr c)
        exact ⟨e.trans (Ex.new ht), hf.trans (fstO_drop ho (decide_eq_false c')), _, _, rfl⟩
  · rintro σ H' ⟨e, hf, x2, y2, rfl⟩
    have := q _ e
    rw [hf, List.length_map, List.drop_length] at this
    exact this
def stepL (n len : Int) (acc : Option Int) (t : List Int) (o : Option Int) : Option Int :=
  match fewest n t, o with
  | some a, some b => if a + b < len ∧ (∀ z, acc = some z → a + b < z) then some (a + b) else acc
  | _, _ => acc
def leastF (n len : Int) : Option Int → List (List Int) → List (Option Int) → Option Int
  | acc, t :: ts, o :: os => leastF n len (stepL n len acc t o) ts os
  | acc, _, _ => acc
theorem leastF_drop {n len : Int} {acc : Option Int} {T : List (List Int)} {os : List (Option Int)} {i : Nat} {t : List Int} {o : Option Int} (ht : T[i]? = some t) (ho : os[i]? = some o) :
    leastF n len acc (T.drop i) (os.drop i) = leastF n len (stepL n len acc t o) (T.drop (i + 1)) (os.drop (i + 1)) := by
  obtain ⟨hi, e⟩ := List.getElem?_eq_some_iff.mp ht
  obtain ⟨hj, f⟩ := List.getElem?_eq_some_iff.mp ho
  rw [List.drop_eq_getElem_cons hi, List.drop_eq_getElem_cons hj, e, f]
  rfl
/-- a list of lists of ints -/
theorem rd_list2 {ok : Addr → Prop} {H : Hp} {m : Nat} {x : V} {T : List (List Int)} (h : Rd K ok H m x (list2 T)) : ∃ a vs, x = .ref a ∧ H a = some (.lst vs) ∧ vs.length = T.length ∧ vs.length ≤ 900 ∧ ∀ (i : Nat) (v : V), vs[i]? = some v → ∃ b t, v = .ref b ∧ T[i]? = some t ∧ H b = some (.lst (t.map V.int)) := by
  unfold list2 at h
  cases h with
  | lst h ha hl hz all =>
    rw [List.length_map] at hl
    refine ⟨_, _, rfl, h, hl, hz, fun i v hv => ?_⟩
    have hi := (List.getElem?_eq_some_iff.mp hv).1
    have ht : T[i]? = some (T[i]'(by omega)) := List.getElem?_eq_getElem _
    have r := all i v (listI (T[i]'(by omega))) hv (by rw [List.getElem?_map, ht]; rfl)
    generalize T[i]'(by omega) = t at ht r
    unfold listI at r
    generalize hd : (PyData.list (t.map PyData.int)) = d at r
    cases r with
    | lst h2 ha2 hl2 hz2 all2 =>
      cases hd
      rename_i b xs
      refine ⟨b, t, rfl, ht, ?_⟩
      have : xs = t.map V.int := by
        rw [List.length_map] at hl2
        apply List.ext_getElem?
        intro k
        rw [List.getElem?_map]
        by_cases hk : k < xs.length
        · have h3 : t[k]? = some (t[k]'(by omega)) := List.getElem?_eq_getElem _
          have r2 := all2 k (xs[k]) (.int (t[k]'(by omega))) (List.getElem?_eq_getElem hk) (by rw [List.getElem?_map, h3]; rfl)
          rw [List.getElem?_eq_getElem hk, h3]
          generalize xs[k] = xk at r2
          generalize t[k]'(by omega) = tk at r2
          cases r2
          rfl
        · rw [List.getElem?_eq_none (by omega), List.getElem?_eq_none (by omega)]; rfl
      rw [← this]
      exact h2
    | tup _ _ _ _ _ => cases hd
    | non => cases hd
    | bl _ => cases hd
    | int _ => cases hd
    | str _ _ _ => cases hd
def spLeast (K : PySem.W.Frag) : Sp := fun vs H Q _ => ∃ (n : Int) (x : V) (T : List (List Int)) (m : Nat) (ok : Addr → Prop) (a : Addr) (os : List (Option Int)), vs = [.int n, x, .ref a] ∧ Rd K ok H m x (list2 T) ∧ SqL K H a (os.map optV) ∧ T.length ≤ os.length ∧
  ∀ H', Ex H H' → Q (optV (leastF n (os.length : Int) none T os)) H'
theorem ok_least (T : TA2 K mg) : FnOk P w K mg base CX0 2 T.least.a T.least.fd ["number", "told", "needs"] (spLeast K) := by
  refine T.least.F.ok sc_least (fun vs H Q E h => ?_) (fun cdv A outer s H vs Q E hr h => ?_)
  · obtain ⟨n, x, T, m, ok, a, os, rfl, _⟩ := h; rfl
  obtain ⟨n, x, T2, m, ok, a, os, rfl, hx, ha, hl, q⟩ := h
  refine ⟨_, (pss_cons (ps_set (i := 3) sc_least.nd rfl (Or.inl rfl) pe_non)
    (pss_cons (ps_for PassesOwn.never rfl (pi_enumS (by rfl) T.z_enumerate (pa_cons (pv 1) pa_nil)) (pg_tup (by rfl) (pgs_cons (pg_name (i := 4) sc_least.nd rfl (Or.inl rfl)) (pgs_cons (pg_name (i := 5) sc_least.nd rfl (Or.inl rfl)) pgs_nil))) (pss_cons (ps_set (i := 6) sc_least.nd rfl (Or.inl rfl) (pe_call (ok_fewest_answers T) (hr.mono (by decide)) rfl T.fewest_answers.m T.fewest_answers.F.kp T.fewest_answers.b .nil pass0 (pa_cons (pv 0) (pa_cons (pv 5) pa_nil))))
    (pss_cons (ps_if (PW.pt (pw_or (pt_cmpR op_isN (pv 6) pe_non (nomark _)) (pw_or1 (pt_cmpR op_isN (pe_ix (kixl K) (pv 2) (pv 4) (fun _ _ => rfl)) pe_non (nomark _))))) (pss_one (ps_continue)) pss_nil)
    (pss_cons (ps_set (i := 7) sc_least.nd rfl (Or.inl rfl) (pe_op op_add (pv 6) (pe_ix (kixl K) (pv 2) (pv 4) (fun _ _ => rfl))))
    (pss_one (ps_if (PW.pt (pw_and (pt_cmpR op_lt (pv 7) (pe_callB (klen K) (by rfl) T.z_len (by decide +kernel) (pa_cons (pv 2) pa_nil)) (nomark _)) (pw_and1 (PW.pt (pw_or (pt_cmpR op_isN (pv 3) pe_non (nomark _)) (pw_or1 (pt_cmpR op_lt (pv 7) (pv 3) (nomark _)))))))) (pss_one (ps_set (i := 3) sc_least.nd rfl (Or.inl rfl) (pv 7))) pss_nil))))))
    (pss_one (ps_ret (pv 3))))), ?_⟩
  obtain ⟨b, vs, rfl, hb, hlen, hz, all⟩ := rd_list2 hx
  have hal : ∀ H', Ex H H' → SqL K H' a (os.map optV) := fun H' e => ex_l e ha
  refine for_enum (p := 4) (q := 5) (xs := vs) (fun R r => ⟨_, rfl, r⟩) (.inl (SqL.of hb)) (fun i σ H' => Ex H H' ∧ ∃ acc x4 x5 x6 x7, leastF n (os.length : Int) none T2 os = leastF n (os.length : Int) acc (T2.drop i) (os.drop i) ∧ σ = [some (.int n), some (.ref b), some (.ref a), some (optV acc), x4, x5, x6, x7])
    ⟨Ex.refl _, none, _, _, _, _, rfl, rfl⟩ (fun i σ H' _ p => p.1) ?_ ?_
  · rintro i x σ H' tt hv ⟨e, acc, x4, x5, x6, x7, hf, rfl⟩ htt
    obtain ⟨c, t, rfl, ht, hc⟩ := all i x hv
    have hi := (List.getElem?_eq_some_iff.mp ht).1
    obtain ⟨o, ho⟩ : ∃ o, os[i]? = some o := ⟨_, List.getElem?_eq_getElem (by omega)⟩
    have e1 := e.trans (Ex.new (o := .tup [.int (i : Int), .ref c]) htt)
    rw [leastF_drop ht ho] at hf
    refine ⟨_, rfl, _, rfl, n, c, t, rfl, SqL.of (e1 _ _ hc), fun H3 e3 => ?_⟩
    have e2 := e1.trans e3
    have hat : atI (os.map optV) (i : Int) = some (optV o) := atI_nat (by rw [List.getElem?_map, ho]; rfl)
    cases hfw : fewest n t with
    | none =>
      refine ⟨_, rfl, rfl, _, rfl, iteT (iteT ⟨e2, acc, _, _, _, _, ?_, rfl⟩)⟩
      rw [hf]
      unfold stepL
      rw [hfw]
    | some av =>
      refine ⟨_, rfl, rfl, _, rfl, iteF ⟨_, rfl, _, rfl, a, _, _, _, rfl, rfl, hal _ e2, hat, rfl, ?_⟩⟩
      cases o with
      | none =>
        refine ⟨_, rfl, iteT ⟨e2, acc, _, _, _, _, ?_, rfl⟩⟩
        rw [hf]
        unfold stepL
        rw [hfw]
      | some bv =>
        refine ⟨_, rfl, iteF ?_⟩
        refine ⟨_, rfl, _, rfl, _, rfl, a, _, _, _, rfl, rfl, hal _ e2, hat, _, _, rfl, rfl, ?_⟩
        refine ⟨_, rfl, _, rfl, _, _, rfl, .inl ⟨_, hal _ e2, rfl⟩, _, _, rfl, rfl, _, rfl, ite2 (fun c => ?_) (fun c => ?_)⟩
        · have c' := of_decide_eq_true c
          rw [List.length_map] at c'
          cases acc with
          | none =>
            refine ⟨_, rfl, rfl, _, rfl, iteT (iteT ⟨_, rfl, e2, some (av + bv), _, _, _, _, ?_, rfl⟩)⟩
            rw [hf]
            unfold stepL
            rw [hfw]
            simp [c']
          | some z =>
            refine ⟨_, rfl, rfl, _, rfl, iteF ⟨_, rfl, _, rfl, _, _, rfl, rfl, _, rfl, ite2 (fun d => ?_) (fun d => ?_)⟩⟩
            · have d' := of_decide_eq_true d
              refine ⟨_, rfl, e2, some (av + bv), _, _, _, _, ?_, rfl⟩
              rw [hf]
              unfold stepL
              rw [hfw]
              simp [c', d']
            · have d' := of_decide_eq_false (Bool.eq_false_iff.mpr d)
              refine ⟨e2, some z, _, _, _, _, ?_, rfl⟩
              rw [hf]
              unfold stepL
              rw [hfw]
              simp [d']
        · have c' := of_decide_eq_false (Bool.eq_false_iff.mpr c)
          rw [List.length_map] at c'
          refine iteF ⟨e2, acc, _, _, _, _, ?_, rfl⟩
          rw [hf]
          unfold stepL
          rw [hfw]
          simp [c']
  · rintro σ H' ⟨e, acc, x4, x5, x6, x7, hf, rfl⟩
    refine ⟨_, rfl, ?_⟩
    have := q _ e
    rw [hf, hlen, List.drop_length] at this
    exact this
end
end L2.U


set_option Elab.async false
set_option linter.all false
set_option maxRecDepth 100000
set_option maxHeartbeats 4000000
namespace L2.U
open PySem PySem.Spec PyProof.Rows Evl

section
variable {P : Program} {w : World} {K : PySem.W.Frag} {mg : Str → Option Value} {base : Heap}
theorem rd_list3 {ok : Addr → Prop} {H : Hp} {m : Nat} {x : V} {T : List (List (List Int))} (h : Rd K ok H m x (list3 T)) : ∃ a vs, x = .ref a ∧ H a = some (.lst vs) ∧ vs.length = T.length ∧ vs.length ≤ 900 ∧ ∀ (i : Nat) (v : V), vs[i]? = some v → ∃ t, T[i]? = some t ∧ Rd K ok H (m - 1) v (list2 t) := by
  unfold list3 at h
  cases h with
  | lst h ha hl hz all =>
    rw [List.length_map] at hl
    refine ⟨_, _, rfl, h, hl, hz, fun i v hv => ?_⟩
    have hi := (List.getElem?_eq_some_iff.mp hv).1
    have ht : T[i]? = some (T[i]'(by omega)) := List.getElem?_eq_getElem _
    exact ⟨_, ht, all i v _ hv (by rw [List.getElem?_map, ht]; rfl)⟩
def stairF (n : Int) (T : List (List (List Int))) (os : List (Option Int)) : List (Option Int) :=
  let needs := (List.range os.length).map fun r : Nat => needF os (r : Int)
  (List.range os.length).map fun k => leastF n (needs.length : Int) none (T.getD k []) needs
def spStair (K : PySem.W.Frag) : Sp := fun vs H Q _ => ∃ (n : Int) (x : V) (T : List (List (List Int))) (m : Nat) (ok : Addr → Prop) (a : Addr) (os : List (Option Int)), vs = [.int n, x, .ref a] ∧ Rd K ok H m x (list3 T) ∧ SqL K H a (os.map optV) ∧ T.length = os.length ∧ os.length ≤ 64 ∧ (∀ t ∈ T, t.length ≤ os.length) ∧
  ∀ p H', H p = none → Ex H H' → H' p = some (.lst ((stairF n T os).map optV)) → Q (.ref p) H'
theorem ok_stair (T : TA2 K mg) : FnOk P w K mg base CX0 3 T.stair.a T.stair.fd ["number", "told", "further"] (spStair K) := by
  refine T.stair.F.ok sc_stair (fun vs H Q E h => ?_) (fun cdv A outer s H vs Q E hr h => ?_)
  · obtain ⟨n, x, T, m, ok, a, os, rfl, _⟩ := h; rfl
  obtain ⟨n, x, T2, m, ok, a, os, rfl, hx, ha, hl, h64, hT, q⟩ := h
  refine ⟨_, (pss_cons (ps_set (i := 3) sc_stair.nd rfl (Or.inr rfl) (pe_lc (own := [("rest", 4)]) (g := gName 4) (by rfl) sc_stair.nd (pi_range1 rfl T.z_range (pa_cons (pe_callB (klen K) (by rfl) T.z_len (by decide +kernel) (pa_cons (pv 2) pa_nil)) pa_nil)) (blkOk_by (own := [("rest", 4)]) (N := ["number", "told", "further", "needs", "rest", "kinds"]) (sc := defScope s_stair) (by decide +kernel)) (fun _ _ _ _ _ => (pg_name (i := 4) sc_stair.nd rfl (Or.inl rfl))) (fun _ _ _ _ _ => pts_nil) (fun _ _ _ _ _ => (pe_call (ok_need T) (hr.mono (by decide)) rfl T.need.m T.need.F.kp T.need.b .nil pass0 (pa_cons (pv 2) (pa_cons (pv 4) pa_nil))))))
    (pss_one (ps_ret (pe_lc (own := [("kinds", 5)]) (g := gName 5) (by rfl) sc_stair.nd (pi_range1 rfl T.z_range (pa_cons (pe_callB (klen K) (by rfl) T.z_len (by decide +kernel) (pa_cons (pv 2) pa_nil)) pa_nil)) (blkOk_by (own := [("kinds", 5)]) (N := ["number", "told", "further", "needs", "rest", "kinds"]) (sc := defScope s_stair) (by decide +kernel)) (fun _ _ _ _ _ => (pg_name (i := 5) sc_stair.nd rfl (Or.inl rfl))) (fun _ _ _ _ _ => pts_nil) (fun _ _ _ _ _ => (pe_call (ok_least T) (hr.mono (by decide)) rfl T.least.m T.least.F.kp T.least.b .nil pass0 (pa_cons (pv 0) (pa_cons (pe_ix (kixl K) (pv 1) (pv 5) (fun _ _ => rfl)) (pa_cons (pv 3) pa_nil))))))))), ?_⟩
  obtain ⟨b, vs, rfl, hb, hlen, hz, all⟩ := rd_list3 hx
  have ln : ∀ {σ : L2.St} {H1 : Hp}, σ[2]? = some (some (.ref a)) → Ex H H1 → Ev (tCB (rLen K) (tCons (tVar 2) tNil)) σ H1 (.int (os.length : Int)) := fun hσ e H2 e2 Q k => ⟨_, hσ, _, os.length, rfl, .inl ⟨_, ex_l (e.trans e2) ha, by rw [List.length_map]⟩, k H2 (Ex.refl _)⟩
  have needs : EvL (tLc (iRng1 (tCons (tCB (rLen K) (tCons (tVar 2) tNil)) tNil)) (gName 4) tYes (tCall (spNeed K) [] E0 (tCons (tVar 2) (tCons (tVar 4) tNil))) [4]) [some (.int n), some (.ref b), some (.ref a), none, none, none] H (given (os.length : Int).toNat (fun _ => true) (fun r => optV (needF os (r : Int)))) :=
    el_lcR1 (fun _ => true) (fun r => optV (needF os (r : Int))) (ea_cons (ln rfl (Ex.refl _)) ea_nil) ⟨by omega, by omega⟩ (fun _ => rfl) (fun i H1 _ _ H2 _ Q k => k H2 (Ex.refl _)) (fun r H1 e1 hr _ H2 e2 Q2 k2 => ⟨_, rfl, _, rfl, a, os, (r : Int), rfl, ex_l (e1.trans e2) ha, fun H3 e3 => k2 H3 e3⟩)
  refine q_asgL needs fun p H1 hp e1 h1 => ?_
  have en : given (os.length : Int).toNat (fun _ => true) (fun r => optV (needF os (r : Int))) = ((List.range os.length).map fun r : Nat => needF os (r : Int)).map optV := by
    rw [given_all, List.map_map]
    rfl
  rw [en] at h1
  obtain ⟨nd, hnd⟩ : ∃ nd, nd = (List.range os.length).map fun r : Nat => needF os (r : Int) := ⟨_, rfl⟩
  have ndl : nd.length = os.length := by rw [hnd, List.length_map, List.length_range]
  rw [← hnd] at h1
  have out : EvL (tLc (iRng1 (tCons (tCB (rLen K) (tCons (tVar 2) tNil)) tNil)) (gName 5) tYes (tCall (spLeast K) [] E0 (tCons (tVar 0) (tCons (tOp (rIxL K) (tVar 1) (tVar 5)) (tCons (tVar 3) tNil)))) [5]) [some (.int n), some (.ref b), some (.ref a), some (.ref p), none, none] H1 (given (os.length : Int).toNat (fun _ => true) (fun k => optV (leastF n (nd.length : Int) none (T2.getD k []) nd))) := by
    refine el_lcR1 (fun _ => true) (fun k => optV (leastF n (nd.length : Int) none (T2.getD k []) nd)) (ea_cons (ln rfl e1) ea_nil) ⟨by omega, by omega⟩ (fun _ => rfl) (fun i H1 _ _ H2 _ Q k => k H2 (Ex.refl _)) (fun k H2 e2 hk _ H3 e3 Q2 k2 => ?_)
    have hv : vs[k]? = some (vs[k]'(by omega)) := List.getElem?_eq_getElem _
    obtain ⟨t, ht, rt⟩ := all k _ hv
    have g : T2.getD k [] = t := by rw [List.getD_eq_getElem?_getD, ht]; rfl
    have e13 := (e1.trans e2).trans e3
    rw [g] at k2
    exact ⟨_, rfl, _, rfl, _, rfl, b, _, _, _, rfl, rfl, SqL.of (e13 _ _ hb), atI_nat hv, _, rfl, n, _, t, m - 1, ok, p, nd, rfl, rt.ex e13, SqL.of ((e2.trans e3) _ _ h1), by rw [ndl]; exact hT t (List.mem_of_getElem? ht), fun H4 e4 => k2 H4 e4⟩
  refine s_retL out fun p2 H2 hp2 e2 h2 => q p2 H2 (fresh_back e1 hp2) (e1.trans e2) ?_
  rw [h2]
  congr 2
  rw [given_all]
  unfold stairF
  rw [List.map_map]
  rw [← hnd]
  rfl
def zerosO (n : Nat) : List (Option Int) := List.replicate n (some 0)
end
end L2.U


set_option Elab.async false
set_option linter.all false
set_option maxRecDepth 100000
set_option maxHeartbeats 4000000
namespace L2.U
open PySem PySem.Spec PyProof.Rows Evl


section
variable {P : Program} {w : World} {K : PySem.W.Frag} {mg : Str → Option Value} {base : Heap}
def rowD (d : PyData) : Bool := isSeq d && decide ((itemsD d).length ≤ 16) && (itemsD d).all (betwD 1 100000000000000000000000000000000000000000000000000)
def spIsRowD (K : PySem.W.Frag) : Sp := fun vs H Q _ => ∃ x d n ok, vs = [x] ∧ Rd K ok H n x d ∧ ∀ H', Ex H H' → Q (.bl (rowD d)) H'
theorem ok_is_row (T : TA2 K mg) : FnOk P w K mg base CX0 4 T.is_row.a T.is_row.fd ["value"] (spIsRowD K) := by
  refine T.is_row.F.ok sc_is_row (fun vs H Q E h => ?_) (fun cdv A outer s H vs Q E hr h => ?_)
  · obtain ⟨x, d, n, ok, rfl, _⟩ := h; rfl
  obtain ⟨x, d, n, ok, rfl, h, q⟩ := h
  refine ⟨_, (pss_cons (ps_if (PW.pt (pw_or (pt_not (pt_val (pe_call (ok_is_list T.toTA1) (hr.mono (by decide)) rfl T.is_list.m T.is_list.F.kp T.is_list.b .nil pass0 (pa_cons (pv 0) pa_nil)))) (pw_or1 (pt_cmpR op_gt (pe_callB (klen K) (by rfl) T.z_len (by decide +kernel) (pa_cons (pv 0) pa_nil)) (pe_glob (v := .int 16) rfl T.c_MOST_NUMBERS ⟨_, rfl⟩) (nomark _))))) (pss_one (ps_ret pe_bl)) pss_nil)
    (pss_one (ps_ret (pe_call (ok_are_between T) (hr.mono (by decide)) rfl T.are_between.m T.are_between.F.kp T.are_between.b .nil pass0 (pa_cons (pv 0) (pa_cons pe_int (pa_cons (pe_glob (v := .int 100000000000000000000000000000000000000000000000000) rfl T.c_GREATEST ⟨_, rfl⟩) pa_nil))))))), ?_⟩
  refine ⟨_, rfl, x, d, n, ok, rfl, .inl h, fun H1 e1 => ⟨isSeq d, rfl, ?_⟩⟩
  cases sq : isSeq d with
  | false => exact iteT (iteT (by have := q _ e1; unfold rowD at this; rw [sq] at this; exact this))
  | true =>
  have h1 := h.ex e1
  obtain ⟨a, xs, rfl, hs, hl, hz, all⟩ := rd_seq h1 sq
  refine iteF ⟨_, rfl, _, _, rfl, (hs.imp (fun z => ⟨_, z.1, rfl⟩) (fun z => ⟨_, z.1, rfl⟩)), _, _, rfl, rfl, _, rfl, ite2 (fun c => ?_) (fun c => ?_)⟩
  · have c' := of_decide_eq_true c
    have := q _ e1
    unfold rowD at this
    rw [sq, decide_eq_false (show ¬ (itemsD d).length ≤ 16 by omega)] at this
    exact this
  · have c' := of_decide_eq_false (Bool.eq_false_iff.mpr c)
    refine ⟨_, rfl, .ref a, d, n, ok, 1, 100000000000000000000000000000000000000000000000000, rfl, h1, sq, fun H2 e2 => ?_⟩
    have := q _ (e1.trans e2)
    unfold rowD at this
    rw [sq, decide_eq_true (show (itemsD d).length ≤ 16 by omega)] at this
    exact this
theorem ok_check_row (T : TA2 K mg) : FnOk P w K mg base (L2.CX P w) 5 T.check_row.a T.check_row.fd ["row"] (spChkD K T.InvalidRow.C rowD) := by
  refine T.check_row.F.okX sc_check_row (fun vs H Q E h => ?_) (fun cdv A outer s H vs Q E hr h => ?_)
  · obtain ⟨x, d, n, ok, rfl, _⟩ := h; rfl
  obtain ⟨x, d, n, ok, rfl, h, q1, q2⟩ := h
  refine ⟨_, (pss_one (ps_if (pt_not (pt_val (pe_call (ok_is_row T) (hr.mono (by decide)) rfl T.is_row.m T.is_row.F.kp T.is_row.b .nil pass0 (pa_cons (pv 0) pa_nil)))) (pss_one (ps_raise rfl (takes_of rfl rfl rfl rfl) (pmk_oex T.InvalidRow.T T.InvalidRow.iC T.InvalidRow.tI (ok_init_InvalidRow T.InvalidRow) (hr.mono (by decide)) T.InvalidRow.b .nil pass0 rfl T.InvalidRow.gC (by exact (pa_cons (pv 0) pa_nil))))) pss_nil)), ?_⟩
  refine ⟨_, rfl, x, d, n, ok, rfl, h, fun H1 e1 => ⟨_, rfl, ?_⟩⟩
  cases c : rowD d with
  | true => exact iteF (q1 c _ e1)
  | false => exact iteT ⟨_, rfl, (by show 1 ≤ 1000; decide), fun a ha => raised ha fun e H' ex he => q2 c e H' (e1.trans ex) he⟩
/-! ### stairs of any row -/
def stairsF (T : List (List (List Int))) (zs : List (Option Int)) : List Int → List (List (Option Int))
  | [] => [zs]
  | x :: row => stairF x T ((stairsF T zs row).headD []) :: stairsF T zs row
def headS (T : List (List (List Int))) (zs : List (Option Int)) (row : List Int) : List (Option Int) := (stairsF T zs row).headD []
theorem headS_nil {T : List (List (List Int))} {zs : List (Option Int)} : headS T zs [] = zs := rfl
theorem headS_cons {T : List (List (List Int))} {zs : List (Option Int)} {x : Int} {row : List Int} : headS T zs (x :: row) = stairF x T (headS T zs row) := rfl
theorem stairF_len {n : Int} {T : List (List (List Int))} {os : List (Option Int)} : (stairF n T os).length = os.length := by unfold stairF; rw [List.length_map, List.length_range]
theorem headS_len {T : List (List (List Int))} {zs : List (Option Int)} : ∀ row : List Int, (headS T zs row).length = zs.length
  | [] => rfl
  | x :: row => by rw [headS_cons, stairF_len, headS_len row]
theorem at_neg1 {us : List V} {v : V} : atI (us ++ [v]) (-1) = some v := by
  have e : ixN (us ++ [v]).length (-1) = some us.length := by
    unfold ixN
    rw [if_neg (by decide), if_pos (by rw [List.length_append, List.length_singleton]; omega), List.length_append, List.length_singleton]
    congr 1
    omega
  unfold atI
  rw [e]
  simp
def spStairsBy (K : PySem.W.Frag) : Sp := fun vs H Q _ => ∃ (ns : List Int) (x : V) (T : List (List (List Int))) (m : Nat) (ok : Addr → Prop) (a : Addr), vs = [.ref a, x] ∧ (SqL K H a (ns.map V.int) ∨ SqT K H a (ns.map V.int)) ∧ ns.length ≤ 16 ∧ Rd K ok H m x (list3 T) ∧ T.length ≤ 64 ∧ (∀ t ∈ T, t.length ≤ T.length) ∧
  ∀ p s us H', Ex H H' → H' p = some (.lst (.ref s :: us)) → H' s = some (.lst ((headS T (zerosO T.length) ns).map optV)) → Q (.ref p) H'
theorem ok_stairs_by (T : TA2 K mg) : FnOk P w K mg base CX0 4 T.stairs_by.a T.stairs_by.fd ["row", "told"] (spStairsBy K) := by
  refine T.stairs_by.F.ok sc_stairs_by (fun vs H Q E h => ?_) (fun cdv A outer s H vs Q E hr h => ?_)
  · obtain ⟨n, x, T, m, ok, a, rfl, _⟩ := h; rfl
  obtain ⟨ns, x, T2, m, ok, a, rfl, ha, n16, hx, h64, hT, q⟩ := h
  refine ⟨_, (pss_cons (ps_set (i := 2) sc_stairs_by.nd rfl (Or.inl rfl) (pe_lst (pa_cons (pe_op op_rep (pe_lst (pa_cons pe_int pa_nil)) (pe_callB (klen K) (by rfl) T.z_len (by decide +kernel) (pa_cons (pv 1) pa_nil))) pa_nil)))
    (pss_cons (ps_for PassesOwn.never rfl (kpis K (pe_revS (pv 0))) (pg_name (i := 3) sc_stairs_by.nd rfl (Or.inl rfl)) (pss_one (ps_expr (pe_bm PySem.F.plainAttrs_list PySem.F.slot_list_append PySem.F.type_list_append mt_append (pv 2) (pa_cons (pe_call (ok_stair T) (hr.mono (by decide)) rfl T.stair.m T.stair.F.kp T.stair.b .nil pass0 (pa_cons (pv 3) (pa_cons (pv 1) (pa_cons (pe_ix (kixl K) (pv 2) (pe_un un_neg pe_int) (fun _ _ => rfl)) pa_nil)))) pa_nil)))))
    (pss_one (ps_ret (pe_revL (pv 2)))))), ?_⟩
  obtain ⟨b, vs, rfl, hb, hlen, hz, all⟩ := rd_list3 hx
  have sz : ∀ m : Nat, m ≤ 1000 → m ≤ sizeLine := fun m h => Nat.le_of_lt (small1000 h)
  refine ⟨(by show 1 ≤ sizeLine; decide), fun p0 hp0 => ?_⟩
  have e0 := Ex.new (o := .lst [.int 0]) hp0
  refine ⟨_, rfl, _, vs.length, rfl, .inl ⟨vs, SqL.of (e0 _ _ hb), rfl⟩, p0, (vs.length : Int), [.int 0], rfl, rfl, upd_same, by omega, by omega, sz _ (by rw [List.length_singleton]; omega), fun z hz0 => ⟨(by show 1 ≤ sizeLine; decide), fun F hF => ?_⟩⟩
  have ez : (List.replicate (vs.length : Int).toNat [V.int 0]).flatten = (zerosO T2.length).map optV := by
    rw [rep_one, Int.toNat_natCast, hlen]
    unfold zerosO
    rw [List.map_replicate]
    rfl
  have e1 := e0.trans (Ex.new (o := .lst (List.replicate (vs.length : Int).toNat [V.int 0]).flatten) hz0)
  have e2 := e1.trans (Ex.new (o := .lst [.ref z]) hF)
  have hzz : upd (upd (upd H p0 (.lst [.int 0])) z (.lst (List.replicate (vs.length : Int).toNat [V.int 0]).flatten)) F (.lst [.ref z]) z = some (.lst ((zerosO T2.length).map optV)) := by
    rw [← ez]
    exact (Ex.new hF) _ _ upd_same
  have hFF : upd (upd (upd H p0 (.lst [.int 0])) z (.lst (List.replicate (vs.length : Int).toNat [V.int 0]).flatten)) F (.lst [.ref z]) F = some (.lst [.ref z]) := upd_same
  have hF1 : H F = none := fresh_back e1 hF
  generalize upd (upd (upd H p0 (.lst [.int 0])) z (.lst (List.replicate (vs.length : Int).toNat [V.int 0]).flatten)) F (.lst [.ref z]) = H1 at e2 hzz hFF ⊢
  have zl : (zerosO T2.length).length = T2.length := List.length_replicate ..
  have turn : ∀ (Pr : Hp → Prop) (cl : ∀ G G', But F G G' → Pr G → Pr G') (i : Nat) (x : V) (σ : L2.St) (H' : Hp), (ns.reverse.map V.int)[i]? = some x → (Ex H H' ∧ Pr H' ∧ ∃ (s : Addr) (us : List V) (v : Option V), H' F = some (.lst (us ++ [.ref s])) ∧ us.length = i ∧ s ≠ F ∧ H' s = some (.lst ((headS T2 (zerosO T2.length) (ns.reverse.take i).reverse).map optV)) ∧ σ = [some (.ref a), some (.ref b), some (.ref F), v]) →
      gName 3 x σ H' fun σ2 H2 => tDrop (tBM K "list" rAppend (tVar 2) (tCons (tCall (spStair K) [] E0 (tCons (tVar 3) (tCons (tVar 1) (tCons (tOp (rIxL K) (tVar 2) (tUn (rU fun i => V.int (-i)) (tC (V.int 1)))) tNil)))) tNil))
        { nx := fun σ H' => Ex H H' ∧ Pr H' ∧ ∃ (s : Addr) (us : List V) (v : Option V), H' F = some (.lst (us ++ [.ref s])) ∧ us.length = i + 1 ∧ s ≠ F ∧ H' s = some (.lst ((headS T2 (zerosO T2.length) (ns.reverse.take (i + 1)).reverse).map optV)) ∧ σ = [some (.ref a), some (.ref b), some (.ref F), v], rt := Q } σ2 H2 := by
    rintro Pr cl i x σ H' hxi ⟨e, hr, s, us, v, hF', hl, sF, hs, rfl⟩
    obtain ⟨z1, hz1, rfl⟩ := ints_get hxi
    have hi := (List.getElem?_eq_some_iff.mp hz1).1
    rw [List.length_reverse] at hi
    have hlS := headS_len (T := T2) (zs := zerosO T2.length) (ns.reverse.take i).reverse
    refine ⟨_, rfl, .inl ⟨rfl, _, SqL.of hF'⟩, _, rfl, _, rfl, _, rfl, 1, rfl, F, _, _, _, rfl, rfl, SqL.of hF', at_neg1, z1, .ref b, T2, m, ok, s, headS T2 (zerosO T2.length) (ns.reverse.take i).reverse, rfl, hx.ex e, SqL.of hs, by rw [hlS, zl], by rw [hlS, zl]; exact h64, by rw [hlS, zl]; exact hT, fun p H2 hp e4 h4 => ?_⟩
    have pF : p ≠ F := by rintro rfl; rw [hF'] at hp; cases hp
    have kF : But F H2 (upd H2 F (.lst (us ++ [.ref s] ++ [.ref p]))) := But.upd
    refine ⟨F, _, _, rfl, rfl, e4 _ _ hF', small1000 (by rw [List.length_append]; show _ + 1 ≤ 1000; omega), (e.trans e4).mut hF1, cl _ _ kF (cl _ _ (But.of e4) hr), p, us ++ [.ref s], _, upd_same, by rw [List.length_append, hl]; rfl, pF, ?_, rfl⟩
    rw [upd_ne pF, h4, List.take_add_one, hz1]
    simp only [Option.toList_some, List.reverse_append, List.reverse_cons, List.reverse_nil, List.nil_append, List.singleton_append]
    rw [headS_cons]
  have fin : ∀ (Pr : Hp → Prop) (σ : L2.St) (H' : Hp), (Ex H H' ∧ Pr H' ∧ ∃ (s : Addr) (us : List V) (v : Option V), H' F = some (.lst (us ++ [.ref s])) ∧ us.length = (ns.reverse.map V.int).length ∧ s ≠ F ∧ H' s = some (.lst ((headS T2 (zerosO T2.length) (ns.reverse.take (ns.reverse.map V.int).length).reverse).map optV)) ∧ σ = [some (.ref a), some (.ref b), some (.ref F), v]) →
      tRet (tRevL K (tVar 2)) { nx := fun _ H' => Q .non H', rt := Q } σ H' := by
    rintro Pr σ H' ⟨e, hr, s, us, v, hF', hl, sF, hs, rfl⟩
    rw [List.length_map, List.take_length, List.reverse_reverse] at hs
    exact ⟨_, rfl, F, _, rfl, SqL.of hF', fun p hp => q p s us.reverse _ (e.trans (Ex.new hp)) (by rw [upd_same, List.reverse_append]; rfl) ((Ex.new hp) _ _ hs)⟩
  have zF : z ≠ F := by
    rintro rfl
    rw [hFF] at hzz
    have := HO.lst.inj (Option.some.inj hzz)
    cases hT2 : T2.length with
    | zero => rw [hT2] at this; cases this
    | succ k => rw [hT2] at this; cases this
  have start : ∀ (Pr : Hp → Prop) (H2 : Hp), Ex H1 H2 → Pr H2 → (Ex H H2 ∧ Pr H2 ∧ ∃ (s : Addr) (us : List V) (v : Option V), H2 F = some (.lst (us ++ [.ref s])) ∧ us.length = 0 ∧ s ≠ F ∧ H2 s = some (.lst ((headS T2 (zerosO T2.length) (ns.reverse.take 0).reverse).map optV)) ∧ [some (.ref a), some (.ref b), some (.ref F), none] = [some (.ref a), some (.ref b), some (.ref F), v]) :=
    fun Pr H2 e hr => ⟨e2.trans e, hr, z, [], none, e _ _ hFF, rfl, zF, e _ _ hzz, rfl⟩
  have er : (ns.map V.int).reverse = ns.reverse.map V.int := (List.map_reverse ..).symm
  rcases ha with ha2 | ha2
  · refine .inl ⟨_, rfl, a, _, rfl, .inl ⟨ex_l e2 ha2, fun r hr0 => ?_⟩⟩
    have e3 := Ex.new (o := .lst (ns.map V.int).reverse) hr0
    have rF : r ≠ F := by rintro rfl; rw [hFF] at hr0; cases hr0
    have h0 : SqL K (upd H1 r (.lst (ns.map V.int).reverse)) r (ns.reverse.map V.int) := by rw [← er]; exact SqL.of upd_same
    exact ⟨r, rfl, ⟨_, h0⟩, for_list (xs := ns.reverse.map V.int) _ (start (fun G => SqL K G r (ns.reverse.map V.int)) _ e3 h0) (fun i σ H' _ p => p.2.1) (fun i x σ H' hx p => turn (fun G => SqL K G r (ns.reverse.map V.int)) (fun _ _ k h => k.sql rF h) i x σ H' hx p) (fun σ H' p => fin (fun G => SqL K G r (ns.reverse.map V.int)) σ H' p)⟩
  · refine .inr ⟨_, rfl, a, _, rfl, .inr ⟨ex_t e2 ha2, fun r hr0 => ?_⟩⟩
    have e3 := Ex.new (o := .tup (ns.map V.int).reverse) hr0
    have rF : r ≠ F := by rintro rfl; rw [hFF] at hr0; cases hr0
    have h0 : SqT K (upd H1 r (.tup (ns.map V.int).reverse)) r (ns.reverse.map V.int) := by rw [← er]; exact SqT.of upd_same
    exact ⟨r, rfl, ⟨_, h0⟩, for_tup (xs := ns.reverse.map V.int) _ (start (fun G => SqT K G r (ns.reverse.map V.int)) _ e3 h0) (fun i σ H' _ p => p.2.1) (fun i x σ H' hx p => turn (fun G => SqT K G r (ns.reverse.map V.int)) (fun _ _ k h => k.sqt rF h) i x σ H' hx p) (fun σ H' p => fin (fun G => SqT K G r (ns.reverse.map V.int)) σ H' p)⟩
end
end L2.U


set_option Elab.async false
set_option linter.all false
set_option maxRecDepth 100000
set_option maxHeartbeats 4000000
namespace L2.U
open PySem PySem.Spec PyProof.Rows Evl

section
variable {P : Program} {w : World} {K : PySem.W.Frag} {mg : Str → Option Value} {base : Heap}
theorem seq_ints {ok : Addr → Prop} {H : Hp} {n : Nat} {x : V} {d : PyData} {p : PyData → Bool} (h : Rd K ok H n x d) (sq : isSeq d = true) (al : (itemsD d).all p = true) (hp : ∀ e, p e = true → ∃ i, e = .int i) :
    ∃ a, x = .ref a ∧ (SqL K H a (((itemsD d).map intD).map V.int) ∨ SqT K H a (((itemsD d).map intD).map V.int)) := by
  obtain ⟨a, xs, rfl, hs, hl, hz, all⟩ := rd_seq h sq
  have e : xs = ((itemsD d).map intD).map V.int := by
    apply List.ext_getElem?
    intro i
    rw [List.getElem?_map, List.getElem?_map]
    by_cases hi : i < xs.length
    · have hd : (itemsD d)[i]? = some ((itemsD d)[i]'(by omega)) := List.getElem?_eq_getElem _
      have r := all i _ _ (List.getElem?_eq_getElem hi) hd
      obtain ⟨z, ez⟩ := hp _ (List.all_eq_true.mp al _ (List.getElem_mem (show i < (itemsD d).length by omega)))
      rw [hd, List.getElem?_eq_getElem hi]
      rw [ez] at r ⊢
      generalize xs[i] = xx at r
      generalize n - 1 = nn at r
      cases r with
      | int z => rfl
    · rw [List.getElem?_eq_none (by omega), List.getElem?_eq_none (show (itemsD d).length ≤ i by omega)]; rfl
  rw [← e]
  exact ⟨a, rfl, hs.imp (fun z => z.1) (fun z => z.1)⟩
theorem RdL.nil {ok : Addr → Prop} {H : Hp} {n : Nat} : RdL K ok H n [] [] := ⟨rfl, fun i x d h _ => by cases h⟩
theorem RdL.cons {ok : Addr → Prop} {H : Hp} {n : Nat} {x : V} {d : PyData} {xs : List V} {ds : List PyData} (h : Rd K ok H n x d) (r : RdL K ok H n xs ds) : RdL K ok H n (x :: xs) (d :: ds) := by
  refine ⟨by rw [List.length_cons, List.length_cons, r.1], fun i y e hy he => ?_⟩
  cases i with
  | zero => cases Option.some.inj hy; cases Option.some.inj he; exact h
  | succ i => exact r.2 i y e hy he
theorem RdL.append {ok : Addr → Prop} {H : Hp} {n : Nat} {xs ys : List V} {ds es : List PyData} (h1 : RdL K ok H n xs ds) (h2 : RdL K ok H n ys es) : RdL K ok H n (xs ++ ys) (ds ++ es) := by
  refine ⟨by rw [List.length_append, List.length_append, h1.1, h2.1], fun i x d hx hd => ?_⟩
  by_cases c : i < xs.length
  · rw [List.getElem?_append_left c] at hx
    rw [List.getElem?_append_left (by rw [← h1.1]; exact c)] at hd
    exact h1.2 i x d hx hd
  · rw [List.getElem?_append_right (by omega)] at hx
    rw [List.getElem?_append_right (by rw [← h1.1]; omega), ← h1.1] at hd
    exact h2.2 _ x d hx hd

theorem betw_isint {lo hi : Int} : ∀ e, betwD lo hi e = true → ∃ i, e = .int i := fun e h => by cases e <;> first | exact ⟨_, rfl⟩ | cases h
def numsD (d : PyData) : List Int := (itemsD d).map intD
theorem row_get {ok : Addr → Prop} {H : Hp} {n : Nat} {x : V} {d : PyData} (h : Rd K ok H n x d) (c : rowD d = true) : ∃ a, x = .ref a ∧ (SqL K H a ((numsD d).map V.int) ∨ SqT K H a ((numsD d).map V.int)) ∧ (numsD d).length ≤ 16 ∧ ∀ k ∈ numsD d, 1 ≤ k := by
  unfold rowD at c
  simp only [Bool.and_eq_true] at c
  obtain ⟨⟨c1, c2⟩, c3⟩ := c
  obtain ⟨a, e, hs⟩ := seq_ints h c1 c3 betw_isint
  refine ⟨a, e, hs, by unfold numsD; rw [List.length_map]; exact of_decide_eq_true c2, fun k hk => ?_⟩
  obtain ⟨y, hy, rfl⟩ := List.mem_map.mp hk
  have := List.all_eq_true.mp c3 y hy
  obtain ⟨i, rfl⟩ := betw_isint y this
  exact (of_decide_eq_true this).1
theorem toldK_len (m : Nat) : (toldK m).length = m + 1 := by unfold toldK; rw [List.length_map, List.length_range]
theorem toldK_in (m : Nat) : ∀ t ∈ toldK m, t.length ≤ (toldK m).length := by
  intro t ht
  rw [toldK_len]
  unfold toldK at ht
  obtain ⟨k, hk, rfl⟩ := List.mem_map.mp ht
  rw [List.length_map, List.length_range]
  have := List.mem_range.mp hk
  omega
theorem num_le {d : PyData} (c : betwD 0 16 d = true) : (intD d).toNat ≤ 16 := by
  cases d with
  | int i =>
    have h : 0 ≤ i ∧ i ≤ 16 := of_decide_eq_true c
    show i.toNat ≤ 16
    omega
  | none => cases c
  | bool _ => cases c
  | str _ => cases c
  | list _ => cases c
  | tuple _ => cases c
  | dict _ => cases c
def topS (m : Nat) (ns : List Int) : List (Option Int) := headS (toldK m) (zerosO (m + 1)) ns
end
end L2.U


set_option Elab.async false
set_option linter.all false
set_option maxRecDepth 100000
set_option maxHeartbeats 4000000
namespace L2.U
open PySem PySem.Spec PyProof.Rows Evl

section
variable {P : Program} {w : World} {K : PySem.W.Frag} {mg : Str → Option Value} {base : Heap}
def spCheckKinds : Sp := fun vs H Q _ => ∃ i j : Int, vs = [.int i, .int j] ∧ 0 ≤ i ∧ i ≤ 16 ∧ 0 ≤ j ∧ j ≤ 16 ∧ Q .non H
theorem ok_check_kinds (T : TA2 K mg) : FnOk P w K mg base CX0 3 T.check_kinds.a T.check_kinds.fd ["own", "other"] spCheckKinds := by
  refine T.check_kinds.F.ok sc_check_kinds (fun vs H Q E h => ?_) (fun cdv A outer s H vs Q E hr h => ?_)
  · obtain ⟨i, j, rfl, _⟩ := h; rfl
  obtain ⟨i, j, rfl, i0, i1, j0, j1, q⟩ := h
  refine ⟨_, (pss_cons (ps_if (pt_not (pt_val (pe_call (ok_is_between T.toTA1) (hr.mono (by decide)) rfl T.is_between.m T.is_between.F.kp T.is_between.b .nil pass0 (pa_cons (pv 0) (pa_cons pe_int (pa_cons (pe_glob (v := .int 16) rfl T.c_MOST_KINDS ⟨_, rfl⟩) pa_nil)))))) pss_never pss_nil)
    (pss_one (ps_if (pt_not (pt_val (pe_call (ok_is_between T.toTA1) (hr.mono (by decide)) rfl T.is_between.m T.is_between.F.kp T.is_between.b .nil pass0 (pa_cons (pv 1) (pa_cons pe_int (pa_cons (pe_glob (v := .int 16) rfl T.c_MOST_KINDS ⟨_, rfl⟩) pa_nil)))))) pss_never pss_nil))), ?_⟩
  refine ⟨_, rfl, _, _, _, rfl, .int, fun b h1 _ => ⟨b, rfl, ?_⟩⟩
  rw [h1 i rfl, decide_eq_true (⟨i0, i1⟩ : 0 ≤ i ∧ i ≤ 16)]
  refine iteF ⟨_, rfl, _, _, _, rfl, .int, fun b h1 _ => ⟨b, rfl, ?_⟩⟩
  rw [h1 j rfl, decide_eq_true (⟨j0, j1⟩ : 0 ≤ j ∧ j ≤ 16)]
  exact iteF q

def spCheckBoth (K : PySem.W.Frag) : Sp := fun vs H Q E => ∃ (x : V) (dx : PyData) (n : Nat) (ok : Addr → Prop) (i j : Int), vs = [x, .int i, .int j] ∧ Rd K ok H n x dx ∧ rowD dx = true ∧ 0 ≤ i ∧ i ≤ 16 ∧ 0 ≤ j ∧ j ≤ 16 ∧ ∀ H', Ex H H' → Q .non H'
theorem okr_check_row_and_kinds (T : TA2 K mg) : FnOk P w K mg base (L2.CX P w) 6 T.check_row_and_kinds.a T.check_row_and_kinds.fd ["row", "own", "other"] (spCheckBoth K) := by
  refine T.check_row_and_kinds.F.okX sc_check_row_and_kinds (fun vs H Q E h => ?_) (fun cdv A outer s H vs Q E hr h => ?_)
  · obtain ⟨x, dx, n, ok, i, j, rfl, _⟩ := h; rfl
  obtain ⟨x, dx, n, ok, i, j, rfl, hx, c, i0, i1, j0, j1, q⟩ := h
  refine ⟨_, (pss_cons (ps_expr (by exact (pe_callS (ok_check_row T) (hr.mono (by decide)) rfl T.check_row.m T.check_row.F.kp T.check_row.b (fun σ => passAt (takes_of rfl rfl rfl rfl) σ) (pa_cons (pv 0) pa_nil))))
    (pss_one (ps_expr (pe_call (ok_check_kinds T) (hr.mono (by decide)) rfl T.check_kinds.m T.check_kinds.F.kp T.check_kinds.b .nil pass0 (pa_cons (pv 1) (pa_cons (pv 2) pa_nil)))))), ?_⟩
  refine ⟨_, rfl, x, dx, n, ok, rfl, hx, fun _ H1 e1 => ?_, fun no => by rw [c] at no; cases no⟩
  exact ⟨_, rfl, _, rfl, i, j, rfl, i0, i1, j0, j1, q _ e1⟩
theorem ok_check_row_and_kinds (T : TA2 K mg) : FnOk P w K mg base CX0 6 T.check_row_and_kinds.a T.check_row_and_kinds.fd ["row", "own", "other"] (spCheckBoth K) := fn_calm (okr_check_row_and_kinds T) fun _ _ _ _ h => h
end
end L2.U


set_option Elab.async false
set_option linter.all false
set_option maxRecDepth 100000
set_option maxHeartbeats 4000000
namespace L2.U
open PySem PySem.Spec PyProof.Rows Evl

section
variable {P : Program} {w : World} {K : PySem.W.Frag} {mg : Str → Option Value} {base : Heap}
def canD (dx : PyData) (i j : Nat) : Bool := match (topS (if i < j then j else i) (numsD dx)).getD i none with
  | some l => decide (l ≤ (j : Int))
  | none => false
theorem topS_len (m : Nat) (ns : List Int) : (topS m ns).length = m + 1 := by unfold topS; rw [headS_len]; exact List.length_replicate
def spCan (K : PySem.W.Frag) : Sp := fun vs H Q _ => ∃ (x : V) (dx : PyData) (n : Nat) (ok : Addr → Prop) (i j : Nat), vs = [x, .int (i : Int), .int (j : Int)] ∧ Rd K ok H n x dx ∧ rowD dx = true ∧ i ≤ 16 ∧ j ≤ 16 ∧ ∀ H', Ex H H' → Q (.bl (canD dx i j)) H'
theorem ok_can_tell (T : TA2 K mg) : FnOk P w K mg base CX0 9 T.can_tell.a T.can_tell.fd ["row", "own", "other"] (spCan K) := by
  refine T.can_tell.F.ok sc_can_tell (fun vs H Q E h => ?_) (fun cdv A outer s H vs Q E hr h => ?_)
  · obtain ⟨x, dx, n, ok, i, j, rfl, _⟩ := h; rfl
  obtain ⟨x, dx, n, ok, i, j, rfl, hx, c, hi, hj, q⟩ := h
  refine ⟨_, (pss_cons (ps_expr (pe_call (ok_check_row_and_kinds T) (hr.mono (by decide)) rfl T.check_row_and_kinds.m T.check_row_and_kinds.F.kp T.check_row_and_kinds.b .nil pass0 (pa_cons (pv 0) (pa_cons (pv 1) (pa_cons (pv 2) pa_nil)))))
    (pss_cons (ps_set (i := 3) sc_can_tell.nd rfl (Or.inl rfl) (pe_ix (kixl K) (pe_ix (kixl K) (pe_call (ok_stairs_by T) (hr.mono (by decide)) rfl T.stairs_by.m T.stairs_by.F.kp T.stairs_by.b .nil pass0 (pa_cons (pv 0) (pa_cons (pe_call (ok_told_by_kinds T) (hr.mono (by decide)) rfl T.told_by_kinds.m T.told_by_kinds.F.kp T.told_by_kinds.b .nil pass0 (pa_cons (pe_callB (call_max2 rfl) (by rfl) T.z_max (by decide +kernel) (pa_cons (pv 1) (pa_cons (pv 2) pa_nil))) pa_nil)) pa_nil))) pe_int (fun _ _ => rfl)) (pv 1) (fun _ _ => rfl)))
    (pss_one (ps_ret (pe_and (pe_cmpR op_notN (pv 3) pe_non (nomark _)) (pe_one (pe_cmpR op_le (pv 3) (pv 2) (nomark _)))))))), ?_⟩
  refine ⟨_, rfl, _, rfl, _, rfl, x, dx, n, ok, (i : Int), (j : Int), rfl, hx, c, by omega, by omega, by omega, by omega, fun H1 e1 => ?_⟩
  obtain ⟨m, hm⟩ : ∃ m : Nat, m = if i < j then j else i := ⟨_, rfl⟩
  have em : (if (j : Int) > (i : Int) then (j : Int) else (i : Int)) = (m : Int) := by
    rw [hm]
    by_cases c : i < j
    · rw [if_pos (by omega), if_pos c]
    · rw [if_neg (by omega), if_neg c]
  have mi : i ≤ m := by rw [hm]; split <;> omega
  refine ⟨_, rfl, _, rfl, _, rfl, _, _, rfl, m, ?_, by rw [hm]; split <;> omega, fun p H2 e2 r2 => ?_⟩
  · rw [em]
    rfl
  have e12 := e1.trans e2
  have h64 : (toldK m).length ≤ 64 := by rw [toldK_len, hm]; split <;> omega
  obtain ⟨a, rfl, ha, hl, _⟩ := row_get (hx.ex e12) c
  refine ⟨numsD dx, .ref p, toldK m, 3, _, a, rfl, ha, hl, r2, h64, toldK_in m, fun f s us H3 e3 hf hs => ?_⟩
  rw [toldK_len] at hs
  have tl := topS_len m (numsD dx)
  have hio : (topS m (numsD dx))[i]? = some ((topS m (numsD dx)).getD i none) := by rw [List.getD_eq_getElem?_getD, List.getElem?_eq_getElem (by rw [tl]; omega)]; rfl
  refine ⟨f, _, 0, _, rfl, rfl, SqL.of hf, at_of (show (0 : Int) = ((0 : Nat) : Int) from rfl) rfl, _, rfl, s, _, (i : Int), optV ((topS m (numsD dx)).getD i none), rfl, rfl, SqL.of hs, atI_nat ?_, ?_⟩
  · show ((topS m (numsD dx)).map optV)[i]? = _
    rw [List.getElem?_map, hio]
    rfl
  have q3 := q H3 (e12.trans e3)
  unfold canD at q3
  rw [← hm] at q3
  generalize (topS m (numsD dx)).getD i none = o at q3 ⊢
  cases o with
  | none => exact ⟨_, rfl, rfl, _, rfl, iteF q3⟩
  | some l => exact ⟨_, rfl, rfl, _, rfl, iteT ⟨_, rfl, _, rfl, _, _, rfl, rfl, q3⟩⟩
end
end L2.U


set_option Elab.async false
set_option linter.all false
set_option maxRecDepth 100000
set_option maxHeartbeats 4000000
namespace L2.U
open PySem PySem.Spec PyProof.Rows Evl
/-! ### what a row of numbers asks, and the stairs: pure mathematics -/
/-- a speaker of n kinds can tell the row, the other end having a; f n r l is what r + 1 rounds of n kinds tell that leave l -/
def Can (f : Nat → Nat → Nat → Int) : List Int → Nat → Nat → Prop
  | [], _, _ => True
  | x :: row, n, a => ∃ r l, r ≤ a ∧ l + r < n ∧ x ≤ f n r l ∧ Can f row (a - r) l
def Rises (f : Nat → Nat → Nat → Int) : Prop := ∀ n n' r l, n ≤ n' → n' ≤ 16 → l + r < n → f n r l ≤ f n' r l
theorem can_mono {f : Nat → Nat → Nat → Int} (hf : Rises f) : ∀ (row : List Int) (n n' a a' : Nat), n ≤ n' → n' ≤ 16 → a ≤ a' → a' ≤ 16 → Can f row n a → Can f row n' a'
  | [], _, _, _, _, _, _, _, _, _ => trivial
  | x :: row, n, n', a, a', h1, h2, h3, h4, ⟨r, l, c1, c2, c3, c4⟩ =>
    ⟨r, l, by omega, by omega, Int.le_trans c3 (hf n n' r l h1 h2 c2), can_mono hf row (a - r) (a' - r) l l (by omega) (by omega) (Nat.le_refl _) (by omega) c4⟩
/-- the greatest rest alone need be tried -/
theorem can_best {f : Nat → Nat → Nat → Int} (hf : Rises f) {x : Int} {row : List Int} {n a : Nat} (hn : n ≤ 16) (ha : a ≤ 16) :
    Can f (x :: row) n a ↔ ∃ r, r ≤ a ∧ r ≤ n ∧ ∃ L, L + r < n ∧ x ≤ f n r L ∧ (∀ l, l + r < n → x ≤ f n r l → l ≤ L) ∧ Can f row (a - r) L := by
  constructor
  · rintro ⟨r, l, c1, c2, c3, c4⟩
    have key : ∀ d : Nat, ∀ l, n - l = d → l + r < n → x ≤ f n r l → Can f row (a - r) l → ∃ L, L + r < n ∧ x ≤ f n r L ∧ (∀ l, l + r < n → x ≤ f n r l → l ≤ L) ∧ Can f row (a - r) L := by
      intro d
      induction d using Nat.strongRecOn with
      | _ d ih =>
        intro l hd h2 h3 h4
        by_cases c : ∀ l', l' + r < n → x ≤ f n r l' → l' ≤ l
        · exact ⟨l, h2, h3, c, h4⟩
        · have : ∃ l', l' + r < n ∧ x ≤ f n r l' ∧ l < l' := by
            apply Classical.byContradiction
            intro no
            apply c
            intro l' g1 g2
            apply Classical.byContradiction
            intro g3
            exact no ⟨l', g1, g2, by omega⟩
          obtain ⟨l', g1, g2, g3⟩ := this
          exact ih (n - l') (by omega) l' rfl g1 g2 (can_mono hf row _ _ l l' (Nat.le_refl _) (by omega) (by omega) (by omega) h4)
    obtain ⟨L, k1, k2, k3, k4⟩ := key (n - l) l rfl c2 c3 c4
    exact ⟨r, c1, by omega, L, k1, k2, k3, k4⟩
  · rintro ⟨r, c1, _, L, k1, k2, _, k4⟩
    exact ⟨r, L, c1, k1, k2, k4⟩
theorem fstO_some {α : Type} {p : α → Bool} : ∀ {l : List α} {k : Nat} {j : Int}, fstO p k l = some j → ∃ i x, j = ((k + i : Nat) : Int) ∧ l[i]? = some x ∧ p x = true ∧ ∀ i' x', i' < i → l[i']? = some x' → p x' = false
  | [], k, j, h => by cases h
  | y :: r, k, j, h => by
    unfold fstO at h
    by_cases c : p y = true
    · rw [if_pos c] at h
      exact ⟨0, y, (Option.some.inj h).symm, rfl, c, fun i' x' hi _ => absurd hi (Nat.not_lt_zero _)⟩
    · rw [if_neg c] at h
      obtain ⟨i, x, e, hx, hp, hq⟩ := fstO_some h
      refine ⟨i + 1, x, by rw [e]; congr 1; omega, hx, hp, fun i' x' hi hx' => ?_⟩
      cases i' with
      | zero => cases Option.some.inj hx'; exact Bool.eq_false_iff.mpr c
      | succ i' => exact hq i' x' (by omega) hx'
theorem fstO_none {α : Type} {p : α → Bool} : ∀ {l : List α} {k : Nat}, fstO p k l = none → ∀ (i : Nat) (x : α), l[i]? = some x → p x = false
  | [], k, _, i, x, hx => by cases hx
  | y :: r, k, h, i, x, hx => by
    unfold fstO at h
    by_cases c : p y = true
    · rw [if_pos c] at h; cases h
    · rw [if_neg c] at h
      cases i with
      | zero => cases Option.some.inj hx; exact Bool.eq_false_iff.mpr c
      | succ i => exact fstO_none h i x hx
/-- the table: for k kinds, for each rest, for each number of answers -/
def TabF (f : Nat → Nat → Nat → Int) (N : Nat) : List (List (List Int)) := (List.range (N + 1)).map fun k => (List.range k).map fun l => (List.range (k - l)).map fun r => f k r l
/-- a stair stands for a row: for each number of kinds the least kinds of the other end, or none -/
def Stands (f : Nat → Nat → Nat → Int) (N : Nat) (row : List Int) (os : List (Option Int)) : Prop :=
  os.length = N + 1 ∧ ∀ (k : Nat) (o : Option Int), os[k]? = some o → (∀ l, o = some l → 0 ≤ l ∧ l ≤ (N : Int)) ∧ ∀ a : Nat, a ≤ N → (Can f row k a ↔ ∃ l, o = some l ∧ l ≤ (a : Int))
theorem stands_nil {f : Nat → Nat → Nat → Int} {N : Nat} : Stands f N [] (List.replicate (N + 1) (some 0)) := by
  refine ⟨List.length_replicate, fun k o h => ?_⟩
  rw [List.getElem?_replicate] at h
  split at h
  · obtain rfl := Option.some.inj h
    exact ⟨fun l e => by cases e; omega, fun a ha => ⟨fun _ => ⟨0, rfl, by omega⟩, fun _ => trivial⟩⟩
  · cases h
theorem need_some {f : Nat → Nat → Nat → Int} {N : Nat} {row : List Int} {os : List (Option Int)} (h : Stands f N row os) {l : Nat} (hl : l ≤ N) {j : Int} (e : needF os (l : Int) = some j) : ∃ k : Nat, k ≤ N ∧ j = (k : Int) ∧ Can f row k l ∧ ∀ k', k' < k → ¬ Can f row k' l := by
  obtain ⟨i, o, hj, ho, hp, hq⟩ := fstO_some e
  have hi := (List.getElem?_eq_some_iff.mp ho).1
  rw [h.1] at hi
  refine ⟨i, by omega, by rw [hj]; congr 1; omega, ?_, fun k' hk' c => ?_⟩
  · refine ((h.2 i o ho).2 l hl).mpr ?_
    cases o with
    | none => cases hp
    | some z => exact ⟨z, rfl, of_decide_eq_true hp⟩
  · have hk2 : os[k']? = some (os[k']'(by rw [h.1]; omega)) := List.getElem?_eq_getElem _
    obtain ⟨z, ez, hz⟩ := ((h.2 k' _ hk2).2 l hl).mp c
    have := hq k' _ hk' hk2
    rw [ez] at this
    exact absurd (decide_eq_true hz) (by rw [show decide (z ≤ (l : Int)) = false from this]; decide)
theorem need_none {f : Nat → Nat → Nat → Int} {N : Nat} {row : List Int} {os : List (Option Int)} (h : Stands f N row os) {l : Nat} (hl : l ≤ N) (e : needF os (l : Int) = none) : ∀ k, k ≤ N → ¬ Can f row k l := by
  intro k hk c
  have hk2 : os[k]? = some (os[k]'(by rw [h.1]; omega)) := List.getElem?_eq_getElem _
  obtain ⟨z, ez, hz⟩ := ((h.2 k _ hk2).2 l hl).mp c
  have := fstO_none e k _ hk2
  rw [ez] at this
  exact absurd (decide_eq_true hz) (by rw [show decide (z ≤ (l : Int)) = false from this]; decide)
theorem few_some {g : Nat → Int} {m : Nat} {x j : Int} (e : fewest x ((List.range m).map g) = some j) : ∃ r : Nat, r < m ∧ j = (r : Int) ∧ x ≤ g r ∧ ∀ r', r' < r → ¬ x ≤ g r' := by
  obtain ⟨i, v, hj, hv, hp, hq⟩ := fstO_some e
  have hi := (List.getElem?_eq_some_iff.mp hv).1
  rw [List.length_map, List.length_range] at hi
  have val : ∀ k, k < m → ((List.range m).map g)[k]? = some (g k) := fun k hk => by rw [List.getElem?_map, List.getElem?_range hk]; rfl
  rw [val i hi] at hv
  obtain rfl := Option.some.inj hv
  exact ⟨i, hi, by rw [hj]; congr 1; omega, of_decide_eq_true hp, fun r' hr => of_decide_eq_false (hq r' _ hr (val r' (by omega)))⟩
theorem few_none {g : Nat → Int} {m : Nat} {x : Int} (e : fewest x ((List.range m).map g) = none) : ∀ r, r < m → ¬ x ≤ g r := fun r hr => of_decide_eq_false (fstO_none e r (g r) (by rw [List.getElem?_map, List.getElem?_range hr]; rfl))
theorem least_spec {x len : Int} : ∀ (T : List (List Int)) (os : List (Option Int)) (acc : Option Int),
    (∀ l, leastF x len acc T os = some l → acc = some l ∨ ∃ (i : Nat) (t : List Int) (a b : Int), T[i]? = some t ∧ os[i]? = some (some b) ∧ fewest x t = some a ∧ l = a + b ∧ l < len) ∧
    (∀ (i : Nat) (t : List Int) (a b : Int), T[i]? = some t → os[i]? = some (some b) → fewest x t = some a → a + b < len → ∃ l, leastF x len acc T os = some l ∧ l ≤ a + b) ∧
    (∀ z, acc = some z → ∃ l, leastF x len acc T os = some l ∧ l ≤ z)
  | [], os, acc => ⟨fun l h => .inl (by cases os <;> exact h), fun i t a b h => (by cases h), fun z h => ⟨z, (by cases os <;> exact h), Int.le_refl _⟩⟩
  | t :: T, [], acc => ⟨fun l h => .inl h, fun i t a b _ h => (by cases h), fun z h => ⟨z, h, Int.le_refl _⟩⟩
  | t :: T, o :: os, acc => by
    have ih := least_spec (x := x) (len := len) T os (stepL x len acc t o)
    have step : (∀ l, stepL x len acc t o = some l → acc = some l ∨ ∃ a b, o = some b ∧ fewest x t = some a ∧ l = a + b ∧ l < len) ∧
        (∀ a b, o = some b → fewest x t = some a → a + b < len → ∃ l, stepL x len acc t o = some l ∧ l ≤ a + b) ∧ (∀ z, acc = some z → ∃ l, stepL x len acc t o = some l ∧ l ≤ z) := by
      unfold stepL
      cases ef : fewest x t with
      | none => exact ⟨fun l h => .inl h, fun a b _ h => (by cases h), fun z h => ⟨z, h, Int.le_refl _⟩⟩
      | some a =>
        cases o with
        | none => exact ⟨fun l h => .inl h, fun a b h => (by cases h), fun z h => ⟨z, h, Int.le_refl _⟩⟩
        | some b =>
          show (∀ l, (if a + b < len ∧ (∀ z, acc = some z → a + b < z) then some (a + b) else acc) = some l → _) ∧ _
          by_cases c : a + b < len ∧ (∀ z, acc = some z → a + b < z)
          · refine ⟨fun l h => ?_, fun a' b' h1 h2 h3 => ?_, fun z h => ?_⟩
            · rw [if_pos c] at h
              exact .inr ⟨a, b, rfl, rfl, (Option.some.inj h).symm, by rw [← Option.some.inj h]; exact c.1⟩
            · cases h1; cases h2
              exact ⟨a + b, if_pos c, Int.le_refl _⟩
            · exact ⟨a + b, if_pos c, Int.le_of_lt (c.2 z h)⟩
          · refine ⟨fun l h => ?_, fun a' b' h1 h2 h3 => ?_, fun z h => ⟨z, (by show (if _ then _ else _) = _; rw [if_neg c]; exact h), Int.le_refl _⟩⟩
            · rw [if_neg c] at h
              exact .inl h
            · cases h1; cases h2
              have : ∃ z, acc = some z ∧ z ≤ a + b := by
                apply Classical.byContradiction
                intro no
                exact c ⟨h3, fun z hz => by
                  apply Classical.byContradiction
                  intro g
                  exact no ⟨z, hz, by omega⟩⟩
              obtain ⟨z, hz, hle⟩ := this
              exact ⟨z, (by show (if _ then _ else _) = _; rw [if_neg c]; exact hz), hle⟩
    show (∀ l, leastF x len (stepL x len acc t o) T os = some l → _) ∧ (∀ i t' a b, _ → _ → _ → _ → ∃ l, leastF x len (stepL x len acc t o) T os = some l ∧ _) ∧ (∀ z, _ → ∃ l, leastF x len (stepL x len acc t o) T os = some l ∧ _)
    refine ⟨fun l h => ?_, fun i t' a b h1 h2 h3 h4 => ?_, fun z h => ?_⟩
    · rcases ih.1 l h with h | ⟨i, t', a, b, g1, g2, g3, g4⟩
      · rcases step.1 l h with h | ⟨a, b, rfl, g2, g3⟩
        · exact .inl h
        · exact .inr ⟨0, t, a, b, rfl, rfl, g2, g3⟩
      · exact .inr ⟨i + 1, t', a, b, g1, g2, g3, g4⟩
    · cases i with
      | zero =>
        cases Option.some.inj h1
        obtain ⟨l, e, hl⟩ := step.2.1 a b (Option.some.inj h2) h3 h4
        obtain ⟨l', e', hl'⟩ := ih.2.2 l e
        exact ⟨l', e', by omega⟩
      | succ i => exact ih.2.1 i t' a b h1 h2 h3 h4
    · obtain ⟨l, e, hl⟩ := step.2.2 z h
      obtain ⟨l', e', hl'⟩ := ih.2.2 l e
      exact ⟨l', e', by omega⟩
theorem stair_stands {f : Nat → Nat → Nat → Int} (hf : Rises f) {N : Nat} (hN : N ≤ 16) {x : Int} {row : List Int} {os : List (Option Int)} (h : Stands f N row os) : Stands f N (x :: row) (stairF x (TabF f N) os) := by
  have nl : ((List.range os.length).map fun r : Nat => needF os (r : Int)).length = N + 1 := by rw [List.length_map, List.length_range, h.1]
  refine ⟨by unfold stairF; rw [List.length_map, List.length_range, h.1], fun k o ho => ?_⟩
  unfold stairF at ho
  simp only at ho
  rw [List.getElem?_map] at ho
  have hk : k < N + 1 := by
    apply Classical.byContradiction
    intro c
    rw [List.getElem?_eq_none (by rw [List.length_range, h.1]; omega)] at ho
    cases ho
  rw [List.getElem?_range (by rw [h.1]; exact hk)] at ho
  obtain rfl := Option.some.inj ho
  have tk : (TabF f N).getD k [] = (List.range k).map fun l => (List.range (k - l)).map fun r => f k r l := by
    unfold TabF
    rw [List.getD_eq_getElem?_getD, List.getElem?_map, List.getElem?_range hk]
    rfl
  dsimp only
  rw [tk, nl]
  obtain ⟨s1, s2, _⟩ := least_spec (x := x) (len := ((N + 1 : Nat) : Int)) ((List.range k).map fun l => (List.range (k - l)).map fun r => f k r l) ((List.range os.length).map fun r : Nat => needF os (r : Int)) none
  generalize leastF x ((N + 1 : Nat) : Int) none ((List.range k).map fun l => (List.range (k - l)).map fun r => f k r l) ((List.range os.length).map fun r : Nat => needF os (r : Int)) = o at s1 s2
  have back : ∀ l, o = some l → ∃ (r b i : Nat), i < k ∧ r < k - i ∧ l = (r : Int) + (b : Int) ∧ l < ((N + 1 : Nat) : Int) ∧ x ≤ f k r i ∧ Can f row b i := by
    intro l e
    rcases s1 l e with h' | ⟨i, t, a, b, g1, g2, g3, g4, g5⟩
    · cases h'
    · rw [List.getElem?_map] at g1 g2
      have hi : i < k := by
        apply Classical.byContradiction
        intro c
        rw [List.getElem?_eq_none (by rw [List.length_range]; omega)] at g1
        cases g1
      rw [List.getElem?_range hi] at g1
      rw [List.getElem?_range (by rw [h.1]; omega)] at g2
      obtain rfl := Option.some.inj g1
      obtain ⟨r, r1, r2, r3, _⟩ := few_some g3
      obtain ⟨b', b1, b2, b3, _⟩ := need_some h (show i ≤ N by omega) (Option.some.inj g2)
      exact ⟨r, b', i, hi, r1, by rw [g4, r2, b2], g5, r3, b3⟩
  refine ⟨fun l e => ?_, fun a ha => ⟨?_, ?_⟩⟩
  · obtain ⟨r, b, i, _, _, e2, e3, _, _⟩ := back l e
    exact ⟨by omega, by omega⟩
  · rintro ⟨r, l, c1, c2, c3, c4⟩
    have hl : l < k := by omega
    cases ef : fewest x ((List.range (k - l)).map fun r => f k r l) with
    | none => exact absurd c3 (few_none ef r (by omega))
    | some a0 =>
      obtain ⟨r0, p1, p2, p3, p4⟩ := few_some ef
      have r0r : r0 ≤ r := by
        apply Classical.byContradiction
        intro c
        exact p4 r (by omega) c3
      cases en : needF os (l : Int) with
      | none => exact absurd c4 (need_none h (by omega) en (a - r) (by omega))
      | some b0 =>
        obtain ⟨b, q1, q2, q3, q4⟩ := need_some h (show l ≤ N by omega) en
        have bb : b ≤ a - r := by
          apply Classical.byContradiction
          intro c
          exact q4 (a - r) (by omega) c4
        obtain ⟨z, ez, hz⟩ := s2 l _ a0 b0 (by rw [List.getElem?_map, List.getElem?_range hl]; rfl) (by rw [List.getElem?_map, List.getElem?_range (by rw [h.1]; omega)]; exact congrArg some en) ef (by omega)
        exact ⟨z, ez, by omega⟩
  · rintro ⟨l, e, hl⟩
    obtain ⟨r, b, i, i1, i2, e2, e3, c3, c4⟩ := back l e
    exact ⟨r, i, by omega, by omega, c3, can_mono hf row b (a - r) i i (by omega) (by omega) (Nat.le_refl _) (by omega) c4⟩
theorem stairs_stand {f : Nat → Nat → Nat → Int} (hf : Rises f) {N : Nat} (hN : N ≤ 16) : ∀ row : List Int, Stands f N row (headS (TabF f N) (List.replicate (N + 1) (some 0)) row)
  | [] => stands_nil
  | x :: row => by rw [headS_cons]; exact stair_stands hf hN (stairs_stand hf hN row)
def mostF (n r l : Nat) : Int := mostA (n : Int) ((r : Int) + 1) (l : Int)
theorem told_tab (m : Nat) : toldK m = TabF mostF m := rfl
theorem most_step : ∀ n : Fin 16, ∀ r : Fin 16, ∀ l : Fin 16, l.val + r.val < n.val → mostF n.val r.val l.val ≤ mostF (n.val + 1) r.val l.val := by decide +kernel
theorem most_rises : Rises mostF := by
  intro n n' r l h h16 c
  obtain ⟨d, rfl⟩ : ∃ d, n' = n + d := ⟨n' - n, by omega⟩
  induction d with
  | zero => exact Int.le_refl _
  | succ d ih => exact Int.le_trans (ih (by omega) (by omega)) (most_step ⟨n + d, by omega⟩ ⟨r, by omega⟩ ⟨l, by omega⟩ (by show l + r < n + d; omega))
theorem top_stands {m : Nat} (hm : m ≤ 16) (ns : List Int) : Stands mostF m ns (topS m ns) := stairs_stand most_rises hm ns
/-- can_tell is just the meaning -/
theorem can_is {dx : PyData} {i j : Nat} (hi : i ≤ 16) (hj : j ≤ 16) : canD dx i j = true ↔ Can mostF (numsD dx) i j := by
  have hm : (if i < j then j else i) ≤ 16 := by split <;> omega
  have st := top_stands hm (numsD dx)
  have li : i < (topS (if i < j then j else i) (numsD dx)).length := by rw [topS_len]; split <;> omega
  have ho : (topS (if i < j then j else i) (numsD dx))[i]? = some ((topS (if i < j then j else i) (numsD dx)).getD i none) := by rw [List.getD_eq_getElem?_getD, List.getElem?_eq_getElem li]; rfl
  have key := (st.2 i _ ho).2 j (by split <;> omega)
  unfold canD
  rw [key]
  generalize (topS (if i < j then j else i) (numsD dx)).getD i none = o
  cases o with
  | none => exact ⟨fun h => (by cases h), fun ⟨l, h, _⟩ => (by cases h)⟩
  | some l => exact ⟨fun h => ⟨l, rfl, of_decide_eq_true h⟩, fun ⟨z, h, hz⟩ => (by cases h; exact decide_eq_true hz)⟩
end L2.U


set_option Elab.async false
set_option linter.all false
set_option maxRecDepth 100000
set_option maxHeartbeats 4000000
namespace L2.U
open PySem PySem.Spec PyProof.Rows Evl



abbrev s_law_arranged : Stmt := top 45
theorem sc_law_arranged : FnScope ["parts", "found", "total", "part", "one"] ["parts"] (defScope s_law_arranged) := ⟨rfl, rfl, rfl, by decide +kernel, rfl, by decide +kernel, by decide +kernel⟩
abbrev s_law_best : Stmt := top 46
theorem sc_law_best : FnScope ["n", "rounds", "left", "used", "k"] ["n", "rounds", "left"] (defScope s_law_best) := ⟨rfl, rfl, rfl, by decide +kernel, rfl, by decide +kernel, by decide +kernel⟩
abbrev s_law_bests : Stmt := top 47
theorem sc_law_bests : FnScope ["most", "left", "r", "n"] ["most"] (defScope s_law_bests) := ⟨rfl, rfl, rfl, by decide +kernel, rfl, by decide +kernel, by decide +kernel⟩
abbrev s_law_lefts : Stmt := top 48
theorem sc_law_lefts : FnScope ["number", "bests", "found", "row", "left", "one"] ["number", "bests"] (defScope s_law_lefts) := ⟨rfl, rfl, rfl, by decide +kernel, rfl, by decide +kernel, by decide +kernel⟩
abbrev s_law_tables : Stmt := top 49
theorem sc_law_tables : FnScope ["row", "bests", "most", "n", "tables", "number", "ahead", "lefts", "here", "line", "a", "ways", "r"] ["row", "bests"] (defScope s_law_tables) := ⟨rfl, rfl, rfl, by decide +kernel, rfl, by decide +kernel, by decide +kernel⟩
abbrev s_law_size_lists : Stmt := top 50
theorem sc_law_size_lists : FnScope ["n", "found", "grown", "turn", "longer", "one", "size"] ["n"] (defScope s_law_size_lists) := ⟨rfl, rfl, rfl, by decide +kernel, rfl, by decide +kernel, by decide +kernel⟩
abbrev s_law_listed : Stmt := top 51
theorem sc_law_listed : FnScope ["row", "n", "a", "sizes", "left"] ["row", "n", "a"] (defScope s_law_listed) := ⟨rfl, rfl, rfl, by decide +kernel, rfl, by decide +kernel, by decide +kernel⟩
abbrev s_law_sizes : Stmt := top 52
theorem sc_law_sizes : FnScope ["box", "n", "a", "even", "rounds", "used", "found", "left", "at", "size", "k"] ["box", "n", "a", "even"] (defScope s_law_sizes) := ⟨rfl, rfl, rfl, by decide +kernel, rfl, by decide +kernel, by decide +kernel⟩
abbrev s_law_planned : Stmt := top 53
theorem sc_law_planned : FnScope ["box", "own", "other", "many", "n", "a", "row", "even", "low", "turn", "sizes", "left", "way", "reached", "less"] ["box", "own", "other", "many"] (defScope s_law_planned) := ⟨rfl, rfl, rfl, by decide +kernel, rfl, by decide +kernel, by decide +kernel⟩
abbrev s_law_changed : Stmt := top 54
theorem sc_law_changed : FnScope ["box", "row", "spoil", "at", "number"] ["box", "row", "spoil"] (defScope s_law_changed) := ⟨rfl, rfl, rfl, by decide +kernel, rfl, by decide +kernel, by decide +kernel⟩
abbrev s_law_told : Stmt := top 55
theorem sc_law_told : FnScope ["row", "own", "other", "named", "passed", "told"] ["row", "own", "other", "named"] (defScope s_law_told) := ⟨rfl, rfl, rfl, by decide +kernel, rfl, by decide +kernel, by decide +kernel⟩
abbrev s_law_fixed_right : Stmt := top 56
theorem sc_law_fixed_right : FnScope ["pick", "menu", "row", "own", "other", "due"] ["pick"] (defScope s_law_fixed_right) := ⟨rfl, rfl, rfl, by decide +kernel, rfl, by decide +kernel, by decide +kernel⟩
abbrev s_law_small_right : Stmt := top 57
theorem sc_law_small_right : FnScope ["box", "row", "most", "turn", "n", "a", "named"] ["box", "row", "most"] (defScope s_law_small_right) := ⟨rfl, rfl, rfl, by decide +kernel, rfl, by decide +kernel, by decide +kernel⟩
abbrev s_law_rests_right : Stmt := top 58
theorem sc_law_rests_right : FnScope ["box", "row", "bests", "many", "most", "tables", "named", "turn", "at", "n", "a", "enough", "edge"] ["box", "row", "bests", "many"] (defScope s_law_rests_right) := ⟨rfl, rfl, rfl, by decide +kernel, rfl, by decide +kernel, by decide +kernel⟩
abbrev s_law_reach : Stmt := top 59
theorem sc_law_reach : FnScope ["bests", "n", "a", "found", "r"] ["bests", "n", "a"] (defScope s_law_reach) := ⟨rfl, rfl, rfl, by decide +kernel, rfl, by decide +kernel, by decide +kernel⟩
abbrev s_law_traded_right : Stmt := top 60
theorem sc_law_traded_right : FnScope ["box", "bests", "n", "a", "less", "number", "found", "named", "r", "lefts", "last", "left"] ["box", "bests"] (defScope s_law_traded_right) := ⟨rfl, rfl, rfl, by decide +kernel, rfl, by decide +kernel, by decide +kernel⟩
abbrev s_law : Stmt := top 61
theorem sc_law : FnScope ["script", "k", "box", "great", "spoil", "pick", "size", "most", "many", "own", "other", "row", "bests", "other_row"] ["script"] (defScope s_law) := ⟨rfl, rfl, rfl, by decide +kernel, rfl, by decide +kernel, by decide +kernel⟩
def kw231 {α : Type} : List α → List α → List α
  | [], [a, b, c] => [b, c, a]
  | _, _ => []
theorem kw231_rel {vs : List V} {us : List Value} {zs : List V} {ws : List Value} (r : Vals vs us) (t : Vals zs ws) : Vals (kw231 vs zs) (kw231 us ws) := by
  cases r with
  | cons _ _ => cases t <;> exact .nil
  | nil => cases t with
    | nil => exact .nil
    | cons a t => cases t with
      | nil => exact .nil
      | cons b t => cases t with
        | nil => exact .nil
        | cons c t => cases t with
          | nil => exact .cons b (.cons c (.cons a .nil))
          | cons _ _ => exact .nil
theorem kb231 {K : PySem.W.Frag} {x qual : Str} {st : Stmt} {f : Addr} {fd : FuncData} {p q r k l m : Str} (F : Fun K x qual st f fd)
    (h : ∀ (kV doc pm : Value) (an : Option Addr) (cdv ct : Value) (u w z : Value), bindArgs (PySem.W.fnOf x qual (defArgs st) (defBody st) (defScope st) .none kV doc pm an cdv ct) ⟨[], [(k, u), (l, w), (m, z)]⟩ = pure [(p, w), (q, z), (r, u)]) : KBinds K fd [p, q, r] [k, l, m] kw231 kw231 := by
  obtain ⟨oc, od, kV, doc, pm, an, cdv, ct, osl, rfl, lk, hcd⟩ := F.ex
  refine ⟨fun s us ws _ hl => ?_, kw231_rel⟩
  match us, ws, hl with
  | [], [u, w, z], _ => exact .of_eq (h kV doc pm an cdv ct u w z)

structure TK (K : PySem.W.Frag) (mg : Str → Option Value) extends TA2 K mg where
  law_arranged : DefAt K mg "_law_arranged" s_law_arranged ["parts"]
  law_best : DefAt K mg "_law_best" s_law_best ["n", "rounds", "left"]
  law_bests : DefAt K mg "_law_bests" s_law_bests ["most"]
  law_lefts : DefAt K mg "_law_lefts" s_law_lefts ["number", "bests"]
  law_tables : DefAt K mg "_law_tables" s_law_tables ["row", "bests"]
  law_size_lists : DefAt K mg "_law_size_lists" s_law_size_lists ["n"]
  law_listed : DefAt K mg "_law_listed" s_law_listed ["row", "n", "a"]
  law_sizes : DefAt K mg "_law_sizes" s_law_sizes ["box", "n", "a", "even"]
  law_planned : DefAt K mg "_law_planned" s_law_planned ["box", "own", "other", "many"]
  law_changed : DefAt K mg "_law_changed" s_law_changed ["box", "row", "spoil"]
  law_told : DefAt K mg "_law_told" s_law_told ["row", "own", "other", "named"]
  law_fixed_right : DefAt K mg "_law_fixed_right" s_law_fixed_right ["pick"]
  law_small_right : DefAt K mg "_law_small_right" s_law_small_right ["box", "row", "most"]
  law_rests_right : DefAt K mg "_law_rests_right" s_law_rests_right ["box", "row", "bests", "many"]
  law_reach : DefAt K mg "_law_reach" s_law_reach ["bests", "n", "a"]
  law_traded_right : DefAt K mg "_law_traded_right" s_law_traded_right ["box", "bests"]
  law : DefAt K mg "law" s_law ["script"]
  kb_can_tell_other_row_own : KBinds K can_tell.fd ["row", "own", "other"] ["other", "row", "own"] kw231 kw231
  TalkError_C : Addr
  TalkError_gC : mg "TalkError" = some (.ref TalkError_C)
section
variable {P : Program} {w : World} {K : PySem.W.Frag} {mg : Str → Option Value} {base : Heap}

def lcs_law_bests : Scope := relabel (match (defBody s_law_bests).getD 0 (.Pass ⟨0, 0, 0, 0⟩) with
  | .Return (some (.ListComp _ _ sc _)) _ => sc
  | _ => defScope s_law_bests) (dumEnv (defScope s_law_bests))
def lcs2_law_bests : Scope := relabel (match (defBody s_law_bests).getD 0 (.Pass ⟨0, 0, 0, 0⟩) with
  | .Return (some (.ListComp (.ListComp _ _ sc _) _ _ _)) _ => sc
  | _ => defScope s_law_bests) (dumEnv lcs_law_bests)
def lcs_law_lefts : Scope := relabel (match (defBody s_law_lefts).getD 1 (.Pass ⟨0, 0, 0, 0⟩) with
  | .For _ _ [.Expr (.Call _ [.ListComp _ _ sc _] _ _) _] _ _ => sc
  | _ => defScope s_law_lefts) (dumEnv (defScope s_law_lefts))

end
end L2.U


set_option Elab.async false
set_option linter.all false
set_option maxRecDepth 100000
set_option maxHeartbeats 4000000
namespace L2.U
open PySem PySem.Spec PyProof.Rows Evl


section
variable {P : Program} {w : World} {K : PySem.W.Frag} {mg : Str → Option Value} {base : Heap}
def Cn (n k : Nat) : Int := PySem.W.mcComb (n : Int) (k : Int)
theorem cn_up : ∀ n : Fin 17, ∀ k : Fin 17, k.val ≤ n.val → Cn n.val k.val * ((n.val : Int) + 1) = Cn (n.val + 1) (k.val + 1) * ((k.val : Int) + 1) := by decide +kernel
theorem cn_zero : ∀ n : Fin 18, Cn n.val 0 = 1 := by decide +kernel
theorem sum_take {l : List Int} (h : ∀ z ∈ l, 0 ≤ z) : ∀ i, 0 ≤ (l.take i).sum ∧ (l.take i).sum ≤ l.sum := by
  induction l with
  | nil => intro i; simp
  | cons a r ih =>
    intro i
    have ha := h a (by simp)
    have ih := ih fun z hz => h z (List.mem_cons_of_mem _ hz)
    cases i with
    | zero => have := (ih r.length).1; rw [List.take_length] at this; simp only [List.take_zero, List.sum_nil, List.sum_cons]; omega
    | succ i => have := ih i; simp only [List.take_succ_cons, List.sum_cons]; omega
def spLArr (K : PySem.W.Frag) : Sp := fun vs H Q _ => ∃ (a : Addr) (l : List Int), vs = [.ref a] ∧ SqL K H a (l.map V.int) ∧ (∀ z ∈ l, 0 ≤ z) ∧ l.sum ≤ 16 ∧ ∀ H', Ex H H' → Q (.int (arrUp l).1) H'
theorem ok_law_arranged (T : TK K mg) : FnOk P w K mg base CX0 1 T.law_arranged.a T.law_arranged.fd ["parts"] (spLArr K) := by
  refine T.law_arranged.F.ok sc_law_arranged (fun vs H Q E h => ?_) (fun cdv A outer s H vs Q E hr h => ?_)
  · obtain ⟨a, l, rfl, _⟩ := h; rfl
  obtain ⟨a, l, rfl, ha, hp, hs, q⟩ := h
  refine ⟨_, (pss_cons (ps_asg (pe_tup (pa_cons pe_int (pa_cons pe_int pa_nil))) (pg_tup (by rfl) (pgs_cons (pg_name (i := 1) sc_law_arranged.nd rfl (Or.inl rfl)) (pgs_cons (pg_name (i := 2) sc_law_arranged.nd rfl (Or.inl rfl)) pgs_nil))))
    (pss_cons (ps_for PassesOwn.never rfl (kpil K (pv 0)) (pg_name (i := 3) sc_law_arranged.nd rfl (Or.inl rfl)) (pss_one (ps_for PassesOwn.never rfl (pi_range2 rfl T.z_range (pa_cons pe_int (pa_cons (pe_op op_add (pv 3) pe_int) pa_nil))) (pg_name (i := 4) sc_law_arranged.nd rfl (Or.inl rfl)) (pss_cons (ps_set (i := 2) sc_law_arranged.nd rfl (Or.inl rfl) (pe_op op_add (pv 2) pe_int))
    (pss_one (ps_set (i := 1) sc_law_arranged.nd rfl (Or.inl rfl) (pe_op op_fdiv (pe_op op_mul (pv 1) (pv 2)) (pv 4))))))))
    (pss_one (ps_ret (pv 1))))), ?_⟩
  refine ⟨by decide, fun t ht => ?_⟩
  have e0 := Ex.new (o := .tup [.int 1, .int 0]) ht
  refine ⟨t, _, rfl, SqT.of upd_same, rfl, _, _, rfl, _, _, rfl, rfl, ?_⟩
  refine ⟨_, rfl, a, rfl, ⟨_, ex_l e0 ha⟩, for_list (xs := l.map V.int) (fun i σ H' => Ex H H' ∧ ∃ v3 v4, σ = [some (.ref a), some (.int (arrUp (l.take i)).1), some (.int (arrUp (l.take i)).2), v3, v4]) ⟨e0, _, _, rfl⟩ (fun i σ H' _ p => ex_l p.1 ha) ?_ ?_⟩
  · rintro i x σ H' hx ⟨e, v3, v4, rfl⟩
    obtain ⟨z, hz, rfl⟩ := ints_get hx
    have hi := (List.getElem?_eq_some_iff.mp hz).1
    have z0 := hp z (List.mem_of_getElem? hz)
    have st := sum_take hp i
    have st1 := sum_take hp (i + 1)
    have e1 : (l.take (i + 1)).sum = (l.take i).sum + z := by
      rw [List.take_add_one, hz]
      simp
    rw [arrUp_more hz, arrUp_two]
    obtain ⟨tn, htn⟩ : ∃ tn : Nat, (l.take i).sum = (tn : Int) := ⟨(l.take i).sum.toNat, by omega⟩
    obtain ⟨zn, hzn⟩ : ∃ zn : Nat, z = (zn : Int) := ⟨z.toNat, by omega⟩
    subst hzn
    rw [htn]
    generalize (arrUp (l.take i)).1 = F
    refine ⟨_, rfl, _, _, rfl, rfl, 1, (zn : Int) + 1, rfl, ⟨by omega, by omega, by omega, by omega⟩, for_range (lo := 1) (n := ((zn : Int) + 1 - 1).toNat) (fun j σ H'' => H'' = H' ∧ ∃ v4, σ = [some (.ref a), some (.int (F * Cn (tn + j) j)), some (.int ((tn + j : Nat) : Int)), some (.int (zn : Int)), v4]) ⟨rfl, v4, ?_⟩ ?_ ?_⟩
    · rw [cn_zero ⟨tn + 0, by omega⟩, Int.mul_one]
      rfl
    · rintro j σ H'' hj ⟨rfl, v4', rfl⟩
      have up := cn_up ⟨tn + j, by omega⟩ ⟨j, by omega⟩ (by show j ≤ tn + j; omega)
      simp only at up
      have val : F * Cn (tn + j) j * (((tn + j : Nat) : Int) + 1) / (1 + (j : Int)) = F * Cn (tn + (j + 1)) (j + 1) := by
        rw [Int.mul_assoc, up, ← Int.mul_assoc, show (1 : Int) + (j : Int) = (j : Int) + 1 by omega, Int.mul_ediv_cancel _ (by omega)]
        rfl
      refine ⟨_, rfl, _, _, rfl, rfl, _, rfl, _, rfl, _, _, rfl, rfl, .inr ⟨by omega, by omega⟩, _, rfl, _, _, rfl, rfl, ⟨by omega, by omega⟩, rfl, some (.int (1 + (j : Int))), ?_⟩
      rw [← val]
      have : (((tn + (j + 1) : Nat)) : Int) = ((tn + j : Nat) : Int) + 1 := by omega
      rw [this]
      rfl
    · rintro σ H'' ⟨rfl, v4', rfl⟩
      have en : ((zn : Int) + 1 - 1).toNat = zn := by omega
      rw [en]
      refine ⟨e, some (.int (zn : Int)), v4', ?_⟩
      have : ((tn + zn : Nat) : Int) = (tn : Int) + (zn : Int) := by omega
      unfold Cn
      rw [this]
  · rintro σ H' ⟨e, v3, v4, rfl⟩
    have := q H' e
    rw [List.length_map, List.take_length]
    exact ⟨_, rfl, this⟩
end
end L2.U


set_option Elab.async false
set_option linter.all false
set_option maxRecDepth 100000
set_option maxHeartbeats 4000000
namespace L2.U
open PySem PySem.Spec PyProof.Rows Evl


section
variable {P : Program} {w : World} {K : PySem.W.Frag} {mg : Str → Option Value} {base : Heap}
section
variable {σ : L2.St} {H : Hp} {ta tb : TE} {xs ys : List V}
theorem el_catL (ha : EvL ta σ H xs) (hb : EvL tb σ H ys) (hz : xs.length + ys.length ≤ 100000) : EvL (tOp rCat ta tb) σ H (xs ++ ys) := fun H1 e Q q =>
  ha H1 e _ fun p H2 hp e2 h2 => hb H2 (e.trans e2) _ fun p' H3 hp' e3 h3 => ⟨p, p', xs, ys, rfl, rfl, e3 _ _ h2, h3, sz_of hz, fun l hl => q l _ (fresh_back (e2.trans e3) hl) ((e2.trans e3).trans (Ex.new hl)) upd_same⟩
end
theorem even_is {u r : Int} (hu : 0 ≤ u) (hr : 1 ≤ r) : (List.range r.toNat).map (fun k : Nat => u / r + (if decide ((k : Int) < u % r) = true then 1 else 0)) = evenOf u r := by
  have m0 := Int.emod_nonneg u (show r ≠ 0 by omega)
  have m1 := Int.emod_lt_of_pos u (show 0 < r by omega)
  have md : u - u / r * r = u % r := by have := Int.mul_ediv_add_emod u r; rw [Int.mul_comm] at this; omega
  unfold evenOf
  rw [md]
  apply List.ext_getElem?
  intro i
  rw [List.getElem?_map]
  by_cases hi : i < r.toNat
  · rw [List.getElem?_range hi]
    by_cases c : i < (u % r).toNat
    · rw [List.getElem?_append_left (by rw [List.length_replicate]; exact c), List.getElem?_replicate, if_pos c]
      show some (u / r + (if decide ((i : Int) < u % r) = true then 1 else 0)) = _
      rw [if_pos (decide_eq_true (by omega))]
    · rw [List.getElem?_append_right (by rw [List.length_replicate]; omega), List.getElem?_replicate, List.length_replicate, if_pos (by omega)]
      show some (u / r + (if decide ((i : Int) < u % r) = true then 1 else 0)) = _
      rw [if_neg (by rw [decide_eq_false (by omega)]; decide), Int.add_zero]
  · rw [List.getElem?_eq_none (by rw [List.length_range]; omega), List.getElem?_eq_none (by rw [List.length_append, List.length_replicate, List.length_replicate]; omega)]
    rfl
def spLBest : Sp := fun vs H Q _ => ∃ n r l : Int, vs = [.int n, .int r, .int l] ∧ n ≤ 16 ∧ 1 ≤ r ∧ r ≤ 20 ∧ 0 ≤ l ∧ ∀ H', Ex H H' → Q (.int (mostA n r l)) H'
theorem ok_law_best (T : TK K mg) : FnOk P w K mg base CX0 2 T.law_best.a T.law_best.fd ["n", "rounds", "left"] spLBest := by
  refine T.law_best.F.ok sc_law_best (fun vs H Q E h => ?_) (fun cdv A outer s H vs Q E hr h => ?_)
  · obtain ⟨n, r, l, rfl, _⟩ := h; rfl
  obtain ⟨n, r, l, rfl, hn, r1, r20, l0, q⟩ := h
  refine ⟨_, (pss_cons (ps_set (i := 3) sc_law_best.nd rfl (Or.inr rfl) (pe_op op_sub (pv 0) (pv 2)))
    (pss_cons (ps_if (PW.pt (pw_or (pt_cmpR op_lt (pv 1) pe_int (nomark _)) (pw_or1 (pt_cmpR op_lt (pv 3) (pv 1) (nomark _))))) (pss_one (ps_ret pe_int)) pss_nil)
    (pss_one (ps_ret (pe_call (ok_law_arranged T) (hr.mono (by decide)) rfl T.law_arranged.m T.law_arranged.F.kp T.law_arranged.b .nil pass0 (pa_cons (pe_op op_cat (pe_lc (own := [("k", 4)]) (g := gName 4) (by rfl) sc_law_best.nd (pi_range1 rfl T.z_range (pa_cons (pv 1) pa_nil)) (blkOk_by (own := [("k", 4)]) (N := ["n", "rounds", "left", "used", "k"]) (sc := defScope s_law_best) (by decide +kernel)) (fun _ _ _ _ _ => (pg_name (i := 4) sc_law_best.nd rfl (Or.inl rfl))) (fun _ _ _ _ _ => pts_nil) (fun _ _ _ _ _ => (pe_op op_add (pe_op op_fdiv (pv 3) (pv 1)) (pe_callTy call_int1 (by rfl) T.z_int (by decide +kernel) (pa_cons (pe_cmpR op_lt (pv 4) (pe_op op_mod (pe_callTy call_int1 (by rfl) T.z_int (by decide +kernel) (pa_cons (pv 3) pa_nil)) (pv 1)) (nomark _)) pa_nil))))) (pe_lst (pa_cons (pv 2) pa_nil))) pa_nil)))))), ?_⟩
  refine ⟨_, rfl, _, rfl, _, _, rfl, rfl, ?_⟩
  refine ⟨_, rfl, _, _, rfl, rfl, _, rfl, ?_⟩
  rw [decide_eq_false (show ¬ r < 1 by omega)]
  refine iteF ⟨_, rfl, _, rfl, _, _, rfl, rfl, _, rfl, ite2 (fun c => ?_) (fun c => ?_)⟩
  · have c' := of_decide_eq_true c
    have := q H (Ex.refl _)
    unfold mostA at this
    rw [if_pos c'] at this
    exact this
  · have c' : ¬ n - l < r := of_decide_eq_false (Bool.eq_false_iff.mpr c)
    have lst : EvL (tLc (iRng1 (tCons (tVar 1) tNil)) (gName 4) tYes (tOp (rI0 fun i j => .int (i + j)) (tOp (rI CDiv fun i j => .int (i / j)) (tVar 3) (tVar 1)) (tCB (fun xs H Q => (∃ i, xs = [V.int i] ∧ Q (V.int i) H) ∨ ∃ k, xs = [V.bl k] ∧ Q (V.int (if k = true then 1 else 0)) H) (tCons (tOp (rI0 fun i j => .bl (decide (i < j))) (tVar 4) (tOp (rI (fun _ j => 0 < j) fun i j => .int (i % j)) (tCB (fun xs H Q => (∃ i, xs = [V.int i] ∧ Q (V.int i) H) ∨ ∃ k, xs = [V.bl k] ∧ Q (V.int (if k = true then 1 else 0)) H) (tCons (tVar 3) tNil)) (tVar 1))) tNil))) [4])
        [some (.int n), some (.int r), some (.int l), some (.int (n - l)), none] H ((evenOf (n - l) r).map V.int) := by
      have := el_lcR1 (σ := [some (.int n), some (.int r), some (.int l), some (.int (n - l)), none]) (H := H) (ta := tCons (tVar 1) tNil) (t := tYes) (te := tOp (rI0 fun i j => .int (i + j)) (tOp (rI CDiv fun i j => .int (i / j)) (tVar 3) (tVar 1)) (tCB (fun xs H Q => (∃ i, xs = [V.int i] ∧ Q (V.int i) H) ∨ ∃ k, xs = [V.bl k] ∧ Q (V.int (if k = true then 1 else 0)) H) (tCons (tOp (rI0 fun i j => .bl (decide (i < j))) (tVar 4) (tOp (rI (fun _ j => 0 < j) fun i j => .int (i % j)) (tCB (fun xs H Q => (∃ i, xs = [V.int i] ∧ Q (V.int i) H) ∨ ∃ k, xs = [V.bl k] ∧ Q (V.int (if k = true then 1 else 0)) H) (tCons (tVar 3) tNil)) (tVar 1))) tNil))) (j := 4) (vs := [4]) (n := r) (fun _ => true) (fun k => .int ((n - l) / r + (if decide ((k : Int) < (n - l) % r) = true then 1 else 0))) (ea_cons (ev_var rfl) ea_nil) ⟨by omega, by omega⟩ (fun _ => rfl) (fun i H1 _ _ H2 _ Q k => k H2 (Ex.refl _))
        (fun k H1 e1 hk _ H2 e2 Q2 k2 => ⟨_, rfl, _, rfl, _, _, rfl, rfl, ⟨by omega, by omega⟩, _, rfl, _, rfl, .inl ⟨_, rfl, _, rfl, _, _, rfl, rfl, by omega, _, _, rfl, rfl, .inr ⟨_, rfl, _, _, rfl, rfl, k2 H2 (Ex.refl _)⟩⟩⟩)
      rw [given_all] at this
      have e : (List.range r.toNat).map (fun k : Nat => V.int ((n - l) / r + (if decide ((k : Int) < (n - l) % r) = true then 1 else 0))) = (evenOf (n - l) r).map V.int := by
        rw [← even_is (show 0 ≤ n - l by omega) r1, List.map_map]
        rfl
      rw [e] at this
      exact this
    have es := even_sum (show 0 ≤ n - l by omega) (show 1 ≤ r by omega)
    have both := el_catL lst (el_lst (σ := [some (.int n), some (.int r), some (.int l), some (.int (n - l)), none]) (ea_cons (ta := tVar 2) (ev_var rfl) ea_nil) (by show 1 ≤ 100000; decide)) (by rw [List.length_map, es.1]; show _ + 1 ≤ 100000; omega)
    refine both H (Ex.refl _) (fun v H2 => tNil [some (.int n), some (.int r), some (.int l), some (.int (n - l)), none] H2 fun xs H3 => spLArr K ((v :: xs) ++ []) H3 Q E0) fun p H1 hp e1 hx => ?_
    refine ⟨p, evenOf (n - l) r ++ [l], rfl, SqL.of (by rw [hx, List.map_append]; rfl), fun z hz => ?_, ?_, fun H2 e2 => ?_⟩
    · rcases List.mem_append.mp hz with h | h
      · exact es.2.2 z h
      · rw [List.mem_singleton] at h; omega
    · rw [List.sum_append, es.2.1, List.sum_singleton]; omega
    · have := q H2 (e1.trans e2)
      unfold mostA at this
      rw [if_neg c'] at this
      exact this
end
end L2.U


set_option Elab.async false
set_option linter.all false
set_option maxRecDepth 100000
set_option maxHeartbeats 4000000
namespace L2.U
open PySem PySem.Spec PyProof.Rows Evl


section
variable {P : Program} {w : World} {K : PySem.W.Frag} {mg : Str → Option Value} {base : Heap}
def bestRow (n : Nat) : List (List Int) := (List.range (n + 1)).map fun r => (List.range (n - r)).map fun l => mostF n r l
def bestsF (m : Nat) : List (List (List Int)) := (List.range (m + 1)).map bestRow
def spLBests (K : PySem.W.Frag) : Sp := fun vs H Q _ => ∃ m : Nat, vs = [.int (m : Int)] ∧ m ≤ 16 ∧ ∀ p H', Ex H H' → Rd K (fun a => H a = none) H' 3 (.ref p) (list3 (bestsF m)) → Q (.ref p) H'
theorem ok_law_bests (T : TK K mg) : FnOk P w K mg base CX0 3 T.law_bests.a T.law_bests.fd ["most"] (spLBests K) := by
  refine T.law_bests.F.ok sc_law_bests (fun vs H Q E h => ?_) (fun cdv A outer s H vs Q E hr h => ?_)
  · obtain ⟨m, rfl, _⟩ := h; rfl
  obtain ⟨m, rfl, hm, q⟩ := h
  refine ⟨_, (pss_one (ps_ret (pe_lc (own := [("n", 3)]) (g := gName 3) (by rfl) sc_law_bests.nd (pi_range1 rfl T.z_range (pa_cons (pe_op op_add (pv 0) pe_int) pa_nil)) (blkOk_by (own := [("n", 3)]) (N := ["most", "left", "r", "n"]) (sc := defScope s_law_bests) (by decide +kernel)) (fun _ _ _ _ _ => (pg_name (i := 3) sc_law_bests.nd rfl (Or.inr rfl))) (fun _ _ _ _ _ => pts_nil) (fun _ _ _ _ _ => (pe_lc (own := [("r", 2)]) (g := gName 2) (by rfl) sc_law_bests.nd (pi_range1 rfl T.z_range (pa_cons (pe_op op_add (pv 3) pe_int) pa_nil)) (blkOk_by (own := [("r", 2)]) (N := ["most", "left", "r", "n"]) (sc := lcs_law_bests) (by decide +kernel)) (fun _ _ _ _ _ => (pg_name (i := 2) sc_law_bests.nd rfl (Or.inr rfl))) (fun _ _ _ _ _ => pts_nil) (fun _ _ _ _ _ => (pe_lc (own := [("left", 1)]) (g := gName 1) (by rfl) sc_law_bests.nd (pi_range1 rfl T.z_range (pa_cons (pe_callB (call_max2 rfl) (by rfl) T.z_max (by decide +kernel) (pa_cons pe_int (pa_cons (pe_op op_sub (pv 3) (pv 2)) pa_nil))) pa_nil)) (blkOk_by (own := [("left", 1)]) (N := ["most", "left", "r", "n"]) (sc := lcs2_law_bests) (by decide +kernel)) (fun _ _ _ _ _ => (pg_name (i := 1) sc_law_bests.nd rfl (Or.inl rfl))) (fun _ _ _ _ _ => pts_nil) (fun _ _ _ _ _ => (pe_call (ok_law_best T) (hr.mono (by decide)) rfl T.law_best.m T.law_best.F.kp T.law_best.b .nil pass0 (pa_cons (pv 3) (pa_cons (pe_op op_add (pv 2) pe_int) (pa_cons (pv 1) pa_nil)))))))))))), ?_⟩
  refine lc_rd (K := K) (σ := [some (.int (m : Int)), none, none, none]) (vs := [3]) (m := 2) (d := fun k => list2 (bestRow k)) (ea_cons (ev_op (ev_var rfl) ev_c rv_I0) ea_nil) ⟨by omega, by omega⟩ (fun _ => rfl) (fun k H1 e1 hk Q1 q1 => ?_) (fun p H' e rr => q p H' e ?_)
  · refine lc_rd (K := K) (σ := [some (.int (m : Int)), none, none, some (.int (k : Int))]) (vs := [2]) (m := 1) (d := fun r => listI ((List.range (k - r)).map fun l => mostF k r l)) (ea_cons (ev_op (ev_var rfl) ev_c rv_I0) ea_nil) ⟨by omega, by omega⟩ (fun _ => rfl) (fun r H2 e2 hr2 Q2 q2 => ?_) (fun p H' e rr => q1 _ H' e ?_)
    · refine lc_rd (K := K) (σ := [some (.int (m : Int)), none, some (.int (r : Int)), some (.int (k : Int))]) (vs := [1]) (m := 0) (n := if (k : Int) - (r : Int) > 0 then (k : Int) - (r : Int) else 0) (d := fun l => .int (mostF k r l)) (fun H1 e Q q => ⟨_, rfl, _, rfl, _, _, rfl, rfl, _, _, rfl, q _ (Ex.refl _)⟩) ⟨by split <;> omega, by split <;> omega⟩ (fun _ => rfl) (fun l H3 e3 hl Q3 q3 => ?_) (fun p H' e rr => q2 _ H' e ?_)
      · exact ⟨_, rfl, _, rfl, _, _, rfl, rfl, _, rfl, (k : Int), (r : Int) + 1, (l : Int), rfl, by omega, by omega, by omega, by omega, fun H4 e4 => q3 _ _ e4 (.int _)⟩
      · have e1 : listI ((List.range (k - r)).map fun l => mostF k r l) = .list ((List.range (if (k : Int) - (r : Int) > 0 then (k : Int) - (r : Int) else 0).toNat).map fun l => .int (mostF k r l)) := by
          have : (if (k : Int) - (r : Int) > 0 then (k : Int) - (r : Int) else 0).toNat = k - r := by split <;> omega
          rw [this]
          unfold listI
          rw [List.map_map]
          rfl
        rw [e1]
        exact rr
    · have e1 : list2 (bestRow k) = .list ((List.range ((k : Int) + 1).toNat).map fun r => listI ((List.range (k - r)).map fun l => mostF k r l)) := by
        unfold list2 bestRow
        rw [List.map_map, show ((k : Int) + 1).toNat = k + 1 by omega]
        rfl
      rw [e1]
      exact rr
  · have e1 : list3 (bestsF m) = .list ((List.range ((m : Int) + 1).toNat).map fun k => list2 (bestRow k)) := by
      unfold list3 bestsF
      rw [List.map_map, show ((m : Int) + 1).toNat = m + 1 by omega]
      rfl
    rw [e1]
    exact rr
/-! ### the greatest rests -/
def leftTo (x : Int) (f : Nat → Int) : Nat → Int
  | 0 => -1
  | k + 1 => if x ≤ f k then (k : Int) else leftTo x f k
theorem leftTo_spec (x : Int) (f : Nat → Int) : ∀ m, (leftTo x f m = -1 ∧ ∀ l, l < m → ¬ x ≤ f l) ∨ ∃ L, L < m ∧ leftTo x f m = (L : Int) ∧ x ≤ f L ∧ ∀ l, l < m → x ≤ f l → l ≤ L
  | 0 => .inl ⟨rfl, fun l h => absurd h (Nat.not_lt_zero _)⟩
  | m + 1 => by
    unfold leftTo
    by_cases c : x ≤ f m
    · rw [if_pos c]
      exact .inr ⟨m, by omega, rfl, c, fun l h _ => by omega⟩
    · rw [if_neg c]
      rcases leftTo_spec x f m with ⟨h1, h2⟩ | ⟨L, h1, h2, h3, h4⟩
      · exact .inl ⟨h1, fun l h => by
          by_cases e : l = m
          · rw [e]; exact c
          · exact h2 l (by omega)⟩
      · exact .inr ⟨L, by omega, h2, h3, fun l h g => by
          by_cases e : l = m
          · rw [e] at g; exact absurd g c
          · exact h4 l (by omega) g⟩
def leftOf (x : Int) (one : List Int) : Int := leftTo x (fun l => one.getD l 0) one.length
theorem leftOf_max {x m : Int} {one : List Int} (hm : m ∈ -1 :: ((List.range one.length).filter fun l => decide (x ≤ one.getD l 0)).map fun l : Nat => (l : Int)) (hy : ∀ y, y ∈ -1 :: ((List.range one.length).filter fun l => decide (x ≤ one.getD l 0)).map (fun l : Nat => (l : Int)) → y ≤ m) : m = leftOf x one := by
  have inn : ∀ l, l < one.length → x ≤ one.getD l 0 → (l : Int) ≤ m := fun l h g => hy _ (List.mem_cons_of_mem _ (List.mem_map.mpr ⟨l, List.mem_filter.mpr ⟨List.mem_range.mpr h, decide_eq_true g⟩, rfl⟩))
  have h1 := hy (-1) List.mem_cons_self
  unfold leftOf
  rcases List.mem_cons.mp hm with e | hm
  · rcases leftTo_spec x (fun l => one.getD l 0) one.length with ⟨g, _⟩ | ⟨L, a1, a2, a3, a4⟩
    · rw [g, e]
    · have := inn L a1 a3; omega
  · obtain ⟨l, hl, rfl⟩ := List.mem_map.mp hm
    obtain ⟨l1, l2⟩ := List.mem_filter.mp hl
    have l1 := List.mem_range.mp l1
    have l2 : x ≤ one.getD l 0 := of_decide_eq_true l2
    rcases leftTo_spec x (fun l => one.getD l 0) one.length with ⟨g, g2⟩ | ⟨L, a1, a2, a3, a4⟩
    · exact absurd l2 (g2 l l1)
    · have := inn L a1 a3
      have := a4 l l1 l2
      rw [a2]
      omega
theorem given_ints {n : Nat} {f : Nat → Bool} : given n f (fun l : Nat => V.int (l : Int)) = (((List.range n).filter f).map fun l : Nat => (l : Int)).map V.int := by
  unfold given
  rw [List.map_map]
  rfl
theorem range_getD {α β : Type} (g : α → β) : ∀ (l : List α) (d : α), (List.range l.length).map (fun k => g (l.getD k d)) = l.map g := by
  intro l d
  apply List.ext_getElem?
  intro i
  rw [List.getElem?_map, List.getElem?_map]
  by_cases hi : i < l.length
  · rw [List.getElem?_range hi, List.getElem?_eq_getElem hi]
    show some (g (l.getD i d)) = some (g l[i])
    rw [List.getD_eq_getElem?_getD, List.getElem?_eq_getElem hi]
    rfl
  · rw [List.getElem?_eq_none (by rw [List.length_range]; omega), List.getElem?_eq_none (by omega)]
    rfl
theorem ints_getD {ns : List Int} {i : Nat} (h : i < ns.length) : (ns.map V.int)[i]? = some (.int (ns.getD i 0)) := by
  rw [List.getElem?_map, List.getElem?_eq_getElem h, List.getD_eq_getElem?_getD, List.getElem?_eq_getElem h]
  rfl
def leftsF (x : Int) (B : List (List (List Int))) : List (List Int) := B.map fun row => row.map (leftOf x)
def spLLefts (K : PySem.W.Frag) : Sp := fun vs H Q _ => ∃ (x : Int) (p : V) (B : List (List (List Int))) (m : Nat) (ok : Addr → Prop), vs = [.int x, p] ∧ Rd K ok H m p (list3 B) ∧ B.length ≤ 100 ∧ (∀ r ∈ B, r.length ≤ 100 ∧ ∀ o ∈ r, o.length ≤ 100) ∧
  ∀ q H', Ex H H' → Rd K (fun a => H a = none) H' 2 (.ref q) (list2 (leftsF x B)) → Q (.ref q) H'
theorem ok_law_lefts (T : TK K mg) : FnOk P w K mg base CX0 1 T.law_lefts.a T.law_lefts.fd ["number", "bests"] (spLLefts K) := by
  refine T.law_lefts.F.ok sc_law_lefts (fun vs H Q E h => ?_) (fun cdv A outer s H vs Q E hr h => ?_)
  · obtain ⟨x, p, B, m, ok, rfl, _⟩ := h; rfl
  obtain ⟨x, p, B, m, ok, rfl, hp, hB, hr2, q⟩ := h
  refine ⟨_, (pss_cons (ps_set (i := 2) sc_law_lefts.nd rfl (Or.inl rfl) (pe_lst pa_nil))
    (pss_cons (ps_for PassesOwn.never rfl (kpil K (pv 1)) (pg_name (i := 3) sc_law_lefts.nd rfl (Or.inl rfl)) (pss_one (ps_expr (pe_bm PySem.F.plainAttrs_list PySem.F.slot_list_append PySem.F.type_list_append mt_append (pv 2) (pa_cons (pe_lc (own := [("one", 5)]) (g := gName 5) (by rfl) sc_law_lefts.nd (kpil K (pv 3)) (blkOk_by (own := [("one", 5)]) (N := ["number", "bests", "found", "row", "left", "one"]) (sc := defScope s_law_lefts) (by decide +kernel)) (fun _ _ _ _ _ => (pg_name (i := 5) sc_law_lefts.nd rfl (Or.inr rfl))) (fun _ _ _ _ _ => pts_nil) (fun _ _ _ _ _ => (pe_callB (kmax K rfl) (by rfl) T.z_max (by decide +kernel) (pa_cons (pe_op op_cat (pe_lst (pa_cons (pe_un un_neg pe_int) pa_nil)) (pe_lc (own := [("left", 4)]) (g := gName 4) (by rfl) sc_law_lefts.nd (pi_range1 rfl T.z_range (pa_cons (pe_callB (klen K) (by rfl) T.z_len (by decide +kernel) (pa_cons (pv 5) pa_nil)) pa_nil)) (blkOk_by (own := [("left", 4)]) (N := ["number", "bests", "found", "row", "left", "one"]) (sc := lcs_law_lefts) (by decide +kernel)) (fun _ _ _ _ _ => (pg_name (i := 4) sc_law_lefts.nd rfl (Or.inl rfl))) (fun _ _ _ _ _ => (pts_one (pt_cmpR op_ge (pe_ix (kixl K) (pv 5) (pv 4) (fun _ _ => rfl)) (pv 0) (nomark _)))) (fun _ _ _ _ _ => (pv 4)))) pa_nil)))) pa_nil)))))
    (pss_one (ps_ret (pv 2))))), ?_⟩
  obtain ⟨b, vs, rfl, hb, hlen, hz, all⟩ := rd_list3 hp
  refine ⟨Nat.zero_le _, fun F hF => ?_⟩
  have e0 := Ex.new (o := .lst []) hF
  refine ⟨_, rfl, b, rfl, ⟨vs, ex_l e0 (SqL.of hb)⟩, for_list (xs := vs) (fun i σ H' => Ex H H' ∧ ∃ (xs : List V) (v : Option V), H' F = some (.lst xs) ∧ xs.length = i ∧ RdL K (fun a => H a = none ∧ a ≠ F) H' 1 xs ((leftsF x (B.take i)).map listI) ∧ σ = [some (.int x), some (.ref b), some (.ref F), v, none, none])
    ⟨e0, [], _, upd_same, rfl, ⟨rfl, fun i x d hx _ => by cases hx⟩, rfl⟩ (fun i σ H' _ p => ex_l p.1 (SqL.of hb)) ?_ ?_⟩
  · rintro i v σ H' hx ⟨e, xs, v0, hFF, hl, rl, rfl⟩
    obtain ⟨row, hrow, rrow⟩ := all i v hx
    have hi := (List.getElem?_eq_some_iff.mp hx).1
    obtain ⟨c, us, rfl, hc, hul, huz, uall⟩ := rd_list2 (rrow.ex e)
    have rm := hr2 row (List.mem_of_getElem? hrow)
    have el := el_lcL (K := K) (σ := [some (.int x), some (.ref b), some (.ref F), some (.ref c), none, none]) (H := H') (a := c) (xs := us) (tl := tVar 3) (t := tYes) (te := tCB (rMax K) (tCons
                    (tOp rCat (tLst (tCons (tUn (rU fun i => V.int (-i)) (tC (V.int 1))) tNil))
                      (tLc (iRng1 (tCons (tCB (rLen K) (tCons (tVar 5) tNil)) tNil)) (gName 4)
                        (tTest (tOp (rI0 fun i j => V.bl (decide (j ≤ i))) (tOp (rIxL K) (tVar 5) (tVar 4)) (tVar 0)))
                        (tVar 4) [4])) tNil)) (j := 5) (vs := [5]) (fun _ => true) (fun k => .int (leftOf x (row.getD k []))) (ev_var rfl) (SqL.of hc) (by omega) (fun _ => rfl) (fun i x H1 _ _ H2 _ Q k => k H2 (Ex.refl _)) (fun k u H1 e1 hu _ => ?_)
    · refine ⟨_, rfl, .inl ⟨rfl, _, SqL.of hFF⟩, el H' (Ex.refl _) _ fun p H2 hp e2 h2 => ⟨F, xs, .ref p, rfl, rfl, e2 _ _ hFF, small1000 (by omega), (e.trans e2).mut hF, xs ++ [.ref p], _, upd_same, by rw [List.length_append, hl]; rfl, ?_, rfl⟩⟩
      have pF : p ≠ F := by rintro rfl; rw [hFF] at hp; cases hp
      have p0 : H p = none := fresh_back e hp
      have el2 : leftsF x (B.take (i + 1)) = leftsF x (B.take i) ++ [row.map (leftOf x)] := by
        unfold leftsF
        rw [List.take_add_one, hrow, List.map_append]
        rfl
      rw [el2, List.map_append]
      have hv : given us.length (fun _ => true) (fun k => V.int (leftOf x (row.getD k []))) = (row.map (leftOf x)).map V.int := by
        rw [given_all, hul, range_getD (fun o => V.int (leftOf x o)) row [], List.map_map]
        rfl
      rw [hv] at h2
      refine RdL.snoc ((rl.ex e2).but (b := F) But.upd (fun a ha => ha.2)) ?_
      have rd := rdl_ints (K := K) (ok := fun a => H a = none ∧ a ≠ F) (H := upd H2 F (.lst (xs ++ [.ref p]))) (n := 0) (row.map (leftOf x))
      exact .lst (by rw [upd_ne pF]; exact h2) ⟨p0, pF⟩ rd.1 (by rw [List.length_map, List.length_map]; omega) rd.2
    · obtain ⟨o, t, rfl, ht, ho⟩ := uall k u hu
      have tl := rm.2 t (List.mem_of_getElem? ht)
      have et : row.getD k [] = t := by rw [List.getD_eq_getElem?_getD, ht]; rfl
      rw [et]
      have c1 := el_lcR1 (σ := [some (.int x), some (.ref b), some (.ref F), some (.ref c), none, some (.ref o)]) (H := H1) (ta := tCons (tCB (rLen K) (tCons (tVar 5) tNil)) tNil) (t := tTest (tOp (rI0 fun i j => V.bl (decide (j ≤ i))) (tOp (rIxL K) (tVar 5) (tVar 4)) (tVar 0))) (te := tVar 4) (j := 4) (vs := [4]) (n := (t.length : Int)) (fun l => decide (x ≤ t.getD l 0)) (fun l => .int (l : Int))
        (fun H2 e2 Q q => ⟨_, rfl, _, _, rfl, .inl ⟨_, ex_l (e1.trans e2) (SqL.of ho), rfl⟩, by rw [List.length_map]; exact q _ (Ex.refl _)⟩) ⟨by omega, by omega⟩ (fun _ => rfl)
        (fun l H2 e2 hl2 H3 e3 Q k => ⟨_, rfl, _, rfl, _, _, (l : Int), .int (t.getD l 0), rfl, rfl, ex_l (e1.trans (e2.trans e3)) (SqL.of ho), atI_nat (ints_getD (by omega)), _, rfl, _, _, rfl, rfl, _, rfl, k _ (Ex.refl _)⟩)
        (fun l H2 e2 hl2 _ H3 e3 Q k => ⟨_, rfl, k _ (Ex.refl _)⟩)
      rw [given_ints] at c1
      have both := el_catL (el_lst (σ := [some (.int x), some (.ref b), some (.ref F), some (.ref c), none, some (.ref o)]) (H := H1) (ea_cons (ta := tUn (rU fun i => V.int (-i)) (tC (V.int 1))) (x := V.int (-1)) (ev_un (x := V.int 1) ev_c ru_neg) ea_nil) (by show 1 ≤ 100000; decide)) c1 (by
        have := List.length_filter_le (fun l => decide (x ≤ t.getD l 0)) (List.range (t.length : Int).toNat)
        rw [List.length_range] at this
        rw [List.length_map, List.length_map]
        show 1 + _ ≤ 100000
        omega)
      intro H2 e2 Q2 k2
      refine both H2 e2 _ fun p H3 hp e3 h3 => ⟨p, -1 :: ((List.range t.length).filter fun l => decide (x ≤ t.getD l 0)).map (fun l : Nat => (l : Int)), rfl, SqL.of (by rw [h3, Int.toNat_natCast]; rfl), Nat.succ_pos _, fun m hm hy => ?_⟩
      rw [leftOf_max hm hy]
      exact k2 H3 e3
  · rintro σ H' ⟨e, xs, v0, hFF, hl, rl, rfl⟩
    rw [hlen, List.take_length] at rl
    exact ⟨_, rfl, q F H' e (.lst hFF hF rl.1 (by omega) fun i x d hx hd => (rl.2 i x d hx hd).of fun a ha => ha.1)⟩
end
end L2.U


set_option Elab.async false
set_option linter.all false
set_option maxRecDepth 100000
set_option maxHeartbeats 4000000
namespace L2.U
open PySem PySem.Spec PyProof.Rows Evl


section
variable {P : Program} {w : World} {K : PySem.W.Frag} {mg : Str → Option Value} {base : Heap}
/-! ### the table of what can be told -/
def Lf (x : Int) (n r : Nat) : Int := leftOf x ((List.range (n - r)).map fun l => mostF n r l)
def stepT (L : Nat → Nat → Int) (t : Nat → Nat → Bool) (n a : Nat) : Bool := (List.range ((if n < a then n else a) + 1)).any fun r => decide (0 ≤ L n r) && t (a - r) (L n r).toNat
def tabF : List Int → Nat → Nat → Bool
  | [] => fun _ _ => true
  | x :: ns => stepT (Lf x) (tabF ns)
theorem Lf_spec (x : Int) (n r : Nat) : (Lf x n r = -1 ∧ ∀ l, l < n - r → ¬ x ≤ mostF n r l) ∨ ∃ L, L < n - r ∧ Lf x n r = (L : Int) ∧ x ≤ mostF n r L ∧ ∀ l, l < n - r → x ≤ mostF n r l → l ≤ L := by
  have g : ∀ l, l < n - r → ((List.range (n - r)).map fun l => mostF n r l).getD l 0 = mostF n r l := fun l h => by
    rw [List.getD_eq_getElem?_getD, List.getElem?_map, List.getElem?_range h]; rfl
  have ln : ((List.range (n - r)).map fun l => mostF n r l).length = n - r := by rw [List.length_map, List.length_range]
  unfold Lf leftOf
  rcases leftTo_spec x (fun l => ((List.range (n - r)).map fun l => mostF n r l).getD l 0) (n - r) with ⟨h1, h2⟩ | ⟨L, h1, h2, h3, h4⟩
  · rw [ln]
    exact .inl ⟨h1, fun l h => by have := h2 l h; rw [g l h] at this; exact this⟩
  · rw [ln]
    refine .inr ⟨L, h1, h2, by rw [g L h1] at h3; exact h3, fun l h k => h4 l h (by rw [g l h]; exact k)⟩
theorem Lf_lt {x : Int} {n r : Nat} (h : 0 ≤ Lf x n r) : (Lf x n r).toNat + r < n := by
  rcases Lf_spec x n r with ⟨h1, _⟩ | ⟨L, h1, h2, _, _⟩ <;> omega
theorem tab_can {m : Nat} (hm : m ≤ 16) : ∀ (ns : List Int) (n a : Nat), n ≤ m → a ≤ m → (tabF ns n a = true ↔ Can mostF ns n a)
  | [], n, a, _, _ => ⟨fun _ => trivial, fun _ => rfl⟩
  | x :: ns, n, a, hn, ha => by
    rw [can_best most_rises (by omega) (by omega)]
    show stepT (Lf x) (tabF ns) n a = true ↔ _
    unfold stepT
    rw [List.any_eq_true]
    constructor
    · rintro ⟨r, hr, hc⟩
      have hr := List.mem_range.mp hr
      have hr1 : r ≤ a ∧ r ≤ n := by split at hr <;> omega
      rw [Bool.and_eq_true] at hc
      obtain ⟨c1, c2⟩ := hc
      have c1 := of_decide_eq_true c1
      rcases Lf_spec x n r with ⟨h1, _⟩ | ⟨L, h1, h2, h3, h4⟩
      · omega
      · refine ⟨r, hr1.1, hr1.2, L, by omega, h3, fun l h k => h4 l (by omega) k, (tab_can hm ns (a - r) L (by omega) (by omega)).mp ?_⟩
        rw [h2] at c2
        exact c2
    · rintro ⟨r, h1, h2, L, h3, h4, h5, h6⟩
      refine ⟨r, List.mem_range.mpr (by split <;> omega), ?_⟩
      rw [Bool.and_eq_true]
      rcases Lf_spec x n r with ⟨_, g⟩ | ⟨L', g1, g2, g3, g4⟩
      · exact absurd h4 (g L (by omega))
      · have e1 := h5 L' (by omega) g3
        have e2 := g4 L (by omega) h4
        obtain rfl : L = L' := by omega
        refine ⟨decide_eq_true (by omega), ?_⟩
        rw [g2]
        exact (tab_can hm ns (a - r) L (by omega) (by omega)).mpr h6
def rowB (m : Nat) (t : Nat → Bool) : PyData := .list ((List.range (m + 1)).map fun a => .bool (t a))
def tabD (m : Nat) (t : Nat → Nat → Bool) : PyData := .list ((List.range (m + 1)).map fun n => rowB m (t n))
theorem rd_rowB {ok : Addr → Prop} {H : Hp} {j m : Nat} {x : V} {t : Nat → Bool} (h : Rd K ok H j x (rowB m t)) : ∃ b xs, x = .ref b ∧ H b = some (.lst xs) ∧ ∀ a, a ≤ m → xs[a]? = some (.bl (t a)) := by
  unfold rowB at h
  generalize hd : (PyData.list ((List.range (m + 1)).map fun a => PyData.bool (t a))) = d at h
  cases h with
  | lst h ha hl hz all =>
    cases hd
    rw [List.length_map, List.length_range] at hl
    refine ⟨_, _, rfl, h, fun a ha => ?_⟩
    have hx := List.getElem?_eq_getElem (show a < _ by rw [hl]; omega)
    rw [hx]
    have r := all a _ (.bool (t a)) hx (by rw [List.getElem?_map, List.getElem?_range (by omega)]; rfl)
    generalize (_ : List V)[a]'_ = y at r ⊢
    cases r
    rfl
  | _ => cases hd
theorem rd_tab {ok : Addr → Prop} {H : Hp} {j m : Nat} {x : V} {t : Nat → Nat → Bool} (h : Rd K ok H j x (tabD m t)) : ∃ p xs, x = .ref p ∧ H p = some (.lst xs) ∧ ∀ n, n ≤ m → ∃ b ys, xs[n]? = some (.ref b) ∧ H b = some (.lst ys) ∧ ∀ a, a ≤ m → ys[a]? = some (.bl (t n a)) := by
  unfold tabD at h
  generalize hd : (PyData.list ((List.range (m + 1)).map fun n => rowB m (t n))) = d at h
  cases h with
  | lst h ha hl hz all =>
    cases hd
    rw [List.length_map, List.length_range] at hl
    refine ⟨_, _, rfl, h, fun n hn => ?_⟩
    have hx := List.getElem?_eq_getElem (show n < _ by rw [hl]; omega)
    have r := all n _ (rowB m (t n)) hx (by rw [List.getElem?_map, List.getElem?_range (by omega)]; rfl)
    obtain ⟨b, ys, e, hb, hy⟩ := rd_rowB r
    exact ⟨b, ys, by rw [hx, e], hb, hy⟩
  | _ => cases hd
theorem cutV_take {xs : List V} {k : Nat} : cutV xs none (some (k : Int)) = xs.take k := by
  unfold cutV
  rw [HT.sIx_nat]
  show (xs.drop 0).take (min k xs.length - 0) = _
  rw [List.drop_zero, Nat.sub_zero]
  exact List.take_eq_take_iff.mpr (by omega)
theorem rd_cut {ok : Addr → Prop} {H : Hp} {j k p : Nat} {b : Addr} {xs : List V} {ds : List PyData} (h : Rd K ok H (j + 1) (.ref b) (.list ds)) (hb : H b = some (.lst xs)) (hp : H p = some (.lst (xs.take k))) {ok' : Addr → Prop} (w : ∀ a, ok a → ok' a) (op : ok' p) : Rd K ok' H (j + 1) (.ref p) (.list (ds.take k)) := by
  cases h with
  | lst h ha hl hz all =>
    rw [hb] at h
    cases h
    refine .lst hp op (by rw [List.length_take, List.length_take, hl]) (by rw [List.length_take]; omega) fun i x d hx hd => ?_
    rw [List.getElem?_take] at hx hd
    by_cases c : i < k
    · rw [if_pos c] at hx hd
      exact (all i x d hx hd).of w
    · rw [if_neg c] at hx
      cases hx
theorem bests_take {N m : Nat} (h : m ≤ N) : ((bestsF N).map list2).take (m + 1) = (bestsF m).map list2 := by
  unfold bestsF
  rw [← List.map_take, ← List.map_take, List.take_range, Nat.min_eq_left (by omega)]
theorem any_ne {n : Nat} {f : Nat → Bool} : (!PyData.eqv (.list ((((List.range n).filter f).map fun l : Nat => (l : Int)).map PyData.int)) (.list [])) = (List.range n).any f := by
  cases c : (List.range n).filter f with
  | nil =>
    have : (List.range n).any f = false := by
      rw [List.any_eq_false]
      intro x hx hf
      have := List.mem_filter.mpr ⟨hx, hf⟩
      rw [c] at this
      cases this
    rw [this]
    rfl
  | cons y ys =>
    have : (List.range n).any f = true := by
      rw [List.any_eq_true]
      have := List.mem_filter.mp (show y ∈ (List.range n).filter f by rw [c]; exact List.mem_cons_self)
      exact ⟨y, this⟩
    rw [this]
    rfl
theorem rd_lefts {ok : Addr → Prop} {H : Hp} {j m : Nat} {x : Int} {y : V} (h : Rd K ok H j y (list2 (leftsF x (bestsF m)))) : ∃ l vs, y = .ref l ∧ H l = some (.lst vs) ∧ ∀ n, n ≤ m → ∃ b ys, vs[n]? = some (.ref b) ∧ H b = some (.lst ys) ∧ ∀ r, r ≤ n → ys[r]? = some (.int (Lf x n r)) := by
  obtain ⟨l, vs, rfl, hl, hlen, _, all⟩ := rd_list2 h
  refine ⟨l, vs, rfl, hl, fun n hn => ?_⟩
  have e0 : (leftsF x (bestsF m))[n]? = some ((bestRow n).map (leftOf x)) := by
    unfold leftsF bestsF
    rw [List.getElem?_map, List.getElem?_map, List.getElem?_range (by omega)]
    rfl
  have ln : n < vs.length := by
    rw [hlen]
    exact (List.getElem?_eq_some_iff.mp e0).1
  obtain ⟨b, t, e1, e2, e3⟩ := all n _ (List.getElem?_eq_getElem ln)
  rw [e0] at e2
  cases e2
  refine ⟨b, _, by rw [List.getElem?_eq_getElem ln, e1], e3, fun r hr => ?_⟩
  unfold bestRow
  rw [List.getElem?_map, List.getElem?_map, List.getElem?_map, List.getElem?_range (by omega)]
  rfl
end
end L2.U


set_option Elab.async false
set_option linter.all false
set_option maxRecDepth 100000
set_option maxHeartbeats 4000000
namespace L2.U
open PySem PySem.Spec PyProof.Rows Evl

section
variable {P : Program} {w : World} {K : PySem.W.Frag} {mg : Str → Option Value} {base : Heap}
theorem lc_rdS {σ : L2.St} {H : Hp} {ta : TA} {te : TE} {i j m : Nat} {vs : List Nat} {n : Int} {d : Nat → PyData} {rest : TS} {D : Ends} (h : EvA ta σ H [.int n]) (hn : 0 ≤ n ∧ n ≤ 900) (hw : ∀ x, wipe ((wipe σ vs).set j (some x)) vs = wipe σ vs)
    (he : ∀ (i : Nat) H1, Ex H H1 → (i : Int) < n → ∀ Q : VK, (∀ x H2, Ex H1 H2 → Rd K (fun a => H1 a = none) H2 m x (d i) → Q x H2) → te ((wipe σ vs).set j (some (.int (i : Int)))) H1 Q)
    (q : ∀ p H', Ex H H' → Rd K (fun a => H a = none) H' (m + 1) (.ref p) (.list ((List.range n.toNat).map d)) → rest D (σ.set i (some (.ref p))) H') : tSeq (tAsg (tLc (iRng1 ta) (gName j) tYes te vs) (gName i)) rest D σ H :=
  lc_rd (K := K) (Q := fun v H' => rest D (σ.set i (some v)) H') h hn hw he q
theorem gn_ {i : Nat} {v : V} {σ : L2.St} {H : Hp} {k : L2.St → Hp → Prop} (h : k (σ.set i (some v)) H) : gName i v σ H k := h
theorem el_seq {i : Nat} {te : TE} {xs : List V} {rest : TS} {D : Ends} {σ : L2.St} {H : Hp} (h : EvL te σ H xs) (q : ∀ p H', H p = none → Ex H H' → H' p = some (.lst xs) → rest D (σ.set i (some (.ref p))) H') : tSeq (tAsg te (gName i)) rest D σ H := h H (Ex.refl _) _ q
theorem most_in : ∀ n : Fin 17, ∀ r : Fin 17, ∀ l : Fin 17, l.val + r.val < n.val → 1 ≤ mostF n.val r.val l.val ∧ mostF n.val r.val l.val ≤ 1000000000000000000 := by decide +kernel
theorem four_le : 4 ≤ sizeLine := by decide
theorem three_le : 3 ≤ sizeLine := by decide
theorem six_le : 6 ≤ sizeLine := by decide
theorem ev_seq {i : Nat} {te : TE} {v : V} {rest : TS} {D : Ends} {σ : L2.St} {H : Hp} (h : Ev te σ H v) (q : ∀ H', Ex H H' → rest D (σ.set i (some v)) H') : tSeq (tAsg te (gName i)) rest D σ H := h H (Ex.refl _) _ q
theorem ten_le : 10 ≤ sizeLine := by decide
theorem butMut {b p : Addr} {H H' : Hp} {o : HO} (k : But b H H') (h : H p = Option.none) : But b H (upd H' p o) := fun a u ha hu => by
  rw [upd_ne (ne_of_none hu h)]
  exact k a u ha hu
theorem box_mut {H : Hp} {b p : Addr} {n : Nat} {o : HO} (h : BoxAt H b n) (hp : p ≠ b) : BoxAt (upd H p o) b n := by
  obtain ⟨d, m, c, f, h, r⟩ := h
  exact ⟨d, m, c, f, by rw [upd_ne (Ne.symm hp)]; exact h, r⟩
def m3 (i j k : Int) : Int := if k < (if j < i then j else i) then k else (if j < i then j else i)
theorem nuMin2_int (i j : Int) : nuMin2 (.int i) (.int j) = some (.int (if j < i then j else i)) := by
  show some (if decide (j < i) = true then V.int j else V.int i) = _
  by_cases c : j < i
  · rw [if_pos (decide_eq_true c), if_pos c]
  · rw [if_neg (by rw [decide_eq_false c]; decide), if_neg c]
theorem nuMin3_int (i j k : Int) : nuMin3 (.int i) (.int j) (.int k) = some (.int (m3 i j k)) := by
  unfold nuMin3
  rw [nuMin2_int]
  exact nuMin2_int _ _
theorem rd_bests {ok : Addr → Prop} {H : Hp} {j N : Nat} {x : V} (h : Rd K ok H (j + 1) x (list3 (bestsF N))) : ∃ p vs, x = .ref p ∧ H p = some (.lst vs) ∧ ∀ n, n ≤ N → ∃ b us, vs[n]? = some (.ref b) ∧ H b = some (.lst us) ∧ ∀ r, r ≤ n → ∃ c ys, us[r]? = some (.ref c) ∧ H c = some (.lst ys) ∧ ∀ l, l < n - r → ys[l]? = some (.int (mostF n r l)) := by
  obtain ⟨p, vs, rfl, hp, hlen, _, all⟩ := rd_list3 h
  refine ⟨p, vs, rfl, hp, fun n hn => ?_⟩
  have e0 : (bestsF N)[n]? = some (bestRow n) := by
    unfold bestsF
    rw [List.getElem?_map, List.getElem?_range (by omega)]
    rfl
  have ln : n < vs.length := by rw [hlen]; exact (List.getElem?_eq_some_iff.mp e0).1
  obtain ⟨t, e1, r1⟩ := all n _ (List.getElem?_eq_getElem ln)
  rw [e0] at e1
  cases e1
  obtain ⟨b, us, e2, hb, hul, _, uall⟩ := rd_list2 r1
  refine ⟨b, us, by rw [List.getElem?_eq_getElem ln, e2], hb, fun r hr => ?_⟩
  have e3 : (bestRow n)[r]? = some ((List.range (n - r)).map fun l => mostF n r l) := by
    unfold bestRow
    rw [List.getElem?_map, List.getElem?_range (by omega)]
    rfl
  have lr : r < us.length := by rw [hul]; exact (List.getElem?_eq_some_iff.mp e3).1
  obtain ⟨c, t, e4, e5, hc⟩ := uall r _ (List.getElem?_eq_getElem lr)
  rw [e3] at e5
  cases e5
  refine ⟨c, _, by rw [List.getElem?_eq_getElem lr, e4], hc, fun l hl => ?_⟩
  rw [List.getElem?_map, List.getElem?_map, List.getElem?_range hl]
  rfl
def GoodR (ns : List Int) : Prop := ns.length ≤ 16 ∧ ∀ z ∈ ns, 1 ≤ z ∧ z ≤ 100000000000000000000000000000000000000000000000000
theorem but_fresh {H H' : Hp} {b f : Addr} {n m : Nat} (k : But b H H') (hb : BoxAt H b n) (hb2 : BoxAt H' b m) (h : H' f = none) : H f = none := by
  obtain ⟨o, ho⟩ := hb.some
  exact k.none ho h (hb2.ne h)
theorem box_ne {H : Hp} {b a : Addr} {n : Nat} (hb : BoxAt H b n) (h : H a = none) : a ≠ b := hb.ne h
def Fr (H : Hp) : Addr → Prop := fun a => H a = none

theorem dec0 (n : Nat) : decide (V.int (n : Int) = V.int 0) = decide (n = 0) := by
  by_cases c : n = 0
  · rw [c]; rfl
  · rw [decide_eq_false c]
    exact decide_eq_false fun e => c (by have := V.int.inj e; omega)
theorem betw_all {lo hi : Int} {ns : List Int} (h : ∀ z ∈ ns, lo ≤ z ∧ z ≤ hi) : (ns.map PyData.int).all (betwD lo hi) = true := by
  rw [List.all_eq_true]
  intro d hd
  obtain ⟨z, hz, rfl⟩ := List.mem_map.mp hd
  exact decide_eq_true (h z hz)
theorem row_list {ns : List Int} (g : GoodR ns) : rowD (.list (ns.map PyData.int)) = true := by
  unfold rowD
  rw [Bool.and_eq_true, Bool.and_eq_true]
  exact ⟨⟨rfl, decide_eq_true (by show (ns.map PyData.int).length ≤ 16; rw [List.length_map]; exact g.1)⟩, betw_all g.2⟩
theorem row_tup {ns : List Int} (g : GoodR ns) : rowD (.tuple (ns.map PyData.int)) = true := by
  unfold rowD
  rw [Bool.and_eq_true, Bool.and_eq_true]
  exact ⟨⟨rfl, decide_eq_true (by show (ns.map PyData.int).length ≤ 16; rw [List.length_map]; exact g.1)⟩, betw_all g.2⟩
theorem nums_map {ns : List Int} : (ns.map PyData.int).map intD = ns := by
  rw [List.map_map]
  have : intD ∘ PyData.int = id := rfl
  rw [this, List.map_id]
theorem rd_ilist {ok : Addr → Prop} {H : Hp} {a : Addr} {ns : List Int} (h : H a = some (.lst (ns.map V.int))) (o : ok a) (l : ns.length ≤ 900) : Rd K ok H 1 (.ref a) (.list (ns.map PyData.int)) :=
  have rd := rdl_ints (K := K) (ok := ok) (H := H) (n := 0) ns
  .lst h o rd.1 (by rw [List.length_map]; exact l) rd.2
theorem rd_ituple {ok : Addr → Prop} {H : Hp} {a : Addr} {ns : List Int} (h : SqT K H a (ns.map V.int)) (o : ok a) (l : ns.length ≤ 900) : Rd K ok H 1 (.ref a) (.tuple (ns.map PyData.int)) :=
  have rd := rdl_ints (K := K) (ok := ok) (H := H) (n := 0) ns
  .tup h o rd.1 (by rw [List.length_map]; exact l) rd.2
theorem betw_nat {m : Nat} (h : m ≤ 16) : betwD 0 16 (.int (m : Int)) = true := decide_eq_true ⟨by omega, by omega⟩
theorem rd_lst_at {ok : Addr → Prop} {H : Hp} {n : Nat} {p : Addr} {ds : List PyData} (h : Rd K ok H n (.ref p) (.list ds)) : ∃ xs, H p = some (.lst xs) ∧ ok p ∧ xs.length = ds.length ∧ xs.length ≤ 900 ∧ ∀ (i : Nat) (x : V) (d : PyData), xs[i]? = some x → ds[i]? = some d → Rd K ok H (n - 1) x d := by
  cases h with
  | lst h ha hl hz all => exact ⟨_, h, ha, hl, hz, all⟩
theorem canD_tab {dx : PyData} {ns : List Int} {m i j : Nat} (e : numsD dx = ns) (hm : m ≤ 16) (hi : i ≤ m) (hj : j ≤ m) : canD dx i j = tabF ns i j := by
  have h1 := can_is (dx := dx) (i := i) (j := j) (by omega) (by omega)
  have h2 := tab_can hm ns i j hi hj
  rw [e] at h1
  cases h : tabF ns i j with
  | true => exact h1.mpr (h2.mp h)
  | false =>
    refine Bool.eq_false_iff.mpr fun c => ?_
    rw [h2.mpr (h1.mp c)] at h
    cases h
theorem ixN_int {n : Nat} {i : Int} (h0 : 0 ≤ i) (h : i < (n : Int)) : ixN n i = some i.toNat := by
  have := ixN_nat (n := n) (j := i.toNat) (by omega)
  rwa [show ((i.toNat : Nat) : Int) = i by omega] at this
theorem ne_of_none' {H : Hp} {a p : Addr} {o : HO} (h : H a = some o) (hp : H p = none) : p ≠ a := by rintro rfl; rw [h] at hp; cases hp
theorem nine_le : 9 ≤ sizeLine := by decide
theorem one_le : 1 ≤ sizeLine := by decide
theorem new_at {X : Hp} {p : Addr} {o : HO} (h : X p = none) : Ex X (upd X p o) ∧ upd X p o p = some o := ⟨Ex.new h, upd_same⟩
theorem ex_but {b : Addr} {H H' : Hp} (hb : H b = none) (k : But b H H') : Ex H H' := fun a o h => k a o (by rintro rfl; rw [hb] at h; cases h) h
theorem lc_rdL {σ : L2.St} {H : Hp} {ta : TA} {te : TE} {i j m : Nat} {vs : List Nat} {n : Int} {d : Nat → PyData} {rest : TS} {D : Ends} (h : EvA ta σ H [.int n]) (hn : 0 ≤ n ∧ n ≤ 900) (hw : ∀ x, wipe ((wipe σ vs).set j (some x)) vs = wipe σ vs)
    (he : ∀ (i : Nat) H1, Ex H H1 → (i : Int) < n → ∀ Q : VK, (∀ x H2, Ex H1 H2 → Rd K (fun a => H1 a = none) H2 m x (d i) → Q x H2) → te ((wipe σ vs).set j (some (.int (i : Int)))) H1 Q)
    (q : ∀ p H', Ex H H' → Rd K (fun a => H a = none) H' (m + 2) (.ref p) (.list [.list ((List.range n.toNat).map d)]) → rest D (σ.set i (some (.ref p))) H') : tSeq (tAsg (tLst (tCons (tLc (iRng1 ta) (gName j) tYes te vs) tNil)) (gName i)) rest D σ H :=
  lc_rd (K := K) (Q := fun v H1 => 1 ≤ sizeLine ∧ ∀ p, H1 p = none → rest D (σ.set i (some (.ref p))) (upd H1 p (.lst [v]))) h hn hw he fun p0 H1 e1 r1 => ⟨one_le, fun p hp => q p _ (e1.trans (Ex.new hp)) (by
    refine .lst upd_same (fresh_back e1 hp) rfl (by show 1 ≤ 900; omega) fun i x d hx hd => ?_
    match i, hx, hd with
    | 0, hx, hd => cases hx; cases hd; exact r1.ex (Ex.new hp))⟩
def sufs : List Int → List (List Int)
  | [] => [[]]
  | x :: ns => (x :: ns) :: sufs ns
theorem sufs_at : ∀ (ns : List Int) (k : Nat), k ≤ ns.length → (sufs ns)[k]? = some (ns.drop k)
  | [], 0, _ => rfl
  | x :: ns, 0, _ => rfl
  | x :: ns, k + 1, h => sufs_at ns k (Nat.le_of_succ_le_succ h)
theorem sufs_len : ∀ ns : List Int, (sufs ns).length = ns.length + 1
  | [] => rfl
  | x :: ns => congrArg (· + 1) (sufs_len ns)
def tablesD (N : Nat) (ns : List Int) : PyData := .list ((sufs ns).map fun ms => tabD N (tabF ms))
def spLTables (K : PySem.W.Frag) : Sp := fun vs H Q _ => ∃ (a b : Addr) (ns : List Int) (N j : Nat) (ok : Addr → Prop), vs = [.ref a, .ref b] ∧ SqL K H a (ns.map V.int) ∧ ns.length ≤ 100 ∧ N ≤ 16 ∧ Rd K ok H (j + 1) (.ref b) (list3 (bestsF N)) ∧
  ∀ q H', Ex H H' → Rd K (fun a => H a = none) H' 3 (.ref q) (tablesD N ns) → Q (.ref q) H'
end
end L2.U


set_option Elab.async false
set_option linter.all false
set_option maxRecDepth 100000
set_option maxHeartbeats 4000000
namespace L2.U
open PySem PySem.Spec PyProof.Rows Evl

section
variable {P : Program} {w : World} {K : PySem.W.Frag} {mg : Str → Option Value} {base : Heap}
theorem ok_law_tables (T : TK K mg) : FnOk P w K mg base CX0 2 T.law_tables.a T.law_tables.fd ["row", "bests"] (spLTables K) := by
  refine T.law_tables.F.ok sc_law_tables (fun vs H Q E h => ?_) (fun cdv A outer s H vs Q E hr h => ?_)
  · obtain ⟨a, b, ns, m, j, ok, rfl, _⟩ := h; rfl
  obtain ⟨a, b, ns, m, j, ok, rfl, ha, hl100, hm, hb, q⟩ := h
  refine ⟨_, (pss_cons (ps_set (i := 2) sc_law_tables.nd rfl (Or.inr rfl) (pe_op op_sub (pe_callB (klen K) (by rfl) T.z_len (by decide +kernel) (pa_cons (pv 1) pa_nil)) pe_int))
    (pss_cons (ps_set (i := 4) sc_law_tables.nd rfl (Or.inl rfl) (pe_lst (pa_cons (pe_lc (own := [("n", 3)]) (g := gName 3) (by rfl) sc_law_tables.nd (pi_range1 rfl T.z_range (pa_cons (pe_op op_add (pv 2) pe_int) pa_nil)) (blkOk_by (own := [("n", 3)]) (N := ["row", "bests", "most", "n", "tables", "number", "ahead", "lefts", "here", "line", "a", "ways", "r"]) (sc := defScope s_law_tables) (by decide +kernel)) (fun _ _ _ _ _ => (pg_name (i := 3) sc_law_tables.nd rfl (Or.inl rfl))) (fun _ _ _ _ _ => pts_nil) (fun _ _ _ _ _ => (pe_op op_rep (pe_lst (pa_cons pe_bl pa_nil)) (pe_op op_add (pv 2) pe_int)))) pa_nil)))
    (pss_cons (ps_for PassesOwn.never rfl (kpil K (pe_revL (pv 0))) (pg_name (i := 5) sc_law_tables.nd rfl (Or.inl rfl)) (pss_cons (ps_asg (pe_tup (pa_cons (pe_ix (kixl K) (pv 4) pe_int (fun _ _ => rfl)) (pa_cons (pe_call (ok_law_lefts T) (hr.mono (by decide)) rfl T.law_lefts.m T.law_lefts.F.kp T.law_lefts.b .nil pass0 (pa_cons (pv 5) (pa_cons (pv 1) pa_nil))) (pa_cons (pe_lst pa_nil) pa_nil)))) (pg_tup (by rfl) (pgs_cons (pg_name (i := 6) sc_law_tables.nd rfl (Or.inr rfl)) (pgs_cons (pg_name (i := 7) sc_law_tables.nd rfl (Or.inr rfl)) (pgs_cons (pg_name (i := 8) sc_law_tables.nd rfl (Or.inl rfl)) pgs_nil)))))
    (pss_cons (ps_for PassesOwn.never rfl (pi_range1 rfl T.z_range (pa_cons (pe_op op_add (pv 2) pe_int) pa_nil)) (pg_name (i := 3) sc_law_tables.nd rfl (Or.inr rfl)) (pss_cons (ps_set (i := 9) sc_law_tables.nd rfl (Or.inl rfl) (pe_lst pa_nil))
    (pss_cons (ps_for PassesOwn.never rfl (pi_range1 rfl T.z_range (pa_cons (pe_op op_add (pv 2) pe_int) pa_nil)) (pg_name (i := 10) sc_law_tables.nd rfl (Or.inr rfl)) (pss_cons (ps_setLc (i := 11) (own := [("r", 12)]) (g := gName 12) (by rfl) sc_law_tables.nd rfl rfl (sw_true rfl rfl rfl (by decide +kernel)) (pi_range1 rfl T.z_range (pa_cons (pe_op op_add (pe_callB (call_min2 rfl) (by rfl) T.z_min (by decide +kernel) (pa_cons (pv 10) (pa_cons (pv 3) pa_nil))) pe_int) pa_nil)) (blkOk_by (own := [("r", 12)]) (N := ["row", "bests", "most", "n", "tables", "number", "ahead", "lefts", "here", "line", "a", "ways", "r"]) (sc := defScope s_law_tables) (by decide +kernel)) (fun _ _ _ _ _ => (pg_name (i := 12) sc_law_tables.nd rfl (Or.inl rfl))) (fun _ _ _ _ _ => (pts_one (PW.pt (pw_and (pt_cmpR op_ge (pe_ix (kixl K) (pe_ix (kixl K) (pv 7) (pv 3) (fun _ _ => rfl)) (pv 12) (fun _ _ => rfl)) pe_int (nomark _)) (pw_and1 (pt_val (pe_ix (kixl K) (pe_ix (kixl K) (pv 6) (pe_op op_sub (pv 10) (pv 12)) (fun _ _ => rfl)) (pe_ix (kixl K) (pe_ix (kixl K) (pv 7) (pv 3) (fun _ _ => rfl)) (pv 12) (fun _ _ => rfl)) (fun _ _ => rfl)))))))) (fun _ _ _ _ _ => (pv 12)))
    (pss_one (ps_expr (pe_bm PySem.F.plainAttrs_list PySem.F.slot_list_append PySem.F.type_list_append mt_append (pv 9) (pa_cons (pe_cmpR (kneD K hr.units) (pv 11) (pe_lst pa_nil) (nomark _)) pa_nil))))))
    (pss_one (ps_expr (pe_bm PySem.F.plainAttrs_list PySem.F.slot_list_append PySem.F.type_list_append mt_append (pv 8) (pa_cons (pv 9) pa_nil)))))))
    (pss_one (ps_set (i := 4) sc_law_tables.nd rfl (Or.inl rfl) (pe_op op_cat (pe_lst (pa_cons (pv 8) pa_nil)) (pv 4)))))))
    (pss_one (ps_ret (pv 4)))))), ?_⟩
  obtain ⟨b0, bs0, hbe0, hbs0, hblen0, _, _⟩ := rd_list3 hb
  cases hbe0
  have bl0 : (bs0.length : Int) - 1 = (m : Int) := by rw [hblen0]; unfold bestsF; rw [List.length_map, List.length_range]; omega
  refine ev_seq (i := 2) (v := .int (m : Int)) (fun H1 e1 Q q => ⟨_, rfl, _, _, rfl, .inl ⟨_, ex_l e1 (SqL.of hbs0), rfl⟩, _, _, rfl, rfl, by
    show Q (.int ((bs0.length : Int) - 1)) H1
    rw [bl0]
    exact q _ (Ex.refl _)⟩) fun H es => ?_
  have hb := hb.ex es
  have ha := ex_l es ha
  have q : ∀ q' H', Ex H H' → Rd K (fun a => H a = none) H' 3 (.ref q') (tablesD m ns) → Q (.ref q') H' := fun q' H' e r => q q' H' (es.trans e) (r.of fun a h => fresh_back es h)
  refine lc_rdL (K := K) (i := 4) (σ := [some (.ref a), some (.ref b), some (.int (m : Int)), none, none, none, none, none, none, none, none, none, none]) (vs := [3]) (m := 1) (d := fun _ => rowB m fun _ => true) (ea_cons (ev_op (ev_var rfl) ev_c rv_I0) ea_nil) ⟨by omega, by omega⟩ (fun _ => rfl) (fun k H1 e1 hk Q1 q1 => ?_) (fun p0 H0 e0 r0 => ?_)
  · refine ⟨(by show 1 ≤ sizeLine; decide), fun p1 hp1 => ⟨_, rfl, _, _, rfl, rfl, p1, (m : Int) + 1, [.bl true], rfl, rfl, upd_same, by omega, by omega, Nat.le_of_lt (small1000 (by show 1 * _ ≤ 1000; omega)), fun z hz => q1 _ _ ((Ex.new hp1).trans (Ex.new hz)) ?_⟩⟩
    have rl : (List.replicate ((m : Int) + 1).toNat [V.bl true]).flatten = (List.range (m + 1)).map fun _ => V.bl true := by
      rw [rep_one, show ((m : Int) + 1).toNat = m + 1 by omega, List.map_const', List.length_range]
    unfold rowB
    refine .lst (by rw [upd_same, rl]) (fresh_back (Ex.new hp1) hz) (by rw [List.length_map, List.length_map]) (by rw [List.length_map, List.length_range]; omega) fun i x d hx hd => ?_
    rw [List.getElem?_map] at hx hd
    obtain ⟨y, hy, rfl⟩ := Option.map_eq_some_iff.mp hx
    rw [hy] at hd
    cases hd
    exact .bl _
  have r0' : Rd K (fun a => H a = none) H0 3 (.ref p0) (tablesD m []) := by
    rw [show ((m : Int) + 1).toNat = m + 1 by omega] at r0
    exact r0
  refine ⟨_, rfl, a, _, rfl, ex_l e0 ha, fun rv hrv => ?_⟩
  have ev := Ex.new (o := .lst (ns.map V.int).reverse) hrv
  have rvs : upd H0 rv (.lst (ns.map V.int).reverse) rv = some (.lst (ns.map V.int).reverse) := upd_same
  generalize upd H0 rv (.lst (ns.map V.int).reverse) = H1 at ev rvs ⊢
  have e01 := e0.trans ev
  refine ⟨rv, rfl, ⟨_, SqL.of rvs⟩, for_list (xs := (ns.map V.int).reverse) (fun i σ H' => Ex H1 H' ∧ ∃ (tp : Addr) (v3 v5 v6 v7 v8 v9 v10 v11 : Option V), Rd K (fun a => H a = none) H' 3 (.ref tp) (tablesD m (ns.reverse.take i).reverse) ∧ σ = [some (.ref a), some (.ref b), some (.int (m : Int)), v3, some (.ref tp), v5, v6, v7, v8, v9, v10, v11, none])
    ⟨Ex.refl _, p0, _, _, _, _, _, _, _, _, r0'.ex ev, rfl⟩ (fun i σ H' _ p => ex_l p.1 (SqL.of rvs)) ?_ ?_⟩
  · rintro i v σ H' hx ⟨e, tp, v3, v5, v6, v7, v8, v9, v10, v11, rt, rfl⟩
    have hi1 := (List.getElem?_eq_some_iff.mp hx).1
    rw [← List.map_reverse] at hx
    obtain ⟨x, hx1, rfl⟩ := ints_get hx
    have et : (ns.reverse.take (i + 1)).reverse = x :: (ns.reverse.take i).reverse := by
      rw [List.take_add_one, hx1, List.reverse_append]
      rfl
    have lms : ((ns.reverse.take i).reverse).length ≤ 100 := by rw [List.length_reverse, List.length_take, List.length_reverse]; omega
    rw [et]
    generalize (ns.reverse.take i).reverse = ms at rt lms ⊢
    have eh := e01.trans e
    obtain ⟨txs, htp, tpok, txl, _, tall⟩ := rd_lst_at rt
    rw [List.length_map, sufs_len] at txl
    have hd0 : ((sufs ms).map fun ms => tabD m (tabF ms))[0]? = some (tabD m (tabF ms)) := by
      rw [List.getElem?_map, sufs_at ms 0 (Nat.zero_le _)]
      rfl
    have hx0 := List.getElem?_eq_getElem (show 0 < txs.length by omega)
    have rp0 := tall 0 _ _ hx0 hd0
    obtain ⟨p, ps, hpe, hps0, _⟩ := rd_tab rp0
    rw [hpe] at hx0 rp0
    refine ⟨_, rfl, tp, txs, 0, .ref p, rfl, rfl, SqL.of htp, at_of (show (0 : Int) = ((0 : Nat) : Int) from rfl) hx0, ?_⟩
    refine ⟨_, rfl, _, rfl, x, _, bestsF m, _, _, rfl, hb.ex eh, by unfold bestsF; rw [List.length_map, List.length_range]; omega, fun r hr => ?_, fun l H3 e3 rl => ?_⟩
    · unfold bestsF at hr
      obtain ⟨n, hn, rfl⟩ := List.mem_map.mp hr
      have hn := List.mem_range.mp hn
      unfold bestRow
      refine ⟨by rw [List.length_map, List.length_range]; omega, fun o ho => ?_⟩
      obtain ⟨r, hr, rfl⟩ := List.mem_map.mp ho
      rw [List.length_map, List.length_range]
      omega
    have eG : Ex H1 H3 := e.trans e3
    obtain ⟨l', ls, hle, hls, lall⟩ := rd_lefts rl
    cases hle
    have rp3 := rp0.ex e3
    obtain ⟨p', ps, hpe, hps, pall⟩ := rd_tab rp3
    cases hpe
    obtain ⟨Tn, hTn⟩ : ∃ Tn, Tn = tabF (x :: ms) := ⟨_, rfl⟩
    refine ⟨Nat.zero_le _, fun F hF => ⟨three_le, fun t ht => ⟨t, _, rfl, SqT.of upd_same, rfl, _, _, rfl, _, _, rfl, _, _, rfl, rfl, ?_⟩⟩⟩
    have eF : Ex H3 (upd (upd H3 F (.lst [])) t (.tup [.ref p, .ref l, .ref F])) := (Ex.new hF).trans (Ex.new ht)
    have hFt : upd (upd H3 F (.lst [])) t (.tup [.ref p, .ref l, .ref F]) F = some (.lst []) := (Ex.new ht) _ _ upd_same
    generalize upd (upd H3 F (.lst [])) t (.tup [.ref p, .ref l, .ref F]) = H4 at eF hFt ⊢
    refine ⟨_, rfl, _, _, rfl, rfl, (m : Int) + 1, rfl, by omega, by omega, for_range (lo := 0) (n := ((m : Int) + 1).toNat) (fun n σ H' => Ex H3 H' ∧ ∃ (xs : List V) (v3 v9 v10 v11 : Option V), H' F = some (.lst xs) ∧ xs.length = n ∧ RdL K (fun a => H3 a = none ∧ a ≠ F) H' 1 xs ((List.range n).map fun n => rowB m (Tn n)) ∧ σ = [some (.ref a), some (.ref b), some (.int (m : Int)), v3, some (.ref tp), some (.int x), some (.ref p), some (.ref l), some (.ref F), v9, v10, v11, none])
      ⟨eF, [], _, _, _, _, hFt, rfl, ⟨rfl, fun i x d hx _ => by cases hx⟩, rfl⟩ ?_ ?_⟩
    · rintro n σ G hn ⟨eg, xs, v3, v9, v10, v11, hFG, hlx, rlx, rfl⟩
      rw [Int.zero_add]
      have hn' : n ≤ m := by omega
      obtain ⟨lb, lys, hlb, hlys, lval⟩ := lall n hn'
      refine ⟨Nat.zero_le _, fun L hL => ⟨_, rfl, _, _, rfl, rfl, (m : Int) + 1, rfl, by omega, by omega, for_range (lo := 0) (n := ((m : Int) + 1).toNat) (fun a' σ H' => Ex G H' ∧ ∃ (v10 v11 : Option V), H' L = some (.lst ((List.range a').map fun a => V.bl (Tn n a))) ∧ σ = [some (.ref a), some (.ref b), some (.int (m : Int)), some (.int (n : Int)), some (.ref tp), some (.int x), some (.ref p), some (.ref l), some (.ref F), some (.ref L), v10, v11, none])
        ⟨Ex.new hL, _, _, upd_same, rfl⟩ ?_ ?_⟩⟩
      · rintro a' σ G1 ha' ⟨eg1, v10, v11, hLG, rfl⟩
        rw [Int.zero_add]
        have ha2 : a' ≤ m := by omega
        have ex3 : Ex H3 G1 := eg.trans eg1
        have la : ∀ (v11' : Option V) (r : Nat) (G2 : Hp), Ex G1 G2 → r ≤ n → Ev (tOp (rIxL K) (tOp (rIxL K) (tVar 7) (tVar 3)) (tVar 12)) [some (.ref a), some (.ref b), some (.int (m : Int)), some (.int (n : Int)), some (.ref tp), some (.int x), some (.ref p), some (.ref l), some (.ref F), some (.ref L), some (.int (a' : Int)), v11', some (.int (r : Int))] G2 (.int (Lf x n r)) := fun v11' r G2 eg2 hr2 =>
          ev_op (ev_op (ev_var rfl) (ev_var rfl) (rv_ixL (SqL.of (eg2 _ _ (ex3 _ _ hls))) (atI_nat hlb))) (ev_var rfl) (rv_ixL (SqL.of (eg2 _ _ (ex3 _ _ hlys))) (atI_nat (lval r hr2)))
        have c1 := el_lcR1 (σ := [some (.ref a), some (.ref b), some (.int (m : Int)), some (.int (n : Int)), some (.ref tp), some (.int x), some (.ref p), some (.ref l), some (.ref F), some (.ref L), some (.int (a' : Int)), v11, none]) (H := G1)
          (ta := tCons (tOp (rI0 fun i j => V.int (i + j)) (tCB (fun xs H Q => ∃ i j, xs = [V.int i, V.int j] ∧ Q (V.int (if j < i then j else i)) H) (tCons (tVar 10) (tCons (tVar 3) tNil))) (tC (V.int 1))) tNil)
          (t := tAnd (tTest (tOp (rI0 fun i j => V.bl (decide (j ≤ i))) (tOp (rIxL K) (tOp (rIxL K) (tVar 7) (tVar 3)) (tVar 12)) (tC (V.int 0)))) (tB (tOp (rIxL K) (tOp (rIxL K) (tVar 6) (tOp (rI0 fun i j => V.int (i - j)) (tVar 10) (tVar 12))) (tOp (rIxL K) (tOp (rIxL K) (tVar 7) (tVar 3)) (tVar 12)))))
          (te := tVar 12) (j := 12) (vs := [12]) (n := (if (n : Int) < (a' : Int) then (n : Int) else (a' : Int)) + 1) (fun r => decide (0 ≤ Lf x n r) && tabF ms (a' - r) (Lf x n r).toNat) (fun r => .int (r : Int))
          (fun H2 e2 Q q => ⟨_, rfl, _, rfl, _, _, rfl, _, _, rfl, rfl, q _ (Ex.refl _)⟩) ⟨by split <;> omega, by split <;> omega⟩ (fun _ => rfl)
          (fun r G2 eg2 hr2 => ?_) (fun r G2 eg2 hr2 _ => ev_var rfl)
        · rw [given_ints] at c1
          have cnt : ((if (n : Int) < (a' : Int) then (n : Int) else (a' : Int)) + 1).toNat = (if n < a' then n else a') + 1 := by
            split <;> split <;> omega
          rw [cnt] at c1
          refine gn_ (el_seq (i := 11) c1 fun w G2 hw eg2 hwv => ?_)
          refine ⟨_, rfl, .inl ⟨rfl, _, SqL.of (eg2 _ _ hLG)⟩, _, rfl, Nat.zero_le _, fun z hz => ?_⟩
          have eg3 := Ex.new (o := .lst []) hz
          have rdi := rdl_ints (K := K) (ok := fun _ => True) (H := upd G2 z (.lst [])) (n := 0) (((List.range ((if n < a' then n else a') + 1)).filter fun r => decide (0 ≤ Lf x n r) && tabF ms (a' - r) (Lf x n r).toNat).map fun l : Nat => (l : Int))
          have fl := List.length_filter_le (fun r => decide (0 ≤ Lf x n r) && tabF ms (a' - r) (Lf x n r).toNat) (List.range ((if n < a' then n else a') + 1))
          rw [List.length_range] at fl
          have fl2 : (if n < a' then n else a') + 1 ≤ 100 := by split <;> omega
          have rdw : Rd K (fun _ => True) (upd G2 z (.lst [])) 1 (.ref w) _ := .lst (eg3 _ _ hwv) trivial rdi.1 (by rw [List.length_map, List.length_map]; omega) rdi.2
          have rde : Rd K (fun _ => True) (upd G2 z (.lst [])) 1 (.ref z) (.list []) := .lst upd_same trivial rfl (Nat.zero_le _) (fun i x d hx _ => by cases hx)
          refine ⟨_, _, rdw.dp, rde.dp, rdw.shaped (by omega), rde.shaped (by omega), L, _, _, rfl, rfl, eg3 _ _ (eg2 _ _ hLG), small1000 (by rw [List.length_map, List.length_range]; omega), ?_⟩
          refine ⟨((eg1.trans eg2).trans eg3).mut hL, _, _, ?_, rfl⟩
          rw [upd_same, any_ne, List.range_succ (n := a'), List.map_append, hTn]
          rfl
        · refine et_and (et_test (ev_op (la v11 r G2 eg2 (by split at hr2 <;> omega)) ev_c rv_I0)) fun hd => et_B ?_
          have hd := of_decide_eq_true hd
          have lt := Lf_lt hd
          obtain ⟨pb, pys, hpb, hpys, pval⟩ := pall (a' - r) (by omega)
          have r1 : r ≤ a' ∧ r ≤ n := by split at hr2 <;> omega
          exact ev_op (ev_op (ev_var rfl) (ev_op (ev_var rfl) (ev_var rfl) rv_I0) (rv_ixL (SqL.of (eg2 _ _ (ex3 _ _ hps))) (at_of (show (a' : Int) - (r : Int) = ((a' - r : Nat) : Int) by omega) hpb))) (la v11 r G2 eg2 r1.2) (rv_ixL (SqL.of (eg2 _ _ (ex3 _ _ hpys))) (at_of (show Lf x n r = ((Lf x n r).toNat : Int) by omega) (pval _ (by omega))))
      · rintro σ G1 ⟨eg1, v10, v11, hLG, rfl⟩
        have LF : L ≠ F := by rintro rfl; rw [hFG] at hL; cases hL
        refine ⟨_, rfl, .inl ⟨rfl, _, SqL.of (eg1 _ _ hFG)⟩, _, rfl, F, xs, .ref L, rfl, rfl, eg1 _ _ hFG, small1000 (by omega), (eg.trans eg1).mut hF, xs ++ [.ref L], _, _, _, _, upd_same, by rw [List.length_append, hlx]; rfl, ?_, rfl⟩
        rw [List.range_succ, List.map_append]
        refine RdL.snoc ((rlx.ex eg1).but (b := F) But.upd (fun a ha => ha.2)) ?_
        unfold rowB
        rw [show ((m : Int) + 1).toNat = m + 1 by omega] at hLG
        refine .lst (by rw [upd_ne LF]; exact hLG) ⟨fresh_back eg hL, LF⟩ (by rw [List.length_map, List.length_map]) (by rw [List.length_map, List.length_range]; omega) fun i x d hx hd => ?_
        rw [List.getElem?_map] at hx hd
        obtain ⟨y, hy, rfl⟩ := Option.map_eq_some_iff.mp hx
        rw [hy] at hd
        cases hd
        exact .bl _
    · rintro σ G ⟨eg, xs, v3, v9, v10, v11, hFG, hlx, rlx, rfl⟩
      rw [show ((m : Int) + 1).toNat = m + 1 by omega] at hlx rlx
      have e3G := e3.trans eg
      have htpG := e3G _ _ htp
      refine ⟨_, rfl, one_le, fun o ho => ?_⟩
      have eo := Ex.new (o := .lst [.ref F]) ho
      refine ⟨_, rfl, o, tp, _, _, rfl, rfl, upd_same, eo _ _ htpG, Nat.le_of_lt (small1000 (by show 1 + _ ≤ 1000; omega)), fun np hnp => ?_⟩
      have en := Ex.new (o := .lst ([.ref F] ++ txs)) hnp
      have rF : Rd K (fun a => H a = none) G 2 (.ref F) (tabD m (tabF (x :: ms))) := by
        rw [← hTn]
        exact .lst hFG (fresh_back (e01.trans eG) hF) rlx.1 (by omega) fun i x d hx hd => (rlx.2 i x d hx hd).of fun a ha => fresh_back (e01.trans eG) ha.1
      have fr0 : ∀ a, upd G o (.lst [.ref F]) a = none → H a = none := fun a ha => fresh_back (((e01.trans eG).trans eg).trans eo) ha
      refine ⟨((eG.trans eg).trans eo).trans en, np, _, _, _, _, _, _, _, _, .lst upd_same (fr0 np hnp) (by rw [List.length_append, List.length_map, sufs_len, txl]; show 1 + _ = _ + 1 + 1; omega) (by rw [List.length_append]; show 1 + _ ≤ 900; omega) fun i y d hy hd => ?_, rfl⟩
      cases i with
      | zero =>
        cases hy
        cases hd
        exact (rF.ex eo).ex en
      | succ i => exact (((tall i y d hy hd).ex e3G).ex eo).ex en
  · rintro σ H' ⟨e, tp, v3, v5, v6, v7, v8, v9, v10, v11, rt, rfl⟩
    rw [List.length_reverse, List.length_map, ← List.length_reverse, List.take_length, List.reverse_reverse] at rt
    exact ⟨_, rfl, q tp H' (e01.trans e) rt⟩
end
end L2.U


set_option Elab.async false
set_option linter.all false
set_option maxRecDepth 100000
set_option maxHeartbeats 4000000
namespace L2.U
open PySem PySem.Spec PyProof.Rows Evl

section
variable {P : Program} {w : World} {K : PySem.W.Frag} {mg : Str → Option Value} {base : Heap}
theorem lc_rd2 {σ : L2.St} {H : Hp} {ta : TA} {te : TE} {j m : Nat} {vs : List Nat} {lo n : Int} {d : Nat → PyData} (h : EvA ta σ H [.int lo, .int n]) (hn : 0 ≤ lo ∧ lo ≤ 900 ∧ -900 ≤ n ∧ n ≤ 900) (hw : ∀ x, wipe ((wipe σ vs).set j (some x)) vs = wipe σ vs)
    (he : ∀ (i : Nat) H1, Ex H H1 → lo + (i : Int) < n → ∀ Q : VK, (∀ x H2, Ex H1 H2 → Rd K (fun a => H1 a = none) H2 m x (d i) → Q x H2) → te ((wipe σ vs).set j (some (.int (lo + (i : Int))))) H1 Q)
    {Q : VK} (q : ∀ p H', Ex H H' → H p = none → Rd K (fun a => H a = none) H' (m + 1) (.ref p) (.list ((List.range (n - lo).toNat).map d)) → Q (.ref p) H') : tLc (iRng2 ta) (gName j) tYes te vs σ H Q := by
  refine h H (Ex.refl _) _ fun H1 e1 => ⟨lo, n, rfl, ⟨by omega, by omega, by omega, by omega⟩, fun D hD => ?_⟩
  refine lc_range (lo := lo) (n := (n - lo).toNat) (fun i H' => Ex H1 H' ∧ ∃ xs, H' D = some (.lst xs) ∧ xs.length = i ∧ RdL K (fun a => H1 a = none ∧ a ≠ D) H' m xs ((List.range i).map d)) ⟨Ex.new hD, [], upd_same, rfl, rfl, fun i x e hx _ => by cases hx⟩ (fun i H' hi p => ⟨hw _, ?_⟩) (fun H' p => ?_)
  · obtain ⟨p1, xs, p2, p3, p4⟩ := p
    refine tyes ?_
    refine he i H' (e1.trans p1) (by omega) _ fun x H2 e2 rx => ⟨xs, e2 _ _ p2, small1000 (by omega), (p1.trans e2).mut hD, xs ++ [x], upd_same, by rw [List.length_append, p3]; rfl, ?_⟩
    rw [List.range_succ, List.map_append]
    refine RdL.snoc ?_ ?_
    · have r1 := p4.ex e2
      exact r1.but (b := D) But.upd (fun a ha => ha.2)
    · have nD : ∀ a, H' a = none → H1 a = none ∧ a ≠ D := fun a ha => ⟨fresh_back p1 ha, fun z => by rw [z, p2] at ha; cases ha⟩
      exact (rx.of nD).but (b := D) But.upd (fun a ha => ha.2)
  · obtain ⟨p1, xs, p2, p3, p4⟩ := p
    have fr : ∀ a, H1 a = none → H a = none := fun a ha => fresh_back e1 ha
    have r := p4.of (ok' := fun a => H a = none) (fun a ha => fr a ha.1)
    exact q D H' (e1.trans p1) (fr D hD) (.lst p2 (fr D hD) r.1 (by omega) r.2)
theorem rd_listI {ok : Addr → Prop} {H : Hp} {m : Nat} {x : V} {t : List Int} (h : Rd K ok H m x (listI t)) : ∃ o, x = .ref o ∧ ok o ∧ H o = some (.lst (t.map V.int)) ∧ t.length ≤ 900 := by
  unfold listI at h
  generalize hd : (PyData.list (t.map PyData.int)) = d at h
  cases h with
  | lst h2 ha2 hl2 hz2 all2 =>
    cases hd
    rename_i b xs
    have e : xs = t.map V.int := by
      apply List.ext_getElem?
      intro i
      by_cases hi : i < xs.length
      · have hx := List.getElem?_eq_getElem hi
        have ht : i < t.length := by rw [List.length_map] at hl2; omega
        have r := all2 i _ (.int t[i]) hx (by rw [List.getElem?_map, List.getElem?_eq_getElem ht]; rfl)
        rw [hx, List.getElem?_map, List.getElem?_eq_getElem ht]
        generalize xs[i] = y at r ⊢
        cases r
        rfl
      · rw [List.getElem?_eq_none (by omega), List.getElem?_eq_none (by rw [List.length_map] at hl2 ⊢; omega)]
    rw [e] at h2
    exact ⟨b, rfl, ha2, h2, by rw [List.length_map] at hl2; omega⟩
  | _ => cases hd
theorem RdL.app {ok : Addr → Prop} {H : Hp} {n : Nat} {xs ys : List V} {ds es : List PyData} (h1 : RdL K ok H n xs ds) (h2 : RdL K ok H n ys es) : RdL K ok H n (xs ++ ys) (ds ++ es) := by
  refine ⟨by rw [List.length_append, List.length_append, h1.1, h2.1], fun i x d hx hd => ?_⟩
  by_cases c : i < xs.length
  · rw [List.getElem?_append_left c] at hx
    rw [List.getElem?_append_left (by rw [← h1.1]; exact c)] at hd
    exact h1.2 i x d hx hd
  · rw [List.getElem?_append_right (by omega)] at hx
    rw [List.getElem?_append_right (by rw [← h1.1]; omega), ← h1.1] at hd
    exact h2.2 _ x d hx hd
/-! ### the lists of sizes -/
def grow1 (n : Nat) (t : List Int) : List (List Int) := (List.range ((n : Int) - t.sum).toNat).map fun k : Nat => t ++ [1 + (k : Int)]
def growL (n : Nat) (g : List (List Int)) : List (List Int) := g.flatMap (grow1 n)
def lev (n : Nat) : Nat → List (List Int)
  | 0 => [[]]
  | k + 1 => growL n (lev n k)
def foundL (n i : Nat) : List (List Int) := (List.range i).flatMap fun k => lev n (k + 1)
theorem lev_small : ∀ n : Fin 5, ∀ i : Fin 5, (foundL n.val i.val).length ≤ 20 ∧ (lev n.val i.val).length ≤ 20 ∧ ∀ t ∈ lev n.val i.val, t.length ≤ 5 ∧ 0 ≤ t.sum ∧ t.sum ≤ 4 := by decide +kernel
theorem grow_small : ∀ n : Fin 5, ∀ i : Fin 5, ∀ j : Fin 21, (growL n.val ((lev n.val i.val).take j.val)).length ≤ 20 := by decide +kernel
def spSizeLists (K : PySem.W.Frag) : Sp := fun vs H Q _ => ∃ n : Nat, vs = [.int (n : Int)] ∧ n ≤ 4 ∧ ∀ p H', Ex H H' → Rd K (fun a => H a = none) H' 2 (.ref p) (list2 (foundL n n)) → Q (.ref p) H'
theorem ok_law_size_lists (T : TK K mg) : FnOk P w K mg base CX0 1 T.law_size_lists.a T.law_size_lists.fd ["n"] (spSizeLists K) := by
  refine T.law_size_lists.F.ok sc_law_size_lists (fun vs H Q E h => ?_) (fun cdv A outer s H vs Q E hr h => ?_)
  · obtain ⟨n, rfl, _⟩ := h; rfl
  obtain ⟨n, rfl, hn, q⟩ := h
  refine ⟨_, (pss_cons (ps_par (i := 1) (j := 2) (by rfl) sc_law_size_lists.nd rfl rfl (by decide) rfl rfl (pa_cons (pe_lst pa_nil) (pa_cons (pe_lst (pa_cons (pe_lst pa_nil) pa_nil)) pa_nil)) (by rfl))
    (pss_cons (ps_for PassesOwn.never rfl (pi_range1 rfl T.z_range (pa_cons (pv 0) pa_nil)) (pg_name (i := 3) sc_law_size_lists.nd rfl (Or.inl rfl)) (pss_cons (ps_set (i := 4) sc_law_size_lists.nd rfl (Or.inl rfl) (pe_lst pa_nil))
    (pss_cons (ps_for PassesOwn.never rfl (kpil K (pv 2)) (pg_name (i := 5) sc_law_size_lists.nd rfl (Or.inr rfl)) (pss_one (ps_expr (pe_bm PySem.F.plainAttrs_list PySem.F.slot_list_extend PySem.F.type_list_extend mt_extend (pv 4) (pa_cons (pe_lc (own := [("size", 6)]) (g := gName 6) (by rfl) sc_law_size_lists.nd (pi_range2 rfl T.z_range (pa_cons pe_int (pa_cons (pe_op op_add (pe_op op_sub (pv 0) (pe_callB (ksum K rfl) (by rfl) T.z_sum (by decide +kernel) (pa_cons (pv 5) pa_nil))) pe_int) pa_nil))) (blkOk_by (own := [("size", 6)]) (N := ["n", "found", "grown", "turn", "longer", "one", "size"]) (sc := defScope s_law_size_lists) (by decide +kernel)) (fun _ _ _ _ _ => (pg_name (i := 6) sc_law_size_lists.nd rfl (Or.inl rfl))) (fun _ _ _ _ _ => pts_nil) (fun _ _ _ _ _ => (pe_op op_cat (pv 5) (pe_lst (pa_cons (pv 6) pa_nil))))) pa_nil)))))
    (pss_cons (ps_expr (pe_bm PySem.F.plainAttrs_list PySem.F.slot_list_extend PySem.F.type_list_extend mt_extend (pv 1) (pa_cons (pv 4) pa_nil)))
    (pss_one (ps_set (i := 2) sc_law_size_lists.nd rfl (Or.inl rfl) (pv 4)))))))
    (pss_one (ps_ret (pv 1))))), ?_⟩
  refine ⟨Nat.zero_le _, fun F hF => ⟨Nat.zero_le _, fun z hz => ⟨one_le, fun g0 hg => ⟨_, _, rfl, ?_⟩⟩⟩⟩
  have x1 := Ex.new (o := .lst []) hF
  have x2 := Ex.new (o := .lst []) hz
  have x3 := Ex.new (o := .lst [.ref z]) hg
  have f1 := x3 _ _ (x2 _ _ (upd_same (H := H) (a := F) (o := .lst [])))
  have f2 := x3 _ _ (upd_same (H := upd H F (.lst [])) (a := z) (o := .lst []))
  have f3 := upd_same (H := upd (upd H F (.lst [])) z (.lst [])) (a := g0) (o := .lst [.ref z])
  have z0 : H z = none := fresh_back x1 hz
  have g00 : H g0 = none := fresh_back (x1.trans x2) hg
  have zF : z ≠ F := by rintro rfl; rw [upd_same] at hz; cases hz
  have gF : g0 ≠ F := by rintro rfl; have := x2 _ _ (upd_same (H := H) (a := g0) (o := .lst [])); rw [hg] at this; cases this
  have xx := (x1.trans x2).trans x3
  generalize upd (upd (upd H F (.lst [])) z (.lst [])) g0 (.lst [.ref z]) = H1 at xx f1 f2 f3 ⊢
  refine ⟨_, rfl, (n : Int), rfl, by omega, by omega, for_range (lo := 0) (n := ((n : Int)).toNat) (fun i σ G => Ex H G ∧ ∃ (g : Addr) (xs gs : List V) (v3 v4 v5 : Option V), G F = some (.lst xs) ∧ RdL K (fun a => H a = none ∧ a ≠ F) G 1 xs ((foundL n i).map listI) ∧ G g = some (.lst gs) ∧ H g = none ∧ g ≠ F ∧ RdL K (fun a => H a = none ∧ a ≠ F) G 1 gs ((lev n i).map listI) ∧ σ = [some (.int (n : Int)), some (.ref F), some (.ref g), v3, v4, v5, none])
    ⟨xx, g0, [], [.ref z], _, _, _, f1, RdL.nil, f3, g00, gF, RdL.cons (.lst f2 ⟨z0, zF⟩ rfl (Nat.zero_le _) fun i x d hx _ => by cases hx) RdL.nil, rfl⟩ ?_ ?_⟩
  · rintro i σ G hi ⟨eg, g, xs, gs, v3, v4, v5, hFG, rF, hgG, gn, gF, rG, rfl⟩
    rw [Int.zero_add]
    have hi' : i < n := by omega
    have sm := lev_small ⟨n, by omega⟩ ⟨i, by omega⟩
    have sm1 := lev_small ⟨n, by omega⟩ ⟨i + 1, by omega⟩
    simp only at sm sm1
    have lx : xs.length ≤ 20 := by rw [rF.1, List.length_map]; exact sm.1
    have lg : gs.length = (lev n i).length := by rw [rG.1, List.length_map]
    refine ⟨Nat.zero_le _, fun L hL => ?_⟩
    have LF : L ≠ F := by rintro rfl; rw [hFG] at hL; cases hL
    have L0 : H L = none := fresh_back eg hL
    refine ⟨_, rfl, g, rfl, ⟨_, SqL.of ((Ex.new hL) _ _ hgG)⟩, for_list (xs := gs) (fun j σ G' => Ex G G' ∧ ∃ (ls : List V) (v5 : Option V), G' L = some (.lst ls) ∧ RdL K (fun a => G a = none ∧ a ≠ L) G' 1 ls ((growL n ((lev n i).take j)).map listI) ∧ σ = [some (.int (n : Int)), some (.ref F), some (.ref g), some (.int (i : Int)), some (.ref L), v5, none])
      ⟨Ex.new hL, [], _, upd_same, RdL.nil, rfl⟩ (fun j σ G' _ p => SqL.of (p.1 _ _ hgG)) ?_ ?_⟩
    · rintro j x σ G' hx ⟨eg', ls, v5, hLG, rL, rfl⟩
      have hj := (List.getElem?_eq_some_iff.mp hx).1
      obtain ⟨t, ht⟩ : ∃ t, (lev n i)[j]? = some t := ⟨_, List.getElem?_eq_getElem (by omega)⟩
      have tm := sm.2.2 t (List.mem_of_getElem? ht)
      obtain ⟨o, rfl, _, ho, _⟩ := rd_listI (rG.2 j x (listI t) hx (by rw [List.getElem?_map, ht]; rfl))
      have ho' := eg' _ _ ho
      have gsm := grow_small ⟨n, by omega⟩ ⟨i, by omega⟩ ⟨j, by omega⟩
      have gsm1 := grow_small ⟨n, by omega⟩ ⟨i, by omega⟩ ⟨j + 1, by omega⟩
      simp only at gsm gsm1
      have gt : growL n ((lev n i).take (j + 1)) = growL n ((lev n i).take j) ++ grow1 n t := by
        unfold growL
        rw [List.take_add_one, ht, List.flatMap_append]
        show _ ++ (grow1 n t ++ []) = _
        rw [List.append_nil]
      have lls : ls.length ≤ 20 := by rw [rL.1, List.length_map]; exact gsm
      refine ⟨_, rfl, .inl ⟨rfl, _, SqL.of hLG⟩, ?_⟩
      refine lc_rd2 (K := K) (σ := [some (.int (n : Int)), some (.ref F), some (.ref g), some (.int (i : Int)), some (.ref L), some (.ref o), none]) (H := G') (lo := 1) (n := (n : Int) - t.sum + 1) (m := 1) (vs := [6]) (d := fun k : Nat => listI (t ++ [1 + (k : Int)])) (fun H1 e1 Q q => ⟨_, rfl, _, rfl, o, t, rfl, .inl (ex_l e1 (SqL.of ho')), _, _, rfl, rfl, _, _, rfl, rfl, q _ (Ex.refl _)⟩) ⟨by omega, by omega, by omega, by omega⟩ (fun _ => rfl) (fun k H1 e1 hk Q1 q1 => ?_) (fun p H' e' hp r => ?_)
      · refine ⟨_, rfl, _, rfl, one_le, fun s hs => ⟨o, s, _, _, rfl, rfl, (Ex.new hs) _ _ (e1 _ _ ho'), upd_same, Nat.le_of_lt (small1000 (by rw [List.length_map]; show _ + 1 ≤ 1000; omega)), fun p hp => q1 _ _ ((Ex.new hs).trans (Ex.new hp)) ?_⟩⟩
        exact rd_ilist (ns := t ++ [1 + (k : Int)]) (by rw [upd_same, List.map_append]; rfl) (fresh_back (Ex.new hs) hp) (by rw [List.length_append]; show _ + 1 ≤ 900; omega)
      · have r' : Rd K (fun a => G' a = none) H' 2 (.ref p) (.list ((grow1 n t).map listI)) := by
          unfold grow1
          rw [List.map_map]
          rw [show ((n : Int) - t.sum + 1 - 1).toNat = ((n : Int) - t.sum).toNat by omega] at r
          exact r
        obtain ⟨zs, hzs, _, hzl, _, hza⟩ := rd_lst_at r'
        have pL : p ≠ L := by rintro rfl; rw [hLG] at hp; cases hp
        rw [List.length_map] at hzl
        have lz : zs.length ≤ 20 := by
          rw [hzl]
          rw [gt, List.length_append] at gsm1
          omega
        refine ⟨L, p, ls, zs, rfl, rfl, e' _ _ hLG, hzs, Nat.le_of_lt (small1000 (by omega)), (eg'.trans e').mut hL, ls ++ zs, _, upd_same, ?_, rfl⟩
        rw [gt, List.map_append]
        have rz : RdL K (fun a => G a = none ∧ a ≠ L) H' 1 zs ((grow1 n t).map listI) := ⟨by rw [List.length_map, hzl], fun i x d hx hd => (hza i x d hx hd).of fun a ha => ⟨fresh_back eg' ha, fun e => by rw [e, hLG] at ha; cases ha⟩⟩
        exact ((rL.ex e').but (b := L) But.upd (fun a ha => ha.2)).app (rz.but (b := L) But.upd (fun a ha => ha.2))
    · rintro σ G' ⟨eg', ls, v5, hLG, rL, rfl⟩
      rw [lg, List.take_length] at rL
      have lls : ls.length ≤ 20 := by rw [rL.1, List.length_map]; exact sm1.2.1
      have hFG' := eg' _ _ hFG
      have rL' : RdL K (fun a => H a = none ∧ a ≠ F) G' 1 ls ((lev n (i + 1)).map listI) := rL.of fun a ha => ⟨fresh_back eg ha.1, fun e => by have := ha.1; rw [e, hFG] at this; cases this⟩
      refine ⟨_, rfl, .inl ⟨rfl, _, SqL.of hFG'⟩, _, rfl, F, L, xs, ls, rfl, rfl, hFG', hLG, Nat.le_of_lt (small1000 (by omega)), ?_⟩
      refine ⟨_, rfl, (eg.trans eg').mut hF, L, xs ++ ls, ls, _, _, _, upd_same, ?_, by rw [upd_ne LF]; exact hLG, L0, LF, rL'.but (b := F) But.upd (fun a ha => ha.2), rfl⟩
      have ef : foundL n (i + 1) = foundL n i ++ lev n (i + 1) := by
        unfold foundL
        rw [List.range_succ, List.flatMap_append]
        show _ ++ (_ ++ []) = _
        rw [List.append_nil]
      rw [ef, List.map_append]
      exact ((rF.ex eg').but (b := F) But.upd (fun a ha => ha.2)).app (rL'.but (b := F) But.upd (fun a ha => ha.2))
  · rintro σ G ⟨eg, g, xs, gs, v3, v4, v5, hFG, rF, hgG, gn, gF, rG, rfl⟩
    have sm := lev_small ⟨n, by omega⟩ ⟨n, by omega⟩
    simp only at sm
    rw [Int.toNat_natCast] at rF
    exact ⟨_, rfl, q F G eg (.lst hFG hF rF.1 (by rw [rF.1, List.length_map]; omega) fun i x d hx hd => (rF.2 i x d hx hd).of fun a ha => ha.1)⟩
end
end L2.U


set_option Elab.async false
set_option linter.all false
set_option maxRecDepth 100000
set_option maxHeartbeats 4000000
namespace L2.U
open PySem PySem.Spec PyProof.Rows Evl

section
variable {P : Program} {w : World} {K : PySem.W.Frag} {mg : Str → Option Value} {base : Heap}
def arrI (s : List Int) (n : Nat) : Int := (arrUp (s ++ [(n : Int) - s.sum])).1
theorem sizes_le : ∀ n : Fin 5, ∀ s ∈ foundL n.val n.val, 1 ≤ s.length ∧ s.length ≤ 5 ∧ 0 ≤ (n.val : Int) - s.sum ∧ 0 ≤ s.sum ∧ (∀ z ∈ s, 0 ≤ z) ∧ ((n.val : Int) - s.sum).toNat + (s.length - 1) < n.val ∧ arrI s n.val ≤ mostF n.val (s.length - 1) ((n.val : Int) - s.sum).toNat := by decide +kernel
theorem sizes_ev : ∀ n : Fin 5, ∀ r : Fin 5, ∀ l : Fin 5, l.val + r.val < n.val → ∃ s ∈ foundL n.val n.val, s.length = r.val + 1 ∧ (n.val : Int) - s.sum = (l.val : Int) ∧ arrI s n.val = mostF n.val r.val l.val := by decide +kernel
theorem found_len : ∀ n : Fin 5, (foundL n.val n.val).length ≤ 100 := by decide +kernel
def GoodS (x : Int) (ns : List Int) (n a : Nat) (s : List Int) : Prop := (s.length : Int) - 1 ≤ (a : Int) ∧ x ≤ arrI s n ∧ tabF ns (a + 1 - s.length) ((n : Int) - s.sum).toNat = true
theorem listed_true {x : Int} {ns : List Int} {n a : Nat} {s : List Int} (hn : n ≤ 4) (ha : a ≤ 4) (hs : s ∈ foundL n n) (g : GoodS x ns n a s) : tabF (x :: ns) n a = true := by
  obtain ⟨g1, g2, g3⟩ := g
  have f := sizes_le ⟨n, by omega⟩ s hs
  simp only at f
  obtain ⟨f1, f2, f3, f4, f5, f6, f7⟩ := f
  rw [tab_can (m := 16) (by omega) (x :: ns) n a (by omega) (by omega)]
  refine ⟨s.length - 1, ((n : Int) - s.sum).toNat, by omega, f6, Int.le_trans g2 f7, ?_⟩
  rw [show a - (s.length - 1) = a + 1 - s.length by omega]
  exact (tab_can (m := 16) (by omega) ns _ _ (by omega) (by omega)).mp g3
theorem listed_false {x : Int} {ns : List Int} {n a : Nat} (hn : n ≤ 4) (ha : a ≤ 4) (no : ∀ s ∈ foundL n n, ¬ GoodS x ns n a s) : tabF (x :: ns) n a = false := by
  refine Bool.eq_false_iff.mpr fun c => ?_
  rw [tab_can (m := 16) (by omega) (x :: ns) n a (by omega) (by omega)] at c
  obtain ⟨r, l, c1, c2, c3, c4⟩ := c
  obtain ⟨s, hs, e1, e2, e3⟩ := sizes_ev ⟨n, by omega⟩ ⟨r, by omega⟩ ⟨l, by omega⟩ c2
  simp only at e1 e2 e3 hs
  refine no s hs ⟨by omega, by rw [e3]; exact c3, ?_⟩
  rw [e2, Int.toNat_natCast, show a + 1 - s.length = a - r by omega]
  exact (tab_can (m := 16) (by omega) ns _ _ (by omega) (by omega)).mpr c4
theorem cutV_drop {xs : List V} {k : Nat} (h : k ≤ xs.length) : cutV xs (some (k : Int)) none = xs.drop k := by
  unfold cutV
  rw [HT.sIx_nat, HT.sIx_none, Nat.min_eq_left h]
  exact List.take_of_length_le (by rw [List.length_drop]; omega)
def spListed (K : PySem.W.Frag) (i : Nat) : Sp := fun vs H Q _ => ∃ (a : Addr) (ns : List Int) (n m : Nat), vs = [.ref a, .int (n : Int), .int (m : Int)] ∧ H a = some (.lst (ns.map V.int)) ∧ ns.length < i ∧ ns.length ≤ 60 ∧ n ≤ 4 ∧ m ≤ 4 ∧ ∀ H', Ex H H' → Q (.bl (tabF ns n m)) H'
theorem listed_step (T : TK K mg) (i : Nat) (ih : FnOk P w K mg base CX0 (i + 1) T.law_listed.a T.law_listed.fd ["row", "n", "a"] (spListed K i)) : FnOk P w K mg base CX0 (i + 2) T.law_listed.a T.law_listed.fd ["row", "n", "a"] (spListed K (i + 1)) := by
  refine T.law_listed.F.ok sc_law_listed (fun vs H Q E h => ?_) (fun cdv A outer s H vs Q E hr h => ?_)
  · obtain ⟨a, ns, n, m, rfl, _⟩ := h; rfl
  obtain ⟨a, ns, n, m, rfl, ha, hl, hl60, hn, hm, q⟩ := h
  refine ⟨_, (pss_cons (ps_if (pt_cmpR (keqD K hr.units) (pv 0) (pe_lst pa_nil) (nomark _)) (pss_one (ps_ret pe_bl)) pss_nil)
    (pss_cons (ps_for PassesOwn.never rfl (kpil K (pe_call (ok_law_size_lists T) (hr.mono (by omega)) rfl T.law_size_lists.m T.law_size_lists.F.kp T.law_size_lists.b .nil pass0 (pa_cons (pv 1) pa_nil))) (pg_name (i := 3) sc_law_listed.nd rfl (Or.inl rfl)) (pss_cons (ps_set (i := 4) sc_law_listed.nd rfl (Or.inl rfl) (pe_op op_sub (pv 1) (pe_callB (ksum K rfl) (by rfl) T.z_sum (by decide +kernel) (pa_cons (pv 3) pa_nil))))
    (pss_one (ps_if (PW.pt (pw_and (pt_cmpR op_le (pe_op op_sub (pe_callB (klen K) (by rfl) T.z_len (by decide +kernel) (pa_cons (pv 3) pa_nil)) pe_int) (pv 2) (nomark _)) (pw_and1 (pt_cmpR op_ge (pe_call (ok_law_arranged T) (hr.mono (by omega)) rfl T.law_arranged.m T.law_arranged.F.kp T.law_arranged.b .nil pass0 (pa_cons (pe_op op_cat (pv 3) (pe_lst (pa_cons (pv 4) pa_nil))) pa_nil)) (pe_ix (kixl K) (pv 0) pe_int (fun _ _ => rfl)) (nomark _))))) (pss_one (ps_if (pt_val (pe_call (ih) (hr.mono (by omega)) rfl T.law_listed.m T.law_listed.F.kp T.law_listed.b .nil pass0 (pa_cons (pe_slice (kslL K) (pv 0) (po_some pe_int) po_none) (pa_cons (pe_op op_add (pe_op op_sub (pv 2) (pe_callB (klen K) (by rfl) T.z_len (by decide +kernel) (pa_cons (pv 3) pa_nil))) pe_int) (pa_cons (pv 4) pa_nil))))) (pss_one (ps_ret pe_bl)) pss_nil)) pss_nil))))
    (pss_one (ps_ret pe_bl)))), ?_⟩
  refine ⟨_, rfl, Nat.zero_le _, fun z hz => ?_⟩
  have e1 := Ex.new (o := .lst []) hz
  have ra : Rd K (fun _ => True) (upd H z (.lst [])) 1 (.ref a) (.list (ns.map PyData.int)) := rd_ilist (e1 _ _ ha) trivial (by omega)
  have rz : Rd K (fun _ => True) (upd H z (.lst [])) 1 (.ref z) (.list []) := .lst upd_same trivial rfl (Nat.zero_le _) (fun i x d hx _ => by cases hx)
  refine ⟨_, _, ra.dp, rz.dp, ra.shaped (by omega), rz.shaped (by omega), _, rfl, ?_⟩
  generalize upd H z (.lst []) = H1 at e1 ⊢
  cases ns with
  | nil => exact iteT (q H1 e1)
  | cons x ns =>
  refine iteF ?_
  refine ⟨_, rfl, n, rfl, hn, fun p H2 e2 rp => ?_⟩
  have e12 := e1.trans e2
  obtain ⟨vs, hv, _, hvl, _, hva⟩ := rd_lst_at rp
  rw [List.length_map] at hvl
  refine ⟨p, rfl, ⟨_, SqL.of hv⟩, for_list (xs := vs) (fun k σ H' => Ex H2 H' ∧ (∀ k' s, k' < k → (foundL n n)[k']? = some s → ¬ GoodS x ns n m s) ∧ ∃ v3 v4 : Option V, σ = [some (.ref a), some (.int (n : Int)), some (.int (m : Int)), v3, v4])
    ⟨Ex.refl _, (fun k' s hk _ => absurd hk (Nat.not_lt_zero _)), _, _, rfl⟩ (fun k σ H' _ p => SqL.of (p.1 _ _ hv)) ?_ ?_⟩
  · rintro k v σ H3 hk ⟨e3, no, v3, v4, rfl⟩
    have hk1 := (List.getElem?_eq_some_iff.mp hk).1
    obtain ⟨t, ht⟩ : ∃ t, (foundL n n)[k]? = some t := ⟨_, List.getElem?_eq_getElem (by omega)⟩
    have tm := List.mem_of_getElem? ht
    obtain ⟨f1, f2, f3, f4, f5, f6, f7⟩ := sizes_le ⟨n, by omega⟩ t tm
    simp only at f3 f6 f7
    obtain ⟨o, rfl, _, ho, _⟩ := rd_listI (hva k v (listI t) hk (by rw [List.getElem?_map, ht]; rfl))
    have ho3 := e3 _ _ ho
    have ha3 := e3 _ _ (e12 _ _ ha)
    have nx : ∀ (H4 : Hp) (v3 v4 : Option V), Ex H3 H4 → ¬ GoodS x ns n m t → (fun k σ H' => Ex H2 H' ∧ (∀ k' s, k' < k → (foundL n n)[k']? = some s → ¬ GoodS x ns n m s) ∧ ∃ v3 v4 : Option V, σ = [some (V.ref a), some (.int (n : Int)), some (.int (m : Int)), v3, v4]) (k + 1) [some (.ref a), some (.int (n : Int)), some (.int (m : Int)), v3, v4] H4 := fun H4 v3 v4 e4 ng =>
      ⟨e3.trans e4, fun k' s hk' hs => by
        by_cases c : k' = k
        · rw [c, ht] at hs; cases hs; exact ng
        · exact no k' s (by omega) hs, _, _, rfl⟩
    refine ⟨_, rfl, _, rfl, o, t, rfl, .inl (SqL.of ho3), _, _, rfl, rfl, ?_⟩
    refine ⟨_, rfl, _, _, rfl, .inl ⟨_, SqL.of ho3, rfl⟩, _, _, rfl, rfl, _, rfl, _, _, rfl, rfl, _, rfl, ite2 (fun c => ?_) (fun c => ?_)⟩
    · have c := of_decide_eq_true c
      rw [List.length_map] at c
      refine ⟨_, rfl, _, rfl, one_le, fun s hs => ⟨o, s, _, _, rfl, rfl, (Ex.new hs) _ _ ho3, upd_same, Nat.le_of_lt (small1000 (by rw [List.length_map]; show _ + 1 ≤ 1000; omega)), fun pp hp => ?_⟩⟩
      have e4 := (Ex.new (o := .lst [.int ((n : Int) - t.sum)]) hs).trans (Ex.new (o := .lst (t.map V.int ++ [.int ((n : Int) - t.sum)])) hp)
      refine ⟨pp, t ++ [(n : Int) - t.sum], rfl, SqL.of (by rw [upd_same, List.map_append]; rfl), fun z hz => ?_, by rw [List.sum_append, List.sum_singleton]; omega, fun H5 e5 => ?_⟩
      · rcases List.mem_append.mp hz with h | h
        · exact f5 z h
        · rw [List.mem_singleton] at h; omega
      have e35 := e4.trans e5
      refine ⟨_, rfl, a, _, 0, .int x, rfl, rfl, SqL.of (e35 _ _ ha3), at_of (show (0 : Int) = ((0 : Nat) : Int) from rfl) rfl, _, _, rfl, rfl, _, rfl, ite2 (fun c2 => ?_) (fun c2 => ?_)⟩
      · have c2 : x ≤ arrI t n := of_decide_eq_true c2
        refine ⟨_, rfl, 1, rfl, a, _, rfl, SqL.of (e35 _ _ ha3), fun u hu => ?_⟩
        have e6 := Ex.new (o := .lst (cutV ((x :: ns).map V.int) (some 1) none)) hu
        have cd : cutV ((x :: ns).map V.int) (some 1) none = ns.map V.int := by
          rw [show (1 : Int) = ((1 : Nat) : Int) from rfl, cutV_drop (by rw [List.length_map]; exact Nat.succ_pos _)]
          rfl
        have e36 := e35.trans e6
        refine ⟨_, rfl, _, rfl, _, _, rfl, .inl ⟨_, SqL.of (e36 _ _ ho3), rfl⟩, _, _, rfl, rfl, _, _, rfl, rfl, _, rfl, u, ns, m + 1 - t.length, ((n : Int) - t.sum).toNat, ?_, by rw [upd_same, cd], by (have : ns.length + 1 < i + 1 := hl); omega, by (have : ns.length + 1 ≤ 60 := hl60); omega, by omega, by omega, fun H7 e7 => ⟨_, rfl, ite2 (fun c3 => ?_) (fun c3 => ?_)⟩⟩
        · rw [List.length_map, show ((m + 1 - t.length : Nat) : Int) = (m : Int) - (t.length : Int) + 1 by omega, Int.toNat_of_nonneg f3]
          rfl
        · have := q H7 (e12.trans (e3.trans (e36.trans e7)))
          rw [listed_true hn hm tm ⟨c, c2, c3⟩] at this
          exact this
        · exact nx H7 _ _ (e36.trans e7) fun g => c3 g.2.2
      · exact nx H5 _ _ e35 fun g => c2 (decide_eq_true g.2.1)
    · rw [List.length_map] at c
      exact nx H3 _ _ (Ex.refl _) fun g => c (decide_eq_true g.1)
  · rintro σ H3 ⟨e3, no, v3, v4, rfl⟩
    have := q H3 (e12.trans e3)
    rw [listed_false hn hm fun s hs => by
      obtain ⟨k, hk⟩ := List.mem_iff_getElem?.mp hs
      exact no k s (by have := (List.getElem?_eq_some_iff.mp hk).1; omega) hk] at this
    exact this
theorem ok_listed (T : TK K mg) : ∀ i, FnOk P w K mg base CX0 (i + 1) T.law_listed.a T.law_listed.fd ["row", "n", "a"] (spListed K i)
  | 0 => (none_left fun vs H Q E h => by obtain ⟨a, ns, n, m, _, _, hl, _⟩ := h; exact absurd hl (Nat.not_lt_zero _)).mono (Nat.zero_le _)
  | i + 1 => listed_step T i (ok_listed T i)
theorem ok_law_listed (T : TK K mg) : FnOk P w K mg base CX0 5 T.law_listed.a T.law_listed.fd ["row", "n", "a"] (spListed K 4) := ok_listed T 4
end
end L2.U


set_option Elab.async false
set_option linter.all false
set_option maxRecDepth 100000
set_option maxHeartbeats 4000000
namespace L2.U
open PySem PySem.Spec PyProof.Rows Evl

section
variable {P : Program} {w : World} {K : PySem.W.Frag} {mg : Str → Option Value} {base : Heap}
theorem cutV_len {xs : List V} {lo hi : Option Int} : (cutV xs lo hi).length ≤ xs.length := by
  unfold cutV
  rw [List.length_take, List.length_drop]
  omega
section
variable {σ : L2.St} {H : Hp} {ta tb : TE} {xs ys : List V}
/-- items[:i] + [x] + items[j:] -/
theorem el_mid {a : Addr} {i j : Int} {te tf tg : TE} {x : V} (h : Ev ta σ H (.ref a)) (hs : SqL K H a xs) (h1 : Ev te σ H (.int i)) (h2 : Ev tf σ H x) (h3 : Ev tg σ H (.int j)) (hl : xs.length ≤ 1000) :
    EvL (tOp rCat (tOp rCat (tSl (rSlL K) ta tNoPart (tPart te)) (tLst (tCons tf tNil))) (tSl (rSlL K) ta (tPart tg) tNoPart)) σ H (cutV xs none (some i) ++ [x] ++ cutV xs (some j) none) := by
  have c1 := @cutV_len xs none (some i)
  have c2 := @cutV_len xs (some j) none
  refine el_catL (el_catL (el_sl h eo_none (eo_some h1) hs) (el_lst (ea_cons h2 ea_nil) (by show 1 ≤ 100000; decide)) ?_) (el_sl h (eo_some h3) eo_none hs) ?_
  · rw [List.length_singleton]; omega
  · rw [List.length_append, List.length_singleton]; omega
end
theorem gnv {i : Nat} {v v' : V} {σ : L2.St} {H : Hp} {k : L2.St → Hp → Prop} (e : v = v') (h : gName i v' σ H k) : gName i v σ H k := e ▸ h
def fac : Nat → Int
  | 0 => 1
  | n + 1 => ((n : Int) + 1) * fac n
theorem cn_fac : ∀ t : Fin 17, ∀ z : Fin 17, t.val + z.val ≤ 16 → 1 ≤ Cn (t.val + z.val) z.val ∧ Cn (t.val + z.val) z.val * fac t.val ≤ fac (t.val + z.val) ∧ fac (t.val + z.val) ≤ 1000000000000000000 := by decide +kernel
theorem arr_pre {l : List Int} (hp : ∀ z ∈ l, 0 ≤ z) (hs : l.sum ≤ 16) : ∀ i, i ≤ l.length → 1 ≤ (arrUp (l.take i)).1 ∧ (arrUp (l.take i)).1 ≤ fac (l.take i).sum.toNat := by
  intro i
  induction i with
  | zero => intro _; exact ⟨by show (1 : Int) ≤ 1; exact Int.le_refl _, by show (1 : Int) ≤ 1; exact Int.le_refl _⟩
  | succ i ih =>
    intro hi
    obtain ⟨i1, i2⟩ := ih (by omega)
    have hz : l[i]? = some l[i] := List.getElem?_eq_getElem (by omega)
    have z0 := hp l[i] (List.getElem_mem _)
    have st := sum_take hp i
    have st1 := sum_take hp (i + 1)
    have e1 : (l.take (i + 1)).sum = (l.take i).sum + l[i] := by
      rw [List.take_add_one, hz, List.sum_append]
      show _ + (l[i] + 0) = _
      rw [Int.add_zero]
    rw [arrUp_more hz, arrUp_two]
    generalize l[i] = z at z0 e1
    obtain ⟨tn, htn⟩ : ∃ tn : Nat, (l.take i).sum = (tn : Int) := ⟨(l.take i).sum.toNat, by omega⟩
    obtain ⟨zn, rfl⟩ : ∃ zn : Nat, z = (zn : Int) := ⟨z.toNat, by omega⟩
    have cf := cn_fac ⟨tn, by omega⟩ ⟨zn, by omega⟩ (by show tn + zn ≤ 16; omega)
    simp only at cf
    rw [e1, htn]
    rw [htn] at i2
    have e2 : ((tn : Int) + (zn : Int)).toNat = tn + zn := by omega
    rw [e2]
    rw [Int.toNat_natCast] at i2
    have e3 : PySem.W.mcComb ((tn : Int) + (zn : Int)) (zn : Int) = Cn (tn + zn) zn := by
      unfold Cn
      rw [show ((tn + zn : Nat) : Int) = (tn : Int) + (zn : Int) by omega]
    show 1 ≤ (arrUp (l.take i)).1 * PySem.W.mcComb ((tn : Int) + (zn : Int)) (zn : Int) ∧ _ * PySem.W.mcComb ((tn : Int) + (zn : Int)) (zn : Int) ≤ _
    rw [e3]
    generalize (arrUp (l.take i)).1 = F at i1 i2 ⊢
    generalize Cn (tn + zn) zn = C at cf ⊢
    refine ⟨?_, Int.le_trans ?_ cf.2.1⟩
    · have := Int.mul_le_mul i1 cf.1 (by omega) (by omega)
      omega
    · rw [Int.mul_comm]
      exact Int.mul_le_mul_of_nonneg_left i2 (by omega)
theorem arr_in {l : List Int} (hp : ∀ z ∈ l, 0 ≤ z) (hs : l.sum ≤ 16) : 1 ≤ (arrUp l).1 ∧ (arrUp l).1 ≤ 1000000000000000000 := by
  have h := arr_pre hp hs l.length (Nat.le_refl _)
  rw [List.take_length] at h
  have st := sum_take hp l.length
  rw [List.take_length] at st
  have cf := cn_fac ⟨l.sum.toNat, by omega⟩ ⟨0, by omega⟩ (by show l.sum.toNat + 0 ≤ 16; omega)
  simp only [Nat.add_zero] at cf
  exact ⟨h.1, Int.le_trans h.2 cf.2.2⟩
def GoodZ (n a : Nat) (ss : List Int) : Prop := (∀ z ∈ ss, 0 ≤ z) ∧ 0 ≤ ss.sum ∧ ss.sum ≤ (n : Int) ∧ 1 ≤ ss.length ∧ ss.length ≤ a + 1 ∧ ss.length ≤ 4
def spSizes : Sp := fun vs H Q _ => ∃ (b : Addr) (k n a : Nat) (even : Bool), vs = [.ref b, .int (n : Int), .int (a : Int), .bl even] ∧ BoxAt H b (k + 6) ∧ 1 ≤ n ∧ n ≤ 16 ∧ a ≤ 16 ∧
  ∀ p ss H', H p = none → H' p = some (.lst (ss.map V.int)) → GoodZ n a ss → BoxAt H' b k → But b H H' → Q (.ref p) H'
theorem ok_law_sizes (T : TK K mg) : FnOk P w K mg base CX0 2 T.law_sizes.a T.law_sizes.fd ["box", "n", "a", "even"] spSizes := by
  refine T.law_sizes.F.ok sc_law_sizes (fun vs H Q E h => ?_) (fun cdv A outer s H vs Q E hr h => ?_)
  · obtain ⟨b, k, n, a, even, rfl, _⟩ := h; rfl
  obtain ⟨b, k, n, a, even, rfl, hB, n1, n16, a16, q⟩ := h
  refine ⟨_, (pss_cons (ps_set (i := 4) sc_law_sizes.nd rfl (Or.inr rfl) (pe_op op_add pe_int (pe_call (ok_law_take T.toTA1) (hr.mono (by decide)) rfl T.law_take.m T.law_take.F.kp T.law_take.b .nil pass0 (pa_cons (pv 0) (pa_cons (pe_op op_add (pe_callB (call_min3Nu rfl) (by rfl) T.z_min (by decide +kernel) (pa_cons (pv 2) (pa_cons (pe_op op_sub (pv 1) pe_int) (pa_cons pe_int pa_nil)))) pe_int) pa_nil)))))
    (pss_cons (ps_if (pt_val (pv 3)) (pss_cons (ps_set (i := 5) sc_law_sizes.nd rfl (Or.inr rfl) (pe_op op_add (pv 4) (pe_call (ok_law_take T.toTA1) (hr.mono (by decide)) rfl T.law_take.m T.law_take.F.kp T.law_take.b .nil pass0 (pa_cons (pv 0) (pa_cons (pe_op op_add (pe_callB (call_min2 rfl) (by rfl) T.z_min (by decide +kernel) (pa_cons (pe_op op_sub (pv 1) (pv 4)) (pa_cons pe_int pa_nil))) pe_int) pa_nil)))))
    (pss_one (ps_ret (pe_lc (own := [("k", 10)]) (g := gName 10) (by rfl) sc_law_sizes.nd (pi_range1 rfl T.z_range (pa_cons (pv 4) pa_nil)) (blkOk_by (own := [("k", 10)]) (N := ["box", "n", "a", "even", "rounds", "used", "found", "left", "at", "size", "k"]) (sc := defScope s_law_sizes) (by decide +kernel)) (fun _ _ _ _ _ => (pg_name (i := 10) sc_law_sizes.nd rfl (Or.inl rfl))) (fun _ _ _ _ _ => pts_nil) (fun _ _ _ _ _ => (pe_op op_add (pe_op op_fdiv (pv 5) (pv 4)) (pe_callTy call_int1 (by rfl) T.z_int (by decide +kernel) (pa_cons (pe_cmpR op_lt (pv 10) (pe_op op_mod (pe_callTy call_int1 (by rfl) T.z_int (by decide +kernel) (pa_cons (pv 5) pa_nil)) (pv 4)) (nomark _)) pa_nil)))))))) pss_nil)
    (pss_cons (ps_par (i := 6) (j := 7) (by rfl) sc_law_sizes.nd rfl rfl (by decide) rfl rfl (pa_cons (pe_lst pa_nil) (pa_cons (pv 1) pa_nil)) (by rfl))
    (pss_cons (ps_for PassesOwn.never rfl (pi_range1 rfl T.z_range (pa_cons (pv 4) pa_nil)) (pg_name (i := 8) sc_law_sizes.nd rfl (Or.inl rfl)) (pss_cons (ps_set (i := 9) sc_law_sizes.nd rfl (Or.inl rfl) (pe_op op_add pe_int (pe_call (ok_law_take T.toTA1) (hr.mono (by decide)) rfl T.law_take.m T.law_take.F.kp T.law_take.b .nil pass0 (pa_cons (pv 0) (pa_cons (pe_callB (call_min2 rfl) (by rfl) T.z_min (by decide +kernel) (pa_cons pe_int (pa_cons (pe_op op_sub (pv 7) (pe_op op_sub (pe_op op_sub (pv 4) (pv 8)) pe_int)) pa_nil))) pa_nil)))))
    (pss_cons (ps_expr (pe_bm PySem.F.plainAttrs_list PySem.F.slot_list_append PySem.F.type_list_append mt_append (pv 6) (pa_cons (pv 9) pa_nil)))
    (pss_one (ps_set (i := 7) sc_law_sizes.nd rfl (Or.inl rfl) (pe_op op_sub (pv 7) (pv 9)))))))
    (pss_one (ps_ret (pv 6))))))), ?_⟩
  obtain ⟨M, hM, hMa, hMn, hM3⟩ : ∃ M : Nat, m3 (a : Int) ((n : Int) - 1) 3 = (M : Int) ∧ M ≤ a ∧ M + 1 ≤ n ∧ M ≤ 3 := by
    refine ⟨(m3 (a : Int) ((n : Int) - 1) 3).toNat, ?_⟩
    unfold m3
    split <;> split <;> omega
  refine ⟨_, rfl, _, rfl, _, rfl, _, _, rfl, rfl, .int (a : Int), .int ((n : Int) - 1), .int 3, _, rfl, nuMin3_int _ _ _, _, _, rfl, rfl, b, (M : Int) + 1, k + 5, by rw [hM]; rfl, by omega, by omega, hB, fun r H1 r0 r1 B1 k1 => ⟨_, _, rfl, rfl, ?_⟩⟩
  obtain ⟨R, hR, hR1, hRa, hRn, hR4⟩ : ∃ R : Nat, 1 + r = (R : Int) ∧ 1 ≤ R ∧ R ≤ a + 1 ∧ R ≤ n ∧ R ≤ 4 := ⟨(1 + r).toNat, by omega, by omega, by omega, by omega, by omega⟩
  refine gnv (show V.int (1 + r) = .int (R : Int) by rw [hR]) ?_
  cases even with
  | true =>
    refine ⟨_, rfl, _, rfl, iteT ?_⟩
    obtain ⟨U, hU, hUn⟩ : ∃ U : Nat, (if (4 : Int) < (n : Int) - (R : Int) then 4 else (n : Int) - (R : Int)) = (U : Int) ∧ R + U ≤ n := ⟨(if (4 : Int) < (n : Int) - (R : Int) then 4 else (n : Int) - (R : Int)).toNat, by split <;> omega, by split <;> omega⟩
    refine ⟨_, rfl, _, rfl, _, rfl, _, rfl, _, _, rfl, rfl, _, _, rfl, _, _, rfl, rfl, b, (U : Int) + 1, k + 4, by rw [hU]; rfl, by omega, by omega, B1, fun u H2 u0 u1 B2 k2 => ⟨_, _, rfl, rfl, ?_⟩⟩
    obtain ⟨S, hS, hS1, hSn⟩ : ∃ S : Nat, (R : Int) + u = (S : Int) ∧ R ≤ S ∧ S ≤ n := ⟨((R : Int) + u).toNat, by omega, by omega, by omega⟩
    refine gnv (show V.int ((R : Int) + u) = .int (S : Int) by rw [hS]) ?_
    have c1 := el_lcR1 (σ := [some (.ref b), some (.int (n : Int)), some (.int (a : Int)), some (.bl true), some (.int (R : Int)), some (.int (S : Int)), none, none, none, none, none]) (H := H2) (ta := tCons (tVar 4) tNil) (t := tYes) (te := tOp (rI0 fun i j => .int (i + j)) (tOp (rI CDiv fun i j => .int (i / j)) (tVar 5) (tVar 4)) (tCB (fun xs H Q => (∃ i, xs = [V.int i] ∧ Q (V.int i) H) ∨ ∃ k, xs = [V.bl k] ∧ Q (V.int (if k = true then 1 else 0)) H) (tCons (tOp (rI0 fun i j => .bl (decide (i < j))) (tVar 10) (tOp (rI (fun _ j => 0 < j) fun i j => .int (i % j)) (tCB (fun xs H Q => (∃ i, xs = [V.int i] ∧ Q (V.int i) H) ∨ ∃ k, xs = [V.bl k] ∧ Q (V.int (if k = true then 1 else 0)) H) (tCons (tVar 5) tNil)) (tVar 4))) tNil))) (j := 10) (vs := [10]) (n := (R : Int)) (fun _ => true) (fun k => .int ((S : Int) / (R : Int) + (if decide ((k : Int) < (S : Int) % (R : Int)) = true then 1 else 0))) (ea_cons (ev_var rfl) ea_nil) ⟨by omega, by omega⟩ (fun _ => rfl) (fun i H1 _ _ H2 _ Q k => k H2 (Ex.refl _))
        (fun k H1 e1 hk _ H2 e2 Q2 k2 => ⟨_, rfl, _, rfl, _, _, rfl, rfl, ⟨by omega, by omega⟩, _, rfl, _, rfl, .inl ⟨_, rfl, _, rfl, _, _, rfl, rfl, by omega, _, _, rfl, rfl, .inr ⟨_, rfl, _, _, rfl, rfl, k2 H2 (Ex.refl _)⟩⟩⟩)
    have ee : given (R : Int).toNat (fun _ => true) (fun k : Nat => V.int ((S : Int) / (R : Int) + (if decide ((k : Int) < (S : Int) % (R : Int)) = true then 1 else 0))) = (evenOf (S : Int) (R : Int)).map V.int := by
      rw [given_all, ← even_is (show 0 ≤ (S : Int) by omega) (show 1 ≤ (R : Int) by omega), List.map_map]
      rfl
    rw [ee] at c1
    have es := even_sum (show 0 ≤ (S : Int) by omega) (show 1 ≤ (R : Int) by omega)
    rw [Int.toNat_natCast] at es
    refine c1 H2 (Ex.refl _) _ fun p H3 hp e3 h3 => ?_
    exact q p _ H3 (but_fresh (k1.trans k2) hB B2 hp) h3 ⟨es.2.2, by rw [es.2.1]; omega, by rw [es.2.1]; omega, by rw [es.1]; omega, by rw [es.1]; omega, by rw [es.1]; omega⟩ ((B2.ex e3).le (by omega)) ((k1.trans k2).trans (But.of e3))
  | false =>
    refine ⟨_, rfl, _, rfl, iteF ?_⟩
    refine ⟨Nat.zero_le _, fun F hF => ⟨_, rfl, _, _, rfl, ?_⟩⟩
    have Fb : F ≠ b := B1.ne hF
    have F0 : H F = none := but_fresh k1 hB B1 hF
    refine ⟨_, rfl, (R : Int), rfl, by omega, by omega, for_range (lo := 0) (n := (R : Int).toNat) (fun i σ H' => BoxAt H' b (k + (5 - i)) ∧ But b H H' ∧ ∃ (zs : List Int) (v8 v9 : Option V), H' F = some (.lst (zs.map V.int)) ∧ zs.length = i ∧ (∀ z ∈ zs, 0 ≤ z) ∧ 0 ≤ zs.sum ∧ zs.sum + ((R : Int) - (i : Int)) ≤ (n : Int) ∧ σ = [some (.ref b), some (.int (n : Int)), some (.int (a : Int)), some (.bl false), some (.int (R : Int)), none, some (.ref F), some (.int ((n : Int) - zs.sum)), v8, v9, none])
      ⟨B1.ex (Ex.new hF), k1.trans (But.of (Ex.new hF)), [], _, _, upd_same, rfl, (fun z hz => by cases hz), Int.le_refl _, (by show (0 : Int) + _ ≤ _; omega), by show _ = [_, _, _, _, _, _, _, some (V.int ((n : Int) - 0)), _, _, _]; rw [Int.sub_zero]; rfl⟩ ?_ ?_⟩
    · rintro i σ H' hi ⟨B, kb, zs, v8, v9, hFF, hl, hz, hs0, hs, rfl⟩
      rw [Int.zero_add]
      obtain ⟨Mi, hMi, hMi1, hMi2⟩ : ∃ Mi : Int, (if (n : Int) - zs.sum - ((R : Int) - (i : Int) - 1) < 3 then (n : Int) - zs.sum - ((R : Int) - (i : Int) - 1) else 3) = Mi ∧ 1 ≤ Mi ∧ Mi ≤ (n : Int) - zs.sum - ((R : Int) - (i : Int) - 1) ∧ Mi ≤ 3 := ⟨_, rfl, by split <;> omega, by split <;> omega, by split <;> omega⟩
      refine ⟨_, rfl, _, rfl, _, rfl, _, rfl, _, _, rfl, rfl, _, _, rfl, rfl, _, _, rfl, rfl, _, _, rfl, b, Mi, k + (5 - (i + 1)), by rw [hMi]; rfl, by omega, by omega, B.le (by omega), fun u H2 u0 u1 B2 k2 => ⟨_, _, rfl, rfl, ?_⟩⟩
      have hF2 := k2 _ _ Fb hFF
      refine ⟨_, rfl, .inl ⟨rfl, _, SqL.of hF2⟩, _, rfl, F, _, _, rfl, rfl, hF2, small1000 (by rw [List.length_map]; omega), ?_⟩
      refine ⟨_, rfl, _, rfl, _, _, rfl, rfl, box_mut B2 Fb, butMut (kb.trans k2) F0, zs ++ [1 + u], some (.int (i : Int)), some (.int (1 + u)), by rw [upd_same, List.map_append]; rfl, by rw [List.length_append, hl]; rfl, fun z hz2 => ?_, by rw [List.sum_append, List.sum_singleton]; omega, by rw [List.sum_append, List.sum_singleton]; omega, ?_⟩
      · rcases List.mem_append.mp hz2 with h | h
        · exact hz z h
        · rw [List.mem_singleton] at h; omega
      · rw [List.sum_append, List.sum_singleton, ← Int.sub_sub]
        rfl
    · rintro σ H' ⟨B, kb, zs, v8, v9, hFF, hl, hz, hs0, hs, rfl⟩
      rw [Int.toNat_natCast] at hl
      exact ⟨_, rfl, q F zs H' F0 hFF ⟨hz, hs0, by omega, by omega, by omega, by omega⟩ (B.le (by omega)) kb⟩
end
end L2.U


set_option Elab.async false
set_option linter.all false
set_option maxRecDepth 100000
set_option maxHeartbeats 4000000
namespace L2.U
open PySem PySem.Spec PyProof.Rows Evl

section
variable {P : Program} {w : World} {K : PySem.W.Frag} {mg : Str → Option Value} {base : Heap}
def GoodN (L : Nat) (ns : List Int) : Prop := ns.length ≤ L ∧ ∀ z ∈ ns, 1 ≤ z ∧ z ≤ 1000000000000000000
def spPlanned : Sp := fun vs H Q _ => ∃ (b : Addr) (k own other : Nat) (many : Int), vs = [.ref b, .int (own : Int), .int (other : Int), .int many] ∧ BoxAt H b (k + 140) ∧ own ≤ 16 ∧ other ≤ 16 ∧ 0 ≤ many ∧ many ≤ 16 ∧
  ∀ p ns H', H p = none → H' p = some (.lst (ns.map V.int)) → GoodN many.toNat ns → BoxAt H' b k → But b H H' → Q (.ref p) H'
theorem five_le : 5 ≤ sizeLine := by decide
theorem ok_law_planned (T : TK K mg) : FnOk P w K mg base CX0 3 T.law_planned.a T.law_planned.fd ["box", "own", "other", "many"] spPlanned := by
  refine T.law_planned.F.ok sc_law_planned (fun vs H Q E h => ?_) (fun cdv A outer s H vs Q E hr h => ?_)
  · obtain ⟨b, k, own, other, many, rfl, _⟩ := h; rfl
  obtain ⟨b, k, own, other, many, rfl, hB, hown, hoth, m0, m16, q⟩ := h
  refine ⟨_, (pss_cons (ps_par3 (i := 4) (j := 5) (l := 6) (by rfl) sc_law_planned.nd rfl rfl rfl (by decide) (by decide) (by decide) rfl rfl rfl (pa_cons (pv 1) (pa_cons (pv 2) (pa_cons (pe_lst pa_nil) pa_nil))) (by rfl))
    (pss_cons (ps_par (i := 7) (j := 8) (by rfl) sc_law_planned.nd rfl rfl (by decide) rfl rfl (pa_cons (pe_cmpR op_eq (pe_call (ok_law_take T.toTA1) (hr.mono (by decide)) rfl T.law_take.m T.law_take.F.kp T.law_take.b .nil pass0 (pa_cons (pv 0) (pa_cons pe_int pa_nil))) pe_int (nomark _)) (pa_cons (pe_call (ok_law_take T.toTA1) (hr.mono (by decide)) rfl T.law_take.m T.law_take.F.kp T.law_take.b .nil pass0 (pa_cons (pv 0) (pa_cons pe_int pa_nil))) pa_nil)) (by rfl))
    (pss_cons (ps_for PassesOwn.never rfl (pi_range1 rfl T.z_range (pa_cons (pv 3) pa_nil)) (pg_name (i := 9) sc_law_planned.nd rfl (Or.inl rfl)) (pss_one (ps_if (pt_cmpR op_gt (pv 4) pe_int (nomark _)) (pss_cut (ps_set (i := 10) sc_law_planned.nd rfl (Or.inl rfl) (pe_ifExp (PW.pt (pw_or (pt_cmpR op_lt (pv 3) pe_int (nomark _)) (pw_or1 (pt_cmpR op_eq (pe_call (ok_law_take T.toTA1) (hr.mono (by decide)) rfl T.law_take.m T.law_take.F.kp T.law_take.b .nil pass0 (pa_cons (pv 0) (pa_cons pe_int pa_nil))) pe_int (nomark _))))) (pe_call (ok_law_sizes T) (hr.mono (by decide)) rfl T.law_sizes.m T.law_sizes.F.kp T.law_sizes.b .nil pass0 (pa_cons (pv 0) (pa_cons (pv 4) (pa_cons (pv 5) (pa_cons (pv 7) pa_nil))))) (pe_lst (pa_cons pe_int pa_nil))))
    (pss_cons (ps_par (i := 11) (j := 12) (by rfl) sc_law_planned.nd rfl rfl (by decide) rfl rfl (pa_cons (pe_op op_sub (pv 4) (pe_callB (ksum K rfl) (by rfl) T.z_sum (by decide +kernel) (pa_cons (pv 10) pa_nil))) (pa_cons (pe_call (ok_law_take T.toTA1) (hr.mono (by decide)) rfl T.law_take.m T.law_take.F.kp T.law_take.b .nil pass0 (pa_cons (pv 0) (pa_cons pe_int pa_nil))) pa_nil)) (by rfl))
    (pss_cons (ps_set (i := 13) sc_law_planned.nd rfl (Or.inl rfl) (pe_call (ok_law_arranged T) (hr.mono (by decide)) rfl T.law_arranged.m T.law_arranged.F.kp T.law_arranged.b .nil pass0 (pa_cons (pe_op op_cat (pv 10) (pe_lst (pa_cons (pv 11) pa_nil))) pa_nil)))
    (pss_cons (ps_set (i := 14) sc_law_planned.nd rfl (Or.inl rfl) (pe_ix (kixl K) (pe_lst (pa_cons (pv 13) (pa_cons (pv 13) (pa_cons (pv 13) (pa_cons (pe_op op_add pe_int (pe_op op_fdiv (pv 13) pe_int)) (pa_cons pe_int pa_nil)))))) (pv 12) (fun _ _ => rfl)))
    (pss_cons (ps_expr (pe_bm PySem.F.plainAttrs_list PySem.F.slot_list_append PySem.F.type_list_append mt_append (pv 6) (pa_cons (pe_ifExp (pt_cmpR op_eq (pv 8) pe_int (nomark _)) (pv 14) (pv 13)) pa_nil)))
    (pss_one (ps_par (i := 4) (j := 5) (by rfl) sc_law_planned.nd rfl rfl (by decide) rfl rfl (pa_cons (pe_op op_add (pe_op op_sub (pv 5) (pe_callB (klen K) (by rfl) T.z_len (by decide +kernel) (pa_cons (pv 10) pa_nil))) pe_int) (pa_cons (pv 11) pa_nil)) (by rfl)))))))) pss_nil)))
    (pss_one (ps_ret (pv 6)))))), ?_⟩
  refine ⟨_, rfl, _, rfl, Nat.zero_le _, fun F hF => ⟨_, _, _, rfl, ?_⟩⟩
  have Fb : F ≠ b := hB.ne hF
  refine ⟨_, rfl, b, 2, k + 139, rfl, by decide, by decide, hB.ex (Ex.new hF), fun ev H1 _ _ B1 k1 => ⟨rfl, ?_⟩⟩
  refine ⟨_, rfl, b, 3, k + 138, rfl, by decide, by decide, B1, fun low H2 _ _ B2 k2 => ⟨_, _, rfl, ?_⟩⟩
  have kb2 := ((But.of (b := b) (Ex.new (o := .lst []) hF)).trans k1).trans k2
  have hF2 := k2 _ _ Fb (k1 _ _ Fb (upd_same (H := H) (a := F) (o := .lst [])))
  refine ⟨_, rfl, many, rfl, by omega, by omega, for_range (lo := 0) (n := many.toNat) (fun i σ H' => BoxAt H' b (k + 8 * (17 - i)) ∧ But b H H' ∧ ∃ (ns : List Int) (n a : Nat) (v9 v10 v11 v12 v13 v14 : Option V), H' F = some (.lst (ns.map V.int)) ∧ ns.length ≤ i ∧ (∀ z ∈ ns, 1 ≤ z ∧ z ≤ 1000000000000000000) ∧ n ≤ 16 ∧ a ≤ 16 ∧ σ = [some (.ref b), some (.int (own : Int)), some (.int (other : Int)), some (.int many), some (.int (n : Int)), some (.int (a : Int)), some (.ref F), some (.bl (decide (V.int ev = V.int 0))), some (.int low), v9, v10, v11, v12, v13, v14])
    ⟨B2.le (by omega), kb2, [], own, other, _, _, _, _, _, _, hF2, Nat.le_refl _, (fun z hz => by cases hz), hown, hoth, rfl⟩ ?_ ?_⟩
  · rintro i σ H' hi ⟨B, kb, ns, n, a, v9, v10, v11, v12, v13, v14, hFF, hl, hz, hn, ha, rfl⟩
    rw [Int.zero_add]
    refine ⟨_, rfl, _, _, rfl, rfl, _, rfl, ite2 (fun c => ?_) (fun c => ⟨B.le (by omega), kb, ns, n, a, _, _, _, _, _, _, hFF, by omega, hz, hn, ha, rfl⟩)⟩
    have c : 0 < (n : Int) := of_decide_eq_true c
    refine ⟨fun σ G => BoxAt G b (k + 8 * (17 - i) - 7) ∧ But b H G ∧ ∃ (p : Addr) (ss : List Int), G F = some (.lst (ns.map V.int)) ∧ G p = some (.lst (ss.map V.int)) ∧ p ≠ b ∧ p ≠ F ∧ GoodZ n a ss ∧ σ = [some (.ref b), some (.int (own : Int)), some (.int (other : Int)), some (.int many), some (.int (n : Int)), some (.int (a : Int)), some (.ref F), some (.bl (decide (V.int ev = V.int 0))), some (.int low), some (.int (i : Int)), some (.ref p), v11, v12, v13, v14], ?_, ?_⟩
    · have one : ∀ (G : Hp) (kb' : But b H' G) (B' : BoxAt G b (k + 8 * (17 - i) - 1)), ∀ p, G p = none → (fun σ G => BoxAt G b (k + 8 * (17 - i) - 7) ∧ But b H G ∧ ∃ (p : Addr) (ss : List Int), G F = some (.lst (ns.map V.int)) ∧ G p = some (.lst (ss.map V.int)) ∧ p ≠ b ∧ p ≠ F ∧ GoodZ n a ss ∧ σ = [some (.ref b), some (.int (own : Int)), some (.int (other : Int)), some (.int many), some (.int (n : Int)), some (.int (a : Int)), some (.ref F), some (.bl (decide (V.int ev = V.int 0))), some (.int low), some (.int (i : Int)), some (.ref p), v11, v12, v13, v14]) [some (.ref b), some (.int (own : Int)), some (.int (other : Int)), some (.int many), some (.int (n : Int)), some (.int (a : Int)), some (.ref F), some (.bl (decide (V.int ev = V.int 0))), some (.int low), some (.int (i : Int)), some (.ref p), v11, v12, v13, v14] (upd G p (.lst [.int 1])) := fun G kb' B' p hp =>
        ⟨(B'.ex (Ex.new hp)).le (by omega), (kb.trans kb').trans (But.of (Ex.new hp)), p, [1], (Ex.new hp) _ _ (kb' _ _ Fb hFF), upd_same, B'.ne hp, ne_of_none' (kb' _ _ Fb hFF) hp, ⟨fun z hz => by simp at hz; omega, by decide, by show (1 : Int) ≤ _; omega, by decide, by show 1 ≤ a + 1; omega, by decide⟩, rfl⟩
      have two : ∀ (G : Hp) (kb' : But b H' G) (B' : BoxAt G b (k + 8 * (17 - i) - 1)) (p : Addr) (ss : List Int) (G' : Hp), G p = none → G' p = some (.lst (ss.map V.int)) → GoodZ n a ss → BoxAt G' b (k + 8 * (17 - i) - 7) → But b G G' → (fun σ G => BoxAt G b (k + 8 * (17 - i) - 7) ∧ But b H G ∧ ∃ (p : Addr) (ss : List Int), G F = some (.lst (ns.map V.int)) ∧ G p = some (.lst (ss.map V.int)) ∧ p ≠ b ∧ p ≠ F ∧ GoodZ n a ss ∧ σ = [some (.ref b), some (.int (own : Int)), some (.int (other : Int)), some (.int many), some (.int (n : Int)), some (.int (a : Int)), some (.ref F), some (.bl (decide (V.int ev = V.int 0))), some (.int low), some (.int (i : Int)), some (.ref p), v11, v12, v13, v14]) [some (.ref b), some (.int (own : Int)), some (.int (other : Int)), some (.int many), some (.int (n : Int)), some (.int (a : Int)), some (.ref F), some (.bl (decide (V.int ev = V.int 0))), some (.int low), some (.int (i : Int)), some (.ref p), v11, v12, v13, v14] G' := fun G kb' B' p ss G' hp hpp g Bg kg =>
        ⟨Bg, (kb.trans kb').trans kg, p, ss, kg _ _ Fb (kb' _ _ Fb hFF), hpp, B'.ne hp, ne_of_none' (kb' _ _ Fb hFF) hp, g, rfl⟩
      have hi17 : i < 17 := by omega
      refine ⟨_, rfl, _, _, rfl, rfl, _, rfl, ite2 (fun _ => iteT ?_) (fun _ => ?_)⟩
      · exact ⟨_, rfl, _, rfl, _, rfl, _, rfl, b, k + 8 * (17 - i) - 7, n, a, _, rfl, B.le (by omega), by omega, hn, ha, fun p ss G hp hpp g Bg kg => two H' (But.of (Ex.refl _)) (B.le (by omega)) p ss G hp hpp g Bg kg⟩
      · refine ⟨_, rfl, b, 4, k + 8 * (17 - i) - 1, rfl, by decide, by decide, B.le (by omega), fun r H3 _ _ B3 k3 => ⟨rfl, _, rfl, ite2 (fun _ => ?_) (fun _ => ⟨one_le, fun p hp => one H3 k3 B3 p hp⟩)⟩⟩
        exact ⟨_, rfl, _, rfl, _, rfl, _, rfl, b, k + 8 * (17 - i) - 7, n, a, _, rfl, B3.le (by omega), by omega, hn, ha, fun p ss G hp hpp g Bg kg => two H3 k3 B3 p ss G hp hpp g Bg kg⟩
    · rintro σ G ⟨Bg, kbg, p, ss, hFG, hpG, pb, pF, g, rfl⟩
      obtain ⟨g1, g2, g3, g4, g5, g6⟩ := g
      have hi17 : i < 17 := by omega
      refine ⟨_, rfl, _, rfl, p, ss, rfl, .inl (SqL.of hpG), _, _, rfl, rfl, _, rfl, b, 5, k + 8 * (17 - i) - 8, rfl, by decide, by decide, Bg.le (by omega), fun way H3 w0 w1 B3 k3 => ⟨_, _, rfl, ?_⟩⟩
      have kb3 := kbg.trans k3
      have hp3 := k3 _ _ pb hpG
      have hF3 := k3 _ _ Fb hFG
      obtain ⟨L, hL, hL16⟩ : ∃ L : Nat, (n : Int) - ss.sum = (L : Int) ∧ L ≤ 16 := ⟨((n : Int) - ss.sum).toNat, by omega, by omega⟩
      refine ⟨_, rfl, _, rfl, one_le, fun s hs => ⟨p, s, _, _, rfl, rfl, (Ex.new hs) _ _ hp3, upd_same, Nat.le_of_lt (small1000 (by rw [List.length_map]; show _ + 1 ≤ 1000; omega)), fun u hu => ?_⟩⟩
      have e4 := (Ex.new (o := .lst [.int ((n : Int) - ss.sum)]) hs).trans (Ex.new (o := .lst (ss.map V.int ++ [.int ((n : Int) - ss.sum)])) hu)
      have posl : ∀ z ∈ ss ++ [(n : Int) - ss.sum], 0 ≤ z := fun z hz2 => by
        rcases List.mem_append.mp hz2 with h | h
        · exact g1 z h
        · rw [List.mem_singleton] at h; omega
      have suml : (ss ++ [(n : Int) - ss.sum]).sum ≤ 16 := by rw [List.sum_append, List.sum_singleton]; omega
      refine ⟨u, ss ++ [(n : Int) - ss.sum], rfl, SqL.of (by rw [upd_same, List.map_append]; rfl), posl, suml, fun H5 e5 => ?_⟩
      have ai := arr_in posl suml
      generalize (arrUp (ss ++ [(n : Int) - ss.sum])).1 = X at ai ⊢
      have e35 := e4.trans e5
      have hF5 := e35 _ _ hF3
      refine ⟨_, rfl, _, rfl, _, rfl, _, rfl, _, _, rfl, rfl, ⟨by omega, by omega⟩, _, _, rfl, rfl, five_le, fun l hl5 => ?_⟩
      have e6 := Ex.new (o := .lst [.int X, .int X, .int X, .int (1 + X / 2), .int 1]) hl5
      obtain ⟨v, hv, hv2⟩ := at_get (xs := [X, X, X, 1 + X / 2, 1].map V.int) w0 (by show way < 5; omega)
      obtain ⟨y, hy, rfl⟩ := ints_get hv2
      have hym := List.mem_of_getElem? hy
      have hyr : 1 ≤ y ∧ y ≤ 1000000000000000000 := by
        simp only [List.mem_cons, List.not_mem_nil, or_false] at hym
        omega
      refine ⟨_, rfl, l, _, way, .int y, rfl, rfl, SqL.of upd_same, hv, ?_⟩
      have B6 := (B3.ex e35).ex e6
      have hF6 := e6 _ _ hF5
      have kb6 := (kb3.trans (But.of e35)).trans (But.of e6)
      have hp6 := e6 _ _ (e35 _ _ hp3)
      generalize upd H5 l _ = H6 at e6 B6 hF6 kb6 hp6 ⊢
      have fin : ∀ yy, 1 ≤ yy → yy ≤ 1000000000000000000 → BoxAt (upd H6 F (.lst (ns.map V.int ++ [.int yy]))) b (k + 8 * (17 - (i + 1))) ∧ But b H (upd H6 F (.lst (ns.map V.int ++ [.int yy]))) ∧ ∃ (ns' : List Int) (n' a' : Nat) (v9 v10 v11 v12 v13 v14 : Option V), upd H6 F (.lst (ns.map V.int ++ [.int yy])) F = some (.lst (ns'.map V.int)) ∧ ns'.length ≤ i + 1 ∧ (∀ z ∈ ns', 1 ≤ z ∧ z ≤ 1000000000000000000) ∧ n' ≤ 16 ∧ a' ≤ 16 ∧ [some (V.ref b), some (.int (own : Int)), some (.int (other : Int)), some (.int many), some (.int ((a : Int) - (ss.length : Int) + 1)), some (.int ((n : Int) - ss.sum)), some (.ref F), some (.bl (decide (V.int ev = V.int 0))), some (.int low), some (.int (i : Int)), some (.ref p), some (.int ((n : Int) - ss.sum)), some (.int way), some (.int X), some (.int y)] = [some (V.ref b), some (.int (own : Int)), some (.int (other : Int)), some (.int many), some (.int (n' : Int)), some (.int (a' : Int)), some (.ref F), some (.bl (decide (V.int ev = V.int 0))), some (.int low), v9, v10, v11, v12, v13, v14] := fun yy y1 y2 =>
        ⟨(box_mut B6 Fb).le (by omega), butMut kb6 hF, ns ++ [yy], a + 1 - ss.length, L, _, _, _, _, _, _, by rw [upd_same, List.map_append]; rfl, by rw [List.length_append]; show _ + 1 ≤ _; omega, fun z hz2 => by
          rcases List.mem_append.mp hz2 with h | h
          · exact hz z h
          · rw [List.mem_singleton] at h; omega, by omega, hL16, by rw [show ((a + 1 - ss.length : Nat) : Int) = (a : Int) - (ss.length : Int) + 1 by omega, ← hL]⟩
      refine ⟨_, rfl, .inl ⟨rfl, _, SqL.of hF6⟩, _, rfl, rfl, _, rfl, ite2 (fun _ => ?_) (fun _ => ?_)⟩
      · exact ⟨_, rfl, F, _, _, rfl, rfl, hF6, small1000 (by rw [List.length_map]; omega), _, rfl, _, rfl, _, ss.length, rfl, .inl ⟨_, SqL.of (by rw [upd_ne pF]; exact hp6), (List.length_map ..).symm⟩, _, _, rfl, rfl, _, _, rfl, rfl, _, rfl, _, _, rfl, fin y hyr.1 hyr.2⟩
      · exact ⟨_, rfl, F, _, _, rfl, rfl, hF6, small1000 (by rw [List.length_map]; omega), _, rfl, _, rfl, _, ss.length, rfl, .inl ⟨_, SqL.of (by rw [upd_ne pF]; exact hp6), (List.length_map ..).symm⟩, _, _, rfl, rfl, _, _, rfl, rfl, _, rfl, _, _, rfl, fin X ai.1 ai.2⟩
  · rintro σ H' ⟨B, kb, ns, n, a, v9, v10, v11, v12, v13, v14, hFF, hl, hz, hn, ha, rfl⟩
    exact ⟨_, rfl, q F ns H' hF hFF ⟨hl, hz⟩ (B.le (by omega)) kb⟩
end
end L2.U


set_option Elab.async false
set_option linter.all false
set_option maxRecDepth 100000
set_option maxHeartbeats 4000000
namespace L2.U
open PySem PySem.Spec PyProof.Rows Evl

section
variable {P : Program} {w : World} {K : PySem.W.Frag} {mg : Str → Option Value} {base : Heap}
theorem ints_mid {ns : List Int} {v : Int} {i j : Nat} (hj : j ≤ ns.length) : cutV (ns.map V.int) none (some (i : Int)) ++ [V.int v] ++ cutV (ns.map V.int) (some (j : Int)) none = (ns.take i ++ [v] ++ ns.drop j).map V.int := by
  rw [cutV_take, cutV_drop (by rw [List.length_map]; exact hj), List.map_append, List.map_append, List.map_take, List.map_drop]
  rfl
theorem mid_good {ns : List Int} {v : Int} {i j : Nat} (h : ∀ z ∈ ns, 1 ≤ z ∧ z ≤ 1000000000000000000) (hv : 1 ≤ v ∧ v ≤ 100000000000000000000000000000000000000000000000000) (hl : i + 1 + (ns.length - j) ≤ 16) : GoodR (ns.take i ++ [v] ++ ns.drop j) := by
  refine ⟨by rw [List.length_append, List.length_append, List.length_take, List.length_drop, List.length_singleton]; omega, fun z hz => ?_⟩
  rcases List.mem_append.mp hz with hz | hz
  · rcases List.mem_append.mp hz with hz | hz
    · have := h z (List.mem_of_mem_take hz); omega
    · rw [List.mem_singleton] at hz; rw [hz]; exact hv
  · have := h z (List.mem_of_mem_drop hz); omega
def spChanged : Sp := fun vs H Q _ => ∃ (b a : Addr) (k : Nat) (ns : List Int) (sp : Int), vs = [.ref b, .ref a, .int sp] ∧ BoxAt H b (k + 1) ∧ H a = some (.lst (ns.map V.int)) ∧ a ≠ b ∧ GoodN 15 ns ∧ 0 ≤ sp ∧ sp ≤ 5 ∧
  ∀ p ms H', H p = none → H' p = some (.lst (ms.map V.int)) → GoodR ms → BoxAt H' b k → But b H H' → Q (.ref p) H'
theorem ok_law_changed (T : TK K mg) : FnOk P w K mg base CX0 2 T.law_changed.a T.law_changed.fd ["box", "row", "spoil"] spChanged := by
  refine T.law_changed.F.ok sc_law_changed (fun vs H Q E h => ?_) (fun cdv A outer s H vs Q E hr h => ?_)
  · obtain ⟨b, a, k, ns, sp, rfl, _⟩ := h; rfl
  obtain ⟨b, a, k, ns, sp, rfl, hB, ha, ab, ⟨g1, g2⟩, s0, s5, q⟩ := h
  refine ⟨_, (pss_cons (ps_set (i := 3) sc_law_changed.nd rfl (Or.inl rfl) (pe_call (ok_law_take T.toTA1) (hr.mono (by decide)) rfl T.law_take.m T.law_take.F.kp T.law_take.b .nil pass0 (pa_cons (pv 0) (pa_cons (pe_op op_add (pe_callB (klen K) (by rfl) T.z_len (by decide +kernel) (pa_cons (pv 1) pa_nil)) pe_int) pa_nil))))
    (pss_cons (ps_if (PW.pt (pw_or (pt_cmpR op_eq (pv 3) (pe_callB (klen K) (by rfl) T.z_len (by decide +kernel) (pa_cons (pv 1) pa_nil)) (nomark _)) (pw_or1 (pt_cmpR op_eq (pv 2) pe_int (nomark _))))) (pss_one (ps_ret (pe_op op_cat (pe_op op_cat (pe_slice (kslL K) (pv 1) po_none (po_some (pv 3))) (pe_lst (pa_cons (pe_ix (kixl K) (pe_lst (pa_cons pe_int (pa_cons pe_int (pa_cons pe_int (pa_cons pe_int (pa_cons (pe_op op_pow pe_int pe_int) (pa_cons pe_int pa_nil))))))) (pv 2) (fun _ _ => rfl)) pa_nil))) (pe_slice (kslL K) (pv 1) (po_some (pv 3)) po_none)))) pss_nil)
    (pss_cons (ps_set (i := 4) sc_law_changed.nd rfl (Or.inl rfl) (pe_ix (kixl K) (pv 1) (pv 3) (fun _ _ => rfl)))
    (pss_one (ps_ret (pe_op op_cat (pe_op op_cat (pe_slice (kslL K) (pv 1) po_none (po_some (pv 3))) (pe_lst (pa_cons (pe_ix (kixl K) (pe_lst (pa_cons (pe_op op_add (pv 4) pe_int) (pa_cons (pe_callB (call_max2 rfl) (by rfl) T.z_max (by decide +kernel) (pa_cons pe_int (pa_cons (pe_op op_sub (pv 4) pe_int) pa_nil))) (pa_cons (pe_op op_mul pe_int (pv 4)) (pa_cons pe_int (pa_cons (pe_op op_pow pe_int pe_int) (pa_cons pe_int pa_nil))))))) (pv 2) (fun _ _ => rfl)) pa_nil))) (pe_slice (kslL K) (pv 1) (po_some (pe_op op_add (pv 3) pe_int)) po_none))))))), ?_⟩
  refine ⟨_, rfl, _, rfl, _, ns.length, rfl, .inl ⟨_, SqL.of ha, (List.length_map ..).symm⟩, _, _, rfl, rfl, b, (ns.length : Int) + 1, k, rfl, by omega, by omega, hB, fun at_ H1 a0 a1 B1 k1 => ?_⟩
  have ha1 := k1 _ _ ab ha
  obtain ⟨A, hA, hAl⟩ : ∃ A : Nat, at_ = (A : Int) ∧ A ≤ ns.length := ⟨at_.toNat, by omega, by omega⟩
  subst hA
  have out : ∀ {te : TE} {σ : L2.St} {j : Nat} {v : Int}, EvL te σ H1 ((ns.take A ++ [v] ++ ns.drop j).map V.int) → (1 ≤ v ∧ v ≤ 100000000000000000000000000000000000000000000000000) → A + 1 + (ns.length - j) ≤ 16 → ∀ H0, Ex H1 H0 → te σ H0 Q := fun h hv hl H0 e0 =>
    h H0 e0 _ fun p H2 hp e2 h2 => q p _ H2 (but_fresh k1 hB B1 (fresh_back e0 hp)) h2 (mid_good g2 hv hl) ((B1.ex e0).ex e2) ((k1.trans (But.of e0)).trans (But.of e2))
  have six : ∀ {xs : List Int} {ta : TA} {σ : L2.St}, xs.length = 6 → σ[2]? = some (some (.int sp)) → EvA ta σ H1 (xs.map V.int) → ∃ v, v ∈ xs ∧ Ev (tOp (rIxL K) (tLst ta) (tVar 2)) σ H1 (.int v) := fun {xs ta σ} hx h2 h => by
    obtain ⟨v, hv, hv2⟩ := at_get (xs := xs.map V.int) s0 (by rw [List.length_map, hx]; omega)
    obtain ⟨y, hy, rfl⟩ := ints_get hv2
    exact ⟨y, List.mem_of_getElem? hy, ev_opL1 (el_lst h (by rw [List.length_map, hx]; omega)) (fun H2 e2 => ev_var h2) fun p H2 hp e2 => rv_ixL (SqL.of hp) hv⟩
  have ts := et_or (σ := [some (.ref b), some (.ref a), some (.int sp), some (.int (A : Int)), none]) (H := H1) (t := tTest (tOp rEq (tVar 3) (tCB (rLen K) (tCons (tVar 1) tNil)))) (u := tTest (tOp rEq (tVar 2) (tC (V.int 5))))
    (et_test (b := decide (V.int (A : Int) = V.int (ns.length : Int))) fun H2 e2 Q k => ⟨_, rfl, _, rfl, _, ns.length, rfl, .inl ⟨_, ex_l e2 (SqL.of ha1), (List.length_map ..).symm⟩, rfl, k _ (Ex.refl _)⟩) (fun _ => et_test (ev_op (ev_var rfl) ev_c (rv_eq rfl)))
  refine ts H1 (Ex.refl _) _ fun H2 e2 => ?_
  have e50 : (10 : Int) ^ (50 : Int).toNat = 100000000000000000000000000000000000000000000000000 := by decide
  have pw : ∀ {σ : L2.St}, Ev (tOp (rI CPow fun i j => V.int (i ^ j.toNat)) (tC (V.int 10)) (tC (V.int 50))) σ H1 (.int 100000000000000000000000000000000000000000000000000) := fun {σ} => by
    have := ev_op (σ := σ) (H := H1) (ta := tC (V.int 10)) (tb := tC (V.int 50)) ev_c ev_c (rv_I (C := CPow) (g := fun i j => V.int (i ^ j.toNat)) (i := 10) (j := 50) ⟨by decide, by decide, by decide⟩)
    rw [e50] at this
    exact this
  refine ite2 (fun c => ?_) (fun c => ?_)
  · obtain ⟨v, hv, ev⟩ := six (xs := [1, 2, 3, 1, 100000000000000000000000000000000000000000000000000, 1]) (σ := [some (.ref b), some (.ref a), some (.int sp), some (.int (A : Int)), none]) rfl rfl (ea_cons ev_c (ea_cons ev_c (ea_cons ev_c (ea_cons ev_c (ea_cons pw (ea_cons ev_c ea_nil))))))
    have em := el_mid (K := K) (ta := tVar 1) (te := tVar 3) (tg := tVar 3) (i := (A : Int)) (j := (A : Int)) (ev_var rfl) (SqL.of ha1) (ev_var rfl) ev (ev_var rfl) (by rw [List.length_map]; omega)
    rw [ints_mid hAl] at em
    refine out em ?_ (by omega) H2 e2
    simp only [List.mem_cons, List.not_mem_nil, or_false] at hv
    omega
  · have hlt : A < ns.length := by
      by_cases e : A = ns.length
      · exfalso
        apply c
        rw [e, decide_eq_true rfl]
        rfl
      · omega
    obtain ⟨z, hz⟩ : ∃ z, ns[A]? = some z := ⟨_, List.getElem?_eq_getElem hlt⟩
    have zr := g2 z (List.mem_of_getElem? hz)
    refine ⟨_, rfl, _, rfl, a, _, (A : Int), .int z, rfl, rfl, SqL.of (e2 _ _ ha1), atI_nat (by rw [List.getElem?_map, hz]; rfl), ?_⟩
    obtain ⟨v, hv, ev⟩ := six (xs := [z + 1, if z - 1 > 1 then z - 1 else 1, 2 * z, 1, 100000000000000000000000000000000000000000000000000, 1]) (σ := [some (.ref b), some (.ref a), some (.int sp), some (.int (A : Int)), some (.int z)]) rfl rfl (ea_cons (ev_op (r := rI0 fun i j => V.int (i + j)) (ta := tVar 4) (tb := tC (V.int 1)) (ev_var rfl) ev_c (rv_I0 (g := fun i j => V.int (i + j)) (i := z) (j := 1))) (ea_cons (ta := tCB (fun xs H Q => ∃ i j, xs = [V.int i, V.int j] ∧ Q (V.int (if j > i then j else i)) H) (tCons (tC (V.int 1)) (tCons (tOp (rI0 fun i j => V.int (i - j)) (tVar 4) (tC (V.int 1))) tNil))) (x := V.int (if z - 1 > 1 then z - 1 else 1)) (fun H e Q q => ⟨_, rfl, _, _, rfl, rfl, _, _, rfl, q _ (Ex.refl _)⟩) (ea_cons (ev_op (ta := tC (V.int 2)) (tb := tVar 4) ev_c (ev_var rfl) (rv_I (C := CMul) (g := fun i j => V.int (i * j)) (i := 2) (j := z) (.inl ⟨by decide, by decide⟩))) (ea_cons ev_c (ea_cons pw (ea_cons ev_c ea_nil))))))
    have em := el_mid (K := K) (ta := tVar 1) (te := tVar 3) (tg := tOp (rI0 fun i j => V.int (i + j)) (tVar 3) (tC (V.int 1))) (i := (A : Int)) (j := ((A + 1 : Nat) : Int)) (ev_var rfl) (SqL.of ha1) (ev_var rfl) ev (by rw [show ((A + 1 : Nat) : Int) = (A : Int) + 1 by omega]; exact ev_op (ev_var rfl) ev_c rv_I0) (by rw [List.length_map]; omega)
    rw [ints_mid hlt] at em
    refine out em ?_ (by omega) H2 e2
    simp only [List.mem_cons, List.not_mem_nil, or_false] at hv
    split at hv <;> omega
/-! ### told -/
def spLToldC (K : PySem.W.Frag) : Sp := fun vs H Q _ => ∃ (a : Addr) (ns : List Int) (i j : Nat) (named : Int), vs = [.ref a, .int (i : Int), .int (j : Int), .int named] ∧ H a = some (.lst (ns.map V.int)) ∧ GoodR ns ∧ i ≤ 16 ∧ j ≤ 16 ∧ ∀ H', Ex H H' → Q (.bl (tabF ns i j)) H'
theorem ok_law_told (T : TK K mg) : FnOk P w K mg base CX0 10 T.law_told.a T.law_told.fd ["row", "own", "other", "named"] (spLToldC K) := by
  refine T.law_told.F.ok sc_law_told (fun vs H Q E h => ?_) (fun cdv A outer s H vs Q E hr h => ?_)
  · obtain ⟨a, ns, i, j, named, rfl, _⟩ := h; rfl
  obtain ⟨a, ns, i, j, named, rfl, ha, g, hi, hj, q⟩ := h
  refine ⟨_, (pss_cons (ps_set (i := 4) sc_law_told.nd rfl (Or.inl rfl) (pe_callTy (klist K) (by rfl) T.z_list (by decide +kernel) (pa_cons (pv 0) pa_nil)))
    (pss_cons (ps_if (pt_cmpR op_eq (pv 3) pe_int (nomark _)) (pss_one (ps_set (i := 5) sc_law_told.nd rfl (Or.inl rfl) (pe_call (ok_can_tell T.toTA2) (hr.mono (by decide)) rfl T.can_tell.m T.can_tell.F.kp T.can_tell.b .nil pass0 (pa_cons (pv 4) (pa_cons (pv 1) (pa_cons (pv 2) pa_nil)))))) (pss_one (ps_if (pt_cmpR op_eq (pv 3) pe_int (nomark _)) (pss_one (ps_set (i := 5) sc_law_told.nd rfl (Or.inl rfl) (by exact (pe_callKw (ok_can_tell T.toTA2) (hr.mono (by decide)) rfl T.can_tell.m T.can_tell.F.kp T.kb_can_tell_other_row_own (fun σ => pass0At) (pk_cons (pv 2) (pk_cons (pv 4) (pk_cons (pv 1) pk_nil))))))) (pss_one (ps_ret (pe_call (ok_can_tell T.toTA2) (hr.mono (by decide)) rfl T.can_tell.m T.can_tell.F.kp T.can_tell.b .nil pass0 (pa_cons (pe_callTy (ktuple K) (by rfl) T.z_tuple (by decide +kernel) (pa_cons (pv 4) pa_nil)) (pa_cons (pv 1) (pa_cons (pv 2) pa_nil)))))))))
    (pss_one (ps_ret (pe_ifExp (pt_val (pe_call (ok_law_same T.toTA1) (hr.mono (by decide)) rfl T.law_same.m T.law_same.F.kp T.law_same.b .nil pass0 (pa_cons (pv 4) (pa_cons (pv 0) pa_nil)))) (pv 5) pe_non))))), ?_⟩
  have l9 : ns.length ≤ 900 := by have := g.1; omega
  have nl : numsD (.list (ns.map PyData.int)) = ns := nums_map
  have nt : numsD (.tuple (ns.map PyData.int)) = ns := nums_map
  refine ⟨_, rfl, a, _, rfl, .inl (SqL.of ha), fun c hc => ?_⟩
  have e1 := Ex.new (o := .lst (ns.map V.int)) hc
  have hc1 := upd_same (H := H) (a := c) (o := .lst (ns.map V.int))
  have ha1 := e1 _ _ ha
  generalize upd H c (.lst (ns.map V.int)) = H1 at e1 hc1 ha1 ⊢
  have rc : Rd K (fun _ => True) H1 1 (.ref c) (.list (ns.map PyData.int)) := rd_ilist hc1 trivial l9
  have sm : ∀ G, Ex H1 G → Sm K G 8 (.ref c) (.ref a) := fun G e => ((rd_ilist (ok := fun _ => True) (e _ _ hc1) trivial l9).le (by omega)).sm ((rd_ilist (ok := fun _ => True) (e _ _ ha1) trivial l9).le (by omega))
  refine ⟨_, rfl, rfl, _, rfl, ite2 (fun _ => ?_) (fun _ => ?_)⟩
  · refine ⟨_, rfl, _, rfl, _, rfl, .ref c, _, 1, _, i, j, rfl, rc, row_list g, hi, hj, fun H2 e2 => ?_⟩
    rw [canD_tab nl (by omega) hi hj]
    exact ⟨_, rfl, _, rfl, .ref c, .ref a, rfl, sm H2 e2, fun H3 e3 => ⟨_, rfl, iteT ⟨_, rfl, q H3 ((e1.trans e2).trans e3)⟩⟩⟩
  refine ⟨_, rfl, rfl, _, rfl, ite2 (fun _ => ?_) (fun _ => ?_)⟩
  · refine ⟨_, rfl, _, rfl, _, rfl, .ref c, _, 1, _, i, j, rfl, rc, row_list g, hi, hj, fun H2 e2 => ?_⟩
    rw [canD_tab nl (by omega) hi hj]
    exact ⟨_, rfl, _, rfl, .ref c, .ref a, rfl, sm H2 e2, fun H3 e3 => ⟨_, rfl, iteT ⟨_, rfl, q H3 ((e1.trans e2).trans e3)⟩⟩⟩
  refine ⟨_, rfl, c, _, rfl, .inl ⟨SqL.of hc1, fun t ht => ⟨_, rfl, _, rfl, .ref t, _, 1, _, i, j, rfl, rd_ituple (ok := fun _ => True) (SqT.of upd_same) trivial l9, row_tup g, hi, hj, fun H2 e2 => ?_⟩⟩⟩
  rw [canD_tab nt (by omega) hi hj]
  exact q H2 ((e1.trans (Ex.new ht)).trans e2)
end
end L2.U


set_option Elab.async false
set_option linter.all false
set_option maxRecDepth 100000
set_option maxHeartbeats 4000000
namespace L2.U
open PySem PySem.Spec PyProof.Rows Evl

section
variable {P : Program} {w : World} {K : PySem.W.Frag} {mg : Str → Option Value} {base : Heap}
abbrev Ent := List Int × Int × Int × Bool
def MenuAt (ok : Addr → Prop) (H : Hp) (x : V) (e : Ent) : Prop := ∃ t r, x = .ref t ∧ H t = some (.tup [.ref r, .int e.2.1, .int e.2.2.1, .bl e.2.2.2]) ∧ H r = some (.lst (e.1.map V.int)) ∧ ok r
def MenuL (ok : Addr → Prop) (H : Hp) (xs : List V) (es : List Ent) : Prop := xs.length = es.length ∧ ∀ (i : Nat) (x : V) (e : Ent), xs[i]? = some x → es[i]? = some e → MenuAt ok H x e
theorem MenuL.ex {ok : Addr → Prop} {H H' : Hp} {xs : List V} {es : List Ent} (m : MenuL ok H xs es) (e : Ex H H') : MenuL ok H' xs es := ⟨m.1, fun i x e' hx he => by
  obtain ⟨t, r, h1, h2, h3, h4⟩ := m.2 i x e' hx he
  exact ⟨t, r, h1, e _ _ h2, e _ _ h3, h4⟩⟩
theorem MenuL.of {ok ok' : Addr → Prop} {H : Hp} {xs : List V} {es : List Ent} (m : MenuL ok H xs es) (w : ∀ a, (∃ o, H a = some o) → ok a → ok' a) : MenuL ok' H xs es := ⟨m.1, fun i x e' hx he => by
  obtain ⟨t, r, h1, h2, h3, h4⟩ := m.2 i x e' hx he
  exact ⟨t, r, h1, h2, h3, w _ ⟨_, h3⟩ h4⟩⟩
theorem MenuL.put {H : Hp} {p : Addr} {xs zs ys : List V} {es : List Ent} (m : MenuL (fun a => a ≠ p) H xs es) (hp : H p = some (.lst zs)) : MenuL (fun a => a ≠ p) (upd H p (.lst ys)) xs es := ⟨m.1, fun i x e' hx he => by
  obtain ⟨t, r, h1, h2, h3, h4⟩ := m.2 i x e' hx he
  refine ⟨t, r, h1, ?_, by rw [upd_ne h4]; exact h3, h4⟩
  rw [upd_ne (by rintro rfl; rw [h2] at hp; cases hp)]
  exact h2⟩
theorem MenuL.app {ok : Addr → Prop} {H : Hp} {xs ys : List V} {es fs : List Ent} (h1 : MenuL ok H xs es) (h2 : MenuL ok H ys fs) : MenuL ok H (xs ++ ys) (es ++ fs) := by
  refine ⟨by rw [List.length_append, List.length_append, h1.1, h2.1], fun i x d hx hd => ?_⟩
  by_cases c : i < xs.length
  · rw [List.getElem?_append_left c] at hx
    rw [List.getElem?_append_left (by rw [← h1.1]; exact c)] at hd
    exact h1.2 i x d hx hd
  · rw [List.getElem?_append_right (by omega)] at hx
    rw [List.getElem?_append_right (by rw [← h1.1]; omega), ← h1.1] at hd
    exact h2.2 _ x d hx hd
def RunM (ta : TA) (es : List Ent) : Prop := ∀ (σ : L2.St) (G : Hp) (Q : List V → Hp → Prop), (∀ xs G', Ex G G' → MenuL (fun a => G a = none) G' xs es → Q xs G') → ta σ G Q
theorem rm_nil : RunM tNil [] := fun σ G Q k => k [] G (Ex.refl _) ⟨rfl, fun i x e hx _ => by cases hx⟩
theorem rm_cons {te : TE} {ta : TA} {ns : List Int} {i j : Int} {d : Bool} {es : List Ent} (h : ∀ σ H, EvL te σ H (ns.map V.int)) (r : RunM ta es) : RunM (tCons (tTup (tCons te (tCons (tC (.int i)) (tCons (tC (.int j)) (tCons (tC (.bl d)) tNil))))) ta) ((ns, i, j, d) :: es) :=
  fun σ G Q k => h σ G G (Ex.refl _) _ fun p H2 hp e2 h2 => ⟨four_le, fun t ht => r σ _ _ fun xs G' e' m => by
    have et := Ex.new (o := .tup [.ref p, .int i, .int j, .bl d]) ht
    have all := (e2.trans et)
    refine k (.ref t :: xs) G' (all.trans e') ⟨congrArg (· + 1) m.1, fun i' x e hx he => ?_⟩
    cases i' with
    | zero => cases hx; cases he; exact ⟨t, p, rfl, e' _ _ upd_same, e' _ _ (et _ _ h2), hp⟩
    | succ i' =>
      obtain ⟨t', r', h1, h2', h3, h4⟩ := m.2 i' x e hx he
      exact ⟨t', r', h1, h2', h3, fresh_back all h4⟩⟩
theorem menu_new {ta : TA} {es : List Ent} {i : Nat} {rest : TS} {D : Ends} {σ : L2.St} {H : Hp} (r : RunM ta es) (hz : es.length ≤ 100) (q : ∀ p xs H', H p = none → Ex H H' → H' p = some (.lst xs) → MenuL (fun a => a ≠ p) H' xs es → rest D (σ.set i (some (.ref p))) H') : tSeq (tAsg (tLst ta) (gName i)) rest D σ H :=
  r σ H _ fun xs G' e m => ⟨Nat.le_of_lt (small1000 (by rw [m.1]; omega)), fun p hp => q p xs _ (fresh_back e hp) (e.trans (Ex.new hp)) upd_same ((m.of fun a ⟨o, ho⟩ _ => (by rintro rfl; rw [hp] at ho; cases ho)).ex (Ex.new hp))⟩
theorem menu_ext {ta : TA} {es es0 : List Ent} {i : Nat} {rest : TS} {D : Ends} {σ : L2.St} {H H0 : Hp} {p : Addr} {xs : List V} (hi : σ[i]? = some (some (.ref p))) (p0 : H0 p = none) (e0 : Ex H0 H) (hp : H p = some (.lst xs)) (m : MenuL (fun a => a ≠ p) H xs es0) (r : RunM ta es) (hz : es0.length + es.length ≤ 100)
    (q : ∀ xs' H', Ex H0 H' → H' p = some (.lst xs') → MenuL (fun a => a ≠ p) H' xs' (es0 ++ es) → rest D σ H') : tSeq (tDrop (tBM K "list" rExtend (tVar i) (tCons (tLst ta) tNil))) rest D σ H :=
  ⟨_, hi, .inl ⟨rfl, _, SqL.of hp⟩, r σ H _ fun xs' G' e m' => ⟨Nat.le_of_lt (small1000 (by rw [m'.1]; omega)), fun l hl => ⟨p, l, xs, xs', rfl, rfl, (Ex.new hl) _ _ (e _ _ hp), upd_same, Nat.le_of_lt (small1000 (by rw [m.1, m'.1]; omega)),
    q (xs ++ xs') _ (((e0.trans e).trans (Ex.new hl)).mut p0) upd_same ((((m.ex e).ex (Ex.new hl)).app ((m'.of fun a _ ha => (by rintro rfl; rw [hp] at ha; cases ha)).ex (Ex.new hl))).put ((Ex.new hl) _ _ (e _ _ hp)))⟩⟩⟩
section
variable {σ : L2.St} {H : Hp} {ta tb : TE} {xs ys : List V}
theorem el_repL {n : Int} (ha : EvL ta σ H xs) (hb : ∀ H1, Ex H H1 → Ev tb σ H1 (.int n)) (h1 : -(2 ^ 63) ≤ n) (h2 : n < 2 ^ 63) (hz : xs.length * n.toNat ≤ 100000) : EvL (tOp rRep ta tb) σ H (List.replicate n.toNat xs).flatten := fun H1 e Q q =>
  ha H1 e _ fun p H2 hp e2 h3 => hb H2 (e.trans e2) H2 (Ex.refl _) _ fun H3 e3 => ⟨p, n, xs, rfl, rfl, e3 _ _ h3, h1, h2, sz_of hz, fun l hl => q l _ (fresh_back (e2.trans e3) hl) ((e2.trans e3).trans (Ex.new hl)) upd_same⟩
end
theorem l0 : ∀ (σ : L2.St) (H : Hp), EvL (tLst tNil) σ H (([] : List Int).map V.int) := fun σ H => el_lst ea_nil (by decide)
theorem l1 {a : Int} : ∀ (σ : L2.St) (H : Hp), EvL (tLst (tCons (tC (.int a)) tNil)) σ H ([a].map V.int) := fun σ H => el_lst (ea_cons ev_c ea_nil) (by show 1 ≤ 100000; decide)
theorem l2 {a b : Int} : ∀ (σ : L2.St) (H : Hp), EvL (tLst (tCons (tC (.int a)) (tCons (tC (.int b)) tNil))) σ H ([a, b].map V.int) := fun σ H => el_lst (ea_cons ev_c (ea_cons ev_c ea_nil)) (by show 2 ≤ 100000; decide)
theorem l3 {a b c : Int} : ∀ (σ : L2.St) (H : Hp), EvL (tLst (tCons (tC (.int a)) (tCons (tC (.int b)) (tCons (tC (.int c)) tNil)))) σ H ([a, b, c].map V.int) := fun σ H => el_lst (ea_cons ev_c (ea_cons ev_c (ea_cons ev_c ea_nil))) (by show 3 ≤ 100000; decide)
theorem lr : ∀ (σ : L2.St) (H : Hp), EvL (tOp rRep (tLst (tCons (tC (.int 1)) tNil)) (tC (.int 16))) σ H ((List.replicate 16 (1 : Int)).map V.int) := fun σ H => by
  have := el_repL (n := 16) (l1 (a := 1) σ H) (fun H1 _ => ev_c (v := .int 16)) (by decide) (by decide) (by decide)
  exact this
def menu0 : List Ent := [([6, 2], 3, 2, false), ([2, 6], 2, 3, true), ([3, 2, 2], 3, 2, true), ([3, 1, 2], 3, 1, true)]
def menu1 : List Ent := [([2, 1, 3], 3, 1, false), ([3, 1, 5], 4, 2, true), ([5, 1, 3], 4, 2, false), ([2, 2], 2, 2, true)]
def menu2 : List Ent := [([1, 1, 1], 1, 1, false), ([1], 0, 5, false), ([], 0, 0, true), ([4, 4, 4], 4, 4, true)]
def menu3 : List Ent := [([4, 4, 4], 4, 3, false), ([4, 4, 4], 5, 3, true), ([6, 1], 3, 2, true), ([6, 1], 3, 1, false)]
def menu4 : List Ent := [(List.replicate 16 1, 8, 8, true), (List.replicate 16 1, 8, 7, false), ([20922789888000], 16, 14, true)]
def menu5 : List Ent := [([20922789888001], 16, 16, false), ([20922789888000], 16, 13, false), ([2, 1, 1], 2, 1, true)]
def menuA : List Ent := menu0 ++ menu1 ++ menu2 ++ menu3 ++ menu4 ++ menu5
theorem menu_ok : ∀ e ∈ menuA, e.1.length ≤ 16 ∧ (∀ z ∈ e.1, 1 ≤ z ∧ z ≤ 100000000000000000000000000000000000000000000000000) ∧ 0 ≤ e.2.1 ∧ e.2.1 ≤ 16 ∧ 0 ≤ e.2.2.1 ∧ e.2.2.1 ≤ 16 ∧ canD (.list (e.1.map PyData.int)) e.2.1.toNat e.2.2.1.toNat = e.2.2.2 := by decide +kernel
def spFixed : Sp := fun vs H Q _ => ∃ pick : Int, vs = [.int pick] ∧ 0 ≤ pick ∧ pick < 22 ∧ ∀ H', Ex H H' → Q (.bl true) H'
theorem ok_law_fixed_right (T : TK K mg) : FnOk P w K mg base CX0 11 T.law_fixed_right.a T.law_fixed_right.fd ["pick"] spFixed := by
  refine T.law_fixed_right.F.ok sc_law_fixed_right (fun vs H Q E h => ?_) (fun cdv A outer s H vs Q E hr h => ?_)
  · obtain ⟨pick, rfl, _⟩ := h; rfl
  obtain ⟨pick, rfl, p0, p1, q⟩ := h
  refine ⟨_, (pss_cons (ps_set (i := 1) sc_law_fixed_right.nd rfl (Or.inl rfl) (pe_lst (pa_cons (pe_tup (pa_cons (pe_lst (pa_cons pe_int (pa_cons pe_int pa_nil))) (pa_cons pe_int (pa_cons pe_int (pa_cons pe_bl pa_nil))))) (pa_cons (pe_tup (pa_cons (pe_lst (pa_cons pe_int (pa_cons pe_int pa_nil))) (pa_cons pe_int (pa_cons pe_int (pa_cons pe_bl pa_nil))))) (pa_cons (pe_tup (pa_cons (pe_lst (pa_cons pe_int (pa_cons pe_int (pa_cons pe_int pa_nil)))) (pa_cons pe_int (pa_cons pe_int (pa_cons pe_bl pa_nil))))) (pa_cons (pe_tup (pa_cons (pe_lst (pa_cons pe_int (pa_cons pe_int (pa_cons pe_int pa_nil)))) (pa_cons pe_int (pa_cons pe_int (pa_cons pe_bl pa_nil))))) pa_nil))))))
    (pss_cons (ps_expr (pe_bm PySem.F.plainAttrs_list PySem.F.slot_list_extend PySem.F.type_list_extend mt_extend (pv 1) (pa_cons (pe_lst (pa_cons (pe_tup (pa_cons (pe_lst (pa_cons pe_int (pa_cons pe_int (pa_cons pe_int pa_nil)))) (pa_cons pe_int (pa_cons pe_int (pa_cons pe_bl pa_nil))))) (pa_cons (pe_tup (pa_cons (pe_lst (pa_cons pe_int (pa_cons pe_int (pa_cons pe_int pa_nil)))) (pa_cons pe_int (pa_cons pe_int (pa_cons pe_bl pa_nil))))) (pa_cons (pe_tup (pa_cons (pe_lst (pa_cons pe_int (pa_cons pe_int (pa_cons pe_int pa_nil)))) (pa_cons pe_int (pa_cons pe_int (pa_cons pe_bl pa_nil))))) (pa_cons (pe_tup (pa_cons (pe_lst (pa_cons pe_int (pa_cons pe_int pa_nil))) (pa_cons pe_int (pa_cons pe_int (pa_cons pe_bl pa_nil))))) pa_nil))))) pa_nil)))
    (pss_cons (ps_expr (pe_bm PySem.F.plainAttrs_list PySem.F.slot_list_extend PySem.F.type_list_extend mt_extend (pv 1) (pa_cons (pe_lst (pa_cons (pe_tup (pa_cons (pe_lst (pa_cons pe_int (pa_cons pe_int (pa_cons pe_int pa_nil)))) (pa_cons pe_int (pa_cons pe_int (pa_cons pe_bl pa_nil))))) (pa_cons (pe_tup (pa_cons (pe_lst (pa_cons pe_int pa_nil)) (pa_cons pe_int (pa_cons pe_int (pa_cons pe_bl pa_nil))))) (pa_cons (pe_tup (pa_cons (pe_lst pa_nil) (pa_cons pe_int (pa_cons pe_int (pa_cons pe_bl pa_nil))))) (pa_cons (pe_tup (pa_cons (pe_lst (pa_cons pe_int (pa_cons pe_int (pa_cons pe_int pa_nil)))) (pa_cons pe_int (pa_cons pe_int (pa_cons pe_bl pa_nil))))) pa_nil))))) pa_nil)))
    (pss_cons (ps_expr (pe_bm PySem.F.plainAttrs_list PySem.F.slot_list_extend PySem.F.type_list_extend mt_extend (pv 1) (pa_cons (pe_lst (pa_cons (pe_tup (pa_cons (pe_lst (pa_cons pe_int (pa_cons pe_int (pa_cons pe_int pa_nil)))) (pa_cons pe_int (pa_cons pe_int (pa_cons pe_bl pa_nil))))) (pa_cons (pe_tup (pa_cons (pe_lst (pa_cons pe_int (pa_cons pe_int (pa_cons pe_int pa_nil)))) (pa_cons pe_int (pa_cons pe_int (pa_cons pe_bl pa_nil))))) (pa_cons (pe_tup (pa_cons (pe_lst (pa_cons pe_int (pa_cons pe_int pa_nil))) (pa_cons pe_int (pa_cons pe_int (pa_cons pe_bl pa_nil))))) (pa_cons (pe_tup (pa_cons (pe_lst (pa_cons pe_int (pa_cons pe_int pa_nil))) (pa_cons pe_int (pa_cons pe_int (pa_cons pe_bl pa_nil))))) pa_nil))))) pa_nil)))
    (pss_cons (ps_expr (pe_bm PySem.F.plainAttrs_list PySem.F.slot_list_extend PySem.F.type_list_extend mt_extend (pv 1) (pa_cons (pe_lst (pa_cons (pe_tup (pa_cons (pe_op op_rep (pe_lst (pa_cons pe_int pa_nil)) pe_int) (pa_cons pe_int (pa_cons pe_int (pa_cons pe_bl pa_nil))))) (pa_cons (pe_tup (pa_cons (pe_op op_rep (pe_lst (pa_cons pe_int pa_nil)) pe_int) (pa_cons pe_int (pa_cons pe_int (pa_cons pe_bl pa_nil))))) (pa_cons (pe_tup (pa_cons (pe_lst (pa_cons pe_int pa_nil)) (pa_cons pe_int (pa_cons pe_int (pa_cons pe_bl pa_nil))))) pa_nil)))) pa_nil)))
    (pss_cons (ps_expr (pe_bm PySem.F.plainAttrs_list PySem.F.slot_list_extend PySem.F.type_list_extend mt_extend (pv 1) (pa_cons (pe_lst (pa_cons (pe_tup (pa_cons (pe_lst (pa_cons pe_int pa_nil)) (pa_cons pe_int (pa_cons pe_int (pa_cons pe_bl pa_nil))))) (pa_cons (pe_tup (pa_cons (pe_lst (pa_cons pe_int pa_nil)) (pa_cons pe_int (pa_cons pe_int (pa_cons pe_bl pa_nil))))) (pa_cons (pe_tup (pa_cons (pe_lst (pa_cons pe_int (pa_cons pe_int (pa_cons pe_int pa_nil)))) (pa_cons pe_int (pa_cons pe_int (pa_cons pe_bl pa_nil))))) pa_nil)))) pa_nil)))
    (pss_cons (ps_for PassesOwn.never rfl (kpil K (pe_lst (pa_cons (pe_ix (kixl K) (pv 1) (pv 0) (fun _ _ => rfl)) (pa_cons (pe_ix (kixl K) (pv 1) (pe_op op_sub (pe_op op_sub (pe_callB (klen K) (by rfl) T.z_len (by decide +kernel) (pa_cons (pv 1) pa_nil)) pe_int) (pv 0)) (fun _ _ => rfl)) pa_nil)))) (pg_tup (by rfl) (pgs_cons (pg_name (i := 2) sc_law_fixed_right.nd rfl (Or.inl rfl)) (pgs_cons (pg_name (i := 3) sc_law_fixed_right.nd rfl (Or.inl rfl)) (pgs_cons (pg_name (i := 4) sc_law_fixed_right.nd rfl (Or.inl rfl)) (pgs_cons (pg_name (i := 5) sc_law_fixed_right.nd rfl (Or.inl rfl)) pgs_nil))))) (pss_one (ps_if (pt_not (pt_val (pe_call (ok_law_same T.toTA1) (hr.mono (by decide)) rfl T.law_same.m T.law_same.F.kp T.law_same.b .nil pass0 (pa_cons (pe_call (ok_law_told T) (hr.mono (by decide)) rfl T.law_told.m T.law_told.F.kp T.law_told.b .nil pass0 (pa_cons (pv 2) (pa_cons (pv 3) (pa_cons (pv 4) (pa_cons (pe_op op_mod (pe_callTy call_int1 (by rfl) T.z_int (by decide +kernel) (pa_cons (pv 0) pa_nil)) pe_int) pa_nil))))) (pa_cons (pv 5) pa_nil))))) (pss_one (ps_ret pe_bl)) pss_nil)))
    (pss_one (ps_ret pe_bl))))))))), ?_⟩
  refine menu_new (i := 1) (es := menu0) (rm_cons l2 (rm_cons l2 (rm_cons l3 (rm_cons l3 rm_nil)))) (by decide) fun p xs0 H1 pn e1 h1 m1 => ?_
  refine menu_ext (K := K) (es := menu1) rfl pn e1 h1 m1 (rm_cons l3 (rm_cons l3 (rm_cons l3 (rm_cons l2 rm_nil)))) (by decide) fun xs1 H2 e2 h2 m2 => ?_
  refine menu_ext (K := K) (es := menu2) rfl pn e2 h2 m2 (rm_cons l3 (rm_cons l1 (rm_cons l0 (rm_cons l3 rm_nil)))) (by decide) fun xs2 H3 e3 h3 m3 => ?_
  refine menu_ext (K := K) (es := menu3) rfl pn e3 h3 m3 (rm_cons l3 (rm_cons l3 (rm_cons l2 (rm_cons l2 rm_nil)))) (by decide) fun xs3 H4 e4 h4 m4 => ?_
  refine menu_ext (K := K) (es := menu4) rfl pn e4 h4 m4 (rm_cons lr (rm_cons lr (rm_cons l1 rm_nil))) (by decide) fun xs4 H5 e5 h5 m5 => ?_
  refine menu_ext (K := K) (es := menu5) rfl pn e5 h5 m5 (rm_cons l1 (rm_cons l1 (rm_cons l3 rm_nil))) (by decide) fun xs H6 e6 h6 m6 => ?_
  have m : MenuL (fun a => a ≠ p) H6 xs menuA := m6
  have xl : xs.length = 22 := m.1
  obtain ⟨v1, hv1, hg1⟩ := at_get (xs := xs) p0 (by rw [xl]; exact p1)
  obtain ⟨v2, hv2, hg2⟩ := at_get (xs := xs) (show 0 ≤ (22 : Int) - 1 - pick by omega) (by rw [xl]; show 22 - 1 - pick < 22; omega)
  have ent : ∀ (k : Nat) v, xs[k]? = some v → ∃ e ∈ menuA, MenuAt (fun a => a ≠ p) H6 v e := fun k v hv => by
    have hk := (List.getElem?_eq_some_iff.mp hv).1
    obtain ⟨e, he⟩ : ∃ e, menuA[k]? = some e := ⟨_, List.getElem?_eq_getElem (by rw [← m.1]; exact hk)⟩
    exact ⟨e, List.mem_of_getElem? he, m.2 k v e hv he⟩
  have a1 := ent _ v1 hg1
  have a2 := ent _ v2 hg2
  refine ⟨_, rfl, _, rfl, p, xs, pick, v1, rfl, rfl, SqL.of h6, hv1, _, rfl, _, rfl, _, 22, rfl, .inl ⟨xs, SqL.of h6, xl.symm⟩, _, _, rfl, rfl, _, rfl, _, _, rfl, rfl, p, xs, _, v2, rfl, rfl, SqL.of h6, hv2, two_le, fun L hL => ?_⟩
  have e7 := Ex.new (o := .lst [v1, v2]) hL
  have hL7 := upd_same (H := H6) (a := L) (o := .lst [v1, v2])
  generalize upd H6 L (.lst [v1, v2]) = H7 at e7 hL7 ⊢
  refine ⟨L, rfl, ⟨_, SqL.of hL7⟩, for_list (xs := [v1, v2]) (fun j σ H' => Ex H7 H' ∧ ∃ v2 v3 v4 v5 : Option V, σ = [some (.int pick), some (.ref p), v2, v3, v4, v5]) ⟨Ex.refl _, _, _, _, _, rfl⟩ (fun j σ H' _ p => SqL.of (p.1 _ _ hL7)) ?_ ?_⟩
  · rintro j v σ H8 hj ⟨e8, w2, w3, w4, w5, rfl⟩
    have hj2 : j < 2 := (List.getElem?_eq_some_iff.mp hj).1
    obtain ⟨en, hen, t, r, rfl, ht, hr, _⟩ : ∃ e ∈ menuA, MenuAt (fun a => a ≠ p) H6 v e := by
      match j, hj2, hj with
      | 0, _, hj => cases hj; exact a1
      | 1, _, hj => cases hj; exact a2
    obtain ⟨o1, o2, o3, o4, o5, o6, o7⟩ := menu_ok en hen
    have e68 := e7.trans e8
    refine ⟨t, _, rfl, SqT.of (e68 _ _ ht), rfl, _, _, rfl, _, _, rfl, _, _, rfl, _, _, rfl, rfl, ?_⟩
    refine ⟨_, rfl, _, rfl, _, rfl, _, rfl, .inl ⟨_, rfl, _, _, rfl, rfl, (by show (0 : Int) < 3; decide), r, en.1, en.2.1.toNat, en.2.2.1.toNat, _, (by rw [Int.toNat_of_nonneg o3, Int.toNat_of_nonneg o5]; rfl), e68 _ _ hr, ⟨o1, o2⟩, by omega, by omega, fun H9 e9 => ?_⟩⟩
    rw [← canD_tab (dx := .list (en.1.map PyData.int)) (m := 16) nums_map (by omega) (by omega) (by omega), o7]
    exact ⟨_, rfl, _, _, rfl, .bl _, fun H10 e10 => ⟨_, rfl, iteF ⟨(e8.trans e9).trans e10, _, _, _, _, rfl⟩⟩⟩
  · rintro σ H8 ⟨e8, w2, w3, w4, w5, rfl⟩
    exact q H8 ((e6.trans e7).trans e8)
end
end L2.U


set_option Elab.async false
set_option linter.all false
set_option maxRecDepth 100000
set_option maxHeartbeats 4000000
namespace L2.U
open PySem PySem.Spec PyProof.Rows Evl

section
variable {P : Program} {w : World} {K : PySem.W.Frag} {mg : Str → Option Value} {base : Heap}
def spSmallR (K : PySem.W.Frag) : Sp := fun vs H Q _ => ∃ (b a : Addr) (k m : Nat) (ns : List Int), vs = [.ref b, .ref a, .int (m : Int)] ∧ BoxAt H b (k + 24) ∧ H a = some (.lst (ns.map V.int)) ∧ a ≠ b ∧ GoodR ns ∧ ns.length ≤ 3 ∧ m ≤ 4 ∧ ∀ H', BoxAt H' b k → But b H H' → Q (.bl true) H'
theorem ok_law_small_right (T : TK K mg) : FnOk P w K mg base CX0 11 T.law_small_right.a T.law_small_right.fd ["box", "row", "most"] (spSmallR K) := by
  refine T.law_small_right.F.ok sc_law_small_right (fun vs H Q E h => ?_) (fun cdv A outer s H vs Q E hr h => ?_)
  · obtain ⟨b, a, k, m, ns, rfl, _⟩ := h; rfl
  obtain ⟨b, a, k, m, ns, rfl, hB, ha, ab, g, l3, hm, q⟩ := h
  refine ⟨_, (pss_cons (ps_for PassesOwn.never rfl (pi_range1 rfl T.z_range (pa_cons pe_int pa_nil)) (pg_name (i := 3) sc_law_small_right.nd rfl (Or.inl rfl)) (pss_cons (ps_par3 (i := 4) (j := 5) (l := 6) (by rfl) sc_law_small_right.nd rfl rfl rfl (by decide) (by decide) (by decide) rfl rfl rfl (pa_cons (pe_call (ok_law_take T.toTA1) (hr.mono (by decide)) rfl T.law_take.m T.law_take.F.kp T.law_take.b .nil pass0 (pa_cons (pv 0) (pa_cons (pe_op op_add (pv 2) pe_int) pa_nil))) (pa_cons (pe_call (ok_law_take T.toTA1) (hr.mono (by decide)) rfl T.law_take.m T.law_take.F.kp T.law_take.b .nil pass0 (pa_cons (pv 0) (pa_cons (pe_op op_add (pv 2) pe_int) pa_nil))) (pa_cons (pe_call (ok_law_take T.toTA1) (hr.mono (by decide)) rfl T.law_take.m T.law_take.F.kp T.law_take.b .nil pass0 (pa_cons (pv 0) (pa_cons pe_int pa_nil))) pa_nil))) (by rfl))
    (pss_one (ps_if (pt_not (pt_val (pe_call (ok_law_same T.toTA1) (hr.mono (by decide)) rfl T.law_same.m T.law_same.F.kp T.law_same.b .nil pass0 (pa_cons (pe_call (ok_law_told T) (hr.mono (by decide)) rfl T.law_told.m T.law_told.F.kp T.law_told.b .nil pass0 (pa_cons (pv 1) (pa_cons (pv 4) (pa_cons (pv 5) (pa_cons (pv 6) pa_nil))))) (pa_cons (pe_call (ok_law_listed T) (hr.mono (by decide)) rfl T.law_listed.m T.law_listed.F.kp T.law_listed.b .nil pass0 (pa_cons (pv 1) (pa_cons (pv 4) (pa_cons (pv 5) pa_nil)))) pa_nil))))) (pss_one (ps_ret pe_bl)) pss_nil))))
    (pss_one (ps_ret pe_bl))), ?_⟩
  refine ⟨8, rfl, by decide, by decide, for_range (lo := 0) (n := 8) (fun i σ H' => BoxAt H' b (k + 3 * (8 - i)) ∧ But b H H' ∧ ∃ v3 v4 v5 v6 : Option V, σ = [some (.ref b), some (.ref a), some (.int (m : Int)), v3, v4, v5, v6]) ⟨hB, But.of (Ex.refl _), _, _, _, _, rfl⟩ ?_ ?_⟩
  · rintro i σ H' hi ⟨B, kb, v3, v4, v5, v6, rfl⟩
    refine ⟨_, rfl, _, rfl, _, _, rfl, rfl, b, (m : Int) + 1, k + 3 * (8 - i) - 1, rfl, by omega, by omega, B.le (by omega), fun n H1 n0 n1 B1 k1 => ?_⟩
    refine ⟨_, rfl, _, rfl, _, _, rfl, rfl, b, (m : Int) + 1, k + 3 * (8 - i) - 2, rfl, by omega, by omega, B1.le (by omega), fun c H2 c0 c1 B2 k2 => ?_⟩
    refine ⟨_, rfl, b, 3, k + 3 * (8 - i) - 3, rfl, by decide, by decide, B2.le (by omega), fun nm H3 _ _ B3 k3 => ⟨_, _, _, rfl, ?_⟩⟩
    have kb3 := ((kb.trans k1).trans k2).trans k3
    have ha3 := kb3 _ _ ab ha
    obtain ⟨N, rfl⟩ : ∃ N : Nat, n = (N : Int) := ⟨n.toNat, by omega⟩
    obtain ⟨C, rfl⟩ : ∃ C : Nat, c = (C : Int) := ⟨c.toNat, by omega⟩
    refine ⟨_, rfl, _, rfl, _, rfl, _, rfl, a, ns, N, C, nm, rfl, ha3, g, by omega, by omega, fun H4 e4 => ?_⟩
    refine ⟨_, rfl, _, rfl, _, rfl, a, ns, N, C, rfl, e4 _ _ ha3, by omega, by omega, by omega, by omega, fun H5 e5 => ?_⟩
    exact ⟨_, _, rfl, .bl _, fun H6 e6 => ⟨_, rfl, iteF ⟨(((B3.ex e4).ex e5).ex e6).le (by omega), ((kb3.trans (But.of e4)).trans (But.of e5)).trans (But.of e6), _, _, _, _, rfl⟩⟩⟩
  · rintro σ H' ⟨B, kb, v3, v4, v5, v6, rfl⟩
    exact q H' (B.le (by omega)) kb
theorem drop_good {ns : List Int} {k : Nat} (g : GoodR ns) : GoodR (ns.drop k) := ⟨by rw [List.length_drop]; have := g.1; omega, fun z hz => g.2 z (List.mem_of_mem_drop hz)⟩
theorem rd_tables {ok : Addr → Prop} {H : Hp} {j N : Nat} {x : V} {ns : List Int} (h : Rd K ok H j x (tablesD N ns)) : ∃ p xs, x = .ref p ∧ H p = some (.lst xs) ∧ ∀ k, k ≤ ns.length → ∃ q1 ys, xs[k]? = some (.ref q1) ∧ H q1 = some (.lst ys) ∧ ∀ n, n ≤ N → ∃ q2 zs, ys[n]? = some (.ref q2) ∧ H q2 = some (.lst zs) ∧ ∀ a, a ≤ N → zs[a]? = some (.bl (tabF (ns.drop k) n a)) := by
  unfold tablesD at h
  generalize hd : PyData.list ((sufs ns).map fun ms => tabD N (tabF ms)) = d at h
  cases h with
  | lst h ha hl hz all =>
    cases hd
    rename_i p xs
    rw [List.length_map, sufs_len] at hl
    refine ⟨p, xs, rfl, h, fun k hk => ?_⟩
    have hx := List.getElem?_eq_getElem (show k < xs.length by omega)
    have r := all k _ (tabD N (tabF (ns.drop k))) hx (by rw [List.getElem?_map, sufs_at ns k hk]; rfl)
    obtain ⟨q1, ys, e, hq, hy⟩ := rd_tab r
    exact ⟨q1, ys, by rw [hx, e], hq, hy⟩
  | _ => cases hd
def spRests (K : PySem.W.Frag) : Sp := fun vs H Q _ => ∃ (b a p : Addr) (k N j : Nat) (ns : List Int) (many : Int) (ok : Addr → Prop), vs = [.ref b, .ref a, .ref p, .int many] ∧ BoxAt H b (k + 20) ∧ H a = some (.lst (ns.map V.int)) ∧ a ≠ b ∧ GoodR ns ∧ N ≤ 16 ∧ 0 ≤ many ∧ many ≤ 4 ∧ Rd K ok H (j + 1) (.ref p) (list3 (bestsF N)) ∧ (∀ a, ok a → a ≠ b) ∧
  ∀ H', BoxAt H' b k → But b H H' → Q (.bl true) H'
theorem ok_law_rests_right (T : TK K mg) : FnOk P w K mg base CX0 11 T.law_rests_right.a T.law_rests_right.fd ["box", "row", "bests", "many"] (spRests K) := by
  refine T.law_rests_right.F.ok sc_law_rests_right (fun vs H Q E h => ?_) (fun cdv A outer s H vs Q E hr h => ?_)
  · obtain ⟨b, a, p, k, N, j, ns, many, ok, rfl, _⟩ := h; rfl
  obtain ⟨b, a, p, k, N, j, ns, many, ok, rfl, hB, ha, ab, g, hN, m0, m4, hp, okb, q⟩ := h
  refine ⟨_, (pss_cons (ps_asg (pe_tup (pa_cons (pe_op op_sub (pe_callB (klen K) (by rfl) T.z_len (by decide +kernel) (pa_cons (pv 2) pa_nil)) pe_int) (pa_cons (pe_call (ok_law_tables T) (hr.mono (by decide)) rfl T.law_tables.m T.law_tables.F.kp T.law_tables.b .nil pass0 (pa_cons (pv 1) (pa_cons (pv 2) pa_nil))) (pa_cons (pe_call (ok_law_take T.toTA1) (hr.mono (by decide)) rfl T.law_take.m T.law_take.F.kp T.law_take.b .nil pass0 (pa_cons (pv 0) (pa_cons pe_int pa_nil))) pa_nil)))) (pg_tup (by rfl) (pgs_cons (pg_name (i := 4) sc_law_rests_right.nd rfl (Or.inl rfl)) (pgs_cons (pg_name (i := 5) sc_law_rests_right.nd rfl (Or.inr rfl)) (pgs_cons (pg_name (i := 6) sc_law_rests_right.nd rfl (Or.inl rfl)) pgs_nil)))))
    (pss_cons (ps_for PassesOwn.never rfl (pi_range1 rfl T.z_range (pa_cons (pv 3) pa_nil)) (pg_name (i := 7) sc_law_rests_right.nd rfl (Or.inl rfl)) (pss_cons (ps_asg (pe_tup (pa_cons (pe_ix (kixl K) (pe_lst (pa_cons pe_int (pa_cons (pe_call (ok_law_take T.toTA1) (hr.mono (by decide)) rfl T.law_take.m T.law_take.F.kp T.law_take.b .nil pass0 (pa_cons (pv 0) (pa_cons (pe_op op_add (pe_callB (klen K) (by rfl) T.z_len (by decide +kernel) (pa_cons (pv 1) pa_nil)) pe_int) pa_nil))) pa_nil))) (pe_op op_mod (pe_callTy call_int1 (by rfl) T.z_int (by decide +kernel) (pa_cons (pv 7) pa_nil)) pe_int) (fun _ _ => rfl)) (pa_cons (pe_call (ok_law_take T.toTA1) (hr.mono (by decide)) rfl T.law_take.m T.law_take.F.kp T.law_take.b .nil pass0 (pa_cons (pv 0) (pa_cons (pe_op op_add (pv 4) pe_int) pa_nil))) pa_nil))) (pg_tup (by rfl) (pgs_cons (pg_name (i := 8) sc_law_rests_right.nd rfl (Or.inr rfl)) (pgs_cons (pg_name (i := 9) sc_law_rests_right.nd rfl (Or.inr rfl)) pgs_nil))))
    (pss_cons (ps_setLc (i := 11) (own := [("a", 10)]) (g := gName 10) (by rfl) sc_law_rests_right.nd rfl rfl (sw_true rfl rfl rfl (by decide +kernel)) (pi_range1 rfl T.z_range (pa_cons (pe_op op_add (pv 4) pe_int) pa_nil)) (blkOk_by (own := [("a", 10)]) (N := ["box", "row", "bests", "many", "most", "tables", "named", "turn", "at", "n", "a", "enough", "edge"]) (sc := defScope s_law_rests_right) (by decide +kernel)) (fun _ _ _ _ _ => (pg_name (i := 10) sc_law_rests_right.nd rfl (Or.inl rfl))) (fun _ _ _ _ _ => (pts_one (pt_val (pe_ix (kixl K) (pe_ix (kixl K) (pe_ix (kixl K) (pv 5) (pv 8) (fun _ _ => rfl)) (pv 9) (fun _ _ => rfl)) (pv 10) (fun _ _ => rfl))))) (fun _ _ _ _ _ => (pv 10)))
    (pss_cut (ps_set (i := 12) sc_law_rests_right.nd rfl (Or.inl rfl) (pe_ifExp (pt_cmpR (kneD K hr.units) (pv 11) (pe_lst pa_nil) (nomark _)) (pe_ix (kixl K) (pv 11) pe_int (fun _ _ => rfl)) (pv 4)))
    (pss_one (ps_for PassesOwn.never rfl (kpil K (pe_lst (pa_cons (pv 12) (pa_cons (pe_ifExp (pt_cmpR op_gt (pv 12) pe_int (nomark _)) (pe_op op_sub (pv 12) pe_int) (pe_call (ok_law_take T.toTA1) (hr.mono (by decide)) rfl T.law_take.m T.law_take.F.kp T.law_take.b .nil pass0 (pa_cons (pv 0) (pa_cons (pe_op op_add (pv 4) pe_int) pa_nil)))) pa_nil)))) (pg_name (i := 10) sc_law_rests_right.nd rfl (Or.inl rfl)) (pss_one (ps_if (pt_not (pt_val (pe_call (ok_law_same T.toTA1) (hr.mono (by decide)) rfl T.law_same.m T.law_same.F.kp T.law_same.b .nil pass0 (pa_cons (pe_call (ok_law_told T) (hr.mono (by decide)) rfl T.law_told.m T.law_told.F.kp T.law_told.b .nil pass0 (pa_cons (pe_slice (kslL K) (pv 1) (po_some (pv 8)) po_none) (pa_cons (pv 9) (pa_cons (pv 10) (pa_cons (pv 6) pa_nil))))) (pa_cons (pe_ix (kixl K) (pe_ix (kixl K) (pe_ix (kixl K) (pv 5) (pv 8) (fun _ _ => rfl)) (pv 9) (fun _ _ => rfl)) (pv 10) (fun _ _ => rfl)) pa_nil))))) (pss_one (ps_ret pe_bl)) pss_nil))))))))
    (pss_one (ps_ret pe_bl)))), ?_⟩
  obtain ⟨p', bs, hpe, hbs, hbl, _, _⟩ := rd_list3 hp
  cases hpe
  have bl : bs.length = N + 1 := by rw [hbl]; unfold bestsF; rw [List.length_map, List.length_range]
  have g16 := g.1
  refine ⟨_, rfl, _, N + 1, rfl, .inl ⟨bs, SqL.of hbs, bl.symm⟩, _, _, rfl, rfl, _, rfl, _, rfl, a, p, ns, N, j, ok, rfl, SqL.of ha, by omega, hN, hp, fun tp H1 e1 rt => ?_⟩
  refine ⟨_, rfl, b, 3, k + 19, rfl, by decide, by decide, hB.ex e1, fun nm H2 _ _ B2 k2 => ⟨three_le, fun t ht => ⟨t, _, rfl, SqT.of upd_same, rfl, _, _, rfl, _, _, rfl, _, _, rfl, rfl, ?_⟩⟩⟩
  have e3 := Ex.new (o := .tup [.int (((N + 1 : Nat) : Int) - 1), .ref tp, .int nm]) ht
  have kb3 := ((But.of (b := b) e1).trans k2).trans (But.of e3)
  have B3 := B2.ex e3
  have rt3 : Rd K (fun a => a ≠ b) _ 3 (.ref tp) (tablesD N ns) := ((rt.of fun a h => hB.ne h).but k2 (fun a h => h)).ex e3
  generalize upd H2 t (.tup [.int (((N + 1 : Nat) : Int) - 1), .ref tp, .int nm]) = H3 at e3 kb3 B3 rt3 ⊢
  refine ⟨_, rfl, many, rfl, by omega, by omega, for_range (lo := 0) (n := many.toNat) (fun i σ H' => BoxAt H' b (k + 3 * (5 - i)) ∧ But b H3 H' ∧ ∃ v7 v8 v9 v10 v11 v12 : Option V, σ = [some (.ref b), some (.ref a), some (.ref p), some (.int many), some (.int (((N + 1 : Nat) : Int) - 1)), some (.ref tp), some (.int nm), v7, v8, v9, v10, v11, v12]) ⟨B3.le (by omega), But.of (Ex.refl _), _, _, _, _, _, _, rfl⟩ ?_ ?_⟩
  · rintro i σ H' hi ⟨B, kb, v7, v8, v9, v10, v11, v12, rfl⟩
    rw [Int.zero_add]
    have ha' := kb _ _ ab (kb3 _ _ ab ha)
    refine ⟨_, rfl, _, rfl, _, ns.length, rfl, .inl ⟨_, SqL.of ha', (List.length_map ..).symm⟩, _, _, rfl, rfl, b, (ns.length : Int) + 1, k + 3 * (5 - i) - 1, rfl, by omega, by omega, B.le (by omega), fun at1 H4 a0 a1 B4 k4 => ⟨two_le, fun l hl => ?_⟩⟩
    obtain ⟨v, hv, hv2⟩ := at_get (xs := [0, at1].map V.int) (Int.emod_nonneg (i : Int) (show (2 : Int) ≠ 0 by decide)) (by have := Int.emod_lt_of_pos (i : Int) (show (0 : Int) < 2 by decide); show (i : Int) % 2 < 2; exact this)
    obtain ⟨y, hy, rfl⟩ := ints_get hv2
    have hym := List.mem_of_getElem? hy
    obtain ⟨At, hAt, hAl⟩ : ∃ At : Nat, y = (At : Int) ∧ At ≤ ns.length := by
      simp only [List.mem_cons, List.not_mem_nil, or_false] at hym
      exact ⟨y.toNat, by omega, by omega⟩
    subst hAt
    have e5 := Ex.new (o := .lst [.int 0, .int at1]) hl
    refine ⟨_, rfl, .inl ⟨_, rfl, _, _, rfl, rfl, (by show (0 : Int) < 2; decide), l, _, _, .int (At : Int), rfl, rfl, SqL.of upd_same, hv, ?_⟩⟩
    refine ⟨_, rfl, _, rfl, _, _, rfl, rfl, b, ((N + 1 : Nat) : Int) - 1 + 1, k + 3 * (5 - i) - 2, rfl, by omega, by omega, (B4.ex e5).le (by omega), fun n H6 n0 n1 B6 k6 => ⟨two_le, fun t2 ht2 => ⟨t2, _, rfl, SqT.of upd_same, rfl, _, _, rfl, _, _, rfl, rfl, ?_⟩⟩⟩
    obtain ⟨n, rfl⟩ : ∃ n' : Nat, n = (n' : Int) := ⟨n.toNat, by omega⟩
    have e7 := Ex.new (o := .tup [.int (At : Int), .int (n : Int)]) ht2
    have kb7 := (((kb.trans k4).trans (But.of e5)).trans k6).trans (But.of e7)
    have B7 := B6.ex e7
    generalize upd H6 t2 (.tup [.int (At : Int), .int (n : Int)]) = H7 at e7 kb7 B7 ⊢
    have nN : n ≤ N := by omega
    have tabs : ∀ (G : Hp), But b H3 G → ∃ xs q1 ys q2 zs, G tp = some (.lst xs) ∧ xs[At]? = some (.ref q1) ∧ G q1 = some (.lst ys) ∧ ys[n]? = some (.ref q2) ∧ G q2 = some (.lst zs) ∧ ∀ a, a ≤ N → zs[a]? = some (.bl (tabF (ns.drop At) n a)) := fun G kg => by
      obtain ⟨tp', xs, hte, htx, tall⟩ := rd_tables (rt3.but kg (fun a h => h))
      cases hte
      obtain ⟨q1, ys, h1, h2, h3⟩ := tall At hAl
      obtain ⟨q2, zs, h4, h5, h6⟩ := h3 n nN
      exact ⟨xs, q1, ys, q2, zs, htx, h1, h2, h4, h5, h6⟩
    obtain ⟨xs, q1, ys, q2, zs, t1, t2', t3, t4, t5, t6⟩ := tabs H7 kb7
    have c1 := el_lcR1 (σ := [some (.ref b), some (.ref a), some (.ref p), some (.int many), some (.int (((N + 1 : Nat) : Int) - 1)), some (.ref tp), some (.int nm), some (.int (i : Int)), some (.int (At : Int)), some (.int (n : Int)), v10, v11, v12]) (H := H7)
      (ta := tCons (tOp (rI0 fun i j => V.int (i + j)) (tVar 4) (tC (V.int 1))) tNil) (t := tB (tOp (rIxL K) (tOp (rIxL K) (tOp (rIxL K) (tVar 5) (tVar 8)) (tVar 9)) (tVar 10))) (te := tVar 10) (j := 10) (vs := [10]) (n := ((N + 1 : Nat) : Int) - 1 + 1) (fun a => tabF (ns.drop At) n a) (fun a => .int (a : Int))
      (ea_cons (ev_op (ev_var rfl) ev_c rv_I0) ea_nil) ⟨by omega, by omega⟩ (fun _ => rfl)
      (fun r G2 eg2 hr2 => et_B (ev_op (ev_op (ev_op (ev_var rfl) (ev_var rfl) (rv_ixL (SqL.of (eg2 _ _ t1)) (atI_nat t2'))) (ev_var rfl) (rv_ixL (SqL.of (eg2 _ _ t3)) (atI_nat t4))) (ev_var rfl) (rv_ixL (SqL.of (eg2 _ _ t5)) (atI_nat (t6 r (by omega)))))) (fun r G2 eg2 hr2 _ => ev_var rfl)
    rw [given_ints, show (((N + 1 : Nat) : Int) - 1 + 1).toNat = N + 1 by omega] at c1
    have lin : ∀ z ∈ ((List.range (N + 1)).filter fun a => tabF (ns.drop At) n a).map fun l : Nat => (l : Int), ∃ E : Nat, z = (E : Int) ∧ E ≤ N := fun z hz => by
      obtain ⟨E, hE, rfl⟩ := List.mem_map.mp hz
      have := List.mem_range.mp (List.mem_filter.mp hE).1
      exact ⟨E, rfl, by omega⟩
    have llen : (((List.range (N + 1)).filter fun a => tabF (ns.drop At) n a).map fun l : Nat => (l : Int)).length ≤ 17 := by
      have := List.length_filter_le (fun a => tabF (ns.drop At) n a) (List.range (N + 1))
      rw [List.length_range] at this
      rw [List.length_map]
      omega
    generalize ((List.range (N + 1)).filter fun a => tabF (ns.drop At) n a).map (fun l : Nat => (l : Int)) = L at c1 lin llen
    refine el_seq (i := 11) c1 fun w G hw eg hwv => ?_
    have BG := B7.ex eg
    have kG := kb7.trans (But.of eg)
    refine ⟨fun σ G' => BoxAt G' b (k + 3 * (5 - i) - 2) ∧ But b H3 G' ∧ ∃ E : Nat, E ≤ N ∧ σ = [some (.ref b), some (.ref a), some (.ref p), some (.int many), some (.int (((N + 1 : Nat) : Int) - 1)), some (.ref tp), some (.int nm), some (.int (i : Int)), some (.int (At : Int)), some (.int (n : Int)), v10, some (.ref w), some (.int (E : Int))], ?_, ?_⟩
    · refine ⟨_, rfl, Nat.zero_le _, fun z hz => ?_⟩
      have ez := Ex.new (o := .lst []) hz
      have rdw : Rd K (fun _ => True) (upd G z (.lst [])) 1 (.ref w) (.list (L.map PyData.int)) := rd_ilist (ez _ _ hwv) trivial (by omega)
      have rde : Rd K (fun _ => True) (upd G z (.lst [])) 1 (.ref z) (.list []) := .lst upd_same trivial rfl (Nat.zero_le _) (fun i x d hx _ => by cases hx)
      refine ⟨_, _, rdw.dp, rde.dp, rdw.shaped (by omega), rde.shaped (by omega), _, rfl, ?_⟩
      cases L with
      | nil =>
        refine iteF ⟨_, rfl, BG.ex ez, kG.trans (But.of ez), N, Nat.le_refl _, ?_⟩
        rw [show ((N : Nat) : Int) = ((N + 1 : Nat) : Int) - 1 by omega]
        rfl
      | cons x r =>
        obtain ⟨E, rfl, hE⟩ := lin x List.mem_cons_self
        exact iteT ⟨_, rfl, w, _, 0, .int (E : Int), rfl, rfl, SqL.of (ez _ _ hwv), at_of (show (0 : Int) = ((0 : Nat) : Int) from rfl) rfl, BG.ex ez, kG.trans (But.of ez), E, hE, rfl⟩
    · rintro σ G1 ⟨B1, k1, E, hE, rfl⟩
      have run : ∀ Q : VK, (∀ (y : Nat) G, y ≤ N → BoxAt G b (k + 3 * (5 - i) - 3) → But b G1 G → Q (.int (y : Int)) G) → tIf (tTest (tOp (rI0 fun i j => V.bl (decide (j < i))) (tVar 12) (tC (V.int 0)))) (tOp (rI0 fun i j => V.int (i - j)) (tVar 12) (tC (V.int 1))) (tCall spTake [] E0 (tCons (tVar 0) (tCons (tOp (rI0 fun i j => V.int (i + j)) (tVar 4) (tC (V.int 1))) tNil)))
          [some (.ref b), some (.ref a), some (.ref p), some (.int many), some (.int (((N + 1 : Nat) : Int) - 1)), some (.ref tp), some (.int nm), some (.int (i : Int)), some (.int (At : Int)), some (.int (n : Int)), v10, some (.ref w), some (.int (E : Int))] G1 Q := fun Q kk => by
        refine ⟨_, rfl, _, _, rfl, rfl, _, rfl, ite2 (fun c => ⟨_, rfl, _, _, rfl, rfl, ?_⟩) (fun c => ⟨_, rfl, _, rfl, _, _, rfl, rfl, b, ((N + 1 : Nat) : Int) - 1 + 1, k + 3 * (5 - i) - 3, rfl, by omega, by omega, B1.le (by omega), fun r G2 r0 r1 B2 k2 => ?_⟩)⟩
        · have c := of_decide_eq_true c
          have := kk (E - 1) G1 (by omega) (B1.le (by omega)) (But.of (Ex.refl _))
          rw [show ((E - 1 : Nat) : Int) = (E : Int) - 1 by omega] at this
          exact this
        · have := kk r.toNat G2 (by omega) B2 k2
          rw [Int.toNat_of_nonneg r0] at this
          exact this
      refine ⟨_, rfl, run _ fun y G2 hy B2 k2 => ⟨two_le, fun Ls hLs => ?_⟩⟩
      have e8 := Ex.new (o := .lst [.int (E : Int), .int (y : Int)]) hLs
      have hL8 := upd_same (H := G2) (a := Ls) (o := .lst [.int (E : Int), .int (y : Int)])
      have Lb : Ls ≠ b := B2.ne hLs
      have B8 := B2.ex e8
      have k8 := (k1.trans k2).trans (But.of e8)
      generalize upd G2 Ls (.lst [.int (E : Int), .int (y : Int)]) = H8 at e8 hL8 B8 k8 ⊢
      refine ⟨Ls, rfl, ⟨_, SqL.of hL8⟩, for_list (xs := [.int (E : Int), .int (y : Int)]) (fun j σ H' => Ex H8 H' ∧ ∃ v10 : Option V, σ = [some (.ref b), some (.ref a), some (.ref p), some (.int many), some (.int (((N + 1 : Nat) : Int) - 1)), some (.ref tp), some (.int nm), some (.int (i : Int)), some (.int (At : Int)), some (.int (n : Int)), v10, some (.ref w), some (.int (E : Int))]) ⟨Ex.refl _, _, rfl⟩ (fun j σ H' _ p => SqL.of (p.1 _ _ hL8)) ?_ ?_⟩
      · rintro jj v σ H9 hj ⟨e9, u10, rfl⟩
        have hj2 : jj < 2 := (List.getElem?_eq_some_iff.mp hj).1
        obtain ⟨z, rfl, hz⟩ : ∃ z : Nat, v = .int (z : Int) ∧ z ≤ N := by
          match jj, hj2, hj with
          | 0, _, hj => cases hj; exact ⟨E, rfl, hE⟩
          | 1, _, hj => cases hj; exact ⟨y, rfl, hy⟩
        have ha9 := e9 _ _ (k8 _ _ ab (kb3 _ _ ab ha))
        refine ⟨_, rfl, _, rfl, (At : Int), rfl, a, _, rfl, SqL.of ha9, fun c hc => ?_⟩
        have ec := Ex.new (o := .lst (cutV (ns.map V.int) (some (At : Int)) none)) hc
        have cd : cutV (ns.map V.int) (some (At : Int)) none = (ns.drop At).map V.int := by
          rw [cutV_drop (by rw [List.length_map]; exact hAl), List.map_drop]
        refine ⟨_, rfl, _, rfl, _, rfl, c, ns.drop At, n, z, nm, rfl, by rw [upd_same, cd], drop_good g, by omega, by omega, fun H10 e10 => ?_⟩
        have k10 := ((k8.trans (But.of e9)).trans (But.of ec)).trans (But.of e10)
        obtain ⟨xs, q1, ys, q2, zs, t1, t2', t3, t4, t5, t6⟩ := tabs H10 k10
        refine ⟨_, rfl, _, rfl, tp, _, _, .ref q1, rfl, rfl, SqL.of t1, atI_nat t2', _, rfl, q1, _, _, .ref q2, rfl, rfl, SqL.of t3, atI_nat t4, _, rfl, q2, _, _, .bl _, rfl, rfl, SqL.of t5, atI_nat (t6 z hz), _, _, rfl, .bl _, fun H11 e11 => ⟨_, rfl, iteF ⟨((e9.trans ec).trans e10).trans e11, _, rfl⟩⟩⟩
      · rintro σ H9 ⟨e9, u10, rfl⟩
        exact ⟨(B8.ex e9).le (by omega), k8.trans (But.of e9), _, _, _, _, _, _, rfl⟩
  · rintro σ H' ⟨B, kb, v7, v8, v9, v10, v11, v12, rfl⟩
    exact q H' (B.le (by omega)) (kb3.trans kb)
end
end L2.U


set_option Elab.async false
set_option linter.all false
set_option maxRecDepth 100000
set_option maxHeartbeats 4000000
namespace L2.U
open PySem PySem.Spec PyProof.Rows Evl

section
variable {P : Program} {w : World} {K : PySem.W.Frag} {mg : Str → Option Value} {base : Heap}
theorem rd_bests2 {ok : Addr → Prop} {H : Hp} {j N : Nat} {x : V} (h : Rd K ok H (j + 1) x (list3 (bestsF N))) : ∃ p vs, x = .ref p ∧ H p = some (.lst vs) ∧ vs.length = N + 1 ∧ ∀ n, n ≤ N → ∃ b us, vs[n]? = some (.ref b) ∧ H b = some (.lst us) ∧ ∀ r, r ≤ n → ∃ c, us[r]? = some (.ref c) ∧ H c = some (.lst (((List.range (n - r)).map fun l => mostF n r l).map V.int)) := by
  obtain ⟨p, vs, rfl, hp, hlen, _, all⟩ := rd_list3 h
  refine ⟨p, vs, rfl, hp, by rw [hlen]; unfold bestsF; rw [List.length_map, List.length_range], fun n hn => ?_⟩
  have e0 : (bestsF N)[n]? = some (bestRow n) := by
    unfold bestsF
    rw [List.getElem?_map, List.getElem?_range (by omega)]
    rfl
  have ln : n < vs.length := by rw [hlen]; exact (List.getElem?_eq_some_iff.mp e0).1
  obtain ⟨t, e1, r1⟩ := all n _ (List.getElem?_eq_getElem ln)
  rw [e0] at e1
  cases e1
  obtain ⟨b, us, e2, hb, hul, _, uall⟩ := rd_list2 r1
  refine ⟨b, us, by rw [List.getElem?_eq_getElem ln, e2], hb, fun r hr => ?_⟩
  have e3 : (bestRow n)[r]? = some ((List.range (n - r)).map fun l => mostF n r l) := by
    unfold bestRow
    rw [List.getElem?_map, List.getElem?_range (by omega)]
    rfl
  have lr : r < us.length := by rw [hul]; exact (List.getElem?_eq_some_iff.mp e3).1
  obtain ⟨c, t, e4, e5, hc⟩ := uall r _ (List.getElem?_eq_getElem lr)
  rw [e3] at e5
  cases e5
  exact ⟨c, by rw [List.getElem?_eq_getElem lr, e4], hc⟩
def spReach (K : PySem.W.Frag) : Sp := fun vs H Q _ => ∃ (p : Addr) (n a N j : Nat) (ok : Addr → Prop), vs = [.ref p, .int (n : Int), .int (a : Int)] ∧ Rd K ok H (j + 1) (.ref p) (list3 (bestsF N)) ∧ n ≤ N ∧ N ≤ 16 ∧ a ≤ 100 ∧ ∀ x H', 0 ≤ x → x ≤ 1000000000000000000 → Ex H H' → Q (.int x) H'
theorem ok_law_reach (T : TK K mg) : FnOk P w K mg base CX0 1 T.law_reach.a T.law_reach.fd ["bests", "n", "a"] (spReach K) := by
  refine T.law_reach.F.ok sc_law_reach (fun vs H Q E h => ?_) (fun cdv A outer s H vs Q E hr h => ?_)
  · obtain ⟨p, n, a, N, j, ok, rfl, _⟩ := h; rfl
  obtain ⟨p, n, a, N, j, ok, rfl, hp, hn, hN, ha, q⟩ := h
  refine ⟨_, (pss_cons (ps_set (i := 3) sc_law_reach.nd rfl (Or.inl rfl) pe_int)
    (pss_cons (ps_for PassesOwn.never rfl (pi_range1 rfl T.z_range (pa_cons (pe_op op_add (pe_callB (call_min2 rfl) (by rfl) T.z_min (by decide +kernel) (pa_cons (pv 2) (pa_cons (pe_op op_sub (pv 1) pe_int) pa_nil))) pe_int) pa_nil)) (pg_name (i := 4) sc_law_reach.nd rfl (Or.inl rfl)) (pss_one (ps_set (i := 3) sc_law_reach.nd rfl (Or.inl rfl) (pe_callB (kmax K rfl) (by rfl) T.z_max (by decide +kernel) (pa_cons (pe_op op_cat (pe_lst (pa_cons (pv 3) pa_nil)) (pe_ix (kixl K) (pe_ix (kixl K) (pv 0) (pv 1) (fun _ _ => rfl)) (pv 4) (fun _ _ => rfl))) pa_nil)))))
    (pss_one (ps_ret (pv 3))))), ?_⟩
  obtain ⟨p', bs, hpe, hbs, _, ball⟩ := rd_bests2 hp
  cases hpe
  obtain ⟨b1, us, hb1, hus, uall⟩ := ball n hn
  obtain ⟨M, hM, hM0, hMn⟩ : ∃ M : Int, (if (n : Int) - 1 < (a : Int) then (n : Int) - 1 else (a : Int)) + 1 = M ∧ 0 ≤ M ∧ M ≤ (n : Int) := ⟨_, rfl, by split <;> omega, by split <;> omega⟩
  refine ⟨_, rfl, _, rfl, _, _, rfl, rfl, _, _, rfl, _, _, rfl, rfl, M, by rw [← hM], by omega, by omega, for_range (lo := 0) (n := M.toNat) (fun i σ H' => Ex H H' ∧ ∃ (x : Int) (v4 : Option V), 0 ≤ x ∧ x ≤ 1000000000000000000 ∧ σ = [some (.ref p), some (.int (n : Int)), some (.int (a : Int)), some (.int x), v4]) ⟨Ex.refl _, 0, _, Int.le_refl _, by decide, rfl⟩ ?_ ?_⟩
  · rintro i σ H' hi ⟨e, x, v4, x0, x1, rfl⟩
    rw [Int.zero_add]
    have hin : i < n := by omega
    obtain ⟨c, hc, hcs⟩ := uall i (by omega)
    refine ⟨_, rfl, one_le, fun l hl => ?_⟩
    have el := Ex.new (o := .lst [.int x]) hl
    refine ⟨_, rfl, _, rfl, p, _, _, .ref b1, rfl, rfl, SqL.of (el _ _ (e _ _ hbs)), atI_nat hb1, _, rfl, b1, _, _, .ref c, rfl, rfl, SqL.of (el _ _ (e _ _ hus)), atI_nat hc, ?_⟩
    refine ⟨l, c, _, _, rfl, rfl, upd_same, el _ _ (e _ _ hcs), Nat.le_of_lt (small1000 (by rw [List.length_map, List.length_map, List.length_range]; show 1 + _ ≤ 1000; omega)), fun u hu => ?_⟩
    have eu := Ex.new (o := .lst ([.int x] ++ ((List.range (n - i)).map fun l => mostF n i l).map V.int)) hu
    refine ⟨u, x :: (List.range (n - i)).map fun l => mostF n i l, rfl, SqL.of (by rw [upd_same]; rfl), Nat.succ_pos _, fun m hm _ => ?_⟩
    have mr : 0 ≤ m ∧ m ≤ 1000000000000000000 := by
      rcases List.mem_cons.mp hm with h | h
      · omega
      · obtain ⟨lv, hlv, rfl⟩ := List.mem_map.mp h
        have := List.mem_range.mp hlv
        have mi := most_in ⟨n, by omega⟩ ⟨i, by omega⟩ ⟨lv, by omega⟩ (by show lv + i < n; omega)
        simp only at mi
        omega
    exact ⟨(e.trans el).trans eu, m, _, mr.1, mr.2, rfl⟩
  · rintro σ H' ⟨e, x, v4, x0, x1, rfl⟩
    exact ⟨_, rfl, q x H' x0 x1 e⟩
theorem half_in : ∀ n : Fin 9, 6 ≤ n.val → 20 ≤ (arrUp [(n.val : Int) / 2, (n.val : Int) - (n.val : Int) / 2]).1 ∧ (arrUp [(n.val : Int) / 2, (n.val : Int) - (n.val : Int) / 2]).1 ≤ 100 := by decide +kernel
theorem last_of {L : List Int} (h : L ≠ []) : ∃ v, v ∈ L ∧ atI (L.map V.int) (-1) = some (.int v) := by
  rcases List.eq_nil_or_concat L with e | ⟨us, v, rfl⟩
  · exact absurd e h
  · refine ⟨v, by simp, ?_⟩
    rw [List.concat_eq_append, List.map_append]
    exact at_neg1
def spTraded (K : PySem.W.Frag) : Sp := fun vs H Q _ => ∃ (b p : Addr) (k j : Nat) (ok : Addr → Prop), vs = [.ref b, .ref p] ∧ BoxAt H b (k + 10) ∧ Rd K ok H (j + 1) (.ref p) (list3 (bestsF 8)) ∧ (∀ a, ok a → a ≠ b) ∧ ∀ H', BoxAt H' b k → But b H H' → Q (.bl true) H'
theorem ok_law_traded_right (T : TK K mg) : FnOk P w K mg base CX0 11 T.law_traded_right.a T.law_traded_right.fd ["box", "bests"] (spTraded K) := by
  refine T.law_traded_right.F.ok sc_law_traded_right (fun vs H Q E h => ?_) (fun cdv A outer s H vs Q E hr h => ?_)
  · obtain ⟨b, p, k, j, ok, rfl, _⟩ := h; rfl
  obtain ⟨b, p, k, j, ok, rfl, hB, hp, okb, q⟩ := h
  refine ⟨_, (pss_cons (ps_asg (pe_tup (pa_cons (pe_op op_add pe_int (pe_call (ok_law_take T.toTA1) (hr.mono (by decide)) rfl T.law_take.m T.law_take.F.kp T.law_take.b .nil pass0 (pa_cons (pv 0) (pa_cons (pe_op op_sub (pe_callB (klen K) (by rfl) T.z_len (by decide +kernel) (pa_cons (pv 1) pa_nil)) pe_int) pa_nil)))) (pa_cons (pe_op op_add pe_int (pe_call (ok_law_take T.toTA1) (hr.mono (by decide)) rfl T.law_take.m T.law_take.F.kp T.law_take.b .nil pass0 (pa_cons (pv 0) (pa_cons pe_int pa_nil)))) (pa_cons (pe_call (ok_law_take T.toTA1) (hr.mono (by decide)) rfl T.law_take.m T.law_take.F.kp T.law_take.b .nil pass0 (pa_cons (pv 0) (pa_cons pe_int pa_nil))) pa_nil)))) (pg_tup (by rfl) (pgs_cons (pg_name (i := 2) sc_law_traded_right.nd rfl (Or.inr rfl)) (pgs_cons (pg_name (i := 3) sc_law_traded_right.nd rfl (Or.inl rfl)) (pgs_cons (pg_name (i := 4) sc_law_traded_right.nd rfl (Or.inl rfl)) pgs_nil)))))
    (pss_cons (ps_asg (pe_tup (pa_cons (pe_op op_sub (pe_call (ok_law_arranged T) (hr.mono (by decide)) rfl T.law_arranged.m T.law_arranged.F.kp T.law_arranged.b .nil pass0 (pa_cons (pe_lst (pa_cons (pe_op op_fdiv (pv 2) pe_int) (pa_cons (pe_op op_sub (pv 2) (pe_op op_fdiv (pv 2) pe_int)) pa_nil))) pa_nil)) (pv 4)) (pa_cons (pe_lst (pa_cons pe_int pa_nil)) (pa_cons (pe_call (ok_law_take T.toTA1) (hr.mono (by decide)) rfl T.law_take.m T.law_take.F.kp T.law_take.b .nil pass0 (pa_cons (pv 0) (pa_cons pe_int pa_nil))) pa_nil)))) (pg_tup (by rfl) (pgs_cons (pg_name (i := 5) sc_law_traded_right.nd rfl (Or.inr rfl)) (pgs_cons (pg_name (i := 6) sc_law_traded_right.nd rfl (Or.inl rfl)) (pgs_cons (pg_name (i := 7) sc_law_traded_right.nd rfl (Or.inl rfl)) pgs_nil)))))
    (pss_cons (ps_for PassesOwn.never rfl (pi_range1 rfl T.z_range (pa_cons (pe_callB (call_min2 rfl) (by rfl) T.z_min (by decide +kernel) (pa_cons (pv 3) (pa_cons (pv 2) pa_nil))) pa_nil)) (pg_name (i := 8) sc_law_traded_right.nd rfl (Or.inr rfl)) (pss_cons (ps_setLc (i := 9) (own := [("left", 11)]) (g := gName 11) (by rfl) sc_law_traded_right.nd rfl rfl (sw_true rfl rfl rfl (by decide +kernel)) (pi_range1 rfl T.z_range (pa_cons (pe_op op_sub (pv 2) (pv 8)) pa_nil)) (blkOk_by (own := [("left", 11)]) (N := ["box", "bests", "n", "a", "less", "number", "found", "named", "r", "lefts", "last", "left"]) (sc := defScope s_law_traded_right) (by decide +kernel)) (fun _ _ _ _ _ => (pg_name (i := 11) sc_law_traded_right.nd rfl (Or.inl rfl))) (fun _ _ _ _ _ => (pts_one (pt_cmpR op_ge (pe_ix (kixl K) (pe_ix (kixl K) (pe_ix (kixl K) (pv 1) (pv 2) (fun _ _ => rfl)) (pv 8) (fun _ _ => rfl)) (pv 11) (fun _ _ => rfl)) (pv 5) (nomark _)))) (fun _ _ _ _ _ => (pv 11)))
    (pss_one (ps_if (pt_cmpR (kneD K hr.units) (pv 9) (pe_lst pa_nil) (nomark _)) (pss_one (ps_expr (pe_bm PySem.F.plainAttrs_list PySem.F.slot_list_append PySem.F.type_list_append mt_append (pv 6) (pa_cons (pe_call (ok_law_reach T) (hr.mono (by decide)) rfl T.law_reach.m T.law_reach.F.kp T.law_reach.b .nil pass0 (pa_cons (pv 1) (pa_cons (pe_ix (kixl K) (pv 9) (pe_un un_neg pe_int) (fun _ _ => rfl)) (pa_cons (pe_op op_sub (pe_op op_sub (pv 3) (pv 8)) pe_int) pa_nil)))) pa_nil)))) pss_nil))))
    (pss_cons (ps_for PassesOwn.never rfl (kpil K (pe_lst (pa_cons (pe_callB (kmax K rfl) (by rfl) T.z_max (by decide +kernel) (pa_cons (pv 6) pa_nil)) (pa_cons (pe_op op_add (pe_callB (kmax K rfl) (by rfl) T.z_max (by decide +kernel) (pa_cons (pv 6) pa_nil)) pe_int) pa_nil)))) (pg_name (i := 10) sc_law_traded_right.nd rfl (Or.inl rfl)) (pss_one (ps_if (pt_not (pt_val (pe_call (ok_law_same T.toTA1) (hr.mono (by decide)) rfl T.law_same.m T.law_same.F.kp T.law_same.b .nil pass0 (pa_cons (pe_call (ok_law_told T) (hr.mono (by decide)) rfl T.law_told.m T.law_told.F.kp T.law_told.b .nil pass0 (pa_cons (pe_lst (pa_cons (pv 5) (pa_cons pe_int (pa_cons (pv 10) pa_nil)))) (pa_cons (pv 2) (pa_cons (pv 3) (pa_cons (pv 7) pa_nil))))) (pa_cons (pe_ix (kixl K) (pe_ix (kixl K) (pe_ix (kixl K) (pe_call (ok_law_tables T) (hr.mono (by decide)) rfl T.law_tables.m T.law_tables.F.kp T.law_tables.b .nil pass0 (pa_cons (pe_lst (pa_cons (pv 5) (pa_cons pe_int (pa_cons (pv 10) pa_nil)))) (pa_cons (pv 1) pa_nil))) pe_int (fun _ _ => rfl)) (pv 2) (fun _ _ => rfl)) (pv 3) (fun _ _ => rfl)) pa_nil))))) (pss_one (ps_ret pe_bl)) pss_nil)))
    (pss_one (ps_ret pe_bl)))))), ?_⟩
  obtain ⟨p', bs, hpe, hbs, hbl, _⟩ := rd_bests2 hp
  cases hpe
  refine ⟨_, rfl, _, rfl, _, 9, rfl, .inl ⟨bs, SqL.of hbs, hbl.symm⟩, _, _, rfl, rfl, b, ((9 : Nat) : Int) - 6, k + 9, rfl, by decide, by decide, hB, fun n0 H1 n0a n0b B1 k1 => ⟨_, _, rfl, rfl, ?_⟩⟩
  refine ⟨_, rfl, b, 4, k + 8, rfl, by decide, by decide, B1, fun a0 H2 a0a a0b B2 k2 => ⟨_, _, rfl, rfl, ?_⟩⟩
  refine ⟨_, rfl, b, 3, k + 7, rfl, by decide, by decide, B2, fun less H3 ls0 ls1 B3 k3 => ⟨three_le, fun t ht => ⟨t, _, rfl, SqT.of upd_same, rfl, _, _, rfl, _, _, rfl, _, _, rfl, rfl, ?_⟩⟩⟩
  have e4 := Ex.new (o := .tup [.int (6 + n0), .int (2 + a0), .int less]) ht
  have kb4 := ((k1.trans k2).trans k3).trans (But.of e4)
  have B4 := B3.ex e4
  generalize upd H3 t _ = H4 at e4 kb4 B4 ⊢
  obtain ⟨N, hN, hN6, hN8⟩ : ∃ N : Nat, 6 + n0 = (N : Int) ∧ 6 ≤ N ∧ N ≤ 8 := ⟨(6 + n0).toNat, by omega, by omega, by omega⟩
  obtain ⟨A, hA, hA5⟩ : ∃ A : Nat, 2 + a0 = (A : Int) ∧ A ≤ 5 := ⟨(2 + a0).toNat, by omega, by omega⟩
  have half := half_in ⟨N, by omega⟩ hN6
  simp only at half
  rw [← hN] at half
  refine ⟨_, rfl, _, _, rfl, rfl, ⟨by omega, by omega⟩, _, rfl, _, rfl, _, _, rfl, rfl, ⟨by omega, by omega⟩, _, _, rfl, rfl, two_le, fun l hl => ?_⟩
  refine ⟨l, [(6 + n0) / 2, (6 + n0) - (6 + n0) / 2], rfl, SqL.of upd_same, (fun z hz => by simp only [List.mem_cons, List.not_mem_nil, or_false] at hz; omega), (by show _ + (_ + 0) ≤ (16 : Int); omega), fun H5 e5 => ?_⟩
  have e45 := (Ex.new (o := .lst ([(6 + n0) / 2, (6 + n0) - (6 + n0) / 2].map V.int)) hl).trans e5
  refine ⟨_, rfl, _, _, rfl, rfl, one_le, fun F hF => ?_⟩
  have e6 := Ex.new (o := .lst [.int 1]) hF
  have kb6 := (kb4.trans (But.of e45)).trans (But.of e6)
  have B6 := (B4.ex e45).ex e6
  have F0 : H F = none := but_fresh (kb4.trans (But.of e45)) hB (B4.ex e45) hF
  have Fb : F ≠ b := hB.ne F0
  refine ⟨_, rfl, b, 3, k + 6, rfl, by decide, by decide, B6, fun nm H7 _ _ B7 k7 => ⟨three_le, fun t2 ht2 => ⟨t2, _, rfl, SqT.of upd_same, rfl, _, _, rfl, _, _, rfl, _, _, rfl, rfl, ?_⟩⟩⟩
  have hF7 := k7 _ _ Fb (upd_same (H := H5) (a := F) (o := .lst [.int 1]))
  generalize hY : (arrUp [(6 + n0) / 2, (6 + n0) - (6 + n0) / 2]).1 = Y at half ht2 ⊢
  have e8 := Ex.new (o := .tup [.int (Y - less), .ref F, .int nm]) ht2
  have kb8 := (kb6.trans k7).trans (But.of e8)
  have B8 := B7.ex e8
  have hF8 := e8 _ _ hF7
  generalize upd H7 t2 _ = H8 at e8 kb8 B8 hF8 ⊢
  obtain ⟨M, hM, hM0, hMa, hMn⟩ : ∃ M : Int, (if 6 + n0 < 2 + a0 then 6 + n0 else 2 + a0) = M ∧ 0 ≤ M ∧ M ≤ 2 + a0 ∧ M ≤ 6 + n0 := ⟨_, rfl, by split <;> omega, by split <;> omega, by split <;> omega⟩
  refine ⟨_, rfl, _, rfl, _, _, rfl, M, by rw [← hM], by omega, by omega, for_range (lo := 0) (n := M.toNat) (fun r σ H' => BoxAt H' b (k + 6) ∧ But b H H' ∧ ∃ (zs : List Int) (v8 v9 : Option V), H' F = some (.lst (zs.map V.int)) ∧ zs.length ≤ 1 + r ∧ 1 ∈ zs ∧ (∀ z ∈ zs, 0 ≤ z ∧ z ≤ 1000000000000000000) ∧ σ = [some (.ref b), some (.ref p), some (.int (6 + n0)), some (.int (2 + a0)), some (.int less), some (.int (Y - less)), some (.ref F), some (.int nm), v8, v9, none, none])
    ⟨B8, kb8, [1], _, _, hF8, Nat.le_refl _, List.mem_cons_self, (fun z hz => by rw [List.mem_singleton] at hz; omega), rfl⟩ ?_ ?_⟩
  · rintro r σ H9 hr9 ⟨B9, kb9, zs, v8, v9, hF9, hzl, h1, hz, rfl⟩
    rw [Int.zero_add]
    have hrN : r < N := by omega
    have rd9 := hp.but kb9 okb
    obtain ⟨p', vs9, hpe, hvs, _, ball⟩ := rd_bests2 rd9
    cases hpe
    obtain ⟨b1, us, hb1, hus, uall⟩ := ball N hN8
    obtain ⟨c, hc, hcs⟩ := uall r (by omega)
    have c1 := el_lcR1 (σ := [some (.ref b), some (.ref p), some (.int (6 + n0)), some (.int (2 + a0)), some (.int less), some (.int (Y - less)), some (.ref F), some (.int nm), some (.int (r : Int)), v9, none, none]) (H := H9)
      (ta := tCons (tOp (rI0 fun i j => V.int (i - j)) (tVar 2) (tVar 8)) tNil) (t := tTest (tOp (rI0 fun i j => V.bl (decide (j ≤ i))) (tOp (rIxL K) (tOp (rIxL K) (tOp (rIxL K) (tVar 1) (tVar 2)) (tVar 8)) (tVar 11)) (tVar 5))) (te := tVar 11) (j := 11) (vs := [11]) (n := 6 + n0 - (r : Int)) (fun l => decide (Y - less ≤ mostF N r l)) (fun l => .int (l : Int))
      (ea_cons (ev_op (ev_var rfl) (ev_var rfl) rv_I0) ea_nil) ⟨by omega, by omega⟩ (fun _ => rfl)
      (fun l G2 eg2 hl2 => et_test (ev_op (ev_op (ev_op (ev_op (ev_var rfl) (ev_var rfl) (rv_ixL (SqL.of (eg2 _ _ hvs)) (at_of hN hb1))) (ev_var rfl) (rv_ixL (SqL.of (eg2 _ _ hus)) (atI_nat hc))) (ev_var rfl) (rv_ixL (SqL.of (eg2 _ _ hcs)) (atI_nat (v := .int (mostF N r l)) (by rw [List.getElem?_map, List.getElem?_map, List.getElem?_range (by omega)]; rfl)))) (ev_var rfl) rv_I0)) (fun l G2 eg2 hl2 _ => ev_var rfl)
    rw [given_ints] at c1
    have lin : ∀ z ∈ ((List.range (6 + n0 - (r : Int)).toNat).filter fun l => decide (Y - less ≤ mostF N r l)).map fun l : Nat => (l : Int), ∃ E : Nat, z = (E : Int) ∧ E ≤ 8 := fun z hz => by
      obtain ⟨E, hE, rfl⟩ := List.mem_map.mp hz
      have := List.mem_range.mp (List.mem_filter.mp hE).1
      exact ⟨E, rfl, by omega⟩
    have llen : (((List.range (6 + n0 - (r : Int)).toNat).filter fun l => decide (Y - less ≤ mostF N r l)).map fun l : Nat => (l : Int)).length ≤ 17 := by
      have := List.length_filter_le (fun l => decide (Y - less ≤ mostF N r l)) (List.range (6 + n0 - (r : Int)).toNat)
      rw [List.length_range] at this
      rw [List.length_map]
      omega
    generalize ((List.range (6 + n0 - (r : Int)).toNat).filter fun l => decide (Y - less ≤ mostF N r l)).map (fun l : Nat => (l : Int)) = L at c1 lin llen
    refine gn_ (el_seq (i := 9) c1 fun w G hw eg hwv => ?_)
    refine ⟨_, rfl, Nat.zero_le _, fun z hz9 => ?_⟩
    have ez := Ex.new (o := .lst []) hz9
    have rdw : Rd K (fun _ => True) (upd G z (.lst [])) 1 (.ref w) (.list (L.map PyData.int)) := rd_ilist (ez _ _ hwv) trivial (by omega)
    have rde : Rd K (fun _ => True) (upd G z (.lst [])) 1 (.ref z) (.list []) := .lst upd_same trivial rfl (Nat.zero_le _) (fun i x d hx _ => by cases hx)
    refine ⟨_, _, rdw.dp, rde.dp, rdw.shaped (by omega), rde.shaped (by omega), _, rfl, ?_⟩
    have egz := eg.trans ez
    have hwz := ez _ _ hwv
    have hFz := egz _ _ hF9
    generalize upd G z (.lst []) = G2 at egz hwz hFz ⊢
    by_cases hL0 : L = []
    · subst hL0
      exact iteF ⟨B9.ex egz, kb9.trans (But.of egz), zs, _, _, hFz, by omega, h1, hz, rfl⟩
    · obtain ⟨v, hvL, hlast⟩ := last_of hL0
      obtain ⟨E, rfl, hE8⟩ := lin v hvL
      have ne : (!PyData.eqv (.list (L.map PyData.int)) (.list [])) = true := by
        cases L with
        | nil => exact absurd rfl hL0
        | cons x r => rfl
      rw [ne]
      refine iteT ⟨_, rfl, .inl ⟨rfl, _, SqL.of hFz⟩, _, rfl, _, rfl, 1, rfl, w, _, -1, .int (E : Int), rfl, rfl, SqL.of hwz, hlast, _, rfl, _, rfl, _, _, rfl, rfl, _, _, rfl, rfl, p, E, (2 + a0 - (r : Int) - 1).toNat, 8, j, ok, (by rw [Int.toNat_of_nonneg (by omega)]; rfl), rd9.ex egz, hE8, by omega, by omega, fun x H11 x0 x1 e11 => ?_⟩
      refine ⟨F, _, _, rfl, rfl, e11 _ _ hFz, small1000 (by rw [List.length_map]; omega), box_mut ((B9.ex egz).ex e11) Fb, butMut ((kb9.trans (But.of egz)).trans (But.of e11)) F0, zs ++ [x], _, _, by rw [upd_same, List.map_append]; rfl, by rw [List.length_append]; show _ + 1 ≤ _; omega, List.mem_append.mpr (.inl h1), fun y hy => ?_, rfl⟩
      rcases List.mem_append.mp hy with h | h
      · exact hz y h
      · rw [List.mem_singleton] at h; rw [h]; exact ⟨x0, x1⟩
  · rintro σ H9 ⟨B9, kb9, zs, v8, v9, hF9, hzl, h1, hz, rfl⟩
    have pos : 0 < zs.length := List.length_pos_of_mem h1
    refine ⟨_, rfl, F, zs, rfl, SqL.of hF9, pos, fun m hm hym => ⟨_, rfl, F, zs, rfl, SqL.of hF9, pos, fun m' hm' hym' => ⟨_, _, rfl, rfl, two_le, fun l hl => ?_⟩⟩⟩
    have m1 := hym 1 h1
    have m2 := (hz m hm).2
    have m1' := hym' 1 h1
    have m2' := (hz m' hm').2
    have e10 := Ex.new (o := .lst [.int m, .int (m' + 1)]) hl
    have hl10 := upd_same (H := H9) (a := l) (o := .lst [.int m, .int (m' + 1)])
    have B10 := B9.ex e10
    have kb10 := kb9.trans (But.of e10)
    generalize upd H9 l _ = H10 at e10 hl10 B10 kb10 ⊢
    refine ⟨l, rfl, ⟨_, SqL.of hl10⟩, for_list (xs := [.int m, .int (m' + 1)]) (fun jj σ H' => Ex H10 H' ∧ ∃ v10 : Option V, σ = [some (.ref b), some (.ref p), some (.int (6 + n0)), some (.int (2 + a0)), some (.int less), some (.int (Y - less)), some (.ref F), some (.int nm), v8, v9, v10, none]) ⟨Ex.refl _, _, rfl⟩ (fun j σ H' _ p => SqL.of (p.1 _ _ hl10)) ?_ ?_⟩
    · rintro jj v σ H11 hj ⟨e11, v10, rfl⟩
      have hj2 : jj < 2 := (List.getElem?_eq_some_iff.mp hj).1
      obtain ⟨z, rfl, hz1, hz2⟩ : ∃ z : Int, v = .int z ∧ 1 ≤ z ∧ z ≤ 100000000000000000000000000000000000000000000000000 := by
        match jj, hj2, hj with
        | 0, _, hj => cases hj; exact ⟨m, rfl, by omega, by omega⟩
        | 1, _, hj => cases hj; exact ⟨m' + 1, rfl, by omega, by omega⟩
      have gd : GoodR [Y - less, 1, z] := ⟨by show 3 ≤ 16; decide, fun y hy => by simp only [List.mem_cons, List.not_mem_nil, or_false] at hy; omega⟩
      refine ⟨_, rfl, _, rfl, three_le, fun c hc => ?_⟩
      have ec := Ex.new (o := .lst [.int (Y - less), .int 1, .int z]) hc
      refine ⟨_, rfl, _, rfl, _, rfl, c, [Y - less, 1, z], N, A, nm, (by rw [← hN, ← hA]; rfl), upd_same, gd, by omega, by omega, fun H12 e12 => ?_⟩
      refine ⟨_, rfl, _, rfl, three_le, fun c2 hc2 => ?_⟩
      have ec2 := Ex.new (o := .lst [.int (Y - less), .int 1, .int z]) hc2
      have e1012 := ((e11.trans ec).trans e12).trans ec2
      have kb13 := kb10.trans (But.of e1012)
      refine ⟨_, rfl, c2, p, [Y - less, 1, z], 8, j, ok, rfl, SqL.of upd_same, by show 3 ≤ 100; decide, by omega, hp.but kb13 okb, fun tp H14 e14 rt => ?_⟩
      obtain ⟨tp', xs, hte, htx, tall⟩ := rd_tables rt
      cases hte
      obtain ⟨q1, ys, t1, t2', t3⟩ := tall 0 (Nat.zero_le _)
      obtain ⟨q2, ws, t4, t5, t6⟩ := t3 N hN8
      exact ⟨tp, _, 0, .ref q1, rfl, rfl, SqL.of htx, at_of (show (0 : Int) = ((0 : Nat) : Int) from rfl) t1, _, rfl, q1, _, _, .ref q2, rfl, rfl, SqL.of t2', at_of hN t4, _, rfl, q2, _, _, .bl _, rfl, rfl, SqL.of t5, at_of hA (t6 A (by omega)), _, _, rfl, .bl _, fun H15 e15 => ⟨_, rfl, iteF ⟨(e1012.trans e14).trans e15, _, rfl⟩⟩⟩
    · rintro σ H11 ⟨e11, v10, rfl⟩
      exact q H11 ((B10.ex e11).le (by omega)) (kb10.trans (But.of e11))
end
end L2.U


set_option Elab.async false
set_option linter.all false
set_option maxRecDepth 100000
set_option maxHeartbeats 4000000
namespace L2.U
open PySem PySem.Spec PyProof.Rows Evl

section
variable {P : Program} {w : World} {K : PySem.W.Frag} {mg : Str → Option Value} {base : Heap}
def spLaw (K : PySem.W.Frag) : Sp := fun vs H Q _ => ∃ (a : Addr) (ns : List Int), vs = [.ref a] ∧ SqL K H a (ns.map V.int) ∧ ns.length ≤ 63 ∧ ∀ H', Q (.bl true) H'
theorem goodN_R {L : Nat} {ns : List Int} {i : Nat} (g : GoodN L ns) (h : i ≤ 16) : GoodR (ns.take i) := ⟨by rw [List.length_take]; omega, fun z hz => by have := g.2 z (List.mem_of_mem_take hz); omega⟩
theorem ok_law (T : TK K mg) : FnOk P w K mg base CX0 12 T.law.a T.law.fd ["script"] (spLaw K) := by
  refine T.law.F.ok sc_law (fun vs H Q E h => ?_) (fun cdv A outer s H vs Q E hr h => ?_)
  · obtain ⟨a, ns, rfl, _⟩ := h; rfl
  obtain ⟨a, ns, rfl, ha, hl, q⟩ := h
  refine ⟨_, (pss_cons (ps_for PassesOwn.never rfl (pi_range1 rfl T.z_range (pa_cons (pe_callB (call_max2 rfl) (by rfl) T.z_max (by decide +kernel) (pa_cons pe_int (pa_cons (pe_callB (call_min2 rfl) (by rfl) T.z_min (by decide +kernel) (pa_cons pe_int (pa_cons (pe_callB (klen K) (by rfl) T.z_len (by decide +kernel) (pa_cons (pv 0) pa_nil)) pa_nil))) pa_nil))) pa_nil)) (pg_name (i := 1) sc_law.nd rfl (Or.inl rfl)) (pss_cons (ps_set (i := 2) sc_law.nd rfl (Or.inl rfl) (pe_call (ok_law_box T.toTA1) (hr.mono (by decide)) rfl T.law_box.m T.law_box.F.kp T.law_box.b .nil pass0 (pa_cons (pe_call (ok_law_cell T.toTA1) (hr.mono (by decide)) rfl T.law_cell.m T.law_cell.F.kp T.law_cell.b .nil pass0 (pa_cons (pv 0) (pa_cons (pv 1) pa_nil))) pa_nil)))
    (pss_cons (ps_par3 (i := 3) (j := 4) (l := 5) (by rfl) sc_law.nd rfl rfl rfl (by decide) (by decide) (by decide) rfl rfl rfl (pa_cons (pe_call (ok_law_take T.toTA1) (hr.mono (by decide)) rfl T.law_take.m T.law_take.F.kp T.law_take.b .nil pass0 (pa_cons (pv 2) (pa_cons pe_int pa_nil))) (pa_cons (pe_call (ok_law_take T.toTA1) (hr.mono (by decide)) rfl T.law_take.m T.law_take.F.kp T.law_take.b .nil pass0 (pa_cons (pv 2) (pa_cons pe_int pa_nil))) (pa_cons (pe_call (ok_law_take T.toTA1) (hr.mono (by decide)) rfl T.law_take.m T.law_take.F.kp T.law_take.b .nil pass0 (pa_cons (pv 2) (pa_cons pe_int pa_nil))) pa_nil))) (by rfl))
    (pss_cut (ps_set (i := 6) sc_law.nd rfl (Or.inl rfl) (pe_ifExp (PW.pt (pw_and (pt_cmpR op_eq (pv 3) pe_int (nomark _)) (pw_and1 (pt_cmpR op_eq (pv 1) pe_int (nomark _))))) pe_int (pe_callTy call_int1 (by rfl) T.z_int (by decide +kernel) (pa_cons (pe_cmpR op_lt (pv 3) pe_int (nomark _)) pa_nil))))
    (pss_cons (ps_par (i := 7) (j := 8) (by rfl) sc_law.nd rfl rfl (by decide) rfl rfl (pa_cons (pe_ix (kixl K) (pe_lst (pa_cons pe_int (pa_cons pe_int (pa_cons pe_int pa_nil)))) (pv 6) (fun _ _ => rfl)) (pa_cons (pe_ix (kixl K) (pe_lst (pa_cons (pe_call (ok_law_take T.toTA1) (hr.mono (by decide)) rfl T.law_take.m T.law_take.F.kp T.law_take.b .nil pass0 (pa_cons (pv 2) (pa_cons pe_int pa_nil))) (pa_cons (pe_call (ok_law_take T.toTA1) (hr.mono (by decide)) rfl T.law_take.m T.law_take.F.kp T.law_take.b .nil pass0 (pa_cons (pv 2) (pa_cons pe_int pa_nil))) (pa_cons (pe_op op_sub pe_int (pe_call (ok_law_take T.toTA1) (hr.mono (by decide)) rfl T.law_take.m T.law_take.F.kp T.law_take.b .nil pass0 (pa_cons (pv 2) (pa_cons pe_int pa_nil)))) pa_nil)))) (pv 6) (fun _ _ => rfl)) pa_nil)) (by rfl))
    (pss_cons (ps_par (i := 9) (j := 10) (by rfl) sc_law.nd rfl rfl (by decide) rfl rfl (pa_cons (pe_op op_sub (pv 7) (pe_call (ok_law_take T.toTA1) (hr.mono (by decide)) rfl T.law_take.m T.law_take.F.kp T.law_take.b .nil pass0 (pa_cons (pv 2) (pa_cons (pe_ix (kixl K) (pe_lst (pa_cons pe_int (pa_cons pe_int (pa_cons pe_int pa_nil)))) (pv 6) (fun _ _ => rfl)) pa_nil)))) (pa_cons (pe_op op_sub (pv 7) (pe_call (ok_law_take T.toTA1) (hr.mono (by decide)) rfl T.law_take.m T.law_take.F.kp T.law_take.b .nil pass0 (pa_cons (pv 2) (pa_cons (pe_ix (kixl K) (pe_lst (pa_cons pe_int (pa_cons pe_int (pa_cons pe_int pa_nil)))) (pv 6) (fun _ _ => rfl)) pa_nil)))) pa_nil)) (by rfl))
    (pss_cons (ps_par (i := 11) (j := 12) (by rfl) sc_law.nd rfl rfl (by decide) rfl rfl (pa_cons (pe_call (ok_law_planned T) (hr.mono (by decide)) rfl T.law_planned.m T.law_planned.F.kp T.law_planned.b .nil pass0 (pa_cons (pv 2) (pa_cons (pv 9) (pa_cons (pv 10) (pa_cons (pv 8) pa_nil))))) (pa_cons (pe_call (ok_law_bests T) (hr.mono (by decide)) rfl T.law_bests.m T.law_bests.F.kp T.law_bests.b .nil pass0 (pa_cons (pv 7) pa_nil)) pa_nil)) (by rfl))
    (pss_cons (ps_if (PW.pt (pw_or (pt_not (pt_val (pe_call (ok_law_fixed_right T) (hr.mono (by decide)) rfl T.law_fixed_right.m T.law_fixed_right.F.kp T.law_fixed_right.b .nil pass0 (pa_cons (pv 5) pa_nil)))) (pw_or1 (pt_not (pt_val (pe_call (ok_law_traded_right T) (hr.mono (by decide)) rfl T.law_traded_right.m T.law_traded_right.F.kp T.law_traded_right.b .nil pass0 (pa_cons (pv 2) (pa_cons (pe_ifExp (pt_cmpR op_eq (pv 6) pe_int (nomark _)) (pv 12) (pe_call (ok_law_bests T) (hr.mono (by decide)) rfl T.law_bests.m T.law_bests.F.kp T.law_bests.b .nil pass0 (pa_cons pe_int pa_nil))) pa_nil)))))))) (pss_one (ps_ret pe_bl)) pss_nil)
    (pss_cut (ps_if (PW.pt (pw_and (pt_cmpR op_eq (pv 6) pe_int (nomark _)) (pw_and1 (pt_not (pt_val (pe_call (ok_law_small_right T) (hr.mono (by decide)) rfl T.law_small_right.m T.law_small_right.F.kp T.law_small_right.b .nil pass0 (pa_cons (pv 2) (pa_cons (pe_slice (kslL K) (pv 11) po_none (po_some pe_int)) (pa_cons (pv 7) pa_nil))))))))) (pss_one (ps_ret pe_bl)) pss_nil)
    (pss_cut (ps_set (i := 13) sc_law.nd rfl (Or.inl rfl) (pe_ifExp (pt_cmpR op_lt (pv 4) pe_int (nomark _)) (pe_call (ok_law_changed T) (hr.mono (by decide)) rfl T.law_changed.m T.law_changed.F.kp T.law_changed.b .nil pass0 (pa_cons (pv 2) (pa_cons (pe_slice (kslL K) (pv 11) po_none (po_some pe_int)) (pa_cons (pv 4) pa_nil)))) (pv 11)))
    (pss_cut (ps_if (PW.pt (pw_and (pt_cmpR op_lt (pv 6) pe_int (nomark _)) (pw_and1 (pt_not (pt_val (pe_call (ok_law_rests_right T) (hr.mono (by decide)) rfl T.law_rests_right.m T.law_rests_right.F.kp T.law_rests_right.b .nil pass0 (pa_cons (pv 2) (pa_cons (pv 11) (pa_cons (pv 12) (pa_cons pe_int pa_nil)))))))))) (pss_one (ps_ret pe_bl)) pss_nil)
    (pss_one (ps_if (pt_not (pt_val (pe_call (ok_law_rests_right T) (hr.mono (by decide)) rfl T.law_rests_right.m T.law_rests_right.F.kp T.law_rests_right.b .nil pass0 (pa_cons (pv 2) (pa_cons (pv 13) (pa_cons (pv 12) (pa_cons (pe_ifExp (pt_cmpR op_eq (pv 6) pe_int (nomark _)) pe_int pe_int) pa_nil))))))) (pss_one (ps_ret pe_bl)) pss_nil)))))))))))))
    (pss_one (ps_ret pe_bl))), ?_⟩
  obtain ⟨n, hn, hn0, hn2⟩ : ∃ n : Int, (if (if (ns.length : Int) < 2 then (ns.length : Int) else 2) > 1 then (if (ns.length : Int) < 2 then (ns.length : Int) else 2) else 1) = n ∧ 0 ≤ n ∧ n ≤ 2 := ⟨_, rfl, by split <;> split <;> omega, by split <;> split <;> omega⟩
  refine ⟨_, rfl, _, ns.length, rfl, .inl ⟨_, ha, (List.length_map ..).symm⟩, _, _, rfl, _, _, rfl, n, by rw [← hn], by omega, by omega, for_range (lo := 0) (n := n.toNat) (fun i σ H' => Ex H H' ∧ ∃ v1 v2 v3 v4 v5 v6 v7 v8 v9 v10 v11 v12 v13 : Option V, σ = [some (.ref a), v1, v2, v3, v4, v5, v6, v7, v8, v9, v10, v11, v12, v13]) ⟨Ex.refl _, _, _, _, _, _, _, _, _, _, _, _, _, _, rfl⟩ ?_ ?_⟩
  · rintro i σ G hi ⟨eg, v1, v2, v3, v4, v5, v6, v7, v8, v9, v10, v11, v12, v13, rfl⟩
    rw [Int.zero_add]
    refine ⟨_, rfl, _, rfl, a, ns, (i : Int), rfl, ex_l eg ha, by omega, by omega, fun v H1 e1 => ⟨v, rfl, fun b H2 hb e2 B2 => ?_⟩⟩
    refine ⟨_, rfl, b, 8, 900, rfl, by decide, by decide, B2.le (by omega), fun great H3 g0 g1 B3 k3 => ?_⟩
    refine ⟨_, rfl, b, 9, 899, rfl, by decide, by decide, B3, fun spoil H4 s0 s1 B4 k4 => ?_⟩
    refine ⟨_, rfl, b, 22, 898, rfl, by decide, by decide, B4, fun pick H5 p0 p1 B5 k5 => ⟨_, _, _, rfl, ?_⟩⟩
    have k25 := (k3.trans k4).trans k5
    refine ⟨fun σ H' => H' = H5 ∧ ∃ sz : Nat, sz ≤ 2 ∧ σ = [some (.ref a), some (.int (i : Int)), some (.ref b), some (.int great), some (.int spoil), some (.int pick), some (.int (sz : Int)), v7, v8, v9, v10, v11, v12, v13], ?_, ?_⟩
    · have out : ∀ bb : Bool, (fun σ H' => H' = H5 ∧ ∃ sz : Nat, sz ≤ 2 ∧ σ = [some (V.ref a), some (.int (i : Int)), some (.ref b), some (.int great), some (.int spoil), some (.int pick), some (.int (sz : Int)), v7, v8, v9, v10, v11, v12, v13]) [some (.ref a), some (.int (i : Int)), some (.ref b), some (.int great), some (.int spoil), some (.int pick), some (.int (if bb = true then 1 else 0)), v7, v8, v9, v10, v11, v12, v13] H5 := fun bb => ⟨rfl, if bb = true then 1 else 0, by split <;> omega, by cases bb <;> rfl⟩
      refine ⟨_, rfl, rfl, _, rfl, ite2 (fun _ => ⟨_, rfl, rfl, _, rfl, ite2 (fun _ => ⟨rfl, 2, Nat.le_refl _, rfl⟩) (fun _ => ⟨_, rfl, _, _, rfl, rfl, .inr ⟨_, rfl, out _⟩⟩)⟩) (fun _ => iteF ⟨_, rfl, _, _, rfl, rfl, .inr ⟨_, rfl, out _⟩⟩)⟩
    rintro σ H5' ⟨rfl, sz, hsz, rfl⟩
    obtain ⟨MO, hMO, hMO16, hMO0, hMO1, hMO4⟩ : ∃ MO : Nat, atI [V.int 4, .int 8, .int 16] (sz : Int) = some (.int (MO : Int)) ∧ MO ≤ 16 ∧ (sz = 0 → MO = 4) ∧ (sz = 1 → MO = 8) ∧ 4 ≤ MO := by
      rcases (by omega : sz = 0 ∨ sz = 1 ∨ sz = 2) with rfl | rfl | rfl
      · exact ⟨4, rfl, by omega, fun _ => rfl, fun h => by omega, by omega⟩
      · exact ⟨8, rfl, by omega, fun h => by omega, fun _ => rfl, by omega⟩
      · exact ⟨16, rfl, by omega, fun h => by omega, fun h => by omega, by omega⟩
    obtain ⟨C, hC, hC1, hC4⟩ : ∃ C : Int, atI [V.int 3, .int 4, .int 4] (sz : Int) = some (.int C) ∧ 1 ≤ C ∧ C ≤ 4 := by
      rcases (by omega : sz = 0 ∨ sz = 1 ∨ sz = 2) with rfl | rfl | rfl
      · exact ⟨3, rfl, by omega, by omega⟩
      · exact ⟨4, rfl, by omega, by omega⟩
      · exact ⟨4, rfl, by omega, by omega⟩
    refine ⟨three_le, fun l1 hl1 => ⟨_, rfl, l1, _, _, .int (MO : Int), rfl, rfl, SqL.of upd_same, hMO, ?_⟩⟩
    have e6 := Ex.new (o := .lst [.int 4, .int 8, .int 16]) hl1
    refine ⟨_, rfl, b, 6, 897, rfl, by decide, by decide, B5.ex e6, fun t6 H6 t60 t61 B6 k6 => ?_⟩
    refine ⟨_, rfl, b, 9, 896, rfl, by decide, by decide, B6, fun t9 H7 t90 t91 B7 k7 => ?_⟩
    refine ⟨_, rfl, b, 4, 895, rfl, by decide, by decide, B7, fun t4 H8 t40 t41 B8 k8 => ⟨_, _, rfl, rfl, three_le, fun l2 hl2 => ?_⟩⟩
    obtain ⟨MA, hMA, hMA0, hMA16⟩ : ∃ MA : Int, atI [V.int t6, .int t9, .int (16 - t4)] (sz : Int) = some (.int MA) ∧ 0 ≤ MA ∧ MA ≤ 16 := by
      rcases (by omega : sz = 0 ∨ sz = 1 ∨ sz = 2) with rfl | rfl | rfl
      · exact ⟨t6, rfl, by omega, by omega⟩
      · exact ⟨t9, rfl, by omega, by omega⟩
      · exact ⟨16 - t4, rfl, by omega, by omega⟩
    have e9 := Ex.new (o := .lst [.int t6, .int t9, .int (16 - t4)]) hl2
    refine ⟨_, rfl, l2, _, _, .int MA, rfl, rfl, SqL.of upd_same, hMA, _, _, rfl, ?_⟩
    have k29 := (((k25.trans (But.of e6)).trans k6).trans (k7.trans k8)).trans (But.of e9)
    have B9 := B8.ex e9
    generalize upd H8 l2 _ = H9 at e9 k29 B9 ⊢
    refine ⟨_, rfl, _, rfl, three_le, fun l3 hl3 => ⟨_, rfl, l3, _, _, .int C, rfl, rfl, SqL.of upd_same, hC, ?_⟩⟩
    have e10 := Ex.new (o := .lst [.int 3, .int 4, .int 4]) hl3
    refine ⟨b, C, 894, rfl, by omega, by omega, B9.ex e10, fun o1 H10 o10 o11 B10 k10 => ⟨_, _, rfl, rfl, ?_⟩⟩
    refine ⟨_, rfl, _, rfl, three_le, fun l4 hl4 => ⟨_, rfl, l4, _, _, .int C, rfl, rfl, SqL.of upd_same, hC, ?_⟩⟩
    have e11 := Ex.new (o := .lst [.int 3, .int 4, .int 4]) hl4
    refine ⟨b, C, 893, rfl, by omega, by omega, B10.ex e11, fun o2 H11 o20 o21 B11 k11 => ⟨_, _, rfl, rfl, _, _, rfl, ?_⟩⟩
    have k211 := (((k29.trans (But.of e10)).trans k10).trans (But.of e11)).trans k11
    obtain ⟨O1, hO1, hO16⟩ : ∃ O : Nat, (MO : Int) - o1 = (O : Int) ∧ O ≤ 16 := ⟨((MO : Int) - o1).toNat, by omega, by omega⟩
    obtain ⟨O2, hO2, hO26⟩ : ∃ O : Nat, (MO : Int) - o2 = (O : Int) ∧ O ≤ 16 := ⟨((MO : Int) - o2).toNat, by omega, by omega⟩
    refine ⟨_, rfl, _, rfl, _, rfl, _, rfl, b, 753, O1, O2, MA, by rw [← hO1, ← hO2]; rfl, B11, hO16, hO26, hMA0, hMA16, fun rw_ rs H12 hr0 hr1 gr B12 k12 => ?_⟩
    refine ⟨_, rfl, MO, rfl, hMO16, fun bs H13 e13 rb => ⟨_, _, rfl, ?_⟩⟩
    have k213 := (k211.trans k12).trans (But.of e13)
    have B13 := B12.ex e13
    have rwb : rw_ ≠ b := B11.ne hr0
    have hr13 := e13 _ _ hr1
    have rb13 : Rd K (fun a => a ≠ b) H13 3 (.ref bs) (list3 (bestsF MO)) := rb.of fun a h => B12.ne h
    have rs16 : rs.length ≤ 16 := by have := gr.1; omega
    refine ⟨_, rfl, pick, rfl, p0, by omega, fun H14 e14 => ⟨_, rfl, iteF ?_⟩⟩
    have gR : GoodR rs := ⟨rs16, fun z hz => by have := gr.2 z hz; omega⟩
    have run : ∀ Q : VK, (∀ p G, Ex H14 G → Rd K (fun a => a ≠ b) G 3 (.ref p) (list3 (bestsF 8)) → Q (.ref p) G) → tIf (tTest (tOp rEq (tVar 6) (tC (V.int 1)))) (tVar 12) (tCall (spLBests K) [] E0 (tCons (tC (V.int 8)) tNil)) [some (.ref a), some (.int (i : Int)), some (.ref b), some (.int great), some (.int spoil), some (.int pick), some (.int (sz : Int)), some (.int (MO : Int)), some (.int MA), some (.int ((MO : Int) - o1)), some (.int ((MO : Int) - o2)), some (.ref rw_), some (.ref bs), v13] H14 Q := fun Q kk =>
      ⟨_, rfl, rfl, _, rfl, ite2 (fun c => ⟨_, rfl, kk bs H14 (Ex.refl _) (by
        have c := of_decide_eq_true c
        have : sz = 1 := by have := V.int.inj c; omega
        have := hMO1 this
        subst this
        exact rb13.ex e14)⟩) (fun c => ⟨8, rfl, by omega, fun p8 G e r => kk p8 G e (r.of fun a h => (B13.ex e14).ne h)⟩)⟩
    refine ⟨_, rfl, run _ fun p8 H15 e15 r8 => ⟨b, p8, 700, 2, _, rfl, ((B13.ex e14).ex e15).le (by omega), r8, (fun a h => h), fun H16 B16 k16 => ⟨_, rfl, iteF ?_⟩⟩⟩
    have k1316 : But b H13 H16 := ((But.of (b := b) e14).trans (But.of e15)).trans k16
    refine ⟨fun σ G => BoxAt G b 660 ∧ But b H13 G ∧ σ = [some (.ref a), some (.int (i : Int)), some (.ref b), some (.int great), some (.int spoil), some (.int pick), some (.int (sz : Int)), some (.int (MO : Int)), some (.int MA), some (.int ((MO : Int) - o1)), some (.int ((MO : Int) - o2)), some (.ref rw_), some (.ref bs), v13], ?_, ?_⟩
    · refine ⟨_, rfl, rfl, _, rfl, ite2 (fun c => ?_) (fun c => iteF ⟨B16.le (by omega), k1316, rfl⟩)⟩
      have c := of_decide_eq_true c
      have sz0 : sz = 0 := by have := V.int.inj c; omega
      have M4 := hMO0 sz0
      refine ⟨_, rfl, _, rfl, 3, rfl, rw_, _, rfl, SqL.of (k1316 _ _ rwb hr13), fun c3 hc3 => ?_⟩
      have ec := Ex.new (o := .lst (cutV (rs.map V.int) none (some 3))) hc3
      refine ⟨_, rfl, b, c3, 660, MO, rs.take 3, rfl, (B16.ex ec).le (by omega), (by rw [upd_same, show (3 : Int) = ((3 : Nat) : Int) from rfl, cutV_take, List.map_take]), B16.ne hc3, goodN_R gr (by omega), by rw [List.length_take]; omega, by omega, fun H17 B17 k17 => ⟨_, rfl, iteF ⟨B17, (k1316.trans (But.of ec)).trans k17, rfl⟩⟩⟩
    rintro σ G1 ⟨Bg1, kg1, rfl⟩
    have hrg1 := kg1 _ _ rwb hr13
    refine ⟨fun σ G => BoxAt G b 640 ∧ But b H13 G ∧ ∃ (o : Addr) (ms : List Int), G o = some (.lst (ms.map V.int)) ∧ o ≠ b ∧ GoodR ms ∧ σ = [some (.ref a), some (.int (i : Int)), some (.ref b), some (.int great), some (.int spoil), some (.int pick), some (.int (sz : Int)), some (.int (MO : Int)), some (.int MA), some (.int ((MO : Int) - o1)), some (.int ((MO : Int) - o2)), some (.ref rw_), some (.ref bs), some (.ref o)], ?_, ?_⟩
    · refine ⟨_, rfl, _, _, rfl, rfl, _, rfl, ite2 (fun c => ?_) (fun c => ⟨_, rfl, Bg1.le (by omega), kg1, rw_, rs, hrg1, rwb, gR, rfl⟩)⟩
      have c := of_decide_eq_true c
      refine ⟨_, rfl, _, rfl, 15, rfl, rw_, _, rfl, SqL.of hrg1, fun c15 hc15 => ?_⟩
      have ec := Ex.new (o := .lst (cutV (rs.map V.int) none (some 15))) hc15
      refine ⟨_, rfl, b, c15, 640, rs.take 15, spoil, rfl, (Bg1.ex ec).le (by omega), (by rw [upd_same, show (15 : Int) = ((15 : Nat) : Int) from rfl, cutV_take, List.map_take]), Bg1.ne hc15, ⟨by rw [List.length_take]; omega, fun z hz => gr.2 z (List.mem_of_mem_take hz)⟩, s0, by omega, fun o ms G2 o0 ho gm Bg2 kg2 => ⟨Bg2, (kg1.trans (But.of ec)).trans kg2, o, ms, ho, (Bg1.ex ec).ne o0, gm, rfl⟩⟩
    rintro σ G3 ⟨Bg3, kg3, o, ms, ho, ob, gm, rfl⟩
    refine ⟨fun σ G => BoxAt G b 600 ∧ But b G3 G ∧ σ = [some (.ref a), some (.int (i : Int)), some (.ref b), some (.int great), some (.int spoil), some (.int pick), some (.int (sz : Int)), some (.int (MO : Int)), some (.int MA), some (.int ((MO : Int) - o1)), some (.int ((MO : Int) - o2)), some (.ref rw_), some (.ref bs), some (.ref o)], ?_, ?_⟩
    · refine ⟨_, rfl, _, _, rfl, rfl, _, rfl, ite2 (fun c => ?_) (fun c => iteF ⟨Bg3.le (by omega), But.of (Ex.refl _), rfl⟩)⟩
      exact ⟨_, rfl, _, rfl, _, rfl, b, rw_, bs, 600, MO, 2, rs, 3, _, rfl, Bg3.le (by omega), kg3 _ _ rwb hr13, rwb, gR, hMO16, by decide, by decide, rb13.but kg3 (fun a h => h), (fun a h => h), fun G4 Bg4 kg4 => ⟨_, rfl, iteF ⟨Bg4, kg4, rfl⟩⟩⟩
    rintro σ G4 ⟨Bg4, kg4, rfl⟩
    have ho4 := kg4 _ _ ob ho
    have fin : ∀ G5, But b G4 G5 → Ex H G5 := fun G5 kg5 => (eg.trans e1).trans (ex_but hb ((But.of e2).trans ((k213.trans kg3).trans (kg4.trans kg5))))
    refine ⟨_, rfl, _, rfl, _, rfl, _, rfl, rfl, _, rfl, ite2 (fun c => ?_) (fun c => ?_)⟩
    · exact ⟨b, o, bs, 500, MO, 2, ms, 2, _, rfl, Bg4.le (by omega), ho4, ob, gm, hMO16, by decide, by decide, rb13.but (kg3.trans kg4) (fun a h => h), (fun a h => h), fun G5 Bg5 kg5 => ⟨_, rfl, iteF ⟨fin G5 kg5, _, _, _, _, _, _, _, _, _, _, _, _, _, rfl⟩⟩⟩
    · exact ⟨b, o, bs, 500, MO, 2, ms, 4, _, rfl, Bg4.le (by omega), ho4, ob, gm, hMO16, by decide, by decide, rb13.but (kg3.trans kg4) (fun a h => h), (fun a h => h), fun G5 Bg5 kg5 => ⟨_, rfl, iteF ⟨fin G5 kg5, _, _, _, _, _, _, _, _, _, _, _, _, _, rfl⟩⟩⟩
  · rintro σ G ⟨eg, v1, v2, v3, v4, v5, v6, v7, v8, v9, v10, v11, v12, v13, rfl⟩
    exact q _
end
end L2.U


set_option Elab.async false
set_option linter.all false
set_option maxRecDepth 100000
set_option maxHeartbeats 4000000
namespace L2.U
open PySem PySem.Spec PyProof.Rows Evl
theorem exm_of {K : PySem.W.Frag} {C D : Addr} {b : Bool} (h1 : PySem.W.subIn K (.ref D) (.type "BaseException") = some true) (h2 : PySem.W.isClsIn K D = true) (h3 : PySem.W.typeIn K (.ref D) = some (.type "type"))
    (h4 : PySem.W.subIn K (.ref C) (.ref D) = some b) : PySem.W.exmOne K (.ref C) (.ref D) = some b := by
  have h2' : (PySem.W.clsIn K D).isSome = true := h2
  unfold PySem.W.exmOne
  rw [h1, if_pos (by rfl)]
  unfold PySem.W.kitCls
  simp only [h2', h3, h4, beq_self_eq_true, Bool.and_self, if_true]
def mkDef {K : PySem.W.Frag} {h : Heap} {mg : Str → Option Value} (X : K.In h) (G : h.Ns mainGlobals mg) {x : Str} {st : Stmt} {ps : List Str} {f : Addr} {od an : Option Addr} {sl : Array (Option Value)} {oc kV dc pm cd ct : Value}
    (a : PySem.W.nsIn K mainGlobals x = some (some (.ref f))) (l : K.lookup f = some ⟨oc, od, .func (PySem.W.fnOf x x (defArgs st) (defBody st) (defScope st) .none kV dc pm an cd ct), sl⟩) (c : PySem.W.codeIn K cd x = true) (k : PySem.W.keepIn K (.ref f) = true)
    (h2 : ∀ (kV doc pm : Value) (an : Option Addr) (cdv ct : Value) (us : List Value), us.length = ps.length → bindArgs (PySem.W.fnOf x x (defArgs st) (defBody st) (defScope st) .none kV doc pm an cdv ct) ⟨us, []⟩ = pure (ps.zip us)) : DefAt K mg x st ps :=
  ⟨f, _, fun_mk (st := st) l c k, PySem.W.mg_of X G a, (fun_mk (st := st) l c k).binds h2⟩

theorem all_mk {l : PySem.W.OpenLaw} {w : World} {K : PySem.W.Frag} {h : Heap} {mg : Str → Option Value} {fa : Addr} (X : K.In h) (G : h.Ns mainGlobals mg) (hfa : mg "law" = some (.ref fa))
    {f1 : Addr} {od1 an1 : Option Addr} {sl1 : Array (Option Value)} {oc1 kV1 dc1 pm1 cd1 ct1 : Value}
    {f2 : Addr} {od2 an2 : Option Addr} {sl2 : Array (Option Value)} {oc2 kV2 dc2 pm2 cd2 ct2 : Value}
    {f3 : Addr} {od3 an3 : Option Addr} {sl3 : Array (Option Value)} {oc3 kV3 dc3 pm3 cd3 ct3 : Value}
    {f4 : Addr} {od4 an4 : Option Addr} {sl4 : Array (Option Value)} {oc4 kV4 dc4 pm4 cd4 ct4 : Value}
    {f5 : Addr} {od5 an5 : Option Addr} {sl5 : Array (Option Value)} {oc5 kV5 dc5 pm5 cd5 ct5 : Value}
    {f6 : Addr} {od6 an6 : Option Addr} {sl6 : Array (Option Value)} {oc6 kV6 dc6 pm6 cd6 ct6 : Value}
    {f7 : Addr} {od7 an7 : Option Addr} {sl7 : Array (Option Value)} {oc7 kV7 dc7 pm7 cd7 ct7 : Value}
    {f8 : Addr} {od8 an8 : Option Addr} {sl8 : Array (Option Value)} {oc8 kV8 dc8 pm8 cd8 ct8 : Value}
    {f9 : Addr} {od9 an9 : Option Addr} {sl9 : Array (Option Value)} {oc9 kV9 dc9 pm9 cd9 ct9 : Value}
    {f10 : Addr} {od10 an10 : Option Addr} {sl10 : Array (Option Value)} {oc10 kV10 dc10 pm10 cd10 ct10 : Value}
    {f11 : Addr} {od11 an11 : Option Addr} {sl11 : Array (Option Value)} {oc11 kV11 dc11 pm11 cd11 ct11 : Value}
    {f12 : Addr} {od12 an12 : Option Addr} {sl12 : Array (Option Value)} {oc12 kV12 dc12 pm12 cd12 ct12 : Value}
    {f13 : Addr} {od13 an13 : Option Addr} {sl13 : Array (Option Value)} {oc13 kV13 dc13 pm13 cd13 ct13 : Value}
    {f14 : Addr} {od14 an14 : Option Addr} {sl14 : Array (Option Value)} {oc14 kV14 dc14 pm14 cd14 ct14 : Value}
    {f15 : Addr} {od15 an15 : Option Addr} {sl15 : Array (Option Value)} {oc15 kV15 dc15 pm15 cd15 ct15 : Value}
    {f16 : Addr} {od16 an16 : Option Addr} {sl16 : Array (Option Value)} {oc16 kV16 dc16 pm16 cd16 ct16 : Value}
    {f17 : Addr} {od17 an17 : Option Addr} {sl17 : Array (Option Value)} {oc17 kV17 dc17 pm17 cd17 ct17 : Value}
    {f18 : Addr} {od18 an18 : Option Addr} {sl18 : Array (Option Value)} {oc18 kV18 dc18 pm18 cd18 ct18 : Value}
    {f19 : Addr} {od19 an19 : Option Addr} {sl19 : Array (Option Value)} {oc19 kV19 dc19 pm19 cd19 ct19 : Value}
    {f20 : Addr} {od20 an20 : Option Addr} {sl20 : Array (Option Value)} {oc20 kV20 dc20 pm20 cd20 ct20 : Value}
    {f21 : Addr} {od21 an21 : Option Addr} {sl21 : Array (Option Value)} {oc21 kV21 dc21 pm21 cd21 ct21 : Value}
    {f22 : Addr} {od22 an22 : Option Addr} {sl22 : Array (Option Value)} {oc22 kV22 dc22 pm22 cd22 ct22 : Value}
    {f23 : Addr} {od23 an23 : Option Addr} {sl23 : Array (Option Value)} {oc23 kV23 dc23 pm23 cd23 ct23 : Value}
    {f24 : Addr} {od24 an24 : Option Addr} {sl24 : Array (Option Value)} {oc24 kV24 dc24 pm24 cd24 ct24 : Value}
    {f25 : Addr} {od25 an25 : Option Addr} {sl25 : Array (Option Value)} {oc25 kV25 dc25 pm25 cd25 ct25 : Value}
    {f26 : Addr} {od26 an26 : Option Addr} {sl26 : Array (Option Value)} {oc26 kV26 dc26 pm26 cd26 ct26 : Value}
    {f27 : Addr} {od27 an27 : Option Addr} {sl27 : Array (Option Value)} {oc27 kV27 dc27 pm27 cd27 ct27 : Value}
    {f28 : Addr} {od28 an28 : Option Addr} {sl28 : Array (Option Value)} {oc28 kV28 dc28 pm28 cd28 ct28 : Value}
    {f29 : Addr} {od29 an29 : Option Addr} {sl29 : Array (Option Value)} {oc29 kV29 dc29 pm29 cd29 ct29 : Value}
    {f30 : Addr} {od30 an30 : Option Addr} {sl30 : Array (Option Value)} {oc30 kV30 dc30 pm30 cd30 ct30 : Value}
    {f31 : Addr} {od31 an31 : Option Addr} {sl31 : Array (Option Value)} {oc31 kV31 dc31 pm31 cd31 ct31 : Value}
    {f32 : Addr} {od32 an32 : Option Addr} {sl32 : Array (Option Value)} {oc32 kV32 dc32 pm32 cd32 ct32 : Value}
    {f33 : Addr} {od33 an33 : Option Addr} {sl33 : Array (Option Value)} {oc33 kV33 dc33 pm33 cd33 ct33 : Value}
    {f34 : Addr} {od34 an34 : Option Addr} {sl34 : Array (Option Value)} {oc34 kV34 dc34 pm34 cd34 ct34 : Value}
    {f35 : Addr} {od35 an35 : Option Addr} {sl35 : Array (Option Value)} {oc35 kV35 dc35 pm35 cd35 ct35 : Value}
    {f36 : Addr} {od36 an36 : Option Addr} {sl36 : Array (Option Value)} {oc36 kV36 dc36 pm36 cd36 ct36 : Value}
    {f37 : Addr} {od37 an37 : Option Addr} {sl37 : Array (Option Value)} {oc37 kV37 dc37 pm37 cd37 ct37 : Value}
    {f38 : Addr} {od38 an38 : Option Addr} {sl38 : Array (Option Value)} {oc38 kV38 dc38 pm38 cd38 ct38 : Value}
    {f39 : Addr} {od39 an39 : Option Addr} {sl39 : Array (Option Value)} {oc39 kV39 dc39 pm39 cd39 ct39 : Value}
    {f40 : Addr} {od40 an40 : Option Addr} {sl40 : Array (Option Value)} {oc40 kV40 dc40 pm40 cd40 ct40 : Value}
    {f41 : Addr} {od41 an41 : Option Addr} {sl41 : Array (Option Value)} {oc41 kV41 dc41 pm41 cd41 ct41 : Value}
    {f42 : Addr} {od42 an42 : Option Addr} {sl42 : Array (Option Value)} {oc42 kV42 dc42 pm42 cd42 ct42 : Value}
    {f43 : Addr} {od43 an43 : Option Addr} {sl43 : Array (Option Value)} {oc43 kV43 dc43 pm43 cd43 ct43 : Value}
    {f44 : Addr} {od44 an44 : Option Addr} {sl44 : Array (Option Value)} {oc44 kV44 dc44 pm44 cd44 ct44 : Value}
    {t_HIGHEST : Tok}
    {t_MOST_NUMBERS : Tok}
    {t_GREATEST : Tok}
    {t_MOST_KINDS : Tok}
    {CT : Addr}
    {CInvalidNumber NInvalidNumber fIInvalidNumber : Addr} {nmInvalidNumber qInvalidNumber : Str} {bsInvalidNumber : List Value} {snInvalidNumber : List Str} {subInvalidNumber : List Value} {abInvalidNumber : Bool} {colInvalidNumber : Option Bool} {ddInvalidNumber : Option Addr} {m0InvalidNumber m1InvalidNumber m2InvalidNumber m3InvalidNumber m5InvalidNumber : Option Value}
    {odInvalidNumber anInvalidNumber : Option Addr} {slInvalidNumber : Array (Option Value)} {ocInvalidNumber kVInvalidNumber dcInvalidNumber pmInvalidNumber cdInvalidNumber ctInvalidNumber : Value}
    {CInvalidMany NInvalidMany fIInvalidMany : Addr} {nmInvalidMany qInvalidMany : Str} {bsInvalidMany : List Value} {snInvalidMany : List Str} {subInvalidMany : List Value} {abInvalidMany : Bool} {colInvalidMany : Option Bool} {ddInvalidMany : Option Addr} {m0InvalidMany m1InvalidMany m2InvalidMany m3InvalidMany m5InvalidMany : Option Value}
    {odInvalidMany anInvalidMany : Option Addr} {slInvalidMany : Array (Option Value)} {ocInvalidMany kVInvalidMany dcInvalidMany pmInvalidMany cdInvalidMany ctInvalidMany : Value}
    {CInvalidParts NInvalidParts fIInvalidParts : Addr} {nmInvalidParts qInvalidParts : Str} {bsInvalidParts : List Value} {snInvalidParts : List Str} {subInvalidParts : List Value} {abInvalidParts : Bool} {colInvalidParts : Option Bool} {ddInvalidParts : Option Addr} {m0InvalidParts m1InvalidParts m2InvalidParts m3InvalidParts m5InvalidParts : Option Value}
    {odInvalidParts anInvalidParts : Option Addr} {slInvalidParts : Array (Option Value)} {ocInvalidParts kVInvalidParts dcInvalidParts pmInvalidParts cdInvalidParts ctInvalidParts : Value}
    {CInvalidRest NInvalidRest fIInvalidRest : Addr} {nmInvalidRest qInvalidRest : Str} {bsInvalidRest : List Value} {snInvalidRest : List Str} {subInvalidRest : List Value} {abInvalidRest : Bool} {colInvalidRest : Option Bool} {ddInvalidRest : Option Addr} {m0InvalidRest m1InvalidRest m2InvalidRest m3InvalidRest m5InvalidRest : Option Value}
    {odInvalidRest anInvalidRest : Option Addr} {slInvalidRest : Array (Option Value)} {ocInvalidRest kVInvalidRest dcInvalidRest pmInvalidRest cdInvalidRest ctInvalidRest : Value}
    {CInvalidRow NInvalidRow fIInvalidRow : Addr} {nmInvalidRow qInvalidRow : Str} {bsInvalidRow : List Value} {snInvalidRow : List Str} {subInvalidRow : List Value} {abInvalidRow : Bool} {colInvalidRow : Option Bool} {ddInvalidRow : Option Addr} {m0InvalidRow m1InvalidRow m2InvalidRow m3InvalidRow m5InvalidRow : Option Value}
    {odInvalidRow anInvalidRow : Option Addr} {slInvalidRow : Array (Option Value)} {ocInvalidRow kVInvalidRow dcInvalidRow pmInvalidRow cdInvalidRow ctInvalidRow : Value}
    {CInvalidOwn NInvalidOwn fIInvalidOwn : Addr} {nmInvalidOwn qInvalidOwn : Str} {bsInvalidOwn : List Value} {snInvalidOwn : List Str} {subInvalidOwn : List Value} {abInvalidOwn : Bool} {colInvalidOwn : Option Bool} {ddInvalidOwn : Option Addr} {m0InvalidOwn m1InvalidOwn m2InvalidOwn m3InvalidOwn m5InvalidOwn : Option Value}
    {odInvalidOwn anInvalidOwn : Option Addr} {slInvalidOwn : Array (Option Value)} {ocInvalidOwn kVInvalidOwn dcInvalidOwn pmInvalidOwn cdInvalidOwn ctInvalidOwn : Value}
    {CInvalidOther NInvalidOther fIInvalidOther : Addr} {nmInvalidOther qInvalidOther : Str} {bsInvalidOther : List Value} {snInvalidOther : List Str} {subInvalidOther : List Value} {abInvalidOther : Bool} {colInvalidOther : Option Bool} {ddInvalidOther : Option Addr} {m0InvalidOther m1InvalidOther m2InvalidOther m3InvalidOther m5InvalidOther : Option Value}
    {odInvalidOther anInvalidOther : Option Addr} {slInvalidOther : Array (Option Value)} {ocInvalidOther kVInvalidOther dcInvalidOther pmInvalidOther cdInvalidOther ctInvalidOther : Value}
    (a1 : PySem.W.nsIn K mainGlobals "is_integer" = some (some (.ref f1)))
    (l1 : K.lookup f1 = some ⟨oc1, od1, .func (PySem.W.fnOf "is_integer" "is_integer" (defArgs s_is_integer) (defBody s_is_integer) (defScope s_is_integer) .none kV1 dc1 pm1 an1 cd1 ct1), sl1⟩)
    (c1 : PySem.W.codeIn K cd1 "is_integer" = true)
    (k1 : PySem.W.keepIn K (.ref f1) = true)
    (a2 : PySem.W.nsIn K mainGlobals "is_between" = some (some (.ref f2)))
    (l2 : K.lookup f2 = some ⟨oc2, od2, .func (PySem.W.fnOf "is_between" "is_between" (defArgs s_is_between) (defBody s_is_between) (defScope s_is_between) .none kV2 dc2 pm2 an2 cd2 ct2), sl2⟩)
    (c2 : PySem.W.codeIn K cd2 "is_between" = true)
    (k2 : PySem.W.keepIn K (.ref f2) = true)
    (a3 : PySem.W.nsIn K mainGlobals "is_from" = some (some (.ref f3)))
    (l3 : K.lookup f3 = some ⟨oc3, od3, .func (PySem.W.fnOf "is_from" "is_from" (defArgs s_is_from) (defBody s_is_from) (defScope s_is_from) .none kV3 dc3 pm3 an3 cd3 ct3), sl3⟩)
    (c3 : PySem.W.codeIn K cd3 "is_from" = true)
    (k3 : PySem.W.keepIn K (.ref f3) = true)
    (a4 : PySem.W.nsIn K mainGlobals "is_list" = some (some (.ref f4)))
    (l4 : K.lookup f4 = some ⟨oc4, od4, .func (PySem.W.fnOf "is_list" "is_list" (defArgs s_is_list) (defBody s_is_list) (defScope s_is_list) .none kV4 dc4 pm4 an4 cd4 ct4), sl4⟩)
    (c4 : PySem.W.codeIn K cd4 "is_list" = true)
    (k4 : PySem.W.keepIn K (.ref f4) = true)
    (a5 : PySem.W.nsIn K mainGlobals "are_between" = some (some (.ref f5)))
    (l5 : K.lookup f5 = some ⟨oc5, od5, .func (PySem.W.fnOf "are_between" "are_between" (defArgs s_are_between) (defBody s_are_between) (defScope s_are_between) .none kV5 dc5 pm5 an5 cd5 ct5), sl5⟩)
    (c5 : PySem.W.codeIn K cd5 "are_between" = true)
    (k5 : PySem.W.keepIn K (.ref f5) = true)
    (a6 : PySem.W.nsIn K mainGlobals "are_from" = some (some (.ref f6)))
    (l6 : K.lookup f6 = some ⟨oc6, od6, .func (PySem.W.fnOf "are_from" "are_from" (defArgs s_are_from) (defBody s_are_from) (defScope s_are_from) .none kV6 dc6 pm6 an6 cd6 ct6), sl6⟩)
    (c6 : PySem.W.codeIn K cd6 "are_from" = true)
    (k6 : PySem.W.keepIn K (.ref f6) = true)
    (a7 : PySem.W.nsIn K mainGlobals "arrangements" = some (some (.ref f7)))
    (l7 : K.lookup f7 = some ⟨oc7, od7, .func (PySem.W.fnOf "arrangements" "arrangements" (defArgs s_arrangements) (defBody s_arrangements) (defScope s_arrangements) .none kV7 dc7 pm7 an7 cd7 ct7), sl7⟩)
    (c7 : PySem.W.codeIn K cd7 "arrangements" = true)
    (k7 : PySem.W.keepIn K (.ref f7) = true)
    (a8 : PySem.W.nsIn K mainGlobals "even_parts" = some (some (.ref f8)))
    (l8 : K.lookup f8 = some ⟨oc8, od8, .func (PySem.W.fnOf "even_parts" "even_parts" (defArgs s_even_parts) (defBody s_even_parts) (defScope s_even_parts) .none kV8 dc8 pm8 an8 cd8 ct8), sl8⟩)
    (c8 : PySem.W.codeIn K cd8 "even_parts" = true)
    (k8 : PySem.W.keepIn K (.ref f8) = true)
    (a9 : PySem.W.nsIn K mainGlobals "most_arranged" = some (some (.ref f9)))
    (l9 : K.lookup f9 = some ⟨oc9, od9, .func (PySem.W.fnOf "most_arranged" "most_arranged" (defArgs s_most_arranged) (defBody s_most_arranged) (defScope s_most_arranged) .none kV9 dc9 pm9 an9 cd9 ct9), sl9⟩)
    (c9 : PySem.W.codeIn K cd9 "most_arranged" = true)
    (k9 : PySem.W.keepIn K (.ref f9) = true)
    (a10 : PySem.W.nsIn K mainGlobals "_check_number" = some (some (.ref f10)))
    (l10 : K.lookup f10 = some ⟨oc10, od10, .func (PySem.W.fnOf "_check_number" "_check_number" (defArgs s_check_number) (defBody s_check_number) (defScope s_check_number) .none kV10 dc10 pm10 an10 cd10 ct10), sl10⟩)
    (c10 : PySem.W.codeIn K cd10 "_check_number" = true)
    (k10 : PySem.W.keepIn K (.ref f10) = true)
    (a11 : PySem.W.nsIn K mainGlobals "_check_many" = some (some (.ref f11)))
    (l11 : K.lookup f11 = some ⟨oc11, od11, .func (PySem.W.fnOf "_check_many" "_check_many" (defArgs s_check_many) (defBody s_check_many) (defScope s_check_many) .none kV11 dc11 pm11 an11 cd11 ct11), sl11⟩)
    (c11 : PySem.W.codeIn K cd11 "_check_many" = true)
    (k11 : PySem.W.keepIn K (.ref f11) = true)
    (a12 : PySem.W.nsIn K mainGlobals "can_tell" = some (some (.ref f12)))
    (l12 : K.lookup f12 = some ⟨oc12, od12, .func (PySem.W.fnOf "can_tell" "can_tell" (defArgs s_can_tell) (defBody s_can_tell) (defScope s_can_tell) .none kV12 dc12 pm12 an12 cd12 ct12), sl12⟩)
    (c12 : PySem.W.codeIn K cd12 "can_tell" = true)
    (k12 : PySem.W.keepIn K (.ref f12) = true)
    (a13 : PySem.W.nsIn K mainGlobals "is_row" = some (some (.ref f13)))
    (l13 : K.lookup f13 = some ⟨oc13, od13, .func (PySem.W.fnOf "is_row" "is_row" (defArgs s_is_row) (defBody s_is_row) (defScope s_is_row) .none kV13 dc13 pm13 an13 cd13 ct13), sl13⟩)
    (c13 : PySem.W.codeIn K cd13 "is_row" = true)
    (k13 : PySem.W.keepIn K (.ref f13) = true)
    (a14 : PySem.W.nsIn K mainGlobals "stairs_by" = some (some (.ref f14)))
    (l14 : K.lookup f14 = some ⟨oc14, od14, .func (PySem.W.fnOf "stairs_by" "stairs_by" (defArgs s_stairs_by) (defBody s_stairs_by) (defScope s_stairs_by) .none kV14 dc14 pm14 an14 cd14 ct14), sl14⟩)
    (c14 : PySem.W.codeIn K cd14 "stairs_by" = true)
    (k14 : PySem.W.keepIn K (.ref f14) = true)
    (a15 : PySem.W.nsIn K mainGlobals "_stair" = some (some (.ref f15)))
    (l15 : K.lookup f15 = some ⟨oc15, od15, .func (PySem.W.fnOf "_stair" "_stair" (defArgs s_stair) (defBody s_stair) (defScope s_stair) .none kV15 dc15 pm15 an15 cd15 ct15), sl15⟩)
    (c15 : PySem.W.codeIn K cd15 "_stair" = true)
    (k15 : PySem.W.keepIn K (.ref f15) = true)
    (a16 : PySem.W.nsIn K mainGlobals "_least" = some (some (.ref f16)))
    (l16 : K.lookup f16 = some ⟨oc16, od16, .func (PySem.W.fnOf "_least" "_least" (defArgs s_least) (defBody s_least) (defScope s_least) .none kV16 dc16 pm16 an16 cd16 ct16), sl16⟩)
    (c16 : PySem.W.codeIn K cd16 "_least" = true)
    (k16 : PySem.W.keepIn K (.ref f16) = true)
    (a17 : PySem.W.nsIn K mainGlobals "_need" = some (some (.ref f17)))
    (l17 : K.lookup f17 = some ⟨oc17, od17, .func (PySem.W.fnOf "_need" "_need" (defArgs s_need) (defBody s_need) (defScope s_need) .none kV17 dc17 pm17 an17 cd17 ct17), sl17⟩)
    (c17 : PySem.W.codeIn K cd17 "_need" = true)
    (k17 : PySem.W.keepIn K (.ref f17) = true)
    (a18 : PySem.W.nsIn K mainGlobals "_fewest_answers" = some (some (.ref f18)))
    (l18 : K.lookup f18 = some ⟨oc18, od18, .func (PySem.W.fnOf "_fewest_answers" "_fewest_answers" (defArgs s_fewest_answers) (defBody s_fewest_answers) (defScope s_fewest_answers) .none kV18 dc18 pm18 an18 cd18 ct18), sl18⟩)
    (c18 : PySem.W.codeIn K cd18 "_fewest_answers" = true)
    (k18 : PySem.W.keepIn K (.ref f18) = true)
    (a19 : PySem.W.nsIn K mainGlobals "told_by_kinds" = some (some (.ref f19)))
    (l19 : K.lookup f19 = some ⟨oc19, od19, .func (PySem.W.fnOf "told_by_kinds" "told_by_kinds" (defArgs s_told_by_kinds) (defBody s_told_by_kinds) (defScope s_told_by_kinds) .none kV19 dc19 pm19 an19 cd19 ct19), sl19⟩)
    (c19 : PySem.W.codeIn K cd19 "told_by_kinds" = true)
    (k19 : PySem.W.keepIn K (.ref f19) = true)
    (a20 : PySem.W.nsIn K mainGlobals "_told_by" = some (some (.ref f20)))
    (l20 : K.lookup f20 = some ⟨oc20, od20, .func (PySem.W.fnOf "_told_by" "_told_by" (defArgs s_told_by) (defBody s_told_by) (defScope s_told_by) .none kV20 dc20 pm20 an20 cd20 ct20), sl20⟩)
    (c20 : PySem.W.codeIn K cd20 "_told_by" = true)
    (k20 : PySem.W.keepIn K (.ref f20) = true)
    (a21 : PySem.W.nsIn K mainGlobals "check_row_and_kinds" = some (some (.ref f21)))
    (l21 : K.lookup f21 = some ⟨oc21, od21, .func (PySem.W.fnOf "check_row_and_kinds" "check_row_and_kinds" (defArgs s_check_row_and_kinds) (defBody s_check_row_and_kinds) (defScope s_check_row_and_kinds) .none kV21 dc21 pm21 an21 cd21 ct21), sl21⟩)
    (c21 : PySem.W.codeIn K cd21 "check_row_and_kinds" = true)
    (k21 : PySem.W.keepIn K (.ref f21) = true)
    (a22 : PySem.W.nsIn K mainGlobals "_check_row" = some (some (.ref f22)))
    (l22 : K.lookup f22 = some ⟨oc22, od22, .func (PySem.W.fnOf "_check_row" "_check_row" (defArgs s_check_row) (defBody s_check_row) (defScope s_check_row) .none kV22 dc22 pm22 an22 cd22 ct22), sl22⟩)
    (c22 : PySem.W.codeIn K cd22 "_check_row" = true)
    (k22 : PySem.W.keepIn K (.ref f22) = true)
    (a23 : PySem.W.nsIn K mainGlobals "_check_kinds" = some (some (.ref f23)))
    (l23 : K.lookup f23 = some ⟨oc23, od23, .func (PySem.W.fnOf "_check_kinds" "_check_kinds" (defArgs s_check_kinds) (defBody s_check_kinds) (defScope s_check_kinds) .none kV23 dc23 pm23 an23 cd23 ct23), sl23⟩)
    (c23 : PySem.W.codeIn K cd23 "_check_kinds" = true)
    (k23 : PySem.W.keepIn K (.ref f23) = true)
    (a24 : PySem.W.nsIn K mainGlobals "_law_cell" = some (some (.ref f24)))
    (l24 : K.lookup f24 = some ⟨oc24, od24, .func (PySem.W.fnOf "_law_cell" "_law_cell" (defArgs s_law_cell) (defBody s_law_cell) (defScope s_law_cell) .none kV24 dc24 pm24 an24 cd24 ct24), sl24⟩)
    (c24 : PySem.W.codeIn K cd24 "_law_cell" = true)
    (k24 : PySem.W.keepIn K (.ref f24) = true)
    (a25 : PySem.W.nsIn K mainGlobals "_law_box" = some (some (.ref f25)))
    (l25 : K.lookup f25 = some ⟨oc25, od25, .func (PySem.W.fnOf "_law_box" "_law_box" (defArgs s_law_box) (defBody s_law_box) (defScope s_law_box) .none kV25 dc25 pm25 an25 cd25 ct25), sl25⟩)
    (c25 : PySem.W.codeIn K cd25 "_law_box" = true)
    (k25 : PySem.W.keepIn K (.ref f25) = true)
    (a26 : PySem.W.nsIn K mainGlobals "_law_take" = some (some (.ref f26)))
    (l26 : K.lookup f26 = some ⟨oc26, od26, .func (PySem.W.fnOf "_law_take" "_law_take" (defArgs s_law_take) (defBody s_law_take) (defScope s_law_take) .none kV26 dc26 pm26 an26 cd26 ct26), sl26⟩)
    (c26 : PySem.W.codeIn K cd26 "_law_take" = true)
    (k26 : PySem.W.keepIn K (.ref f26) = true)
    (a27 : PySem.W.nsIn K mainGlobals "_law_same" = some (some (.ref f27)))
    (l27 : K.lookup f27 = some ⟨oc27, od27, .func (PySem.W.fnOf "_law_same" "_law_same" (defArgs s_law_same) (defBody s_law_same) (defScope s_law_same) .none kV27 dc27 pm27 an27 cd27 ct27), sl27⟩)
    (c27 : PySem.W.codeIn K cd27 "_law_same" = true)
    (k27 : PySem.W.keepIn K (.ref f27) = true)
    (a28 : PySem.W.nsIn K mainGlobals "_law_arranged" = some (some (.ref f28)))
    (l28 : K.lookup f28 = some ⟨oc28, od28, .func (PySem.W.fnOf "_law_arranged" "_law_arranged" (defArgs s_law_arranged) (defBody s_law_arranged) (defScope s_law_arranged) .none kV28 dc28 pm28 an28 cd28 ct28), sl28⟩)
    (c28 : PySem.W.codeIn K cd28 "_law_arranged" = true)
    (k28 : PySem.W.keepIn K (.ref f28) = true)
    (a29 : PySem.W.nsIn K mainGlobals "_law_best" = some (some (.ref f29)))
    (l29 : K.lookup f29 = some ⟨oc29, od29, .func (PySem.W.fnOf "_law_best" "_law_best" (defArgs s_law_best) (defBody s_law_best) (defScope s_law_best) .none kV29 dc29 pm29 an29 cd29 ct29), sl29⟩)
    (c29 : PySem.W.codeIn K cd29 "_law_best" = true)
    (k29 : PySem.W.keepIn K (.ref f29) = true)
    (a30 : PySem.W.nsIn K mainGlobals "_law_bests" = some (some (.ref f30)))
    (l30 : K.lookup f30 = some ⟨oc30, od30, .func (PySem.W.fnOf "_law_bests" "_law_bests" (defArgs s_law_bests) (defBody s_law_bests) (defScope s_law_bests) .none kV30 dc30 pm30 an30 cd30 ct30), sl30⟩)
    (c30 : PySem.W.codeIn K cd30 "_law_bests" = true)
    (k30 : PySem.W.keepIn K (.ref f30) = true)
    (a31 : PySem.W.nsIn K mainGlobals "_law_lefts" = some (some (.ref f31)))
    (l31 : K.lookup f31 = some ⟨oc31, od31, .func (PySem.W.fnOf "_law_lefts" "_law_lefts" (defArgs s_law_lefts) (defBody s_law_lefts) (defScope s_law_lefts) .none kV31 dc31 pm31 an31 cd31 ct31), sl31⟩)
    (c31 : PySem.W.codeIn K cd31 "_law_lefts" = true)
    (k31 : PySem.W.keepIn K (.ref f31) = true)
    (a32 : PySem.W.nsIn K mainGlobals "_law_tables" = some (some (.ref f32)))
    (l32 : K.lookup f32 = some ⟨oc32, od32, .func (PySem.W.fnOf "_law_tables" "_law_tables" (defArgs s_law_tables) (defBody s_law_tables) (defScope s_law_tables) .none kV32 dc32 pm32 an32 cd32 ct32), sl32⟩)
    (c32 : PySem.W.codeIn K cd32 "_law_tables" = true)
    (k32 : PySem.W.keepIn K (.ref f32) = true)
    (a33 : PySem.W.nsIn K mainGlobals "_law_size_lists" = some (some (.ref f33)))
    (l33 : K.lookup f33 = some ⟨oc33, od33, .func (PySem.W.fnOf "_law_size_lists" "_law_size_lists" (defArgs s_law_size_lists) (defBody s_law_size_lists) (defScope s_law_size_lists) .none kV33 dc33 pm33 an33 cd33 ct33), sl33⟩)
    (c33 : PySem.W.codeIn K cd33 "_law_size_lists" = true)
    (k33 : PySem.W.keepIn K (.ref f33) = true)
    (a34 : PySem.W.nsIn K mainGlobals "_law_listed" = some (some (.ref f34)))
    (l34 : K.lookup f34 = some ⟨oc34, od34, .func (PySem.W.fnOf "_law_listed" "_law_listed" (defArgs s_law_listed) (defBody s_law_listed) (defScope s_law_listed) .none kV34 dc34 pm34 an34 cd34 ct34), sl34⟩)
    (c34 : PySem.W.codeIn K cd34 "_law_listed" = true)
    (k34 : PySem.W.keepIn K (.ref f34) = true)
    (a35 : PySem.W.nsIn K mainGlobals "_law_sizes" = some (some (.ref f35)))
    (l35 : K.lookup f35 = some ⟨oc35, od35, .func (PySem.W.fnOf "_law_sizes" "_law_sizes" (defArgs s_law_sizes) (defBody s_law_sizes) (defScope s_law_sizes) .none kV35 dc35 pm35 an35 cd35 ct35), sl35⟩)
    (c35 : PySem.W.codeIn K cd35 "_law_sizes" = true)
    (k35 : PySem.W.keepIn K (.ref f35) = true)
    (a36 : PySem.W.nsIn K mainGlobals "_law_planned" = some (some (.ref f36)))
    (l36 : K.lookup f36 = some ⟨oc36, od36, .func (PySem.W.fnOf "_law_planned" "_law_planned" (defArgs s_law_planned) (defBody s_law_planned) (defScope s_law_planned) .none kV36 dc36 pm36 an36 cd36 ct36), sl36⟩)
    (c36 : PySem.W.codeIn K cd36 "_law_planned" = true)
    (k36 : PySem.W.keepIn K (.ref f36) = true)
    (a37 : PySem.W.nsIn K mainGlobals "_law_changed" = some (some (.ref f37)))
    (l37 : K.lookup f37 = some ⟨oc37, od37, .func (PySem.W.fnOf "_law_changed" "_law_changed" (defArgs s_law_changed) (defBody s_law_changed) (defScope s_law_changed) .none kV37 dc37 pm37 an37 cd37 ct37), sl37⟩)
    (c37 : PySem.W.codeIn K cd37 "_law_changed" = true)
    (k37 : PySem.W.keepIn K (.ref f37) = true)
    (a38 : PySem.W.nsIn K mainGlobals "_law_told" = some (some (.ref f38)))
    (l38 : K.lookup f38 = some ⟨oc38, od38, .func (PySem.W.fnOf "_law_told" "_law_told" (defArgs s_law_told) (defBody s_law_told) (defScope s_law_told) .none kV38 dc38 pm38 an38 cd38 ct38), sl38⟩)
    (c38 : PySem.W.codeIn K cd38 "_law_told" = true)
    (k38 : PySem.W.keepIn K (.ref f38) = true)
    (a39 : PySem.W.nsIn K mainGlobals "_law_fixed_right" = some (some (.ref f39)))
    (l39 : K.lookup f39 = some ⟨oc39, od39, .func (PySem.W.fnOf "_law_fixed_right" "_law_fixed_right" (defArgs s_law_fixed_right) (defBody s_law_fixed_right) (defScope s_law_fixed_right) .none kV39 dc39 pm39 an39 cd39 ct39), sl39⟩)
    (c39 : PySem.W.codeIn K cd39 "_law_fixed_right" = true)
    (k39 : PySem.W.keepIn K (.ref f39) = true)
    (a40 : PySem.W.nsIn K mainGlobals "_law_small_right" = some (some (.ref f40)))
    (l40 : K.lookup f40 = some ⟨oc40, od40, .func (PySem.W.fnOf "_law_small_right" "_law_small_right" (defArgs s_law_small_right) (defBody s_law_small_right) (defScope s_law_small_right) .none kV40 dc40 pm40 an40 cd40 ct40), sl40⟩)
    (c40 : PySem.W.codeIn K cd40 "_law_small_right" = true)
    (k40 : PySem.W.keepIn K (.ref f40) = true)
    (a41 : PySem.W.nsIn K mainGlobals "_law_rests_right" = some (some (.ref f41)))
    (l41 : K.lookup f41 = some ⟨oc41, od41, .func (PySem.W.fnOf "_law_rests_right" "_law_rests_right" (defArgs s_law_rests_right) (defBody s_law_rests_right) (defScope s_law_rests_right) .none kV41 dc41 pm41 an41 cd41 ct41), sl41⟩)
    (c41 : PySem.W.codeIn K cd41 "_law_rests_right" = true)
    (k41 : PySem.W.keepIn K (.ref f41) = true)
    (a42 : PySem.W.nsIn K mainGlobals "_law_reach" = some (some (.ref f42)))
    (l42 : K.lookup f42 = some ⟨oc42, od42, .func (PySem.W.fnOf "_law_reach" "_law_reach" (defArgs s_law_reach) (defBody s_law_reach) (defScope s_law_reach) .none kV42 dc42 pm42 an42 cd42 ct42), sl42⟩)
    (c42 : PySem.W.codeIn K cd42 "_law_reach" = true)
    (k42 : PySem.W.keepIn K (.ref f42) = true)
    (a43 : PySem.W.nsIn K mainGlobals "_law_traded_right" = some (some (.ref f43)))
    (l43 : K.lookup f43 = some ⟨oc43, od43, .func (PySem.W.fnOf "_law_traded_right" "_law_traded_right" (defArgs s_law_traded_right) (defBody s_law_traded_right) (defScope s_law_traded_right) .none kV43 dc43 pm43 an43 cd43 ct43), sl43⟩)
    (c43 : PySem.W.codeIn K cd43 "_law_traded_right" = true)
    (k43 : PySem.W.keepIn K (.ref f43) = true)
    (a44 : PySem.W.nsIn K mainGlobals "law" = some (some (.ref f44)))
    (l44 : K.lookup f44 = some ⟨oc44, od44, .func (PySem.W.fnOf "law" "law" (defArgs s_law) (defBody s_law) (defScope s_law) .none kV44 dc44 pm44 an44 cd44 ct44), sl44⟩)
    (c44 : PySem.W.codeIn K cd44 "law" = true)
    (k44 : PySem.W.keepIn K (.ref f44) = true)
    (z_int : PySem.W.nsIn K mainGlobals "int" = some none)
    (z_bool : PySem.W.nsIn K mainGlobals "bool" = some none)
    (z_str : PySem.W.nsIn K mainGlobals "str" = some none)
    (z_list : PySem.W.nsIn K mainGlobals "list" = some none)
    (z_tuple : PySem.W.nsIn K mainGlobals "tuple" = some none)
    (z_len : PySem.W.nsIn K mainGlobals "len" = some none)
    (z_sum : PySem.W.nsIn K mainGlobals "sum" = some none)
    (z_abs : PySem.W.nsIn K mainGlobals "abs" = some none)
    (z_all : PySem.W.nsIn K mainGlobals "all" = some none)
    (z_range : PySem.W.nsIn K mainGlobals "range" = some none)
    (z_isinstance : PySem.W.nsIn K mainGlobals "isinstance" = some none)
    (z_max : PySem.W.nsIn K mainGlobals "max" = some none)
    (z_min : PySem.W.nsIn K mainGlobals "min" = some none)
    (z_enumerate : PySem.W.nsIn K mainGlobals "enumerate" = some none)
    (c_HIGHEST : PySem.W.nsIn K mainGlobals "HIGHEST" = some (some (.int 64 t_HIGHEST)))
    (c_MOST_NUMBERS : PySem.W.nsIn K mainGlobals "MOST_NUMBERS" = some (some (.int 16 t_MOST_NUMBERS)))
    (c_GREATEST : PySem.W.nsIn K mainGlobals "GREATEST" = some (some (.int 100000000000000000000000000000000000000000000000000 t_GREATEST)))
    (c_MOST_KINDS : PySem.W.nsIn K mainGlobals "MOST_KINDS" = some (some (.int 16 t_MOST_KINDS)))
    (c_comb : PySem.W.nsIn K mainGlobals "comb" = some (some (.builtin "math.comb")))
    (aCT : PySem.W.nsIn K mainGlobals "TalkError" = some (some (.ref CT)))
    (aCInvalidNumber : PySem.W.nsIn K mainGlobals "InvalidNumber" = some (some (.ref CInvalidNumber)))
    (xLInvalidNumber : K.lookup CInvalidNumber = some (excClassObj nmInvalidNumber qInvalidNumber CInvalidNumber NInvalidNumber bsInvalidNumber [.ref CT, .type "ValueError", .type "Exception", .type "BaseException", .type "object"] true snInvalidNumber subInvalidNumber abInvalidNumber colInvalidNumber ddInvalidNumber m0InvalidNumber m1InvalidNumber m2InvalidNumber m3InvalidNumber m5InvalidNumber "ValueError.__new__"))
    (saInvalidNumber : PySem.W.findIn K (.ref CInvalidNumber) "__setattr__" = some (some (.builtin "object.__setattr__")))
    (gaInvalidNumber : PySem.W.findIn K (.ref CInvalidNumber) "__getattribute__" = some (some (.builtin "BaseException.__getattribute__")))
    (ggInvalidNumber : PySem.W.findIn K (.ref CInvalidNumber) "__getattr__" = some none)
    (nbInvalidNumber : PySem.W.findIn K (.ref CInvalidNumber) "given" = some none)
    (iCInvalidNumber : PySem.W.findIn K (.ref CInvalidNumber) "__init__" = some (some (.ref fIInvalidNumber)))
    (tIInvalidNumber : PySem.W.typeIn K (.ref fIInvalidNumber) = some (.type "function"))
    (lIInvalidNumber : K.lookup fIInvalidNumber = some ⟨ocInvalidNumber, odInvalidNumber, .func (PySem.W.fnOf "__init__" "InvalidNumber.__init__" (defArgs s_init_InvalidNumber) (defBody s_init_InvalidNumber) (defScope s_init_InvalidNumber) .none kVInvalidNumber dcInvalidNumber pmInvalidNumber anInvalidNumber cdInvalidNumber ctInvalidNumber), slInvalidNumber⟩)
    (cIInvalidNumber : PySem.W.codeIn K cdInvalidNumber "InvalidNumber.__init__" = true)
    (kIInvalidNumber : PySem.W.keepIn K (.ref fIInvalidNumber) = true)
    (kCInvalidNumber : PySem.W.keepIn K (.ref CInvalidNumber) = true)
    (eCInvalidNumber : PySem.W.subIn K (.ref CInvalidNumber) (.type "BaseException") = some true)
    (tCInvalidNumber : PySem.W.typeIn K (.ref CInvalidNumber) = some (.type "type"))
    (hCInvalidNumber : PySem.W.hasDictIn K CInvalidNumber = true)
    (iSInvalidNumber : PySem.W.isClsIn K CInvalidNumber = true)
    (aCInvalidMany : PySem.W.nsIn K mainGlobals "InvalidMany" = some (some (.ref CInvalidMany)))
    (xLInvalidMany : K.lookup CInvalidMany = some (excClassObj nmInvalidMany qInvalidMany CInvalidMany NInvalidMany bsInvalidMany [.ref CT, .type "ValueError", .type "Exception", .type "BaseException", .type "object"] true snInvalidMany subInvalidMany abInvalidMany colInvalidMany ddInvalidMany m0InvalidMany m1InvalidMany m2InvalidMany m3InvalidMany m5InvalidMany "ValueError.__new__"))
    (saInvalidMany : PySem.W.findIn K (.ref CInvalidMany) "__setattr__" = some (some (.builtin "object.__setattr__")))
    (gaInvalidMany : PySem.W.findIn K (.ref CInvalidMany) "__getattribute__" = some (some (.builtin "BaseException.__getattribute__")))
    (ggInvalidMany : PySem.W.findIn K (.ref CInvalidMany) "__getattr__" = some none)
    (nbInvalidMany : PySem.W.findIn K (.ref CInvalidMany) "given" = some none)
    (iCInvalidMany : PySem.W.findIn K (.ref CInvalidMany) "__init__" = some (some (.ref fIInvalidMany)))
    (tIInvalidMany : PySem.W.typeIn K (.ref fIInvalidMany) = some (.type "function"))
    (lIInvalidMany : K.lookup fIInvalidMany = some ⟨ocInvalidMany, odInvalidMany, .func (PySem.W.fnOf "__init__" "InvalidMany.__init__" (defArgs s_init_InvalidMany) (defBody s_init_InvalidMany) (defScope s_init_InvalidMany) .none kVInvalidMany dcInvalidMany pmInvalidMany anInvalidMany cdInvalidMany ctInvalidMany), slInvalidMany⟩)
    (cIInvalidMany : PySem.W.codeIn K cdInvalidMany "InvalidMany.__init__" = true)
    (kIInvalidMany : PySem.W.keepIn K (.ref fIInvalidMany) = true)
    (kCInvalidMany : PySem.W.keepIn K (.ref CInvalidMany) = true)
    (eCInvalidMany : PySem.W.subIn K (.ref CInvalidMany) (.type "BaseException") = some true)
    (tCInvalidMany : PySem.W.typeIn K (.ref CInvalidMany) = some (.type "type"))
    (hCInvalidMany : PySem.W.hasDictIn K CInvalidMany = true)
    (iSInvalidMany : PySem.W.isClsIn K CInvalidMany = true)
    (aCInvalidParts : PySem.W.nsIn K mainGlobals "InvalidParts" = some (some (.ref CInvalidParts)))
    (xLInvalidParts : K.lookup CInvalidParts = some (excClassObj nmInvalidParts qInvalidParts CInvalidParts NInvalidParts bsInvalidParts [.ref CT, .type "ValueError", .type "Exception", .type "BaseException", .type "object"] true snInvalidParts subInvalidParts abInvalidParts colInvalidParts ddInvalidParts m0InvalidParts m1InvalidParts m2InvalidParts m3InvalidParts m5InvalidParts "ValueError.__new__"))
    (saInvalidParts : PySem.W.findIn K (.ref CInvalidParts) "__setattr__" = some (some (.builtin "object.__setattr__")))
    (gaInvalidParts : PySem.W.findIn K (.ref CInvalidParts) "__getattribute__" = some (some (.builtin "BaseException.__getattribute__")))
    (ggInvalidParts : PySem.W.findIn K (.ref CInvalidParts) "__getattr__" = some none)
    (nbInvalidParts : PySem.W.findIn K (.ref CInvalidParts) "given" = some none)
    (iCInvalidParts : PySem.W.findIn K (.ref CInvalidParts) "__init__" = some (some (.ref fIInvalidParts)))
    (tIInvalidParts : PySem.W.typeIn K (.ref fIInvalidParts) = some (.type "function"))
    (lIInvalidParts : K.lookup fIInvalidParts = some ⟨ocInvalidParts, odInvalidParts, .func (PySem.W.fnOf "__init__" "InvalidParts.__init__" (defArgs s_init_InvalidParts) (defBody s_init_InvalidParts) (defScope s_init_InvalidParts) .none kVInvalidParts dcInvalidParts pmInvalidParts anInvalidParts cdInvalidParts ctInvalidParts), slInvalidParts⟩)
    (cIInvalidParts : PySem.W.codeIn K cdInvalidParts "InvalidParts.__init__" = true)
    (kIInvalidParts : PySem.W.keepIn K (.ref fIInvalidParts) = true)
    (kCInvalidParts : PySem.W.keepIn K (.ref CInvalidParts) = true)
    (eCInvalidParts : PySem.W.subIn K (.ref CInvalidParts) (.type "BaseException") = some true)
    (tCInvalidParts : PySem.W.typeIn K (.ref CInvalidParts) = some (.type "type"))
    (hCInvalidParts : PySem.W.hasDictIn K CInvalidParts = true)
    (iSInvalidParts : PySem.W.isClsIn K CInvalidParts = true)
    (aCInvalidRest : PySem.W.nsIn K mainGlobals "InvalidRest" = some (some (.ref CInvalidRest)))
    (xLInvalidRest : K.lookup CInvalidRest = some (excClassObj nmInvalidRest qInvalidRest CInvalidRest NInvalidRest bsInvalidRest [.ref CT, .type "ValueError", .type "Exception", .type "BaseException", .type "object"] true snInvalidRest subInvalidRest abInvalidRest colInvalidRest ddInvalidRest m0InvalidRest m1InvalidRest m2InvalidRest m3InvalidRest m5InvalidRest "ValueError.__new__"))
    (saInvalidRest : PySem.W.findIn K (.ref CInvalidRest) "__setattr__" = some (some (.builtin "object.__setattr__")))
    (gaInvalidRest : PySem.W.findIn K (.ref CInvalidRest) "__getattribute__" = some (some (.builtin "BaseException.__getattribute__")))
    (ggInvalidRest : PySem.W.findIn K (.ref CInvalidRest) "__getattr__" = some none)
    (nbInvalidRest : PySem.W.findIn K (.ref CInvalidRest) "given" = some none)
    (iCInvalidRest : PySem.W.findIn K (.ref CInvalidRest) "__init__" = some (some (.ref fIInvalidRest)))
    (tIInvalidRest : PySem.W.typeIn K (.ref fIInvalidRest) = some (.type "function"))
    (lIInvalidRest : K.lookup fIInvalidRest = some ⟨ocInvalidRest, odInvalidRest, .func (PySem.W.fnOf "__init__" "InvalidRest.__init__" (defArgs s_init_InvalidRest) (defBody s_init_InvalidRest) (defScope s_init_InvalidRest) .none kVInvalidRest dcInvalidRest pmInvalidRest anInvalidRest cdInvalidRest ctInvalidRest), slInvalidRest⟩)
    (cIInvalidRest : PySem.W.codeIn K cdInvalidRest "InvalidRest.__init__" = true)
    (kIInvalidRest : PySem.W.keepIn K (.ref fIInvalidRest) = true)
    (kCInvalidRest : PySem.W.keepIn K (.ref CInvalidRest) = true)
    (eCInvalidRest : PySem.W.subIn K (.ref CInvalidRest) (.type "BaseException") = some true)
    (tCInvalidRest : PySem.W.typeIn K (.ref CInvalidRest) = some (.type "type"))
    (hCInvalidRest : PySem.W.hasDictIn K CInvalidRest = true)
    (iSInvalidRest : PySem.W.isClsIn K CInvalidRest = true)
    (aCInvalidRow : PySem.W.nsIn K mainGlobals "InvalidRow" = some (some (.ref CInvalidRow)))
    (xLInvalidRow : K.lookup CInvalidRow = some (excClassObj nmInvalidRow qInvalidRow CInvalidRow NInvalidRow bsInvalidRow [.ref CT, .type "ValueError", .type "Exception", .type "BaseException", .type "object"] true snInvalidRow subInvalidRow abInvalidRow colInvalidRow ddInvalidRow m0InvalidRow m1InvalidRow m2InvalidRow m3InvalidRow m5InvalidRow "ValueError.__new__"))
    (saInvalidRow : PySem.W.findIn K (.ref CInvalidRow) "__setattr__" = some (some (.builtin "object.__setattr__")))
    (gaInvalidRow : PySem.W.findIn K (.ref CInvalidRow) "__getattribute__" = some (some (.builtin "BaseException.__getattribute__")))
    (ggInvalidRow : PySem.W.findIn K (.ref CInvalidRow) "__getattr__" = some none)
    (nbInvalidRow : PySem.W.findIn K (.ref CInvalidRow) "given" = some none)
    (iCInvalidRow : PySem.W.findIn K (.ref CInvalidRow) "__init__" = some (some (.ref fIInvalidRow)))
    (tIInvalidRow : PySem.W.typeIn K (.ref fIInvalidRow) = some (.type "function"))
    (lIInvalidRow : K.lookup fIInvalidRow = some ⟨ocInvalidRow, odInvalidRow, .func (PySem.W.fnOf "__init__" "InvalidRow.__init__" (defArgs s_init_InvalidRow) (defBody s_init_InvalidRow) (defScope s_init_InvalidRow) .none kVInvalidRow dcInvalidRow pmInvalidRow anInvalidRow cdInvalidRow ctInvalidRow), slInvalidRow⟩)
    (cIInvalidRow : PySem.W.codeIn K cdInvalidRow "InvalidRow.__init__" = true)
    (kIInvalidRow : PySem.W.keepIn K (.ref fIInvalidRow) = true)
    (kCInvalidRow : PySem.W.keepIn K (.ref CInvalidRow) = true)
    (eCInvalidRow : PySem.W.subIn K (.ref CInvalidRow) (.type "BaseException") = some true)
    (tCInvalidRow : PySem.W.typeIn K (.ref CInvalidRow) = some (.type "type"))
    (hCInvalidRow : PySem.W.hasDictIn K CInvalidRow = true)
    (iSInvalidRow : PySem.W.isClsIn K CInvalidRow = true)
    (aCInvalidOwn : PySem.W.nsIn K mainGlobals "InvalidOwn" = some (some (.ref CInvalidOwn)))
    (xLInvalidOwn : K.lookup CInvalidOwn = some (excClassObj nmInvalidOwn qInvalidOwn CInvalidOwn NInvalidOwn bsInvalidOwn [.ref CT, .type "ValueError", .type "Exception", .type "BaseException", .type "object"] true snInvalidOwn subInvalidOwn abInvalidOwn colInvalidOwn ddInvalidOwn m0InvalidOwn m1InvalidOwn m2InvalidOwn m3InvalidOwn m5InvalidOwn "ValueError.__new__"))
    (saInvalidOwn : PySem.W.findIn K (.ref CInvalidOwn) "__setattr__" = some (some (.builtin "object.__setattr__")))
    (gaInvalidOwn : PySem.W.findIn K (.ref CInvalidOwn) "__getattribute__" = some (some (.builtin "BaseException.__getattribute__")))
    (ggInvalidOwn : PySem.W.findIn K (.ref CInvalidOwn) "__getattr__" = some none)
    (nbInvalidOwn : PySem.W.findIn K (.ref CInvalidOwn) "given" = some none)
    (iCInvalidOwn : PySem.W.findIn K (.ref CInvalidOwn) "__init__" = some (some (.ref fIInvalidOwn)))
    (tIInvalidOwn : PySem.W.typeIn K (.ref fIInvalidOwn) = some (.type "function"))
    (lIInvalidOwn : K.lookup fIInvalidOwn = some ⟨ocInvalidOwn, odInvalidOwn, .func (PySem.W.fnOf "__init__" "InvalidOwn.__init__" (defArgs s_init_InvalidOwn) (defBody s_init_InvalidOwn) (defScope s_init_InvalidOwn) .none kVInvalidOwn dcInvalidOwn pmInvalidOwn anInvalidOwn cdInvalidOwn ctInvalidOwn), slInvalidOwn⟩)
    (cIInvalidOwn : PySem.W.codeIn K cdInvalidOwn "InvalidOwn.__init__" = true)
    (kIInvalidOwn : PySem.W.keepIn K (.ref fIInvalidOwn) = true)
    (kCInvalidOwn : PySem.W.keepIn K (.ref CInvalidOwn) = true)
    (eCInvalidOwn : PySem.W.subIn K (.ref CInvalidOwn) (.type "BaseException") = some true)
    (tCInvalidOwn : PySem.W.typeIn K (.ref CInvalidOwn) = some (.type "type"))
    (hCInvalidOwn : PySem.W.hasDictIn K CInvalidOwn = true)
    (iSInvalidOwn : PySem.W.isClsIn K CInvalidOwn = true)
    (aCInvalidOther : PySem.W.nsIn K mainGlobals "InvalidOther" = some (some (.ref CInvalidOther)))
    (xLInvalidOther : K.lookup CInvalidOther = some (excClassObj nmInvalidOther qInvalidOther CInvalidOther NInvalidOther bsInvalidOther [.ref CT, .type "ValueError", .type "Exception", .type "BaseException", .type "object"] true snInvalidOther subInvalidOther abInvalidOther colInvalidOther ddInvalidOther m0InvalidOther m1InvalidOther m2InvalidOther m3InvalidOther m5InvalidOther "ValueError.__new__"))
    (saInvalidOther : PySem.W.findIn K (.ref CInvalidOther) "__setattr__" = some (some (.builtin "object.__setattr__")))
    (gaInvalidOther : PySem.W.findIn K (.ref CInvalidOther) "__getattribute__" = some (some (.builtin "BaseException.__getattribute__")))
    (ggInvalidOther : PySem.W.findIn K (.ref CInvalidOther) "__getattr__" = some none)
    (nbInvalidOther : PySem.W.findIn K (.ref CInvalidOther) "given" = some none)
    (iCInvalidOther : PySem.W.findIn K (.ref CInvalidOther) "__init__" = some (some (.ref fIInvalidOther)))
    (tIInvalidOther : PySem.W.typeIn K (.ref fIInvalidOther) = some (.type "function"))
    (lIInvalidOther : K.lookup fIInvalidOther = some ⟨ocInvalidOther, odInvalidOther, .func (PySem.W.fnOf "__init__" "InvalidOther.__init__" (defArgs s_init_InvalidOther) (defBody s_init_InvalidOther) (defScope s_init_InvalidOther) .none kVInvalidOther dcInvalidOther pmInvalidOther anInvalidOther cdInvalidOther ctInvalidOther), slInvalidOther⟩)
    (cIInvalidOther : PySem.W.codeIn K cdInvalidOther "InvalidOther.__init__" = true)
    (kIInvalidOther : PySem.W.keepIn K (.ref fIInvalidOther) = true)
    (kCInvalidOther : PySem.W.keepIn K (.ref CInvalidOther) = true)
    (eCInvalidOther : PySem.W.subIn K (.ref CInvalidOther) (.type "BaseException") = some true)
    (tCInvalidOther : PySem.W.typeIn K (.ref CInvalidOther) = some (.type "type"))
    (hCInvalidOther : PySem.W.hasDictIn K CInvalidOther = true)
    (iSInvalidOther : PySem.W.isClsIn K CInvalidOther = true) :
    ∃ fd : FuncData, (∀ (s : Shared) (v : Value), BindsTo s fd ⟨[v], []⟩ [("script", v)]) ∧ ∀ base : Heap, K.In base → base.Ns mainGlobals mg → FnOk l.prog w K mg base CX0 12 fa fd ["script"] (spLaw K) := by
  have e := hfa.symm.trans (PySem.W.mg_of X G a44)
  cases e
  let T : TK K mg := {
    is_integer := mkDef X G a1 l1 c1 k1 (fun _ _ _ _ _ _ us hl => match us, hl with | [_], _ => rfl)
    is_between := mkDef X G a2 l2 c2 k2 (fun _ _ _ _ _ _ us hl => match us, hl with | [_, _, _], _ => rfl)
    is_from := mkDef X G a3 l3 c3 k3 (fun _ _ _ _ _ _ us hl => match us, hl with | [_, _], _ => rfl)
    is_list := mkDef X G a4 l4 c4 k4 (fun _ _ _ _ _ _ us hl => match us, hl with | [_], _ => rfl)
    are_between := mkDef X G a5 l5 c5 k5 (fun _ _ _ _ _ _ us hl => match us, hl with | [_, _, _], _ => rfl)
    are_from := mkDef X G a6 l6 c6 k6 (fun _ _ _ _ _ _ us hl => match us, hl with | [_, _], _ => rfl)
    arrangements := mkDef X G a7 l7 c7 k7 (fun _ _ _ _ _ _ us hl => match us, hl with | [_], _ => rfl)
    even_parts := mkDef X G a8 l8 c8 k8 (fun _ _ _ _ _ _ us hl => match us, hl with | [_, _], _ => rfl)
    most_arranged := mkDef X G a9 l9 c9 k9 (fun _ _ _ _ _ _ us hl => match us, hl with | [_, _, _], _ => rfl)
    check_number := mkDef X G a10 l10 c10 k10 (fun _ _ _ _ _ _ us hl => match us, hl with | [_], _ => rfl)
    check_many := mkDef X G a11 l11 c11 k11 (fun _ _ _ _ _ _ us hl => match us, hl with | [_], _ => rfl)
    can_tell := mkDef X G a12 l12 c12 k12 (fun _ _ _ _ _ _ us hl => match us, hl with | [_, _, _], _ => rfl)
    is_row := mkDef X G a13 l13 c13 k13 (fun _ _ _ _ _ _ us hl => match us, hl with | [_], _ => rfl)
    stairs_by := mkDef X G a14 l14 c14 k14 (fun _ _ _ _ _ _ us hl => match us, hl with | [_, _], _ => rfl)
    stair := mkDef X G a15 l15 c15 k15 (fun _ _ _ _ _ _ us hl => match us, hl with | [_, _, _], _ => rfl)
    least := mkDef X G a16 l16 c16 k16 (fun _ _ _ _ _ _ us hl => match us, hl with | [_, _, _], _ => rfl)
    need := mkDef X G a17 l17 c17 k17 (fun _ _ _ _ _ _ us hl => match us, hl with | [_, _], _ => rfl)
    fewest_answers := mkDef X G a18 l18 c18 k18 (fun _ _ _ _ _ _ us hl => match us, hl with | [_, _], _ => rfl)
    told_by_kinds := mkDef X G a19 l19 c19 k19 (fun _ _ _ _ _ _ us hl => match us, hl with | [_], _ => rfl)
    told_by := mkDef X G a20 l20 c20 k20 (fun _ _ _ _ _ _ us hl => match us, hl with | [_, _], _ => rfl)
    check_row_and_kinds := mkDef X G a21 l21 c21 k21 (fun _ _ _ _ _ _ us hl => match us, hl with | [_, _, _], _ => rfl)
    check_row := mkDef X G a22 l22 c22 k22 (fun _ _ _ _ _ _ us hl => match us, hl with | [_], _ => rfl)
    check_kinds := mkDef X G a23 l23 c23 k23 (fun _ _ _ _ _ _ us hl => match us, hl with | [_, _], _ => rfl)
    law_cell := mkDef X G a24 l24 c24 k24 (fun _ _ _ _ _ _ us hl => match us, hl with | [_, _], _ => rfl)
    law_box := mkDef X G a25 l25 c25 k25 (fun _ _ _ _ _ _ us hl => match us, hl with | [_], _ => rfl)
    law_take := mkDef X G a26 l26 c26 k26 (fun _ _ _ _ _ _ us hl => match us, hl with | [_, _], _ => rfl)
    law_same := mkDef X G a27 l27 c27 k27 (fun _ _ _ _ _ _ us hl => match us, hl with | [_, _], _ => rfl)
    law_arranged := mkDef X G a28 l28 c28 k28 (fun _ _ _ _ _ _ us hl => match us, hl with | [_], _ => rfl)
    law_best := mkDef X G a29 l29 c29 k29 (fun _ _ _ _ _ _ us hl => match us, hl with | [_, _, _], _ => rfl)
    law_bests := mkDef X G a30 l30 c30 k30 (fun _ _ _ _ _ _ us hl => match us, hl with | [_], _ => rfl)
    law_lefts := mkDef X G a31 l31 c31 k31 (fun _ _ _ _ _ _ us hl => match us, hl with | [_, _], _ => rfl)
    law_tables := mkDef X G a32 l32 c32 k32 (fun _ _ _ _ _ _ us hl => match us, hl with | [_, _], _ => rfl)
    law_size_lists := mkDef X G a33 l33 c33 k33 (fun _ _ _ _ _ _ us hl => match us, hl with | [_], _ => rfl)
    law_listed := mkDef X G a34 l34 c34 k34 (fun _ _ _ _ _ _ us hl => match us, hl with | [_, _, _], _ => rfl)
    law_sizes := mkDef X G a35 l35 c35 k35 (fun _ _ _ _ _ _ us hl => match us, hl with | [_, _, _, _], _ => rfl)
    law_planned := mkDef X G a36 l36 c36 k36 (fun _ _ _ _ _ _ us hl => match us, hl with | [_, _, _, _], _ => rfl)
    law_changed := mkDef X G a37 l37 c37 k37 (fun _ _ _ _ _ _ us hl => match us, hl with | [_, _, _], _ => rfl)
    law_told := mkDef X G a38 l38 c38 k38 (fun _ _ _ _ _ _ us hl => match us, hl with | [_, _, _, _], _ => rfl)
    law_fixed_right := mkDef X G a39 l39 c39 k39 (fun _ _ _ _ _ _ us hl => match us, hl with | [_], _ => rfl)
    law_small_right := mkDef X G a40 l40 c40 k40 (fun _ _ _ _ _ _ us hl => match us, hl with | [_, _, _], _ => rfl)
    law_rests_right := mkDef X G a41 l41 c41 k41 (fun _ _ _ _ _ _ us hl => match us, hl with | [_, _, _, _], _ => rfl)
    law_reach := mkDef X G a42 l42 c42 k42 (fun _ _ _ _ _ _ us hl => match us, hl with | [_, _, _], _ => rfl)
    law_traded_right := mkDef X G a43 l43 c43 k43 (fun _ _ _ _ _ _ us hl => match us, hl with | [_, _], _ => rfl)
    law := mkDef X G a44 l44 c44 k44 (fun _ _ _ _ _ _ us hl => match us, hl with | [_], _ => rfl)
    z_int := PySem.W.mg_none_of X G z_int
    z_bool := PySem.W.mg_none_of X G z_bool
    z_str := PySem.W.mg_none_of X G z_str
    z_list := PySem.W.mg_none_of X G z_list
    z_tuple := PySem.W.mg_none_of X G z_tuple
    z_len := PySem.W.mg_none_of X G z_len
    z_sum := PySem.W.mg_none_of X G z_sum
    z_abs := PySem.W.mg_none_of X G z_abs
    z_all := PySem.W.mg_none_of X G z_all
    z_range := PySem.W.mg_none_of X G z_range
    z_isinstance := PySem.W.mg_none_of X G z_isinstance
    z_max := PySem.W.mg_none_of X G z_max
    z_min := PySem.W.mg_none_of X G z_min
    z_enumerate := PySem.W.mg_none_of X G z_enumerate
    t_HIGHEST := t_HIGHEST
    c_HIGHEST := PySem.W.mg_of X G c_HIGHEST
    t_MOST_NUMBERS := t_MOST_NUMBERS
    c_MOST_NUMBERS := PySem.W.mg_of X G c_MOST_NUMBERS
    t_GREATEST := t_GREATEST
    c_GREATEST := PySem.W.mg_of X G c_GREATEST
    t_MOST_KINDS := t_MOST_KINDS
    c_MOST_KINDS := PySem.W.mg_of X G c_MOST_KINDS
    c_comb := PySem.W.mg_of X G c_comb
    TalkError_C := CT
    TalkError_gC := PySem.W.mg_of X G aCT
    InvalidNumber := ⟨CInvalidNumber, fIInvalidNumber, _, fun_mk (st := s_init_InvalidNumber) lIInvalidNumber cIInvalidNumber kIInvalidNumber, (fun_mk (st := s_init_InvalidNumber) lIInvalidNumber cIInvalidNumber kIInvalidNumber).binds (ps := ["self", "given"]) fun _ _ _ _ _ _ us hl => match us, hl with | [_, _], _ => rfl, ⟨⟨_, _, _, _, _, _, _, _, _, _, _, _, _, _, _, xLInvalidNumber, rfl⟩, saInvalidNumber, eCInvalidNumber, tCInvalidNumber, kCInvalidNumber⟩, iCInvalidNumber, tIInvalidNumber, PySem.W.mg_of X G aCInvalidNumber, nbInvalidNumber, ⟨gaInvalidNumber, ggInvalidNumber, eCInvalidNumber, hCInvalidNumber⟩⟩
    InvalidMany := ⟨CInvalidMany, fIInvalidMany, _, fun_mk (st := s_init_InvalidMany) lIInvalidMany cIInvalidMany kIInvalidMany, (fun_mk (st := s_init_InvalidMany) lIInvalidMany cIInvalidMany kIInvalidMany).binds (ps := ["self", "given"]) fun _ _ _ _ _ _ us hl => match us, hl with | [_, _], _ => rfl, ⟨⟨_, _, _, _, _, _, _, _, _, _, _, _, _, _, _, xLInvalidMany, rfl⟩, saInvalidMany, eCInvalidMany, tCInvalidMany, kCInvalidMany⟩, iCInvalidMany, tIInvalidMany, PySem.W.mg_of X G aCInvalidMany, nbInvalidMany, ⟨gaInvalidMany, ggInvalidMany, eCInvalidMany, hCInvalidMany⟩⟩
    InvalidParts := ⟨CInvalidParts, fIInvalidParts, _, fun_mk (st := s_init_InvalidParts) lIInvalidParts cIInvalidParts kIInvalidParts, (fun_mk (st := s_init_InvalidParts) lIInvalidParts cIInvalidParts kIInvalidParts).binds (ps := ["self", "given"]) fun _ _ _ _ _ _ us hl => match us, hl with | [_, _], _ => rfl, ⟨⟨_, _, _, _, _, _, _, _, _, _, _, _, _, _, _, xLInvalidParts, rfl⟩, saInvalidParts, eCInvalidParts, tCInvalidParts, kCInvalidParts⟩, iCInvalidParts, tIInvalidParts, PySem.W.mg_of X G aCInvalidParts, nbInvalidParts, ⟨gaInvalidParts, ggInvalidParts, eCInvalidParts, hCInvalidParts⟩⟩
    InvalidRest := ⟨CInvalidRest, fIInvalidRest, _, fun_mk (st := s_init_InvalidRest) lIInvalidRest cIInvalidRest kIInvalidRest, (fun_mk (st := s_init_InvalidRest) lIInvalidRest cIInvalidRest kIInvalidRest).binds (ps := ["self", "given"]) fun _ _ _ _ _ _ us hl => match us, hl with | [_, _], _ => rfl, ⟨⟨_, _, _, _, _, _, _, _, _, _, _, _, _, _, _, xLInvalidRest, rfl⟩, saInvalidRest, eCInvalidRest, tCInvalidRest, kCInvalidRest⟩, iCInvalidRest, tIInvalidRest, PySem.W.mg_of X G aCInvalidRest, nbInvalidRest, ⟨gaInvalidRest, ggInvalidRest, eCInvalidRest, hCInvalidRest⟩⟩
    InvalidRow := ⟨CInvalidRow, fIInvalidRow, _, fun_mk (st := s_init_InvalidRow) lIInvalidRow cIInvalidRow kIInvalidRow, (fun_mk (st := s_init_InvalidRow) lIInvalidRow cIInvalidRow kIInvalidRow).binds (ps := ["self", "given"]) fun _ _ _ _ _ _ us hl => match us, hl with | [_, _], _ => rfl, ⟨⟨_, _, _, _, _, _, _, _, _, _, _, _, _, _, _, xLInvalidRow, rfl⟩, saInvalidRow, eCInvalidRow, tCInvalidRow, kCInvalidRow⟩, iCInvalidRow, tIInvalidRow, PySem.W.mg_of X G aCInvalidRow, nbInvalidRow, ⟨gaInvalidRow, ggInvalidRow, eCInvalidRow, hCInvalidRow⟩⟩
    InvalidOwn := ⟨CInvalidOwn, fIInvalidOwn, _, fun_mk (st := s_init_InvalidOwn) lIInvalidOwn cIInvalidOwn kIInvalidOwn, (fun_mk (st := s_init_InvalidOwn) lIInvalidOwn cIInvalidOwn kIInvalidOwn).binds (ps := ["self", "given"]) fun _ _ _ _ _ _ us hl => match us, hl with | [_, _], _ => rfl, ⟨⟨_, _, _, _, _, _, _, _, _, _, _, _, _, _, _, xLInvalidOwn, rfl⟩, saInvalidOwn, eCInvalidOwn, tCInvalidOwn, kCInvalidOwn⟩, iCInvalidOwn, tIInvalidOwn, PySem.W.mg_of X G aCInvalidOwn, nbInvalidOwn, ⟨gaInvalidOwn, ggInvalidOwn, eCInvalidOwn, hCInvalidOwn⟩⟩
    InvalidOther := ⟨CInvalidOther, fIInvalidOther, _, fun_mk (st := s_init_InvalidOther) lIInvalidOther cIInvalidOther kIInvalidOther, (fun_mk (st := s_init_InvalidOther) lIInvalidOther cIInvalidOther kIInvalidOther).binds (ps := ["self", "given"]) fun _ _ _ _ _ _ us hl => match us, hl with | [_, _], _ => rfl, ⟨⟨_, _, _, _, _, _, _, _, _, _, _, _, _, _, _, xLInvalidOther, rfl⟩, saInvalidOther, eCInvalidOther, tCInvalidOther, kCInvalidOther⟩, iCInvalidOther, tIInvalidOther, PySem.W.mg_of X G aCInvalidOther, nbInvalidOther, ⟨gaInvalidOther, ggInvalidOther, eCInvalidOther, hCInvalidOther⟩⟩
    kb_can_tell_other_row_own := kb231 (fun_mk (st := s_can_tell) l12 c12 k12) fun _ _ _ _ _ _ _ _ _ => rfl }
  exact ⟨PySem.W.fnOf "law" "law" (defArgs s_law) (defBody s_law) (defScope s_law) .none kV44 dc44 pm44 an44 cd44 ct44, fun s v => .of_eq rfl, fun base _ _ => ok_law T⟩
theorem walk {l : PySem.W.OpenLaw} {q : Program} {loose : List Str} {XP : (Str → Option Value) → Heap → Prop} {YP : World → Heap → Prop} {d : DefRec} {K : Params → PySem.W.Frag} (hn : l.most = some 63) (hdf : d.params.defaults = [])
    (hY : ∀ (w : World) (h : Heap), YP w h → (K w.params).In h)
    (F : ∀ (w : World) (mg : Str → Option Value) (fa : Addr) (h : Heap), (K w.params).In h → h.Ns mainGlobals mg → mg d.name = some (.ref fa) →
      ∃ fd : FuncData, (∀ (s : Shared) (u : Value), BindsTo s fd ⟨[u], []⟩ [("script", u)]) ∧ ∀ base : Heap, (K w.params).In base → base.Ns mainGlobals mg → FnOk l.prog w (K w.params) mg base CX0 12 fa fd ["script"] (spLaw (K w.params))) :
    PySem.W.WalkO q loose XP YP l.row.toRowW d [] (fun f vs => PySem.call f vs) :=
  L2.walk_of (n := 63) (k := 12) (x := "script") (CX := fun _ => CX0) (sp := fun w => spLaw (K w.params)) hn (by decide) hdf ⟨rfl, by decide, by decide⟩ hY F
    (fun _ _ a ns hl _ hS => ⟨a, ns, rfl, hS, hl, fun _ => rfl⟩) fun _ _ _ _ _ z => z
end L2.U
open PySem PySem.W PyProof.Rows
set_option maxRecDepth 100000 in
set_option maxHeartbeats 0 in
theorem PySem.Challenge.cw_upforgood_k14_whole_rows_on_letters_holds : PySem.Challenge.rw_upforgood_k14_whole_rows_on_letters.Holds := by
  w_on; o_law; k_head; (case hw => w_witness2)
  k_fill
  refine L2.U.walk (l := PySem.Challenge.rw_upforgood_k14_whole_rows_on_letters) rfl rfl (fun w h Y => PySem.W.kIn_of Y) ?F
  case F =>
    intro w mg fa h KX G hmg
    refine' L2.U.all_mk KX G hmg ?a1 ?l1 ?c1 ?k1 ?a2 ?l2 ?c2 ?k2 ?a3 ?l3 ?c3 ?k3 ?a4 ?l4 ?c4 ?k4 ?a5 ?l5 ?c5 ?k5 ?a6 ?l6 ?c6 ?k6 ?a7 ?l7 ?c7 ?k7 ?a8 ?l8 ?c8 ?k8 ?a9 ?l9 ?c9 ?k9 ?a10 ?l10 ?c10 ?k10 ?a11 ?l11 ?c11 ?k11 ?a12 ?l12 ?c12 ?k12 ?a13 ?l13 ?c13 ?k13 ?a14 ?l14 ?c14 ?k14 ?a15 ?l15 ?c15 ?k15 ?a16 ?l16 ?c16 ?k16 ?a17 ?l17 ?c17 ?k17 ?a18 ?l18 ?c18 ?k18 ?a19 ?l19 ?c19 ?k19 ?a20 ?l20 ?c20 ?k20 ?a21 ?l21 ?c21 ?k21 ?a22 ?l22 ?c22 ?k22 ?a23 ?l23 ?c23 ?k23 ?a24 ?l24 ?c24 ?k24 ?a25 ?l25 ?c25 ?k25 ?a26 ?l26 ?c26 ?k26 ?a27 ?l27 ?c27 ?k27 ?a28 ?l28 ?c28 ?k28 ?a29 ?l29 ?c29 ?k29 ?a30 ?l30 ?c30 ?k30 ?a31 ?l31 ?c31 ?k31 ?a32 ?l32 ?c32 ?k32 ?a33 ?l33 ?c33 ?k33 ?a34 ?l34 ?c34 ?k34 ?a35 ?l35 ?c35 ?k35 ?a36 ?l36 ?c36 ?k36 ?a37 ?l37 ?c37 ?k37 ?a38 ?l38 ?c38 ?k38 ?a39 ?l39 ?c39 ?k39 ?a40 ?l40 ?c40 ?k40 ?a41 ?l41 ?c41 ?k41 ?a42 ?l42 ?c42 ?k42 ?a43 ?l43 ?c43 ?k43 ?a44 ?l44 ?c44 ?k44 ?z_int ?z_bool ?z_str ?z_list ?z_tuple ?z_len ?z_sum ?z_abs ?z_all ?z_range ?z_isinstance ?z_max ?z_min ?z_enumerate ?c_HIGHEST ?c_MOST_NUMBERS ?c_GREATEST ?c_MOST_KINDS ?c_comb ?aCT ?aCInvalidNumber ?xLInvalidNumber ?saInvalidNumber ?gaInvalidNumber ?ggInvalidNumber ?nbInvalidNumber ?iCInvalidNumber ?tIInvalidNumber ?lIInvalidNumber ?cIInvalidNumber ?kIInvalidNumber ?kCInvalidNumber ?eCInvalidNumber ?tCInvalidNumber ?hCInvalidNumber ?iSInvalidNumber ?aCInvalidMany ?xLInvalidMany ?saInvalidMany ?gaInvalidMany ?ggInvalidMany ?nbInvalidMany ?iCInvalidMany ?tIInvalidMany ?lIInvalidMany ?cIInvalidMany ?kIInvalidMany ?kCInvalidMany ?eCInvalidMany ?tCInvalidMany ?hCInvalidMany ?iSInvalidMany ?aCInvalidParts ?xLInvalidParts ?saInvalidParts ?gaInvalidParts ?ggInvalidParts ?nbInvalidParts ?iCInvalidParts ?tIInvalidParts ?lIInvalidParts ?cIInvalidParts ?kIInvalidParts ?kCInvalidParts ?eCInvalidParts ?tCInvalidParts ?hCInvalidParts ?iSInvalidParts ?aCInvalidRest ?xLInvalidRest ?saInvalidRest ?gaInvalidRest ?ggInvalidRest ?nbInvalidRest ?iCInvalidRest ?tIInvalidRest ?lIInvalidRest ?cIInvalidRest ?kIInvalidRest ?kCInvalidRest ?eCInvalidRest ?tCInvalidRest ?hCInvalidRest ?iSInvalidRest ?aCInvalidRow ?xLInvalidRow ?saInvalidRow ?gaInvalidRow ?ggInvalidRow ?nbInvalidRow ?iCInvalidRow ?tIInvalidRow ?lIInvalidRow ?cIInvalidRow ?kIInvalidRow ?kCInvalidRow ?eCInvalidRow ?tCInvalidRow ?hCInvalidRow ?iSInvalidRow ?aCInvalidOwn ?xLInvalidOwn ?saInvalidOwn ?gaInvalidOwn ?ggInvalidOwn ?nbInvalidOwn ?iCInvalidOwn ?tIInvalidOwn ?lIInvalidOwn ?cIInvalidOwn ?kIInvalidOwn ?kCInvalidOwn ?eCInvalidOwn ?tCInvalidOwn ?hCInvalidOwn ?iSInvalidOwn ?aCInvalidOther ?xLInvalidOther ?saInvalidOther ?gaInvalidOther ?ggInvalidOther ?nbInvalidOther ?iCInvalidOther ?tIInvalidOther ?lIInvalidOther ?cIInvalidOther ?kIInvalidOther ?kCInvalidOther ?eCInvalidOther ?tCInvalidOther ?hCInvalidOther ?iSInvalidOther
    (case a1 => k_is)
    (case l1 => k_is)
    (case c1 => k_is)
    (case k1 => k_is)
    (case a2 => k_is)
    (case l2 => k_is)
    (case c2 => k_is)
    (case k2 => k_is)
    (case a3 => k_is)
    (case l3 => k_is)
    (case c3 => k_is)
    (case k3 => k_is)
    (case a4 => k_is)
    (case l4 => k_is)
    (case c4 => k_is)
    (case k4 => k_is)
    (case a5 => k_is)
    (case l5 => k_is)
    (case c5 => k_is)
    (case k5 => k_is)
    (case a6 => k_is)
    (case l6 => k_is)
    (case c6 => k_is)
    (case k6 => k_is)
    (case a7 => k_is)
    (case l7 => k_is)
    (case c7 => k_is)
    (case k7 => k_is)
    (case a8 => k_is)
    (case l8 => k_is)
    (case c8 => k_is)
    (case k8 => k_is)
    (case a9 => k_is)
    (case l9 => k_is)
    (case c9 => k_is)
    (case k9 => k_is)
    (case a10 => k_is)
    (case l10 => k_is)
    (case c10 => k_is)
    (case k10 => k_is)
    (case a11 => k_is)
    (case l11 => k_is)
    (case c11 => k_is)
    (case k11 => k_is)
    (case a12 => k_is)
    (case l12 => k_is)
    (case c12 => k_is)
    (case k12 => k_is)
    (case a13 => k_is)
    (case l13 => k_is)
    (case c13 => k_is)
    (case k13 => k_is)
    (case a14 => k_is)
    (case l14 => k_is)
    (case c14 => k_is)
    (case k14 => k_is)
    (case a15 => k_is)
    (case l15 => k_is)
    (case c15 => k_is)
    (case k15 => k_is)
    (case a16 => k_is)
    (case l16 => k_is)
    (case c16 => k_is)
    (case k16 => k_is)
    (case a17 => k_is)
    (case l17 => k_is)
    (case c17 => k_is)
    (case k17 => k_is)
    (case a18 => k_is)
    (case l18 => k_is)
    (case c18 => k_is)
    (case k18 => k_is)
    (case a19 => k_is)
    (case l19 => k_is)
    (case c19 => k_is)
    (case k19 => k_is)
    (case a20 => k_is)
    (case l20 => k_is)
    (case c20 => k_is)
    (case k20 => k_is)
    (case a21 => k_is)
    (case l21 => k_is)
    (case c21 => k_is)
    (case k21 => k_is)
    (case a22 => k_is)
    (case l22 => k_is)
    (case c22 => k_is)
    (case k22 => k_is)
    (case a23 => k_is)
    (case l23 => k_is)
    (case c23 => k_is)
    (case k23 => k_is)
    (case a24 => k_is)
    (case l24 => k_is)
    (case c24 => k_is)
    (case k24 => k_is)
    (case a25 => k_is)
    (case l25 => k_is)
    (case c25 => k_is)
    (case k25 => k_is)
    (case a26 => k_is)
    (case l26 => k_is)
    (case c26 => k_is)
    (case k26 => k_is)
    (case a27 => k_is)
    (case l27 => k_is)
    (case c27 => k_is)
    (case k27 => k_is)
    (case a28 => k_is)
    (case l28 => k_is)
    (case c28 => k_is)
    (case k28 => k_is)
    (case a29 => k_is)
    (case l29 => k_is)
    (case c29 => k_is)
    (case k29 => k_is)
    (case a30 => k_is)
    (case l30 => k_is)
    (case c30 => k_is)
    (case k30 => k_is)
    (case a31 => k_is)
    (case l31 => k_is)
    (case c31 => k_is)
    (case k31 => k_is)
    (case a32 => k_is)
    (case l32 => k_is)
    (case c32 => k_is)
    (case k32 => k_is)
    (case a33 => k_is)
    (case l33 => k_is)
    (case c33 => k_is)
    (case k33 => k_is)
    (case a34 => k_is)
    (case l34 => k_is)
    (case c34 => k_is)
    (case k34 => k_is)
    (case a35 => k_is)
    (case l35 => k_is)
    (case c35 => k_is)
    (case k35 => k_is)
    (case a36 => k_is)
    (case l36 => k_is)
    (case c36 => k_is)
    (case k36 => k_is)
    (case a37 => k_is)
    (case l37 => k_is)
    (case c37 => k_is)
    (case k37 => k_is)
    (case a38 => k_is)
    (case l38 => k_is)
    (case c38 => k_is)
    (case k38 => k_is)
    (case a39 => k_is)
    (case l39 => k_is)
    (case c39 => k_is)
    (case k39 => k_is)
    (case a40 => k_is)
    (case l40 => k_is)
    (case c40 => k_is)
    (case k40 => k_is)
    (case a41 => k_is)
    (case l41 => k_is)
    (case c41 => k_is)
    (case k41 => k_is)
    (case a42 => k_is)
    (case l42 => k_is)
    (case c42 => k_is)
    (case k42 => k_is)
    (case a43 => k_is)
    (case l43 => k_is)
    (case c43 => k_is)
    (case k43 => k_is)
    (case a44 => k_is)
    (case l44 => k_is)
    (case c44 => k_is)
    (case k44 => k_is)
    (case z_int => k_is)
    (case z_bool => k_is)
    (case z_str => k_is)
    (case z_list => k_is)
    (case z_tuple => k_is)
    (case z_len => k_is)
    (case z_sum => k_is)
    (case z_abs => k_is)
    (case z_all => k_is)
    (case z_range => k_is)
    (case z_isinstance => k_is)
    (case z_max => k_is)
    (case z_min => k_is)
    (case z_enumerate => k_is)
    (case c_HIGHEST => k_is)
    (case c_MOST_NUMBERS => k_is)
    (case c_GREATEST => k_is)
    (case c_MOST_KINDS => k_is)
    (case c_comb => k_is)
    (case aCT => k_is)
    (case aCInvalidNumber => k_is)
    (case xLInvalidNumber => k_is)
    (case saInvalidNumber => k_is)
    (case gaInvalidNumber => k_is)
    (case ggInvalidNumber => k_is)
    (case nbInvalidNumber => k_is)
    (case iCInvalidNumber => k_is)
    (case tIInvalidNumber => k_is)
    (case lIInvalidNumber => k_is)
    (case cIInvalidNumber => k_is)
    (case kIInvalidNumber => k_is)
    (case kCInvalidNumber => k_is)
    (case eCInvalidNumber => k_is)
    (case tCInvalidNumber => k_is)
    (case hCInvalidNumber => k_is)
    (case iSInvalidNumber => k_is)
    (case aCInvalidMany => k_is)
    (case xLInvalidMany => k_is)
    (case saInvalidMany => k_is)
    (case gaInvalidMany => k_is)
    (case ggInvalidMany => k_is)
    (case nbInvalidMany => k_is)
    (case iCInvalidMany => k_is)
    (case tIInvalidMany => k_is)
    (case lIInvalidMany => k_is)
    (case cIInvalidMany => k_is)
    (case kIInvalidMany => k_is)
    (case kCInvalidMany => k_is)
    (case eCInvalidMany => k_is)
    (case tCInvalidMany => k_is)
    (case hCInvalidMany => k_is)
    (case iSInvalidMany => k_is)
    (case aCInvalidParts => k_is)
    (case xLInvalidParts => k_is)
    (case saInvalidParts => k_is)
    (case gaInvalidParts => k_is)
    (case ggInvalidParts => k_is)
    (case nbInvalidParts => k_is)
    (case iCInvalidParts => k_is)
    (case tIInvalidParts => k_is)
    (case lIInvalidParts => k_is)
    (case cIInvalidParts => k_is)
    (case kIInvalidParts => k_is)
    (case kCInvalidParts => k_is)
    (case eCInvalidParts => k_is)
    (case tCInvalidParts => k_is)
    (case hCInvalidParts => k_is)
    (case iSInvalidParts => k_is)
    (case aCInvalidRest => k_is)
    (case xLInvalidRest => k_is)
    (case saInvalidRest => k_is)
    (case gaInvalidRest => k_is)
    (case ggInvalidRest => k_is)
    (case nbInvalidRest => k_is)
    (case iCInvalidRest => k_is)
    (case tIInvalidRest => k_is)
    (case lIInvalidRest => k_is)
    (case cIInvalidRest => k_is)
    (case kIInvalidRest => k_is)
    (case kCInvalidRest => k_is)
    (case eCInvalidRest => k_is)
    (case tCInvalidRest => k_is)
    (case hCInvalidRest => k_is)
    (case iSInvalidRest => k_is)
    (case aCInvalidRow => k_is)
    (case xLInvalidRow => k_is)
    (case saInvalidRow => k_is)
    (case gaInvalidRow => k_is)
    (case ggInvalidRow => k_is)
    (case nbInvalidRow => k_is)
    (case iCInvalidRow => k_is)
    (case tIInvalidRow => k_is)
    (case lIInvalidRow => k_is)
    (case cIInvalidRow => k_is)
    (case kIInvalidRow => k_is)
    (case kCInvalidRow => k_is)
    (case eCInvalidRow => k_is)
    (case tCInvalidRow => k_is)
    (case hCInvalidRow => k_is)
    (case iSInvalidRow => k_is)
    (case aCInvalidOwn => k_is)
    (case xLInvalidOwn => k_is)
    (case saInvalidOwn => k_is)
    (case gaInvalidOwn => k_is)
    (case ggInvalidOwn => k_is)
    (case nbInvalidOwn => k_is)
    (case iCInvalidOwn => k_is)
    (case tIInvalidOwn => k_is)
    (case lIInvalidOwn => k_is)
    (case cIInvalidOwn => k_is)
    (case kIInvalidOwn => k_is)
    (case kCInvalidOwn => k_is)
    (case eCInvalidOwn => k_is)
    (case tCInvalidOwn => k_is)
    (case hCInvalidOwn => k_is)
    (case iSInvalidOwn => k_is)
    (case aCInvalidOther => k_is)
    (case xLInvalidOther => k_is)
    (case saInvalidOther => k_is)
    (case gaInvalidOther => k_is)
    (case ggInvalidOther => k_is)
    (case nbInvalidOther => k_is)
    (case iCInvalidOther => k_is)
    (case tIInvalidOther => k_is)
    (case lIInvalidOther => k_is)
    (case cIInvalidOther => k_is)
    (case kIInvalidOther => k_is)
    (case kCInvalidOther => k_is)
    (case eCInvalidOther => k_is)
    (case tCInvalidOther => k_is)
    (case hCInvalidOther => k_is)
    (case iSInvalidOther => k_is)

