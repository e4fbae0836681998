import PyProof.Rows.All
import Wide.All
import OpenK.AllK
import Wide.FinOn
import HandS.ForMost
import HandS.ForExc
import HandS.TryMany
import HandS.ExcInit
import HandS.ExcField
import HandS.Lambda
import HandS.EndTab
import HandS.EndOwn
import HandS.Conv
import HandS.Steps
import HandS.Evl
import PySem.Challenge.RW_lateststore_k02_memories_refused
set_option Elab.async false
set_option linter.all false
set_option maxRecDepth 100000
set_option maxHeartbeats 4000000
namespace Q
open PySem PySem.Spec PyProof.Rows L2
section
variable {X : Cx}
/-- script + [0]: two lists that are read, whatever their slots -/
def rCatR (K : PySem.W.Frag) : R2 := fun x y H Q => ∃ l b xs zs, x = .ref l ∧ y = .ref b ∧ SqL K H l xs ∧ SqL K H b zs ∧ xs.length + zs.length ≤ sizeLine ∧ ∀ p, H p = none → Q (.ref p) (upd H p (.lst (xs ++ zs)))
theorem op_catR : OpR X (binaryOp .Add) (rCatR X.K) := by
  intro pz s σ H x y v u Q I rx ry h
  obtain ⟨l, b, xs, zs, rfl, rfl, h1, h2, hz, q⟩ := h
  cases rx
  cases ry
  obtain ⟨i1, r1, p1, z1⟩ := I.list h1
  obtain ⟨i2, r2, p2, z2⟩ := I.list h2
  have l1 := r1.length
  have l2 := r2.length
  obtain ⟨⟨c1, d1, da1, s1⟩, g1, e1, n1, f1⟩ := p1.isList
  obtain ⟨⟨c2, d2, da2, s2⟩, g2, e2, n2, f2⟩ := p2.isList
  simp only at e1 f1 e2 f2
  subst e1 f1 e2 f2
  refine concat_meets ⟨_, g1, rfl⟩ ⟨_, g2, rfl⟩ PySem.noFill_list_add PySem.seq_list_add PySem.F.slot_list_add PySem.F.entry_list_add (PySem.F.args_list_add_2 _ _)
    (list_addW l b i1.toArray i2.toArray n1 n2 d1 d2 s1 s2 (by simp only [List.size_toArray]; omega)) ⟨g1, g2, ?_⟩
  have ea : i1.toArray ++ i2.toArray = (i1 ++ i2).toArray := by simp
  rw [ea]
  exact ⟨.ref _, _, I.lnew (t' := s.toks) (r1.append r2) (by rw [List.length_append]; omega), rfl, q _ I.fresh⟩
end
end Q

namespace Q
open PySem PySem.Spec PyProof.Rows L2
/-- an except clause: the class, the slot of its name where it has one, its suite -/
structure Cl where
  c : Value
  i : Option Nat
  ts : Addr → Value → Option Addr → TS
/-- behind a named suite the name is gone -/
def unset (D : Ends) (i : Nat) : Ends := { nx := fun τ G => D.nx (τ.set i none) G, rt := D.rt, bk := fun τ G => D.bk (τ.set i none) G, ct := fun τ G => D.ct (τ.set i none) G }
def tSuite (p : Cl) (D : Ends) (a : Addr) (cls : Value) (d : Option Addr) (σ : L2.St) (H : Hp) : Prop :=
  match p.i with
  | none => p.ts a cls d D σ H
  | some i => p.ts a cls d (unset D i) (σ.set i (some (.ref a))) H
def wCl (K : PySem.W.Frag) (Wout : WX) (D : Ends) : List Cl → WX
  | [] => Wout
  | p :: r => fun cls d σ H => ∃ b, PySem.W.exmOne K cls p.c = some b ∧ (b = true → ∀ a, H a = none → tSuite p D a cls d σ H) ∧ (b = false → wCl K Wout D r cls d σ H)
inductive ClOk (X : Cx) : List ExceptHandler → List Cl → Prop
  | nil : ClOk X [] []
  | bare {x : Str} {c : Value} {ts : Addr → Value → Option Addr → TS} {b₀ : Stmt} {ss : List Stmt} {np p2 : Pos} {hs : List ExceptHandler} {l : List Cl} (hc : Names X x c)
      (hsu : ∀ (a : Addr) (oe : Obj) (cls : Value) (d : Option Addr) (pn : List (Addr × Obj)), Zc cls d oe → (∃ vs, oe.data = .fields vs) → PSs (X.suite a ((a, oe) :: pn)) (b₀ :: ss) (ts a cls d)) (r : ClOk X hs l) :
      ClOk X (.ExceptHandler (some (.Name x np)) none (b₀ :: ss) p2 :: hs) (⟨c, none, ts⟩ :: l)
  | named {x n : Str} {i : Nat} {c : Value} {ts : Addr → Value → Option Addr → TS} {b₀ : Stmt} {ss : List Stmt} {np p2 : Pos} {hs : List ExceptHandler} {l : List Cl} (hi : X.N[i]? = some n) (hln : X.env.kindOf n = some .local) (hc : Names X x c)
      (hsu : ∀ (a : Addr) (oe : Obj) (cls : Value) (d : Option Addr) (pn : List (Addr × Obj)), Zc cls d oe → (∃ vs, oe.data = .fields vs) → PSs (X.suite a ((a, oe) :: pn)) (b₀ :: ss) (ts a cls d)) (r : ClOk X hs l) :
      ClOk X (.ExceptHandler (some (.Name x np)) (some n) (b₀ :: ss) p2 :: hs) (⟨c, some i, ts⟩ :: l)
section
variable {X : Cx} {body : List Stmt} {c₀ : ExceptHandler} {cs : List ExceptHandler} {l : List Cl} {pos : Pos} {tb : WX → TS} {Wout : WX}
theorem ps_try_cl (hst : X.stack = X.env :: X.outer) (hfm : X.env.frame = some X.env.locals) (hN : X.N.Nodup) (tk : Takes X Wout)
    (hb : ∀ (W : WX) (pn : List (Addr × Obj)) (xe : Value → Shared → Prop), Takes (X.tr pn xe) W → PassesOwn (model X.prog X.w) X.A X.env xe → PSs (X.tr pn xe) body (tb W))
    (hh : ClOk X (c₀ :: cs) l) : PS X (.Try body (c₀ :: cs) [] [] pos) (fun D σ H => tb (wCl X.K Wout D l) D σ H) := by
  refine ⟨fun pz s σ H D I h => ?_⟩
  have okX := I.ok
  have hfrm : X.A.frames = some (X.env :: X.outer) := by rw [okX.frames, hst]
  refine wpAny_Try_except ?_
  have run := (hb (wCl X.K Wout D l) (X.pn ++ pz)
    (fun e t1 => wpAny (model X.prog X.w) X.A (noteFrame e X.env) (fun _ t2 => wpAny (model X.prog X.w) X.A (setFlight e none)
      (fun _ t3 => wpAny (model X.prog X.w) X.A (handleBy e X.env (c₀ :: cs)) (SP X pz D) X.xe t3) X.xe t2) X.xe t1)
    (fun u sx xx => ?_) PassesOwn.looking).run [] s σ H D (I.toTry _) h
  · refine wpAny_mono run (fun f s1 hq => ?_) (fun e s1 he => he)
    cases f with
    | next =>
      obtain ⟨τ, G, J, q⟩ := hq
      exact wpAny_execs_nil ⟨τ, G, J.ofTry okX, q⟩
    | brk =>
      obtain ⟨τ, G, J, q⟩ := hq
      exact ⟨τ, G, J.ofTry okX, q⟩
    | cont =>
      obtain ⟨τ, G, J, q⟩ := hq
      exact ⟨τ, G, J.ofTry okX, q⟩
    | ret u =>
      obtain ⟨v, τ, G, J, r, q⟩ := hq
      exact ⟨v, τ, G, J.ofTry okX, r, q⟩
  · obtain ⟨a, B, sI, pq, τ, G, cls, d, rfl, Jt, nb, up, sky, na, os, ag, wish⟩ := xx
    have J : Inv X pz τ G sI := Jt.ofTry okX
    have sky1 : Sky B (X.env :: X.outer) a (Zc cls d) X.env.locals sx.heap := by rw [← hst]; exact sky
    show wpAny (model X.prog X.w) X.A (noteFrame (.ref a) X.env) _ _ _
    refine Sky.land Zc.steady hfrm hfm sky1 fun hA flA upA => ?_
    have JA : Inv X pz τ G { sx with heap := hA } := J.landed nb flA.1 (up.trans upA) os ag
    obtain ⟨oA, vA, heA, hzA, hdA⟩ := flA.there
    have apart : ∀ {hp : Heap} {o : Obj} {vs : Array Value}, hp.FunFrames B (X.env :: X.outer) → hp.get? a = some o → o.data = .fields vs → a ∉ frs (X.env :: X.outer) := fun {hp o vs} ff e dd hm => by
      obtain ⟨_, ob, eb, hnf⟩ := ff.mem hm
      rw [e] at eb
      cases eb
      exact hnf _ dd
    have nfr := apart flA.2.2.1 heA hdA
    have nL : a ≠ X.env.locals := fun z => nfr (List.mem_filterMap.mpr ⟨X.env, List.mem_cons_self, by rw [hfm, z]⟩)
    have nF : a ∉ X.fs := fun hm => by
      obtain ⟨e, he, q⟩ := List.mem_filterMap.mp hm
      exact nfr (List.mem_filterMap.mpr ⟨e, List.mem_cons_of_mem _ he, q⟩)
    have SA := JA.suite heA hdA na nL nF
    have LT : PySem.W.Looks (model X.prog X.w) hA (typeOf (.ref a)) cls := fun A Q E st k q => wpAny_typeOf_ref (k _ _ heA) (by rw [hzA.1]; exact q)
    have test : ∀ {x : Str} {c : Value} {np : Pos} {Q : Value → Shared → Prop} {E : Value → Shared → Prop}, Names X x c → Q c { sx with heap := hA } →
        wpAny (model X.prog X.w) (X.A.mark (some (.ref a))) (eval (.Name x np) X.env) Q E { sx with heap := hA } := fun {x c np Q E} hc q => by
      obtain ⟨hg, hdbg, hm | ⟨hm, hv, hnn⟩⟩ := hc
      · exact ld_glob (X := X.suite a ((a, oA) :: (X.pn ++ pz))) SA hg hm q hdbg
      · exact ld_blt (X := X.suite a ((a, oA) :: (X.pn ++ pz))) SA hg hm hv q hnn hdbg
    have go : ∀ {hs2 : List ExceptHandler} {l2 : List Cl}, ClOk X hs2 l2 → wCl X.K Wout D l2 cls d τ G → wpAny (model X.prog X.w) X.A (handleBy (.ref a) X.env hs2) (SP X pz D) X.xe { sx with heap := hA } := by
      intro hs2 l2 hk
      induction hk with
      | nil =>
        intro wish2
        refine wpAny_handleBy_nil ?_
        obtain ⟨k1, k2, k3, oe, vs, T, oT, ts2, he, hz, hd, h1, hr⟩ := id flA
        unfold PySem.passOn
        refine wpAny_bind (wpAny_field he hd h1 ?_)
        rw [if_neg (show ¬ ((Value.ref T == Value.none) = true) from by simp)]
        have fin : wpAny (model X.prog X.w) X.A (setFlight (.ref a) X.env.frame) (fun _ s4 => wpAny (model X.prog X.w) X.A (throw (.ref a) : Sem Flow) (SP X pz D) X.xe s4) X.xe { sx with heap := hA } := by
          rw [hfm]
          refine HandSPX.setFlight_upZ flA fun hB hhB upB => wpAny_throw (tk _ _ ?_)
          exact ⟨a, B, sI, pz, τ, G, cls, d, rfl, J, nb, (up.trans upA).trans upB, .inr (.inr (by rw [hst]; exact hhB)), na, os, ag, wish2⟩
        first
          | exact wpAny_bind (wpAny_pure (wpAny_bind fin))
          | exact wpAny_bind fin
      | @bare x c ts b₀ ss np p2 hs3 l3 hc hsu r ih =>
        intro wish2
        obtain ⟨b, hb1, hyes, hno⟩ := wish2
        refine wpAny_handleBy_cons (codeAny_handlers_test ?_) (by intro q; cases q)
        have LM := PySem.W.exm_one (M := model X.prog X.w) (JA.kIn) LT hb1
        refine test hc (LM.here ?_)
        cases b with
        | true =>
          refine codeAny_handlers_suite ?_
          refine HandSPX.lands_againZ flA fun hB flB upB => ?_
          have JB : Inv X pz τ G { sx with heap := hB } := J.landed nb flB.1 ((up.trans upA).trans upB) os ag
          obtain ⟨oB, vB, heB, hzB, hdB⟩ := flB.there
          have SB := JB.suite heB hdB na nL nF
          refine wpAny_mono ((hsu a oB cls d (X.pn ++ pz) hzB ⟨_, hdB⟩).run [] _ _ G _ SB (hyes rfl a na)) (fun f s6 hq => ?_) (fun _ _ z => False.elim z)
          cases f with
          | next =>
            obtain ⟨τ6, G6, S6, q6⟩ := hq
            exact ⟨_, _, S6.unsuite okX, q6⟩
          | brk =>
            obtain ⟨τ6, G6, S6, q6⟩ := hq
            exact ⟨_, _, S6.unsuite okX, q6⟩
          | cont =>
            obtain ⟨τ6, G6, S6, q6⟩ := hq
            exact ⟨_, _, S6.unsuite okX, q6⟩
          | ret u =>
            obtain ⟨v6, τ6, G6, S6, r6, q6⟩ := hq
            exact ⟨_, _, _, S6.unsuite okX, r6, q6⟩
        | false =>
          show wpAny _ X.A (handleBy (.ref a) X.env hs3) _ _ _
          exact ih (hno rfl)
      | @named x n i c ts b₀ ss np p2 hs3 l3 hi hln hc hsu r ih =>
        intro wish2
        obtain ⟨b, hb1, hyes, hno⟩ := wish2
        have hloc : Loc X.env.scope n := .inl hln
        refine wpAny_handleBy_cons (codeAny_handlers_test ?_) (by intro q; cases q)
        have LM := PySem.W.exm_one (M := model X.prog X.w) (JA.kIn) LT hb1
        refine test hc (LM.here ?_)
        cases b with
        | true =>
          refine codeAny_handlers_suite_as ?_
          refine HandSPX.lands_againZ flA fun hB flB upB => ?_
          have JB : Inv X pz τ G { sx with heap := hB } := J.landed nb flB.1 ((up.trans upA).trans upB) os ag
          obtain ⟨oB, vB, heB, hzB, hdB⟩ := flB.there
          have SB := JB.suite heB hdB na nL nF
          refine store_ok (X := X.suite a ((a, oB) :: (X.pn ++ pz))) (v := .ref a) SB hN hi hloc rfl (fun s5 S5 => ?_) (.inr hln)
          refine wpAny_mono ((hsu a oB cls d (X.pn ++ pz) hzB ⟨_, hdB⟩).run [] s5 _ G _ S5 (hyes rfl a na)) (fun f s6 hq => ?_) (fun _ _ z => False.elim z)
          have gone : ∀ {τ6 : L2.St} {G6 : Hp} {R : Shared → Prop}, Inv (X.suite a ((a, oB) :: (X.pn ++ pz))) [] τ6 G6 s6 → (∀ s7, Inv X pz (τ6.set i none) G6 s7 → R s7) →
              wpAny (model X.prog X.w) X.A (do bindName X.env n .none; unbindBehindTheSuite X.env n p2) (fun _ s7 => R s7) X.xe s6 := fun {τ6 G6 R} S6 hR => gone_ok (S6.unsuite okX) hN hi hln hR
          cases f with
          | next =>
            obtain ⟨τ6, G6, S6, q6⟩ := hq
            exact gone S6 fun s7 J7 => ⟨_, _, J7, q6⟩
          | brk =>
            obtain ⟨τ6, G6, S6, q6⟩ := hq
            exact gone S6 fun s7 J7 => ⟨_, _, J7, q6⟩
          | cont =>
            obtain ⟨τ6, G6, S6, q6⟩ := hq
            exact gone S6 fun s7 J7 => ⟨_, _, J7, q6⟩
          | ret u =>
            obtain ⟨v6, τ6, G6, S6, r6, q6⟩ := hq
            exact gone S6 fun s7 J7 => ⟨_, _, _, J7, r6, q6⟩
        | false =>
          show wpAny _ X.A (handleBy (.ref a) X.env hs3) _ _ _
          exact ih (hno rfl)
    exact go hh wish
end
end Q

namespace Q
open PySem PySem.Spec PyProof.Rows L2
/-- a def of the module, as its callers need it -/
structure Cal (P : Program) (w : World) (K : PySem.W.Frag) (mg : Str → Option Value) (base : Heap) (CX : CXT) (x : Str) (k : Nat) (ps : List Str) (sp : Sp) : Prop where
  ex : ∃ (f : Addr) (fd : FuncData), FnOk P w K mg base CX k f fd ps sp ∧ mg x = some (.ref f) ∧ PySem.W.keepIn K (.ref f) = true ∧ Binds K fd ps []
/-- a class of the module with its __init__ -/
structure Mak (P : Program) (w : World) (K : PySem.W.Frag) (mg : Str → Option Value) (base : Heap) (CX : CXT) (x : Str) (C : Addr) (k : Nat) (ps : List Str) (sp : Sp) : Prop where
  ex : ∃ (f : Addr) (fd : FuncData), Mk K C f ∧ FnOk P w K mg base CX k f fd ps sp ∧ mg x = some (.ref C) ∧ Binds K fd ps []
/-- an error class of the module with its __init__ -/
structure Err (P : Program) (w : World) (K : PySem.W.Frag) (mg : Str → Option Value) (base : Heap) (x : Str) (C : Addr) (k : Nat) (ps : List Str) (sp : Sp) : Prop where
  cl : OexC K C
  ex : ∃ (f : Addr) (fd : FuncData), PySem.W.findIn K (.ref C) "__init__" = some (some (.ref f)) ∧ PySem.W.typeIn K (.ref f) = some (.type "function") ∧ FnOk P w K mg base CX0 k f fd ps sp ∧ mg x = some (.ref C) ∧ Binds K fd ps []
section
variable {X : Cx} {CX : CXT} {k : Nat} {C : Addr} {ps : List Str} {sp : Sp} {E : XK} {x : Str} {p pos : Pos} {e : Expr} {es : List Expr} {t : TA}
theorem pe_cal (F : Cal X.prog X.w X.K X.mg X.base CX x k ps sp) (hr : Room k X.A) (hg : Gl X x) (hx : Passes CX X E) (ha : PA X (e :: es) t) (hdb : (x == ("__debug__" : Str)) = false := by decide)
    (he : starEach (e :: es) X.env = (false, eval e X.env) :: starEach es X.env := by rfl) (hpl : (backTo pos (starEach es X.env)).any (·.1) = false := by rfl) : PE X (.Call (.Name x p) (e :: es) [] pos) (tCall sp [] E t) := by
  obtain ⟨f, fd, G, hm, hk, hb⟩ := F.ex
  exact pe_call G hr hg hm hk hb .nil hx ha hdb he hpl
theorem pe_cal0 (F : Cal X.prog X.w X.K X.mg X.base CX x k ps sp) (hr : Room k X.A) (hg : Gl X x) (hx : Passes CX X E) (hdb : (x == ("__debug__" : Str)) = false := by decide) : PE X (.Call (.Name x p) [] [] pos) (tCall sp [] E tNil) := by
  obtain ⟨f, fd, G, hm, hk, hb⟩ := F.ex
  exact pe_call0 G hr hg hm hk hb .nil hx hdb
theorem pe_mak (F : Mak X.prog X.w X.K X.mg X.base CX x C k ps sp) (hr : Room (k + 1) X.A) (hg : Gl X x) (hx : Passes CX X E) (ha : PA X (e :: es) t) (hdb : (x == ("__debug__" : Str)) = false := by decide)
    (he : starEach (e :: es) X.env = (false, eval e X.env) :: starEach es X.env := by rfl) (hpl : (backTo pos (starEach es X.env)).any (·.1) = false := by rfl) : PE X (.Call (.Name x p) (e :: es) [] pos) (tMake C sp [] E t) := by
  obtain ⟨f, fd, M, G, hm, hb⟩ := F.ex
  exact pe_make M G hr hg hm hb .nil hx ha hdb he hpl
theorem pmk_err (F : Err X.prog X.w X.K X.mg X.base x C k ps sp) (hr : Room (k + 1) X.A) (hg : Gl X x) (ha : PA X (e :: es) t) (hdb : (x == ("__debug__" : Str)) = false := by decide)
    (he : starEach (e :: es) X.env = (false, eval e X.env) :: starEach es X.env := by rfl) (hpl : (backTo pos (starEach es X.env)).any (·.1) = false := by rfl) : PMk X (.Call (.Name x p) (e :: es) [] pos) (tMkO C sp [] t) := by
  obtain ⟨f, fd, iC, tI, G, hm, hb⟩ := F.ex
  exact pmk_oex F.cl iC tI G hr hb .nil pass0 hg hm ha hdb he hpl
end
theorem at0 {x : V} {xs : List V} : atI (x :: xs) 0 = some x := atI_nat (xs := x :: xs) (j := 0) rfl
theorem at1 {x y : V} {xs : List V} : atI (x :: y :: xs) 1 = some y := atI_nat (xs := x :: y :: xs) (j := 1) rfl
theorem at2 {x y z : V} {xs : List V} : atI (x :: y :: z :: xs) 2 = some z := atI_nat (xs := x :: y :: z :: xs) (j := 2) rfl
/-- the three numbers of a source -/
def src (a b c : Int) : HO := .lst [.int a, .int b, .int c]
def spSource : Sp := fun vs H Q _ => ∃ n : Int, vs = [.int n] ∧ ∀ (p : Addr) (a b c : Int), H p = none → Q (.ref p) (upd H p (src a b c))
/-- all but what stands at S is as it was -/
def Ks (S : Addr) (H H' : Hp) : Prop := ∀ b o, H b = some o → b ≠ S → H' b = some o
def HasSrc (S : Addr) (H : Hp) : Prop := ∃ a b c : Int, H S = some (src a b c)
theorem Ks.refl (S : Addr) (H : Hp) : Ks S H H := fun _ _ h _ => h
theorem Ks.trans {S : Addr} {H H1 H2 : Hp} (a : Ks S H H1) (b : Ks S H1 H2) : Ks S H H2 := fun c o h n => b c o (a c o h n) n
theorem Ks.of {S : Addr} {H H' : Hp} (e : Same H H') : Ks S H H' := fun b o h _ => e b o h
theorem Ks.upd {S : Addr} {H : Hp} {o : HO} : Ks S H (L2.upd H S o) := fun b u h n => by
  rw [upd_ne n]
  exact h
/-- a thing that H does not know may change -/
theorem Ks.mut {S p : Addr} {H H' : Hp} {o : HO} (e : Ks S H H') (h : H p = none) : Ks S H (L2.upd H' p o) := fun b u hb n => by
  rw [upd_ne (ne_of_none hb h)]
  exact e b u hb n
theorem Same.new {H : Hp} {p : Addr} {o : HO} (h : H p = none) : Same H (L2.upd H p o) := fun b u hb => by
  rw [upd_ne (ne_of_none hb h)]
  exact hb
theorem Same.mut {H H' : Hp} {p : Addr} {o : HO} (e : Same H H') (h : H p = none) : Same H (L2.upd H' p o) := fun b u hb => by
  rw [upd_ne (ne_of_none hb h)]
  exact e b u hb
theorem Ks.free {S p : Addr} {H H' : Hp} (e : Ks S H H') (hs : HasSrc S H') (h : H' p = none) : H p = none := by
  obtain ⟨a, b, c, hS⟩ := hs
  cases q : H p with
  | none => rfl
  | some o =>
    by_cases z : p = S
    · rw [z, hS] at h
      cases h
    · rw [e p o q z] at h
      cases h
def spDraw : Sp := fun vs H Q _ => ∃ (S : Addr) (m : Int), vs = [.ref S, .int m] ∧ HasSrc S H ∧ 0 < m ∧ m < 1073741824 ∧
  ∀ (r : Int) (H' : Hp), 0 ≤ r → r < m → HasSrc S H' → Ks S H H' → Q (.int r) H'
def spPick (K : PySem.W.Frag) : Sp := fun vs H Q _ => ∃ (S p : Addr) (xs : List V), vs = [.ref S, .ref p] ∧ HasSrc S H ∧ H p = some (.lst xs) ∧ p ≠ S ∧ 0 < xs.length ∧ xs.length < 1000000 ∧
  ∀ (x : V) (H' : Hp), x ∈ xs → HasSrc S H' → Ks S H H' → Q x H'
end Q

namespace Q
open PySem PySem.Spec PyProof.Rows L2
/-- a list (true) or a tuple (false) that is read -/
def Sq (b : Bool) (K : PySem.W.Frag) (H : Hp) (a : Addr) (xs : List V) : Prop := match b with
  | true => SqL K H a xs
  | false => SqT K H a xs
theorem Sq.l {K : PySem.W.Frag} {H : Hp} {a : Addr} {xs : List V} (h : H a = some (.lst xs)) : Sq true K H a xs := SqL.of h
theorem Sq.t {K : PySem.W.Frag} {H : Hp} {a : Addr} {xs : List V} (h : H a = some (.tup xs)) : Sq false K H a xs := SqT.of h
theorem Sq.same {b : Bool} {K : PySem.W.Frag} {H H' : Hp} {a : Addr} {xs : List V} (e : Same H H') (h : Sq b K H a xs) : Sq b K H' a xs := by
  cases b with
  | true => exact e.seq h
  | false =>
    rcases h with (h | ⟨o, h⟩) | h
    · exact .inl (.inl (e _ _ h))
    · exact .inl (.inr ⟨o, e _ _ h⟩)
    · exact .inr h
theorem Sq.or {b : Bool} {K : PySem.W.Frag} {H : Hp} {a : Addr} {xs : List V} (h : Sq b K H a xs) : SqL K H a xs ∨ SqT K H a xs := by
  cases b with
  | true => exact .inl h
  | false => exact .inr h
def iSq (b : Bool) (K : PySem.W.Frag) (tl : TE) : TI := match b with
  | true => iList K tl
  | false => iTup K tl
def Itq (b : Bool) (K : PySem.W.Frag) (a : Addr) : It := match b with
  | true => Itl K a
  | false => Itt K a
theorem pi_sq (b : Bool) {X : Cx} {tg e : Expr} {tl : TE} (hl : PE X e tl) : PI X tg e (iSq b X.K tl) := by
  cases b with
  | true => exact pi_list hl
  | false => exact pi_tup hl
/-- the reading of a for over a list or a tuple -/
theorem sq_for {b : Bool} {K : PySem.W.Frag} {a : Addr} {xs : List V} {tl : TE} {g : TG} {tb : TS} {D : Ends} {σ : L2.St} {H : Hp} (Pv : Nat → L2.St → Hp → Prop) (ht : ∀ R : V → Hp → Prop, R (.ref a) H → tl σ H R) (hx : Sq b K H a xs) (h0 : Pv 0 σ H) (hl : ∀ i σ H, i ≤ xs.length → Pv i σ H → Sq b K H a xs)
    (hs : ∀ i x σ H, xs[i]? = some x → Pv i σ H → g x σ H fun σ2 H2 => tb { D with nx := Pv (i + 1), ct := Pv (i + 1), bk := D.nx } σ2 H2) (hd : ∀ σ H, Pv xs.length σ H → D.nx σ H) : tFor (iSq b K tl) g tb D σ H := by
  cases b with
  | true =>
    refine ht _ ?_
    exact ⟨a, rfl, ⟨xs, hx⟩, for_list (K := K) (a := a) (xs := xs) Pv h0 hl hs hd⟩
  | false =>
    refine ht _ ?_
    exact ⟨a, rfl, ⟨xs, hx⟩, for_tup (K := K) (a := a) (xs := xs) Pv h0 hl hs hd⟩
/-! ### error classes with one field, with two -/
def spInit1 (C : Addr) (f1 : Str) : Sp := fun vs H Q _ => ∃ (a : Addr) (v1 : V), vs = [.ref a, v1] ∧ H a = some (exo a C none) ∧ ∀ d, H d = none → d ≠ a → Q .non (upd (upd H d (exd d [(f1, v1)])) a (exo a C (some d)))
def spInit2 (C : Addr) (f1 f2 : Str) : Sp := fun vs H Q _ => ∃ (a : Addr) (v1 v2 : V), vs = [.ref a, v1, v2] ∧ H a = some (exo a C none) ∧
  ∀ d, H d = none → d ≠ a → Q .non (upd (upd (upd H d (exd d [(f1, v1)])) a (exo a C (some d))) d (exd d [(f2, v2), (f1, v1)]))
theorem let_go {H : Hp} {a d : Addr} {o1 o2 o3 : HO} (ha : H a = none) (hd : H d = none) (ne : d ≠ a) : upd (del (upd (upd H d o1) a o2) a) d o3 = upd H d o3 := by
  funext b
  by_cases h1 : b = d
  · rw [h1, upd_same, upd_same]
  · rw [upd_ne h1, upd_ne h1]
    by_cases h2 : b = a
    · rw [h2, del_same, ha]
    · rw [del_ne h2, upd_ne h2, upd_ne h1]
theorem upd_twice {H : Hp} {a d : Addr} {o1 o2 o3 : HO} (ne : d ≠ a) : upd (upd (upd H d o1) a o2) d o3 = upd (upd H d o3) a o2 := by
  funext b
  by_cases h1 : b = d
  · rw [h1, upd_same, upd_ne ne, upd_same]
  · rw [upd_ne h1]
    by_cases h2 : b = a
    · rw [h2, upd_same, upd_same]
    · rw [upd_ne h2, upd_ne h2, upd_ne h1, upd_ne h1]
theorem upd_out {H : Hp} {a : Addr} {o1 o2 : HO} {d : Addr} (ne : d ≠ a) : upd (upd H a o1) d o2 = upd (upd H d o2) a o1 := by
  funext b
  by_cases h1 : b = d
  · rw [h1, upd_same, upd_ne ne, upd_same]
  · rw [upd_ne h1]
    by_cases h2 : b = a
    · rw [h2, upd_same, upd_same]
    · rw [upd_ne h2, upd_ne h2, upd_ne h1]
/-- what raising an error of one field asks -/
theorem mk1 {C : Addr} {f1 : Str} {v1 : V} {H : Hp} {R : XK} (h : ∀ d, H d = none → R (.ref C) (some d) (upd H d (.xd [(f1, v1)]))) :
    ∀ a, H a = none → spInit1 C f1 (.ref a :: ([v1] ++ [])) (upd H a (exo a C none))
      (fun v H2 => v = .non ∧ ∃ (d : Addr) (fs : List (Str × V)), H2 a = some (exo a C (some d)) ∧ H2 d = some (exd d fs) ∧ H d = none ∧ R (.ref C) (some d) (upd (del H2 a) d (.xd fs))) (fun _ _ _ => False) := by
  intro a ha
  refine ⟨a, v1, rfl, upd_same, fun d hd ne => ⟨rfl, d, [(f1, v1)], upd_same, ?_, ?_, ?_⟩⟩
  · rw [upd_ne ne, upd_same]
  · rw [upd_ne ne] at hd
    exact hd
  · rw [upd_ne ne] at hd
    have e : upd (upd (upd H a (exo a C none)) d (exd d [(f1, v1)])) a (exo a C (some d)) = upd (upd H d (exd d [(f1, v1)])) a (exo a C (some d)) := by
      rw [upd_out ne, upd_upd]
    rw [e, let_go ha hd ne]
    exact h d hd
theorem mk2 {C : Addr} {f1 f2 : Str} {v1 v2 : V} {H : Hp} {R : XK} (h : ∀ d, H d = none → R (.ref C) (some d) (upd H d (.xd [(f2, v2), (f1, v1)]))) :
    ∀ a, H a = none → spInit2 C f1 f2 (.ref a :: ([v1, v2] ++ [])) (upd H a (exo a C none))
      (fun v H2 => v = .non ∧ ∃ (d : Addr) (fs : List (Str × V)), H2 a = some (exo a C (some d)) ∧ H2 d = some (exd d fs) ∧ H d = none ∧ R (.ref C) (some d) (upd (del H2 a) d (.xd fs))) (fun _ _ _ => False) := by
  intro a ha
  refine ⟨a, v1, v2, rfl, upd_same, fun d hd ne => ⟨rfl, d, [(f2, v2), (f1, v1)], ?_, upd_same, ?_, ?_⟩⟩
  · rw [upd_ne (Ne.symm ne), upd_same]
  · rw [upd_ne ne] at hd
    exact hd
  · rw [upd_ne ne] at hd
    have e : upd (upd (upd (upd H a (exo a C none)) d (exd d [(f1, v1)])) a (exo a C (some d))) d (exd d [(f2, v2), (f1, v1)]) = upd (upd H d (exd d [(f2, v2), (f1, v1)])) a (exo a C (some d)) := by
      rw [upd_twice ne, upd_out ne, upd_upd]
    rw [e, let_go ha hd ne]
    exact h d hd
/-! ### memories -/
/-- the first thing that is wrong with sizes: what and how many -/
def badSizes (ns : List Int) : Option (Str × Int) :=
  if 1 ≤ (ns.length : Int) ∧ (ns.length : Int) ≤ 6 then (ns.find? fun n => !decide (1 ≤ n ∧ n ≤ 4)).map fun n => (("words" : Str), n) else some ("lines", (ns.length : Int))
def spChkSizes (K : PySem.W.Frag) (CB : Addr) : Sp := fun vs H Q E => ∃ (b : Bool) (a : Addr) (ns : List Int), vs = [.ref a] ∧ Sq b K H a (ns.map V.int) ∧
  (∀ w n, badSizes ns = some (w, n) → ∀ d, H d = none → E (.ref CB) (some d) (upd H d (.xd [("count", .int n), ("what", .str w)]))) ∧ (badSizes ns = none → Q .non H)
/-- a memory at m (of the class at C): its sizes -/
def IsMem (C : Addr) (H : Hp) (m : Addr) (ns : List Int) : Prop := ∃ dx t, H m = some (.ins C dx [("sizes", .ref t)]) ∧ H t = some (.tup (ns.map V.int))
/-- Memory.__init__: the instance at m is new; a tuple of the sizes, new or the very one that is passed -/
def spMemInit (K : PySem.W.Frag) (CB CM : Addr) : Sp := fun vs H Q E => ∃ (b : Bool) (m dx a : Addr) (ns : List Int), vs = [.ref m, .ref a] ∧ H m = some (.ins CM dx []) ∧ Sq b K H a (ns.map V.int) ∧ a ≠ m ∧
  (∀ w n, badSizes ns = some (w, n) → ∀ d, H d = none → E (.ref CB) (some d) (upd H d (.xd [("count", .int n), ("what", .str w)]))) ∧
  (badSizes ns = none → (b = true → ∀ t, H t = none → Q .non (upd (upd H t (.tup (ns.map V.int))) m (.ins CM dx [("sizes", .ref t)]))) ∧ (b = false → Q .non (upd H m (.ins CM dx [("sizes", .ref a)]))))
end Q

namespace Q
open PySem PySem.Spec PyProof.Rows L2
abbrev rLe : R2 := rI0 fun i j => .bl (decide (i ≤ j))
abbrev rLt : R2 := rI0 fun i j => .bl (decide (i < j))
/-- lo <= n <= hi as a test -/
theorem a_lele {lo n hi : Int} {ta tb tc : TE} {σ : L2.St} {H : Hp} (ha : Val ta σ H (.int lo)) (hb : Val tb σ H (.int n)) (hc : Val tc σ H (.int hi)) : Ans (tTest (tChain rLe rLe ta tb tc)) σ H (decide (lo ≤ n ∧ n ≤ hi)) := by
  intro Q q
  refine ha _ ?_
  refine hb _ ?_
  refine ⟨_, _, rfl, rfl, _, rfl, ?_⟩
  by_cases h1 : lo ≤ n
  · rw [decide_eq_true h1]
    refine iteT ?_
    refine hc _ ?_
    refine ⟨_, _, rfl, rfl, _, rfl, ?_⟩
    have e : decide (lo ≤ n ∧ n ≤ hi) = decide (n ≤ hi) := by
      by_cases h2 : n ≤ hi
      · rw [decide_eq_true h2, decide_eq_true ⟨h1, h2⟩]
      · rw [decide_eq_false h2, decide_eq_false (fun z => h2 z.2)]
    rw [← e]
    exact q
  · rw [decide_eq_false h1]
    refine iteF ⟨_, rfl, ?_⟩
    have e : decide (lo ≤ n ∧ n ≤ hi) = false := decide_eq_false (fun z => h1 z.1)
    rw [← e]
    exact q
theorem a_lelt {lo n hi : Int} {ta tb tc : TE} {σ : L2.St} {H : Hp} (ha : Val ta σ H (.int lo)) (hb : Val tb σ H (.int n)) (hc : Val tc σ H (.int hi)) : Ans (tTest (tChain rLe rLt ta tb tc)) σ H (decide (lo ≤ n ∧ n < hi)) := by
  intro Q q
  refine ha _ ?_
  refine hb _ ?_
  refine ⟨_, _, rfl, rfl, _, rfl, ?_⟩
  by_cases h1 : lo ≤ n
  · rw [decide_eq_true h1]
    refine iteT ?_
    refine hc _ ?_
    refine ⟨_, _, rfl, rfl, _, rfl, ?_⟩
    have e : decide (lo ≤ n ∧ n < hi) = decide (n < hi) := by
      by_cases h2 : n < hi
      · rw [decide_eq_true h2, decide_eq_true ⟨h1, h2⟩]
      · rw [decide_eq_false h2, decide_eq_false (fun z => h2 z.2)]
    rw [← e]
    exact q
  · rw [decide_eq_false h1]
    refine iteF ⟨_, rfl, ?_⟩
    have e : decide (lo ≤ n ∧ n < hi) = false := decide_eq_false (fun z => h1 z.1)
    rw [← e]
    exact q
/-- len of a list or a tuple -/
theorem v_len {b : Bool} {K : PySem.W.Frag} {te : TE} {σ : L2.St} {H : Hp} {p : Addr} {xs : List V} (ht : Val te σ H (.ref p)) (h : Sq b K H p xs) :
    Val (tCB (fun xs H Q => ∃ p ys, xs = [.ref p] ∧ (SqL K H p ys ∨ SqT K H p ys) ∧ Q (.int ys.length) H) (tCons te tNil)) σ H (.int xs.length) := by
  intro Q q
  refine ht _ ?_
  exact ⟨p, xs, rfl, h.or, q⟩
/-- an if whose test is known by now -/
theorem s_if {c : TT} {t u : TS} {D : Ends} {σ : L2.St} {H : Hp} {b : Bool} (h : Ans c σ H b) (h1 : b = true → t D σ H) (h2 : b = false → u D σ H) : tIfS c t u D σ H := by
  cases b with
  | true => exact st_yes h (h1 rfl)
  | false => exact st_no h (h2 rfl)
theorem find_none_take {ns : List Int} {p : Int → Bool} (h : ∀ n ∈ ns, p n = false) : ns.find? p = none := List.find?_eq_none.mpr fun n hn => by rw [h n hn]; decide
theorem find_at {ns : List Int} {p : Int → Bool} {i : Nat} {n : Int} (hi : ns[i]? = some n) (hp : p n = true) (hb : ∀ j m, j < i → ns[j]? = some m → p m = false) : ns.find? p = some n := by
  induction ns generalizing i with
  | nil => simp at hi
  | cons a r ih =>
    cases i with
    | zero =>
      simp at hi
      subst hi
      simp [List.find?, hp]
    | succ i =>
      have ha : p a = false := hb 0 a (Nat.succ_pos i) rfl
      have hi' : r[i]? = some n := by simpa using hi
      rw [List.find?_cons, ha]
      exact ih hi' fun j m hj hm => hb (j + 1) m (Nat.succ_lt_succ hj) (by simpa using hm)
theorem map_at {ns : List Int} {i : Nat} {x : V} (h : (ns.map V.int)[i]? = some x) : ∃ n, ns[i]? = some n ∧ x = V.int n := by
  rw [List.getElem?_map] at h
  cases e : ns[i]? with
  | none =>
    rw [e] at h
    cases h
  | some n =>
    rw [e] at h
    exact ⟨n, rfl, (Option.some.inj h).symm⟩
theorem g_name {i : Nat} {v : V} {σ : L2.St} {H : Hp} {R : L2.St → Hp → Prop} (q : R (σ.set i (some v)) H) : gName i v σ H R := q
theorem nd_t {p : Prop} [Decidable p] (h : (!decide p) = true) : ¬ p := by
  intro z
  rw [decide_eq_true z] at h
  cases h
theorem nd_f {p : Prop} [Decidable p] (h : (!decide p) = false) : p := by
  by_cases z : p
  · exact z
  · rw [decide_eq_false z] at h
    cases h
end Q

namespace Q
open PySem PySem.Spec PyProof.Rows L2 LamX
section
variable {X : Cx} {pz : List (Addr × Obj)} {σ : L2.St} {H HZ : Hp} {s s1 : Shared}
/-- x() in the def that was handed the lambda; what leaves it is wished for at the slots as they stand at the call -/
theorem pe_actS {CXg : CXT} {Eg : XK} {Ng : List Str} {qg : Str} {sg : Scope} {g f c' : Addr} {cdg pm ctv : Value} {params : Arguments} {body : Expr} {scope : Scope} {k i : Nat} {a : Str} {pn : List (Addr × Obj)}
    {xe : Value → Shared → Prop} {W : WX} {tb : XK → TE} {p1 p2 : Pos}
    (I : Inv X pz σ H s) (L : LamS X.env.scope scope)
    (hf : s.heap.get? f = some (PySem.W.kla_obj "<lambda>" (X.env.qual ++ "<lambda>") params body scope (cloFrom X.env.cells scope.names []) pm c' ctv)) (hfn : H f = none) (hfr : f ∉ frs X.stack)
    (hbi : bindArgs (PySem.W.kla_fn "<lambda>" (X.env.qual ++ "<lambda>") params body scope (cloFrom X.env.cells scope.names []) pm (.ref c') ctv) ⟨[], []⟩ = pure [])
    (tk : Takes ((cxOf CXg X.prog X.w X.K X.mg X.base Ng qg sg g cdg X.A X.stack s H Eg).tr pn xe) W) (hr : Room (k + 1) (X.A.deeper (envOfC qg sg s.heap.objs.size g cdg)))
    (hbo : ∀ (E : XK) (A : Around) (outer : List Env) (s : Shared) (H : Hp), Room k (A.deeper (lamEnv X scope s.heap.objs.size f c')) → PE (lamCx X A outer s H E scope f c') body (tb E))
    (hN : Ng[i]? = some a) (hv : Vis sg a) (hd : (a == ("__debug__" : Str)) = false := by decide) (hcd : (a == ("__classdict__" : Str)) = false := by decide) :
    PE ((cxOf CXg X.prog X.w X.K X.mg X.base Ng qg sg g cdg X.A X.stack s H Eg).tr pn xe) (.Call (.Name a p1) [] [] p2)
      (fun τ G R => τ[i]? = some (some (.ref f)) ∧ G c' = some (CodeO c' (X.env.qual ++ "<lambda>")) ∧ tb (WE W τ) σ G R) := by
  refine ⟨fun pq sZ τ G R IZ h => ?_⟩
  obtain ⟨e1, e2, e3⟩ := h
  have callee := (pe_var (X := (cxOf CXg X.prog X.w X.K X.mg X.base Ng qg sg g cdg X.A X.stack s H Eg).tr pn xe) (pos := p1) (i := i) hN hv hd hcd).run pq sZ τ G (fun v H1 => v = .ref f ∧ H1 = G) IZ ⟨.ref f, e1, rfl, rfl⟩
  refine wpAny_Call_Name_kw (thn callee fun u s1 hh => ?_)
  obtain ⟨v, H1, I1, r1, ev, eH⟩ := hh
  subst ev
  rw [eH] at I1
  obtain rfl : u = Value.ref f := r1
  have here : s1.heap.get? f = some (PySem.W.kla_obj "<lambda>" (X.env.qual ++ "<lambda>") params body scope (cloFrom X.env.cells scope.names []) pm c' ctv) :=
    I1.base.keep f _ hf hfn hfr (fun z => nomatch (show f ∈ ([] : List Addr) from z))
  refine PySem.W.callWith_F0 ⟨_, _, _, _, here⟩ ?_
  have un1 : Un (frs X.stack) [] H G s.heap s1.heap := I1.base
  obtain ⟨⟨oc, vs, t, hoc, hdc, hvc⟩, _, _⟩ := I1.hok c' _ e2
  have rc : codeAny (model X.prog X.w) (X.A.deeper (envOfC qg sg s.heap.objs.size g cdg)) (.call (.ref f) ⟨[], []⟩) (CR (L2.CX X.prog X.w) (envOfC qg sg s.heap.objs.size g cdg :: X.stack) X.prog X.w G s1 R (WE W τ)) s1 := by
    refine PySem.W.kla_callFunE hr.depth here rfl L.co L.gen rfl ⟨c', oc, vs, t, rfl, hoc, hdc, hvc⟩ ?_
    rw [hbi]
    refine wpAny_pure (wpAny_newFunctionEnv (fun y hy => (L.own y hy).2) (fun y hy => absurd hy (by simp)) (fun hN1 hns hsb => ⟨I1.nolimit.fresh _ hsb, ?_⟩) L.kind)
    show codeAny _ _ (.expr body (lamEnv X scope s1.heap.objs.size f c')) _ _
    have kp : ∀ b o, s1.heap.get? b = some o → hN1.get? b = some o := fun b o e => hsb.extBut b o (Nat.ne_of_lt (Heap.lt_size e)) (Heap.get?_push_of_some _ e)
    have J : Inv (lamCx X (X.A.deeper (envOfC qg sg s.heap.objs.size g cdg)) (envOfC qg sg s.heap.objs.size g cdg :: X.stack) s1 G (WE W τ) scope f c') [] σ G
        { s1 with heap := hN1, toks := s1.toks + ([] : List (Str × Value)).length } := lam_start2 I L I1.env0 hr.hd un1 hns kp
    refine PySem.W.kla_codeExpr (wpAny_mono ((hbo (WE W τ) _ _ s1 G (hr.deeper _)).run [] _ _ G R J e3) (fun v sE hq => ?_) fun e sE hq => hq)
    obtain ⟨w1, H2, J2, rv, q⟩ := hq
    exact ⟨w1, H2, J2.os, J2.bare, J2.base, J2.hok, rv, q⟩
  refine wpAny_call (codeAny_mono rc fun r sE hq => ?_)
  cases r with
  | error e => exact passAt tk τ pq G s1 e sE I1 hq
  | ok fl =>
    cases fl with
    | ret u => exact I1.after hq
    | next => exact False.elim hq
    | brk => exact False.elim hq
    | cont => exact False.elim hq
end
/-- the def that calls what it got, once, by its only parameter; TT: what it makes of the lambda's reading -/
def Gives (X : Cx) (Ng : List Str) (x : Str) (sg : Scope) (g : Addr) (cdg : Value) (bg : List Stmt) (a : Str) (q : Str) (TT : (XK → Hp → VK → Prop) → Hp → VK → Prop) : Prop :=
  ∀ (f c' : Addr) (s : Shared) (H : Hp) (R : VK) (tl : XK → Hp → VK → Prop),
    (∀ (W : WX) (pn : List (Addr × Obj)) (xe : Value → Shared → Prop) (p1 p2 : Pos), Takes ((cxOf C8.CX0 X.prog X.w X.K X.mg X.base Ng x sg g cdg X.A X.stack s H C8.E0).tr pn xe) W →
      PE ((cxOf C8.CX0 X.prog X.w X.K X.mg X.base Ng x sg g cdg X.A X.stack s H C8.E0).tr pn xe) (.Call (.Name a p1) [] [] p2) (fun τ G R => τ[0]? = some (some (.ref f)) ∧ G c' = some (CodeO c' q) ∧ tl (WE W τ) G R)) →
    H c' = some (CodeO c' q) → TT tl H R →
    ∃ t, PSs (cxOf C8.CX0 X.prog X.w X.K X.mg X.base Ng x sg g cdg X.A X.stack s H C8.E0).nox bg t ∧ t { nx := fun _ H' => R .non H', rt := R } (L2.start Ng [.ref f]) H
section
variable {X : Cx}
theorem pe_lamS {T : List (Addr × Str)} {TT : (XK → Hp → VK → Prop) → Hp → VK → Prop} {x a : Str} {g c P : Addr} {k : Nat} {pg : Arguments} {bg : List Stmt} {sg : Scope} {dV kV doc pm cdv ct oc : Value} {an od : Option Addr} {osl : Array (Option Value)} {Ng : List Str}
    {params : Arguments} {body : Expr} {scope : Scope} {t : XK → TE} {p lpos pos : Pos} (hg : Gl X x) (hm : X.mg x = some (.ref g)) (hk : PySem.W.keepIn X.K (.ref g) = true)
    (lk : X.K.lookup g = some ⟨oc, od, .func (PySem.W.fnOf x x pg bg sg dV kV doc pm an cdv ct), osl⟩) (hcg : PySem.W.codeIn X.K cdv x = true)
    (hb : L2.Binds X.K (PySem.W.fnOf x x pg bg sg dV kV doc pm an cdv ct) [a] []) (Sg : FnScope Ng [a] sg) (hNg : Ng[0]? = some a) (hva : Vis sg a)
    (hG : Gives X Ng x sg g cdv bg a (X.env.qual ++ "<lambda>") TT)
    (TB : TabB X.base X.mg c P) (hcode : X.env.code = .ref c) (hmT : (P, X.env.qual ++ "<lambda>") ∈ T) (hu : ∀ p ∈ T, p.1 = P → p.2 = X.env.qual ++ "<lambda>") (hr : Room (k + 2) X.A) (L : LamS X.env.scope scope)
    (hdef : defaultsOf params X.env = ([], []))
    (hbi : ∀ (q : Str) (cl : List (Str × Addr)) (pm cv ctv : Value), bindArgs (PySem.W.kla_fn "<lambda>" q params body scope cl pm cv ctv) ⟨[], []⟩ = pure [])
    (hbo : ∀ (E : XK) (A : Around) (outer : List Env) (s : Shared) (H : Hp) (f c' : Addr), Room k (A.deeper (lamEnv X scope s.heap.objs.size f c')) → PE (lamCx X A outer s H E scope f c') body (t E))
    (hdb : (x == ("__debug__" : Str)) = false := by decide) (hd : (a == ("__debug__" : Str)) = false := by decide) (hcd : (a == ("__classdict__" : Str)) = false := by decide) :
    PE X (.Call (.Name x p) [.Lambda params body scope lpos] [] pos) (tLam T TT t) := by
  refine ⟨fun pz s σ H R I h => ?_⟩
  obtain ⟨hT, h2⟩ := h
  refine wpAny_Call_Name_kw (ld_glob I hg hm ?_ hdb)
  refine PySem.W.callWith_K (h₀ := X.base) I.ok.mod.kin hk ?_ (by rfl) (by rfl)
  show wpAny _ _ (spliced ((false, eval (.Lambda params body scope lpos) X.env) :: backTo pos (starEach [] X.env))) _ _ s
  refine Calls.spliced_cons (lam_make2 I TB hcode hmT hu hT hdef (L.has I.ok) fun f c' pm1 ctv H1 s1 I1 eN T1 hf hfn hfr hco => ?_)
  refine Calls.spliced_nil ⟨I1.kIn, ?_⟩
  have rc : codeAny (model X.prog X.w) X.A (.call (.ref g) ⟨[.ref f], []⟩) (CR C8.CX0 X.stack X.prog X.w H1 s1 R C8.E0) s1 := by
    refine run_ofS (N := Ng) (ps := [a]) (us := [.ref f]) (vs := [.ref f]) lk hcg Sg hr I1.env0 (hb s1 [.ref f] I1.kIn rfl) (.cons rfl .nil) rfl fun hr1 => ?_
    obtain ⟨t1, ht1, hq1⟩ := hG f c' s1 H1 R (fun E G Q' => t E σ G Q')
      (fun W pn xe p1 p2 tk => pe_actS (i := 0) I1 L hf hfn hfr (hbi _ _ _ _ _) tk hr1 (fun E A outer s H hr2 => hbo E A outer s H f c' hr2) hNg hva hd hcd) hco (h2 H1 eN T1)
    exact ⟨t1, ht1.nox, hq1⟩
  refine wpAny_call (codeAny_mono rc fun r s2 hq => ?_)
  cases r with
  | error e => exact (show False from hq).elim
  | ok fl =>
    cases fl with
    | ret u => exact I1.after hq
    | next => exact False.elim hq
    | brk => exact False.elim hq
    | cont => exact False.elim hq
end
end Q

namespace Q
open PySem PySem.Spec PyProof.Rows L2 LamX
/-- told of a call that ends well or in an error of the class at CB with two fields: ('ok', value), or ('count', what, count) -/
def TOut (CB : Addr) : (XK → Hp → VK → Prop) → Hp → VK → Prop := fun tl H R => ∀ (E' : XK) (R' : VK),
  (∀ (d : Addr) (w n : V) (H' : Hp), H' d = some (.xd [("count", n), ("what", w)]) → (∀ p, H' p = none → R (.ref p) (upd H' p (.tup [.str "count", w, n]))) → E' (.ref CB) (some d) H') →
  (∀ (v : V) (H1 : Hp), (∀ p, H1 p = none → R (.ref p) (upd H1 p (.tup [.str "ok", v]))) → R' v H1) → tl E' H R'
end Q

namespace Q
open PySem PySem.Spec PyProof.Rows L2 LamX
theorem Tabs.ks {T : List (Addr × Str)} {S : Addr} {H H' : Hp} (t : Tabs T H) (hS : HasSrc S H) (e : Ks S H H') : Tabs T H' := fun p hp => by
  obtain ⟨a, b, c, hS⟩ := hS
  obtain ⟨ps, h1, h2, h3⟩ := t p hp
  refine ⟨ps, e _ _ h1 (fun z => ?_), h2, fun pos cv hc => ?_⟩
  · rw [z, hS] at h1
    cases h1
  · obtain ⟨c1, e1, e2⟩ := h3 pos cv hc
    refine ⟨c1, e1, e _ _ e2 (fun z => ?_)⟩
    rw [z, hS] at e2
    unfold CodeO at e2
    cases e2
/-- all but S and the tables is as it was -/
def Kp (S : Addr) (H H' : Hp) : Prop := ∀ b o, H b = some o → b ≠ S → (∀ ps, o ≠ .tbl ps) → H' b = some o
theorem Kp.refl (S : Addr) (H : Hp) : Kp S H H := fun _ _ h _ _ => h
theorem Kp.trans {S : Addr} {H H1 H2 : Hp} (a : Kp S H H1) (b : Kp S H1 H2) : Kp S H H2 := fun c o h n t => b c o (a c o h n t) n t
theorem Kp.ks {S : Addr} {H H' : Hp} (e : Ks S H H') : Kp S H H' := fun b o h n _ => e b o h n
theorem Kp.ext {S : Addr} {H H' : Hp} (e : ExtN H H') : Kp S H H' := fun b o h _ t => e b o h t
theorem Kp.mut {S p : Addr} {H H' : Hp} {o : HO} (e : Kp S H H') (h : H p = none) : Kp S H (L2.upd H' p o) := fun b u hb n t => by
  rw [upd_ne (ne_of_none hb h)]
  exact e b u hb n t
theorem ExtN.src {S : Addr} {H H' : Hp} (e : ExtN H H') (h : HasSrc S H) : HasSrc S H' := by
  obtain ⟨a, b, c, hS⟩ := h
  exact ⟨a, b, c, e _ _ hS (fun ps z => by cases z)⟩
theorem Same.src {S : Addr} {H H' : Hp} (e : Same H H') (h : HasSrc S H) : HasSrc S H' := by
  obtain ⟨a, b, c, hS⟩ := h
  exact ⟨a, b, c, e _ _ hS⟩
theorem src_ne {S p : Addr} {H : Hp} {o : HO} (h : HasSrc S H) (hp : H p = none) : p ≠ S := fun z => by
  obtain ⟨a, b, c, hS⟩ := h
  rw [z, hS] at hp
  cases hp
theorem ne_src {S p : Addr} {H : Hp} (h : HasSrc S H) (hp : H p = none) : S ≠ p := fun z => by
  obtain ⟨a, b, c, hS⟩ := h
  rw [z] at hS
  rw [hS] at hp
  cases hp
theorem src_new {S p : Addr} {H : Hp} {o : HO} (h : HasSrc S H) (hp : H p = none) : HasSrc S (L2.upd H p o) := Same.src (Same.new hp) h
theorem src_mut {S p : Addr} {H : Hp} {o : HO} (h : HasSrc S H) (hp : S ≠ p) : HasSrc S (L2.upd H p o) := by
  obtain ⟨a, b, c, hS⟩ := h
  exact ⟨a, b, c, by rw [upd_ne hp]; exact hS⟩
mutual
theorem dp_mono {K : PySem.W.Frag} {H H' : Hp} (e : ∀ a o, H a = some o → (∀ ps, o ≠ .tbl ps) → H' a = some o) : ∀ (d : PyData) (v : V), Dp K H v d → Dp K H' v d
  | .none, _, .non => .non
  | .bool _, _, .bl b => .bl b
  | .int _, _, .int i => .int i
  | .str _, _, .str x => .str x
  | .list ds, _, .lst hs ha => .lst (by
      rcases hs with (h | ⟨o, h⟩) | h
      · exact .inl (.inl (e _ _ h (fun ps z => by cases z)))
      · exact .inl (.inr ⟨o, e _ _ h (fun ps z => by cases z)⟩)
      · exact .inr h) (dpAll_mono e ds _ ha)
  | .tuple ds, _, .tup hs ha => .tup (by
      rcases hs with (h | ⟨o, h⟩) | h
      · exact .inl (.inl (e _ _ h (fun ps z => by cases z)))
      · exact .inl (.inr ⟨o, e _ _ h (fun ps z => by cases z)⟩)
      · exact .inr h) (dpAll_mono e ds _ ha)
theorem dpAll_mono {K : PySem.W.Frag} {H H' : Hp} (e : ∀ a o, H a = some o → (∀ ps, o ≠ .tbl ps) → H' a = some o) : ∀ (ds : List PyData) (vs : List V), DpAll K H vs ds → DpAll K H' vs ds
  | [], _, .nil => .nil
  | d :: ds, _, .cons h1 h2 => .cons (dp_mono e d _ h1) (dpAll_mono e ds _ h2)
end
theorem dp_ext {K : PySem.W.Frag} {H H' : Hp} {v : V} {d : PyData} (e : ExtN H H') (h : Dp K H v d) : Dp K H' v d := dp_mono (fun a o z n => e a o z n) d v h
theorem dp_same {K : PySem.W.Frag} {H H' : Hp} {v : V} {d : PyData} (e : Same H H') (h : Dp K H v d) : Dp K H' v d := dp_mono (fun a o z _ => e a o z) d v h
theorem dpAll_ints {K : PySem.W.Frag} {H : Hp} : ∀ ns : List Int, DpAll K H (ns.map V.int) (ns.map PyData.int)
  | [] => .nil
  | n :: r => .cons (.int n) (dpAll_ints r)
theorem lay_ints : ∀ ns : List Int, PyData.canLayAll0 (ns.map PyData.int) = true
  | [] => rfl
  | n :: r => by
    show (true && PyData.canLayAll0 (r.map PyData.int)) = true
    rw [lay_ints r]
    rfl
theorem depth_ints : ∀ ns : List Int, PyData.depthAll (ns.map PyData.int) = 0
  | [] => rfl
  | n :: r => by
    show max 0 (PyData.depthAll (r.map PyData.int)) = 0
    rw [depth_ints r]
    rfl
theorem eqv_same {d : PyData} (h : SeqAt.shaped d = true) : PyData.eqv d d = true := SeqAt.eqv_refl d (SeqAt.canLay_of_shaped h)
end Q

namespace Q
open PySem PySem.Spec PyProof.Rows L2 LamX
theorem Tabs.lst {T : List (Addr × Str)} {D : Addr} {H : Hp} {xs : List V} {o : HO} (t : Tabs T H) (hD : H D = some (.lst xs)) : Tabs T (upd H D o) := fun p hp => by
  obtain ⟨ps, h1, h2, h3⟩ := t p hp
  refine ⟨ps, ?_, h2, fun pos cv hc => ?_⟩
  · rw [upd_ne (fun z => ?_)]
    · exact h1
    · rw [z, hD] at h1
      cases h1
  · obtain ⟨c1, e1, e2⟩ := h3 pos cv hc
    refine ⟨c1, e1, ?_⟩
    rw [upd_ne (fun z => ?_)]
    · exact e2
    · rw [z, hD] at e2
      unfold CodeO at e2
      cases e2
/-- nothing but a table, if anything -/
def NoO (H : Hp) (p : Addr) : Prop := ∀ o, H p = some o → ∃ ps, o = .tbl ps
theorem Kp.mutN {S p : Addr} {H H' : Hp} {o : HO} (e : Kp S H H') (h : NoO H p) : Kp S H (L2.upd H' p o) := fun b u hb n t => by
  rw [upd_ne (fun z => ?_)]
  · exact e b u hb n t
  · rw [z] at hb
    obtain ⟨ps, q⟩ := h u hb
    exact t ps q
/-- how a law's def stands within its run: what was there, the source, the tables -/
structure Now (T : List (Addr × Str)) (S : Addr) (H0 H : Hp) : Prop where
  kp : Kp S H0 H
  hs : HasSrc S H
  tb : Tabs T H
section
variable {T : List (Addr × Str)} {S p D : Addr} {H0 H H' : Hp} {o : HO} {xs : List V}
theorem Now.new (n : Now T S H0 H) (h : H p = none) : Now T S H0 (upd H p o) :=
  ⟨n.kp.trans (Kp.ks (Ks.of (Same.new h))), src_new n.hs h, n.tb.ext (Same.new h)⟩
theorem Now.ks (n : Now T S H0 H) (k : Ks S H H') (h : HasSrc S H') : Now T S H0 H' := ⟨n.kp.trans (Kp.ks k), h, Tabs.ks n.tb n.hs k⟩
theorem Now.same (n : Now T S H0 H) (k : Same H H') : Now T S H0 H' := ⟨n.kp.trans (Kp.ks (Ks.of k)), Same.src k n.hs, n.tb.ext k⟩
theorem Now.mut (n : Now T S H0 H) (hD : H D = some (.lst xs)) (h0 : NoO H0 D) (ne : D ≠ S) : Now T S H0 (upd H D o) := ⟨n.kp.mutN h0, src_mut n.hs (Ne.symm ne), Tabs.lst n.tb hD⟩
theorem Now.ext (n : Now T S H0 H) (e : ExtN H H') (t : Tabs T H') : Now T S H0 H' := ⟨n.kp.trans (Kp.ext e), ExtN.src e n.hs, t⟩
theorem Now.noS (n : Now T S H0 H) (h : H p = none) : p ≠ S := src_ne (o := .lst []) n.hs h
theorem Now.fresh (n : Now T S H0 H) (h : H p = none) : NoO H0 p := fun o q => by
  by_cases tt : ∃ ps, o = .tbl ps
  · exact tt
  · rw [n.kp p o q (n.noS h) (fun ps e => tt ⟨ps, e⟩)] at h
    cases h
end
theorem lc_yes {te no : Hp → Prop} {σ : L2.St} {H : Hp} (q : te H) : tYes σ H (fun b H3 => if b = true then te H3 else no H3) := by
  show (if true = true then te H else no H)
  exact iteT q
/-- what a memory of these sizes is told as -/
def dueOf (ns : List Int) : PyData := match badSizes ns with
  | none => .tuple [.str "ok", .tuple (ns.map PyData.int)]
  | some (w, n) => .tuple [.str "count", .str w, .int n]
theorem ok_shaped (ns : List Int) : SeqAt.shaped (.tuple [.str "ok", .tuple (ns.map PyData.int)]) = true := by
  have h1 : PyData.canLay0 (.tuple [.str "ok", .tuple (ns.map PyData.int)]) = true := by
    simp only [PyData.canLay0, PyData.canLayAll0, lay_ints, Bool.and_true]
    decide +kernel
  have h2 : PyData.depth (.tuple [.str "ok", .tuple (ns.map PyData.int)]) ≤ 64 := by
    simp [PyData.depth, PyData.depthAll, depth_ints]
  unfold SeqAt.shaped
  rw [h1, decide_eq_true h2]
  rfl
theorem count_shaped {w : Str} (n : Int) (hw : PyData.canLay0 (.str w) = true) : SeqAt.shaped (.tuple [.str "count", .str w, .int n]) = true := by
  have h1 : PyData.canLay0 (.tuple [.str "count", .str w, .int n]) = true := by
    have e : PyData.canLay0 (.tuple [.str "count", .str w, .int n]) = (PyData.canLay0 (.str "count") && (PyData.canLay0 (.str w) && true)) := rfl
    rw [e, hw]
    decide +kernel
  have h2 : PyData.depth (.tuple [.str "count", .str w, .int n]) ≤ 64 := by
    simp [PyData.depth, PyData.depthAll]
  unfold SeqAt.shaped
  rw [h1, decide_eq_true h2]
  rfl
theorem bad_words {ns : List Int} {w : Str} {n : Int} (h : badSizes ns = some (w, n)) : w = "lines" ∨ w = "words" := by
  unfold badSizes at h
  split at h
  · cases e : ns.find? fun n => !decide (1 ≤ n ∧ n ≤ 4) with
    | none =>
      rw [e] at h
      cases h
    | some m =>
      rw [e] at h
      cases h
      exact .inr rfl
  · cases h
    exact .inl rfl
theorem due_shaped (ns : List Int) : SeqAt.shaped (dueOf ns) = true := by
  unfold dueOf
  cases e : badSizes ns with
  | none => exact ok_shaped ns
  | some p =>
    obtain ⟨w, n⟩ := p
    refine count_shaped n ?_
    rcases bad_words e with h | h <;> (rw [h]; decide +kernel)
end Q

namespace Q
open PySem PySem.Spec PyProof.Rows L2
abbrev topS (i : Nat) : Stmt := PySem.Challenge.pw_lateststore_k02_memories_refused.main.body.getD i (.Pass ⟨0, 0, 0, 0⟩)

abbrev sSource : Stmt := topS 11
theorem scSource : FnScope ["_law_cell"] ["_law_cell"] (defScope sSource) := ⟨rfl, rfl, rfl, by decide +kernel, rfl, by decide +kernel, by decide +kernel⟩
section
variable {P : Program} {w : World} {K : PySem.W.Frag} {mg : Str → Option Value} {base : Heap}
structure TSource (mg : Str → Option Value) : Prop where
  b_abs : mg "abs" = none
theorem ok_source {f : Addr} {fd : FuncData} (F : Fun K "_law_source" "_law_source" sSource f fd) (T : TSource mg) : FnOk P w K mg base CX0 1 f fd ["_law_cell"] spSource := by
  refine F.ok scSource (fun vs H Q E h => ?_) (fun cdv A outer s H vs Q E hr h => ?_)
  · obtain ⟨n, rfl, _⟩ := h
    rfl
  · obtain ⟨n, rfl, k⟩ := h
    refine ⟨_, (pss_one (ps_ret (pe_lst (pa_cons (pe_callB call_abs (by rfl) T.b_abs (by decide +kernel) (pa_cons (pv 0) pa_nil)) (pa_cons (pe_op op_mod (pv 0) pe_int) (pa_cons pe_int pa_nil)))))), ?_⟩
    refine ⟨_, rfl, _, rfl, _, rfl, _, _, rfl, rfl, (by show (0 : Int) < 2147483629; decide), (by show 3 ≤ sizeLine; decide), fun p hp => ?_⟩
    exact k p _ _ _ hp
end

abbrev sDraw : Stmt := topS 12
theorem scDraw : FnScope ["_law_source_here", "_law_many", "_law_found", "_law_number"] ["_law_source_here", "_law_many"] (defScope sDraw) := ⟨rfl, rfl, rfl, by decide +kernel, rfl, by decide +kernel, by decide +kernel⟩
section
variable {P : Program} {w : World} {K : PySem.W.Frag} {mg : Str → Option Value} {base : Heap}
theorem ok_draw {f : Addr} {fd : FuncData} (F : Fun K "_law_draw" "_law_draw" sDraw f fd) : FnOk P w K mg base CX0 1 f fd ["_law_source_here", "_law_many"] spDraw := by
  refine F.ok scDraw (fun vs H Q E h => ?_) (fun cdv A outer s H vs Q E hr h => ?_)
  · obtain ⟨S, m, rfl, _⟩ := h
    rfl
  · obtain ⟨S, m, rfl, ⟨a, b, c, hS⟩, m0, m1, k⟩ := h
    refine ⟨_, (pss_cons (ps_if (pt_cmpR op_ge (pe_ix ix_list (pv 0) pe_int (fun _ _ => rfl)) (pe_op op_pow pe_int pe_int) (nomark _)) (pss_cons (ps_set (i := 2) scDraw.nd rfl (Or.inl rfl) (pe_op op_mod (pe_ix ix_list (pv 0) pe_int (fun _ _ => rfl)) (pv 1)))
    (pss_cons (ps_asg (pe_op op_fdiv (pe_ix ix_list (pv 0) pe_int (fun _ _ => rfl)) (pv 1)) (pg_sub (pv 0) pe_int set_list))
    (pss_one (ps_ret (pv 2))))) pss_nil)
    (pss_cons (ps_asg (pe_op op_add (pe_ix ix_list (pv 0) pe_int (fun _ _ => rfl)) pe_int) (pg_sub (pv 0) pe_int set_list))
    (pss_cons (ps_set (i := 3) scDraw.nd rfl (Or.inl rfl) (pe_op op_mod (pe_op op_mul (pe_op op_add (pe_op op_add (pe_ix ix_list (pv 0) pe_int (fun _ _ => rfl)) (pe_op op_mul pe_int (pe_ix ix_list (pv 0) pe_int (fun _ _ => rfl)))) pe_int) pe_int) pe_int))
    (pss_cons (ps_set (i := 3) scDraw.nd rfl (Or.inl rfl) (pe_op op_mod (pe_op op_mul (pv 3) (pe_op op_add (pe_op op_fdiv (pv 3) pe_int) pe_int)) pe_int))
    (pss_one (ps_ret (pe_op op_mod (pe_op op_mod (pe_op op_add (pe_op op_fdiv (pv 3) pe_int) (pe_op op_mul (pe_op op_mod (pv 3) pe_int) pe_int)) pe_int) (pv 1)))))))), ?_⟩
    refine ⟨_, rfl, S, _, _, _, rfl, rfl, SqL.of hS, at0, _, _, rfl, rfl, ⟨by decide, by decide, by decide⟩, _, _, rfl, rfl, _, rfl, ?_⟩
    refine ite2 (fun _ => ?_) (fun _ => ?_)
    · refine ⟨_, rfl, S, _, _, _, rfl, rfl, SqL.of hS, at0, _, rfl, _, _, rfl, rfl, m0, ?_⟩
      refine ⟨_, rfl, S, _, _, _, rfl, rfl, SqL.of hS, at0, _, rfl, _, _, rfl, rfl, ⟨m0, m1⟩, _, rfl, S, _, _, 0, rfl, rfl, hS, rfl, ?_⟩
      exact ⟨_, rfl, k _ _ (Int.emod_nonneg _ (by omega)) (Int.emod_lt_of_pos _ m0) ⟨_, _, _, upd_same⟩ Ks.upd⟩
    · refine ⟨_, rfl, S, _, _, _, rfl, rfl, SqL.of hS, at2, _, _, rfl, rfl, _, rfl, S, _, _, 2, rfl, rfl, hS, rfl, ?_⟩
      have hS2 : upd H S (src a b (c + 1)) S = some (src a b (c + 1)) := upd_same
      refine ⟨_, rfl, S, _, _, _, rfl, rfl, SqL.of hS2, at1, _, rfl, S, _, _, _, rfl, rfl, SqL.of hS2, at2, _, _, rfl, rfl, .inl ⟨by decide, by decide⟩, _, _, rfl, rfl, _, _, rfl, rfl, _, _, rfl, rfl, .inr ⟨by decide, by decide⟩, _, _, rfl, rfl, (by show (0 : Int) < 2147483647; decide), ?_⟩
      generalize hx : ((b + 7919 * (c + 1) + 1) * 48271) % 2147483647 = x
      have x0 : 0 ≤ x := by rw [← hx]; exact Int.emod_nonneg _ (by decide)
      have x1 : x < 2147483647 := by rw [← hx]; exact Int.emod_lt_of_pos _ (by decide)
      refine ⟨_, rfl, _, rfl, _, _, rfl, rfl, ⟨by decide, by decide⟩, _, _, rfl, rfl, _, _, rfl, rfl, .inl ⟨by omega, by omega⟩, _, _, rfl, rfl, (by show (0 : Int) < 2147483587; decide), ?_⟩
      refine ⟨_, rfl, _, _, rfl, rfl, ⟨by decide, by decide⟩, _, rfl, _, _, rfl, rfl, (by show (0 : Int) < 7919; decide), _, _, rfl, rfl, .inr ⟨by decide, by decide⟩, _, _, rfl, rfl, _, _, rfl, rfl, (by show (0 : Int) < 2147483399; decide), _, rfl, _, _, rfl, rfl, m0, ?_⟩
      have e : upd (upd H S (src a b (c + 1))) S (src a b (c + 1)) = upd H S (src a b (c + 1)) := upd_upd
      exact k _ _ (Int.emod_nonneg _ (by omega)) (Int.emod_lt_of_pos _ m0) ⟨_, _, _, upd_same⟩ Ks.upd
end

abbrev sPick : Stmt := topS 13
theorem scPick : FnScope ["_law_source_here", "_law_items"] ["_law_source_here", "_law_items"] (defScope sPick) := ⟨rfl, rfl, rfl, by decide +kernel, rfl, by decide +kernel, by decide +kernel⟩
section
variable {P : Program} {w : World} {K : PySem.W.Frag} {mg : Str → Option Value} {base : Heap}
structure TPick (mg : Str → Option Value) : Prop where
  b_len : mg "len" = none
theorem ok_pick {f : Addr} {fd : FuncData} (F : Fun K "_law_pick" "_law_pick" sPick f fd) (T : TPick mg) (FD : Cal P w K mg base CX0 "_law_draw" 1 ["_law_source_here", "_law_many"] spDraw) : FnOk P w K mg base CX0 2 f fd ["_law_source_here", "_law_items"] (spPick K) := by
  refine F.ok scPick (fun vs H Q E h => ?_) (fun cdv A outer s H vs Q E hr h => ?_)
  · obtain ⟨S, p, xs, rfl, _⟩ := h
    rfl
  · obtain ⟨S, p, xs, rfl, hS, hp, ne, l0, l1, k⟩ := h
    refine ⟨_, (pss_one (ps_ret (pe_ix ix_list (pv 1) (pe_cal FD (hr.mono (by decide)) (by rfl) pass0 (pa_cons (pv 0) (pa_cons (pe_callB call_len_seq (by rfl) T.b_len (by decide +kernel) (pa_cons (pv 1) pa_nil)) pa_nil))) (fun _ _ => rfl)))), ?_⟩
    refine ⟨_, rfl, _, rfl, _, rfl, p, _, rfl, .inl (SqL.of hp), S, _, rfl, hS, by omega, by omega, fun r H' r0 r1 hS' ks => ?_⟩
    have hp2 : H' p = some (.lst xs) := ks _ _ hp ne
    have hlt : r.toNat < xs.length := by omega
    have er : ((r.toNat : Nat) : Int) = r := Int.toNat_of_nonneg r0
    have hat : atI xs ((r.toNat : Nat) : Int) = some xs[r.toNat] := atI_nat (by simp [hlt])
    exact ⟨p, xs, r, xs[r.toNat], rfl, rfl, SqL.of hp2, er ▸ hat, k _ _ (List.getElem_mem hlt) hS' ks⟩
end
end Q

namespace Q
open PySem PySem.Spec PyProof.Rows L2

abbrev sBadI : Stmt := inClass (topS 2) 0
theorem scBadI : FnScope ["self", "what", "count"] ["self", "what", "count"] (defScope sBadI) := ⟨rfl, rfl, rfl, by decide +kernel, rfl, by decide +kernel, by decide +kernel⟩
section
variable {P : Program} {w : World} {K : PySem.W.Frag} {mg : Str → Option Value} {base : Heap}
theorem ok_badI {f CB : Addr} {fd : FuncData} (F : Fun K "__init__" "BadCount.__init__" sBadI f fd) (T : OexC K CB) (n1 : PySem.W.findIn K (.ref CB) "what" = some none) (n2 : PySem.W.findIn K (.ref CB) "count" = some none) :
    FnOk P w K mg base CX0 1 f fd ["self", "what", "count"] (spInit2 CB "what" "count") := by
  refine F.ok scBadI (fun vs H Q E h => ?_) (fun cdv A outer s H vs Q E hr h => ?_)
  · obtain ⟨a, v1, v2, rfl, _⟩ := h
    rfl
  · obtain ⟨a, v1, v2, rfl, ha, k⟩ := h
    refine ⟨_, (pss_cons (ps_ost (pv 0) (pv 1))
    (pss_one (ps_ost (pv 0) (pv 2)))), ?_⟩
    refine ⟨_, rfl, _, rfl, a, CB, rfl, T, n1, .inl ⟨ha, fun d hd ne => ?_⟩⟩
    refine ⟨_, rfl, _, rfl, a, CB, rfl, T, n2, .inr ⟨d, [("what", v1)], upd_same, by rw [upd_ne ne, upd_same], by show 1 ≤ 900; decide, ?_⟩⟩
    exact k d hd ne
end

abbrev sChk : Stmt := topS 9
theorem scChk : FnScope ["sizes", "size"] ["sizes"] (defScope sChk) := ⟨rfl, rfl, rfl, by decide +kernel, rfl, by decide +kernel, by decide +kernel⟩
structure TChk (mg : Str → Option Value) : Prop where
  b_len : mg "len" = none
  g_MOST_LINES : ∃ t, mg "MOST_LINES" = some (.int 6 t)
  g_MOST_WORDS : ∃ t, mg "MOST_WORDS" = some (.int 4 t)
section
variable {P : Program} {w : World} {K : PySem.W.Frag} {mg : Str → Option Value} {base : Heap}
theorem ok_chk {f CB : Addr} {fd : FuncData} (F : Fun K "check_sizes" "check_sizes" sChk f fd) (T0 : TChk mg) (EB : Err P w K mg base "BadCount" CB 1 ["self", "what", "count"] (spInit2 CB "what" "count")) :
    FnOk P w K mg base (L2.CX P w) 3 f fd ["sizes"] (spChkSizes K CB) := by
  obtain ⟨tl, hl⟩ := T0.g_MOST_LINES
  obtain ⟨tw, hw⟩ := T0.g_MOST_WORDS
  refine F.okX scChk (fun vs H Q E h => ?_) (fun cdv A outer s H vs Q E hr h => ?_)
  · obtain ⟨b, a, ns, rfl, _⟩ := h
    rfl
  · obtain ⟨b, a, ns, rfl, hS, kE, kQ⟩ := h
    refine ⟨_, (pss_cons (ps_if (pt_not (pt_chain op_le op_le pe_int (pe_callB call_len_seq (by rfl) T0.b_len (by decide +kernel) (pa_cons (pv 0) pa_nil)) (pe_glob (v := V.int 6) rfl hl ⟨_, rfl⟩))) (pss_one (ps_raise rfl (takes_of rfl rfl rfl rfl) (pmk_err EB (hr.mono (by decide)) (by rfl) (pa_cons pe_str (pa_cons (pe_callB call_len_seq (by rfl) T0.b_len (by decide +kernel) (pa_cons (pv 0) pa_nil)) pa_nil))))) pss_nil)
    (pss_one (ps_for (passes_of rfl) rfl (pi_sq b (pv 0)) (pg_name (i := 1) scChk.nd rfl (Or.inl rfl)) (pss_one (ps_if (pt_not (pt_chain op_le op_le pe_int (pv 1) (pe_glob (v := V.int 4) rfl hw ⟨_, rfl⟩))) (pss_one (ps_raise rfl (takes_of rfl rfl rfl rfl) (pmk_err EB (hr.mono (by decide)) (by rfl) (pa_cons pe_str (pa_cons (pv 1) pa_nil))))) pss_nil))))), ?_⟩
    have vl : ((ns.map V.int).length : Int) = (ns.length : Int) := by rw [List.length_map]
    refine st_seq (s_if (ans_not (a_lele val_c (v_len (val_var rfl) hS) val_c)) (fun hb => ?_) (fun hb => ?_))
    · rw [vl] at hb
      have hn : ¬ (1 ≤ (ns.length : Int) ∧ (ns.length : Int) ≤ 6) := nd_t hb
      refine ⟨_, rfl, a, _, rfl, hS.or, by show 2 ≤ 1000; decide, mk2 fun d hd => ?_⟩
      rw [vl]
      exact kE _ _ (if_neg hn) d hd
    · rw [vl] at hb
      have hn : 1 ≤ (ns.length : Int) ∧ (ns.length : Int) ≤ 6 := nd_f hb
      have eb : badSizes ns = (ns.find? fun n => !decide (1 ≤ n ∧ n ≤ 4)).map fun n => (("words" : Str), n) := if_pos hn
      refine sq_for (xs := ns.map V.int) (fun i σ H' => H' = H ∧ (∃ v : Option V, σ = [some (.ref a), v]) ∧ ∀ j m, j < i → ns[j]? = some m → (!decide (1 ≤ m ∧ m ≤ 4)) = false)
        (fun R q => ⟨_, rfl, q⟩) hS ⟨rfl, ⟨none, rfl⟩, fun j m hj => absurd hj (Nat.not_lt_zero j)⟩ (fun i σ H' _ ⟨e, _⟩ => by rw [e]; exact hS) ?_ ?_
      · rintro i x σ H' hi ⟨rfl, ⟨v, rfl⟩, hg⟩
        obtain ⟨n, hn2, rfl⟩ := map_at hi
        refine g_name ?_
        refine s_if (ans_not (a_lele val_c (val_var (v := .int n) (i := 1) rfl) val_c)) (fun hb2 => ?_) (fun hb2 => ?_)
        · refine ⟨_, rfl, by show 2 ≤ 1000; decide, mk2 fun d hd => kE _ _ ?_ d hd⟩
          rw [eb, find_at hn2 hb2 hg]
          rfl
        · refine ⟨rfl, ⟨_, rfl⟩, fun j m hj hm => ?_⟩
          rcases Nat.lt_succ_iff_lt_or_eq.mp hj with h1 | h1
          · exact hg j m h1 hm
          · rw [h1, hn2] at hm
            cases hm
            exact hb2
      · rintro σ H' ⟨rfl, _, hg⟩
        refine kQ ?_
        rw [eb, find_none_take (fun n hn3 => ?_)]
        · rfl
        · obtain ⟨j, hj, e⟩ := List.getElem_of_mem hn3
          exact hg j n (by rw [List.length_map]; exact hj) (by rw [← e]; simp [hj])
end

abbrev sMemI : Stmt := inClass (topS 8) 0
theorem scMemI : FnScope ["self", "sizes"] ["self", "sizes"] (defScope sMemI) := ⟨rfl, rfl, rfl, by decide +kernel, rfl, by decide +kernel, by decide +kernel⟩
structure TMem (K : PySem.W.Frag) (mg : Str → Option Value) (CM : Addr) : Prop where
  b_tuple : mg "tuple" = none
  cl : Cls K CM
  nS : NoAttr K CM "sizes"
section
variable {P : Program} {w : World} {K : PySem.W.Frag} {mg : Str → Option Value} {base : Heap}
theorem ok_memI {f CB CM : Addr} {fd : FuncData} (F : Fun K "__init__" "Memory.__init__" sMemI f fd) (T : TMem K mg CM) (FC : Cal P w K mg base (L2.CX P w) "check_sizes" 3 ["sizes"] (spChkSizes K CB)) :
    FnOk P w K mg base (L2.CX P w) 4 f fd ["self", "sizes"] (spMemInit K CB CM) := by
  refine F.okX scMemI (fun vs H Q E h => ?_) (fun cdv A outer s H vs Q E hr h => ?_)
  · obtain ⟨b, m, dx, a, ns, rfl, _⟩ := h
    rfl
  · obtain ⟨b, m, dx, a, ns, rfl, hm, hS, nam, kE, kQ⟩ := h
    refine ⟨_, (pss_cons (ps_expr (pe_cal FC (hr.mono (by decide)) (by rfl) (passes_call (takes_of rfl rfl rfl rfl) (fun _ _ _ _ h => h)) (pa_cons (pv 1) pa_nil)))
    (pss_one (ps_fld (pv 0) (pe_callTy call_tuple_of (by rfl) T.b_tuple (by decide +kernel) (pa_cons (pv 1) pa_nil)) rfl))), ?_⟩
    refine ⟨_, rfl, b, a, ns, rfl, hS, kE, fun hb => ?_⟩
    obtain ⟨k1, k2⟩ := kQ hb
    cases b with
    | true =>
      refine ⟨_, rfl, a, _, rfl, .inl ⟨hS, fun t ht => ?_⟩⟩
      have nmt : m ≠ t := ne_of_none hm ht
      exact ⟨_, rfl, m, CM, dx, [], rfl, by rw [upd_ne nmt]; exact hm, T.cl, T.nS, by show 0 < 1000; decide, k1 rfl t ht⟩
    | false =>
      refine ⟨_, rfl, a, _, rfl, .inr ⟨hS, ?_⟩⟩
      exact ⟨_, rfl, m, CM, dx, [], rfl, hm, T.cl, T.nS, by show 0 < 1000; decide, k2 rfl⟩
end
end Q

namespace Q
open PySem PySem.Spec PyProof.Rows L2 LamX

abbrev sOut : Stmt := topS 14
theorem scOut : FnScope ["_law_call", "e"] ["_law_call"] (defScope sOut) := ⟨rfl, rfl, rfl, by decide +kernel, rfl, by decide +kernel, by decide +kernel⟩
structure TOutc (K : PySem.W.Frag) (mg : Str → Option Value) (CB CL CW CS : Addr) : Prop where
  xf : XfC K CB
  nW : PySem.W.findIn K (.ref CB) "what" = some none
  nC : PySem.W.findIn K (.ref CB) "count" = some none
  gB : mg "BadCount" = some (.ref CB)
  gL : mg "NoLine" = some (.ref CL)
  gW : mg "NoWord" = some (.ref CW)
  gS : mg "StoreError" = some (.ref CS)
  eB : PySem.W.exmOne K (.ref CB) (.ref CB) = some true
theorem gives_out {X : Cx} {g : Addr} {cdg : Value} {q : Str} {CB CL CW CS : Addr} (T : TOutc X.K X.mg CB CL CW CS) : Gives X ["_law_call", "e"] "_law_outcome" (defScope sOut) g cdg (defBody sOut) "_law_call" q (TOut CB) := by
  intro f c' s H R tl act hc h
  refine ⟨_, pss_one (ps_try_cl (Wout := fun _ _ _ _ => False) rfl rfl scOut.nd L2.takes0
    (fun W pn xe tk _ => pss_one (ps_ret (pe_tup (pa_cons pe_str (pa_cons (act W pn xe _ _ tk) pa_nil)))))
    (.named (i := 1) (c := .ref CB) rfl rfl ⟨rfl, rfl, .inl T.gB⟩ (fun a oe cls d pn hz hf => pss_one (ps_ret (pe_tup (pa_cons pe_str (pa_cons (pe_xf T.xf T.nW hz hf (pv 1)) (pa_cons (pe_xf T.xf T.nC hz hf (pv 1)) pa_nil))))))
    (.named (i := 1) (c := .ref CL) rfl rfl ⟨rfl, rfl, .inl T.gL⟩ (fun a oe cls d pn hz hf => pss_one ps_never)
    (.named (i := 1) (c := .ref CW) rfl rfl ⟨rfl, rfl, .inl T.gW⟩ (fun a oe cls d pn hz hf => pss_one ps_never)
    (.named (i := 1) (c := .ref CS) rfl rfl ⟨rfl, rfl, .inl T.gS⟩ (fun a oe cls d pn hz hf => pss_one ps_never) .nil))))), ?_⟩
  refine ⟨rfl, hc, h _ _ (fun d w n H' hd kR => ?_) (fun v H1 kR => ⟨by show 2 ≤ sizeLine; decide, kR⟩)⟩
  refine ⟨true, T.eB, fun _ a ha => ?_, fun z => by cases z⟩
  refine ⟨_, rfl, rfl, rfl, d, _, w, rfl, hd, rfl, _, rfl, rfl, rfl, d, _, n, rfl, hd, rfl, (by show 3 ≤ sizeLine; decide), kR⟩
end Q

namespace Q
open PySem PySem.Spec PyProof.Rows L2 LamX

abbrev sRight : Stmt := topS 15
abbrev nRight : List Str := ["_law_source_here", "_law_k", "_law_many", "_law_sizes_so", "_law_at", "_law_bad", "_law_size", "_law_due", "_law_handed"]
theorem scRight : FnScope nRight ["_law_source_here"] (defScope sRight) := ⟨rfl, rfl, rfl, by decide +kernel, rfl, by decide +kernel, by decide +kernel⟩
def tabs (Pt : Addr) : List (Addr × Str) := [(Pt, (("_law_right" : Str) ++ ".<locals>.") ++ "<lambda>")]
structure TRight (mg : Str → Option Value) : Prop where
  b_range : mg "range" = none
  b_tuple : mg "tuple" = none
  b_list : mg "list" = none
def spRight (Pt : Addr) : Sp := fun vs H Q _ => ∃ S : Addr, vs = [.ref S] ∧ HasSrc S H ∧ Tabs (tabs Pt) H ∧ ∀ H', Now (tabs Pt) S H H' → Q (.bl true) H'
def hoOf (b : Bool) (xs : List V) : HO := match b with
  | true => .lst xs
  | false => .tup xs
theorem hoOf_tbl (b : Bool) (xs : List V) : ∀ ps, hoOf b xs ≠ .tbl ps := fun ps z => by cases b <;> cases z
theorem sq_hoOf {b : Bool} {K : PySem.W.Frag} {H : Hp} {a : Addr} {xs : List V} (h : H a = some (hoOf b xs)) : Sq b K H a xs := by
  cases b with
  | true => exact SqL.of h
  | false => exact SqT.of h
def bad (n : Int) : Bool := !decide (1 ≤ n ∧ n ≤ 4)
section
variable (K : PySem.W.Frag) (Pt S : Addr) (H0 : Hp)
def m0 : L2.St → Hp → Prop := fun σ H => (∃ v1 v2 v3 v4 v5 v7 v8 : Option V, σ = [some (.ref S), v1, v2, v3, v4, v5, none, v7, v8]) ∧ Now (tabs Pt) S H0 H
def m1 : L2.St → Hp → Prop := fun σ H => ∃ (m : Int), (∃ v1 v3 v4 v5 v7 v8 : Option V, σ = [some (.ref S), v1, some (.int m), v3, v4, v5, none, v7, v8]) ∧ (0 ≤ m ∧ m ≤ 20) ∧ Now (tabs Pt) S H0 H
def m2 : L2.St → Hp → Prop := fun σ H => ∃ (m : Int) (Dl : Addr) (ns : List Int), (∃ v1 v4 v5 v7 v8 : Option V, σ = [some (.ref S), v1, some (.int m), some (.ref Dl), v4, v5, none, v7, v8]) ∧ ((ns.length : Int) = m ∧ m ≤ 20) ∧
  H Dl = some (.lst (ns.map V.int)) ∧ Dl ≠ S ∧ NoO H0 Dl ∧ Now (tabs Pt) S H0 H
def m4 : L2.St → Hp → Prop := fun σ H => ∃ (m : Int) (Dl Bl : Addr) (ns : List Int), (∃ v1 v4 v7 v8 : Option V, σ = [some (.ref S), v1, some (.int m), some (.ref Dl), v4, some (.ref Bl), none, v7, v8]) ∧ ((ns.length : Int) = m ∧ m ≤ 20) ∧
  H Dl = some (.lst (ns.map V.int)) ∧ H Bl = some (.lst ((ns.filter bad).map V.int)) ∧ Now (tabs Pt) S H0 H
def m5 : L2.St → Hp → Prop := fun σ H => ∃ (m : Int) (Dl Bl du : Addr) (ns : List Int), (∃ v1 v4 v8 : Option V, σ = [some (.ref S), v1, some (.int m), some (.ref Dl), v4, some (.ref Bl), none, some (.ref du), v8]) ∧ ((ns.length : Int) = m ∧ m ≤ 20) ∧
  H Dl = some (.lst (ns.map V.int)) ∧ H Bl = some (.lst ((ns.filter bad).map V.int)) ∧ Dp K H (.ref du) (.tuple [.str "ok", .tuple (ns.map PyData.int)]) ∧ Now (tabs Pt) S H0 H
def m6 : L2.St → Hp → Prop := fun σ H => ∃ (m : Int) (Dl Bl du : Addr) (ns : List Int), (∃ v1 v4 v8 : Option V, σ = [some (.ref S), v1, some (.int m), some (.ref Dl), v4, some (.ref Bl), none, some (.ref du), v8]) ∧ ns.length ≤ 20 ∧
  H Dl = some (.lst (ns.map V.int)) ∧ Dp K H (.ref du) (dueOf ns) ∧ Now (tabs Pt) S H0 H
end
theorem int_of_mem {ns : List Int} {x : V} (h : x ∈ ns.map V.int) : ∃ n, x = .int n := by
  obtain ⟨n, _, e⟩ := List.mem_map.mp h
  exact ⟨n, e.symm⟩
theorem take_filter_more {ns : List Int} {i : Nat} {n : Int} {p : Int → Bool} (h : ns[i]? = some n) : (ns.take (i + 1)).filter p = (ns.take i).filter p ++ (if p n = true then [n] else []) := by
  rw [List.take_add_one, h, List.filter_append]
  congr 1
  by_cases q : p n = true
  · rw [if_pos q]
    simp [q]
  · rw [if_neg q]
    simp [q]
theorem filter_head {ns : List Int} {p : Int → Bool} {n : Int} {r : List Int} (h : ns.filter p = n :: r) : ns.find? p = some n := by
  rw [← List.head?_filter, h]
  rfl
theorem filter_none {ns : List Int} {p : Int → Bool} (h : ns.filter p = []) : ns.find? p = none := by
  rw [← List.head?_filter, h]
  rfl
section
variable {P : Program} {w : World} {K : PySem.W.Frag} {mg : Str → Option Value} {base : Heap}
theorem ok_right {f c Pt CB CL CW CS CM gOa : Addr} {oc kV doc pm ct : Value} {od an : Option Addr} {osl : Array (Option Value)} {fdO : FuncData}
    (lk : K.lookup f = some ⟨oc, od, .func (PySem.W.fnOf "_law_right" "_law_right" (defArgs sRight) (defBody sRight) (defScope sRight) .none kV doc pm an (.ref c) ct), osl⟩) (hcd : PySem.W.codeIn K (.ref c) "_law_right" = true)
    (TB : TabB base mg c Pt) (T : TRight mg) (FD : Cal P w K mg base CX0 "_law_draw" 1 ["_law_source_here", "_law_many"] spDraw) (FP : Cal P w K mg base CX0 "_law_pick" 2 ["_law_source_here", "_law_items"] (spPick K))
    (FO : Fun K "_law_outcome" "_law_outcome" sOut gOa fdO) (gO : mg "_law_outcome" = some (.ref gOa)) (bO : Binds K fdO ["_law_call"] []) (TO : TOutc K mg CB CL CW CS)
    (FM : Mak P w K mg base (L2.CX P w) "Memory" CM 4 ["self", "sizes"] (spMemInit K CB CM)) (TM : TMem K mg CM) :
    FnOk P w K mg base CX0 8 f (PySem.W.fnOf "_law_right" "_law_right" (defArgs sRight) (defBody sRight) (defScope sRight) .none kV doc pm an (.ref c) ct) ["_law_source_here"] (spRight Pt) := by
  obtain ⟨ocO, odO, kVO, docO, pmO, anO, cdvO, ctO, oslO, rfl, lkO, hcO⟩ := FO.ex
  refine fn_of lk hcd scRight (fun vs H Q E h => ?_) (fun A outer s H0 vs Q E hr h => ?_)
  · obtain ⟨S, rfl, _⟩ := h
    rfl
  · obtain ⟨S, rfl, hs0, tb0, k⟩ := h
    refine (fun (x : ∃ t, PSs (cxOf CX0 P w K mg base nRight "_law_right" (defScope sRight) f (.ref c) A outer s H0 E).nox (defBody sRight) t ∧ t { nx := fun _ H' => Q .non H', rt := Q } (start nRight [.ref S]) H0) => by
      obtain ⟨t, a, b⟩ := x
      exact ⟨t, a.nox, b⟩) ?_
    refine ⟨_, (Evl.pss_cut (ps_for PassesOwn.never rfl (pi_range1 (by rfl) T.b_range (pa_cons pe_int pa_nil)) (pg_name (i := 1) scRight.nd rfl (Or.inl rfl)) (Evl.pss_cut (ps_set (i := 2) scRight.nd rfl (Or.inl rfl) (pe_cal FP (hr.mono (by decide)) (by rfl) pass0 (pa_cons (pv 0) (pa_cons (pe_lst (pa_cons pe_int (pa_cons pe_int (pa_cons pe_int (pa_cons pe_int (pa_cons pe_int (pa_cons pe_int (pa_cons pe_int (pa_cons pe_int pa_nil))))))))) pa_nil))))
    (Evl.pss_cut (ps_setLc (i := 3) (own := [("_law_at", 4)]) (g := gName 4) (tt := tYes) (by rfl) scRight.nd rfl rfl (sw_true rfl rfl rfl (by decide +kernel)) (pi_range1 (by rfl) T.b_range (pa_cons (pv 2) pa_nil)) (blkOk_by (own := [("_law_at", 4)]) (N := nRight) (sc := defScope sRight) (by decide +kernel)) (fun _ _ _ _ _ => (pg_name (i := 4) scRight.nd rfl (Or.inl rfl))) (fun _ _ _ _ _ => pts_nil) (fun _ _ _ _ _ => (pe_op op_add pe_int (pe_cal FD (hr.mono (by decide)) (by rfl) pass0 (pa_cons (pv 0) (pa_cons pe_int pa_nil))))))
    (Evl.pss_cut (ps_for PassesOwn.never rfl (pi_range1 (by rfl) T.b_range (pa_cons (pv 2) pa_nil)) (pg_name (i := 4) scRight.nd rfl (Or.inl rfl)) (pss_one (ps_if (pt_cmpR op_eq (pe_cal FD (hr.mono (by decide)) (by rfl) pass0 (pa_cons (pv 0) (pa_cons pe_int pa_nil))) pe_int (nomark _)) (pss_one (ps_asg (pe_cal FP (hr.mono (by decide)) (by rfl) pass0 (pa_cons (pv 0) (pa_cons (pe_lst (pa_cons pe_int (pa_cons pe_int (pa_cons (pe_un un_neg pe_int) (pa_cons pe_int (pa_cons (pe_op op_pow pe_int pe_int) (pa_cons (pe_op op_sub pe_int (pe_op op_pow pe_int pe_int)) pa_nil))))))) pa_nil))) (pg_sub (pv 3) (pv 4) set_list))) pss_nil)))
    (Evl.pss_cut (ps_setLc (i := 5) (own := [("_law_size", 6)]) (g := gName 6) (by rfl) scRight.nd rfl rfl (sw_true rfl rfl rfl (by decide +kernel)) (pi_list (pv 3)) (blkOk_by (own := [("_law_size", 6)]) (N := nRight) (sc := defScope sRight) (by decide +kernel)) (fun _ _ _ _ _ => (pg_name (i := 6) scRight.nd rfl (Or.inl rfl))) (fun _ _ _ _ _ => (pts_one (pt_not (pt_chain op_le op_le pe_int (pv 6) pe_int)))) (fun _ _ _ _ _ => (pv 6)))
    (Evl.pss_cut (ps_set (i := 7) scRight.nd rfl (Or.inl rfl) (pe_tup (pa_cons pe_str (pa_cons (pe_callTy call_tuple_of (by rfl) T.b_tuple (by decide +kernel) (pa_cons (pv 3) pa_nil)) pa_nil))))
    (Evl.pss_cut (ps_if (pt_not (pt_chain op_le op_le pe_int (pv 2) pe_int)) (pss_one (ps_set (i := 7) scRight.nd rfl (Or.inl rfl) (pe_tup (pa_cons pe_str (pa_cons pe_str (pa_cons (pv 2) pa_nil)))))) (pss_one (ps_if (pt_cmpR (op_neD hr.units) (pv 5) (pe_lst pa_nil) (nomark _)) (pss_one (ps_set (i := 7) scRight.nd rfl (Or.inl rfl) (pe_tup (pa_cons pe_str (pa_cons pe_str (pa_cons (pe_ix ix_list (pv 5) pe_int (fun _ _ => rfl)) pa_nil)))))) pss_nil)))
    (pss_one (ps_for PassesOwn.never rfl (pi_list (pe_lst (pa_cons (pe_callTy call_list_of (by rfl) T.b_list (by decide +kernel) (pa_cons (pv 3) pa_nil)) (pa_cons (pe_callTy call_tuple_of (by rfl) T.b_tuple (by decide +kernel) (pa_cons (pv 3) pa_nil)) pa_nil)))) (pg_name (i := 8) scRight.nd rfl (Or.inr rfl)) (pss_one (ps_if (pt_cmpR (op_neD hr.units) (pe_lamS (T := tabs Pt) rfl gO FO.kp lkO hcO bO scOut rfl (Or.inl rfl) (gives_out TO) TB rfl (List.mem_singleton.mpr rfl) (fun p hp _ => by rw [List.mem_singleton.mp hp]; rfl) (k := 5) (hr.mono (by decide)) (lamS_by (sc := defScope sRight) (by decide +kernel)) rfl (fun _ _ _ _ _ => rfl)
      (t := fun E => tFld K (tMake CM (spMemInit K CB CM) [] E (tCons (tVar 8) tNil)) "sizes")
      (fun E A outer s H f c' hr2 => pe_fld (pe_mak FM hr2 (by rfl) (passes_call (takes_of rfl rfl rfl rfl) (fun _ _ _ _ h => h)) (pa_cons (pv 8) pa_nil)) rfl)) (pv 7) (nomark _)) (pss_one (ps_ret pe_bl)) pss_nil)))))))))))
    (pss_one (ps_ret pe_bl))), ?_⟩
    have n0 : Now (tabs Pt) S H0 H0 := ⟨Kp.refl S H0, hs0, tb0⟩
    refine ⟨m0 Pt S H0, ⟨6, rfl, by decide, by decide, for_range (lo := 0) (n := 6) (fun _ σ H => m0 Pt S H0 σ H) ⟨⟨_, _, _, _, _, _, _, rfl⟩, n0⟩ ?_ (fun σ H h => h)⟩, ?_⟩
    · rintro i σ H _ ⟨⟨v1, v2, v3, v4, v5, v7, v8, rfl⟩, n⟩
      refine g_name ?_
      -- _law_many
      refine ⟨m1 Pt S H0, ?_, ?_⟩
      · refine ⟨_, rfl, (by show 8 ≤ sizeLine; decide), fun p hp => ?_⟩
        refine ⟨S, p, _, rfl, src_new n.hs hp, upd_same, n.noS hp, by decide, by decide, fun x H' hx hs' ks => ?_⟩
        obtain ⟨m, rfl, hm⟩ : ∃ m, x = .int m ∧ 0 ≤ m ∧ m ≤ 20 := by
          simp only [List.mem_cons, List.not_mem_nil, or_false] at hx
          rcases hx with rfl | rfl | rfl | rfl | rfl | rfl | rfl | rfl <;> exact ⟨_, rfl, by decide, by decide⟩
        exact g_name ⟨m, ⟨_, _, _, _, _, _, rfl⟩, hm, (n.new hp).ks ks hs'⟩
      clear n
      rintro σ H ⟨m, ⟨v1, v3, v4, v5, v7, v8, rfl⟩, hm, n⟩
      -- _law_sizes_so
      refine ⟨m2 Pt S H0, ?_, ?_⟩
      · refine ⟨_, rfl, m, rfl, by omega, by omega, fun Dl hD => ?_⟩
        refine lc_range (lo := 0) (n := m.toNat) (fun i H' => ∃ ns : List Int, ns.length = i ∧ H' Dl = some (.lst (ns.map V.int)) ∧ Now (tabs Pt) S H0 H') ⟨[], rfl, upd_same, n.new hD⟩ ?_ ?_
        · rintro i H1 hi ⟨ns, hl, hDl, n1⟩
          refine ⟨rfl, lc_yes ?_⟩
          refine ⟨_, rfl, S, 4, rfl, n1.hs, by decide, by decide, fun r H2 r0 r1 hs2 ks => ?_⟩
          have hD2 : H2 Dl = some (.lst (ns.map V.int)) := ks _ _ hDl (n.noS hD)
          refine ⟨_, _, rfl, rfl, _, hD2, small1000 (by rw [List.length_map]; omega), ns ++ [1 + r], by rw [List.length_append, hl]; rfl, by rw [List.map_append]; exact upd_same, ?_⟩
          exact (n1.ks ks hs2).mut hD2 (n.fresh hD) (n.noS hD)
        · rintro H1 ⟨ns, hl, hDl, n1⟩
          exact g_name ⟨m, Dl, ns, ⟨_, _, _, _, _, rfl⟩, ⟨by omega, by omega⟩, hDl, n.noS hD, n.fresh hD, n1⟩
      clear n hm
      rintro σ H ⟨m, Dl, ns, ⟨v1, v4, v5, v7, v8, rfl⟩, hm, hD, nDS, nD0, n⟩
      -- some sizes are bent
      refine ⟨m2 Pt S H0, ?_, ?_⟩
      · refine ⟨_, rfl, m, rfl, by omega, by omega, for_range (lo := 0) (n := m.toNat) (fun _ σ H => ∃ (ns : List Int), (∃ v4 : Option V, σ = [some (.ref S), v1, some (.int m), some (.ref Dl), v4, v5, none, v7, v8]) ∧ ((ns.length : Int) = m ∧ m ≤ 20) ∧
          H Dl = some (.lst (ns.map V.int)) ∧ Now (tabs Pt) S H0 H) ⟨ns, ⟨_, rfl⟩, hm, hD, n⟩ ?_ ?_⟩
        · clear hD n hm ns v4
          rintro i σ H hi ⟨ns, ⟨v4, rfl⟩, hm, hD, n⟩
          refine g_name ?_
          refine ⟨_, rfl, S, 4, rfl, n.hs, by decide, by decide, fun r H1 r0 r1 hs1 ks => ?_⟩
          have hD1 : H1 Dl = some (.lst (ns.map V.int)) := ks _ _ hD nDS
          have n1 := n.ks ks hs1
          refine ⟨rfl, _, rfl, ?_⟩
          refine ite2 (fun _ => ?_) (fun _ => ?_)
          · refine ⟨_, rfl, _, rfl, _, _, rfl, rfl, ⟨by decide, by decide, by decide⟩, _, _, rfl, rfl, ⟨by decide, by decide, by decide⟩, _, _, rfl, rfl, (by show 6 ≤ sizeLine; decide), fun p hp => ?_⟩
            refine ⟨S, p, _, rfl, src_new n1.hs hp, upd_same, n1.noS hp, by decide, by decide, fun x H2 hx hs2 ks2 => ?_⟩
            obtain ⟨z, rfl⟩ : ∃ z, x = .int z := by
              simp only [List.mem_cons, List.not_mem_nil, or_false] at hx
              rcases hx with rfl | rfl | rfl | rfl | rfl | rfl <;> exact ⟨_, rfl⟩
            have n2 := (n1.new hp).ks ks2 hs2
            have hD2 : H2 Dl = some (.lst (ns.map V.int)) := ks2 _ _ (by rw [upd_ne (ne_of_none hD1 hp)]; exact hD1) nDS
            have hix : ixN (ns.map V.int).length ((0 : Int) + (i : Nat)) = some i := by
              rw [Int.zero_add]
              exact Evl.ixN_nat (by rw [List.length_map]; omega)
            refine ⟨_, rfl, _, rfl, Dl, _, _, i, rfl, rfl, hD2, hix, ns.set i z, ⟨_, rfl⟩, ⟨by rw [List.length_set]; exact hm.1, hm.2⟩, by rw [List.map_set]; exact upd_same, n2.mut hD2 nD0 nDS⟩
          · exact ⟨ns, ⟨_, rfl⟩, hm, hD1, n1⟩
        · rintro σ H ⟨ns, ⟨v4, rfl⟩, hm, hD, n⟩
          exact ⟨m, Dl, ns, ⟨_, _, _, _, _, rfl⟩, hm, hD, nDS, nD0, n⟩
      clear hD nDS nD0 n hm
      rintro σ H ⟨m, Dl, ns, ⟨v1, v4, v5, v7, v8, rfl⟩, hm, hD, nDS, nD0, n⟩
      -- _law_bad
      refine ⟨m4 Pt S H0, ?_, ?_⟩
      · refine ⟨_, rfl, Dl, rfl, ⟨_, SqL.of hD⟩, fun Bl hB => ?_⟩
        have nDB : Dl ≠ Bl := ne_of_none hD hB
        refine lc_list (K := K) (a := Dl) (xs := ns.map V.int) (fun i H' => H' Bl = some (.lst (((ns.take i).filter bad).map V.int)) ∧ H' Dl = some (.lst (ns.map V.int)) ∧ Now (tabs Pt) S H0 H') ⟨upd_same, by rw [upd_ne nDB]; exact hD, n.new hB⟩ (fun i H' _ h => SqL.of h.2.1) ?_ ?_
        · rintro i x H1 hi ⟨hB1, hD1, n1⟩
          obtain ⟨z, hz, rfl⟩ := map_at hi
          have hil : i < ns.length := (List.getElem?_eq_some_iff.mp hz).1
          refine g_name ⟨rfl, ?_⟩
          refine ans_not (a_lele val_c (val_var (v := .int z) rfl) val_c) _ ?_
          by_cases hb : bad z = true
          · have hb' : (!decide (1 ≤ z ∧ z ≤ 4)) = true := hb
            rw [hb']
            refine iteT ⟨_, rfl, _, hB1, small1000 ?_, ?_, ?_, ?_⟩
            · rw [List.length_map]
              have q := List.length_filter_le bad (ns.take i)
              have q2 := List.length_take_le i ns
              omega
            · rw [take_filter_more hz, if_pos hb, List.map_append]
              exact upd_same
            · rw [upd_ne nDB]
              exact hD1
            · exact n1.mut hB1 (n.fresh hB) (n.noS hB)
          · have hb' : (!decide (1 ≤ z ∧ z ≤ 4)) = false := by
              cases q : bad z with
              | true => exact absurd q hb
              | false => exact q
            rw [hb']
            refine iteF ⟨?_, hD1, n1⟩
            rw [take_filter_more hz, if_neg hb, List.append_nil]
            exact hB1
        · rintro H1 ⟨hB1, hD1, n1⟩
          rw [List.length_map, List.take_length] at hB1
          exact g_name ⟨m, Dl, Bl, ns, ⟨_, _, _, _, rfl⟩, hm, hD1, hB1, n1⟩
      clear hD nDS nD0 n hm
      rintro σ H ⟨m, Dl, Bl, ns, ⟨v1, v4, v7, v8, rfl⟩, hm, hD, hB, n⟩
      -- _law_due
      refine ⟨m5 K Pt S H0, ?_, ?_⟩
      · refine ⟨_, rfl, Dl, _, rfl, .inl ⟨SqL.of hD, fun t ht => ?_⟩⟩
        refine ⟨by show 2 ≤ sizeLine; decide, fun du hdu => g_name ?_⟩
        have nDt : Dl ≠ t := ne_of_none hD ht
        have nBt : Bl ≠ t := ne_of_none hB ht
        have hD1 : upd H t (.tup (ns.map V.int)) Dl = some (.lst (ns.map V.int)) := by rw [upd_ne nDt]; exact hD
        have hB1 : upd H t (.tup (ns.map V.int)) Bl = some (.lst ((ns.filter bad).map V.int)) := by rw [upd_ne nBt]; exact hB
        have htt : upd H t (.tup (ns.map V.int)) t = some (.tup (ns.map V.int)) := upd_same
        refine ⟨m, Dl, Bl, du, ns, ⟨_, _, _, rfl⟩, hm, by rw [upd_ne (ne_of_none hD1 hdu)]; exact hD1, by rw [upd_ne (ne_of_none hB1 hdu)]; exact hB1, ?_, (n.new ht).new hdu⟩
        refine .tup (SqT.of upd_same) (.cons (.str _) (.cons (.tup (SqT.of (xs := ns.map V.int) ?_) (dpAll_ints ns)) .nil))
        rw [upd_ne (ne_of_none htt hdu)]
        exact htt
      clear hD hB n hm
      rintro σ H ⟨m, Dl, Bl, du, ns, ⟨v1, v4, v8, rfl⟩, hm, hD, hB, hdu, n⟩
      -- the due answer, as the sizes are
      refine ⟨m6 K Pt S H0, ?_, ?_⟩
      · have hl20 : ns.length ≤ 20 := by omega
        refine s_if (ans_not (a_lele val_c (val_var (v := .int m) rfl) val_c)) (fun hb => ?_) (fun hb => ?_)
        · have hn : ¬ (1 ≤ m ∧ m ≤ 6) := nd_t hb
          refine ⟨_, rfl, by show 3 ≤ sizeLine; decide, fun q hq => g_name ?_⟩
          have eb : dueOf ns = .tuple [.str "count", .str "lines", .int m] := by
            unfold dueOf badSizes
            rw [hm.1, if_neg hn]
          refine ⟨m, Dl, Bl, q, ns, ⟨_, _, _, rfl⟩, hl20, by rw [upd_ne (ne_of_none hD hq)]; exact hD, ?_, n.new hq⟩
          rw [eb]
          exact .tup (SqT.of upd_same) (.cons (.str _) (.cons (.str _) (.cons (.int m) .nil)))
        · have hn : 1 ≤ m ∧ m ≤ 6 := nd_f hb
          have eb : badSizes ns = (ns.find? bad).map fun n => (("words" : Str), n) := by
            unfold badSizes
            rw [hm.1, if_pos hn]
            rfl
          refine ⟨_, rfl, Nat.zero_le _, fun e he => ?_⟩
          have hB1 : upd H e (.lst []) Bl = some (.lst ((ns.filter bad).map V.int)) := by rw [upd_ne (ne_of_none hB he)]; exact hB
          have hD1 : upd H e (.lst []) Dl = some (.lst (ns.map V.int)) := by rw [upd_ne (ne_of_none hD he)]; exact hD
          refine ⟨.list ((ns.filter bad).map PyData.int), .list [], .lst (SqL.of hB1) (dpAll_ints _), .lst (SqL.of upd_same) .nil, ?_, by decide +kernel, _, rfl, ?_⟩
          · unfold SeqAt.shaped
            have h1 : PyData.canLay0 (.list ((ns.filter bad).map PyData.int)) = true := lay_ints _
            have h2 : PyData.depth (.list ((ns.filter bad).map PyData.int)) ≤ 64 := by
              simp [PyData.depth, depth_ints]
            rw [h1, decide_eq_true h2]
            rfl
          cases hf : ns.filter bad with
          | nil =>
            refine iteF ?_
            have ed : dueOf ns = .tuple [.str "ok", .tuple (ns.map PyData.int)] := by
              unfold dueOf
              rw [eb, filter_none hf]
              rfl
            refine ⟨m, Dl, Bl, du, ns, ⟨_, _, _, rfl⟩, hl20, hD1, ?_, n.new he⟩
            rw [ed]
            exact dp_same (Same.new he) hdu
          | cons z r =>
            refine iteT ?_
            rw [hf] at hB1
            refine ⟨_, rfl, Bl, _, _, _, rfl, rfl, SqL.of hB1, at0, by show 3 ≤ sizeLine; decide, fun q hq => g_name ?_⟩
            have ed : dueOf ns = .tuple [.str "count", .str "words", .int z] := by
              unfold dueOf
              rw [eb, filter_head hf]
              rfl
            refine ⟨m, Dl, Bl, q, ns, ⟨_, _, _, rfl⟩, hl20, by rw [upd_ne (ne_of_none hD1 hq)]; exact hD1, ?_, (n.new he).new hq⟩
            rw [ed]
            exact .tup (SqT.of upd_same) (.cons (.str _) (.cons (.str _) (.cons (.int z) .nil)))
      clear hD hB hdu n hm
      rintro σ H ⟨m, Dl, Bl, du, ns, ⟨v1, v4, v8, rfl⟩, hl20, hD, hdu, n⟩
      -- both memories are told as they must be
      refine ⟨_, rfl, Dl, _, rfl, .inl (SqL.of hD), fun l hl => ?_⟩
      have hD1 : upd H l (.lst (ns.map V.int)) Dl = some (.lst (ns.map V.int)) := by rw [upd_ne (ne_of_none hD hl)]; exact hD
      refine ⟨_, rfl, Dl, _, rfl, .inl ⟨SqL.of hD1, fun t ht => ?_⟩⟩
      have n1 := (n.new (o := .lst (ns.map V.int)) hl).new (o := .tup (ns.map V.int)) ht
      have hl1 : upd (upd H l (.lst (ns.map V.int))) t (.tup (ns.map V.int)) l = some (.lst (ns.map V.int)) := by
        rw [upd_ne (ne_of_none (o := .lst (ns.map V.int)) upd_same ht), upd_same]
      have ht1 : upd (upd H l (.lst (ns.map V.int))) t (.tup (ns.map V.int)) t = some (.tup (ns.map V.int)) := upd_same
      have hdu1 := dp_same (Same.new (o := .tup (ns.map V.int)) ht) (dp_same (Same.new (o := .lst (ns.map V.int)) hl) hdu)
      refine ⟨by show 2 ≤ sizeLine; decide, fun pr hpr => ?_⟩
      have n2 := n1.new (o := .lst [.ref l, .ref t]) hpr
      have e2 : Same _ _ := Same.new (o := .lst [.ref l, .ref t]) hpr
      refine ⟨pr, rfl, ⟨_, SqL.of upd_same⟩, for_list (K := K) (a := pr) (xs := [.ref l, .ref t]) (fun _ σ H => (∃ v8 : Option V, σ = [some (.ref S), v1, some (.int m), some (.ref Dl), v4, some (.ref Bl), none, some (.ref du), v8]) ∧
        H pr = some (.lst [.ref l, .ref t]) ∧ H l = some (.lst (ns.map V.int)) ∧ H t = some (.tup (ns.map V.int)) ∧ Dp K H (.ref du) (dueOf ns) ∧ Now (tabs Pt) S H0 H)
        ⟨⟨_, rfl⟩, upd_same, e2 _ _ hl1, e2 _ _ ht1, dp_same e2 hdu1, n2⟩ (fun i σ H _ h => SqL.of h.2.1) ?_ ?_⟩
      · clear n n1 n2 e2 hdu hdu1 hl1 ht1 hD hD1 hl ht hpr v8
        rintro i x σ H hi ⟨⟨v8, rfl⟩, hpr, hl, ht, hdu, n⟩
        obtain ⟨b, a, rfl, ha⟩ : ∃ (b : Bool) (a : Addr), x = .ref a ∧ H a = some (hoOf b (ns.map V.int)) := by
          match i, hi with
          | 0, hi => exact ⟨true, l, (Option.some.inj hi).symm, hl⟩
          | 1, hi => exact ⟨false, t, (Option.some.inj hi).symm, ht⟩
          | i + 2, hi => cases hi
        refine g_name ?_
        refine ⟨n.tb, fun H1 eN T1 E' R' hE hR => ?_⟩
        have n1 := n.ext eN T1
        have hpr1 := eN _ _ hpr (fun ps z => by cases z)
        have hl1 := eN _ _ hl (fun ps z => by cases z)
        have ht1 := eN _ _ ht (fun ps z => by cases z)
        have hdu1 := dp_ext eN hdu
        have ha1 := eN _ _ ha (hoOf_tbl b _)
        refine ⟨_, rfl, fun y dx ny ndx ney => ?_⟩
        have nay : a ≠ y := ne_of_none ha1 ny
        have e0 : Same H1 (upd (upd H1 dx (.own y)) y (.ins CM dx [])) := Same.mut (Same.new ndx) ny
        refine ⟨b, y, dx, a, ns, rfl, upd_same, sq_hoOf (e0 _ _ ha1), nay, fun w n hb d hd => ?_, fun hb => ⟨fun bt q hq => ?_, fun bf => ?_⟩⟩
        · -- an error
          refine hE d (.str w) (.int n) _ upd_same fun p hp => ?_
          have ed : dueOf ns = .tuple [.str "count", .str w, .int n] := by
            unfold dueOf
            rw [hb]
          have e1 := Same.mut (e0.trans (Same.new (o := .xd [("count", .int n), ("what", .str w)]) hd)) (o := .tup [.str "count", .str w, .int n]) (Same.free (e0.trans (Same.new hd)) hp)
          refine ⟨_, rfl, dueOf ns, dueOf ns, ?_, dp_same e1 hdu1, due_shaped ns, due_shaped ns, _, rfl, ?_⟩
          · rw [ed]
            exact .tup (SqT.of upd_same) (.cons (.str _) (.cons (.str _) (.cons (.int n) .nil)))
          · rw [eqv_same (due_shaped ns)]
            exact iteF ⟨⟨_, rfl⟩, e1 _ _ hpr1, e1 _ _ hl1, e1 _ _ ht1, dp_same e1 hdu1, n1.same e1⟩
        · -- a new tuple
          have nqy : q ≠ y := fun z => by
            rw [z, upd_same] at hq
            cases hq
          have ed : dueOf ns = .tuple [.str "ok", .tuple (ns.map PyData.int)] := by
            unfold dueOf
            rw [hb]
          refine ⟨rfl, y, CM, dx, _, .ref q, rfl, upd_same, TM.cl, TM.nS, rfl, hR _ _ fun p hp => ?_⟩
          have e1 := Same.mut (e0.trans (Same.new (o := .tup (ns.map V.int)) hq)) (o := .ins CM dx [("sizes", .ref q)]) ny
          have hq1 : upd (upd (upd (upd H1 dx (.own y)) y (.ins CM dx [])) q (.tup (ns.map V.int))) y (.ins CM dx [("sizes", .ref q)]) q = some (.tup (ns.map V.int)) := by
            rw [upd_ne nqy, upd_same]
          have e3 := e1.trans (Same.new (o := .tup [.str "ok", .ref q]) hp)
          refine ⟨_, rfl, dueOf ns, dueOf ns, ?_, dp_same e3 hdu1, due_shaped ns, due_shaped ns, _, rfl, ?_⟩
          · rw [ed]
            exact .tup (SqT.of upd_same) (.cons (.str _) (.cons (.tup (SqT.of (Same.new hp _ _ hq1)) (dpAll_ints ns)) .nil))
          · rw [eqv_same (due_shaped ns)]
            exact iteF ⟨⟨_, rfl⟩, e3 _ _ hpr1, e3 _ _ hl1, e3 _ _ ht1, dp_same e3 hdu1, n1.same e3⟩
        · -- the tuple that was handed
          subst bf
          have ed : dueOf ns = .tuple [.str "ok", .tuple (ns.map PyData.int)] := by
            unfold dueOf
            rw [hb]
          refine ⟨rfl, y, CM, dx, _, .ref a, rfl, upd_same, TM.cl, TM.nS, rfl, hR _ _ fun p hp => ?_⟩
          have e1 := Same.mut e0 (o := .ins CM dx [("sizes", .ref a)]) ny
          have e3 := e1.trans (Same.new (o := .tup [.str "ok", .ref a]) hp)
          have ha3 := e3 _ _ ha1
          refine ⟨_, rfl, dueOf ns, dueOf ns, ?_, dp_same e3 hdu1, due_shaped ns, due_shaped ns, _, rfl, ?_⟩
          · rw [ed]
            exact .tup (SqT.of upd_same) (.cons (.str _) (.cons (.tup (SqT.of ha3) (dpAll_ints ns)) .nil))
          · rw [eqv_same (due_shaped ns)]
            exact iteF ⟨⟨_, rfl⟩, e3 _ _ hpr1, e3 _ _ hl1, e3 _ _ ht1, dp_same e3 hdu1, n1.same e3⟩
      · rintro σ H ⟨⟨v8, rfl⟩, _, _, _, _, n⟩
        exact ⟨⟨_, _, _, _, _, _, _, rfl⟩, n⟩
    · rintro σ H ⟨_, n⟩
      exact k H n
end
end Q

namespace Q
open PySem PySem.Spec PyProof.Rows L2 LamX

abbrev sLaw : Stmt := topS 16
theorem scLaw : FnScope ["_law_script", "_law_cell", "_law_source_here"] ["_law_script"] (defScope sLaw) := ⟨rfl, rfl, rfl, by decide +kernel, rfl, by decide +kernel, by decide +kernel⟩
def spLaw (K : PySem.W.Frag) (Pt : Addr) : Sp := fun vs H Q _ => ∃ (a : Addr) (ns : List Int), vs = [.ref a] ∧ SqL K H a (ns.map V.int) ∧ ns.length ≤ 63 ∧ Tabs (tabs Pt) H ∧ ∀ H', Q (.bl true) H'
section
variable {P : Program} {w : World} {K : PySem.W.Frag} {mg : Str → Option Value} {base : Heap}
theorem ok_law {f Pt : Addr} {fd : FuncData} (F : Fun K "law" "law" sLaw f fd) (FS : Cal P w K mg base CX0 "_law_source" 1 ["_law_cell"] spSource) (FR : Cal P w K mg base CX0 "_law_right" 8 ["_law_source_here"] (spRight Pt)) :
    FnOk P w K mg base CX0 9 f fd ["_law_script"] (spLaw K Pt) := by
  refine F.ok scLaw (fun vs H Q E h => ?_) (fun cdv A outer s H vs Q E hr h => ?_)
  · obtain ⟨a, ns, rfl, _⟩ := h
    rfl
  · obtain ⟨a, ns, rfl, hS, h63, tb, k⟩ := h
    refine ⟨_, (Evl.pss_cut (ps_for PassesOwn.never rfl (pi_list (pe_slice sl_list (pe_op op_catR (pv 0) (pe_lst (pa_cons pe_int pa_nil))) po_none (po_some pe_int))) (pg_name (i := 1) scLaw.nd rfl (Or.inl rfl)) (Evl.pss_cut (ps_set (i := 2) scLaw.nd rfl (Or.inl rfl) (pe_cal FS (hr.mono (by decide)) (by rfl) pass0 (pa_cons (pv 1) pa_nil)))
    (pss_one (ps_if (pt_not (pt_val (pe_cal FR (hr.mono (by decide)) (by rfl) pass0 (pa_cons (pv 2) pa_nil)))) (pss_one (ps_ret pe_bl)) pss_nil))))
    (pss_one (ps_ret pe_bl))), ?_⟩
    refine ⟨fun _ _ => True, ?_, fun _ H' _ => k H'⟩
    refine ⟨_, rfl, Nat.succ_le_of_lt (by decide), fun z hz => ?_⟩
    refine ⟨a, z, _, _, rfl, rfl, (Same.new hz).seq hS, SqL.of upd_same, ?_, fun p hp => ?_⟩
    · rw [List.length_map]
      show ns.length + 1 ≤ sizeLine
      exact Nat.le_of_lt (small1000 (by omega))
    refine ⟨6, rfl, p, _, rfl, SqL.of upd_same, fun q hq => ?_⟩
    refine ⟨q, rfl, ⟨_, SqL.of upd_same⟩, for_list (K := K) (a := q) (fun _ σ H => (∃ v1 v2 : Option V, σ = [some (.ref a), v1, v2]) ∧ H q = some (.lst (cutV (ns.map V.int ++ [V.int 0]) none (some 6))) ∧ Tabs (tabs Pt) H)
      ⟨⟨_, _, rfl⟩, upd_same, ((tb.ext (Same.new hz)).ext (Same.new hp)).ext (Same.new hq)⟩ (fun i σ H _ h => SqL.of h.2.1) ?_ (fun _ _ _ => trivial)⟩
    rintro i x σ H1 hi ⟨⟨v1, v2, rfl⟩, hq1, tb1⟩
    obtain ⟨n, rfl⟩ : ∃ n, x = .int n := by
      have hm : x ∈ ns.map V.int ++ [V.int 0] := List.mem_of_mem_drop (List.mem_of_mem_take (List.mem_of_getElem? hi))
      rcases List.mem_append.mp hm with h | h
      · exact int_of_mem h
      · exact ⟨0, List.mem_singleton.mp h⟩
    refine g_name ?_
    refine ⟨fun σ H => ∃ S, (∃ v1 : Option V, σ = [some (.ref a), v1, some (.ref S)]) ∧ S ≠ q ∧ H q = some (.lst (cutV (ns.map V.int ++ [V.int 0]) none (some 6))) ∧ HasSrc S H ∧ Tabs (tabs Pt) H, ?_, ?_⟩
    · refine ⟨_, rfl, n, rfl, fun S x y z hS1 => g_name ?_⟩
      have ne : q ≠ S := ne_of_none hq1 hS1
      exact ⟨S, ⟨_, rfl⟩, Ne.symm ne, by rw [upd_ne ne]; exact hq1, ⟨_, _, _, upd_same⟩, tb1.ext (Same.new hS1)⟩
    rintro σ H2 ⟨S, ⟨v1, rfl⟩, ne, hq2, hs2, tb2⟩
    refine ⟨_, rfl, S, rfl, hs2, tb2, fun H3 n3 => ?_⟩
    refine ⟨true, rfl, iteF ?_⟩
    exact ⟨⟨_, _, rfl⟩, n3.kp _ _ hq2 (Ne.symm ne) (fun ps z => by cases z), n3.tb⟩
end
/-- an error of the class at S is what «except S» names -/
theorem exm_self {K : PySem.W.Frag} {S : Addr} (h1 : PySem.W.subIn K (.ref S) (.type "BaseException") = some true) (h2 : PySem.W.isClsIn K S = true) (h3 : PySem.W.typeIn K (.ref S) = some (.type "type")) (h4 : PySem.W.subIn K (.ref S) (.ref S) = some true) :
    PySem.W.exmOne K (.ref S) (.ref S) = some true := by
  have e1 : (PySem.W.subIn K (.ref S) (.type "BaseException") == some true) = true := by rw [h1] <;> rfl
  have e2 : ((PySem.W.clsIn K S).isSome && PySem.W.typeIn K (.ref S) == some (.type "type")) = true := by
    have h5 : (PySem.W.clsIn K S).isSome = true := h2
    rw [h5, h3] <;> rfl
  show (if (PySem.W.subIn K (.ref S) (.type "BaseException") == some true) = true then (if ((PySem.W.clsIn K S).isSome && PySem.W.typeIn K (.ref S) == some (.type "type")) = true then PySem.W.subIn K (.ref S) (.ref S) else none) else none) = some true
  rw [if_pos e1, if_pos e2]
  exact h4
theorem all_mk {l : PySem.W.OpenLaw} {w : World} {K : PySem.W.Frag} {h : Heap} {mg : Str → Option Value} {fa : Addr} {ts : List Addr} (X : K.In h) (G : h.Ns mainGlobals mg) (hfa : mg "law" = some (.ref fa)) (hT : ∀ P ∈ ts, h.get? P = some (PySem.W.tabObj #[]))
    {CS : Addr}
    {CB : Addr} {nm_CB qn_CB : Str} {N_CB : Addr} {bs_CB bm_CB : List Value} {sn_CB : List Str} {sub_CB : List Value} {ab_CB : Bool} {col_CB : Option Bool} {dd_CB : Option Addr} {m0_CB m1_CB m2_CB m3_CB m5_CB : Option Value}
    {f_bi : Addr} {od_bi an_bi : Option Addr} {sl_bi : Array (Option Value)} {oc_bi kV_bi dc_bi pm_bi cd_bi ct_bi : Value}
    {CL : Addr}
    {CW : Addr}
    {t_MOST_LINES : Tok}
    {t_MOST_WORDS : Tok}
    {CM : Addr}
    {f_mi : Addr} {od_mi an_mi : Option Addr} {sl_mi : Array (Option Value)} {oc_mi kV_mi dc_mi pm_mi cd_mi ct_mi : Value}
    {f_ck : Addr} {od_ck an_ck : Option Addr} {sl_ck : Array (Option Value)} {oc_ck kV_ck dc_ck pm_ck ct_ck : Value}
    {cd_ck : Value}
    {f_so : Addr} {od_so an_so : Option Addr} {sl_so : Array (Option Value)} {oc_so kV_so dc_so pm_so ct_so : Value}
    {cd_so : Value}
    {f_dr : Addr} {od_dr an_dr : Option Addr} {sl_dr : Array (Option Value)} {oc_dr kV_dr dc_dr pm_dr ct_dr : Value}
    {cd_dr : Value}
    {f_pk : Addr} {od_pk an_pk : Option Addr} {sl_pk : Array (Option Value)} {oc_pk kV_pk dc_pk pm_pk ct_pk : Value}
    {cd_pk : Value}
    {f_ou : Addr} {od_ou an_ou : Option Addr} {sl_ou : Array (Option Value)} {oc_ou kV_ou dc_ou pm_ou ct_ou : Value}
    {cd_ou : Value}
    {f_ri : Addr} {od_ri an_ri : Option Addr} {sl_ri : Array (Option Value)} {oc_ri kV_ri dc_ri pm_ri ct_ri : Value}
    {c_ri : Addr}
    {P_ri : Addr} {e_ri : Option Addr} {v_ri : Array Value} {u_ri : Array (Option Value)} {fl_ri : Str} {tf_ri tg_ri tt_ri : Tok} {gg_ri tx_ri : Int} {inf_ri : Bool}
    {f_la : Addr} {od_la an_la : Option Addr} {sl_la : Array (Option Value)} {oc_la kV_la dc_la pm_la ct_la : Value}
    {cd_la : Value}
    (a_CS : PySem.W.nsIn K mainGlobals "StoreError" = some (some (.ref CS)))
    (a_CB : PySem.W.nsIn K mainGlobals "BadCount" = some (some (.ref CB)))
    (x_CB : K.lookup CB = some (excClassObj nm_CB qn_CB CB N_CB bs_CB bm_CB true sn_CB sub_CB ab_CB col_CB dd_CB m0_CB m1_CB m2_CB m3_CB m5_CB "ValueError.__new__"))
    (bm_CB' : PySem.HandSPX.refsVE bm_CB = true)
    (sa_CB : PySem.W.findIn K (.ref CB) "__setattr__" = some (some (.builtin "object.__setattr__")))
    (ga_CB : PySem.W.findIn K (.ref CB) "__getattribute__" = some (some (.builtin "BaseException.__getattribute__")))
    (gg_CB : PySem.W.findIn K (.ref CB) "__getattr__" = some none)
    (kC_CB : PySem.W.keepIn K (.ref CB) = true)
    (eC_CB : PySem.W.subIn K (.ref CB) (.type "BaseException") = some true)
    (tC_CB : PySem.W.typeIn K (.ref CB) = some (.type "type"))
    (hC_CB : PySem.W.hasDictIn K CB = true)
    (iC_CB : PySem.W.isClsIn K CB = true)
    (sC_CB : PySem.W.subIn K (.ref CB) (.ref CB) = some true)
    (n_CB_what : PySem.W.findIn K (.ref CB) "what" = some none)
    (n_CB_count : PySem.W.findIn K (.ref CB) "count" = some none)
    (a_bi : PySem.W.findIn K (.ref CB) "__init__" = some (some (.ref f_bi)))
    (t_bi : PySem.W.typeIn K (.ref f_bi) = some (.type "function"))
    (l_bi : K.lookup f_bi = some ⟨oc_bi, od_bi, .func (PySem.W.fnOf "__init__" "BadCount.__init__" (defArgs sBadI) (defBody sBadI) (defScope sBadI) .none kV_bi dc_bi pm_bi an_bi cd_bi ct_bi), sl_bi⟩)
    (c_of_bi : PySem.W.codeIn K cd_bi "BadCount.__init__" = true)
    (k_bi : PySem.W.keepIn K (.ref f_bi) = true)
    (a_CL : PySem.W.nsIn K mainGlobals "NoLine" = some (some (.ref CL)))
    (a_CW : PySem.W.nsIn K mainGlobals "NoWord" = some (some (.ref CW)))
    (g_MOST_LINES : PySem.W.nsIn K mainGlobals "MOST_LINES" = some (some (.int 6 t_MOST_LINES)))
    (g_MOST_WORDS : PySem.W.nsIn K mainGlobals "MOST_WORDS" = some (some (.int 4 t_MOST_WORDS)))
    (a_CM : PySem.W.nsIn K mainGlobals "Memory" = some (some (.ref CM)))
    (pg_CM : PySem.W.plainGet K CM Str.empty = true)
    (hd_CM : PySem.W.hasDictIn K CM = true)
    (po_CM : PySem.W.plainOver K CM = true)
    (sa_CM : PySem.W.findIn K (.ref CM) "__setattr__" = some (some (.builtin "object.__setattr__")))
    (mk_CM : PySem.W.makesIn K CM = true)
    (kc_CM : PySem.W.keepIn K (.ref CM) = true)
    (n_CM_sizes : PySem.W.findIn K (.ref CM) "sizes" = some none)
    (a_mi : PySem.W.findIn K (.ref CM) "__init__" = some (some (.ref f_mi)))
    (i_mi : PySem.W.isFn K (.ref f_mi) = true)
    (l_mi : K.lookup f_mi = some ⟨oc_mi, od_mi, .func (PySem.W.fnOf "__init__" "Memory.__init__" (defArgs sMemI) (defBody sMemI) (defScope sMemI) .none kV_mi dc_mi pm_mi an_mi cd_mi ct_mi), sl_mi⟩)
    (c_of_mi : PySem.W.codeIn K cd_mi "Memory.__init__" = true)
    (k_mi : PySem.W.keepIn K (.ref f_mi) = true)
    (a_ck : PySem.W.nsIn K mainGlobals "check_sizes" = some (some (.ref f_ck)))
    (l_ck : K.lookup f_ck = some ⟨oc_ck, od_ck, .func (PySem.W.fnOf "check_sizes" "check_sizes" (defArgs sChk) (defBody sChk) (defScope sChk) .none kV_ck dc_ck pm_ck an_ck cd_ck ct_ck), sl_ck⟩)
    (c_of_ck : PySem.W.codeIn K cd_ck "check_sizes" = true)
    (k_ck : PySem.W.keepIn K (.ref f_ck) = true)
    (a_so : PySem.W.nsIn K mainGlobals "_law_source" = some (some (.ref f_so)))
    (l_so : K.lookup f_so = some ⟨oc_so, od_so, .func (PySem.W.fnOf "_law_source" "_law_source" (defArgs sSource) (defBody sSource) (defScope sSource) .none kV_so dc_so pm_so an_so cd_so ct_so), sl_so⟩)
    (c_of_so : PySem.W.codeIn K cd_so "_law_source" = true)
    (k_so : PySem.W.keepIn K (.ref f_so) = true)
    (a_dr : PySem.W.nsIn K mainGlobals "_law_draw" = some (some (.ref f_dr)))
    (l_dr : K.lookup f_dr = some ⟨oc_dr, od_dr, .func (PySem.W.fnOf "_law_draw" "_law_draw" (defArgs sDraw) (defBody sDraw) (defScope sDraw) .none kV_dr dc_dr pm_dr an_dr cd_dr ct_dr), sl_dr⟩)
    (c_of_dr : PySem.W.codeIn K cd_dr "_law_draw" = true)
    (k_dr : PySem.W.keepIn K (.ref f_dr) = true)
    (a_pk : PySem.W.nsIn K mainGlobals "_law_pick" = some (some (.ref f_pk)))
    (l_pk : K.lookup f_pk = some ⟨oc_pk, od_pk, .func (PySem.W.fnOf "_law_pick" "_law_pick" (defArgs sPick) (defBody sPick) (defScope sPick) .none kV_pk dc_pk pm_pk an_pk cd_pk ct_pk), sl_pk⟩)
    (c_of_pk : PySem.W.codeIn K cd_pk "_law_pick" = true)
    (k_pk : PySem.W.keepIn K (.ref f_pk) = true)
    (a_ou : PySem.W.nsIn K mainGlobals "_law_outcome" = some (some (.ref f_ou)))
    (l_ou : K.lookup f_ou = some ⟨oc_ou, od_ou, .func (PySem.W.fnOf "_law_outcome" "_law_outcome" (defArgs sOut) (defBody sOut) (defScope sOut) .none kV_ou dc_ou pm_ou an_ou cd_ou ct_ou), sl_ou⟩)
    (c_of_ou : PySem.W.codeIn K cd_ou "_law_outcome" = true)
    (k_ou : PySem.W.keepIn K (.ref f_ou) = true)
    (a_ri : PySem.W.nsIn K mainGlobals "_law_right" = some (some (.ref f_ri)))
    (l_ri : K.lookup f_ri = some ⟨oc_ri, od_ri, .func (PySem.W.fnOf "_law_right" "_law_right" (defArgs sRight) (defBody sRight) (defScope sRight) .none kV_ri dc_ri pm_ri an_ri (.ref c_ri) ct_ri), sl_ri⟩)
    (c_of_ri : PySem.W.codeIn K (.ref c_ri) "_law_right" = true)
    (k_ri : PySem.W.keepIn K (.ref f_ri) = true)
    (lc_ri : K.lookup c_ri = some ⟨.type "code", e_ri, .fields v_ri, u_ri⟩)
    (v11_ri : v_ri[11]? = some (.ref P_ri))
    (v18_ri : v_ri.getD 18 .none = .str fl_ri tf_ri)
    (v7_ri : v_ri.getD 7 .none = .int gg_ri tg_ri)
    (v9_ri : v_ri.getD 9 .none = .bool inf_ri)
    (v10_ri : v_ri.getD 10 .none = .int tx_ri tt_ri)
    (ne_ri : c_ri ≠ P_ri)
    (nP_ri : K.lookup P_ri = none)
    (tP_ri : P_ri ∈ ts)
    (a_la : PySem.W.nsIn K mainGlobals "law" = some (some (.ref f_la)))
    (l_la : K.lookup f_la = some ⟨oc_la, od_la, .func (PySem.W.fnOf "law" "law" (defArgs sLaw) (defBody sLaw) (defScope sLaw) .none kV_la dc_la pm_la an_la cd_la ct_la), sl_la⟩)
    (c_of_la : PySem.W.codeIn K cd_la "law" = true)
    (k_la : PySem.W.keepIn K (.ref f_la) = true)
    (z_abs : PySem.W.nsIn K mainGlobals "abs" = some none)
    (z_len : PySem.W.nsIn K mainGlobals "len" = some none)
    (z_range : PySem.W.nsIn K mainGlobals "range" = some none)
    (z_tuple : PySem.W.nsIn K mainGlobals "tuple" = some none)
    (z_list : PySem.W.nsIn K mainGlobals "list" = some none) :
    LawAtS l w K CX0 9 63 "_law_script" mg fa h := by
  have e := hfa.symm.trans (PySem.W.mg_of X G a_la)
  cases e
  have code : PySem.W.CodeHd h c_ri P_ri := ⟨_, v_ri, _, _, _, _, _, _, _, X _ _ lc_ri, rfl, rfl, v11_ri, by rw [Array.getD_eq_getD_getElem?, v11_ri]; rfl, v18_ri, v7_ri, v9_ri, v10_ri, ne_ri⟩
  have oB : OexC K CB := ⟨⟨nm_CB, qn_CB, N_CB, bs_CB, bm_CB, sn_CB, sub_CB, ab_CB, col_CB, dd_CB, m0_CB, m1_CB, m2_CB, m3_CB, m5_CB, x_CB, bm_CB'⟩, sa_CB, eC_CB, tC_CB, kC_CB⟩
  have FBI := fun_mk (st := sBadI) l_bi c_of_bi k_bi
  have FMI := fun_mk (st := sMemI) l_mi c_of_mi k_mi
  have FCK := fun_mk (st := sChk) l_ck c_of_ck k_ck
  have FSO := fun_mk (st := sSource) l_so c_of_so k_so
  have FDR := fun_mk (st := sDraw) l_dr c_of_dr k_dr
  have FPK := fun_mk (st := sPick) l_pk c_of_pk k_pk
  have FOU := fun_mk (st := sOut) l_ou c_of_ou k_ou
  have FLA := fun_mk (st := sLaw) l_la c_of_la k_la
  have TM : TMem K mg CM := ⟨PySem.W.mg_none_of X G z_tuple, ⟨pg_CM, hd_CM, po_CM, sa_CM⟩, n_CM_sizes⟩
  have TO : TOutc K mg CB CL CW CS := ⟨⟨ga_CB, gg_CB, eC_CB, hC_CB⟩, n_CB_what, n_CB_count, PySem.W.mg_of X G a_CB, PySem.W.mg_of X G a_CL, PySem.W.mg_of X G a_CW, PySem.W.mg_of X G a_CS, exm_self eC_CB iC_CB tC_CB sC_CB⟩
  refine ⟨PySem.W.fnOf "law" "law" (defArgs sLaw) (defBody sLaw) (defScope sLaw) .none kV_la dc_la pm_la an_la cd_la ct_la, [(c_ri, P_ri)], spLaw K P_ri, ?_, ?_, ?_, fun s u => .of_eq (by rfl), ?_, fun base Kb Gb TBs => ?_⟩
  · intro p hp
    rw [List.mem_singleton.mp hp]
    exact hT _ tP_ri
  · intro p hp
    rw [List.mem_singleton.mp hp]
    exact nP_ri
  · intro p hp
    rw [List.mem_singleton.mp hp]
    exact code
  · intro H a ns hl _ ht hS
    refine ⟨a, ns, rfl, hS, hl, fun p hp => ?_, fun _ => rfl⟩
    rw [List.mem_singleton.mp hp]
    exact TabS.nil (ht _ (List.mem_singleton.mpr rfl))
  · have TB := TBs _ (List.mem_singleton.mpr rfl)
    have EB : Err l.prog w K mg base "BadCount" CB 1 ["self", "what", "count"] (spInit2 CB "what" "count") :=
      ⟨oB, _, _, a_bi, t_bi, ok_badI FBI oB n_CB_what n_CB_count, PySem.W.mg_of X G a_CB, FBI.binds (ps := ["self", "what", "count"]) fun _ _ _ _ _ _ us hl => match us, hl with | [_, _, _], _ => rfl⟩
    have C1 : Cal l.prog w K mg base (L2.CX l.prog w) "check_sizes" 3 ["sizes"] (spChkSizes K CB) :=
      ⟨_, _, ok_chk FCK ⟨PySem.W.mg_none_of X G z_len, ⟨_, PySem.W.mg_of X G g_MOST_LINES⟩, ⟨_, PySem.W.mg_of X G g_MOST_WORDS⟩⟩ EB, PySem.W.mg_of X G a_ck, k_ck, FCK.binds (ps := ["sizes"]) fun _ _ _ _ _ _ us hl => match us, hl with | [_], _ => rfl⟩
    have M1 : Mak l.prog w K mg base (L2.CX l.prog w) "Memory" CM 4 ["self", "sizes"] (spMemInit K CB CM) :=
      ⟨_, _, ⟨mk_CM, a_mi, i_mi, kc_CM⟩, ok_memI FMI TM C1, PySem.W.mg_of X G a_CM, FMI.binds (ps := ["self", "sizes"]) fun _ _ _ _ _ _ us hl => match us, hl with | [_, _], _ => rfl⟩
    have D1 : Cal l.prog w K mg base CX0 "_law_draw" 1 ["_law_source_here", "_law_many"] spDraw := ⟨_, _, ok_draw FDR, PySem.W.mg_of X G a_dr, k_dr, FDR.binds (ps := ["_law_source_here", "_law_many"]) fun _ _ _ _ _ _ us hl => match us, hl with | [_, _], _ => rfl⟩
    have D2 : Cal l.prog w K mg base CX0 "_law_pick" 2 ["_law_source_here", "_law_items"] (spPick K) :=
      ⟨_, _, ok_pick FPK ⟨PySem.W.mg_none_of X G z_len⟩ D1, PySem.W.mg_of X G a_pk, k_pk, FPK.binds (ps := ["_law_source_here", "_law_items"]) fun _ _ _ _ _ _ us hl => match us, hl with | [_, _], _ => rfl⟩
    have D3 : Cal l.prog w K mg base CX0 "_law_source" 1 ["_law_cell"] spSource := ⟨_, _, ok_source FSO ⟨PySem.W.mg_none_of X G z_abs⟩, PySem.W.mg_of X G a_so, k_so, FSO.binds (ps := ["_law_cell"]) fun _ _ _ _ _ _ us hl => match us, hl with | [_], _ => rfl⟩
    have R1 : Cal l.prog w K mg base CX0 "_law_right" 8 ["_law_source_here"] (spRight P_ri) :=
      ⟨_, _, ok_right l_ri c_of_ri TB ⟨PySem.W.mg_none_of X G z_range, PySem.W.mg_none_of X G z_tuple, PySem.W.mg_none_of X G z_list⟩ D1 D2 FOU (PySem.W.mg_of X G a_ou) (FOU.binds (ps := ["_law_call"]) fun _ _ _ _ _ _ us hl => match us, hl with | [_], _ => rfl) TO M1 TM, PySem.W.mg_of X G a_ri, k_ri,
        (fun_mk (st := sRight) l_ri c_of_ri k_ri).binds (ps := ["_law_source_here"]) fun _ _ _ _ _ _ us hl => match us, hl with | [_], _ => rfl⟩
    exact ok_law FLA D3 R1
end Q
open PySem PySem.W PyProof.Rows
set_option maxRecDepth 100000 in
set_option maxHeartbeats 0 in
theorem PySem.Challenge.cw_lateststore_k02_memories_refused_holds : PySem.Challenge.rw_lateststore_k02_memories_refused.Holds := by
  w_on; o_law; k_head; (case hw => w_witness2)
  k_fill
  refine LamX.walk_ofTs (l := PySem.Challenge.rw_lateststore_k02_memories_refused) (n := 63) (k := 9) (x := "_law_script") (CX := fun _ => L2.CX0) rfl (by decide) rfl ⟨rfl, by decide, by decide⟩ (fun w h Y => PySem.W.km_in_of Y) ?F (fun _ _ _ _ _ z => z)
  case F =>
    intro w mg fa h Y KX G hmg
    refine' Q.all_mk (ts := _) KX G hmg (PySem.W.km_tabs_of Y) ?a_CS ?a_CB ?x_CB ?bm_CB' ?sa_CB ?ga_CB ?gg_CB ?kC_CB ?eC_CB ?tC_CB ?hC_CB ?iC_CB ?sC_CB ?n_CB_what ?n_CB_count ?a_bi ?t_bi ?l_bi ?c_of_bi ?k_bi ?a_CL ?a_CW ?g_MOST_LINES ?g_MOST_WORDS ?a_CM ?pg_CM ?hd_CM ?po_CM ?sa_CM ?mk_CM ?kc_CM ?n_CM_sizes ?a_mi ?i_mi ?l_mi ?c_of_mi ?k_mi ?a_ck ?l_ck ?c_of_ck ?k_ck ?a_so ?l_so ?c_of_so ?k_so ?a_dr ?l_dr ?c_of_dr ?k_dr ?a_pk ?l_pk ?c_of_pk ?k_pk ?a_ou ?l_ou ?c_of_ou ?k_ou ?a_ri ?l_ri ?c_of_ri ?k_ri ?lc_ri ?v11_ri ?v18_ri ?v7_ri ?v9_ri ?v10_ri ?ne_ri ?nP_ri ?tP_ri ?a_la ?l_la ?c_of_la ?k_la ?z_abs ?z_len ?z_range ?z_tuple ?z_list
    (case a_CS => k_is)
    (case a_CB => k_is)
    (case x_CB => k_is)
    (case bm_CB' => decide +kernel)
    (case sa_CB => k_is)
    (case ga_CB => k_is)
    (case gg_CB => k_is)
    (case kC_CB => k_is)
    (case eC_CB => k_is)
    (case tC_CB => k_is)
    (case hC_CB => k_is)
    (case iC_CB => k_is)
    (case sC_CB => first | rfl | k_is)
    (case n_CB_what => k_is)
    (case n_CB_count => k_is)
    (case a_bi => k_is)
    (case t_bi => k_is)
    (case l_bi => k_is)
    (case c_of_bi => k_is)
    (case k_bi => k_is)
    (case a_CL => k_is)
    (case a_CW => k_is)
    (case g_MOST_LINES => k_is)
    (case g_MOST_WORDS => k_is)
    (case a_CM => k_is)
    (case pg_CM => k_is)
    (case hd_CM => k_is)
    (case po_CM => k_is)
    (case sa_CM => k_is)
    (case mk_CM => k_is)
    (case kc_CM => k_is)
    (case n_CM_sizes => k_is)
    (case a_mi => k_is)
    (case i_mi => k_is)
    (case l_mi => k_is)
    (case c_of_mi => k_is)
    (case k_mi => k_is)
    (case a_ck => k_is)
    (case l_ck => k_is)
    (case c_of_ck => k_is)
    (case k_ck => k_is)
    (case a_so => k_is)
    (case l_so => k_is)
    (case c_of_so => k_is)
    (case k_so => k_is)
    (case a_dr => k_is)
    (case l_dr => k_is)
    (case c_of_dr => k_is)
    (case k_dr => k_is)
    (case a_pk => k_is)
    (case l_pk => k_is)
    (case c_of_pk => k_is)
    (case k_pk => k_is)
    (case a_ou => k_is)
    (case l_ou => k_is)
    (case c_of_ou => k_is)
    (case k_ou => k_is)
    (case a_ri => k_is)
    (case l_ri => k_is)
    (case c_of_ri => k_is)
    (case k_ri => k_is)
    (case lc_ri => k_is)
    (case v11_ri => rfl)
    (case v18_ri => rfl)
    (case v7_ri => rfl)
    (case v9_ri => rfl)
    (case v10_ri => rfl)
    (case ne_ri => decide)
    (case nP_ri => rfl)
    (case tP_ri => decide)
    (case a_la => k_is)
    (case l_la => k_is)
    (case c_of_la => k_is)
    (case k_la => k_is)
    (case z_abs => k_is)
    (case z_len => k_is)
    (case z_range => k_is)
    (case z_tuple => k_is)
    (case z_list => k_is)
