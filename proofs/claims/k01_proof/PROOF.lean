import PyProof.Rows.All
import Wide.All
import OpenK.AllK
import Wide.FinOn
import HandS.ForMost
import HandS.ForExc
import HandS.IsInst
import HandS.Codes
import HandS.Lambda
import HandS.Nested
import HandS.Conv
import HandS.Wide
import HandS.WideMore
import HandS.WideBits
import HandS.Style
import HandS.Flow
import HandS.ExcInit
import HandS.ExcField
import HandS.ExcIs
import HandS.EndTab
import HandS.NoneIn
import HandS.Deep
import HandS.TupAny
import KE.GoesMore
import HandS.Sort
import HandS.Strs
import PySem.Challenge.RW_editlots_k01_tables_told_by_rule
import HandS.HeadHook4
import HandS.HeadWalk
import HandS.Head2
set_option Elab.async false
set_option linter.all false
set_option maxRecDepth 100000
set_option maxHeartbeats 4000000
/-! Ed, the layer of this project's proofs over HandS: callables by value with room and guards known; closures with the cells they hold; repr of data; draws from the pool. -/
namespace Ed
open PySem PySem.Spec PyProof.Rows L2

/-! ### callables by value -/
/-- room for k calls, and no repr under way -/
structure RoomG (k : Nat) (A : Around) : Prop where
  r : Room k A
  g : A.guards = some []
theorem RoomG.mono {j k : Nat} {A : Around} (x : RoomG k A) (h : j ≤ k) : RoomG j A := ⟨x.r.mono h, x.g⟩
theorem RoomG.u64 {k : Nat} {A : Around} (x : RoomG k A) : A.units + 64 < cLine := by
  have := x.r.un
  omega
theorem RoomG.u65 {k : Nat} {A : Around} (x : RoomG k A) : A.units + 65 < cLine := by
  have := x.r.un
  omega
theorem RoomG.step {k : Nat} {A : Around} (x : RoomG (k + 1) A) (env : Env) : RoomG k (A.deeper env) := ⟨x.r.deeper env, x.g⟩

/-- the object at f, called by positional arguments, does what sp says -/
structure FnV (P : Program) (w : World) (K : PySem.W.Frag) (mg : Str → Option Value) (base : Heap) (k : Nat) (f : Addr) (sp : Sp) : Prop where
  run : ∀ (A : Around) (outer : List Env) (s : Shared) (H : Hp) (us : List Value) (vs : List V) (Q : VK) (E : XK), RoomG k A → Env0 P w K mg base A outer s H → Vals vs us → sp vs H Q E →
    codeAny (model P w) A (.call (.ref f) ⟨us, []⟩) (CR (L2.CX P w) outer P w H s Q E) s
section
variable {P : Program} {w : World} {K : PySem.W.Frag} {mg : Str → Option Value} {base : Heap} {j k : Nat} {f : Addr} {sp sp' : Sp}
theorem FnV.mono (F : FnV P w K mg base j f sp) (h : j ≤ k) : FnV P w K mg base k f sp := ⟨fun A outer s H us vs Q E hr => F.run A outer s H us vs Q E (hr.mono h)⟩
theorem FnV.imp (F : FnV P w K mg base k f sp) (h : ∀ vs H Q E, sp' vs H Q E → sp vs H Q E) : FnV P w K mg base k f sp' :=
  ⟨fun A outer s H us vs Q E hr he hv hs => F.run A outer s H us vs Q E hr he hv (h _ _ _ _ hs)⟩
end

/-- a def of the text, where it stands behind the top; cd: its code object -/
structure DefAt (K : PySem.W.Frag) (mg : Str → Option Value) (x qual : Str) (st : Stmt) (ps : List Str) (f : Addr) (cd : Value) : Prop where
  ex : ∃ (oc : Value) (od : Option Addr) (kV doc pm : Value) (an : Option Addr) (ct : Value) (osl : Array (Option Value)),
    K.lookup f = some ⟨oc, od, .func (PySem.W.fnOf x qual (defArgs st) (defBody st) (defScope st) .none kV doc pm an cd ct), osl⟩
  code : PySem.W.codeIn K cd qual = true
  kp : PySem.W.keepIn K (.ref f) = true
  bind : ∀ (kV doc pm : Value) (an : Option Addr) (ct : Value) (us : List Value), us.length = ps.length → bindArgs (PySem.W.fnOf x qual (defArgs st) (defBody st) (defScope st) .none kV doc pm an cd ct) ⟨us, []⟩ = pure (ps.zip us)

/-- what is handed back at a body's end -/
def flowV : Flow → Value
  | .ret v => v
  | _ => .none
/-- what a body's end gives a caller -/
theorem cr_of_flow {X : Cx} {P : Program} {w : World} {H : Hp} {Q : VK} {E : XK} {fl : Flow} {s' : Shared} (hp : X.prog = P) (hw : X.w = w) (hH : X.H_0 = H) (hx : X.ex = [])
    (h : SP X [] { nx := fun _ H' => Q .non H', rt := Q } fl s') : CR (L2.CX P w) X.outer P w H X.s_0 Q E (.ok (.ret (flowV fl))) s' := by
  subst hp hw hH
  have fin : ∀ {σ' : L2.St} {H' : Hp} {v : V} {u : Value}, Inv X [] σ' H' s' → L2.RelV v u → Q v H' → CE X.outer X.prog X.w X.H_0 X.s_0 Q u s' := fun {σ' H' v u} J rv q =>
    ⟨v, H', J.os, J.bare, by have b := J.base; rw [hx] at b; exact b, J.hok, rv, q⟩
  cases fl with
  | ret u =>
    obtain ⟨v, σ', H', J, rv, q⟩ := h
    exact fin J rv q
  | next =>
    obtain ⟨σ', H', J, q⟩ := h
    exact fin (v := V.non) (u := Value.none) J rfl q
  | brk =>
    obtain ⟨_, _, _, q⟩ := h
    exact q.elim
  | cont =>
    obtain ⟨_, _, _, q⟩ := h
    exact q.elim

section
variable {P : Program} {w : World} {K : PySem.W.Frag} {mg : Str → Option Value} {base : Heap} {N ps : List Str} {x qual : Str} {st : Stmt} {f : Addr} {cd : Value} {k : Nat} {sp : Sp}
/-- a def by its body -/
theorem fnv_def (D : DefAt K mg x qual st ps f cd) (S : FnScope N ps (defScope st)) (len : ∀ vs H Q E, sp vs H Q E → vs.length = ps.length)
    (body : ∀ (A : Around) (outer : List Env) (s : Shared) (H : Hp) (vs : List V) (Q : VK) (E : XK), RoomG k (A.deeper (envOfC qual (defScope st) s.heap.objs.size f cd)) → sp vs H Q E →
      ∃ t, PSs (cxOf (L2.CX P w) P w K mg base N qual (defScope st) f cd A outer s H E) (defBody st) t ∧ t { nx := fun _ H' => Q .non H', rt := Q } (start N vs) H) :
    FnV P w K mg base (k + 1) f sp := by
  constructor
  intro A outer s H us vs Q E hr e0 rv hsp
  have hl : vs.length = ps.length := len _ _ _ _ hsp
  have hul : us.length = ps.length := rv.length.symm.trans hl
  have keepB : ∀ b o, base.get? b = some o → s.heap.get? b = some o := fun b o e => (e0.bs b o e).1
  obtain ⟨oc, od, kV, doc, pm, an, ct, osl, lk⟩ := D.ex
  have KX := e0.mod.kin.keeps keepB
  have kinds : ∀ y ∈ ps.zip us, (defScope st).names.lookup y.1 = some .local ∨ ((defScope st).names.lookup y.1 = some .cell ∧ ((cellsFrom (s.heap.objs.size + 1) (defScope st).names []).lookup y.1).isSome = true) := by
    rintro ⟨n, v⟩ hy
    exact (S.par n (List.of_mem_zip hy).1).imp id fun q => ⟨q, PySem.W.cellsFrom_some _ _ _ (.inl q)⟩
  apply codeAny_call_function hr.r.depth (KX _ _ lk) rfl S.co S.gen rfl (PySem.W.codeRec_of KX D.code)
  rw [D.bind kV doc pm an ct us hul]
  apply wpAny_pure
  apply wpAny_newFunctionEnv_cells S.kind kinds
  intro env he s1 x1
  subst he
  refine ⟨(e0.mod.nolimit.keeps keepB).keeps x1.toInCall.keep, codeAny_func ?_⟩
  obtain ⟨t, ht, hq⟩ := body A outer s H vs Q E (hr.step _) hsp
  have I := inv_start (CX := L2.CX P w) (E := E) (cd := cd) (f := f) S hr.r.hd e0 hl rv x1
  exact wpAny_mono (ht.run [] s1 _ H _ I hq) (fun fl s' h => by
    have q := cr_of_flow (E := E) (X := cxOf (L2.CX P w) P w K mg base N qual (defScope st) f cd A outer s H E) rfl rfl rfl rfl h
    cases fl <;> exact q) fun e s' h => h
end

/-! ### calls -/
/-- K or H knows the object at f for a function -/
def IsFn (K : PySem.W.Frag) (H : Hp) (f : Addr) : Prop :=
  (∃ oc od fd sl, K.lookup f = some ⟨oc, od, .func fd, sl⟩) ∨ ∃ oc od fd sl u, H f = some (.frz ⟨oc, od, .func fd, sl⟩ u)
theorem IsFn.there {X : Cx} {pins : List (Addr × Obj)} {σ : L2.St} {H : Hp} {s : Shared} {f : Addr} (i : IsFn X.K H f) (I : Inv X pins σ H s) : PySem.W.FnAt f s.heap := by
  rcases i with ⟨oc, od, fd, sl, e⟩ | ⟨oc, od, fd, sl, u, e⟩
  · exact ⟨oc, od, fd, sl, I.kIn _ _ e⟩
  · exact ⟨oc, od, fd, sl, (I.hok f _ e).1⟩
/-- a def that may be called by its name -/
structure CalV (P : Program) (w : World) (K : PySem.W.Frag) (mg : Str → Option Value) (base : Heap) (k : Nat) (x : Str) (sp : Sp) : Prop where
  ex : ∃ f, FnV P w K mg base k f sp ∧ mg x = some (.ref f) ∧ ∃ oc od fd sl, K.lookup f = some ⟨oc, od, .func fd, sl⟩
section
variable {X : Cx} {j k : Nat} {f : Addr} {sp : Sp} {x : Str} {pins : List (Addr × Obj)} {σ : L2.St} {H : Hp} {s : Shared} {us : List Value} {vs : List V} {Q : VK} {E : XK} {p pos : Pos} {e : Expr} {es : List Expr} {t : TA}
theorem run_v (F : FnV X.prog X.w X.K X.mg X.base k f sp) (hr : RoomG k X.A) (I : Inv X pins σ H s) (hx : ∀ e s', L2.CX X.prog X.w X.stack H s E e s' → X.xe e s') (r : Vals vs us) (h : sp vs H Q E) :
    wpAny (model X.prog X.w) X.A (call (.ref f) us) (EP X pins σ Q) X.xe s := by
  apply wpAny_call
  refine codeAny_mono (F.run X.A X.stack s H us vs Q E hr I.env0 r h) fun res s' hq => ?_
  match res, hq with
  | .error e, hq => exact hx e s' hq
  | .ok (.ret u), hq => exact I.after hq
  | .ok .next, hq => exact hq.elim
  | .ok .brk, hq => exact hq.elim
  | .ok .cont, hq => exact hq.elim
theorem at0 (σ : L2.St) : PassesAt (L2.CX X.prog X.w) X σ E0 := fun pins H s e s' I c => passL pins σ H s e s' I c
/-- x(e, ..), x a def of the module -/
theorem pe_v {E : L2.St → XK} (c : CalV X.prog X.w X.K X.mg X.base k x sp) (hr : RoomG j X.A) (hk : k ≤ j) (hg : Gl X x) (hx : ∀ σ, PassesAt (L2.CX X.prog X.w) X σ (E σ)) (ha : PA X (e :: es) t)
    (hdb : (x == ("__debug__" : Str)) = false := by decide) (hst : starEach (e :: es) X.env = (false, eval e X.env) :: starEach es X.env := by rfl) (hpl : (backTo pos (starEach es X.env)).any (·.1) = false := by rfl) :
    PE X (.Call (.Name x p) (e :: es) [] pos) (tCallS sp E t) := by
  constructor
  intro pins s σ H Q I h
  obtain ⟨f, F, hm, oc, od, fd, sl, lk⟩ := c.ex
  apply wpAny_Call_Name_kw
  refine ld_glob I hg hm ?_ hdb
  refine PySem.W.callWith_F ⟨oc, od, fd, sl, I.kIn _ _ lk⟩ (thn (ha.run pos pins s σ H _ I h) ?_) hst hpl
  rintro us s1 ⟨vs, H1, I1, r, q⟩
  exact ⟨⟨oc, od, fd, sl, I1.kIn _ _ lk⟩, run_v F (hr.mono hk) I1 (fun e s' hc => hx σ pins H1 s1 e s' I1 hc) r q⟩
/-- .. that raises nothing -/
theorem pe_vn (c : CalV X.prog X.w X.K X.mg X.base k x sp) (hr : RoomG j X.A) (hk : k ≤ j) (hg : Gl X x) (ha : PA X (e :: es) t)
    (hdb : (x == ("__debug__" : Str)) = false := by decide) (hst : starEach (e :: es) X.env = (false, eval e X.env) :: starEach es X.env := by rfl) (hpl : (backTo pos (starEach es X.env)).any (·.1) = false := by rfl) :
    PE X (.Call (.Name x p) (e :: es) [] pos) (tCallS sp (fun _ => E0) t) := pe_v c hr hk hg (fun σ => at0 σ) ha hdb hst hpl
/-- a name of the frame that holds a function, called -/
def tCallF (P : Program) (w : World) (K : PySem.W.Frag) (mg : Str → Option Value) (base : Heap) (j i : Nat) (E : L2.St → XK) (t : TA) : TE := fun σ H Q =>
  ∃ f sp, σ[i]? = some (some (.ref f)) ∧ FnV P w K mg base j f sp ∧ IsFn K H f ∧ t σ H fun vs H1 => IsFn K H1 f ∧ sp vs H1 Q (E σ)
theorem pe_vl {i : Nat} {E : L2.St → XK} (hr : RoomG j X.A) (hN : X.N[i]? = some x) (hv : Vis X.env.scope x) (hx : ∀ σ, PassesAt (L2.CX X.prog X.w) X σ (E σ)) (ha : PA X (e :: es) t)
    (hdb : (x == ("__debug__" : Str)) = false := by decide) (hcd : (x == ("__classdict__" : Str)) = false := by decide)
    (hst : starEach (e :: es) X.env = (false, eval e X.env) :: starEach es X.env := by rfl) (hpl : (backTo pos (starEach es X.env)).any (·.1) = false := by rfl) :
    PE X (.Call (.Name x p) (e :: es) [] pos) (tCallF X.prog X.w X.K X.mg X.base j i E t) := by
  constructor
  intro pins s σ H Q I h
  obtain ⟨f, sp, hs, F, hf, ht⟩ := h
  apply wpAny_Call_Name_kw
  refine thn ((pe_var (pos := p) hN hv hdb hcd).run pins s σ H (fun v H1 => v = .ref f ∧ H1 = H) I ⟨.ref f, hs, rfl, rfl⟩) ?_
  rintro u s1 ⟨v, H1, I1, r1, rfl, rfl⟩
  cases r1
  refine PySem.W.callWith_F (hf.there I1) (thn (ha.run pos pins s1 σ _ _ I1 ht) ?_) hst hpl
  rintro us s2 ⟨vs, H2, I2, r, hf2, q⟩
  exact ⟨hf2.there I2, run_v F hr I2 (fun e s' hc => hx σ pins H2 s2 e s' I2 hc) r q⟩
theorem pe_vl0 {i : Nat} {E : L2.St → XK} (hr : RoomG j X.A) (hN : X.N[i]? = some x) (hv : Vis X.env.scope x) (hx : ∀ σ, PassesAt (L2.CX X.prog X.w) X σ (E σ))
    (hdb : (x == ("__debug__" : Str)) = false := by decide) (hcd : (x == ("__classdict__" : Str)) = false := by decide) :
    PE X (.Call (.Name x p) [] [] pos) (tCallF X.prog X.w X.K X.mg X.base j i E tNil) := by
  constructor
  intro pins s σ H Q I h
  obtain ⟨f, sp, hs, F, hf, _, q⟩ := h
  apply wpAny_Call_Name_kw
  refine thn ((pe_var (pos := p) hN hv hdb hcd).run pins s σ H (fun v H1 => v = .ref f ∧ H1 = H) I ⟨.ref f, hs, rfl, rfl⟩) ?_
  rintro u s1 ⟨v, H1, I1, r1, rfl, rfl⟩
  cases r1
  exact PySem.W.callWith_F0 (hf.there I1) (run_v (us := []) F hr I1 (fun e s' hc => hx σ pins _ s1 e s' I1 hc) .nil q)
end

/-! ### closures: where a callee runs, the cells that a lambda captured are known objects; within the lambda they are its own -/
open Classical in
/-- the cells forgotten -/
noncomputable def unc (cl : List (Str × Addr)) (H : Hp) : Hp := fun b => if ∃ y, cl.lookup y = some b then none else H b
open Classical in
/-- what stood at the cells, H, put back -/
noncomputable def rec_ (cl : List (Str × Addr)) (H H' : Hp) : Hp := fun b => if ∃ y, cl.lookup y = some b then H b else H' b
open Classical in
/-- the cells known -/
noncomputable def cov (cl : List (Str × Addr)) (h : Heap) (H : Hp) : Hp := fun b => if ∃ y, cl.lookup y = some b then (h.get? b).map (fun o => HO.frz o (.own 0)) else H b
section
variable {cl : List (Str × Addr)} {H H' H2 : Hp} {h h' : Heap} {b : Addr} {P : Program} {w : World}
theorem unc_in (e : ∃ y, cl.lookup y = some b) : unc cl H b = none := if_pos e
theorem unc_out (e : ¬ ∃ y, cl.lookup y = some b) : unc cl H b = H b := if_neg e
theorem rec_in (e : ∃ y, cl.lookup y = some b) : rec_ cl H H' b = H b := if_pos e
theorem rec_out (e : ¬ ∃ y, cl.lookup y = some b) : rec_ cl H H' b = H' b := if_neg e
theorem cov_in (e : ∃ y, cl.lookup y = some b) : cov cl h H b = (h.get? b).map (fun o => HO.frz o (.own 0)) := if_pos e
theorem cov_out (e : ¬ ∃ y, cl.lookup y = some b) : cov cl h H b = H b := if_neg e
theorem unc_some {u : HO} (e : unc cl H b = some u) : H b = some u ∧ ¬ ∃ y, cl.lookup y = some b := by
  by_cases q : ∃ y, cl.lookup y = some b
  · rw [unc_in q] at e
    cases e
  · rw [unc_out q] at e
    exact ⟨e, q⟩
/-- a heap map with the cells dropped is still held, where the cells held nothing but known objects -/
theorem hok_unc (x : HOk P w H h) (fz : ∀ y c u, cl.lookup y = some c → H c = some u → ∃ o, u = .frz o (.own 0)) : HOk P w (unc cl H) h := by
  intro b u e
  obtain ⟨e1, nb⟩ := unc_some e
  refine (x b u e1).stay (fun _ _ _ q => q) (fun c q => ?_) fun c xs q => ?_
  · refine (unc_out ?_).trans q
    rintro ⟨y, hy⟩
    obtain ⟨o, z⟩ := fz y c _ hy q
    cases z
  · refine (unc_out ?_).trans q
    rintro ⟨y, hy⟩
    obtain ⟨o, z⟩ := fz y c _ hy q
    cases z
theorem hok_cov (x : HOk P w H h) (fr : ∀ y c, cl.lookup y = some c → H c = none) : HOk P w (cov cl h H) h := by
  intro b u e
  have keepO : ∀ c v, H c = some v → cov cl h H c = some v := fun c v q => by
    refine (cov_out ?_).trans q
    rintro ⟨y, hy⟩
    rw [fr y c hy] at q
    cases q
  by_cases q : ∃ y, cl.lookup y = some b
  · rw [cov_in q] at e
    cases ho : h.get? b with
    | none =>
      rw [ho] at e
      cases e
    | some o =>
      rw [ho] at e
      cases e
      exact ⟨ho, o, ho⟩
  · rw [cov_out q] at e
    exact (x b u e).stay (fun _ _ _ q => q) (fun c q => keepO c _ q) fun c xs q => keepO c _ q
end

/-- the captured cells: known objects that hold these values (none: something) -/
structure CellsT (cl : List (Str × Addr)) (fr : List Str) (ws : List (Option V)) (H : Hp) : Prop where
  len : ws.length = fr.length
  all : ∀ y c, cl.lookup y = some c → ∃ (o : Obj) (v : Option Value), H c = some (.frz o (.own 0)) ∧ o.data = .cell v
  inj : ∀ x y c, cl.lookup x = some c → cl.lookup y = some c → x = y
  has : ∀ (i : Nat) (y : Str), fr[i]? = some y → ∃ c, cl.lookup y = some c ∧ ∀ v, ws[i]? = some (some v) → ∃ (o : Obj) (u : Value), H c = some (.frz o (.own 0)) ∧ o.data = .cell (some u) ∧ L2.RelV v u
section
variable {P : Program} {w : World} {K : PySem.W.Frag} {mg : Str → Option Value} {base : Heap} {cl : List (Str × Addr)} {fr ps N : List Str} {ws : List (Option V)} {H H' : Hp} {A : Around} {outer : List Env} {s : Shared} {k : Nat}
theorem CellsT.frz (C : CellsT cl fr ws H) : ∀ y c u, cl.lookup y = some c → H c = some u → ∃ o, u = .frz o (.own 0) := fun y c u e q => by
  obtain ⟨o, v, z, _⟩ := C.all y c e
  rw [z] at q
  cases q
  exact ⟨o, rfl⟩
theorem CellsT.known (C : CellsT cl fr ws H) {b : Addr} (e : ∃ y, cl.lookup y = some b) : ∃ o, H b = some (.frz o (.own 0)) := by
  obtain ⟨y, hy⟩ := e
  obtain ⟨o, v, z, _⟩ := C.all y b hy
  exact ⟨o, z⟩
theorem CellsT.free (C : CellsT cl fr ws H) {b : Addr} (e : H b = none) : ¬ ∃ y, cl.lookup y = some b := fun q => by
  obtain ⟨o, z⟩ := C.known q
  rw [e] at z
  cases z
theorem CellsT.cells (C : CellsT cl fr ws H) (x : HOk P w H s.heap) : NdefX.CellsAt cl fr ws s.heap (unc cl H) := by
  refine ⟨C.len, fun y c e => ⟨unc_in ⟨y, e⟩, ?_⟩, C.inj, fun i y e => ?_⟩
  · obtain ⟨o, v, z, d⟩ := C.all y c e
    exact ⟨v, o, (x c _ z).1, d⟩
  · obtain ⟨c, hc, hv⟩ := C.has i y e
    refine ⟨c, hc, fun v ev => ?_⟩
    obtain ⟨o, u, z, d, r⟩ := hv v ev
    exact ⟨u, r, o, (x c _ z).1, d⟩
theorem CellsT.env0 (C : CellsT cl fr ws H) (e0 : Env0 P w K mg base A outer s H) : Env0 P w K mg base A outer s (unc cl H) where
  frames := e0.frames
  mod := e0.mod
  bs := fun b o e => ⟨(e0.bs b o e).1, (unc_out (C.free (e0.bs b o e).2)).trans (e0.bs b o e).2⟩
  bsz := e0.bsz
  funs := e0.funs
  frf := fun b hb => (unc_out (C.free (e0.frf b hb))).trans (e0.frf b hb)
  hok := hok_unc e0.hok C.frz
  bare := e0.bare
/-- what was done with the cells as the callee's own, told with the cells known -/
theorem CellsT.un (C : CellsT cl fr ws H) (frf : ∀ b ∈ frs outer, H b = none) {h h' : Heap} (u : Un (frs outer) [] (unc cl H) H' h h') : Un (frs outer) [] H (rec_ cl H H') h h' where
  keep := fun b o e n hb hx => u.keep b o e ((unc_out (C.free n)).trans n) hb hx
  slot := fun b o e n hb hx => u.slot b o e ((unc_out (C.free n)).trans n) hb hx
  free := fun b o e n hx => (rec_out (C.free n)).trans (u.free b o e ((unc_out (C.free n)).trans n) hx)
  there := u.there
  tups := fun b xs e => by
    have nb : ¬ ∃ y, cl.lookup y = some b := fun q => by
      obtain ⟨o, z⟩ := C.known q
      rw [e] at z
      cases z
    exact (rec_out nb).trans (u.tups b xs ((unc_out nb).trans e))
  frzs := fun b o v e => by
    by_cases q : ∃ y, cl.lookup y = some b
    · exact (rec_in q).trans e
    · exact (rec_out q).trans (u.frzs b o v ((unc_out q).trans e))
  tbls := fun b qs e => by
    have nb : ¬ ∃ y, cl.lookup y = some b := fun q => by
      obtain ⟨o, z⟩ := C.known q
      rw [e] at z
      cases z
    obtain ⟨more, z⟩ := u.tbls b qs ((unc_out nb).trans e)
    exact ⟨more, (rec_out nb).trans z⟩
theorem CellsT.hok (C : CellsT cl fr ws H) {h h' : Heap} (kp : ∀ b o, h.get? b = some o → (∃ y, cl.lookup y = some b) → h'.get? b = some o) (fr' : ∀ b o, h.get? b = some o → (∃ y, cl.lookup y = some b) → H' b = none) (x : HOk P w H h) (x' : HOk P w H' h') : HOk P w (rec_ cl H H') h' := by
  intro b u e
  by_cases q : ∃ y, cl.lookup y = some b
  · rw [rec_in q] at e
    obtain ⟨o, z⟩ := C.known q
    rw [z] at e
    cases e
    have ho := (x b _ z).1
    exact ⟨kp b o ho q, o, kp b o ho q⟩
  · rw [rec_out q] at e
    have nc : ∀ c v, H' c = some v → ¬ ∃ y, cl.lookup y = some c := fun c v hc hq => by
      obtain ⟨o, z⟩ := C.known hq
      rw [fr' c o (x c _ z).1 hq] at hc
      cases hc
    exact (x' b u e).stay (fun _ _ _ q => q) (fun c z => (rec_out (nc c _ z)).trans z) fun c xs z => (rec_out (nc c _ z)).trans z
/-- nothing is known of the cells -/
def NoCell (cl : List (Str × Addr)) (H : Hp) : Prop := ∀ y c, cl.lookup y = some c → H c = none
/-- the reading of a lambda's promise -/
def spLam (g : Addr) (ob : Obj) (c' : Addr) (q : Str) (cl : List (Str × Addr)) (fr : List Str) (sp : List (Option V) → Sp) : Sp := fun vs H Q E =>
  H g = some (.frz ob (.own 0)) ∧ H c' = some (LamX.CodeO c' q) ∧ ∃ ws, CellsT cl fr ws H ∧ sp ws vs H Q E
theorem fnv_lam {q : Str} {params : Arguments} {body : Expr} {scope : Scope} {pm ctv : Value} {c' g : Addr} {sp : List (Option V) → Sp}
    (S : NdefX.NScope N ps fr scope) (hb : ∀ us : List Value, us.length = ps.length → bindArgs (PySem.W.kla_fn "<lambda>" q params body scope cl pm (.ref c') ctv) ⟨us, []⟩ = pure (ps.zip us))
    (len : ∀ ws vs H Q E, sp ws vs H Q E → vs.length = ps.length) (nc : ∀ y, cl.lookup y = some c' → False)
    (hbody : ∀ (A : Around) (outer : List Env) (s : Shared) (H : Hp) (vs : List V) (ws : List (Option V)) (Q : VK) (E : XK), RoomG k (A.deeper (NdefX.envF ⟨"<lambda>", q, params, [], scope, cl, c'⟩ g s.heap.objs.size)) → CellsT cl fr ws H → sp ws vs H Q E →
      ∃ te, PE (NdefX.ncx (L2.CX P w) P w K mg base N ⟨"<lambda>", q, params, [], scope, cl, c'⟩ g A outer s (unc cl H) (fun cls d H' => NoCell cl H' → E cls d (rec_ cl H H'))) body te ∧ te (NdefX.startF N vs ws) (unc cl H) (fun v H' => NoCell cl H' → Q v (rec_ cl H H'))) :
    FnV P w K mg base (k + 1) g (spLam g (PySem.W.kla_obj "<lambda>" q params body scope cl pm c' ctv) c' q cl fr sp) := by
  constructor
  intro A outer s H us vs Q E hr e0 rv hsp
  obtain ⟨hg, hc, ws, C, hw⟩ := hsp
  have hl := len _ _ _ _ _ hw
  have e1 := C.env0 e0
  have lim : s.heap.NoLimit := e0.mod.nolimit.keeps fun b o e => (e0.bs b o e).1
  have hcu : unc cl H c' = some (LamX.CodeO c' q) := (unc_out (fun ⟨y, hy⟩ => nc y hy)).trans hc
  apply PySem.W.kla_callFunE hr.r.depth (e0.hok g _ hg).1 rfl S.co S.gen rfl (NdefX.codeO_at e0.hok hc)
  rw [hb us (rv.length.symm.trans hl)]
  apply wpAny_pure
  refine wpAny_newFunctionEnv S.nocell (fun z hz => S.par z.1 (List.of_mem_zip (a := z.1) (b := z.2) hz).1) (fun h₁ hns hsb => ?_) S.kind
  refine ⟨lim.fresh _ hsb, ?_⟩
  show codeAny _ _ (.expr body (NdefX.envF ⟨"<lambda>", q, params, [], scope, cl, c'⟩ g s.heap.objs.size)) _ _
  apply PySem.W.kla_codeExpr
  have kp : ∀ b o, s.heap.get? b = some o → h₁.get? b = some o := fun b o e => hsb.extBut b o (Nat.ne_of_lt (Heap.lt_size e)) (Heap.get?_push_of_some _ e)
  obtain ⟨te, ht, hq⟩ := hbody A outer s H vs ws Q E (hr.step _) C hw
  have I := NdefX.inv_startN (CX := L2.CX P w) (E := fun cls d H' => NoCell cl H' → E cls d (rec_ cl H H')) (F := ⟨"<lambda>", q, params, [], scope, cl, c'⟩) (f := g) (tk := s.toks + (ps.zip us).length) S hr.r.hd e1 hl rv (C.cells e0.hok) hns kp
  have ncf : ∀ b, (∃ y, cl.lookup y = some b) → b ∉ frs outer := fun b hq hb => C.free (e0.frf b hb) hq
  have conv : ∀ (B : Heap) (H' : Hp), (∀ b o, s.heap.get? b = some o → unc cl H b = none → b ∉ frs outer → B.get? b = some o) → (∀ b o, s.heap.get? b = some o → unc cl H b = none → H' b = none) → HOk P w H' B → HOk P w (rec_ cl H H') B := fun B H' k1 k2 x' =>
    C.hok (fun b o e hq => k1 b o e (unc_in hq) (ncf b hq)) (fun b o e hq => k2 b o e (unc_in hq)) e0.hok x'
  -- an exception that leaves it, told with the cells known
  have out : ∀ e s', L2.CX P w outer (unc cl H) s (fun cls d H' => NoCell cl H' → E cls d (rec_ cl H H')) e s' → L2.CX P w outer H s E e s' := by
    rintro e s' ⟨a, B, H', cls, d, rfl, fl, hok, ub, na, os, ag, hE⟩
    have ncell : ¬ ∃ y, cl.lookup y = some a := fun hq => by
      obtain ⟨o, z⟩ := C.known hq
      have y1 := ub.keep a o (e0.hok a _ z).1 (unc_in hq) (ncf a hq)
      rw [fl.2.1] at y1
      cases y1
    refine ⟨a, B, rec_ cl H H', cls, d, rfl, fl, conv B H' ub.keep ub.free hok, ⟨fun b o e n hb => ub.keep b o e ((unc_out (C.free n)).trans n) hb, ub.slot, fun b o e n => (rec_out (C.free n)).trans (ub.free b o e ((unc_out (C.free n)).trans n)), ub.there, fun b xs e => ?_, fun b o v e => ?_, fun b qs e => ?_⟩, (rec_out ncell).trans na, os, ag, hE fun y c e => ub.free c _ ((e0.hok c _ (C.known ⟨y, e⟩).choose_spec).1) (unc_in ⟨y, e⟩)⟩
    · have nb : ¬ ∃ y, cl.lookup y = some b := fun q => by
        obtain ⟨o, z⟩ := C.known q
        rw [e] at z
        cases z
      exact (rec_out nb).trans (ub.tups b xs ((unc_out nb).trans e))
    · by_cases hq : ∃ y, cl.lookup y = some b
      · exact (rec_in hq).trans e
      · exact (rec_out hq).trans (ub.frzs b o v ((unc_out hq).trans e))
    · have nb : ¬ ∃ y, cl.lookup y = some b := fun q => by
        obtain ⟨o, z⟩ := C.known q
        rw [e] at z
        cases z
      obtain ⟨more, z⟩ := ub.tbls b qs ((unc_out nb).trans e)
      exact ⟨more, (rec_out nb).trans z⟩
  refine wpAny_mono (ht.run [] _ _ _ _ I hq) (fun v s' hv => ?_) fun e s' he => ?_
  · obtain ⟨z, H', J, rz, qz⟩ := hv
    exact ⟨z, rec_ cl H H', J.os, J.bare, C.un e0.frf J.base, conv s'.heap H' (fun b o e n hb => J.base.keep b o e n hb (by simp [NdefX.ncx])) (fun b o e n => J.base.free b o e n (by simp [NdefX.ncx])) J.hok, rz, qz fun y c e => J.base.free c _ ((e0.hok c _ (C.known ⟨y, e⟩).choose_spec).1) (unc_in ⟨y, e⟩) (by simp [NdefX.ncx])⟩
  · exact wpAny_mono he (fun _ s'' z => out _ s'' z) fun _ s'' z => out _ s'' z
end
end Ed

set_option Elab.async false
set_option linter.all false
set_option maxRecDepth 100000
set_option maxHeartbeats 4000000
/-! Ed: lambdas made, and calls that hand one on. -/
namespace Ed
open PySem PySem.Spec PyProof.Rows L2

/-! ### a lambda is made -/
section
variable {X : Cx} {pins : List (Addr × Obj)} {σ : L2.St} {H : Hp} {s : Shared}
/-- one more object, known as it is -/
theorem track_push {o : Obj} {t' : Nat} (I : Inv X pins σ H s) (hf : o.isFreed = false := by rfl) : Inv X pins σ (upd H s.heap.objs.size (.frz o (.own 0))) { s with heap := s.heap.push o, toks := t' } := by
  have e : (s.heap.push o).get? s.heap.objs.size = some o := Heap.get?_push_size _ hf
  exact I.laid (fun b u z => Heap.get?_push_of_some _ z) (Nat.le_refl _) ⟨e, o, e⟩
theorem lam_made {T : List (Addr × Str)} {c P : Addr} {params : Arguments} {body : Expr} {scope : Scope} {pos : Pos} {E : Value → Shared → Prop} {Q : Value → Shared → Prop} (I : Inv X pins σ H s) (TB : LamX.TabB X.base X.mg c P) (hcode : X.env.code = .ref c)
    (hm : (P, X.env.qual ++ "<lambda>") ∈ T) (hu : ∀ p ∈ T, p.1 = P → p.2 = X.env.qual ++ "<lambda>") (hT : LamX.Tabs T H) (hdef : defaultsOf params X.env = ([], [])) (hfree : ∀ y ∈ scope.names, y.2 = .free → ∃ c, X.env.cells.lookup y.1 = some c)
    (h : ∀ (g c' : Addr) (pm ctv : Value) (H1 : Hp) (s' : Shared), Inv X pins σ H1 s' → LamX.ExtN H H1 → LamX.Tabs T H1 → H g = none →
      H1 g = some (.frz (PySem.W.kla_obj "<lambda>" (X.env.qual ++ "<lambda>") params body scope (cloFrom X.env.cells scope.names []) pm c' ctv) (.own 0)) → H1 c' = some (LamX.CodeO c' (X.env.qual ++ "<lambda>")) → Q (.ref g) s') :
    wpAny (model X.prog X.w) X.A (eval (.Lambda params body scope pos) X.env) Q E s := by
  obtain ⟨ps, hP, ht, ha⟩ := hT _ hm
  apply PySem.W.kla_eval hdef
  have bmP := TB.bm.keeps I.bk
  have rawP : s.heap.get? P = some { cls := .none, data := .fields ps } := I.hok P _ hP
  have ext2 : ∀ {H2 : Hp} {p : Addr} {o : Obj}, LamX.ExtN H H2 → H2 p = none → LamX.ExtN H (upd H2 p (.frz o (.own 0))) := fun {H2 p o} e n b u q nt => (upd_ne (ne_of_none (e b u q nt) n)).trans (e b u q nt)
  have tab2 : ∀ {H2 : Hp} {p : Addr} {o : Obj}, LamX.Tabs T H2 → H2 p = none → LamX.Tabs T (upd H2 p (.frz o (.own 0))) := fun {H2 p o} e n => e.ext fun b u q => (upd_ne (ne_of_none q n)).trans q
  cases hc : codeAmong pos ps.toList with
  | some cv =>
    obtain ⟨c', rfl, hco⟩ := ha pos cv hc
    apply PySem.W.kla_makeFunctionHit (mg := X.mg) (closure_ok hfree) I.ok.glob (I.mod.glob.keeps I.bk) hcode (TB.code.keeps I.bk) rawP ht hc bmP
    intro ctv h' tk hx hsz
    have I1 : Inv X pins σ H { s with heap := h', toks := tk } := I.kept hx
    have nF : H h'.objs.size = none := I1.hok.fresh (Nat.le_refl _)
    exact h h'.objs.size c' _ ctv _ _ (track_push I1) (ext2 (LamX.ExtN.refl H) nF) (tab2 hT nF) nF upd_same ((upd_ne (ne_of_none hco nF)).trans hco)
  | none =>
    apply PySem.W.kla_makeFunction (mg := X.mg) (closure_ok hfree) I.ok.glob (I.mod.glob.keeps I.bk) hcode (TB.code.keeps I.bk) rawP ht hc TB.gP bmP
    intro c' ctv h' tk hx hge hlt hrec htb
    obtain ⟨c2, oc, vs, t, e2, hoc, hd, hv⟩ := hrec
    obtain rfl : c' = c2 := Value.ref.inj e2
    have nC : H c' = none := I.hok.fresh hge
    have I1 := LamX.inv_table (t' := tk) (more := #[rawInt pos.line, rawInt pos.col, .ref c']) I hP (fun b o hb e => hx b o hb e) htb hge ⟨oc, vs, t, hoc, hd, hv⟩
    have nF := I1.hok.fresh (Nat.le_refl h'.objs.size)
    have hE : LamX.ExtN H (upd (upd H P (.tbl (ps ++ #[rawInt pos.line, rawInt pos.col, .ref c']))) c' (LamX.CodeO c' (X.env.qual ++ "<lambda>"))) := by
      intro b o e nt
      have nP : b ≠ P := fun z => by
        subst z
        rw [hP] at e
        exact nt ps (Option.some.inj e).symm
      exact (upd_ne (ne_of_none e nC)).trans ((upd_ne nP).trans e)
    have hT1 : LamX.Tabs T (upd (upd H P (.tbl (ps ++ #[rawInt pos.line, rawInt pos.col, .ref c']))) c' (LamX.CodeO c' (X.env.qual ++ "<lambda>"))) := by
      intro p hp
      by_cases hb : p.1 = P
      · rw [hu p hp hb, hb]
        refine ⟨ps ++ #[rawInt pos.line, rawInt pos.col, .ref c'], (upd_ne (ne_of_none hP nC)).trans upd_same, ?_, fun p' cv hcv => ?_⟩
        · rw [Array.toList_append]
          exact PySem.TriplesOk_snoc _ _ _ _ ht
        · rw [Array.toList_append] at hcv
          rcases LamX.among_app _ ht hcv with z | z
          · obtain ⟨c0, z1, z2⟩ := ha p' cv z
            exact ⟨c0, z1, hE _ _ z2 LamX.codeO_ne⟩
          · exact ⟨c', z, upd_same⟩
      · obtain ⟨qs, a1, a2, a3⟩ := hT p hp
        refine ⟨qs, (upd_ne (ne_of_none a1 nC)).trans ((upd_ne hb).trans a1), a2, fun p' cv hcv => ?_⟩
        obtain ⟨c0, z1, z2⟩ := a3 p' cv hcv
        exact ⟨c0, z1, hE _ _ z2 LamX.codeO_ne⟩
    have nF0 : H h'.objs.size = none := I.hok.fresh (Nat.le_trans hge (Nat.le_of_lt hlt))
    exact h h'.objs.size c' _ ctv _ _ (track_push I1) (ext2 hE nF) (tab2 hT1 nF) nF0 upd_same ((upd_ne (Nat.ne_of_lt hlt)).trans upd_same)
end
/-- lambda ..: .., its cells those of the frame -/
def tLamb (X : Cx) (T : List (Addr × Str)) (params : Arguments) (body : Expr) (scope : Scope) : TE := fun σ H Q => LamX.Tabs T H ∧ ∀ (g c' : Addr) (pm ctv : Value) (H1 : Hp), LamX.ExtN H H1 → LamX.Tabs T H1 → H g = none →
  H1 g = some (.frz (PySem.W.kla_obj "<lambda>" (X.env.qual ++ "<lambda>") params body scope (cloFrom X.env.cells scope.names []) pm c' ctv) (.own 0)) → H1 c' = some (LamX.CodeO c' (X.env.qual ++ "<lambda>")) →
  (∀ y, (cloFrom X.env.cells scope.names []).lookup y = some c' → False) → Q (.ref g) H1
section
variable {X : Cx}
theorem pe_lam {T : List (Addr × Str)} {c P : Addr} {params : Arguments} {body : Expr} {scope : Scope} {pos : Pos} (TB : LamX.TabB X.base X.mg c P) (hcode : X.env.code = .ref c)
    (hm : (P, X.env.qual ++ "<lambda>") ∈ T) (hu : ∀ p ∈ T, p.1 = P → p.2 = X.env.qual ++ "<lambda>") (hdef : defaultsOf params X.env = ([], []))
    (hfree : ∀ y ∈ scope.names, y.2 = .free → X.env.scope.names.lookup y.1 = some .cell ∨ X.env.scope.names.lookup y.1 = some .free) : PE X (.Lambda params body scope pos) (tLamb X T params body scope) := by
  constructor
  intro pins s σ H Q I h
  have hf : ∀ y ∈ scope.names, y.2 = .free → ∃ c, X.env.cells.lookup y.1 = some c := fun y hy e => I.ok.has _ (hfree y hy e)
  refine lam_made I TB hcode hm hu h.1 hdef hf fun g c' pm ctv H1 s' I1 e1 t1 n1 g1 k1 => ⟨.ref g, H1, I1, rfl, h.2 g c' pm ctv H1 e1 t1 n1 g1 k1 fun y hy => ?_⟩
  have z := I1.freeC y c' (NdefX.clo_cm hf hy)
  rw [k1] at z
  cases z
end

/-! ### a call with the frame's cells known -/
structure CovOf (env : Env) (N : List Str) (σ : L2.St) (H Hc : Hp) : Prop where
  out : ∀ b, (¬ ∃ y, env.cells.lookup y = some b) → Hc b = H b
  free : ∀ y c, env.cells.lookup y = some c → H c = none
  known : ∀ y c, env.cells.lookup y = some c → ∃ (o : Obj) (v : Option Value), Hc c = some (.frz o (.own 0)) ∧ o.data = .cell v
  inj : ∀ x y c, env.cells.lookup x = some c → env.cells.lookup y = some c → x = y
  slot : ∀ (i : Nat) (y : Str), N[i]? = some y → (env.scope.names.lookup y = some .cell ∨ env.scope.names.lookup y = some .free) → ∃ c, env.cells.lookup y = some c ∧
    ∀ v, σ[i]? = some (some v) → ∃ (o : Obj) (u : Value), Hc c = some (.frz o (.own 0)) ∧ o.data = .cell (some u) ∧ L2.RelV v u
theorem CovOf.same {env : Env} {N : List Str} {σ : L2.St} {H Hc : Hp} (C : CovOf env N σ H Hc) {b : Addr} {u : HO} (e : H b = some u) : Hc b = some u := by
  refine (C.out b ?_).trans e
  rintro ⟨y, hy⟩
  rw [C.free y b hy] at e
  cases e
/-- what was there, when the callee is back -/
theorem CovOf.back {env : Env} {N : List Str} {σ : L2.St} {H Hc H2 : Hp} (C : CovOf env N σ H Hc) {b : Addr} {u : HO} (e : H b = some u) (e2 : H2 b = some u) : unc env.cells H2 b = some u := by
  refine (unc_out ?_).trans e2
  rintro ⟨y, hy⟩
  rw [C.free y b hy] at e
  cases e
section
variable {X : Cx} {pins : List (Addr × Obj)} {σ : L2.St} {H H2 : Hp} {s s' : Shared}
theorem covOf (I : Inv X pins σ H s) : CovOf X.env X.N σ H (cov X.env.cells s.heap H) := by
  have at_ : ∀ y c v, X.env.cells.lookup y = some c → s.heap.IsCell c v → ∃ o : Obj, cov X.env.cells s.heap H c = some (.frz o (.own 0)) ∧ o.data = .cell v := fun y c v e ⟨o, ho, hd⟩ =>
    ⟨o, by rw [cov_in ⟨y, e⟩, ho]; rfl, hd⟩
  refine ⟨fun b nb => cov_out nb, I.freeC, fun y c e => ?_, I.ok.inj, fun i y e k => ?_⟩
  · obtain ⟨v, z⟩ := I.cell y c e
    obtain ⟨o, z1, z2⟩ := at_ y c v e z
    exact ⟨o, v, z1, z2⟩
  · obtain ⟨c, hc⟩ := I.ok.has y k
    refine ⟨c, hc, fun v ev => ?_⟩
    obtain ⟨m, _, hl⟩ := I.loc
    obtain ⟨u, r, l⟩ := hl i y v e ev (.inr k)
    rcases l with ⟨z, _⟩ | ⟨_, c2, e2, z⟩
    · have z' : X.env.scope.names.lookup y = some .local := z
      rcases k with k | k <;> rw [k] at z' <;> cases z'
    · rw [hc] at e2
      cases e2
      obtain ⟨o, z1, z2⟩ := at_ y c _ hc z
      exact ⟨o, u, z1, z2, r⟩
theorem cov_env0 (I : Inv X pins σ H s) (hfn : ∀ x, X.fn x = true) : Env0 X.prog X.w X.K X.mg X.base X.A X.stack s (cov X.env.cells s.heap H) ∧ ∀ y c, X.env.cells.lookup y = some c → c ∉ frs X.stack := by
  have hi : ∀ y c, X.env.cells.lookup y = some c → X.s_0.heap.objs.size ≤ c := fun y c e => I.ok.cab y c (hfn y) e
  have nfr : ∀ y c, X.env.cells.lookup y = some c → c ∉ frs X.stack := fun y c e hb => by
    rcases List.mem_cons.mp (I.stkSub c hb) with z | z
    · exact I.cne y c e z
    · obtain ⟨_, o, ho, _⟩ := I.ok.funs.mem z
      exact absurd (Heap.lt_size ho) (Nat.not_lt.mpr (hi y c e))
  have e0 := I.env0
  refine ⟨⟨e0.frames, e0.mod, fun b o e => ⟨(e0.bs b o e).1, (cov_out fun ⟨y, hy⟩ => ?_).trans (e0.bs b o e).2⟩, e0.bsz, e0.funs, fun b hb => (cov_out fun ⟨y, hy⟩ => nfr y b hy hb).trans (e0.frf b hb), hok_cov I.hok I.freeC, e0.bare⟩, nfr⟩
  have h1 := Heap.lt_size e
  have h2 := hi y b hy
  exact absurd (Nat.lt_of_lt_of_le h1 (Nat.le_trans I.ok.bsz h2)) (Nat.lt_irrefl _)
/-- behind the call: the cells are the frame's own again -/
theorem cov_after (I : Inv X pins σ H s) (hfn : ∀ x, X.fn x = true) (u : Un (frs X.stack) [] (cov X.env.cells s.heap H) H2 s.heap s'.heap) (hok : HOk X.prog X.w H2 s'.heap) (os : s'.os = s.os) (ag : AllBare s'.gens) : Inv X pins σ (unc X.env.cells H2) s' := by
  obtain ⟨_, nfr⟩ := cov_env0 I hfn
  have cellAt : ∀ b, (∃ y, X.env.cells.lookup y = some b) → ∃ o, s.heap.get? b = some o ∧ H2 b = some (.frz o (.own 0)) := fun b hb => by
    obtain ⟨y, hy⟩ := hb
    obtain ⟨v, o, ho, hd⟩ := I.cell y b hy
    exact ⟨o, ho, u.frzs b o _ (by rw [cov_in ⟨y, hy⟩, ho]; rfl)⟩
  have nC : ∀ {b v}, H b = some v → ¬ ∃ y, X.env.cells.lookup y = some b := fun {b v} e ⟨y, hy⟩ => by
    rw [I.freeC y b hy] at e
    cases e
  refine I.call' (ch := []) os ⟨fun b o e n hb hx => ?_, fun b o e n hb hx => ?_, fun b o e n hx => ?_, u.there, fun b xs e => ?_, fun b o v e => ?_, fun b qs e => ?_⟩ (hok_unc hok fun y c v e q => ?_) ag (fun _ z => nomatch z)
  · by_cases hc : ∃ y, X.env.cells.lookup y = some b
    · obtain ⟨o2, ho, z⟩ := cellAt b hc
      rw [e] at ho
      cases ho
      exact (hok b _ z).1
    · exact u.keep b o e ((cov_out hc).trans n) hb hx
  · exact u.slot b o e ((cov_out fun ⟨y, hy⟩ => nfr y b hy hb).trans n) hb hx
  · by_cases hc : ∃ y, X.env.cells.lookup y = some b
    · exact unc_in hc
    · exact (unc_out hc).trans (u.free b o e ((cov_out hc).trans n) hx)
  · exact (unc_out (nC e)).trans (u.tups b xs ((cov_out (nC e)).trans e))
  · exact (unc_out (nC e)).trans (u.frzs b o v ((cov_out (nC e)).trans e))
  · obtain ⟨more, z⟩ := u.tbls b qs ((cov_out (nC e)).trans e)
    exact ⟨more, (unc_out (nC e)).trans z⟩
  · obtain ⟨o, _, z⟩ := cellAt c ⟨y, e⟩
    rw [z] at q
    cases q
    exact ⟨o, rfl⟩
end
/-- x(e, ..), a lambda of this frame among the arguments: raises nothing -/
def tCallC (X : Cx) (sp : Sp) (t : TA) : TE := fun σ H Q => t σ H fun vs H1 => ∀ Hc, CovOf X.env X.N σ H1 Hc → sp vs Hc (fun v H2 => Q v (unc X.env.cells H2)) E0
section
variable {X : Cx} {j k : Nat} {sp : Sp} {x : Str} {p pos : Pos} {e : Expr} {es : List Expr} {t : TA}
theorem pe_vc (c : CalV X.prog X.w X.K X.mg X.base k x sp) (hr : RoomG j X.A) (hk : k ≤ j) (hg : Gl X x) (hfn : ∀ x, X.fn x = true) (ha : PA X (e :: es) t)
    (hdb : (x == ("__debug__" : Str)) = false := by decide) (hst : starEach (e :: es) X.env = (false, eval e X.env) :: starEach es X.env := by rfl) (hpl : (backTo pos (starEach es X.env)).any (·.1) = false := by rfl) :
    PE X (.Call (.Name x p) (e :: es) [] pos) (tCallC X sp t) := by
  constructor
  intro pins s σ H Q I h
  obtain ⟨f, F, hm, oc, od, fd, sl, lk⟩ := c.ex
  apply wpAny_Call_Name_kw
  refine ld_glob I hg hm ?_ hdb
  refine PySem.W.callWith_F ⟨oc, od, fd, sl, I.kIn _ _ lk⟩ (thn (ha.run pos pins s σ H _ I h) ?_) hst hpl
  rintro us s1 ⟨vs, H1, I1, r, q⟩
  refine ⟨⟨oc, od, fd, sl, I1.kIn _ _ lk⟩, ?_⟩
  apply wpAny_call
  refine codeAny_mono (F.run X.A X.stack s1 _ us vs _ E0 (hr.mono hk) (cov_env0 I1 hfn).1 r (q _ (covOf I1))) fun res s' hq => ?_
  match res, hq with
  | .error e, ⟨_, _, _, _, _, _, _, _, _, _, _, _, z⟩ => exact z.elim
  | .ok (.ret u), ⟨v, H2, os, bare, un, hok, rv, qv⟩ => exact ⟨v, _, cov_after I1 hfn un hok os bare, rv, qv⟩
  | .ok .next, hq => exact hq.elim
  | .ok .brk, hq => exact hq.elim
  | .ok .cont, hq => exact hq.elim
end
/-- the captured cells of a lambda, as the callee knows them -/
theorem CovOf.cells {env : Env} {N : List Str} {σ : L2.St} {H Hc : Hp} (C : CovOf env N σ H Hc) {scope : Scope} {fr : List Str} {js : List Nat} (hf : ∀ y ∈ scope.names, y.2 = .free → env.scope.names.lookup y.1 = some .cell ∨ env.scope.names.lookup y.1 = some .free)
    (hc : ∀ y ∈ scope.names, y.2 = .free → ∃ c, env.cells.lookup y.1 = some c) (hfr : ∀ y ∈ fr, (y, NameKind.free) ∈ scope.names) (hjs : js.map (fun j => N[j]?) = fr.map some) : CellsT (cloFrom env.cells scope.names []) fr (js.map (NdefX.slotAt σ)) Hc := by
  have len : js.length = fr.length := by
    have z := congrArg List.length hjs
    rwa [List.length_map, List.length_map] at z
  refine ⟨by rw [List.length_map]; exact len, fun y c e => C.known y c (NdefX.clo_cm hc e), fun a b c e1 e2 => C.inj a b c (NdefX.clo_cm hc e1) (NdefX.clo_cm hc e2), fun i y e => ?_⟩
  have hy := hfr y (List.mem_of_getElem? e)
  have hj : ∃ j, js[i]? = some j ∧ N[j]? = some y := by
    have z : (js.map fun j => N[j]?)[i]? = some (some y) := by
      rw [hjs, List.getElem?_map, e]
      rfl
    rw [List.getElem?_map] at z
    cases ej : js[i]? with
    | none =>
      rw [ej] at z
      cases z
    | some j =>
      rw [ej] at z
      exact ⟨j, rfl, Option.some.inj z⟩
  obtain ⟨j, j1, j2⟩ := hj
  obtain ⟨c, c1, c2⟩ := C.slot j y j2 (hf (y, .free) hy rfl)
  refine ⟨c, NdefX.clo_has hc hy c1, fun v ev => c2 v ?_⟩
  rw [List.getElem?_map, j1] at ev
  exact NdefX.slotAt_some (Option.some.inj ev)
end Ed

set_option Elab.async false
set_option linter.all false
set_option maxRecDepth 100000
set_option maxHeartbeats 4000000
/-! Ed: data in tuples, what a call leaves as it was, repr, the source of draws. -/
namespace Ed
open PySem PySem.Spec PyProof.Rows L2

/-! ### data told by tuples, ints, texts, bools and None -/
/-- the object at a is a tuple of xs, known as it is, without a dict of its own -/
def Tp (H : Hp) (a : Addr) (xs : List V) : Prop := ∃ o : Obj, H a = some (.frz o (.tup xs)) ∧ o.dict = none
theorem Tp.sq {K : PySem.W.Frag} {H : Hp} {a : Addr} {xs : List V} (t : Tp H a xs) : SqT K H a xs := .inl (.inr ⟨t.choose, t.choose_spec.1⟩)
theorem Tp.ne_none {H : Hp} {a p : Addr} {xs : List V} (t : Tp H a xs) (n : H p = none) : a ≠ p := ne_of_none t.choose_spec.1 n
theorem Tp.made {H : Hp} {p : Addr} {o : Obj} {xs : List V} (d : o.dict = none) : Tp (upd H p (.frz o (.tup xs))) p xs := ⟨o, upd_same, d⟩
mutual
inductive Td (H : Hp) : V → PyData → Prop
  | non : Td H .non .none
  | bl (b : Bool) : Td H (.bl b) (.bool b)
  | int (i : Int) : Td H (.int i) (.int i)
  | str (x : Str) : Td H (.str x) (.str x)
  | tup {a : Addr} {xs : List V} {ds : List PyData} : Tp H a xs → TdAll H xs ds → Td H (.ref a) (.tuple ds)
inductive TdAll (H : Hp) : List V → List PyData → Prop
  | nil : TdAll H [] []
  | cons {v : V} {vs : List V} {d : PyData} {ds : List PyData} : Td H v d → TdAll H vs ds → TdAll H (v :: vs) (d :: ds)
end
/-- tuples stay -/
def TX (H H' : Hp) : Prop := ∀ b xs, Tp H b xs → Tp H' b xs
theorem TX.refl (H : Hp) : TX H H := fun _ _ e => e
theorem TX.trans {H H1 H2 : Hp} (a : TX H H1) (b : TX H1 H2) : TX H H2 := fun c xs e => b c xs (a c xs e)
theorem TX.new {H : Hp} {p : Addr} {o : HO} (n : H p = none) : TX H (upd H p o) := fun b xs ⟨t, e, d⟩ => ⟨t, (upd_ne (ne_of_none e n)).trans e, d⟩
theorem TX.lst {H : Hp} {p : Addr} {ys : List V} {o : HO} (n : H p = some (.lst ys)) : TX H (upd H p o) := fun b xs ⟨t, e, d⟩ => ⟨t, (upd_ne fun z => by
  rw [z, n] at e
  cases e).trans e, d⟩
theorem TX.of {H H' : Hp} (k : ∀ b o, H b = some o → H' b = some o) : TX H H' := fun b xs ⟨t, e, d⟩ => ⟨t, k _ _ e, d⟩
mutual
theorem Td.mono {H H' : Hp} (e : TX H H') : ∀ {d : PyData} {v : V}, Td H v d → Td H' v d
  | .none, _, .non => .non
  | .bool b, _, .bl _ => .bl b
  | .int i, _, .int _ => .int i
  | .str x, _, .str _ => .str x
  | .tuple ds, _, .tup h q => .tup (e _ _ h) (TdAll.mono e q)
theorem TdAll.mono {H H' : Hp} (e : TX H H') : ∀ {ds : List PyData} {vs : List V}, TdAll H vs ds → TdAll H' vs ds
  | [], _, .nil => .nil
  | _ :: _, _, .cons a b => .cons (Td.mono e a) (TdAll.mono e b)
end
mutual
theorem Td.dp {K : PySem.W.Frag} {H : Hp} : ∀ {d : PyData} {v : V}, Td H v d → Dp K H v d
  | .none, _, .non => .non
  | .bool b, _, .bl _ => .bl b
  | .int i, _, .int _ => .int i
  | .str x, _, .str _ => .str x
  | .tuple ds, _, .tup h q => .tup h.sq (TdAll.dp q)
theorem TdAll.dp {K : PySem.W.Frag} {H : Hp} : ∀ {ds : List PyData} {vs : List V}, TdAll H vs ds → DpAll K H vs ds
  | [], _, .nil => .nil
  | _ :: _, _, .cons a b => .cons (Td.dp a) (TdAll.dp b)
end
theorem TdAll.len {H : Hp} : ∀ {ds : List PyData} {vs : List V}, TdAll H vs ds → vs.length = ds.length
  | [], _, .nil => rfl
  | _ :: _, _, .cons _ b => congrArg Nat.succ (TdAll.len b)
theorem TdAll.get {H : Hp} : ∀ {ds : List PyData} {vs : List V} {i : Nat} {v : V}, TdAll H vs ds → vs[i]? = some v → ∃ d, ds[i]? = some d ∧ Td H v d
  | [], _, i, v, .nil, e => by simp at e
  | d :: _, _, 0, v, .cons a _, e => ⟨d, rfl, by
      have z : _ = v := Option.some.inj e
      subst z
      exact a⟩
  | _ :: _, _, i + 1, v, .cons _ b, e => TdAll.get (i := i) b (by simpa using e)
theorem TdAll.at_ {H : Hp} : ∀ {ds : List PyData} {vs : List V} {i : Nat} {d : PyData}, TdAll H vs ds → ds[i]? = some d → ∃ v, vs[i]? = some v ∧ Td H v d
  | [], _, i, d, .nil, e => by simp at e
  | _ :: _, v :: _, 0, d, .cons a _, e => ⟨v, rfl, by
      have z : _ = d := Option.some.inj e
      subst z
      exact a⟩
  | _ :: _, _, i + 1, d, .cons _ b, e => TdAll.at_ (i := i) b (by simpa using e)
theorem TdAll.snoc {H : Hp} : ∀ {ds : List PyData} {vs : List V} {d : PyData} {v : V}, TdAll H vs ds → Td H v d → TdAll H (vs ++ [v]) (ds ++ [d])
  | [], _, d, v, .nil, a => .cons a .nil
  | _ :: _, _, d, v, .cons q r, a => .cons q (TdAll.snoc r a)
theorem Td.tuple_inv {H : Hp} {v : V} {ds : List PyData} (h : Td H v (.tuple ds)) : ∃ a xs, v = .ref a ∧ Tp H a xs ∧ TdAll H xs ds := by
  cases h with
  | tup e q => exact ⟨_, _, rfl, e, q⟩

/-! ### what stays -/
/-- all stays but the lists at S; tables of code objects grow rightly -/
structure Ex (T : List (Addr × Str)) (S : List Addr) (H H' : Hp) : Prop where
  keep : ∀ b o, b ∉ S → H b = some o → (∀ ps, o ≠ .tbl ps) → H' b = some o
  tups : TX H H'
  tabs : LamX.Tabs T H → LamX.Tabs T H'
section
variable {T : List (Addr × Str)} {S S' : List Addr} {H H1 H2 : Hp} {p : Addr} {o : HO}
theorem Ex.refl (H : Hp) : Ex T S H H := ⟨fun _ _ _ e _ => e, TX.refl H, fun t => t⟩
theorem Ex.trans (a : Ex T S H H1) (b : Ex T S H1 H2) : Ex T S H H2 := ⟨fun c o n e t => b.keep c o n (a.keep c o n e t) t, a.tups.trans b.tups, fun t => b.tabs (a.tabs t)⟩
theorem Ex.weak (a : Ex T S H H1) (h : ∀ b ∈ S, b ∈ S') : Ex T S' H H1 := ⟨fun c o n e t => a.keep c o (fun z => n (h c z)) e t, a.tups, a.tabs⟩
theorem Ex.of_same (e : ∀ b o, H b = some o → H1 b = some o) : Ex T S H H1 := ⟨fun b o _ q _ => e b o q, TX.of e, fun t => t.ext e⟩
theorem Ex.upd_new (n : H p = none) : Ex T S H (upd H p o) := Ex.of_same fun b u e => (upd_ne (ne_of_none e n)).trans e
/-- something new beside, later -/
theorem Ex.new (a : Ex T S H H1) (n : H1 p = none) : Ex T S H (upd H1 p o) := a.trans (Ex.upd_new n)
theorem Ex.none_of (a : Ex T S H H1) (n : H1 p = none) (hp : p ∉ S) : H p = none ∨ ∃ ps, H p = some (.tbl ps) := by
  cases e : H p with
  | none => exact .inl rfl
  | some u =>
    by_cases q : ∃ ps, u = .tbl ps
    · obtain ⟨ps, rfl⟩ := q
      exact .inr ⟨ps, rfl⟩
    · rw [a.keep p u hp e fun ps z => q ⟨ps, z⟩] at n
      cases n
/-- nothing that counts stood there -/
def Fresh (H : Hp) (p : Addr) : Prop := ∀ u, H p = some u → ∃ ps, u = .tbl ps
theorem Fresh.of {H : Hp} {p : Addr} (n : H p = none) : Fresh H p := fun u e => by
  rw [n] at e
  cases e
theorem Ex.fresh (a : Ex T S H H1) (n : H1 p = none) (hp : p ∉ S) : Fresh H p := fun u e => by
  rcases a.none_of n hp with z | ⟨ps, z⟩
  · rw [z] at e
    cases e
  · rw [z] at e
    cases e
    exact ⟨ps, rfl⟩
/-- a list written: one of S, or one that was not there at first -/
theorem Ex.put {ys : List V} {zs : List V} (a : Ex T S H H1) (h1 : H1 p = some (.lst ys)) (h0 : p ∈ S ∨ Fresh H p) : Ex T S H (upd H1 p (.lst zs)) := by
  have tx : TX H (upd H1 p (.lst zs)) := a.tups.trans (TX.lst h1)
  refine ⟨fun b u n e t => (upd_ne fun z => ?_).trans (a.keep b u n e t), tx, fun t q hq => ?_⟩
  · rcases h0 with h0 | h0
    · exact n (z ▸ h0)
    · rw [z] at e
      obtain ⟨ps, z2⟩ := h0 u e
      exact t ps z2
  · obtain ⟨ps, a1, a2, a3⟩ := a.tabs t q hq
    have ne : ∀ c u, H1 c = some u → u ≠ .lst ys → upd H1 p (.lst zs) c = some u := fun c u e d => (upd_ne fun z => by
      rw [z, h1] at e
      exact d (Option.some.inj e).symm).trans e
    refine ⟨ps, ne _ _ a1 (by simp), a2, fun p' cv hc => ?_⟩
    obtain ⟨c, c1, c2⟩ := a3 p' cv hc
    exact ⟨c, c1, ne _ _ c2 (by unfold LamX.CodeO; simp)⟩
theorem Ex.seq {K : PySem.W.Frag} {a : Addr} {xs : List V} (e : Ex T S H H1) (n : a ∉ S) (h : SqL K H a xs) : SqL K H1 a xs := by
  rcases h with (h | ⟨o, h⟩) | h
  · exact .inl (.inl (e.keep _ _ n h (by simp)))
  · exact .inl (.inr ⟨o, e.keep _ _ n h (by simp)⟩)
  · exact .inr h
theorem Ex.at_lst {a : Addr} {xs : List V} (e : Ex T S H H1) (n : a ∉ S) (h : H a = some (.lst xs)) : H1 a = some (.lst xs) := e.keep _ _ n h (by simp)
theorem Ex.at_frz {a : Addr} {o : Obj} {u : HO} (e : Ex T S H H1) (n : a ∉ S) (h : H a = some (.frz o u)) : H1 a = some (.frz o u) := e.keep _ _ n h (by simp)
end
/-- within a lambda: the cells are dropped and put back -/
theorem Ex.cells {T : List (Addr × Str)} {S : List Addr} {cl : List (Str × Addr)} {fr : List Str} {ws : List (Option V)} {H H' : Hp} (C : CellsT cl fr ws H) (e : Ex T S (unc cl H) H') (n0 : NoCell cl H') : Ex T S H (rec_ cl H H') := by
  have nb : ∀ b u, H b = some u → (∀ o, u ≠ .frz o (.own 0)) → ¬ ∃ y, cl.lookup y = some b := fun b u e d q => by
    obtain ⟨o, z⟩ := C.known q
    rw [z] at e
    exact d o (Option.some.inj e).symm
  refine ⟨fun b u n q t => ?_, fun b xs ⟨o, q, d⟩ => ?_, fun t => ?_⟩
  · by_cases z : ∃ y, cl.lookup y = some b
    · exact (rec_in z).trans q
    · exact (rec_out z).trans (e.keep b u n ((unc_out z).trans q) t)
  · have z := nb b _ q (by simp)
    obtain ⟨o2, q2, d2⟩ := e.tups b xs ⟨o, (unc_out z).trans q, d⟩
    exact ⟨o2, (rec_out z).trans q2, d2⟩
  · have t1 : LamX.Tabs T (unc cl H) := fun p hp => by
      obtain ⟨ps, a1, a2, a3⟩ := t p hp
      refine ⟨ps, (unc_out (nb _ _ a1 (by simp))).trans a1, a2, fun p' cv hc => ?_⟩
      obtain ⟨c, c1, c2⟩ := a3 p' cv hc
      exact ⟨c, c1, (unc_out (nb _ _ c2 (by unfold LamX.CodeO; simp))).trans c2⟩
    intro p hp
    obtain ⟨ps, a1, a2, a3⟩ := e.tabs t1 p hp
    obtain ⟨ps0, b1, _, _⟩ := t p hp
    have np : ¬ ∃ y, cl.lookup y = some p.1 := nb _ _ b1 (by simp)
    refine ⟨ps, (rec_out np).trans a1, a2, fun p' cv hc => ?_⟩
    obtain ⟨c, c1, c2⟩ := a3 p' cv hc
    refine ⟨c, c1, ?_⟩
    by_cases z : ∃ y, cl.lookup y = some c
    · obtain ⟨y, hy⟩ := z
      rw [n0 y c hy] at c2
      cases c2
    · exact (rec_out z).trans c2
theorem Ex.uncov {T : List (Addr × Str)} {S : List Addr} {env : Env} {N : List Str} {σ : L2.St} {H Hc H2 : Hp} (C : CovOf env N σ H Hc) (hS : ∀ y c, env.cells.lookup y = some c → c ∉ S) (e : Ex T S Hc H2) : Ex T S H (unc env.cells H2) := by
  have nb : ∀ b u, H b = some u → ¬ ∃ y, env.cells.lookup y = some b := fun b u e ⟨y, hy⟩ => by
    rw [C.free y b hy] at e
    cases e
  refine ⟨fun b u n q t => (unc_out (nb b u q)).trans (e.keep b u n (C.same q) t), fun b xs ⟨o, q, d⟩ => ?_, fun t p hp => ?_⟩
  · obtain ⟨o2, q2, d2⟩ := e.tups b xs ⟨o, C.same q, d⟩
    exact ⟨o2, (unc_out (nb b _ q)).trans q2, d2⟩
  have t1 : LamX.Tabs T Hc := t.ext fun b o q => C.same q
  obtain ⟨ps, a1, a2, a3⟩ := e.tabs t1 p hp
  obtain ⟨ps0, b1, _, _⟩ := t p hp
  refine ⟨ps, (unc_out (nb _ _ b1)).trans a1, a2, fun p' cv hc => ?_⟩
  obtain ⟨c, c1, c2⟩ := a3 p' cv hc
  refine ⟨c, c1, (unc_out ?_).trans c2⟩
  rintro ⟨y, hy⟩
  obtain ⟨o, v, z, _⟩ := C.known y c hy
  have z2 := e.at_frz (hS y c hy) z
  rw [c2] at z2
  unfold LamX.CodeO at z2
  cases z2

/-! ### repr -/
def rRepr (K : PySem.W.Frag) : List V → Hp → VK → Prop := fun xs H Q => ∃ x d, xs = [x] ∧ Dp K H x d ∧ d.showable = true ∧ d.hasDict = false ∧ d.depth ≤ 60 ∧ d.shown.length ≤ sizeLine ∧ Q (.str d.shown) H
theorem call_repr {X : Cx} (hg : X.A.guards = some []) (hu : X.A.units + 65 < cLine) : CallR X (.builtin "repr") (rRepr X.K) := by
  intro pins s σ H xs us Q I r h
  obtain ⟨x, d, rfl, hd, hs, hnd, hdp, hz, q⟩ := h
  obtain ⟨u, rfl, rx⟩ := vals1 r
  have fin : ∀ (h' : Heap) (t : Tok) (tk : Nat), (∀ b o, s.heap.get? b = some o → h'.get? b = some o) → EP X pins σ Q (.str d.shown t) { s with heap := h', toks := tk } := fun h' t tk hk =>
    ⟨.str d.shown, H, I.kept hk, ⟨t, rfl⟩, q⟩
  match x, d, hd with
  | .non, _, .non =>
    cases rx
    exact PySem.P.repr_of_none (fin s.heap _ _ fun _ _ e => e)
  | .bl b, _, .bl _ =>
    cases rx
    exact PySem.P.repr_of_bool (by cases b <;> exact fin s.heap _ _ fun _ _ e => e)
  | .int i, _, .int _ =>
    obtain ⟨t, rfl⟩ := rx
    exact PySem.P.repr_of_int (by simpa [PyData.showable] using hs) (fin s.heap _ _ fun _ _ e => e)
  | .str y, _, .str _ =>
    obtain ⟨t, rfl⟩ := rx
    exact PySem.P.repr_of_str (fin s.heap _ _ fun _ _ e => e) (by simpa only [PyData.shown] using hz)
  | .ref a, d, hd =>
    cases rx
    obtain ⟨as, hr⟩ := Dp.reads I d (.ref a) (.ref a) hd rfl
    exact repr_of_reads' hr hs (PyData.noDict_hsm hnd) hg (by omega) (fun _ _ e => e) (fun h' t tk hk => fin h' t tk hk) hz
end Ed

set_option Elab.async false
set_option linter.all false
set_option maxRecDepth 100000
set_option maxHeartbeats 4000000
/-! Ed: enumerate of a tuple, a range as a value, the place of data in a tuple. -/
namespace Ed
open PySem PySem.Spec PyProof.Rows L2
open AutoSeq1 (wpAny_loadPart')

/-! ### a range as a value -/
theorem cr_range1 {X : Cx} : CallR X (.type "range") (fun vs H Q => ∃ n, vs = [V.int n] ∧ ∀ p, H p = none → Q (.ref p) (upd H p (.rng 0 n))) := by
  intro pins s σ H vs us Q I r h
  obtain ⟨n, rfl, q⟩ := h
  obtain ⟨u, rfl, t, rfl⟩ := vals1 r
  apply call_range_1
  have e := Heap.get?_push_size s.heap (o := { cls := .type "range", data := .fields #[.int 0 s.toks, .int n t, .int 1 (s.toks + 1)] }) rfl
  exact ⟨.ref s.heap.objs.size, _, I.laid (o := .rng 0 n) (fun b o z => Heap.get?_push_of_some _ z) (Nat.le_refl _) ⟨_, _, _, e⟩, rfl, q _ (I.hok.fresh (Nat.le_refl _))⟩
def iRngV (tl : TE) : TI := fun σ H R => tl σ H fun x H1 => ∃ a lo hi, x = .ref a ∧ H1 a = some (.rng lo hi) ∧ (-(2 ^ 62) ≤ lo ∧ lo < 2 ^ 62 ∧ -(2 ^ 62) ≤ hi ∧ hi < 2 ^ 62) ∧ R (Itr lo (hi - lo).toNat) H1
theorem pi_rngV {X : Cx} {tg l : Expr} {tl : TE} (hl : PE X l tl) : PI X tg l (iRngV tl) := by
  constructor
  intro pins s σ H R I h
  refine thn (hl.run pins s σ H _ I h) ?_
  rintro v s1 ⟨x, H1, I1, r1, a, lo, hi, rfl, ha, ⟨b1, b2, b3, b4⟩, q⟩
  cases r1
  obtain ⟨t, u, z, ho⟩ := I1.hok a _ ha
  have hrg : IsRange s1.heap a lo hi 1 t u z := ho
  apply wpAny_pyIter_range hrg (small_one b1 b2 b3 b4)
  refine ⟨_, [s1.heap.objs.size], _, _, H1, rfl, I1.kept (t' := s1.toks) fun b o e => Heap.get?_push_of_some _ e, turn_range _ lo (hi - lo).toNat, ?_, fun b hb => ?_, q⟩
  · have e2 : (((hi - lo).toNat : Nat) : Int) - ((0 : Nat) : Int) = Builtin.Range.rangeSize lo hi 1 := by
      rw [rangeSize_one]
      split <;> omega
    show IsRangeIter _ _ (lo + ((0 : Nat) : Int) * 1) ((((hi - lo).toNat : Nat) : Int) - ((0 : Nat) : Int)) 1
    rw [e2, show lo + ((0 : Nat) : Int) * 1 = lo by simp]
    exact Heap.get?_push_size _ rfl
  · rw [List.mem_singleton.mp hb]
    exact I1.fpOk (Nat.le_refl _) (I1.hok.fresh (Nat.le_refl _))

/-! ### enumerate(t), t a tuple -/
theorem enum_tuple_made (l : Addr) (items : Array Value) (n : Nat) (dct : Option Addr) (sl : Array (Option Value)) :
    Meets (Builtin.«enumerate.__new__» ⟨[.type "enumerate", .ref l], []⟩) (fun _ R s => s.heap.get? l = some { cls := .type "tuple", dict := dct, data := .seq items n, slots := sl } ∧
      R (.ok (.ret (.ref (s.heap.push { cls := .type "tuple_iterator", data := .fields #[.ref l, .int 0 0] }).objs.size)))
        { s with heap := (s.heap.push { cls := .type "tuple_iterator", data := .fields #[.ref l, .int 0 0] }).push { cls := .type "enumerate", data := .fields #[.none, .bool false, .ref s.heap.objs.size, rawInt 0, .none, .none] } }) := by
  refine .of_wp fun prog w A R s h => ?_
  obtain ⟨hp, g, d, tk, os⟩ := s
  obtain ⟨hl, h⟩ := h
  have isE := sub_enumerate
  have hT : Heap.IsTuple (Shared.heap ⟨hp, g, d, tk, os⟩) l items := ⟨_, hl, rfl, n, rfl⟩
  wp_walk using wpAny_loadPart' hl
  refine wpAny_stack_any fun st => wpAny_pure ?_
  split
  · rename_i c _ _ _ _ _
    cases (c == Value.type "enumerate") <;> (wp_walk using wpAny_loadPart' hl, wpAny_pyIter_tuple hT; exact ⟨_, rfl, h⟩)
  · wp_walk using wpAny_loadPart' hl, wpAny_pyIter_tuple hT
    exact ⟨_, rfl, h⟩
theorem call_enum_tuple {prog : Program} {w : World} {A : Around} {E : Value → Shared → Prop} {s : Shared} {l : Addr} {items : Array Value} {Q : Value → Shared → Prop} (hL : s.heap.IsTuple l items)
    (h : ∀ h', IsEnum h' (s.heap.objs.size + 1) s.heap.objs.size 0 .none → h'.IsTupleIter s.heap.objs.size l 0 → (∀ b o, s.heap.get? b = some o → h'.get? b = some o) → Q (.ref (s.heap.objs.size + 1)) { s with heap := h' }) :
    wpAny (model prog w) A (call (.type "enumerate") [.ref l]) Q E s := by
  obtain ⟨⟨c, dct, dt, sl⟩, hl, hc, n, hd⟩ := hL
  cases (show c = .type "tuple" from hc)
  cases (show dt = .seq items n from hd)
  apply callType_new F.called_enumerate (by decide) (F.typeCall_enumerate_1 _) (F.newCall_enumerate_1 _) (fun obj => F.args_object_init_2 obj _) F.entry_enumerate_new (enum_tuple_made l items n dct sl)
  refine ⟨hl, ?_⟩
  have hz : (s.heap.push { cls := .type "tuple_iterator", data := .fields #[.ref l, .int 0 0] }).objs.size = s.heap.objs.size + 1 := Heap.size_push ..
  show _ ∧ _
  rw [hz]
  have made := Heap.get?_push_size (s.heap.push { cls := .type "tuple_iterator", data := .fields #[.ref l, .int 0 0] }) (o := { cls := .type "enumerate", data := .fields #[.none, .bool false, .ref s.heap.objs.size, rawInt 0, .none, .none] }) rfl
  rw [hz] at made
  exact ⟨⟨_, made, rfl⟩, h _ made ⟨_, Heap.get?_push_of_some _ (Heap.get?_push_size _ rfl), rfl, rfl⟩ fun b o x => Heap.get?_push_of_some _ (Heap.get?_push_of_some _ x)⟩
/-- the tuple at a, each item in a new pair behind its number -/
def IteT (K : PySem.W.Frag) (a : Addr) : It :=
  ⟨fun i H => ∃ (xs : List V) (x : V), SqT K H a xs ∧ xs[i]? = some x, fun i H v H' => ∃ p x, v = .ref p ∧ H p = none ∧ H' = upd H p (.tup [.int (i : Nat), x]) ∧ ∀ xs, SqT K H a xs → xs[i]? = some x, fun i H => ∃ xs : List V, SqT K H a xs ∧ xs.length = i⟩
theorem turn_enumT {P : Program} {w : World} {K : PySem.W.Frag} {elts : List Expr} {kk : Nat} {tpos : Pos} (a e it : Addr) (items : Array Value) (hat : a ≠ it) (hae : e ≠ a) :
    Turn P w K (.Tuple elts kk tpos) (IteT K a) [e, it] e (fun i h => (∃ old, IsEnum h e it ((i : Nat) : Int) old) ∧ h.IsTupleIter it a i ∧ e ≠ it) where
  mem := List.mem_cons_self
  obj := by
    rintro i h ⟨⟨old, he⟩, ⟨o, ho, _, hd⟩, _⟩ b hb
    rcases List.mem_cons.mp hb with rfl | hb
    · exact ⟨_, he, fun v q => nomatch q⟩
    · rw [List.mem_singleton.mp hb]
      refine ⟨o, ho, fun v q => ?_⟩
      rw [hd] at q
      cases q
  keep := by
    rintro i h h' ⟨⟨old, he⟩, hi, hne⟩ k
    exact ⟨⟨old, k e List.mem_cons_self _ he⟩, hi.at fun o q => k it (List.mem_cons_of_mem _ List.mem_cons_self) o q, hne⟩
  item := by
    intro X hP hw hK hc i pins s σ H E I hf st hg
    subst hP hw hK
    obtain ⟨⟨old, he⟩, hit, hne⟩ := st
    obtain ⟨xs, x, hq, hx⟩ := hg
    obtain ⟨its, rv, p, hz⟩ := I.tuple hq
    obtain ⟨u, hu, ru⟩ := rv.get hx
    have hT0 : s.heap.IsTuple a its.toArray := p
    have hel : e < s.heap.objs.size := Heap.lt_size he
    have hil : it < s.heap.objs.size := by
      obtain ⟨_, q, _⟩ := hit
      exact Heap.lt_size q
    have hh : X.A.in1.handled = none := I.ok.hd hc
    have D := Draws.tuple (prog := X.prog) (w := X.w) hh it a hat its.toArray
    have hlt : i < its.toArray.size := by
      have := (List.getElem?_eq_some_iff.mp hu).1
      simpa using this
    have hef : e ∉ [it, a] := by
      simp only [List.mem_cons, List.not_mem_nil, or_false, not_or]
      exact ⟨hne, hae⟩
    refine wpAny_pyNext_enum_itemD D he ⟨hit, hT0⟩ hlt hne hef fun y h' tk hy ho st' hT hsz hk => ?_
    have ey : y = u := by
      have z : its.toArray[i]? = some u := by simpa using hu
      rw [z] at hy
      exact (Option.some.inj hy).symm
    subst ey
    refine ⟨_, rfl, ?_⟩
    refine wpAny_letOwnedTupleGo_enum (s := { s with heap := h', toks := tk + 1 }) ho fun h2 he2 sb => ?_
    have hT2 := (sb.2 _ (Nat.ne_of_gt hel)).trans hT
    have nw : ObjOk X.prog X.w (upd H s.heap.objs.size (.tup [.int (i : Nat), x])) h2 s.heap.objs.size (.tup [.int (i : Nat), x]) := by
      refine ⟨(by show 2 ≤ sizeLine; decide), _, .cons ⟨_, rfl⟩ (.cons ru .nil), ⟨_, hT2, rfl, _, rfl⟩⟩
    have kp : ∀ b ob, b ∉ [e, it] → s.heap.get? b = some ob → h2.get? b = some ob := by
      intro b ob hb q
      have n1 : b ≠ e := fun z => hb (by simp [z])
      have n2 : b ≠ it := fun z => hb (by simp [z])
      exact (sb.2 b n1).trans (hk b ob n1 n2 q)
    have I1 : Inv X pins σ (upd H s.heap.objs.size (.tup [.int (i : Nat), x])) { s with heap := h2, toks := tk + 1 } := I.turnedNew kp hf (Nat.le_refl _) nw
    refine ⟨.ref s.heap.objs.size, _, I1, rfl, ⟨_, x, rfl, I.hok.fresh (Nat.le_refl _), rfl, fun ys hy => ?_⟩, ⟨⟨y, ?_⟩, st'.1.at fun o q => (sb.2 it (Ne.symm hne)).trans q, hne⟩, fun b hb => ?_⟩
    · rw [I.tuple_inj hy hq]
      exact hx
    · rw [show ((i + 1 : Nat) : Int) = (i : Int) + 1 by omega]
      exact he2
    · have hb' : b < s.heap.objs.size := by
        rcases List.mem_cons.mp hb with z | z
        · rw [z]
          exact hel
        · rw [List.mem_singleton.mp z]
          exact hil
      exact (upd_ne (Nat.ne_of_lt hb')).trans (hf b hb).1
  done := by
    intro X hP hw hK hc i pins s σ H E I hf st hg
    subst hP hw hK
    obtain ⟨⟨old, he⟩, hit, hne⟩ := st
    obtain ⟨xs, hq, hx⟩ := hg
    obtain ⟨its, rv, p, hz⟩ := I.tuple hq
    have hT0 : s.heap.IsTuple a its.toArray := p
    have hl := rv.length
    obtain ⟨f0, f1, f2, f3, f4, f5⟩ := hf it (List.mem_cons_of_mem _ List.mem_cons_self)
    have hh : X.A.in1.handled = none := I.ok.hd hc
    have D := Draws.tuple (prog := X.prog) (w := X.w) hh it a hat its.toArray
    have en : i = its.toArray.size := by simp; omega
    subst en
    exact wpAny_pyNext_enum_endD D he ⟨hit, hT0⟩ fun h' eb => ⟨rfl, I.turned (t' := s.toks) (fun b o hb e => eb b o hb e) f0 f1 f3 f4 f5⟩
  self := by
    rintro A i s Q E ⟨⟨_, he⟩, _⟩ h
    exact wpAny_pyIter_enum he h
def iEnumT (K : PySem.W.Frag) (ta : TA) : TI := fun σ H R => ta σ H fun vs H1 => ∃ a xs, vs = [.ref a] ∧ SqT K H1 a xs ∧ R (IteT K a) H1
theorem pi_enumT {X : Cx} {e : Expr} {ta : TA} {p pos tpos : Pos} {elts : List Expr} {kk : Nat} (hg : Gl X "enumerate") (hm : X.mg "enumerate" = none) (ha : PA X [e] ta) (hs : starEach [e] X.env = [(false, eval e X.env)] := by rfl) :
    PI X (.Tuple elts kk tpos) (.Call (.Name "enumerate" p) [e] [] pos) (iEnumT X.K ta) := by
  constructor
  intro pins s σ H R I h
  refine Call_ (ld_blt I hg hm boot_enumerate (PyProof.Rows.callWith_type1 (thn (ha.run pos pins s σ H _ I h) ?_) hs rfl))
  rintro us s1 ⟨vs, H1, I1, r1, a, xs, rfl, hq, q⟩
  obtain ⟨u, rfl, ru⟩ := vals1 r1
  cases ru
  obtain ⟨its, rv, p', hz⟩ := I1.tuple hq
  have hT0 : s1.heap.IsTuple a its.toArray := p'
  have hal : a < s1.heap.objs.size := by
    obtain ⟨o, ho, _⟩ := hT0
    exact Heap.lt_size ho
  refine call_enum_tuple hT0 fun h' he hit hk => wpAny_pyIter_enum he ?_
  refine ⟨s1.heap.objs.size + 1, [s1.heap.objs.size + 1, s1.heap.objs.size], _, _, H1, rfl, I1.kept (t' := s1.toks) hk, turn_enumT a _ _ its.toArray (Nat.ne_of_lt hal) (Nat.ne_of_gt (Nat.lt_succ_of_lt hal)), ⟨⟨.none, he⟩, hit, Nat.succ_ne_self _⟩, fun b hb => ?_, q⟩
  have hle : s1.heap.objs.size ≤ b := by
    rcases List.mem_cons.mp hb with z | z
    · rw [z]
      exact Nat.le_succ _
    · rw [List.mem_singleton.mp z]
      exact Nat.le_refl _
  exact I1.fpOk hle (I1.hok.fresh hle)
/-- a loop over it that leaves the tuple: the item's pair is new -/
theorem for_enumT {K : PySem.W.Frag} {a : Addr} {xs : List V} {g : TG} {tb : TS} {D : Ends} {σ : L2.St} {H : Hp} (Pv : Nat → L2.St → Hp → Prop) (h0 : Pv 0 σ H) (hl : ∀ i σ H, i ≤ xs.length → Pv i σ H → SqT K H a xs)
    (hs : ∀ i x σ H p, xs[i]? = some x → Pv i σ H → H p = none → g (.ref p) σ (upd H p (.tup [.int (i : Nat), x])) fun σ2 H2 => tb { D with nx := Pv (i + 1), ct := Pv (i + 1), bk := D.nx } σ2 H2) (hd : ∀ σ H, Pv xs.length σ H → D.nx σ H) :
    ∃ W : Nat → Nat → L2.St → Hp → Prop, (∃ m, W 0 m σ H) ∧ ∀ i m σ H, W i m σ H →
      ((IteT K a).stop i H ∧ D.nx σ H) ∨ ((IteT K a).go i H ∧ ∃ N : L2.St → Hp → Prop, (∀ σ' H', N σ' H' → ∃ m', m' < m ∧ W (i + 1) m' σ' H') ∧ ∀ x H', (IteT K a).yld i H x H' → g x σ H' fun σ2 H2 => tb { D with nx := N, ct := N, bk := D.nx } σ2 H2) := by
  refine ⟨fun i m σ H => m = xs.length - i ∧ i ≤ xs.length ∧ Pv i σ H, ⟨xs.length, by simp, Nat.zero_le _, h0⟩, ?_⟩
  rintro i m σ H ⟨rfl, hi, p⟩
  have q := hl i σ H hi p
  rcases Nat.lt_or_ge i xs.length with lt | ge
  · right
    refine ⟨⟨xs, xs[i], q, List.getElem?_eq_getElem lt⟩, Pv (i + 1), fun σ' H' p' => ⟨xs.length - (i + 1), by omega, rfl, lt, p'⟩, ?_⟩
    rintro x H' ⟨pp, y, rfl, hn, rfl, hy⟩
    exact hs i y σ H pp (hy xs q) p hn
  · have e : i = xs.length := by omega
    subst e
    exact .inl ⟨⟨xs, q, rfl⟩, hd σ H p⟩
end Ed

set_option Elab.async false
set_option linter.all false
set_option maxRecDepth 100000
set_option maxHeartbeats 4000000
/-! Ed: own errors under one class with __init__: made, raised, caught, asked. -/
namespace PySem.W
section
variable {prog : Program} {w : World} {A : Around} {E : Value → Shared → Prop} {s : Shared} {K : Frag} {x D : Addr} {ox : Obj} {od : Option Obj}
/-- what a class says, so that e.__class__ of its errors is the plain one -/
structure ErrC (K : Frag) (D : Addr) : Prop where
  ga : findIn K (.ref D) "__getattribute__" = some (some (.builtin "BaseException.__getattribute__"))
  gg : findIn K (.ref D) "__getattr__" = some none
  su : subIn K (.ref D) (.type "BaseException") = some true
  hd : hasDictIn K D = true
  cl : findIn K (.ref D) "__class__" = some (some (.builtin "object.__class__"))
  sg : specialIn K (.builtin "object.__class__") "__get__" = some (some (.builtin "getset_descriptor.__get__"))
  tk : takesIn K (.builtin "object.__class__") = some true
  mo : mroIn K D (.type "object") = some true
theorem ErrC.find (C : ErrC K D) : findObj K D od "__class__" = some (.bind (.builtin "getset_descriptor.__get__") (.builtin "object.__class__")) := by
  obtain ⟨cd, hc, _⟩ := any_some C.hd
  unfold findObj
  rw [hc, Option.bind_some, C.cl, Option.bind_some]
  simp [C.sg, C.tk]
theorem ErrC.class_at {Q : Option Value → Shared → Prop} (C : ErrC K D) (X : K.In s.heap) (I : InstAt s.heap x ox D od) (h : Q (some (.ref D)) { s with toks := s.toks + 1 }) : wpAny (model prog w) A (getAttr? (.ref x) "__class__") Q E s := by
  have hf := C.find (od := od)
  obtain ⟨hp, g, d, t, os⟩ := s
  have tyL := I.type (M := model prog w)
  have gaL := looks_findIn (M := model prog w) X C.ga
  have ggL := looks_findIn (M := model prog w) X C.gg
  have atL := looks_find (M := model prog w) X I hf
  have isB : Looks (model prog w) hp (isInstance (.ref x) (.type "BaseException")) true := tyL.andThen (looks_subIn X C.su)
  have ne : (Value.builtin "BaseException.__getattribute__" == Value.builtin "object.__getattribute__") = false := by decide +kernel
  have ne1 : (onTheHeap (Value.ref D) && Value.builtin "BaseException.__getattribute__" == Value.builtin "object.__getattribute__") = false := by
    rw [ne]
    rfl
  unfold getAttr? getAttrBy? getAttrBy
  apply wpAny_bind
  apply wpAny_mkText
  apply wpAny_bind
  apply wpAny_attempt
  apply wpAny_holding
  apply wpAny_bind
  apply tyL.at
  apply wpAny_bind
  apply gaL.at
  dsimp only
  rw [ne1, if_neg Bool.false_ne_true]
  unfold getAttrByItsOwn hookBefore
  apply wpAny_bind
  rw [if_pos (show onTheHeap (Value.ref D) = true from rfl)]
  apply ggL.at
  apply wpAny_bind
  apply wpAny_attempt
  apply wpAny_holding
  unfold callGetattribute
  rw [if_neg (show ¬ (false && onTheHeap (Value.builtin "BaseException.__getattribute__")) = true from Bool.false_ne_true)]
  unfold boundAndCalled
  rw [PySem.F.excAttr_ValueError.ga.bind (.ref x)]
  apply wpAny_bind
  apply wpAny_pure
  show wpAny _ _ (call (.builtin "BaseException.__getattribute__") [.ref x, .str "__class__" t]) _ _ _
  apply wpAny_call
  apply codeAny_call_builtin PySem.F.excAttr_ValueError.ga.plain PySem.F.entry_bexc_ga
  refine @check_slot (model prog w) _ _ ⟨hp, g, d, t + 1, os⟩ "BaseException.__getattribute__" "BaseException" "__getattribute__" (.ref x) [.str "__class__" t] [] _ (by decide +kernel) (by decide +kernel) isB (PySem.F.args_bexc_ga (.ref x) (.str "__class__" t)) ?_
  unfold Builtin.«object.__getattribute__»
  apply wpAny_bind
  apply wpAny_of_eq (a := ((Value.ref x : Value), [Value.str "__class__" t])) (by first | rfl | (simp only [slotArgs]; rfl))
  apply wpAny_bind
  apply wpAny_pure
  apply wpAny_bind
  apply tyL.at
  apply wpAny_bind
  apply atL.at
  show wpAny _ _ (holding [Value.builtin "object.__class__"] (call (.builtin "getset_descriptor.__get__") [.builtin "object.__class__", .ref x, .ref D]) >>= ret) _ _ _
  apply wpAny_bind
  apply wpAny_holding
  apply wpAny_call
  apply class_get (s := ⟨hp, g, d, t + 1, os⟩) (ox := ox) (od := od) X I C.mo
  apply wpAny_pure
  show wpAny _ _ (handedOut (.ref D)) _ _ _
  rw [handedOut_of (v := .ref D) rfl]
  first
    | exact wpAny_pure (wpAny_pure h)
    | exact wpAny_pure h
    | exact wpAny_pure (wpAny_bind (wpAny_pure (wpAny_pure h)))
theorem ErrC.kit (C : ErrC K D) : KitX K (.ref x) (.ref D) (fun h => InstAt h x ox D od) where
  ty := fun _ _ _ I => I.type
  it := fun _ _ X _ => by
    obtain ⟨cd, hc, _⟩ := any_some C.hd
    unfold clsIn at hc
    split at hc
    · rename_i c' d' cd' sl' ho
      intro A' Q' E' s' k q
      unfold isType loadHead
      exact wpAny_bind (wpAny_loadPart (k _ _ (X _ _ ho)) (wpAny_pure q))
    · cases hc
  ne := fun h tp dd its n sl X htp => by
    obtain ⟨cd, hc, _⟩ := any_some C.hd
    cases e : (Value.ref D == Value.ref tp) with
    | false => rfl
    | true =>
      cases Value.ref.inj (beq_iff_eq.mp e)
      unfold clsIn at hc
      split at hc
      · rename_i c' d' cd' sl' ho
        cases (X _ _ ho).symm.trans htp
      · cases hc
  ca := fun X I k => C.class_at X I k
end
end PySem.W
namespace Ed
open PySem PySem.Spec PyProof.Rows L2
/-- isinstance(e, C), e the error that the suite holds, of the class D with its own dict -/
theorem call_isErr {X : Cx} {a D : Addr} {d : Addr} {fs : List (Str × V)} {oe : Obj} {pn : List (Addr × Obj)} (C : PySem.W.ErrC X.K D) (hz : Zc (.ref D) (some d) oe) (hf : ∃ vs, oe.data = .fields vs) :
    CallR (X.suite a ((a, oe) :: pn)) (.builtin "isinstance") (fun xs H Q => ∃ (c : V) (cv : Value) (b : Bool), xs = [.ref a, c] ∧ H d = some (.xd fs) ∧ (∀ u, RelV c u → u = cv) ∧ PySem.W.kitOne X.K (.ref D) cv = some b ∧ Q (.bl b) H) := by
  intro pins s σ H xs us Q I r h
  obtain ⟨c, cv, b, rfl, hd, hcv, e, q⟩ := h
  obtain ⟨u1, u2, rfl, r1, r2⟩ := vals2 r
  cases r1
  cases hcv _ r2
  obtain ⟨hget, _⟩ := I.pin (a, oe) (List.mem_append.mpr (.inl List.mem_cons_self))
  obtain ⟨vs, hv⟩ := hf
  obtain ⟨mA, ⟨o, es, ep, ho, hdd, _⟩, _⟩ := I.hok d _ hd
  have J : PySem.W.InstAt s.heap a oe D (some o) := by
    refine ⟨hget, hz.1, ?_, ?_⟩
    · unfold PySem.W.notCls
      rw [hv]
    · rw [hz.2]
      exact ho
  exact PySem.W.kia_one (C.kit (od := some o)) I.kIn J e (fun z => nomatch z) fun tk => ⟨.bl b, H, I.kept (t' := tk) fun _ _ z => z, rfl, q⟩
/-- what the base error's __init__(self, what) does -/
def spErrInit (K : PySem.W.Frag) : Sp := fun vs H Q _ => ∃ (a C : Addr) (y : V), vs = [.ref a, y] ∧ OexC K C ∧ PySem.W.findIn K (.ref C) "what" = some none ∧ H a = some (exo a C none) ∧
  ∀ dx, H dx = none → dx ≠ a → Q .non (upd (upd H dx (exd dx [(("what" : Str), y)])) a (exo a C (some dx)))
/-- a class of errors under that -/
structure ErrK (K : PySem.W.Frag) (mg : Str → Option Value) (x : Str) (C fI : Addr) : Prop where
  ox : OexC K C
  ini : PySem.W.findIn K (.ref C) "__init__" = some (some (.ref fI))
  wh : PySem.W.findIn K (.ref C) "what" = some none
  mg : mg x = some (.ref C)
  er : PySem.W.ErrC K C
/-- what a raise leaves: a new dict with the what, all else as it was -/
theorem err_inner {K : PySem.W.Frag} {mg : Str → Option Value} {x : Str} {C fI : Addr} (T : ErrK K mg x C fI) {y : V} {H1 : Hp} {Q : XK}
    (h : ∀ d H2, H1 d = none → H2 d = some (.xd [(("what" : Str), y)]) → (∀ c u, H1 c = some u → H2 c = some u) → Q (.ref C) (some d) H2) :
    [y].length ≤ 1000 ∧ ∀ a, H1 a = none → spErrInit K (.ref a :: ([y] ++ [])) (upd H1 a (exo a C none)) (fun v H2 => v = .non ∧ ∃ (d : Addr) (fs : List (Str × V)), H2 a = some (exo a C (some d)) ∧ H2 d = some (exd d fs) ∧ H1 d = none ∧ Q (.ref C) (some d) (upd (del H2 a) d (.xd fs))) (fun _ _ _ => False) := by
  refine ⟨(by show 1 ≤ 1000; decide), fun a ha => ⟨a, C, y, rfl, T.ox, T.wh, upd_same, fun dx hdx ne => ⟨rfl, dx, [(("what" : Str), y)], upd_same, (upd_ne ne).trans upd_same, ?_, ?_⟩⟩⟩
  · exact (upd_ne ne).symm.trans hdx
  · have hd0 : H1 dx = none := (upd_ne ne).symm.trans hdx
    refine h dx _ hd0 upd_same fun c u e => ?_
    have n1 : c ≠ dx := ne_of_none e hd0
    have n2 : c ≠ a := ne_of_none e ha
    exact (upd_ne n1).trans ((del_ne n2).trans ((upd_ne n2).trans ((upd_ne n1).trans ((upd_ne n2).trans e))))
/-- C(e) -/
theorem pmk_err {X : Cx} {x : Str} {C fI : Addr} {fd : FuncData} {p pos : Pos} {e : Expr} {te : TE} {k : Nat} (T : ErrK X.K X.mg x C fI) (tI : PySem.W.typeIn X.K (.ref fI) = some (.type "function"))
    (F : FnOk X.prog X.w X.K X.mg X.base CX0 k fI fd ["self", "what"] (spErrInit X.K)) (b : L2.Binds X.K fd ["self", "what"] []) (hr : Room (k + 1) X.A) (hg : Gl X x) (ha : PA X [e] (tCons te tNil))
    (hdb : (x == ("__debug__" : Str)) = false := by decide) (hst : starEach (e :: []) X.env = (false, eval e X.env) :: starEach [] X.env := by rfl) (hpl : (backTo pos (starEach [] X.env)).any (·.1) = false := by rfl) :
    PMk X (.Call (.Name x p) [e] [] pos) (tMkO C (spErrInit X.K) [] (tCons te tNil)) := pmk_oex T.ox T.ini tI F hr b .nil pass0 hg T.mg ha hdb hst hpl

/-! ### t.index(x), flat -/
def rIndexF (K : PySem.W.Frag) : V → List V → Hp → VK → Prop := fun x xs H Q => ∃ (p : Addr) (ys : List V) (z : V) (j : Nat), x = .ref p ∧ xs = [z] ∧ SqT K H p ys ∧ flatV z = true ∧ ys.all flatV = true ∧ (∃ y, ys[j]? = some y ∧ eqV y z = true) ∧ (∀ m y, m < j → ys[m]? = some y → eqV y z = false) ∧ Q (.int (j : Nat)) H
theorem mt_tup_indexF {X : Cx} : MtR X "tuple.index" (rIndexF X.K) := by
  intro pins s σ H x xs v us Q I rx rs h
  obtain ⟨p, ys, z, j, rfl, rfl, hq, fz, fy, ⟨y, hy, ey⟩, hno, q⟩ := h
  cases rx
  obtain ⟨u, rfl, ru⟩ := vals1 rs
  obtain ⟨its, r, ⟨⟨cls, dd, dt, sl⟩, ho, hc, n, hd⟩, hz⟩ := I.tuple hq
  cases (show cls = .type "tuple" from hc)
  cases (show dt = .seq its.toArray n from hd)
  have len := r.length
  have flat : ∀ (m : Nat) (w : V), ys[m]? = some w → flatV w = true := fun m w hw => List.all_eq_true.mp fy w (List.mem_of_getElem? hw)
  have at_ : ∀ (m : Nat) (hm : m < its.toArray.size), ∃ w, ys[m]? = some w ∧ eqU z its.toArray[m] = eqV w z := fun m hm => by
    have hm' : m < ys.length := by
      rw [len]
      simpa using hm
    obtain ⟨w', h1, h2⟩ := r.get (i := m) (x := ys[m]) (List.getElem?_eq_getElem hm')
    have e1 : its.toArray[m] = w' := by
      have := (List.getElem?_eq_some_iff.mp h1).2
      simpa using this
    exact ⟨ys[m], List.getElem?_eq_getElem hm', by rw [e1]; exact eqU_of h2 (flat m _ (List.getElem?_eq_getElem hm'))⟩
  have hj : j < its.toArray.size := by
    have := (List.getElem?_eq_some_iff.mp hy).1
    rw [len] at this
    simpa using this
  have tyT : s.TypeIs (.ref p) "tuple" := ⟨_, ho, rfl⟩
  refine call_meets PySem.F.slot_tuple_index tyT PySem.F.entry_tuple_index (PySem.F.args_tuple_index_2 _ _) (TI.tuple_indexAt p its.toArray n dd sl u (eqU z) j hj ?_ ?_) ?_
  rotate_left 2
  · exact ⟨ho, fun w hw => mem_eqAt ru fz r fy w (by simpa using hw), .int (j : Nat), H, I.tok _, ⟨_, rfl⟩, q⟩
  · obtain ⟨w, h1, h2⟩ := at_ j hj
    rw [hy] at h1
    cases h1
    rw [h2]
    exact ey
  · intro m hm hmj
    obtain ⟨w, h1, h2⟩ := at_ m hm
    rw [h2]
    exact hno m w hmj h1

/-! ### x is True, x is False, x of any flat kind -/
theorem op_isFl {X : Cx} : OpR X (compareOp .Is) (fun x y H Q => flatV x = true ∧ ∃ b : Bool, y = .bl b ∧ Q (.bl (decide (x = .bl b))) H) := by
  intro pins s σ H x y v u Q I rx ry h
  obtain ⟨fx, b, rfl, q⟩ := h
  cases (show u = Value.bool b from ry)
  by_cases e : x = .bl b
  · subst e
    cases (show v = Value.bool b from rx)
    exact wpAny_is_self rfl ⟨.bl true, H, I, rfl, by simpa using q⟩
  · have ne : v ≠ Value.bool b := by
      intro z
      subst z
      cases x with
      | non => cases rx
      | bl c =>
        cases (show Value.bool b = Value.bool c from rx)
        exact e rfl
      | int i =>
        obtain ⟨t, z⟩ := rx
        cases z
      | str i =>
        obtain ⟨t, z⟩ := rx
        cases z
      | _ => cases fx
    refine wpAny_is_other ?_ ne ⟨.bl false, H, I, rfl, by simpa [e] using q⟩
    cases x with
    | non =>
      cases rx
      rfl
    | bl c =>
      cases (show v = Value.bool c from rx)
      rfl
    | int i =>
      obtain ⟨t, rfl⟩ := rx
      rfl
    | str i =>
      obtain ⟨t, rfl⟩ := rx
      rfl
    | _ => cases fx

/-! ### tuples made, known as they are -/
def tTupF (t : TA) : TE := fun σ H Q => t σ H fun xs H1 => xs.length ≤ sizeLine ∧ ∀ (p : Addr) (o : Obj), H1 p = none → o.dict = none → Q (.ref p) (upd H1 p (.frz o (.tup xs)))
theorem pe_tupF {X : Cx} {es : List Expr} {t : TA} {pos : Pos} {x1} (h : PA X es t) : PE X (.Tuple es x1 pos) (tTupF t) := by
  constructor
  intro pins s σ H Q I hq
  apply wpAny_Tuple_spliced
  refine thn (h.run pos pins s σ H _ I hq) ?_
  rintro us s1 ⟨xs, H1, I1, r, z, q⟩
  refine ⟨by rw [← r.length]; exact z, ?_⟩
  have hf := I1.hok.fresh (Nat.le_refl s1.heap.objs.size)
  have made := Heap.get?_push_size s1.heap (o := { cls := .type "tuple", data := .seq us.toArray }) rfl
  exact ⟨.ref s1.heap.objs.size, _, I1.laid (o := .frz { cls := .type "tuple", data := .seq us.toArray } (.tup xs)) (t' := s1.toks) (fun b u e => Heap.get?_push_of_some _ e) (Nat.le_refl _) ⟨made, z, us, r, ⟨_, made, rfl, _, rfl⟩⟩, rfl, q _ _ hf rfl⟩
/-- tuple(x), x a list: a new tuple; x a tuple: itself -/
def kTupF (K : PySem.W.Frag) : V → Hp → VK → Prop := fun x H Q => (∃ p xs, x = .ref p ∧ SqL K H p xs ∧ ∀ (q : Addr) (o : Obj), H q = none → o.dict = none → Q (.ref q) (upd H q (.frz o (.tup xs)))) ∨ (∃ p xs, x = .ref p ∧ SqT K H p xs ∧ Q (.ref p) H)
theorem pe_tupleF {X : Cx} {a : Expr} {ta : TE} {p pos : Pos} (hg : Gl X "tuple") (hm : X.mg "tuple" = none) (ha : PE X a ta) (na : starEach [a] X.env = (false, eval a X.env) :: starEach [] X.env := by rfl) :
    PE X (.Call (.Name "tuple" p) [a] [] pos) (tThen ta (kTupF X.K)) := by
  constructor
  intro pins s σ H Q I h
  refine Call_ (ld_blt I hg hm boot_tuple (PyProof.Rows.callWith_type1 (one_arg ha I h (fun v s2 x H2 I2 r q => ?_) na) na))
  rcases q with ⟨b, xs, rfl, hs, q⟩ | ⟨b, xs, rfl, hs, q⟩
  · cases r
    obtain ⟨its, rv, pl, hz⟩ := I2.list hs
    refine call_tuple_list pl.isList (fun h' hk => ?_) (by rw [List.size_toArray, ← rv.length]; exact hz)
    have I3 : Inv X pins σ H2 { s2 with heap := h' } := I2.kept (t' := s2.toks) hk
    have made := Heap.get?_push_size h' (o := { cls := .type "tuple", data := .seq its.toArray }) rfl
    have I4 := I3.laid (o := .frz { cls := .type "tuple", data := .seq its.toArray } (.tup xs)) (t' := s2.toks) (fun b o e => Heap.get?_push_of_some _ e) (Nat.le_refl _) ⟨made, hz, its, rv, ⟨_, made, rfl, _, rfl⟩⟩
    exact ⟨.ref h'.objs.size, _, I4, rfl, q _ _ (I3.hok.fresh (Nat.le_refl _)) rfl⟩
  · cases r
    obtain ⟨its, rv, pl, hz⟩ := I2.tuple hs
    exact call_tuple_tup pl ⟨.ref b, H2, I2, rfl, q⟩
/-! ### t.m(e, ..), t a tuple known as it is -/
def tBMT (r : V → List V → Hp → VK → Prop) (to : TE) (t : TA) : TE := fun σ H Q => to σ H fun x H1 => (∃ (p : Addr) (xs : List V), x = .ref p ∧ Tp H1 p xs) ∧ t σ H1 fun ys H2 => r x ys H2 Q
theorem pe_bmT {X : Cx} {o e : Expr} {es : List Expr} {to : TE} {t : TA} {name : Str} {apos cpos : Pos} {id : String} {r : V → List V → Hp → VK → Prop} (slot : Slot "tuple" name id) (hty : typeOf (.builtin id) = pure (.type "method_descriptor")) (hm : MtR X id r) (ho : PE X o to) (ha : PA X (e :: es) t)
    (hbase : attributeBase o name X.env (eval o X.env) = eval o X.env := by rfl)
    (hfew : ((backTo cpos (starEach (e :: es) X.env)).all (fun x => !x.1) && (backToKw cpos (keywordEach [] X.env)).all (fun x => x.1.isSome) && decide ((e :: es).length + ([] : List Keyword).length + (if ([] : List Keyword).isEmpty then 0 else 1) < 30)) = true := by rfl)
    (hline : (apos.endLine == cpos.line) = true := by rfl) (hs : starEach (e :: es) X.env = (false, eval e X.env) :: starEach es X.env := by rfl) (hplain : (backTo cpos (starEach es X.env)).any (·.1) = false := by rfl) :
    PE X (.Call (.Attribute o name apos) (e :: es) [] cpos) (tBMT r to t) := by
  constructor
  intro pins s σ H Q I h
  refine wpAny_Call_method_late hbase hfew hline rfl (thn (ho.run pins s σ H _ I h) ?_)
  rintro v s1 ⟨x, H1, I1, r1, ⟨p, xs, rfl, ob, hp, hd⟩, q1⟩
  cases r1
  obtain ⟨hget, _, its, _, o2, ho2, hc2, _⟩ := I1.hok p _ hp
  have hcls : ob.cls = .type "tuple" := by
    rw [hget] at ho2
    cases ho2
    exact hc2
  refine ⟨"tuple", id, PySem.F.plainAttrs_tuple, slot, hty, ⟨ob, hget, hcls⟩, fun a e => ?_, ?_⟩
  · cases e
    exact ⟨ob, hget, hd⟩
  · have hA := ha.run cpos pins s1 σ H1 _ I1 q1
    rw [hs] at hA ⊢
    refine Calls.callWith_builtin (by show (false || (backTo cpos (starEach es X.env)).any (·.1)) = false; rw [hplain]; rfl) (Calls.evalArgs_plain (thn hA ?_))
    rintro us s2 ⟨vs, H2, I2, r2, q2⟩
    exact hm pins s2 σ H2 (.ref p) vs (.ref p) us Q I2 rfl r2 q2
end Ed

set_option Elab.async false
set_option linter.all false
set_option maxRecDepth 100000
set_option maxHeartbeats 4000000
/-! Ed: comprehensions whose elements are data. -/
namespace Ed
open PySem PySem.Spec PyProof.Rows L2
/-- the source of draws at a -/
def SrcOk (H : Hp) (a : Addr) : Prop := ∃ b m : Int, H a = some (.lst [.int b, .int m]) ∧ 0 ≤ b ∧ 0 ≤ m ∧ m < 2147483647
def Srcs (S : List Addr) (H : Hp) : Prop := ∀ a ∈ S, SrcOk H a
theorem Srcs.nil {H : Hp} : Srcs [] H := fun _ h => by cases h
theorem Srcs.one {H : Hp} {a : Addr} (h : SrcOk H a) : Srcs [a] H := fun b hb => by
  rw [List.mem_singleton.mp hb]
  exact h
theorem SrcOk.upd {H : Hp} {a p : Addr} {o : HO} (h : SrcOk H a) (n : a ≠ p) : SrcOk (L2.upd H p o) a := by
  obtain ⟨b, m, e, r⟩ := h
  exact ⟨b, m, (upd_ne n).trans e, r⟩
theorem SrcOk.ne {H : Hp} {a p : Addr} (h : SrcOk H a) (n : H p = none) : a ≠ p := by
  obtain ⟨b, m, e, r⟩ := h
  exact ne_of_none e n
theorem SrcOk.ex {T : List (Addr × Str)} {S : List Addr} {H H1 : Hp} {a : Addr} (h : SrcOk H a) (e : Ex T S H H1) (n : a ∉ S) : SrcOk H1 a := by
  obtain ⟨b, m, e1, r⟩ := h
  exact ⟨b, m, e.at_lst n e1, r⟩
theorem Srcs.upd {S : List Addr} {H : Hp} {p : Addr} {o : HO} (h : Srcs S H) (n : p ∉ S) : Srcs S (L2.upd H p o) := fun a ha => (h a ha).upd fun z => n (z ▸ ha)
theorem Srcs.free {S : List Addr} {H : Hp} {p : Addr} (h : Srcs S H) (n : H p = none) : p ∉ S := fun hp => (h p hp).ne n rfl
/-- what a comprehension has made so far -/
structure LcS (T : List (Addr × Str)) (S : List Addr) (H0 : Hp) (D : Addr) (ds : List PyData) (H : Hp) : Prop where
  ex : Ex T S H0 H
  sr : Srcs S H
  at_ : ∃ acc, H D = some (.lst acc) ∧ TdAll H acc ds
theorem LcS.more {T : List (Addr × Str)} {S : List Addr} {H0 H H4 : Hp} {D : Addr} {ds : List PyData} {y : V} {d : PyData} (L : LcS T S H0 D ds H) (fD : Fresh H0 D) (nD : D ∉ S) (e4 : Ex T S H H4) (s4 : Srcs S H4) (hy : Td H4 y d) (sz : ds.length < sizeLine) :
    ∃ acc, H4 D = some (.lst acc) ∧ acc.length < sizeLine ∧ LcS T S H0 D (ds ++ [d]) (L2.upd H4 D (.lst (acc ++ [y]))) := by
  obtain ⟨acc, hacc, hall⟩ := L.at_
  have h4 := e4.at_lst nD hacc
  refine ⟨acc, h4, by rw [hall.len]; exact sz, (L.ex.trans e4).put h4 (.inr fD), s4.upd nD, _, upd_same, ?_⟩
  exact TdAll.mono (TX.lst h4) ((TdAll.mono e4.tups hall).snoc hy)
theorem map_range_snoc {α : Type} (f : Nat → α) (i : Nat) : (List.range (i + 1)).map f = (List.range i).map f ++ [f i] := by
  rw [List.range_succ, List.map_append]
  rfl
section
variable {T : List (Addr × Str)} {S : List Addr} {H0 H1 : Hp} {D : Addr} {g : TG} {te : TE} {vs : List Nat} {σ : L2.St} {Qd : Hp → Prop}
/-- over a range -/
theorem lc_rangeM {lo : Int} {n : Nat} (ds : Nat → PyData) (e0 : Ex T S H0 H1) (s0 : Srcs S H1) (nD : H1 D = none) (hn : n < sizeLine)
    (step : ∀ (i : Nat) (H' : Hp) (Q' : VK), i < n → Ex T S H0 H' → Srcs S H' → (∀ y H4, Ex T S H' H4 → Srcs S H4 → Td H4 y (ds i) → Q' y H4) → g (.int (lo + i)) (wipe σ vs) H' fun σ2 H2 => wipe σ2 vs = wipe σ vs ∧ te σ2 H2 Q')
    (hd : ∀ H' acc, Ex T S H0 H' → Srcs S H' → H' D = some (.lst acc) → TdAll H' acc ((List.range n).map ds) → Qd H') :
    ∃ W : Nat → Nat → Hp → Prop, (∃ m, W 0 m (L2.upd H1 D (.lst []))) ∧ ∀ i m H, W i m H →
      ((Itr lo n).stop i H ∧ Qd H) ∨ ((Itr lo n).go i H ∧ ∃ Nx : Hp → Prop, (∀ H', Nx H' → ∃ m', m' < m ∧ W (i + 1) m' H') ∧ ∀ x H', (Itr lo n).yld i H x H' → g x (wipe σ vs) H' fun σ2 H2 => wipe σ2 vs = wipe σ vs ∧ tYes σ2 H2 fun b H3 =>
        if b = true then te σ2 H3 fun y H4 => ∃ acc, H4 D = some (.lst acc) ∧ acc.length < sizeLine ∧ Nx (L2.upd H4 D (.lst (acc ++ [y]))) else Nx H3) := by
  have hDS := s0.free nD
  have fD : Fresh H0 D := e0.fresh nD hDS
  refine lc_range (lo := lo) (n := n) (fun i H => LcS T S H0 D ((List.range i).map ds) H) ⟨e0.new nD, s0.upd hDS, [], upd_same, .nil⟩ (fun i H hi L => ?_) fun H L => ?_
  · have q := step i H (fun y H4 => ∃ acc, H4 D = some (.lst acc) ∧ acc.length < sizeLine ∧ LcS T S H0 D ((List.range (i + 1)).map ds) (L2.upd H4 D (.lst (acc ++ [y])))) hi L.ex L.sr fun y H4 e4 s4 hy => by
      rw [map_range_snoc]
      exact L.more fD hDS e4 s4 hy (by rw [List.length_map, List.length_range]; omega)
    exact q
  · obtain ⟨acc, h1, h2⟩ := L.at_
    exact hd H acc L.ex L.sr h1 h2
/-- over a tuple of data -/
theorem lc_tupM {K : PySem.W.Frag} {a : Addr} {xs : List V} {es : List PyData} (ds : List PyData) (e0 : Ex T S H0 H1) (s0 : Srcs S H1) (nD : H1 D = none) (ha : Tp H0 a xs) (hes : TdAll H0 xs es) (hn : xs.length < sizeLine) (hl : ds.length = es.length)
    (step : ∀ (i : Nat) (x : V) (e d : PyData) (H' : Hp) (Q' : VK), xs[i]? = some x → es[i]? = some e → ds[i]? = some d → Ex T S H0 H' → Srcs S H' → Td H' x e → (∀ y H4, Ex T S H' H4 → Srcs S H4 → Td H4 y d → Q' y H4) → g x (wipe σ vs) H' fun σ2 H2 => wipe σ2 vs = wipe σ vs ∧ te σ2 H2 Q')
    (hd : ∀ H' acc, Ex T S H0 H' → Srcs S H' → H' D = some (.lst acc) → TdAll H' acc ds → Qd H') :
    ∃ W : Nat → Nat → Hp → Prop, (∃ m, W 0 m (L2.upd H1 D (.lst []))) ∧ ∀ i m H, W i m H →
      ((Itt K a).stop i H ∧ Qd H) ∨ ((Itt K a).go i H ∧ ∃ Nx : Hp → Prop, (∀ H', Nx H' → ∃ m', m' < m ∧ W (i + 1) m' H') ∧ ∀ x H', (Itt K a).yld i H x H' → g x (wipe σ vs) H' fun σ2 H2 => wipe σ2 vs = wipe σ vs ∧ tYes σ2 H2 fun b H3 =>
        if b = true then te σ2 H3 fun y H4 => ∃ acc, H4 D = some (.lst acc) ∧ acc.length < sizeLine ∧ Nx (L2.upd H4 D (.lst (acc ++ [y]))) else Nx H3) := by
  have hDS := s0.free nD
  have fD : Fresh H0 D := e0.fresh nD hDS
  have hlx := hes.len
  refine lc_tup (K := K) (a := a) (xs := xs) (fun i H => LcS T S H0 D (ds.take i) H) ⟨e0.new nD, s0.upd hDS, [], upd_same, .nil⟩ (fun i H _ L => (L.ex.tups _ _ ha).sq) (fun i x H hx L => ?_) fun H L => ?_
  · obtain ⟨e, he, hxe⟩ := hes.get hx
    have hi : i < ds.length := by
      have := (List.getElem?_eq_some_iff.mp hx).1
      omega
    have hdi : ds[i]? = some ds[i] := List.getElem?_eq_getElem hi
    have q := step i x e ds[i] H (fun y H4 => ∃ acc, H4 D = some (.lst acc) ∧ acc.length < sizeLine ∧ LcS T S H0 D (ds.take (i + 1)) (L2.upd H4 D (.lst (acc ++ [y])))) hx he hdi L.ex L.sr (hxe.mono L.ex.tups) fun y H4 e4 s4 hy => by
      rw [List.take_add_one, hdi]
      exact L.more fD hDS e4 s4 hy (by rw [List.length_take]; omega)
    exact q
  · obtain ⟨acc, h1, h2⟩ := L.at_
    rw [hlx, ← hl, List.take_length] at h2
    exact hd H acc L.ex L.sr h1 h2
end
/-- the same two, the machine named outright: for what stands within a comprehension -/
theorem pe_tupleK {X : Cx} {K : PySem.W.Frag} {a : Expr} {ta : TE} {p pos : Pos} (hK : X.K = K) (hg : Gl X "tuple") (hm : X.mg "tuple" = none) (ha : PE X a ta) (na : starEach [a] X.env = (false, eval a X.env) :: starEach [] X.env := by rfl) :
    PE X (.Call (.Name "tuple" p) [a] [] pos) (tThen ta (kTupF K)) := by
  subst hK
  exact pe_tupleF hg hm ha na
theorem pe_vlK {X : Cx} {P : Program} {w : World} {K : PySem.W.Frag} {mg : Str → Option Value} {base : Heap} {j i : Nat} {x : Str} {E : L2.St → XK} {p pos : Pos} {e : Expr} {es : List Expr} {t : TA} (hq : X.prog = P ∧ X.w = w ∧ X.K = K ∧ X.mg = mg ∧ X.base = base)
    (hr : RoomG j X.A) (hN : X.N[i]? = some x) (hv : Vis X.env.scope x) (hx : ∀ σ, PassesAt (L2.CX X.prog X.w) X σ (E σ)) (ha : PA X (e :: es) t)
    (hdb : (x == ("__debug__" : Str)) = false := by decide) (hcd : (x == ("__classdict__" : Str)) = false := by decide)
    (hst : starEach (e :: es) X.env = (false, eval e X.env) :: starEach es X.env := by rfl) (hpl : (backTo pos (starEach es X.env)).any (·.1) = false := by rfl) :
    PE X (.Call (.Name x p) (e :: es) [] pos) (tCallF P w K mg base j i E t) := by
  obtain ⟨rfl, rfl, rfl, rfl, rfl⟩ := hq
  exact pe_vl hr hN hv hx ha hdb hcd hst hpl
theorem pi_tupK {X : Cx} {K : PySem.W.Frag} {tg l : Expr} {tl : TE} (hK : X.K = K) (hl : PE X l tl) : PI X tg l (iTup K tl) := by
  subst hK
  exact pi_tup hl
section
variable {T : List (Addr × Str)} {S : List Addr} {H0 H1 : Hp} {D : Addr} {g : TG} {te : TE} {vs : List Nat} {σ : L2.St} {Qd : Hp → Prop}
/-- over a tuple of data, each element one of several -/
theorem lc_tupP {K : PySem.W.Frag} {a : Addr} {xs : List V} {es : List PyData} (ok : PyData → Prop) (e0 : Ex T S H0 H1) (s0 : Srcs S H1) (nD : H1 D = none) (ha : Tp H0 a xs) (hes : TdAll H0 xs es) (hn : xs.length < sizeLine)
    (step : ∀ (i : Nat) (x : V) (e : PyData) (H' : Hp) (Q' : VK), xs[i]? = some x → es[i]? = some e → Ex T S H0 H' → Srcs S H' → Td H' x e → (∀ y d H4, Ex T S H' H4 → Srcs S H4 → Td H4 y d → ok d → Q' y H4) → g x (wipe σ vs) H' fun σ2 H2 => wipe σ2 vs = wipe σ vs ∧ te σ2 H2 Q')
    (hd : ∀ H' acc ds, Ex T S H0 H' → Srcs S H' → H' D = some (.lst acc) → TdAll H' acc ds → ds.length = es.length → (∀ d ∈ ds, ok d) → Qd H') :
    ∃ W : Nat → Nat → Hp → Prop, (∃ m, W 0 m (L2.upd H1 D (.lst []))) ∧ ∀ i m H, W i m H →
      ((Itt K a).stop i H ∧ Qd H) ∨ ((Itt K a).go i H ∧ ∃ Nx : Hp → Prop, (∀ H', Nx H' → ∃ m', m' < m ∧ W (i + 1) m' H') ∧ ∀ x H', (Itt K a).yld i H x H' → g x (wipe σ vs) H' fun σ2 H2 => wipe σ2 vs = wipe σ vs ∧ tYes σ2 H2 fun b H3 =>
        if b = true then te σ2 H3 fun y H4 => ∃ acc, H4 D = some (.lst acc) ∧ acc.length < sizeLine ∧ Nx (L2.upd H4 D (.lst (acc ++ [y]))) else Nx H3) := by
  have hDS := s0.free nD
  have fD : Fresh H0 D := e0.fresh nD hDS
  have hlx := hes.len
  refine lc_tup (K := K) (a := a) (xs := xs) (fun i H => ∃ ds : List PyData, ds.length = i ∧ (∀ d ∈ ds, ok d) ∧ LcS T S H0 D ds H) ⟨[], rfl, by simp, e0.new nD, s0.upd hDS, [], upd_same, .nil⟩ ?_ (fun i x H hx L => ?_) fun H L => ?_
  · rintro i H _ ⟨ds, _, _, L⟩
    exact (L.ex.tups _ _ ha).sq
  · obtain ⟨ds, hl, hok, L⟩ := L
    obtain ⟨e, he, hxe⟩ := hes.get hx
    have hi : i < xs.length := (List.getElem?_eq_some_iff.mp hx).1
    have q := step i x e H (fun y H4 => ∃ acc, H4 D = some (.lst acc) ∧ acc.length < sizeLine ∧ ∃ ds : List PyData, ds.length = i + 1 ∧ (∀ d ∈ ds, ok d) ∧ LcS T S H0 D ds (L2.upd H4 D (.lst (acc ++ [y])))) hx he L.ex L.sr (hxe.mono L.ex.tups) fun y d H4 e4 s4 hy hkd => by
      obtain ⟨acc, g1, g2, g3⟩ := L.more fD hDS e4 s4 hy (by omega)
      refine ⟨acc, g1, g2, ds ++ [d], by simp [hl], fun z hz => ?_, g3⟩
      rcases List.mem_append.mp hz with hz | hz
      · exact hok z hz
      · rw [List.mem_singleton.mp hz]
        exact hkd
    exact q
  · obtain ⟨ds, hl, hok, L⟩ := L
    obtain ⟨acc, h1, h2⟩ := L.at_
    exact hd H acc ds L.ex L.sr h1 h2 (hl.trans hlx) hok
end
end Ed

set_option Elab.async false
set_option linter.all false
set_option maxRecDepth 100000
set_option maxHeartbeats 4000000
/-! Ed: the suite of an except clause; all with the machine named outright. -/
namespace Ed
open PySem PySem.Spec PyProof.Rows L2
theorem call_isErrK {X : Cx} {K : PySem.W.Frag} {a : Addr} {cls : Value} {d : Option Addr} {oe : Obj} {pn : List (Addr × Obj)} (hK : X.K = K) (hz : Zc cls d oe) (hf : ∃ vs, oe.data = .fields vs) :
    CallR (X.suite a ((a, oe) :: pn)) (.builtin "isinstance") (fun xs H Q => ∃ (c : V) (cv : Value) (b : Bool) (D dd : Addr) (fs : List (Str × V)), xs = [.ref a, c] ∧ cls = .ref D ∧ d = some dd ∧ PySem.W.ErrC K D ∧ H dd = some (.xd fs) ∧ (∀ u, RelV c u → u = cv) ∧ PySem.W.kitOne K (.ref D) cv = some b ∧ Q (.bl b) H) := by
  intro pins s σ H xs us Q I r h
  obtain ⟨c, cv, b, D, dd, fs, e1, rfl, rfl, C, e2, e3, e4, q⟩ := h
  subst hK
  exact call_isErr (fs := fs) C hz hf pins s σ H xs us Q I r ⟨c, cv, b, e1, e2, e3, e4, q⟩
theorem call_reprK {X : Cx} {K : PySem.W.Frag} (hK : X.K = K) (hg : X.A.guards = some []) (hu : X.A.units + 65 < cLine) : CallR X (.builtin "repr") (rRepr K) := by
  subst hK
  exact call_repr hg hu
theorem pe_vl0K {X : Cx} {P : Program} {w : World} {K : PySem.W.Frag} {mg : Str → Option Value} {base : Heap} {j i : Nat} {x : Str} {E : L2.St → XK} {p pos : Pos} (hq : X.prog = P ∧ X.w = w ∧ X.K = K ∧ X.mg = mg ∧ X.base = base)
    (hr : RoomG j X.A) (hN : X.N[i]? = some x) (hv : Vis X.env.scope x) (hx : ∀ σ, PassesAt (L2.CX X.prog X.w) X σ (E σ))
    (hdb : (x == ("__debug__" : Str)) = false := by decide) (hcd : (x == ("__classdict__" : Str)) = false := by decide) :
    PE X (.Call (.Name x p) [] [] pos) (tCallF P w K mg base j i E tNil) := by
  obtain ⟨rfl, rfl, rfl, rfl, rfl⟩ := hq
  exact pe_vl0 hr hN hv hx hdb hcd
theorem xfc_of {K : PySem.W.Frag} {D : Addr} (C : PySem.W.ErrC K D) : XfC K D := ⟨C.ga, C.gg, C.su, C.hd⟩
end Ed

set_option Elab.async false
set_option linter.all false
set_option maxRecDepth 100000
set_option maxHeartbeats 4000000
/-! Ed: what repr shows of small data; lists of flat values by comprehension. -/
namespace Ed
open PySem PySem.Spec PyProof.Rows L2
/-- data that repr shows -/
structure Sh (d : PyData) : Prop where
  sho : d.showable = true
  nod : d.hasDict = false
  dep : d.depth ≤ 60
  len : d.shown.length ≤ sizeLine
/-- small data: depth at most p, text of at most q letters -/
structure ShB (p q : Nat) (d : PyData) : Prop where
  sho : d.showable = true
  nod : d.hasDict = false
  dep : d.depth ≤ p
  len : d.shown.length ≤ q
theorem ShB.sh {p q : Nat} {d : PyData} (h : ShB p q d) (hp : p ≤ 60) (hq : q ≤ 16777216) : Sh d := ⟨h.sho, h.nod, Nat.le_trans h.dep hp, Nat.le_trans h.len hq⟩
theorem ShB.mono {p q p' q' : Nat} {d : PyData} (h : ShB p q d) (hp : p ≤ p') (hq : q ≤ q') : ShB p' q' d := ⟨h.sho, h.nod, Nat.le_trans h.dep hp, Nat.le_trans h.len hq⟩
theorem shAll {p q : Nat} : ∀ {ds : List PyData}, (∀ d ∈ ds, ShB p q d) → PyData.showableAll ds = true ∧ PyData.hasDictAll ds = false ∧ PyData.depthAll ds ≤ p ∧ ((PyData.shownAll ds).map (·.length)).sum ≤ ds.length * q ∧ (PyData.shownAll ds).length = ds.length
  | [], _ => ⟨by simp [PyData.showableAll], by simp [PyData.hasDictAll], by simp [PyData.depthAll], by simp [PyData.shownAll], by simp [PyData.shownAll]⟩
  | d :: ds, h => by
    obtain ⟨h1, h2, h3, h4, h5⟩ := shAll fun x hx => h x (List.mem_cons_of_mem _ hx)
    have z := h d List.mem_cons_self
    refine ⟨by rw [PyData.showableAll, z.sho, h1]; rfl, by rw [PyData.hasDictAll, z.nod, h2]; rfl, ?_, ?_, ?_⟩
    · rw [PyData.depthAll]
      exact Nat.max_le.mpr ⟨z.dep, h3⟩
    · rw [PyData.shownAll, List.map_cons, List.sum_cons, List.length_cons, Nat.add_mul, Nat.one_mul]
      have := z.len
      omega
    · rw [PyData.shownAll, List.length_cons, h5, List.length_cons]
theorem shTup {p q : Nat} {ds : List PyData} (h : ∀ d ∈ ds, ShB p q d) : ShB (p + 1) (ds.length * q + 2 * ds.length + 3) (.tuple ds) := by
  obtain ⟨h1, h2, h3, h4, h5⟩ := shAll h
  refine ⟨by rw [PyData.showable]; exact h1, by rw [PyData.hasDict]; exact h2, by rw [PyData.depth]; omega, ?_⟩
  rw [PyData.shown]
  have := tupleText_len_le (PyData.shownAll ds)
  omega
theorem shTupN {p q n : Nat} {ds : List PyData} (h : ∀ d ∈ ds, ShB p q d) (hn : ds.length ≤ n) : ShB (p + 1) (n * q + 2 * n + 3) (.tuple ds) := by
  refine (shTup h).mono (Nat.le_refl _) ?_
  have : ds.length * q ≤ n * q := Nat.mul_le_mul_right q hn
  omega
theorem shInt {i : Int} (h0 : 0 ≤ i) (h1 : i ≤ 12) : ShB 0 4 (.int i) := by
  obtain ⟨n, rfl⟩ := Int.eq_ofNat_of_zero_le h0
  have a1 : ∀ n : Fin 13, (PyData.int (n.val : Int)).showable = true := by decide +kernel
  have a2 : ∀ n : Fin 13, (PyData.int (n.val : Int)).shown.length ≤ 4 := by decide +kernel
  have hn : n < 13 := by omega
  exact ⟨a1 ⟨n, hn⟩, by rw [PyData.hasDict], by rw [PyData.depth]; omega, a2 ⟨n, hn⟩⟩
theorem shNon : ShB 0 4 .none := ⟨by decide +kernel, by decide +kernel, by decide +kernel, by decide +kernel⟩
section
variable {T : List (Addr × Str)} {S : List Addr} {H0 H1 : Hp} {D : Addr} {g : TG} {te : TE} {vs : List Nat} {σ : L2.St} {Qd : Hp → Prop}
structure LcF (T : List (Addr × Str)) (S : List Addr) (H0 : Hp) (D : Addr) (ok : V → Prop) (i : Nat) (H : Hp) : Prop where
  ex : Ex T S H0 H
  sr : Srcs S H
  at_ : ∃ acc : List V, H D = some (.lst acc) ∧ acc.length = i ∧ ∀ y ∈ acc, ok y
theorem LcF.more {H H4 : Hp} {ok : V → Prop} {i : Nat} {y : V} (L : LcF T S H0 D ok i H) (fD : Fresh H0 D) (nD : D ∉ S) (e4 : Ex T S H H4) (s4 : Srcs S H4) (hy : ok y) (sz : i < sizeLine) :
    ∃ acc, H4 D = some (.lst acc) ∧ acc.length < sizeLine ∧ LcF T S H0 D ok (i + 1) (L2.upd H4 D (.lst (acc ++ [y]))) := by
  obtain ⟨acc, hacc, hl, hok⟩ := L.at_
  have h4 := e4.at_lst nD hacc
  refine ⟨acc, h4, by omega, (L.ex.trans e4).put h4 (.inr fD), s4.upd nD, _, upd_same, by simp [hl], fun z hz => ?_⟩
  rcases List.mem_append.mp hz with hz | hz
  · exact hok z hz
  · rw [List.mem_singleton.mp hz]
    exact hy
/-- over a range, flat values -/
theorem lc_rangeV {lo : Int} {n : Nat} (ok : V → Prop) (e0 : Ex T S H0 H1) (s0 : Srcs S H1) (nD : H1 D = none) (hn : n < sizeLine)
    (step : ∀ (i : Nat) (H' : Hp) (Q' : VK), i < n → Ex T S H0 H' → Srcs S H' → (∀ y H4, Ex T S H' H4 → Srcs S H4 → ok y → Q' y H4) → g (.int (lo + i)) (wipe σ vs) H' fun σ2 H2 => wipe σ2 vs = wipe σ vs ∧ te σ2 H2 Q')
    (hd : ∀ H' acc, Ex T S H0 H' → Srcs S H' → H' D = some (.lst acc) → acc.length = n → (∀ y ∈ acc, ok y) → Qd H') :
    ∃ W : Nat → Nat → Hp → Prop, (∃ m, W 0 m (L2.upd H1 D (.lst []))) ∧ ∀ i m H, W i m H →
      ((Itr lo n).stop i H ∧ Qd H) ∨ ((Itr lo n).go i H ∧ ∃ Nx : Hp → Prop, (∀ H', Nx H' → ∃ m', m' < m ∧ W (i + 1) m' H') ∧ ∀ x H', (Itr lo n).yld i H x H' → g x (wipe σ vs) H' fun σ2 H2 => wipe σ2 vs = wipe σ vs ∧ tYes σ2 H2 fun b H3 =>
        if b = true then te σ2 H3 fun y H4 => ∃ acc, H4 D = some (.lst acc) ∧ acc.length < sizeLine ∧ Nx (L2.upd H4 D (.lst (acc ++ [y]))) else Nx H3) := by
  have hDS := s0.free nD
  have fD : Fresh H0 D := e0.fresh nD hDS
  refine lc_range (lo := lo) (n := n) (fun i H => LcF T S H0 D ok i H) ⟨e0.new nD, s0.upd hDS, [], upd_same, rfl, by simp⟩ (fun i H hi L => ?_) fun H L => ?_
  · have q := step i H (fun y H4 => ∃ acc, H4 D = some (.lst acc) ∧ acc.length < sizeLine ∧ LcF T S H0 D ok (i + 1) (L2.upd H4 D (.lst (acc ++ [y])))) hi L.ex L.sr fun y H4 e4 s4 hy => L.more fD hDS e4 s4 hy (by omega)
    exact q
  · obtain ⟨acc, h1, h2, h3⟩ := L.at_
    exact hd H acc L.ex L.sr h1 h2 h3
/-- over a list, flat values -/
theorem lc_listV {K : PySem.W.Frag} {a : Addr} {xs : List V} (ok : V → Prop) (e0 : Ex T S H0 H1) (s0 : Srcs S H1) (nD : H1 D = none) (ha : SqL K H0 a xs) (haS : a ∉ S) (hn : xs.length < sizeLine)
    (step : ∀ (i : Nat) (x : V) (H' : Hp) (Q' : VK), xs[i]? = some x → Ex T S H0 H' → Srcs S H' → (∀ y H4, Ex T S H' H4 → Srcs S H4 → ok y → Q' y H4) → g x (wipe σ vs) H' fun σ2 H2 => wipe σ2 vs = wipe σ vs ∧ te σ2 H2 Q')
    (hd : ∀ H' acc, Ex T S H0 H' → Srcs S H' → H' D = some (.lst acc) → acc.length = xs.length → (∀ y ∈ acc, ok y) → Qd H') :
    ∃ W : Nat → Nat → Hp → Prop, (∃ m, W 0 m (L2.upd H1 D (.lst []))) ∧ ∀ i m H, W i m H →
      ((Itl K a).stop i H ∧ Qd H) ∨ ((Itl K a).go i H ∧ ∃ Nx : Hp → Prop, (∀ H', Nx H' → ∃ m', m' < m ∧ W (i + 1) m' H') ∧ ∀ x H', (Itl K a).yld i H x H' → g x (wipe σ vs) H' fun σ2 H2 => wipe σ2 vs = wipe σ vs ∧ tYes σ2 H2 fun b H3 =>
        if b = true then te σ2 H3 fun y H4 => ∃ acc, H4 D = some (.lst acc) ∧ acc.length < sizeLine ∧ Nx (L2.upd H4 D (.lst (acc ++ [y]))) else Nx H3) := by
  have hDS := s0.free nD
  have fD : Fresh H0 D := e0.fresh nD hDS
  refine lc_list (K := K) (a := a) (xs := xs) (fun i H => LcF T S H0 D ok i H) ⟨e0.new nD, s0.upd hDS, [], upd_same, rfl, by simp⟩ (fun i H _ L => L.ex.seq haS ha) (fun i x H hx L => ?_) fun H L => ?_
  · have hi : i < xs.length := (List.getElem?_eq_some_iff.mp hx).1
    have q := step i x H (fun y H4 => ∃ acc, H4 D = some (.lst acc) ∧ acc.length < sizeLine ∧ LcF T S H0 D ok (i + 1) (L2.upd H4 D (.lst (acc ++ [y])))) hx L.ex L.sr fun y H4 e4 s4 hy => L.more fD hDS e4 s4 hy (by omega)
    exact q
  · obtain ⟨acc, h1, h2, h3⟩ := L.at_
    exact hd H acc L.ex L.sr h1 h2 h3
end
theorem pi_listK {X : Cx} {K : PySem.W.Frag} {tg l : Expr} {tl : TE} (hK : X.K = K) (hl : PE X l tl) : PI X tg l (iList K tl) := by
  subst hK
  exact pi_list hl
theorem ix_seqK {X : Cx} {K : PySem.W.Frag} (hK : X.K = K) : IxR X (rIx K) := by
  subst hK
  exact ix_seq
end Ed

set_option Elab.async false
set_option linter.all false
set_option maxRecDepth 100000
set_option maxHeartbeats 4000000
/-! where each def of the text stands, and what the top leaves -/
namespace Ed
open PySem PySem.Spec PyProof.Rows L2
def topS (i : Nat) : Stmt := PySem.Challenge.pw_editlots_k01_tables_told_by_rule.main.body.getD i (.Pass ⟨0, 0, 0, 0⟩)
abbrev s_whole : Stmt := topS 6
abbrev n_whole : List Str := ["thing"]
theorem sc_whole : FnScope n_whole ["thing"] (defScope s_whole) := ⟨rfl, rfl, rfl, by decide +kernel, rfl, by decide +kernel, by decide +kernel⟩
abbrev s_whole_between : Stmt := topS 7
abbrev n_whole_between : List Str := ["thing", "low", "high"]
theorem sc_whole_between : FnScope n_whole_between ["thing", "low", "high"] (defScope s_whole_between) := ⟨rfl, rfl, rfl, by decide +kernel, rfl, by decide +kernel, by decide +kernel⟩
abbrev s_tuple_between : Stmt := topS 8
abbrev n_tuple_between : List Str := ["thing", "least", "most"]
theorem sc_tuple_between : FnScope n_tuple_between ["thing", "least", "most"] (defScope s_tuple_between) := ⟨rfl, rfl, rfl, by decide +kernel, rfl, by decide +kernel, by decide +kernel⟩
abbrev s_made_table : Stmt := topS 11
abbrev n_made_table : List Str := ["thing", "wrong"]
theorem sc_made_table : FnScope n_made_table ["thing"] (defScope s_made_table) := ⟨rfl, rfl, rfl, by decide +kernel, rfl, by decide +kernel, by decide +kernel⟩
abbrev s_is_table : Stmt := topS 12
abbrev n_is_table : List Str := ["thing"]
theorem sc_is_table : FnScope n_is_table ["thing"] (defScope s_is_table) := ⟨rfl, rfl, rfl, by decide +kernel, rfl, by decide +kernel, by decide +kernel⟩
abbrev s_many : Stmt := topS 13
abbrev n_many : List Str := ["table"]
theorem sc_many : FnScope n_many ["table"] (defScope s_many) := ⟨rfl, rfl, rfl, by decide +kernel, rfl, by decide +kernel, by decide +kernel⟩
abbrev s_entry : Stmt := topS 14
abbrev n_entry : List Str := ["table", "o", "a", "b", "state"]
theorem sc_entry : FnScope n_entry ["table", "o", "a", "b"] (defScope s_entry) := ⟨rfl, rfl, rfl, by decide +kernel, rfl, by decide +kernel, by decide +kernel⟩
abbrev s_first_gap : Stmt := topS 15
abbrev n_first_gap : List Str := ["table"]
theorem sc_first_gap : FnScope n_first_gap ["table"] (defScope s_first_gap) := ⟨rfl, rfl, rfl, by decide +kernel, rfl, by decide +kernel, by decide +kernel⟩
abbrev s_turn : Stmt := topS 16
abbrev n_turn : List Str := ["n"]
theorem sc_turn : FnScope n_turn ["n"] (defScope s_turn) := ⟨rfl, rfl, rfl, by decide +kernel, rfl, by decide +kernel, by decide +kernel⟩
abbrev s_sides : Stmt := topS 17
abbrev n_sides : List Str := ["n"]
theorem sc_sides : FnScope n_sides ["n"] (defScope s_sides) := ⟨rfl, rfl, rfl, by decide +kernel, rfl, by decide +kernel, by decide +kernel⟩
abbrev s_once : Stmt := topS 18
abbrev n_once : List Str := ["n"]
theorem sc_once : FnScope n_once ["n"] (defScope s_once) := ⟨rfl, rfl, rfl, by decide +kernel, rfl, by decide +kernel, by decide +kernel⟩
abbrev s_greater : Stmt := topS 19
abbrev n_greater : List Str := ["n"]
theorem sc_greater : FnScope n_greater ["n"] (defScope s_greater) := ⟨rfl, rfl, rfl, by decide +kernel, rfl, by decide +kernel, by decide +kernel⟩
abbrev s_check_many : Stmt := topS 20
abbrev n_check_many : List Str := ["n"]
theorem sc_check_many : FnScope n_check_many ["n"] (defScope s_check_many) := ⟨rfl, rfl, rfl, by decide +kernel, rfl, by decide +kernel, by decide +kernel⟩
abbrev s_check_state : Stmt := topS 21
abbrev n_check_state : List Str := ["n", "state"]
theorem sc_check_state : FnScope n_check_state ["n", "state"] (defScope s_check_state) := ⟨rfl, rfl, rfl, by decide +kernel, rfl, by decide +kernel, by decide +kernel⟩
abbrev s_wrong_place : Stmt := topS 22
abbrev n_wrong_place : List Str := ["thing", "n", "o", "a", "b"]
theorem sc_wrong_place : FnScope n_wrong_place ["thing"] (defScope s_wrong_place) := ⟨rfl, rfl, rfl, by decide +kernel, rfl, by decide +kernel, by decide +kernel⟩
abbrev s_cube_shaped : Stmt := topS 23
abbrev n_cube_shaped : List Str := ["thing", "n", "base", "side"]
theorem sc_cube_shaped : FnScope n_cube_shaped ["thing"] (defScope s_cube_shaped) := ⟨rfl, rfl, rfl, by decide +kernel, rfl, by decide +kernel, by decide +kernel⟩
abbrev s_wrong_entry : Stmt := topS 24
abbrev n_wrong_entry : List Str := ["row", "n", "at", "told"]
theorem sc_wrong_entry : FnScope n_wrong_entry ["row", "n"] (defScope s_wrong_entry) := ⟨rfl, rfl, rfl, by decide +kernel, rfl, by decide +kernel, by decide +kernel⟩
abbrev s_gap_place : Stmt := topS 25
abbrev n_gap_place : List Str := ["table", "o", "base", "a", "row"]
theorem sc_gap_place : FnScope n_gap_place ["table"] (defScope s_gap_place) := ⟨rfl, rfl, rfl, by decide +kernel, rfl, by decide +kernel, by decide +kernel⟩
abbrev s_filled : Stmt := topS 26
abbrev n_filled : List Str := ["n", "told", "states", "b", "a", "o"]
theorem sc_filled : FnScope n_filled ["n", "told"] (defScope s_filled) := ⟨rfl, rfl, rfl, by decide +kernel, rfl, by decide +kernel, by decide +kernel⟩
abbrev s_one_side : Stmt := topS 27
abbrev n_one_side : List Str := ["o", "a", "b"]
theorem sc_one_side : FnScope n_one_side ["o", "a", "b"] (defScope s_one_side) := ⟨rfl, rfl, rfl, by decide +kernel, rfl, by decide +kernel, by decide +kernel⟩
abbrev s_alike_once : Stmt := topS 28
abbrev n_alike_once : List Str := ["o", "a", "b"]
theorem sc_alike_once : FnScope n_alike_once ["o", "a", "b"] (defScope s_alike_once) := ⟨rfl, rfl, rfl, by decide +kernel, rfl, by decide +kernel, by decide +kernel⟩
abbrev s_greater_side : Stmt := topS 29
abbrev n_greater_side : List Str := ["o", "a", "b", "told"]
theorem sc_greater_side : FnScope n_greater_side ["o", "a", "b"] (defScope s_greater_side) := ⟨rfl, rfl, rfl, by decide +kernel, rfl, by decide +kernel, by decide +kernel⟩
abbrev s__law_pool : Stmt := topS 31
abbrev n__law_pool : List Str := ["script", "k", "cell", "big", "mixed"]
theorem sc__law_pool : FnScope n__law_pool ["script", "k"] (defScope s__law_pool) := ⟨rfl, rfl, rfl, by decide +kernel, rfl, by decide +kernel, by decide +kernel⟩
abbrev s__law_take : Stmt := topS 32
abbrev n__law_take : List Str := ["source", "top", "drawn"]
theorem sc__law_take : FnScope n__law_take ["source", "top"] (defScope s__law_take) := ⟨rfl, rfl, rfl, by decide +kernel, rfl, by decide +kernel, by decide +kernel⟩
abbrev s__law_one : Stmt := topS 33
abbrev n__law_one : List Str := ["source", "things"]
theorem sc__law_one : FnScope n__law_one ["source", "things"] (defScope s__law_one) := ⟨rfl, rfl, rfl, by decide +kernel, rfl, by decide +kernel, by decide +kernel⟩
abbrev s__law_gapped : Stmt := topS 34
abbrev n__law_gapped : List Str := ["source", "table", "odds", "found", "rows", "x", "row"]
theorem sc__law_gapped : FnScope n__law_gapped ["source", "table", "odds"] (defScope s__law_gapped) := ⟨rfl, rfl, rfl, by decide +kernel, rfl, by decide +kernel, by decide +kernel⟩
abbrev s__law_has_gap : Stmt := topS 35
abbrev n__law_has_gap : List Str := ["table", "size", "o", "a", "b"]
theorem sc__law_has_gap : FnScope n__law_has_gap ["table"] (defScope s__law_has_gap) := ⟨rfl, rfl, rfl, by decide +kernel, rfl, by decide +kernel, by decide +kernel⟩
abbrev s__law_is_refused : Stmt := topS 36
abbrev n__law_is_refused : List Str := ["call", "what", "error"]
theorem sc__law_is_refused : FnScope n__law_is_refused ["call", "what"] (defScope s__law_is_refused) := ⟨rfl, rfl, rfl, by decide +kernel, rfl, by decide +kernel, by decide +kernel⟩
abbrev s__law_own_entry : Stmt := topS 37
abbrev n__law_own_entry : List Str := ["size", "word", "o", "a", "b"]
theorem sc__law_own_entry : FnScope n__law_own_entry ["size", "word", "o", "a", "b"] (defScope s__law_own_entry) := ⟨rfl, rfl, rfl, by decide +kernel, rfl, by decide +kernel, by decide +kernel⟩
abbrev s__law_own_table : Stmt := topS 38
abbrev n__law_own_table : List Str := ["size", "word", "found", "o", "rows", "a", "b"]
theorem sc__law_own_table : FnScope n__law_own_table ["size", "word"] (defScope s__law_own_table) := ⟨rfl, rfl, rfl, by decide +kernel, rfl, by decide +kernel, by decide +kernel⟩
abbrev s__law_told_by : Stmt := topS 39
abbrev n__law_told_by : List Str := ["size", "word"]
theorem sc__law_told_by : FnScope n__law_told_by ["size", "word"] (defScope s__law_told_by) := ⟨rfl, rfl, rfl, by decide +kernel, rfl, by decide +kernel, by decide +kernel⟩
abbrev s__law_table_right : Stmt := topS 40
abbrev n__law_table_right : List Str := ["source", "table", "size", "turn_at", "o", "a", "b", "place", "some", "at", "odd", "three", "error"]
theorem sc__law_table_right : FnScope n__law_table_right ["source", "table"] (defScope s__law_table_right) := ⟨rfl, rfl, rfl, by decide +kernel, rfl, by decide +kernel, by decide +kernel⟩
abbrev s_law : Stmt := topS 41
abbrev n_law : List Str := ["script", "source", "sizes", "size", "word", "own", "odd", "call"]
theorem sc_law : FnScope n_law ["script"] (defScope s_law) := ⟨rfl, rfl, rfl, by decide +kernel, rfl, by decide +kernel, by decide +kernel⟩
abbrev k_Refused : Stmt := topS 1
abbrev k_BadMany : Stmt := topS 2
abbrev k_BadTable : Stmt := topS 3
abbrev k_BadState : Stmt := topS 4
/-- where the classes stand, and the __init__ of the first -/
structure Cl where
  Refused : Addr
  BadMany : Addr
  BadTable : Addr
  BadState : Addr
  ini : Addr
theorem q_turn : ((("turn" : Str) ++ ".<locals>.") ++ "<lambda>") = ("turn.<locals>.<lambda>" : Str) := by decide +kernel
theorem q_law : ((("law" : Str) ++ ".<locals>.") ++ "<lambda>") = ("law.<locals>.<lambda>" : Str) := by decide +kernel
/-- what the top has written: each def, the names of the built-in ones, the constants -/
structure Txt (K : PySem.W.Frag) (mg : Str → Option Value) (base : Heap) (T : List (Addr × Str)) (c : Cl) : Prop where
  d_whole : ∃ (f : Addr) (cd : Value), DefAt K mg "whole" "whole" s_whole ["thing"] f cd ∧ mg "whole" = some (.ref f)
  d_whole_between : ∃ (f : Addr) (cd : Value), DefAt K mg "whole_between" "whole_between" s_whole_between ["thing", "low", "high"] f cd ∧ mg "whole_between" = some (.ref f)
  d_tuple_between : ∃ (f : Addr) (cd : Value), DefAt K mg "tuple_between" "tuple_between" s_tuple_between ["thing", "least", "most"] f cd ∧ mg "tuple_between" = some (.ref f)
  d_made_table : ∃ (f : Addr) (cd : Value), DefAt K mg "made_table" "made_table" s_made_table ["thing"] f cd ∧ mg "made_table" = some (.ref f)
  d_is_table : ∃ (f : Addr) (cd : Value), DefAt K mg "is_table" "is_table" s_is_table ["thing"] f cd ∧ mg "is_table" = some (.ref f)
  d_many : ∃ (f : Addr) (cd : Value), DefAt K mg "many" "many" s_many ["table"] f cd ∧ mg "many" = some (.ref f)
  d_entry : ∃ (f : Addr) (cd : Value), DefAt K mg "entry" "entry" s_entry ["table", "o", "a", "b"] f cd ∧ mg "entry" = some (.ref f)
  d_first_gap : ∃ (f : Addr) (cd : Value), DefAt K mg "first_gap" "first_gap" s_first_gap ["table"] f cd ∧ mg "first_gap" = some (.ref f)
  d_turn : ∃ (f c P : Addr), DefAt K mg "turn" "turn" s_turn ["n"] f (.ref c) ∧ mg "turn" = some (.ref f) ∧ LamX.TabB base mg c P ∧ (P, ("turn.<locals>.<lambda>" : Str)) ∈ T ∧ ∀ p ∈ T, p.1 = P → p.2 = ("turn.<locals>.<lambda>" : Str)
  d_sides : ∃ (f : Addr) (cd : Value), DefAt K mg "sides" "sides" s_sides ["n"] f cd ∧ mg "sides" = some (.ref f)
  d_once : ∃ (f : Addr) (cd : Value), DefAt K mg "once" "once" s_once ["n"] f cd ∧ mg "once" = some (.ref f)
  d_greater : ∃ (f : Addr) (cd : Value), DefAt K mg "greater" "greater" s_greater ["n"] f cd ∧ mg "greater" = some (.ref f)
  d_check_many : ∃ (f : Addr) (cd : Value), DefAt K mg "check_many" "check_many" s_check_many ["n"] f cd ∧ mg "check_many" = some (.ref f)
  d_check_state : ∃ (f : Addr) (cd : Value), DefAt K mg "check_state" "check_state" s_check_state ["n", "state"] f cd ∧ mg "check_state" = some (.ref f)
  d_wrong_place : ∃ (f : Addr) (cd : Value), DefAt K mg "wrong_place" "wrong_place" s_wrong_place ["thing"] f cd ∧ mg "wrong_place" = some (.ref f)
  d_cube_shaped : ∃ (f : Addr) (cd : Value), DefAt K mg "cube_shaped" "cube_shaped" s_cube_shaped ["thing"] f cd ∧ mg "cube_shaped" = some (.ref f)
  d_wrong_entry : ∃ (f : Addr) (cd : Value), DefAt K mg "wrong_entry" "wrong_entry" s_wrong_entry ["row", "n"] f cd ∧ mg "wrong_entry" = some (.ref f)
  d_gap_place : ∃ (f : Addr) (cd : Value), DefAt K mg "gap_place" "gap_place" s_gap_place ["table"] f cd ∧ mg "gap_place" = some (.ref f)
  d_filled : ∃ (f : Addr) (cd : Value), DefAt K mg "filled" "filled" s_filled ["n", "told"] f cd ∧ mg "filled" = some (.ref f)
  d_one_side : ∃ (f : Addr) (cd : Value), DefAt K mg "one_side" "one_side" s_one_side ["o", "a", "b"] f cd ∧ mg "one_side" = some (.ref f)
  d_alike_once : ∃ (f : Addr) (cd : Value), DefAt K mg "alike_once" "alike_once" s_alike_once ["o", "a", "b"] f cd ∧ mg "alike_once" = some (.ref f)
  d_greater_side : ∃ (f : Addr) (cd : Value), DefAt K mg "greater_side" "greater_side" s_greater_side ["o", "a", "b"] f cd ∧ mg "greater_side" = some (.ref f)
  d__law_pool : ∃ (f : Addr) (cd : Value), DefAt K mg "_law_pool" "_law_pool" s__law_pool ["script", "k"] f cd ∧ mg "_law_pool" = some (.ref f)
  d__law_take : ∃ (f : Addr) (cd : Value), DefAt K mg "_law_take" "_law_take" s__law_take ["source", "top"] f cd ∧ mg "_law_take" = some (.ref f)
  d__law_one : ∃ (f : Addr) (cd : Value), DefAt K mg "_law_one" "_law_one" s__law_one ["source", "things"] f cd ∧ mg "_law_one" = some (.ref f)
  d__law_gapped : ∃ (f : Addr) (cd : Value), DefAt K mg "_law_gapped" "_law_gapped" s__law_gapped ["source", "table", "odds"] f cd ∧ mg "_law_gapped" = some (.ref f)
  d__law_has_gap : ∃ (f : Addr) (cd : Value), DefAt K mg "_law_has_gap" "_law_has_gap" s__law_has_gap ["table"] f cd ∧ mg "_law_has_gap" = some (.ref f)
  d__law_is_refused : ∃ (f : Addr) (cd : Value), DefAt K mg "_law_is_refused" "_law_is_refused" s__law_is_refused ["call", "what"] f cd ∧ mg "_law_is_refused" = some (.ref f)
  d__law_own_entry : ∃ (f : Addr) (cd : Value), DefAt K mg "_law_own_entry" "_law_own_entry" s__law_own_entry ["size", "word", "o", "a", "b"] f cd ∧ mg "_law_own_entry" = some (.ref f)
  d__law_own_table : ∃ (f : Addr) (cd : Value), DefAt K mg "_law_own_table" "_law_own_table" s__law_own_table ["size", "word"] f cd ∧ mg "_law_own_table" = some (.ref f)
  d__law_told_by : ∃ (f : Addr) (cd : Value), DefAt K mg "_law_told_by" "_law_told_by" s__law_told_by ["size", "word"] f cd ∧ mg "_law_told_by" = some (.ref f)
  d__law_table_right : ∃ (f : Addr) (cd : Value), DefAt K mg "_law_table_right" "_law_table_right" s__law_table_right ["source", "table"] f cd ∧ mg "_law_table_right" = some (.ref f)
  d_law : ∃ (f c P : Addr), DefAt K mg "law" "law" s_law ["script"] f (.ref c) ∧ mg "law" = some (.ref f) ∧ LamX.TabB base mg c P ∧ (P, ("law.<locals>.<lambda>" : Str)) ∈ T ∧ ∀ p ∈ T, p.1 = P → p.2 = ("law.<locals>.<lambda>" : Str)
  n_bool : mg "bool" = none
  n_enumerate : mg "enumerate" = none
  n_int : mg "int" = none
  n_isinstance : mg "isinstance" = none
  n_len : mg "len" = none
  n_max : mg "max" = none
  n_range : mg "range" = none
  n_repr : mg "repr" = none
  n_tuple : mg "tuple" = none
  g_MOST_STATES : ∃ t, mg "MOST_STATES" = some (.int 12 t)
  i_ty : PySem.W.typeIn K (.ref c.ini) = some (.type "function")
  i_fun : ∃ fd : FuncData, Fun K "__init__" "Refused.__init__" (inClass k_Refused 0) c.ini fd ∧ L2.Binds K fd ["self", "what"] []
  e_Refused : ErrK K mg "Refused" c.Refused c.ini
  e_BadMany : ErrK K mg "BadMany" c.BadMany c.ini
  e_BadTable : ErrK K mg "BadTable" c.BadTable c.ini
  e_BadState : ErrK K mg "BadState" c.BadState c.ini
  x_BadMany : PySem.W.exmOne K (.ref c.BadMany) (.ref c.Refused) = some true
  k_BadMany_BadMany : PySem.W.kitOne K (.ref c.BadMany) (.ref c.BadMany) = some true
  k_BadMany_BadTable : PySem.W.kitOne K (.ref c.BadMany) (.ref c.BadTable) = some false
  k_BadMany_BadState : PySem.W.kitOne K (.ref c.BadMany) (.ref c.BadState) = some false
  x_BadTable : PySem.W.exmOne K (.ref c.BadTable) (.ref c.Refused) = some true
  k_BadTable_BadMany : PySem.W.kitOne K (.ref c.BadTable) (.ref c.BadMany) = some false
  k_BadTable_BadTable : PySem.W.kitOne K (.ref c.BadTable) (.ref c.BadTable) = some true
  k_BadTable_BadState : PySem.W.kitOne K (.ref c.BadTable) (.ref c.BadState) = some false
  x_BadState : PySem.W.exmOne K (.ref c.BadState) (.ref c.Refused) = some true
  k_BadState_BadMany : PySem.W.kitOne K (.ref c.BadState) (.ref c.BadMany) = some false
  k_BadState_BadTable : PySem.W.kitOne K (.ref c.BadState) (.ref c.BadTable) = some false
  k_BadState_BadState : PySem.W.kitOne K (.ref c.BadState) (.ref c.BadState) = some true
theorem DefAt.cal {P : Program} {w : World} {K : PySem.W.Frag} {mg : Str → Option Value} {base : Heap} {x : Str} {st : Stmt} {ps : List Str} {f : Addr} {cd : Value} {k : Nat} {sp : Sp} (D : DefAt K mg x x st ps f cd) (hm : mg x = some (.ref f)) (F : FnV P w K mg base k f sp) : CalV P w K mg base k x sp := by
  obtain ⟨oc, od, kV, doc, pm, an, ct, osl, lk⟩ := D.ex
  exact ⟨f, F, hm, oc, od, _, osl, lk⟩

theorem sc_init : FnScope ["self", "what"] ["self", "what"] (defScope (inClass k_Refused 0)) := ⟨rfl, rfl, rfl, by decide +kernel, rfl, by decide +kernel, by decide +kernel⟩
theorem ok_init {P : Program} {w : World} {K : PySem.W.Frag} {mg : Str → Option Value} {base : Heap} {f : Addr} {fd : FuncData} (F : Fun K "__init__" "Refused.__init__" (inClass k_Refused 0) f fd) : FnOk P w K mg base CX0 1 f fd ["self", "what"] (spErrInit K) := by
  refine F.ok sc_init (fun vs H Q E h => ?_) (fun cdv A outer s H vs Q E hr h => ?_)
  · obtain ⟨a, C, y, rfl, _⟩ := h
    rfl
  · obtain ⟨a, C, y, rfl, ox, wh, ha, q⟩ := h
    exact ⟨_, pss_one (ps_ost (pv 0) (pv 1)), y, rfl, .ref a, rfl, a, C, rfl, ox, wh, .inl ⟨ha, fun dx hd ne => q dx hd ne⟩⟩
end Ed

set_option Elab.async false
set_option linter.all false
set_option maxRecDepth 100000
set_option maxHeartbeats 4000000
namespace Ed
open PySem PySem.Spec PyProof.Rows L2
/-! ### kinds of values -/
/-- a value of a kind that is known -/
def Kn (H : Hp) : V → Prop
  | .non => True
  | .bl _ => True
  | .int _ => True
  | .str _ => True
  | .ref a => ∃ xs, Tp H a xs
  | _ => False
def isInt : V → Bool
  | .int _ => true
  | _ => false
def isBl : V → Bool
  | .bl _ => true
  | _ => false
def isRef : V → Bool
  | .ref _ => true
  | _ => false
theorem Kn.ty {K : PySem.W.Frag} {H : Hp} {v : V} (h : Kn H v) : ∃ t, TyX K H v (.type t) ∧ kitB t "int" = some (isInt v || isBl v) ∧ kitB t "bool" = some (isBl v) ∧ kitB t "tuple" = some (isRef v) := by
  match v, h with
  | .non, _ => exact ⟨"NoneType", .base .non, (by show kitB "NoneType" "int" = some false; decide +kernel), (by show kitB "NoneType" "bool" = some false; decide +kernel), (by show kitB "NoneType" "tuple" = some false; decide +kernel)⟩
  | .bl b, _ => exact ⟨"bool", .base (.bl b), (by show kitB "bool" "int" = some true; decide +kernel), (by show kitB "bool" "bool" = some true; decide +kernel), (by show kitB "bool" "tuple" = some false; decide +kernel)⟩
  | .int i, _ => exact ⟨"int", .base (.int i), (by show kitB "int" "int" = some true; decide +kernel), (by show kitB "int" "bool" = some false; decide +kernel), (by show kitB "int" "tuple" = some false; decide +kernel)⟩
  | .str x, _ => exact ⟨"str", .base (.str x), (by show kitB "str" "int" = some false; decide +kernel), (by show kitB "str" "bool" = some false; decide +kernel), (by show kitB "str" "tuple" = some false; decide +kernel)⟩
  | .ref a, ⟨xs, e⟩ => exact ⟨"tuple", .fTuple e.choose_spec.1, (by show kitB "tuple" "int" = some false; decide +kernel), (by show kitB "tuple" "bool" = some false; decide +kernel), (by show kitB "tuple" "tuple" = some true; decide +kernel)⟩
theorem Td.kn {H : Hp} {v : V} {d : PyData} (h : Td H v d) : Kn H v := by
  cases h with
  | non => trivial
  | bl b => trivial
  | int i => trivial
  | str x => trivial
  | tup e q => exact ⟨_, e⟩
section
variable {P : Program} {w : World} {K : PySem.W.Frag} {mg : Str → Option Value} {base : Heap} {TT : List (Addr × Str)} {CL : Cl}
/-! ### shapes -/
def spWhole : Sp := fun vs H Q _ => ∃ v, vs = [v] ∧ Kn H v ∧ Q (.bl (isInt v)) H
theorem v_whole (T : Txt K mg base TT CL) : CalV P w K mg base 1 "whole" spWhole := by
  obtain ⟨f, cd, D, hm⟩ := T.d_whole
  have sc := sc_whole
  let N : List Str := n_whole
  refine D.cal hm (fnv_def D sc (fun vs H Q E h => ?_) fun A outer s H vs Q E hr h => ?_)
  · obtain ⟨v, rfl, _⟩ := h
    rfl
  · obtain ⟨v, rfl, hv, q⟩ := h
    refine ⟨_, (pss_one (ps_ret (pe_and (pe_callB call_isi (by rfl) T.n_isinstance (by decide +kernel) (pa_cons (pv 0) (pa_cons (pe_bltn (v := .ty "int") (by rfl) T.n_int (by decide +kernel) rfl) pa_nil))) (pe_one (pe_not (pe_callB call_isi (by rfl) T.n_isinstance (by decide +kernel) (pa_cons (pv 0) (pa_cons (pe_bltn (v := .ty "bool") (by rfl) T.n_bool (by decide +kernel) rfl) pa_nil)))))))), ?_⟩
    obtain ⟨t, ty, h1, h2, _⟩ := hv.ty (K := K)
    refine ⟨v, rfl, v, .ty "int", _, _, _, rfl, .ty "int", ty, kit_ty h1, _, rfl, ?_⟩
    cases e : (isInt v || isBl v) with
    | false =>
      refine iteF ?_
      have e1 : isInt v = false := by
        cases z : isInt v with
        | false => rfl
        | true => rw [z] at e; cases e
      rw [e1] at q
      exact q
    | true =>
      refine iteT ⟨v, rfl, v, .ty "bool", _, _, _, rfl, .ty "bool", ty, kit_ty h2, _, rfl, ?_⟩
      have e1 : (!isBl v) = isInt v := by
        cases v <;> first | rfl | (simp [isInt, isBl] at e)
      rw [e1]
      exact q
/-- within the bounds -/
def inR (v : V) (lo hi : Int) : Bool := match v with
  | .int i => decide (lo ≤ i) && decide (i ≤ hi)
  | _ => false
def spWB : Sp := fun vs H Q _ => ∃ v lo hi, vs = [v, .int lo, .int hi] ∧ Kn H v ∧ Q (.bl (inR v lo hi)) H
theorem v_whole_between (T : Txt K mg base TT CL) (c_whole : CalV P w K mg base 1 "whole" spWhole) : CalV P w K mg base 2 "whole_between" spWB := by
  obtain ⟨f, cd, D, hm⟩ := T.d_whole_between
  have sc := sc_whole_between
  let N : List Str := n_whole_between
  refine D.cal hm (fnv_def D sc (fun vs H Q E h => ?_) fun A outer s H vs Q E hr h => ?_)
  · obtain ⟨v, lo, hi, rfl, _⟩ := h
    rfl
  · obtain ⟨v, lo, hi, rfl, hv, q⟩ := h
    refine ⟨_, (pss_one (ps_ret (pe_and (pe_vn c_whole hr (by decide) rfl (pa_cons (pv 0) pa_nil)) (pe_one (pe_chain op_le op_le (pv 1) (pv 0) (pv 2)))))), ?_⟩
    refine ⟨v, rfl, v, rfl, hv, _, rfl, ?_⟩
    match v, q with
    | .int i, q =>
      refine iteT ⟨_, rfl, _, rfl, lo, i, rfl, rfl, _, rfl, ?_⟩
      have q : Q (.bl (decide (lo ≤ i) && decide (i ≤ hi))) H := q
      cases e : decide (lo ≤ i) with
      | true =>
        rw [e] at q
        exact iteT ⟨_, rfl, i, hi, rfl, rfl, q⟩
      | false =>
        rw [e] at q
        exact iteF q
    | .non, q => exact iteF q
    | .bl _, q => exact iteF q
    | .str _, q => exact iteF q
    | .ref _, q => exact iteF q
    | .byt _, q => exact iteF q
    | .flt _, q => exact iteF q
    | .ty _, q => exact iteF q
/-- the length of a tuple within the bounds -/
def tupLen (H : Hp) (v : V) (lo hi : Int) : Bool := match v with
  | .ref a => match H a with
    | some (.frz _ (.tup xs)) => decide (lo ≤ (xs.length : Int)) && decide ((xs.length : Int) ≤ hi)
    | _ => false
  | _ => false
def spTB : Sp := fun vs H Q _ => ∃ v lo hi, vs = [v, .int lo, .int hi] ∧ Kn H v ∧ Q (.bl (tupLen H v lo hi)) H
theorem v_tuple_between (T : Txt K mg base TT CL) : CalV P w K mg base 1 "tuple_between" spTB := by
  obtain ⟨f, cd, D, hm⟩ := T.d_tuple_between
  have sc := sc_tuple_between
  let N : List Str := n_tuple_between
  refine D.cal hm (fnv_def D sc (fun vs H Q E h => ?_) fun A outer s H vs Q E hr h => ?_)
  · obtain ⟨v, lo, hi, rfl, _⟩ := h
    rfl
  · obtain ⟨v, lo, hi, rfl, hv, q⟩ := h
    refine ⟨_, (pss_one (ps_ret (pe_and (pe_callB call_isi (by rfl) T.n_isinstance (by decide +kernel) (pa_cons (pv 0) (pa_cons (pe_bltn (v := .ty "tuple") (by rfl) T.n_tuple (by decide +kernel) rfl) pa_nil))) (pe_one (pe_chain op_le op_le (pv 1) (pe_callB call_len_seq (by rfl) T.n_len PySem.boot_len (pa_cons (pv 0) pa_nil)) (pv 2)))))), ?_⟩
    obtain ⟨t, ty, _, _, h3⟩ := hv.ty (K := K)
    refine ⟨v, rfl, v, .ty "tuple", _, _, _, rfl, .ty "tuple", ty, kit_ty h3, _, rfl, ?_⟩
    match v, hv, q with
    | .ref a, ⟨xs, ⟨o, e, d⟩⟩, q =>
      have q : Q (.bl (match H a with
        | some (.frz _ (.tup xs)) => decide (lo ≤ (xs.length : Int)) && decide ((xs.length : Int) ≤ hi)
        | _ => false)) H := q
      rw [e] at q
      have q : Q (.bl (decide (lo ≤ (xs.length : Int)) && decide ((xs.length : Int) ≤ hi))) H := q
      refine iteT ⟨_, rfl, .ref a, rfl, a, xs, rfl, .inr (.inl (.inr ⟨o, e⟩)), lo, _, rfl, rfl, _, rfl, ?_⟩
      cases e : decide (lo ≤ (xs.length : Int)) with
      | true =>
        rw [e] at q
        exact iteT ⟨_, rfl, _, hi, rfl, rfl, q⟩
      | false =>
        rw [e] at q
        exact iteF q
    | .non, _, q => exact iteF q
    | .bl _, _, q => exact iteF q
    | .str _, _, q => exact iteF q
    | .int _, _, q => exact iteF q
/-- the error of the class at C with the what v is raised -/
def Raised (H : Hp) (C : Addr) (v : V) (E : XK) : Prop := ∀ d H2, H d = none → H2 d = some (.xd [(("what" : Str), v)]) → (∀ c u, H c = some u → H2 c = some u) → E (.ref C) (some d) H2
def spCheckMany (c : Cl) : Sp := fun vs H Q E => ∃ v, vs = [v] ∧ Kn H v ∧ (inR v 1 12 = true → Q .non H) ∧ (inR v 1 12 = false → Raised H c.BadMany v E)
theorem v_check_many (T : Txt K mg base TT CL) (c_whole_between : CalV P w K mg base 2 "whole_between" spWB) : CalV P w K mg base 3 "check_many" (spCheckMany CL) := by
  obtain ⟨f, cd, D, hm⟩ := T.d_check_many
  have sc := sc_check_many
  let N : List Str := n_check_many
  obtain ⟨fdI, FI, bI⟩ := T.i_fun
  have GI := ok_init (P := P) (w := w) (mg := mg) (base := base) FI
  refine D.cal hm (fnv_def D sc (fun vs H Q E h => ?_) fun A outer s H vs Q E hr h => ?_)
  · obtain ⟨v, rfl, _⟩ := h
    rfl
  · obtain ⟨v, rfl, hv, q1, q2⟩ := h
    refine ⟨_, (pss_one (ps_if (pt_not (pt_val (pe_vn c_whole_between hr (by decide) rfl (pa_cons (pv 0) (pa_cons pe_int (pa_cons (pe_glob (v := .int 12) rfl T.g_MOST_STATES.choose_spec ⟨_, rfl⟩) pa_nil)))))) (pss_one (ps_raise rfl (takes_of (E := E) rfl rfl rfl rfl) (pmk_err T.e_BadMany T.i_ty GI bI (hr.r.mono (by decide)) rfl (pa_cons (pv 0) pa_nil)))) pss_nil)), ?_⟩
    refine ⟨v, rfl, v, 1, 12, rfl, hv, _, rfl, ?_⟩
    cases e : inR v 1 12 with
    | true => exact iteF (q1 e)
    | false => exact iteT ⟨v, rfl, err_inner T.e_BadMany (q2 e)⟩
def spCheckState (c : Cl) : Sp := fun vs H Q E => ∃ n v, vs = [.int n, v] ∧ Kn H v ∧ (inR v 0 (n - 1) = true → Q .non H) ∧ (inR v 0 (n - 1) = false → Raised H c.BadState v E)
theorem v_check_state (T : Txt K mg base TT CL) (c_whole_between : CalV P w K mg base 2 "whole_between" spWB) : CalV P w K mg base 3 "check_state" (spCheckState CL) := by
  obtain ⟨f, cd, D, hm⟩ := T.d_check_state
  have sc := sc_check_state
  let N : List Str := n_check_state
  obtain ⟨fdI, FI, bI⟩ := T.i_fun
  have GI := ok_init (P := P) (w := w) (mg := mg) (base := base) FI
  refine D.cal hm (fnv_def D sc (fun vs H Q E h => ?_) fun A outer s H vs Q E hr h => ?_)
  · obtain ⟨n, v, rfl, _⟩ := h
    rfl
  · obtain ⟨n, v, rfl, hv, q1, q2⟩ := h
    refine ⟨_, (pss_one (ps_if (pt_not (pt_val (pe_vn c_whole_between hr (by decide) rfl (pa_cons (pv 1) (pa_cons pe_int (pa_cons (pe_op op_sub (pv 0) pe_int) pa_nil)))))) (pss_one (ps_raise rfl (takes_of (E := E) rfl rfl rfl rfl) (pmk_err T.e_BadState T.i_ty GI bI (hr.r.mono (by decide)) rfl (pa_cons (pv 1) pa_nil)))) pss_nil)), ?_⟩
    refine ⟨v, rfl, .int n, rfl, n, 1, rfl, rfl, v, 0, n - 1, rfl, hv, _, rfl, ?_⟩
    cases e : inR v 0 (n - 1) with
    | true => exact iteF (q1 e)
    | false => exact iteT ⟨v, rfl, err_inner T.e_BadState (q2 e)⟩
end
end Ed

set_option Elab.async false
set_option linter.all false
set_option maxRecDepth 100000
set_option maxHeartbeats 4000000
namespace Ed
open PySem PySem.Spec PyProof.Rows L2
theorem take_snoc {α : Type} {l : List α} {i : Nat} {x : α} (h : l[i]? = some x) : l.take (i + 1) = l.take i ++ [x] := by
  rw [List.take_add_one, h]
  rfl
/-! ### entries of a row -/
/-- neither a state below n nor a gap -/
def badE (n : Int) : PyData → Bool
  | .none => false
  | .int i => decide (i < 0) || decide (n ≤ i)
  | _ => true
def firstBad (n : Int) : List PyData → Option Nat
  | [] => none
  | d :: ds => if badE n d then some 0 else (firstBad n ds).map (· + 1)
theorem firstBad_app {n : Int} {d : PyData} : ∀ {ds : List PyData}, firstBad n ds = none → firstBad n (ds ++ [d]) = if badE n d then some ds.length else none
  | [], _ => by
    show (if badE n d then some 0 else Option.map (· + 1) none) = _
    cases badE n d <;> rfl
  | e :: ds, h => by
    have h' : (if badE n e then some 0 else (firstBad n ds).map (· + 1)) = none := h
    show (if badE n e then some 0 else (firstBad n (ds ++ [d])).map (· + 1)) = _
    cases q : badE n e with
    | true =>
      rw [q] at h'
      cases h'
    | false =>
      rw [q] at h'
      have h2 : firstBad n ds = none := by
        cases z : firstBad n ds with
        | none => rfl
        | some k =>
          rw [z] at h'
          cases h'
      rw [firstBad_app h2]
      cases badE n d <;> rfl
theorem firstBad_more {n : Int} {es : List PyData} {k : Nat} : ∀ {ds : List PyData}, firstBad n ds = some k → firstBad n (ds ++ es) = some k
  | [], h => by cases h
  | e :: ds, h => by
    have h' : (if badE n e then some 0 else (firstBad n ds).map (· + 1)) = some k := h
    show (if badE n e then some 0 else (firstBad n (ds ++ es)).map (· + 1)) = some k
    cases q : badE n e with
    | true =>
      rw [q] at h'
      exact h'
    | false =>
      rw [q] at h'
      cases z : firstBad n ds with
      | none =>
        rw [z] at h'
        cases h'
      | some j =>
        rw [z] at h'
        rw [firstBad_more z]
        exact h'
def wrongEntry (n : Int) (ds : List PyData) : Int := match firstBad n ds with
  | some k => (k : Int)
  | none => n
section
variable {P : Program} {w : World} {K : PySem.W.Frag} {mg : Str → Option Value} {base : Heap} {TT : List (Addr × Str)} {CL : Cl}
def spWE (TT : List (Addr × Str)) : Sp := fun vs H Q _ => ∃ r n ds, vs = [r, .int n] ∧ Td H r (.tuple ds) ∧ ∀ H', Ex TT [] H H' → Q (.int (wrongEntry n ds)) H'
theorem v_wrong_entry (T : Txt K mg base TT CL) : CalV P w K mg base 1 "wrong_entry" (spWE TT) := by
  obtain ⟨f, cd, D, hm⟩ := T.d_wrong_entry
  have sc := sc_wrong_entry
  let N : List Str := n_wrong_entry
  refine D.cal hm (fnv_def D sc (fun vs H Q E h => ?_) fun A outer s H vs Q E hr h => ?_)
  · obtain ⟨r, n, ds, rfl, _⟩ := h
    rfl
  · obtain ⟨r, n, ds, rfl, hd, q⟩ := h
    refine ⟨_, (pss_cons (ps_for (passes_of rfl) rfl (pi_enumT (by rfl) T.n_enumerate (pa_cons (pv 0) pa_nil)) (pg_tup rfl (pgs_cons (pg_name (i := 2) sc.nd rfl (by first | exact Or.inl rfl | exact Or.inr rfl)) (pgs_cons (pg_name (i := 3) sc.nd rfl (by first | exact Or.inl rfl | exact Or.inr rfl)) pgs_nil))) (pss_one (ps_if (pt_cmpR op_notN (pv 3) pe_non (nomark _)) (pss_one (ps_if (PW.pt (pw_or (pt_not (pt_val (pe_callB call_isi (by rfl) T.n_isinstance (by decide +kernel) (pa_cons (pv 3) (pa_cons (pe_bltn (v := .ty "int") (by rfl) T.n_int (by decide +kernel) rfl) pa_nil))))) (pw_or (pt_cmpR op_isFl (pv 3) pe_bl (nomark _)) (pw_or (pt_cmpR op_isFl (pv 3) pe_bl (nomark _)) (pw_or (pt_cmpR op_lt (pv 3) pe_int (nomark _)) (pw_or1 (pt_cmpR op_ge (pv 3) (pv 1) (nomark _)))))))) (pss_one (ps_ret (pv 2))) pss_nil)) pss_nil)))
      (pss_one (ps_ret (pv 1)))), ?_⟩
    obtain ⟨a, xs, rfl, ha, hall⟩ := hd.tuple_inv
    have hlen := hall.len
    refine ⟨.ref a, rfl, a, xs, rfl, ha.sq, for_enumT (K := K) (a := a) (xs := xs) (fun i σ H' => ∃ v2 v3, σ = [some (.ref a), some (.int n), v2, v3] ∧ Ex TT [] H H' ∧ firstBad n (ds.take i) = none) ⟨none, none, rfl, Ex.refl H, rfl⟩ ?_ ?_ ?_⟩
    · rintro i σ H' _ ⟨_, _, _, e, _⟩
      exact (e.tups _ _ ha).sq
    · rintro i x σ H' p hx ⟨v2, v3, rfl, e, hb⟩ hp
      obtain ⟨d, hdi, hdx⟩ := hall.get hx
      have e2 : Ex TT [] H (upd H' p (.tup [.int (i : Nat), x])) := e.new hp
      have hb2 := firstBad_app (d := d) hb
      rw [← take_snoc hdi] at hb2
      have li : (ds.take i).length = i := by
        rw [List.length_take]
        have := (List.getElem?_eq_some_iff.mp hdi).1
        omega
      rw [li] at hb2
      have good : badE n d = false → ∃ v2' v3', [some (V.ref a), some (V.int n), some (V.int (i : Nat)), some x] = [some (V.ref a), some (V.int n), v2', v3'] ∧ Ex TT [] H (upd H' p (.tup [.int (i : Nat), x])) ∧ firstBad n (ds.take (i + 1)) = none := fun z => by
        rw [z] at hb2
        exact ⟨_, _, rfl, e2, hb2⟩
      have bad : badE n d = true → Q (.int (i : Nat)) (upd H' p (.tup [.int (i : Nat), x])) := fun z => by
        rw [z] at hb2
        have z2 : firstBad n ds = some i := by
          rw [← List.take_append_drop (i + 1) ds]
          exact firstBad_more hb2
        have := q _ e2
        unfold wrongEntry at this
        rw [z2] at this
        exact this
      have kx : Kn (upd H' p (.tup [.int (i : Nat), x])) x := (hdx.mono (e2.tups)).kn
      obtain ⟨t, ty, h1, _, _⟩ := kx.ty (K := K)
      refine ⟨p, [.int (i : Nat), x], rfl, .inl (.inl upd_same), rfl, .int (i : Nat), [x], rfl, x, [], rfl, rfl, ?_⟩
      refine ⟨x, rfl, rfl, _, rfl, ?_⟩
      have isi : ∀ (k : Bool) (R : Bool → Prop), (isInt x || isBl x) = k → R k → R (isInt x || isBl x) := fun k R e r => e ▸ r
      match x, d, hdx, ty, h1, good, bad with
      | .non, _, .non, ty, h1, good, bad => exact iteF (good rfl)
      | .bl b, _, .bl _, ty, h1, good, bad =>
        refine iteT ⟨_, rfl, _, .ty "int", _, _, _, rfl, .ty "int", ty, kit_ty h1, _, rfl, iteF ⟨_, rfl, rfl, true, rfl, _, rfl, ?_⟩⟩
        cases b with
        | true => exact iteT (iteT ⟨_, rfl, bad rfl⟩)
        | false => exact iteF ⟨_, rfl, rfl, false, rfl, _, rfl, iteT (iteT ⟨_, rfl, bad rfl⟩)⟩
      | .str z, _, .str _, ty, h1, good, bad => exact iteT ⟨_, rfl, _, .ty "int", _, _, _, rfl, .ty "int", ty, kit_ty h1, _, rfl, iteT (iteT ⟨_, rfl, bad rfl⟩)⟩
      | .ref b, _, .tup _ _, ty, h1, good, bad => exact iteT ⟨_, rfl, _, .ty "int", _, _, _, rfl, .ty "int", ty, kit_ty h1, _, rfl, iteT (iteT ⟨_, rfl, bad rfl⟩)⟩
      | .int j, _, .int _, ty, h1, good, bad =>
        refine iteT ⟨_, rfl, _, .ty "int", _, _, _, rfl, .ty "int", ty, kit_ty h1, _, rfl, iteF ⟨_, rfl, rfl, true, rfl, _, rfl, iteF ⟨_, rfl, rfl, false, rfl, _, rfl, iteF ⟨_, rfl, j, 0, rfl, rfl, _, rfl, ?_⟩⟩⟩⟩
        have eb : badE n (.int j) = (decide (j < 0) || decide (n ≤ j)) := rfl
        cases c1 : decide (j < 0) with
        | true =>
          rw [c1] at eb
          exact iteT (iteT ⟨_, rfl, bad eb⟩)
        | false =>
          refine iteF ⟨_, rfl, _, rfl, j, n, rfl, rfl, _, rfl, ?_⟩
          rw [c1] at eb
          cases c2 : decide (n ≤ j) with
          | true =>
            rw [c2] at eb
            exact iteT ⟨_, rfl, bad eb⟩
          | false =>
            rw [c2] at eb
            exact iteF (good eb)
    · rintro σ H' ⟨v2, v3, rfl, e, hb⟩
      rw [hlen, List.take_length] at hb
      have := q _ e
      unfold wrongEntry at this
      rw [hb] at this
      exact ⟨_, rfl, this⟩
end
end Ed

set_option Elab.async false
set_option linter.all false
set_option maxRecDepth 100000
set_option maxHeartbeats 4000000
namespace Ed
open PySem PySem.Spec PyProof.Rows L2
/-! ### shapes of data -/
def lenB (lo hi : Int) : PyData → Bool
  | .tuple ds => decide (lo ≤ (ds.length : Int)) && decide ((ds.length : Int) ≤ hi)
  | _ => false
theorem Td.lenB {H : Hp} {v : V} {d : PyData} {lo hi : Int} (h : Td H v d) : tupLen H v lo hi = lenB lo hi d := by
  cases h with
  | non => rfl
  | bl b => rfl
  | int i => rfl
  | str x => rfl
  | tup e q =>
    obtain ⟨o, e, _⟩ := e
    show (match H _ with | some (.frz _ (.tup xs)) => _ | _ => false) = _
    rw [e]
    show (decide (lo ≤ _) && decide (_ ≤ hi)) = (decide (lo ≤ _) && decide (_ ≤ hi))
    rw [q.len]
def sideOk (n : Int) (d : PyData) : Bool := Ed.lenB n n d
def baseOk (n : Int) (d : PyData) : Bool := Ed.lenB n n d && (match d with
  | .tuple as => as.all (sideOk n)
  | _ => false)
def shapedD (d : PyData) : Bool := Ed.lenB 1 12 d && (match d with
  | .tuple os => os.all (baseOk os.length)
  | _ => false)
/-- the first place that a look at rows tells, from side a on, from base o on -/
def scanIn (f : List PyData → Option Nat) (o : Nat) : List PyData → Nat → Option PyData
  | [], _ => none
  | .tuple bs :: r, a => match f bs with
    | some b => some (.tuple [.int o, .int a, .int b])
    | none => scanIn f o r (a + 1)
  | _ :: r, a => scanIn f o r (a + 1)
def scanOver (f : List PyData → Option Nat) : List PyData → Nat → Option PyData
  | [], _ => none
  | .tuple as :: r, o => match scanIn f o as 0 with
    | some d => some d
    | none => scanOver f r (o + 1)
  | _ :: r, o => scanOver f r (o + 1)
/-- what BadTable tells, None of a table -/
def wrongD (d : PyData) : PyData := if shapedD d then (match d with
  | .tuple os => (scanOver (firstBad os.length) os 0).getD .none
  | _ => .none) else .int (-1)
section
variable {P : Program} {w : World} {K : PySem.W.Frag} {mg : Str → Option Value} {base : Heap} {TT : List (Addr × Str)} {CL : Cl}
def spShape : Sp := fun vs H Q _ => ∃ v d, vs = [v] ∧ Td H v d ∧ Q (.bl (shapedD d)) H
theorem v_cube_shaped (T : Txt K mg base TT CL) (c_tuple_between : CalV P w K mg base 1 "tuple_between" spTB) : CalV P w K mg base 2 "cube_shaped" spShape := by
  obtain ⟨f, cd, D, hm⟩ := T.d_cube_shaped
  have sc := sc_cube_shaped
  let N : List Str := n_cube_shaped
  refine D.cal hm (fnv_def D sc (fun vs H Q E h => ?_) fun A outer s H vs Q E hr h => ?_)
  · obtain ⟨v, d, rfl, _⟩ := h
    rfl
  · obtain ⟨v, d, rfl, hd, q⟩ := h
    refine ⟨_, (pss_cons (ps_if (pt_not (pt_val (pe_vn c_tuple_between hr (by decide) rfl (pa_cons (pv 0) (pa_cons pe_int (pa_cons (pe_glob (v := .int 12) rfl T.g_MOST_STATES.choose_spec ⟨_, rfl⟩) pa_nil)))))) (pss_one (ps_ret pe_bl)) pss_nil)
      (pss_cons (ps_asg (pe_callB call_len_seq (by rfl) T.n_len PySem.boot_len (pa_cons (pv 0) pa_nil)) (pg_name (i := 1) sc.nd rfl (by first | exact Or.inl rfl | exact Or.inr rfl)))
      (pss_cons (ps_for (passes_of rfl) rfl (pi_tup (pv 0)) (pg_name (i := 2) sc.nd rfl (by first | exact Or.inl rfl | exact Or.inr rfl)) (pss_cons (ps_if (pt_not (pt_val (pe_vn c_tuple_between hr (by decide) rfl (pa_cons (pv 2) (pa_cons (pv 1) (pa_cons (pv 1) pa_nil)))))) (pss_one (ps_ret pe_bl)) pss_nil)
      (pss_one (ps_for (passes_of rfl) rfl (pi_tup (pv 2)) (pg_name (i := 3) sc.nd rfl (by first | exact Or.inl rfl | exact Or.inr rfl)) (pss_one (ps_if (pt_not (pt_val (pe_vn c_tuple_between hr (by decide) rfl (pa_cons (pv 3) (pa_cons (pv 1) (pa_cons (pv 1) pa_nil)))))) (pss_one (ps_ret pe_bl)) pss_nil))))))
      (pss_one (ps_ret pe_bl))))), ?_⟩
    refine ⟨v, rfl, v, 1, 12, rfl, hd.kn, _, rfl, ?_⟩
    rw [hd.lenB]
    unfold shapedD at q
    cases e1 : Ed.lenB 1 12 d with
    | false =>
      rw [e1] at q
      exact iteT q
    | true =>
      rw [e1] at q
      refine iteF ?_
      cases hd with
      | non => cases e1
      | bl b => cases e1
      | int i => cases e1
      | str x => cases e1
      | @tup a xs ds ha hall =>
        have hlen := hall.len
        have q : Q (.bl (ds.all (baseOk ds.length))) H := q
        refine ⟨.ref a, rfl, a, xs, rfl, .inr ha.sq, ?_⟩
        rw [hlen]
        refine ⟨.ref a, rfl, a, rfl, ⟨xs, ha.sq⟩, for_tup (K := K) (a := a) (xs := xs) (fun i σ H' => ∃ v2 v3, σ = [some (.ref a), some (.int (ds.length : Int)), v2, v3] ∧ H' = H ∧ (ds.take i).all (baseOk ds.length) = true) ⟨none, none, rfl, rfl, rfl⟩ ?_ ?_ ?_⟩
        · rintro i σ H' _ ⟨_, _, _, rfl, _⟩
          exact ha.sq
        · rintro i y σ H' hy ⟨v2, v3, rfl, rfl, hb⟩
          obtain ⟨e, he, hey⟩ := hall.get hy
          have split : ds.all (baseOk ds.length) = true → baseOk ds.length e = true := fun z => List.all_eq_true.mp z e (List.mem_of_getElem? he)
          have all1 : baseOk ds.length e = true → (ds.take (i + 1)).all (baseOk ds.length) = true := fun z => by
            rw [take_snoc he, List.all_append, hb]
            show (true && (baseOk ds.length e && true)) = true
            rw [z]
            rfl
          have no : baseOk ds.length e = false → Q (.bl false) H' := fun z => by
            cases w : ds.all (baseOk ds.length) with
            | true =>
              rw [split w] at z
              cases z
            | false =>
              rw [w] at q
              exact q
          refine ⟨_, rfl, _, rfl, _, rfl, y, ds.length, ds.length, rfl, hey.kn, _, rfl, ?_⟩
          rw [hey.lenB]
          cases e2 : Ed.lenB ds.length ds.length e with
          | false =>
            refine iteT (no ?_)
            unfold baseOk
            rw [e2]
            rfl
          | true =>
            refine iteF ?_
            cases hey with
            | non => cases e2
            | bl b => cases e2
            | int i => cases e2
            | str x => cases e2
            | @tup a2 ys es ha2 hall2 =>
              have eb : baseOk ds.length (.tuple es) = es.all (sideOk ds.length) := by
                unfold baseOk
                rw [e2]
                rfl
              rw [eb] at no all1
              refine ⟨_, rfl, a2, rfl, ⟨ys, ha2.sq⟩, for_tup (K := K) (a := a2) (xs := ys) (fun j σ H'' => ∃ v3, σ = [some (.ref a), some (.int (ds.length : Int)), some (.ref a2), v3] ∧ H'' = H' ∧ (es.take j).all (sideOk ds.length) = true) ⟨_, rfl, rfl, rfl⟩ ?_ ?_ ?_⟩
              · rintro j σ H'' _ ⟨_, _, rfl, _⟩
                exact ha2.sq
              · rintro j z σ H'' hz ⟨v3, rfl, rfl, hb2⟩
                obtain ⟨f, hf, hfz⟩ := hall2.get hz
                refine ⟨_, rfl, _, rfl, _, rfl, z, ds.length, ds.length, rfl, hfz.kn, _, rfl, ?_⟩
                rw [hfz.lenB]
                cases e3 : Ed.lenB ds.length ds.length f with
                | false =>
                  refine iteT (no ?_)
                  cases w : es.all (sideOk ds.length) with
                  | false => rfl
                  | true =>
                    have := List.all_eq_true.mp w f (List.mem_of_getElem? hf)
                    unfold sideOk at this
                    rw [e3] at this
                    cases this
                | true =>
                  refine iteF ⟨_, rfl, rfl, ?_⟩
                  rw [take_snoc hf, List.all_append, hb2]
                  show (true && (sideOk ds.length f && true)) = true
                  unfold sideOk
                  rw [e3]
                  rfl
              · rintro σ H'' ⟨v3, rfl, rfl, hb2⟩
                rw [hall2.len, List.take_length] at hb2
                exact ⟨_, _, rfl, rfl, all1 hb2⟩
        · rintro σ H' ⟨v2, v3, rfl, rfl, hb⟩
          rw [hlen, List.take_length] at hb
          rw [hb] at q
          exact q
end
end Ed

set_option Elab.async false
set_option linter.all false
set_option maxRecDepth 100000
set_option maxHeartbeats 4000000
namespace Ed
open PySem PySem.Spec PyProof.Rows L2
theorem lenB_inv {lo hi : Int} {d : PyData} (h : Ed.lenB lo hi d = true) : ∃ ds, d = .tuple ds ∧ lo ≤ (ds.length : Int) ∧ (ds.length : Int) ≤ hi := by
  cases d with
  | tuple ds =>
    have h' : (decide (lo ≤ (ds.length : Int)) && decide ((ds.length : Int) ≤ hi)) = true := h
    rw [Bool.and_eq_true] at h'
    exact ⟨ds, rfl, of_decide_eq_true h'.1, of_decide_eq_true h'.2⟩
  | _ => cases h
theorem shaped_inv {d : PyData} (h : shapedD d = true) : ∃ os, d = .tuple os ∧ 1 ≤ os.length ∧ os.length ≤ 12 ∧ ∀ e ∈ os, ∃ as, e = .tuple as ∧ as.length = os.length ∧ ∀ g ∈ as, ∃ bs, g = .tuple bs ∧ bs.length = os.length := by
  unfold shapedD at h
  rw [Bool.and_eq_true] at h
  obtain ⟨os, rfl, h1, h2⟩ := lenB_inv h.1
  have h3 : os.all (baseOk os.length) = true := h.2
  refine ⟨os, rfl, by omega, by omega, fun e he => ?_⟩
  have q := List.all_eq_true.mp h3 e he
  unfold baseOk at q
  rw [Bool.and_eq_true] at q
  obtain ⟨as, rfl, a1, a2⟩ := lenB_inv q.1
  have q2 : as.all (sideOk os.length) = true := q.2
  refine ⟨as, rfl, by omega, fun g hg => ?_⟩
  obtain ⟨bs, rfl, b1, b2⟩ := lenB_inv (List.all_eq_true.mp q2 g hg)
  exact ⟨bs, rfl, by omega⟩
theorem scanIn_app {f : List PyData → Option Nat} {o : Nat} {ys : List PyData} : ∀ {xs : List PyData} {a : Nat}, scanIn f o (xs ++ ys) a = match scanIn f o xs a with
    | some d => some d
    | none => scanIn f o ys (a + xs.length)
  | [], a => rfl
  | x :: xs, a => by
    have ih := scanIn_app (f := f) (o := o) (ys := ys) (xs := xs) (a := a + 1)
    have e : a + (x :: xs).length = a + 1 + xs.length := by
      rw [List.length_cons]
      omega
    rw [e]
    cases x with
    | tuple bs =>
      show (match f bs with | some b => _ | none => scanIn f o (xs ++ ys) (a + 1)) = match (match f bs with | some b => _ | none => scanIn f o xs (a + 1)) with | some d => some d | none => _
      cases f bs with
      | some b => rfl
      | none => exact ih
    | _ => exact ih
theorem scanOver_app {f : List PyData → Option Nat} {ys : List PyData} : ∀ {xs : List PyData} {o : Nat}, scanOver f (xs ++ ys) o = match scanOver f xs o with
    | some d => some d
    | none => scanOver f ys (o + xs.length)
  | [], o => rfl
  | x :: xs, o => by
    have ih := scanOver_app (f := f) (ys := ys) (xs := xs) (o := o + 1)
    have e : o + (x :: xs).length = o + 1 + xs.length := by
      rw [List.length_cons]
      omega
    rw [e]
    cases x with
    | tuple as =>
      show (match scanIn f o as 0 with | some b => some b | none => scanOver f (xs ++ ys) (o + 1)) = match (match scanIn f o as 0 with | some b => some b | none => scanOver f xs (o + 1)) with | some d => some d | none => _
      cases scanIn f o as 0 with
      | some b => rfl
      | none => exact ih
    | _ => exact ih
section
variable {P : Program} {w : World} {K : PySem.W.Frag} {mg : Str → Option Value} {base : Heap} {TT : List (Addr × Str)} {CL : Cl}
/-- what is told of one piece of data is told as data: nothing else changes -/
def spData1 (TT : List (Addr × Str)) (F : PyData → PyData) : Sp := fun vs H Q _ => ∃ v d, vs = [v] ∧ Td H v d ∧ ∀ v' H', Ex TT [] H H' → Td H' v' (F d) → Q v' H'
theorem v_wrong_place (T : Txt K mg base TT CL) (c_cube_shaped : CalV P w K mg base 2 "cube_shaped" spShape) (c_wrong_entry : CalV P w K mg base 1 "wrong_entry" (spWE TT)) : CalV P w K mg base 3 "wrong_place" (spData1 TT wrongD) := by
  obtain ⟨f, cd, D, hm⟩ := T.d_wrong_place
  have sc := sc_wrong_place
  let N : List Str := n_wrong_place
  refine D.cal hm (fnv_def D sc (fun vs H Q E h => ?_) fun A outer s H vs Q E hr h => ?_)
  · obtain ⟨v, d, rfl, _⟩ := h
    rfl
  · obtain ⟨v, d, rfl, hd, q⟩ := h
    refine ⟨_, (pss_cons (ps_if (pt_not (pt_val (pe_vn c_cube_shaped hr (by decide) rfl (pa_cons (pv 0) pa_nil)))) (pss_one (ps_ret (pe_un un_neg pe_int))) pss_nil)
      (pss_cons (ps_asg (pe_callB call_len_seq (by rfl) T.n_len PySem.boot_len (pa_cons (pv 0) pa_nil)) (pg_name (i := 1) sc.nd rfl (by first | exact Or.inl rfl | exact Or.inr rfl)))
      (pss_cons (ps_for (passes_of rfl) rfl (pi_range1 (by rfl) T.n_range (pa_cons (pv 1) pa_nil)) (pg_name (i := 2) sc.nd rfl (by first | exact Or.inl rfl | exact Or.inr rfl)) (pss_one (ps_for (passes_of rfl) rfl (pi_range1 (by rfl) T.n_range (pa_cons (pv 1) pa_nil)) (pg_name (i := 3) sc.nd rfl (by first | exact Or.inl rfl | exact Or.inr rfl)) (pss_cons (ps_asg (pe_vn c_wrong_entry hr (by decide) rfl (pa_cons (pe_ix (ix_seqK (K := K) rfl) (pe_ix (ix_seqK (K := K) rfl) (pv 0) (pv 2) (fun _ _ => rfl)) (pv 3) (fun _ _ => rfl)) (pa_cons (pv 1) pa_nil))) (pg_name (i := 4) sc.nd rfl (by first | exact Or.inl rfl | exact Or.inr rfl)))
      (pss_one (ps_if (pt_cmpR op_lt (pv 4) (pv 1) (nomark _)) (pss_one (ps_ret (pe_tupF (pa_cons (pv 2) (pa_cons (pv 3) (pa_cons (pv 4) pa_nil)))))) pss_nil))))))
      (pss_one (ps_ret pe_non))))), ?_⟩
    refine ⟨v, rfl, v, d, rfl, hd, _, rfl, ?_⟩
    cases e1 : shapedD d with
    | false =>
      refine iteT ⟨1, rfl, q _ _ (Ex.refl H) ?_⟩
      unfold wrongD
      rw [e1]
      exact .int _
    | true =>
      obtain ⟨os, rfl, n1, n2, hos⟩ := shaped_inv e1
      obtain ⟨a, xs, rfl, ha, hall⟩ := hd.tuple_inv
      have hlen := hall.len
      have fin : ∀ v' H' e, Ex TT [] H H' → scanOver (firstBad os.length) os 0 = some e → Td H' v' e → Q v' H' := fun v' H' e ex z t => q v' H' ex (by
        unfold wrongD
        rw [e1]
        show Td H' v' ((scanOver (firstBad os.length) os 0).getD .none)
        rw [z]
        exact t)
      refine iteF ⟨_, rfl, a, xs, rfl, .inr ha.sq, _, rfl, (xs.length : Int), rfl, by omega, by omega, ?_⟩
      rw [hlen]
      refine for_range (lo := 0) (n := _) (fun i σ H' => ∃ v2 v3 v4, σ = [some (.ref a), some (.int (os.length : Int)), v2, v3, v4] ∧ Ex TT [] H H' ∧ scanOver (firstBad os.length) (os.take i) 0 = none) ⟨none, none, none, rfl, Ex.refl H, rfl⟩ ?_ ?_
      · rintro i σ H' hi ⟨v2, v3, v4, rfl, ex, hw⟩
        have hi' : i < os.length := by
          simpa using hi
        obtain ⟨as, eas, las, has⟩ := hos os[i] (List.getElem_mem hi')
        have gi : os[i]? = some (.tuple as) := by
          rw [List.getElem?_eq_getElem hi', eas]
        obtain ⟨x, hx, hxd⟩ := hall.at_ gi
        have step : scanOver (firstBad os.length) (os.take (i + 1)) 0 = match scanIn (firstBad os.length) i as 0 with
            | some d => some d
            | none => none := by
          rw [take_snoc gi, scanOver_app, hw, List.length_take, Nat.min_eq_left (Nat.le_of_lt hi'), Nat.zero_add]
          rfl
        have stop : ∀ dd, scanIn (firstBad os.length) i as 0 = some dd → scanOver (firstBad os.length) os 0 = some dd := fun dd z => by
          rw [z] at step
          have big := scanOver_app (f := firstBad os.length) (xs := os.take (i + 1)) (ys := os.drop (i + 1)) (o := 0)
          rw [List.take_append_drop, step] at big
          exact big
        refine ⟨_, rfl, (os.length : Int), rfl, by omega, by omega, ?_⟩
        refine for_range (lo := 0) (n := _) (fun j σ H'' => ∃ v3 v4, σ = [some (.ref a), some (.int (os.length : Int)), some (.int (0 + (i : Int))), v3, v4] ∧ Ex TT [] H H'' ∧ scanIn (firstBad os.length) i (as.take j) 0 = none) ⟨_, _, rfl, ex, rfl⟩ ?_ ?_
        · rintro j σ H'' hj ⟨v3, v4, rfl, ex2, hw2⟩
          have hj' : j < os.length := by
            simpa using hj
          have hj2 : j < as.length := by omega
          obtain ⟨bs, ebs, lbs⟩ := has as[j] (List.getElem_mem hj2)
          have gj : as[j]? = some (.tuple bs) := by
            rw [List.getElem?_eq_getElem hj2, ebs]
          obtain ⟨a1, ys, rfl, ha1, hall1⟩ := (hxd.mono ex2.tups).tuple_inv
          obtain ⟨y, hy, hyd⟩ := hall1.at_ gj
          have ha2 := ex2.tups _ _ ha
          have step2 : scanIn (firstBad os.length) i (as.take (j + 1)) 0 = match firstBad os.length bs with
              | some b => some (.tuple [.int i, .int j, .int b])
              | none => none := by
            rw [take_snoc gj, scanIn_app, hw2, List.length_take, Nat.min_eq_left (Nat.le_of_lt hj2), Nat.zero_add]
            rfl
          refine ⟨_, rfl, _, rfl, .inr (.inl ⟨a, xs, _, _, rfl, rfl, ha2.sq, at_of (by omega) hx, ?_⟩)⟩
          refine ⟨_, rfl, .inr (.inl ⟨a1, ys, _, _, rfl, rfl, ha1.sq, at_of (by omega) hy, ?_⟩)⟩
          refine ⟨_, rfl, y, _, bs, rfl, hyd, fun H3 ex3 => ?_⟩
          have ex4 := ex2.trans ex3
          refine ⟨_, rfl, _, rfl, _, _, rfl, rfl, _, rfl, ?_⟩
          cases fb : firstBad os.length bs with
          | none =>
            rw [fb] at step2
            have e5 : wrongEntry (os.length : Int) bs = os.length := by
              unfold wrongEntry
              rw [fb]
            rw [e5, decide_eq_false (by omega)]
            exact iteF ⟨_, _, rfl, ex4, step2⟩
          | some b =>
            rw [fb] at step2
            have e5 : wrongEntry (os.length : Int) bs = b := by
              unfold wrongEntry
              rw [fb]
            have lb : b < bs.length := by
              have : ∀ {ds : List PyData} {b : Nat}, firstBad (os.length : Int) ds = some b → b < ds.length := by
                intro ds
                induction ds with
                | nil =>
                  intro b z
                  cases z
                | cons g r ih =>
                  intro b z
                  have z' : (if badE (os.length : Int) g then some 0 else (firstBad (os.length : Int) r).map (· + 1)) = some b := z
                  cases q : badE (os.length : Int) g with
                  | true =>
                    rw [q] at z'
                    cases z'
                    exact Nat.succ_pos _
                  | false =>
                    rw [q] at z'
                    cases y : firstBad (os.length : Int) r with
                    | none =>
                      rw [y] at z'
                      cases z'
                    | some k =>
                      rw [y] at z'
                      cases z'
                      have := ih y
                      rw [List.length_cons]
                      exact Nat.succ_lt_succ this
              exact this fb
            rw [e5, decide_eq_true (by omega)]
            refine iteT ⟨_, rfl, _, rfl, _, rfl, (by show 3 ≤ sizeLine; decide), fun p o hp hd0 => ?_⟩
            have inn : scanIn (firstBad os.length) i as 0 = some (.tuple [.int i, .int j, .int b]) := by
              rw [← List.take_append_drop (j + 1) as, scanIn_app, step2]
            refine fin _ _ _ (ex4.new hp) (stop _ inn) (.tup (Tp.made hd0) (.cons ?_ (.cons ?_ (.cons (.int _) .nil))))
            · simp only [Int.zero_add]
              exact .int _
            · simp only [Int.zero_add]
              exact .int _
        · rintro σ H'' ⟨v3, v4, rfl, ex2, hw2⟩
          have en : ((os.length : Int)).toNat = as.length := by omega
          rw [en, List.take_length] at hw2
          rw [hw2] at step
          exact ⟨_, _, _, rfl, ex2, step⟩
      · rintro σ H' ⟨v2, v3, v4, rfl, ex, hw⟩
        have en : ((os.length : Int)).toNat = os.length := by omega
        rw [en, List.take_length] at hw
        refine q _ _ ex ?_
        unfold wrongD
        rw [e1]
        show Td H' .non ((scanOver (firstBad os.length) os 0).getD .none)
        rw [hw]
        exact .non
end
end Ed

set_option Elab.async false
set_option linter.all false
set_option maxRecDepth 100000
set_option maxHeartbeats 4000000
namespace Ed
open PySem PySem.Spec PyProof.Rows L2
def isNon : PyData → Bool
  | .none => true
  | _ => false
theorem isNon_eq {d : PyData} (h : isNon d = true) : d = .none := by
  cases d with
  | none => rfl
  | _ => cases h
theorem isNon_ne {d : PyData} (h : isNon d = false) : d ≠ .none := fun e => by
  rw [e] at h
  cases h
theorem Td.non_iff {H : Hp} {v : V} {d : PyData} (h : Td H v d) : decide (v = .non) = isNon d := by
  cases h <;> simp [isNon]
/-! ### good tables -/
theorem firstBad_none {n : Int} : ∀ {ds : List PyData}, firstBad n ds = none → ∀ x ∈ ds, badE n x = false
  | [], _, x, hx => by cases hx
  | e :: ds, h, x, hx => by
    have h' : (if badE n e then some 0 else (firstBad n ds).map (· + 1)) = none := h
    cases q : badE n e with
    | true =>
      rw [q] at h'
      cases h'
    | false =>
      rw [q] at h'
      have h2 : firstBad n ds = none := by
        cases z : firstBad n ds with
        | none => rfl
        | some k =>
          rw [z] at h'
          cases h'
      rcases List.mem_cons.mp hx with rfl | hx
      · exact q
      · exact firstBad_none h2 x hx
theorem scanIn_none {f : List PyData → Option Nat} {o : Nat} : ∀ {as : List PyData} {a : Nat}, scanIn f o as a = none → ∀ bs, .tuple bs ∈ as → f bs = none
  | [], _, _, bs, hb => by cases hb
  | x :: r, a, h, bs, hb => by
    rcases List.mem_cons.mp hb with rfl | hb
    · have h' : (match f bs with | some b => some (PyData.tuple [.int o, .int a, .int b]) | none => scanIn f o r (a + 1)) = none := h
      cases q : f bs with
      | none => rfl
      | some b =>
        rw [q] at h'
        cases h'
    · have h2 : scanIn f o r (a + 1) = none := by
        cases x with
        | tuple cs =>
          have h' : (match f cs with | some b => some (PyData.tuple [.int o, .int a, .int b]) | none => scanIn f o r (a + 1)) = none := h
          cases q : f cs with
          | none =>
            rw [q] at h'
            exact h'
          | some b =>
            rw [q] at h'
            cases h'
        | _ => exact h
      exact scanIn_none h2 bs hb
theorem scanOver_none {f : List PyData → Option Nat} : ∀ {os : List PyData} {o : Nat}, scanOver f os o = none → ∀ as, .tuple as ∈ os → ∀ bs, .tuple bs ∈ as → f bs = none
  | [], _, _, as, hb => by cases hb
  | x :: r, o, h, as, hb => by
    have h2 : scanOver f r (o + 1) = none := by
      cases x with
      | tuple cs =>
        have h' : (match scanIn f o cs 0 with | some d => some d | none => scanOver f r (o + 1)) = none := h
        cases q : scanIn f o cs 0 with
        | none =>
          rw [q] at h'
          exact h'
        | some b =>
          rw [q] at h'
          cases h'
      | _ => exact h
    rcases List.mem_cons.mp hb with rfl | hb
    · have h' : (match scanIn f o as 0 with | some d => some d | none => scanOver f r (o + 1)) = none := h
      cases q : scanIn f o as 0 with
      | none => exact scanIn_none q
      | some b =>
        rw [q] at h'
        cases h'
    · exact scanOver_none h2 as hb
theorem badE_ok {n : Int} {x : PyData} (h : badE n x = false) : x = .none ∨ ∃ i, x = .int i ∧ 0 ≤ i ∧ i < n := by
  cases x with
  | none => exact .inl rfl
  | int i =>
    have h' : (decide (i < 0) || decide (n ≤ i)) = false := h
    rw [Bool.or_eq_false_iff] at h'
    have h1 := of_decide_eq_false h'.1
    have h2 := of_decide_eq_false h'.2
    exact .inr ⟨i, rfl, by omega, by omega⟩
  | _ => cases h
/-- a table: its bases, sides and entries -/
structure GoodT (d : PyData) (os : List PyData) : Prop where
  eq : d = .tuple os
  low : 1 ≤ os.length
  high : os.length ≤ 12
  base : ∀ e ∈ os, ∃ as, e = .tuple as ∧ as.length = os.length ∧ ∀ g ∈ as, ∃ bs, g = .tuple bs ∧ bs.length = os.length ∧ ∀ x ∈ bs, x = .none ∨ ∃ i, x = .int i ∧ 0 ≤ i ∧ i < (os.length : Int)
theorem goodT {d : PyData} (h : wrongD d = .none) : ∃ os, GoodT d os := by
  unfold wrongD at h
  cases e1 : shapedD d with
  | false =>
    rw [e1] at h
    cases h
  | true =>
    rw [e1] at h
    obtain ⟨os, rfl, n1, n2, hos⟩ := shaped_inv e1
    have h' : (scanOver (firstBad os.length) os 0).getD .none = .none := h
    have e2 : scanOver (firstBad os.length) os 0 = none := by
      cases q : scanOver (firstBad os.length) os 0 with
      | none => rfl
      | some d =>
        rw [q] at h'
        have : ∀ {os : List PyData} {n : Int} {o : Nat}, scanOver (firstBad n) os o ≠ some .none := by
          intro os n
          have hin : ∀ {as : List PyData} {o a : Nat}, scanIn (firstBad n) o as a ≠ some .none := by
            intro as
            induction as with
            | nil =>
              intro o a z
              cases z
            | cons x r ih =>
              intro o a z
              cases x with
              | tuple bs =>
                have z' : (match firstBad n bs with | some b => some (PyData.tuple [.int o, .int a, .int b]) | none => scanIn (firstBad n) o r (a + 1)) = some .none := z
                cases q : firstBad n bs with
                | some b =>
                  rw [q] at z'
                  cases z'
                | none =>
                  rw [q] at z'
                  exact ih z'
              | _ => exact ih z
          induction os with
          | nil =>
            intro o z
            cases z
          | cons x r ih =>
            intro o z
            cases x with
            | tuple as =>
              have z' : (match scanIn (firstBad n) o as 0 with | some d => some d | none => scanOver (firstBad n) r (o + 1)) = some .none := z
              cases q : scanIn (firstBad n) o as 0 with
              | some b =>
                rw [q] at z'
                cases z'
                exact hin q
              | none =>
                rw [q] at z'
                exact ih z'
            | _ => exact ih z
        have h3 : d = .none := h'
        rw [h3] at q
        exact (this q).elim
    refine ⟨os, rfl, n1, n2, fun e he => ?_⟩
    obtain ⟨as, rfl, las, has⟩ := hos e he
    refine ⟨as, rfl, las, fun g hg => ?_⟩
    obtain ⟨bs, rfl, lbs⟩ := has g hg
    exact ⟨bs, rfl, lbs, fun x hx => badE_ok (firstBad_none (scanOver_none e2 as he bs hg) x hx)⟩
theorem Kn.mono {H H' : Hp} {v : V} (k : Kn H v) (e : TX H H') : Kn H' v := by
  match v, k with
  | .non, _ => trivial
  | .bl _, _ => trivial
  | .int _, _ => trivial
  | .str _, _ => trivial
  | .ref a, ⟨xs, t⟩ => exact ⟨xs, e _ _ t⟩
/-- how many states -/
def lenD : PyData → Nat
  | .tuple ds => ds.length
  | _ => 0
def nthD : PyData → Nat → PyData
  | .tuple ds, i => ds.getD i .none
  | _, _ => .none
section
variable {P : Program} {w : World} {K : PySem.W.Frag} {mg : Str → Option Value} {base : Heap} {TT : List (Addr × Str)} {CL : Cl}
/-- what is wrong with the table is raised -/
def BadT (TT : List (Addr × Str)) (c : Cl) (H : Hp) (d : PyData) (E : XK) : Prop := wrongD d ≠ .none → ∀ v' H', Ex TT [] H H' → Td H' v' (wrongD d) → Raised H' c.BadTable v' E
def spMade (TT : List (Addr × Str)) (c : Cl) : Sp := fun vs H Q E => ∃ v d, vs = [v] ∧ Td H v d ∧ (wrongD d = .none → ∀ H', Ex TT [] H H' → Q v H') ∧ BadT TT c H d E
theorem v_made_table (T : Txt K mg base TT CL) (c_wrong_place : CalV P w K mg base 3 "wrong_place" (spData1 TT wrongD)) : CalV P w K mg base 4 "made_table" (spMade TT CL) := by
  obtain ⟨f, cd, D, hm⟩ := T.d_made_table
  have sc := sc_made_table
  let N : List Str := n_made_table
  obtain ⟨fdI, FI, bI⟩ := T.i_fun
  have GI := ok_init (P := P) (w := w) (mg := mg) (base := base) FI
  refine D.cal hm (fnv_def D sc (fun vs H Q E h => ?_) fun A outer s H vs Q E hr h => ?_)
  · obtain ⟨v, d, rfl, _⟩ := h
    rfl
  · obtain ⟨v, d, rfl, hd, q, qe⟩ := h
    refine ⟨_, (pss_cons (ps_asg (pe_vn c_wrong_place hr (by decide) rfl (pa_cons (pv 0) pa_nil)) (pg_name (i := 1) sc.nd rfl (by first | exact Or.inl rfl | exact Or.inr rfl)))
      (pss_cons (ps_if (pt_cmpR op_notN (pv 1) pe_non (nomark _)) (pss_one (ps_raise rfl (takes_of (E := E) rfl rfl rfl rfl) (pmk_err T.e_BadTable T.i_ty GI bI (hr.r.mono (by decide)) rfl (pa_cons (pv 1) pa_nil)))) pss_nil)
      (pss_one (ps_ret (pv 0))))), ?_⟩
    refine ⟨v, rfl, v, d, rfl, hd, fun v' H' ex hv' => ⟨v', rfl, rfl, _, rfl, ?_⟩⟩
    rw [hv'.non_iff]
    cases z : isNon (wrongD d) with
    | true => exact iteF ⟨_, rfl, q (isNon_eq z) _ ex⟩
    | false => exact iteT ⟨v', rfl, err_inner T.e_BadTable (qe (isNon_ne z) v' H' ex hv')⟩
def spIsTab (TT : List (Addr × Str)) : Sp := fun vs H Q _ => ∃ v d, vs = [v] ∧ Td H v d ∧ ∀ H', Ex TT [] H H' → Q (.bl (isNon (wrongD d))) H'
theorem v_is_table (T : Txt K mg base TT CL) (c_wrong_place : CalV P w K mg base 3 "wrong_place" (spData1 TT wrongD)) : CalV P w K mg base 4 "is_table" (spIsTab TT) := by
  obtain ⟨f, cd, D, hm⟩ := T.d_is_table
  have sc := sc_is_table
  let N : List Str := n_is_table
  refine D.cal hm (fnv_def D sc (fun vs H Q E h => ?_) fun A outer s H vs Q E hr h => ?_)
  · obtain ⟨v, d, rfl, _⟩ := h
    rfl
  · obtain ⟨v, d, rfl, hd, q⟩ := h
    refine ⟨_, (pss_one (ps_ret (pe_cmpR op_isN (pe_vn c_wrong_place hr (by decide) rfl (pa_cons (pv 0) pa_nil)) pe_non (nomark _)))), ?_⟩
    refine ⟨v, rfl, v, d, rfl, hd, fun v' H' ex hv' => ⟨rfl, ?_⟩⟩
    rw [hv'.non_iff]
    exact q _ ex
def spMany (TT : List (Addr × Str)) (c : Cl) : Sp := fun vs H Q E => ∃ v d, vs = [v] ∧ Td H v d ∧ (wrongD d = .none → ∀ H', Ex TT [] H H' → Q (.int (lenD d)) H') ∧ BadT TT c H d E
theorem v_many (T : Txt K mg base TT CL) (c_made_table : CalV P w K mg base 4 "made_table" (spMade TT CL)) : CalV P w K mg base 5 "many" (spMany TT CL) := by
  obtain ⟨f, cd, D, hm⟩ := T.d_many
  have sc := sc_many
  let N : List Str := n_many
  refine D.cal hm (fnv_def D sc (fun vs H Q E h => ?_) fun A outer s H vs Q E hr h => ?_)
  · obtain ⟨v, d, rfl, _⟩ := h
    rfl
  · obtain ⟨v, d, rfl, hd, q, qe⟩ := h
    refine ⟨_, (pss_cons (ps_expr (pe_v (E := fun _ => E) c_made_table hr (by decide) rfl (fun σ => passAt (takes_of (E := E) rfl rfl rfl rfl) σ) (pa_cons (pv 0) pa_nil)))
      (pss_one (ps_ret (pe_callB call_len_seq (by rfl) T.n_len PySem.boot_len (pa_cons (pv 0) pa_nil))))), ?_⟩
    refine ⟨v, rfl, v, d, rfl, hd, fun z H' ex => ?_, qe⟩
    obtain ⟨os, G⟩ := goodT z
    have hd2 := hd.mono ex.tups
    rw [G.eq] at hd2
    obtain ⟨a, xs, rfl, ha, hall⟩ := hd2.tuple_inv
    refine ⟨_, rfl, a, xs, rfl, .inr ha.sq, ?_⟩
    rw [hall.len]
    have := q z _ ex
    rw [G.eq] at this
    exact this
/-- the entry over o of a and b -/
def atD (d : PyData) (o a b : Nat) : PyData := nthD (nthD (nthD d o) a) b
def spEntry (TT : List (Addr × Str)) (c : Cl) : Sp := fun vs H Q E => ∃ v d x y z, vs = [v, x, y, z] ∧ Td H v d ∧ Kn H x ∧ Kn H y ∧ Kn H z ∧ BadT TT c H d E ∧ (wrongD d = .none →
  (inR x 0 (lenD d - 1) = false → ∀ H', Ex TT [] H H' → Raised H' c.BadState x E) ∧
  (inR x 0 (lenD d - 1) = true → inR y 0 (lenD d - 1) = false → ∀ H', Ex TT [] H H' → Raised H' c.BadState y E) ∧
  (inR x 0 (lenD d - 1) = true → inR y 0 (lenD d - 1) = true → inR z 0 (lenD d - 1) = false → ∀ H', Ex TT [] H H' → Raised H' c.BadState z E) ∧
  ∀ o a b : Nat, x = .int o → y = .int a → z = .int b → o < lenD d → a < lenD d → b < lenD d → ∀ v' H', Ex TT [] H H' → Td H' v' (atD d o a b) → Q v' H')
theorem inR_nat {v : V} {n : Nat} (h : inR v 0 ((n : Int) - 1) = true) : ∃ k : Nat, v = .int k ∧ k < n := by
  cases v with
  | int i =>
    have h' : (decide (0 ≤ i) && decide (i ≤ (n : Int) - 1)) = true := h
    rw [Bool.and_eq_true] at h'
    have h1 := of_decide_eq_true h'.1
    have h2 := of_decide_eq_true h'.2
    obtain ⟨k, rfl⟩ := Int.eq_ofNat_of_zero_le h1
    exact ⟨k, rfl, by omega⟩
  | _ => cases h
theorem v_entry (T : Txt K mg base TT CL) (c_made_table : CalV P w K mg base 4 "made_table" (spMade TT CL)) (c_check_state : CalV P w K mg base 3 "check_state" (spCheckState CL)) : CalV P w K mg base 5 "entry" (spEntry TT CL) := by
  obtain ⟨f, cd, D, hm⟩ := T.d_entry
  have sc := sc_entry
  let N : List Str := n_entry
  refine D.cal hm (fnv_def D sc (fun vs H Q E h => ?_) fun A outer s H vs Q E hr h => ?_)
  · obtain ⟨v, d, x, y, z, rfl, _⟩ := h
    rfl
  · obtain ⟨v, d, x, y, z, rfl, hd, kx, ky, kz, qe, q⟩ := h
    refine ⟨_, (pss_cons (ps_expr (pe_v (E := fun _ => E) c_made_table hr (by decide) rfl (fun σ => passAt (takes_of (E := E) rfl rfl rfl rfl) σ) (pa_cons (pv 0) pa_nil)))
      (pss_cons (ps_for (passes_of rfl) rfl (pi_tup (pe_tupF (pa_cons (pv 1) (pa_cons (pv 2) (pa_cons (pv 3) pa_nil))))) (pg_name (i := 4) sc.nd rfl (by first | exact Or.inl rfl | exact Or.inr rfl)) (pss_one (ps_expr (pe_v (E := fun _ => E) c_check_state hr (by decide) rfl (fun σ => passAt (takes_of (E := E) rfl rfl rfl rfl) σ) (pa_cons (pe_callB call_len_seq (by rfl) T.n_len PySem.boot_len (pa_cons (pv 0) pa_nil)) (pa_cons (pv 4) pa_nil))))))
      (pss_one (ps_ret (pe_ix (ix_seqK (K := K) rfl) (pe_ix (ix_seqK (K := K) rfl) (pe_ix (ix_seqK (K := K) rfl) (pv 0) (pv 1) (fun _ _ => rfl)) (pv 2) (fun _ _ => rfl)) (pv 3) (fun _ _ => rfl)))))), ?_⟩
    refine ⟨v, rfl, v, d, rfl, hd, fun good H1 ex1 => ?_, qe⟩
    obtain ⟨qx, qy, qz, qq⟩ := q good
    obtain ⟨os, G⟩ := goodT good
    have eqd := G.eq
    subst eqd
    refine ⟨x, rfl, y, rfl, z, rfl, (by show 3 ≤ sizeLine; decide), fun p ob hp hob => ?_⟩
    have e2 : Ex TT [] H (upd H1 p (.frz ob (.tup [x, y, z]))) := ex1.new hp
    have hp2 : Tp (upd H1 p (.frz ob (.tup [x, y, z]))) p [x, y, z] := Tp.made hob
    refine ⟨p, rfl, ⟨_, hp2.sq⟩, for_tup (K := K) (a := p) (xs := [x, y, z]) (fun i σ H' => ∃ v4, σ = [some v, some x, some y, some z, v4] ∧ H' = upd H1 p (.frz ob (.tup [x, y, z])) ∧ (1 ≤ i → inR x 0 (lenD (.tuple os) - 1) = true) ∧ (2 ≤ i → inR y 0 (lenD (.tuple os) - 1) = true) ∧ (3 ≤ i → inR z 0 (lenD (.tuple os) - 1) = true)) ⟨none, rfl, rfl, by omega, by omega, by omega⟩ ?_ ?_ ?_⟩
    · rintro i σ H' _ ⟨_, _, rfl, _⟩
      exact hp2.sq
    · rintro i st σ H' hi ⟨v4, rfl, rfl, h1, h2, h3⟩
      have hd2 := hd.mono e2.tups
      obtain ⟨a, xs, rfl, ha, hall⟩ := hd2.tuple_inv
      refine ⟨_, rfl, a, xs, rfl, .inr ha.sq, st, rfl, (xs.length : Int), st, rfl, ?_⟩
      rw [hall.len]
      match i, hi with
      | 0, hi =>
        cases (Option.some.inj hi)
        refine ⟨kx.mono e2.tups, fun c => ⟨_, rfl, rfl, fun _ => c, by omega, by omega⟩, fun c => qx c _ e2⟩
      | 1, hi =>
        cases (Option.some.inj hi)
        refine ⟨ky.mono e2.tups, fun c => ⟨_, rfl, rfl, fun _ => h1 (by omega), fun _ => c, by omega⟩, fun c => qy (h1 (by omega)) c _ e2⟩
      | 2, hi =>
        cases (Option.some.inj hi)
        refine ⟨kz.mono e2.tups, fun c => ⟨_, rfl, rfl, fun _ => h1 (by omega), fun _ => h2 (by omega), fun _ => c⟩, fun c => qz (h1 (by omega)) (h2 (by omega)) c _ e2⟩
      | (i + 3), hi =>
        simp at hi
    · rintro σ H' ⟨v4, rfl, rfl, h1, h2, h3⟩
      obtain ⟨o, rfl, ho⟩ := inR_nat (h1 (by show 1 ≤ 3; decide))
      obtain ⟨a, rfl, hA⟩ := inR_nat (h2 (by show 2 ≤ 3; decide))
      obtain ⟨b, rfl, hB⟩ := inR_nat (h3 (by show 3 ≤ 3; decide))
      have ho' : o < os.length := ho
      have hA' : a < os.length := hA
      have hB' : b < os.length := hB
      have hd2 := hd.mono e2.tups
      obtain ⟨r, xs, rfl, hr1, hall⟩ := hd2.tuple_inv
      obtain ⟨as, eas, las, has⟩ := G.base os[o] (List.getElem_mem ho')
      obtain ⟨x1, hx1, hd3⟩ := hall.at_ (List.getElem?_eq_getElem ho')
      rw [eas] at hd3
      obtain ⟨r2, ys, rfl, hr2, hall2⟩ := hd3.tuple_inv
      have ha2 : a < as.length := by omega
      obtain ⟨bs, ebs, lbs, hbs⟩ := has as[a] (List.getElem_mem ha2)
      obtain ⟨y1, hy1, hd4⟩ := hall2.at_ (List.getElem?_eq_getElem ha2)
      rw [ebs] at hd4
      obtain ⟨r3, zs, rfl, hr3, hall3⟩ := hd4.tuple_inv
      have hb2 : b < bs.length := by omega
      obtain ⟨z1, hz1, hd5⟩ := hall3.at_ (List.getElem?_eq_getElem hb2)
      refine ⟨_, rfl, _, rfl, .inr (.inl ⟨r, xs, _, _, rfl, rfl, hr1.sq, atI_nat hx1, ?_⟩)⟩
      refine ⟨_, rfl, .inr (.inl ⟨r2, ys, _, _, rfl, rfl, hr2.sq, atI_nat hy1, ?_⟩)⟩
      refine ⟨_, rfl, .inr (.inl ⟨r3, zs, _, _, rfl, rfl, hr3.sq, atI_nat hz1, ?_⟩)⟩
      refine qq o a b rfl rfl rfl ho hA hB _ _ e2 ?_
      have e3 : atD (.tuple os) o a b = bs[b] := by
        have f1 : nthD (.tuple os) o = .tuple as := by
          show os.getD o .none = _
          rw [List.getD_eq_getElem?_getD, List.getElem?_eq_getElem ho', eas]
          rfl
        have f2 : nthD (.tuple as) a = .tuple bs := by
          show as.getD a .none = _
          rw [List.getD_eq_getElem?_getD, List.getElem?_eq_getElem ha2, ebs]
          rfl
        unfold atD
        rw [f1, f2]
        show bs.getD b .none = _
        rw [List.getD_eq_getElem?_getD, List.getElem?_eq_getElem hb2]
        rfl
      rw [e3]
      exact hd5
end
end Ed

set_option Elab.async false
set_option linter.all false
set_option maxRecDepth 100000
set_option maxHeartbeats 4000000
namespace Ed
open PySem PySem.Spec PyProof.Rows L2
/-- the first gap of a row -/
def gapRow : List PyData → Option Nat
  | [] => none
  | .none :: _ => some 0
  | _ :: r => (gapRow r).map (· + 1)
def gapD (d : PyData) : PyData := match d with
  | .tuple os => (scanOver gapRow os 0).getD .none
  | _ => .none
/-- the items of a row of a table -/
theorem row_flat {H : Hp} {n : Int} : ∀ {bs : List PyData} {xs : List V}, TdAll H xs bs → (∀ x ∈ bs, x = .none ∨ ∃ i, x = .int i ∧ 0 ≤ i ∧ i < n) → xs.all flatV = true ∧ (inV .non xs = (gapRow bs).isSome) ∧
    ∀ j, gapRow bs = some j → (∃ y, xs[j]? = some y ∧ eqV y .non = true) ∧ ∀ m y, m < j → xs[m]? = some y → eqV y .non = false
  | [], _, .nil, _ => ⟨rfl, rfl, fun j e => by cases e⟩
  | d :: bs, x :: xs, .cons hd hr, hb => by
    obtain ⟨i1, i2, i3⟩ := row_flat hr fun y hy => hb y (List.mem_cons_of_mem _ hy)
    rcases hb d List.mem_cons_self with rfl | ⟨i, rfl, _⟩
    · cases hd
      refine ⟨?_, ?_, ?_⟩
      · rw [List.all_cons, i1]
        rfl
      · rfl
      · intro j e
        have e' : some 0 = some j := e
        cases e'
        exact ⟨⟨_, rfl, rfl⟩, fun m y hm => absurd hm (Nat.not_lt_zero _)⟩
    · cases hd
      have e0 : gapRow (.int i :: bs) = (gapRow bs).map (· + 1) := rfl
      refine ⟨?_, ?_, ?_⟩
      · rw [List.all_cons, i1]
        rfl
      · rw [e0]
        show (eqV (.int i) .non || inV .non xs) = _
        rw [i2]
        cases gapRow bs <;> rfl
      · intro j e
        rw [e0] at e
        cases q : gapRow bs with
        | none =>
          rw [q] at e
          cases e
        | some k =>
          rw [q] at e
          cases e
          obtain ⟨⟨y, h1, h2⟩, h3⟩ := i3 k q
          refine ⟨⟨y, h1, h2⟩, fun m y hm hy => ?_⟩
          match m, hm, hy with
          | 0, _, hy =>
            cases Option.some.inj hy
            rfl
          | m + 1, hm, hy => exact h3 m y (Nat.lt_of_succ_lt_succ hm) hy
section
variable {P : Program} {w : World} {K : PySem.W.Frag} {mg : Str → Option Value} {base : Heap} {TT : List (Addr × Str)} {CL : Cl}
def spGap (TT : List (Addr × Str)) : Sp := fun vs H Q _ => ∃ v d, vs = [v] ∧ Td H v d ∧ wrongD d = .none ∧ ∀ v' H', Ex TT [] H H' → Td H' v' (gapD d) → Q v' H'
theorem v_gap_place (T : Txt K mg base TT CL) : CalV P w K mg base 1 "gap_place" (spGap TT) := by
  obtain ⟨f, cd, D, hm⟩ := T.d_gap_place
  have sc := sc_gap_place
  let N : List Str := n_gap_place
  refine D.cal hm (fnv_def D sc (fun vs H Q E h => ?_) fun A outer s H vs Q E hr h => ?_)
  · obtain ⟨v, d, rfl, _⟩ := h
    rfl
  · obtain ⟨v, d, rfl, hd, good, q⟩ := h
    refine ⟨_, (pss_cons (ps_for (passes_of rfl) rfl (pi_enumT (by rfl) T.n_enumerate (pa_cons (pv 0) pa_nil)) (pg_tup rfl (pgs_cons (pg_name (i := 1) sc.nd rfl (by first | exact Or.inl rfl | exact Or.inr rfl)) (pgs_cons (pg_name (i := 2) sc.nd rfl (by first | exact Or.inl rfl | exact Or.inr rfl)) pgs_nil))) (pss_one (ps_for (passes_of rfl) rfl (pi_enumT (by rfl) T.n_enumerate (pa_cons (pv 2) pa_nil)) (pg_tup rfl (pgs_cons (pg_name (i := 3) sc.nd rfl (by first | exact Or.inl rfl | exact Or.inr rfl)) (pgs_cons (pg_name (i := 4) sc.nd rfl (by first | exact Or.inl rfl | exact Or.inr rfl)) pgs_nil))) (pss_one (ps_if (pt_cmpR op_in_seq pe_non (pv 4) (by rfl)) (pss_one (ps_ret (pe_tupF (pa_cons (pv 1) (pa_cons (pv 3) (pa_cons (pe_bmT PySem.F.slot_tuple_index PySem.F.type_tuple_index mt_tup_indexF (pv 4) (pa_cons pe_non pa_nil)) pa_nil)))))) pss_nil)))))
      (pss_one (ps_ret pe_non))), ?_⟩
    obtain ⟨os, G⟩ := goodT good
    have eqd := G.eq
    subst eqd
    obtain ⟨a, xs, rfl, ha, hall⟩ := hd.tuple_inv
    have fin : ∀ v' H' e, Ex TT [] H H' → scanOver gapRow os 0 = some e → Td H' v' e → Q v' H' := fun v' H' e ex z t => q v' H' ex (by
      show Td H' v' ((scanOver gapRow os 0).getD .none)
      rw [z]
      exact t)
    refine ⟨.ref a, rfl, a, xs, rfl, ha.sq, for_enumT (K := K) (a := a) (xs := xs) (fun i σ H' => ∃ v1 v2 v3 v4, σ = [some (.ref a), v1, v2, v3, v4] ∧ Ex TT [] H H' ∧ scanOver gapRow (os.take i) 0 = none) ⟨none, none, none, none, rfl, Ex.refl H, rfl⟩ ?_ ?_ ?_⟩
    · rintro i σ H' _ ⟨_, _, _, _, _, e, _⟩
      exact (e.tups _ _ ha).sq
    · rintro i x σ H' p hx ⟨v1, v2, v3, v4, rfl, ex, hw⟩ hp
      obtain ⟨d, hdi, hdx⟩ := hall.get hx
      obtain ⟨as, rfl, las, has⟩ := G.base d (List.mem_of_getElem? hdi)
      have hi' : i < os.length := (List.getElem?_eq_some_iff.mp hdi).1
      have e2 : Ex TT [] H (upd H' p (.tup [.int (i : Nat), x])) := ex.new hp
      have step : scanOver gapRow (os.take (i + 1)) 0 = match scanIn gapRow i as 0 with
          | some d => some d
          | none => none := by
        rw [take_snoc hdi, scanOver_app, hw, List.length_take, Nat.min_eq_left (Nat.le_of_lt hi'), Nat.zero_add]
        rfl
      have stop : ∀ dd, scanIn gapRow i as 0 = some dd → scanOver gapRow os 0 = some dd := fun dd z => by
        rw [z] at step
        have big := scanOver_app (f := gapRow) (xs := os.take (i + 1)) (ys := os.drop (i + 1)) (o := 0)
        rw [List.take_append_drop, step] at big
        exact big
      obtain ⟨a1, ys, rfl, ha1, hall1⟩ := (hdx.mono e2.tups).tuple_inv
      refine ⟨p, [.int (i : Nat), .ref a1], rfl, .inl (.inl upd_same), rfl, .int (i : Nat), [.ref a1], rfl, .ref a1, [], rfl, rfl, ?_⟩
      refine ⟨.ref a1, rfl, a1, ys, rfl, ha1.sq, for_enumT (K := K) (a := a1) (xs := ys) (fun j σ H'' => ∃ v3 v4, σ = [some (.ref a), some (.int (i : Nat)), some (.ref a1), v3, v4] ∧ Ex TT [] (upd H' p (.tup [.int (i : Nat), .ref a1])) H'' ∧ scanIn gapRow i (as.take j) 0 = none) ⟨_, _, rfl, Ex.refl _, rfl⟩ ?_ ?_ ?_⟩
      · rintro j σ H'' _ ⟨_, _, _, e, _⟩
        exact (e.tups _ _ ha1).sq
      · rintro j y σ H'' p2 hy ⟨v3, v4, rfl, ex2, hw2⟩ hp2
        obtain ⟨g, hgj, hgy⟩ := hall1.get hy
        obtain ⟨bs, rfl, lbs, hbs⟩ := has g (List.mem_of_getElem? hgj)
        have hj' : j < as.length := (List.getElem?_eq_some_iff.mp hgj).1
        have e3 : Ex TT [] (upd H' p (.tup [.int (i : Nat), .ref a1])) (upd H'' p2 (.tup [.int (j : Nat), y])) := ex2.new hp2
        have step2 : scanIn gapRow i (as.take (j + 1)) 0 = match gapRow bs with
            | some b => some (.tuple [.int i, .int j, .int b])
            | none => none := by
          rw [take_snoc hgj, scanIn_app, hw2, List.length_take, Nat.min_eq_left (Nat.le_of_lt hj'), Nat.zero_add]
          rfl
        obtain ⟨a2, zs, rfl, ha2, hall2⟩ := (hgy.mono e3.tups).tuple_inv
        obtain ⟨fl, isin, plc⟩ := row_flat hall2 hbs
        refine ⟨p2, [.int (j : Nat), .ref a2], rfl, .inl (.inl upd_same), rfl, .int (j : Nat), [.ref a2], rfl, .ref a2, [], rfl, rfl, ?_⟩
        refine ⟨.ref a2, rfl, a2, zs, rfl, .inr ha2.sq, rfl, fl, _, rfl, ?_⟩
        show if (if false = true then !inV .non zs else inV .non zs) = true then _ else _
        rw [if_neg Bool.false_ne_true, isin]
        cases gr : gapRow bs with
        | none =>
          rw [gr] at step2
          exact iteF ⟨_, _, rfl, e3, step2⟩
        | some b =>
          rw [gr] at step2
          obtain ⟨pb, pm⟩ := plc b gr
          refine iteT ⟨_, rfl, _, rfl, .ref a2, rfl, ⟨a2, zs, rfl, ha2⟩, a2, zs, .non, b, rfl, rfl, ha2.sq, rfl, fl, pb, pm, ?_⟩
          refine ⟨(by show 3 ≤ sizeLine; decide), fun p3 ob hp3 hob => ?_⟩
          have inn : scanIn gapRow i as 0 = some (.tuple [.int i, .int j, .int b]) := by
            have big := scanIn_app (f := gapRow) (o := i) (xs := as.take (j + 1)) (ys := as.drop (j + 1)) (a := 0)
            rw [List.take_append_drop, step2] at big
            exact big
          exact fin _ _ _ ((e2.trans e3).new hp3) (stop _ inn) (.tup (Tp.made hob) (.cons (.int _) (.cons (.int _) (.cons (.int _) .nil))))
      · rintro σ H'' ⟨v3, v4, rfl, ex2, hw2⟩
        rw [hall1.len, List.take_length] at hw2
        rw [hw2] at step
        exact ⟨_, _, _, _, rfl, e2.trans ex2, step⟩
    · rintro σ H' ⟨v1, v2, v3, v4, rfl, ex, hw⟩
      rw [hall.len, List.take_length] at hw
      refine q _ _ ex ?_
      show Td H' .non ((scanOver gapRow os 0).getD .none)
      rw [hw]
      exact .non
def spFirstGap (TT : List (Addr × Str)) (c : Cl) : Sp := fun vs H Q E => ∃ v d, vs = [v] ∧ Td H v d ∧ (wrongD d = .none → ∀ v' H', Ex TT [] H H' → Td H' v' (gapD d) → Q v' H') ∧ BadT TT c H d E
theorem v_first_gap (T : Txt K mg base TT CL) (c_made_table : CalV P w K mg base 4 "made_table" (spMade TT CL)) (c_gap_place : CalV P w K mg base 1 "gap_place" (spGap TT)) : CalV P w K mg base 5 "first_gap" (spFirstGap TT CL) := by
  obtain ⟨f, cd, D, hm⟩ := T.d_first_gap
  have sc := sc_first_gap
  let N : List Str := n_first_gap
  refine D.cal hm (fnv_def D sc (fun vs H Q E h => ?_) fun A outer s H vs Q E hr h => ?_)
  · obtain ⟨v, d, rfl, _⟩ := h
    rfl
  · obtain ⟨v, d, rfl, hd, q, qe⟩ := h
    refine ⟨_, (pss_cons (ps_expr (pe_v (E := fun _ => E) c_made_table hr (by decide) rfl (fun σ => passAt (takes_of (E := E) rfl rfl rfl rfl) σ) (pa_cons (pv 0) pa_nil)))
      (pss_one (ps_ret (pe_vn c_gap_place hr (by decide) rfl (pa_cons (pv 0) pa_nil))))), ?_⟩
    exact ⟨v, rfl, v, d, rfl, hd, fun z H1 ex => ⟨v, rfl, v, d, rfl, hd.mono ex.tups, z, fun v' H2 ex2 t => q z v' H2 (ex.trans ex2) t⟩, qe⟩
end
end Ed

set_option Elab.async false
set_option linter.all false
set_option maxRecDepth 100000
set_option maxHeartbeats 4000000
namespace Ed
open PySem PySem.Spec PyProof.Rows L2
/-! ### draws -/
section
variable {P : Program} {w : World} {K : PySem.W.Frag} {mg : Str → Option Value} {base : Heap} {TT : List (Addr × Str)} {CL : Cl}
def spTake (TT : List (Addr × Str)) : Sp := fun vs H Q _ => ∃ a top, vs = [.ref a, .int top] ∧ SrcOk H a ∧ 1 ≤ top ∧ top < 1000000000 ∧ ∀ r H', 0 ≤ r → r < top → SrcOk H' a → Ex TT [a] H H' → Q (.int r) H'
theorem at0L {x y : V} : atI [x, y] (0 : Int) = some x := rfl
theorem at1L {x y : V} : atI [x, y] (1 : Int) = some y := rfl
theorem v__law_take (T : Txt K mg base TT CL) : CalV P w K mg base 1 "_law_take" (spTake TT) := by
  obtain ⟨f, cd, D, hm⟩ := T.d__law_take
  have sc := sc__law_take
  let N : List Str := n__law_take
  refine D.cal hm (fnv_def D sc (fun vs H Q E h => ?_) fun A outer s H vs Q E hr h => ?_)
  · obtain ⟨a, top, rfl, _⟩ := h
    rfl
  · obtain ⟨a, top, rfl, ⟨b, m, ha, hb, hm0, hm1⟩, h1, h2, q⟩ := h
    refine ⟨_, (pss_cons (ps_if (pt_cmpR op_gt (pe_ix (ix_seqK (K := K) rfl) (pv 0) pe_int (fun _ _ => rfl)) pe_int (nomark _)) (pss_cons (ps_asg (pe_op op_mod (pe_callTy call_int1 (by rfl) T.n_int (by decide +kernel) (pa_cons (pe_ix (ix_seqK (K := K) rfl) (pv 0) pe_int (fun _ _ => rfl)) pa_nil)) (pv 1)) (pg_name (i := 2) sc.nd rfl (by first | exact Or.inl rfl | exact Or.inr rfl)))
      (pss_cons (ps_asg (pe_op op_fdivW (pe_ix (ix_seqK (K := K) rfl) (pv 0) pe_int (fun _ _ => rfl)) (pv 1)) (pg_sub (pv 0) pe_int set_list))
      (pss_one (ps_ret (pv 2))))) pss_nil)
      (pss_cons (ps_asg (pe_op op_mod (pe_callTy call_int1 (by rfl) T.n_int (by decide +kernel) (pa_cons (pe_op op_add (pe_op op_mul (pe_ix (ix_seqK (K := K) rfl) (pv 0) pe_int (fun _ _ => rfl)) pe_int) pe_int) pa_nil)) pe_int) (pg_sub (pv 0) pe_int set_list))
      (pss_one (ps_ret (pe_op op_mod (pe_callTy call_int1 (by rfl) T.n_int (by decide +kernel) (pa_cons (pe_op op_fdivW (pe_op op_mod (pe_callTy call_int1 (by rfl) T.n_int (by decide +kernel) (pa_cons (pe_op op_mul (pe_ix (ix_seqK (K := K) rfl) (pv 0) pe_int (fun _ _ => rfl)) (pe_ix (ix_seqK (K := K) rfl) (pv 0) pe_int (fun _ _ => rfl))) pa_nil)) pe_int) pe_int) pa_nil)) (pv 1)))))), ?_⟩
    have sq : SqL K H a [.int b, .int m] := .inl (.inl ha)
    refine ⟨_, rfl, .inl ⟨a, _, 0, .int b, rfl, rfl, sq, at0L, b, 0, rfl, rfl, _, rfl, ?_⟩⟩
    cases c : decide (0 < b) with
    | true =>
      refine iteT ⟨_, rfl, .inl ⟨a, _, 0, .int b, rfl, rfl, sq, at0L, .inl ⟨b, rfl, .int top, rfl, b, top, rfl, rfl, (by omega), ?_⟩⟩⟩
      refine ⟨_, rfl, .inl ⟨a, _, 0, .int b, rfl, rfl, sq, at0L, .int top, rfl, b, top, rfl, rfl, wide_div (by omega) (b := 40) (by omega) (by decide) (by decide), ?_⟩⟩
      refine ⟨_, rfl, a, _, 0, 0, rfl, rfl, ha, rfl, _, rfl, ?_⟩
      refine q _ _ (Int.emod_nonneg b (by omega)) (Int.emod_lt_of_pos b (by omega)) ⟨b / top, m, upd_same, Int.ediv_nonneg hb (by omega), hm0, hm1⟩ ((Ex.refl H).put ha (.inl List.mem_cons_self))
    | false =>
      refine iteF ?_
      refine ⟨_, rfl, .inl ⟨a, _, 1, .int m, rfl, rfl, sq, at1L, m, 39373, rfl, rfl, .inr (by constructor <;> decide), _, 7, rfl, rfl, .inl ⟨_, rfl, _, 2147483647, rfl, rfl, (by show (0 : Int) < 2147483647; decide), ?_⟩⟩⟩
      have n0 : 0 ≤ (m * 39373 + 7) % 2147483647 := Int.emod_nonneg _ (by decide)
      have n1 : (m * 39373 + 7) % 2147483647 < 2147483647 := Int.emod_lt_of_pos _ (by decide)
      obtain ⟨m', hm'⟩ : ∃ m' : Int, m' = (m * 39373 + 7) % 2147483647 := ⟨_, rfl⟩
      rw [← hm'] at n0 n1
      refine ⟨_, rfl, a, _, 1, 1, rfl, rfl, ha, rfl, ?_⟩
      have ha' : upd H a (.lst [.int b, .int m']) a = some (.lst [.int b, .int m']) := upd_same
      have sq' : SqL K (upd H a (.lst [.int b, .int m'])) a [.int b, .int m'] := .inl (.inl ha')
      generalize e3 : upd H a (HO.lst _) = H3
      have e4 : H3 = upd H a (.lst [.int b, .int m']) := by
        rw [← e3, hm']
        rfl
      subst e4
      clear e3
      refine ⟨_, rfl, .inl ⟨a, _, 1, .int m', rfl, rfl, sq', at1L, _, rfl, .inl ⟨a, _, 1, .int m', rfl, rfl, sq', at1L, m', m', rfl, rfl, .inl ⟨by omega, by omega⟩, .inl ⟨_, rfl, _, 2147483629, rfl, rfl, (by show (0 : Int) < 2147483629; decide), ?_⟩⟩⟩⟩
      refine ⟨_, 32, rfl, rfl, wide_div (by decide) (b := 40) (by decide) (by decide) (by decide), .inl ⟨_, rfl, .int top, rfl, _, top, rfl, rfl, (by omega), ?_⟩⟩
      exact q _ _ (Int.emod_nonneg _ (by omega)) (Int.emod_lt_of_pos _ (by omega)) ⟨b, m', ha', hb, n0, n1⟩ ((Ex.refl H).put ha (.inl List.mem_cons_self))
end
end Ed

set_option Elab.async false
set_option linter.all false
set_option maxRecDepth 100000
set_option maxHeartbeats 4000000
namespace Ed
open PySem PySem.Spec PyProof.Rows L2
theorem ints_lay : ∀ ns : List Int, PyData.canLayAll0 (ns.map PyData.int) = true
  | [] => by simp [PyData.canLayAll0]
  | n :: ns => by simp [PyData.canLayAll0, PyData.canLay0, ints_lay ns]
theorem ints_deep : ∀ ns : List Int, PyData.depthAll (ns.map PyData.int) ≤ 1
  | [] => by simp [PyData.depthAll]
  | n :: ns => by
    have := ints_deep ns
    simp only [List.map_cons, PyData.depthAll, PyData.depth]
    omega
theorem ints_shaped (ns : List Int) : SeqAt.shaped (.list (ns.map PyData.int)) = true := by
  have h := ints_deep ns
  show (PyData.canLay0 (.list (ns.map .int)) && decide (PyData.depth (.list (ns.map .int)) ≤ 64)) = true
  rw [Bool.and_eq_true]
  refine ⟨by simp only [PyData.canLay0]; exact ints_lay ns, decide_eq_true ?_⟩
  simp only [PyData.depth]
  omega
theorem ints_dp {K : PySem.W.Frag} {H : Hp} : ∀ ns : List Int, DpAll K H (ns.map V.int) (ns.map PyData.int)
  | [] => .nil
  | n :: ns => .cons (.int n) (ints_dp ns)
theorem int_nil_eqv : ∀ ns : List Int, PyData.eqv (.list (ns.map PyData.int)) (.list []) = ns.isEmpty
  | [] => by simp [PyData.eqv, PyData.eqvAll]
  | n :: ns => by simp [PyData.eqv, PyData.eqvAll]
section
variable {P : Program} {w : World} {K : PySem.W.Frag} {mg : Str → Option Value} {base : Heap} {TT : List (Addr × Str)} {CL : Cl}
def spPool (K : PySem.W.Frag) (TT : List (Addr × Str)) : Sp := fun vs H Q _ => ∃ (l : Addr) (ns : List Int) (j : Nat), vs = [.ref l, .int j] ∧ SqL K H l (ns.map V.int) ∧ j < 1000 ∧ ∀ p H', H p = none → Ex TT [] H H' → SrcOk H' p → Q (.ref p) H'
theorem v__law_pool (T : Txt K mg base TT CL) : CalV P w K mg base 1 "_law_pool" (spPool K TT) := by
  obtain ⟨f, cd, D, hm⟩ := T.d__law_pool
  have sc := sc__law_pool
  let N : List Str := n__law_pool
  refine D.cal hm (fnv_def D sc (fun vs H Q E h => ?_) fun A outer s H vs Q E hr h => ?_)
  · obtain ⟨l, ns, j, rfl, _⟩ := h
    rfl
  · obtain ⟨l, ns, j, rfl, hs, hj, q⟩ := h
    refine ⟨_, (pss_cons (ps_asg pe_int (pg_name (i := 2) sc.nd rfl (by first | exact Or.inl rfl | exact Or.inr rfl)))
      (C8.pss_cut (ps_if (pt_cmpR op_lt (pv 1) (pe_callB call_len_seq (by rfl) T.n_len PySem.boot_len (pa_cons (pv 0) pa_nil)) (nomark _)) (pss_one (ps_asg (pe_ix (ix_seqK (K := K) rfl) (pv 0) (pv 1) (fun _ _ => rfl)) (pg_name (i := 2) sc.nd rfl (by first | exact Or.inl rfl | exact Or.inr rfl)))) (pss_one (ps_if (pt_cmpR (op_neD hr.u64) (pv 0) (pe_lst pa_nil) (nomark _)) (pss_one (ps_asg (pe_ix (ix_seqK (K := K) rfl) (pv 0) pe_int (fun _ _ => rfl)) (pg_name (i := 2) sc.nd rfl (by first | exact Or.inl rfl | exact Or.inr rfl)))) pss_nil)))
      (pss_cons (ps_asg (pe_callB (call_max2 rfl) (by rfl) T.n_max (by decide +kernel) (pa_cons (pe_callTy call_int1 (by rfl) T.n_int (by decide +kernel) (pa_cons (pv 2) pa_nil)) (pa_cons (pe_callTy call_int1 (by rfl) T.n_int (by decide +kernel) (pa_cons (pe_op op_sub (pe_un un_neg pe_int) (pv 2)) pa_nil)) pa_nil))) (pg_name (i := 3) sc.nd rfl (by first | exact Or.inl rfl | exact Or.inr rfl)))
      (pss_cons (ps_asg (pe_op op_mod (pe_callTy call_int1 (by rfl) T.n_int (by decide +kernel) (pa_cons (pe_op op_mul (pe_op op_add (pe_op op_add (pe_op op_add (pe_op op_mod (pe_callTy call_int1 (by rfl) T.n_int (by decide +kernel) (pa_cons (pv 3) pa_nil)) pe_int) (pe_op op_mul (pe_op op_mul pe_int (pv 1)) (pv 1))) (pe_op op_mul pe_int (pv 1))) pe_int) pe_int) pa_nil)) pe_int) (pg_name (i := 4) sc.nd rfl (by first | exact Or.inl rfl | exact Or.inr rfl)))
      (pss_one (ps_ret (pe_lst (pa_cons (pe_op op_mul (pv 3) (pe_callTy call_int1 (by rfl) T.n_int (by decide +kernel) (pa_cons (pe_and (pe_cmpR op_ge (pv 3) (pe_op op_pow pe_int pe_int) (nomark _)) (pe_one (pe_cmpR op_lt (pv 1) (pe_callB call_len_seq (by rfl) T.n_len PySem.boot_len (pa_cons (pv 0) pa_nil)) (nomark _)))) pa_nil))) (pa_cons (pv 4) pa_nil))))))))), ?_⟩
    refine ⟨fun σ H' => ∃ c : Int, σ = [some (.ref l), some (.int j), some (.int c), none, none] ∧ Ex TT [] H H' ∧ (∀ p, H' p = none → H p = none), ?_, ?_⟩
    · refine ⟨_, rfl, .ref l, rfl, l, _, rfl, .inl hs, _, _, rfl, rfl, _, rfl, ?_⟩
      rw [List.length_map]
      cases c : decide (((j : Nat) : Int) < ((ns.length : Nat) : Int)) with
      | true =>
        have hjl : j < ns.length := by
          have := of_decide_eq_true c
          omega
        have gj : (ns.map V.int)[j]? = some (.int ns[j]) := by
          rw [List.getElem?_map, List.getElem?_eq_getElem hjl]
          rfl
        exact iteT ⟨_, rfl, _, rfl, .inl ⟨l, _, _, _, rfl, rfl, hs, atI_nat gj, _, rfl, Ex.refl H, fun p e => e⟩⟩
      | false =>
        refine iteF ⟨_, rfl, Nat.zero_le _, fun p hp => ?_⟩
        have e1 : Ex TT [] H (upd H p (.lst [])) := Ex.upd_new hp
        have hs1 := e1.seq (by simp) hs
        have back : ∀ p', upd H p (.lst []) p' = none → H p' = none := fun p' e => NdefX.upd_none e
        refine ⟨.list (ns.map .int), .list [], .lst hs1 (ints_dp ns), .lst (.inl (.inl upd_same)) .nil, ints_shaped ns, ints_shaped [], _, rfl, ?_⟩
        rw [int_nil_eqv]
        cases ns with
        | nil => exact iteF ⟨0, rfl, e1, back⟩
        | cons n r => exact iteT ⟨_, rfl, .inl ⟨l, _, 0, .int n, rfl, rfl, hs1, at_of (j := 0) rfl rfl, n, rfl, e1, back⟩⟩
    · rintro σ H' ⟨c, rfl, ex, bk⟩
      have hs' := ex.seq (by simp) hs
      refine ⟨.int c, rfl, .inl ⟨c, rfl, 1, rfl, .int c, rfl, -1, c, rfl, rfl, .inl ⟨_, rfl, c, _, rfl, ?_⟩⟩⟩
      have hbig : (0 : Int) ≤ if (-1 - c) > c then (-1 - c) else c := by
        split <;> omega
      generalize (if (-1 - c) > c then (-1 - c) else c) = b at hbig ⊢
      have jb : -(2 ^ 64) < (j : Int) ∧ (j : Int) < 2 ^ 64 := ⟨by omega, by omega⟩
      refine ⟨_, rfl, .inl ⟨b, rfl, b, 2147483629, rfl, rfl, (by show (0 : Int) < 2147483629; decide), ?_⟩⟩
      refine ⟨_, rfl, 7919, j, rfl, rfl, .inr jb, _, rfl, _, j, rfl, rfl, .inr jb, _, _, rfl, rfl, ?_⟩
      refine ⟨_, rfl, 31, j, rfl, rfl, .inr jb, _, _, rfl, rfl, _, _, rfl, rfl, _, 48271, rfl, rfl, .inr (by constructor <;> decide), .inl ⟨_, rfl, _, 2147483647, rfl, rfl, (by show (0 : Int) < 2147483647; decide), ?_⟩⟩
      generalize hx : (((b % 2147483629 + 7919 * (j : Int) * j + 31 * j + 17) * 48271 : Int)) = x
      have m0 : 0 ≤ x % 2147483647 := Int.emod_nonneg _ (by decide)
      have m1 : x % 2147483647 < 2147483647 := Int.emod_lt_of_pos _ (by decide)
      have fin : ∀ t : Int, 0 ≤ t → ∀ p, H' p = none → Q (.ref p) (upd H' p (.lst [.int t, .int (x % 2147483647)])) := fun t ht p hp => q p _ (bk p hp) (ex.new hp) ⟨t, _, upd_same, ht, m0, m1⟩
      refine ⟨.int b, rfl, .int b, rfl, 10, 18, rfl, rfl, ⟨by decide, by decide, by decide⟩, b, _, rfl, rfl, _, rfl, ?_⟩
      cases c1 : decide ((10 : Int) ^ (18 : Int).toNat ≤ b) with
      | false =>
        refine iteF (.inr ⟨false, rfl, b, _, rfl, rfl, .inr (by constructor <;> decide), _, rfl, (by show 2 ≤ sizeLine; decide), fun p hp => ?_⟩)
        exact fin _ (by simp) p hp
      | true =>
        refine iteT ⟨_, rfl, .ref l, rfl, l, _, rfl, .inl hs', _, _, rfl, rfl, .inr ⟨_, rfl, b, _, rfl, rfl, .inr ?_, _, rfl, (by show 2 ≤ sizeLine; decide), fun p hp => ?_⟩⟩
        · split <;> constructor <;> decide
        · refine fin _ ?_ p hp
          split <;> omega
end
end Ed

set_option Elab.async false
set_option linter.all false
set_option maxRecDepth 100000
set_option maxHeartbeats 4000000
namespace Ed
open PySem PySem.Spec PyProof.Rows L2
/-! ### tables by a rule -/
def entV : Option Int → V
  | none => .non
  | some i => .int i
def entD : Option Int → PyData
  | none => .none
  | some i => .int i
theorem ent_td {H : Hp} (x : Option Int) : Td H (entV x) (entD x) := by
  cases x with
  | none => exact .non
  | some i => exact .int i
def rowD (n : Nat) (g : Nat → Option Int) : PyData := .tuple ((List.range n).map fun b => entD (g b))
def sideD (n : Nat) (g : Nat → Nat → Option Int) : PyData := .tuple ((List.range n).map fun a => rowD n (g a))
def cubeD (n : Nat) (f : Nat → Nat → Nat → Option Int) : PyData := .tuple ((List.range n).map fun o => sideD n (f o))
def sideF (o a b : Nat) : Option Int := if a = o then some b else if b = o then some a else none
def onceF (o a b : Nat) : Option Int := if a = b then some a else sideF o a b
def greatF (o a b : Nat) : Option Int := match onceF o a b with
  | some x => some x
  | none => some (if (b : Int) > a then (b : Int) else a)
def turnF (n : Nat) (o a b : Nat) : Option Int := some (((a : Int) - o + b) % n)
theorem nat_eq {a b : Nat} : decide (V.int (a : Int) = V.int (b : Int)) = decide (a = b) := by
  rw [dec_int]
  by_cases h : a = b
  · subst h
    simp
  · rw [decide_eq_false h]
    exact beq_eq_false_iff_ne.mpr (by omega)
section
variable {P : Program} {w : World} {K : PySem.W.Frag} {mg : Str → Option Value} {base : Heap} {TT : List (Addr × Str)} {CL : Cl}
def spF (TT : List (Addr × Str)) (f : Nat → Nat → Nat → Option Int) : Sp := fun vs H Q _ => ∃ o a b : Nat, vs = [.int o, .int a, .int b] ∧ ∀ H', Ex TT [] H H' → Q (entV (f o a b)) H'
theorem v_one_side (T : Txt K mg base TT CL) : CalV P w K mg base 1 "one_side" (spF TT sideF) := by
  obtain ⟨f, cd, D, hm⟩ := T.d_one_side
  have sc := sc_one_side
  let N : List Str := n_one_side
  refine D.cal hm (fnv_def D sc (fun vs H Q E h => ?_) fun A outer s H vs Q E hr h => ?_)
  · obtain ⟨o, a, b, rfl, _⟩ := h
    rfl
  · obtain ⟨o, a, b, rfl, q⟩ := h
    refine ⟨_, (pss_cons (ps_if (pt_cmpR op_eq (pv 1) (pv 0) (nomark _)) (pss_one (ps_ret (pv 2))) pss_nil)
      (pss_cons (ps_if (pt_cmpR op_eq (pv 2) (pv 0) (nomark _)) (pss_one (ps_ret (pv 1))) pss_nil)
      (pss_one (ps_ret pe_non)))), ?_⟩
    have q := q H (Ex.refl H)
    unfold sideF at q
    refine ⟨_, rfl, _, rfl, rfl, _, rfl, ?_⟩
    rw [nat_eq]
    by_cases c1 : a = o
    · rw [if_pos c1] at q
      rw [decide_eq_true c1]
      exact iteT ⟨_, rfl, q⟩
    · rw [if_neg c1] at q
      rw [decide_eq_false c1]
      refine iteF ⟨_, rfl, _, rfl, rfl, _, rfl, ?_⟩
      rw [nat_eq]
      by_cases c2 : b = o
      · rw [if_pos c2] at q
        rw [decide_eq_true c2]
        exact iteT ⟨_, rfl, q⟩
      · rw [if_neg c2] at q
        rw [decide_eq_false c2]
        exact iteF q
theorem v_alike_once (T : Txt K mg base TT CL) (c_one_side : CalV P w K mg base 1 "one_side" (spF TT sideF)) : CalV P w K mg base 2 "alike_once" (spF TT onceF) := by
  obtain ⟨f, cd, D, hm⟩ := T.d_alike_once
  have sc := sc_alike_once
  let N : List Str := n_alike_once
  refine D.cal hm (fnv_def D sc (fun vs H Q E h => ?_) fun A outer s H vs Q E hr h => ?_)
  · obtain ⟨o, a, b, rfl, _⟩ := h
    rfl
  · obtain ⟨o, a, b, rfl, q⟩ := h
    refine ⟨_, (pss_cons (ps_if (pt_cmpR op_eq (pv 1) (pv 2) (nomark _)) (pss_one (ps_ret (pv 1))) pss_nil)
      (pss_one (ps_ret (pe_vn c_one_side hr (by decide) rfl (pa_cons (pv 0) (pa_cons (pv 1) (pa_cons (pv 2) pa_nil))))))), ?_⟩
    unfold onceF at q
    refine ⟨_, rfl, _, rfl, rfl, _, rfl, ?_⟩
    rw [nat_eq]
    by_cases c1 : a = b
    · rw [if_pos c1] at q
      rw [decide_eq_true c1]
      exact iteT ⟨_, rfl, q H (Ex.refl H)⟩
    · rw [if_neg c1] at q
      rw [decide_eq_false c1]
      exact iteF ⟨_, rfl, _, rfl, _, rfl, o, a, b, rfl, q⟩
theorem v_greater_side (T : Txt K mg base TT CL) (c_alike_once : CalV P w K mg base 2 "alike_once" (spF TT onceF)) : CalV P w K mg base 3 "greater_side" (spF TT greatF) := by
  obtain ⟨f, cd, D, hm⟩ := T.d_greater_side
  have sc := sc_greater_side
  let N : List Str := n_greater_side
  refine D.cal hm (fnv_def D sc (fun vs H Q E h => ?_) fun A outer s H vs Q E hr h => ?_)
  · obtain ⟨o, a, b, rfl, _⟩ := h
    rfl
  · obtain ⟨o, a, b, rfl, q⟩ := h
    refine ⟨_, (pss_cons (ps_asg (pe_vn c_alike_once hr (by decide) rfl (pa_cons (pv 0) (pa_cons (pv 1) (pa_cons (pv 2) pa_nil)))) (pg_name (i := 3) sc.nd rfl (by first | exact Or.inl rfl | exact Or.inr rfl)))
      (pss_cons (ps_if (pt_cmpR op_isN (pv 3) pe_non (nomark _)) (pss_one (ps_ret (pe_callB (call_max2 rfl) (by rfl) T.n_max (by decide +kernel) (pa_cons (pv 1) (pa_cons (pv 2) pa_nil))))) pss_nil)
      (pss_one (ps_ret (pv 3))))), ?_⟩
    unfold greatF at q
    refine ⟨_, rfl, _, rfl, _, rfl, o, a, b, rfl, fun H' ex => ⟨_, rfl, rfl, _, rfl, ?_⟩⟩
    have q := q H' ex
    cases e : onceF o a b with
    | none =>
      rw [e] at q
      exact iteT ⟨_, rfl, _, rfl, _, _, rfl, q⟩
    | some i =>
      rw [e] at q
      exact iteF ⟨_, rfl, q⟩
def spFilled (P : Program) (w : World) (K : PySem.W.Frag) (mg : Str → Option Value) (base : Heap) (TT : List (Addr × Str)) : Sp := fun vs H Q _ => ∃ (n : Nat) (g : Addr) (f : Nat → Nat → Nat → Option Int) (sp : Sp), vs = [.int n, .ref g] ∧ n ≤ 1000 ∧ FnV P w K mg base 3 g sp ∧
  (∀ H1, Ex TT [] H H1 → IsFn K H1 g) ∧ (∀ (o a b : Nat) H1 Q', o < n → a < n → b < n → Ex TT [] H H1 → (∀ H2, Ex TT [] H1 H2 → Q' (entV (f o a b)) H2) → sp [.int o, .int a, .int b] H1 Q' E0) ∧
  ∀ v' H', Ex TT [] H H' → Td H' v' (cubeD n f) → Q v' H'
theorem v_filled (T : Txt K mg base TT CL) : CalV P w K mg base 4 "filled" (spFilled P w K mg base TT) := by
  obtain ⟨f, cd, D, hm⟩ := T.d_filled
  have sc := sc_filled
  let N : List Str := n_filled
  refine D.cal hm (fnv_def D sc (fun vs H Q E h => ?_) fun A outer s H vs Q E hr h => ?_)
  · obtain ⟨n, g, f, sp, rfl, _⟩ := h
    rfl
  · obtain ⟨n, g, f, sp, rfl, hn, F, isf, prom, q⟩ := h
    refine ⟨_, (pss_cons (ps_asg (pe_callTy cr_range1 (by rfl) T.n_range (by decide +kernel) (pa_cons (pv 0) pa_nil)) (pg_name (i := 2) sc.nd rfl (by first | exact Or.inl rfl | exact Or.inr rfl)))
      (pss_one (ps_ret (pe_tupleK (K := K) rfl rfl T.n_tuple (pe_lc (own := [("o", 5)]) rfl sc.nd (pi_rngV (pv 2)) (blkOk_by (N := n_filled) (sc := defScope s_filled) (own := [("o", 5)]) (by first | decide +kernel | rfl)) (fun _ _ _ _ _ => (pg_name (i := 5) sc.nd rfl (by first | exact Or.inl rfl | exact Or.inr rfl))) (fun _ _ _ _ _ => pts_nil) (fun _ _ _ _ _ => (pe_tupleK (K := K) rfl rfl T.n_tuple (pe_lc (own := [("a", 4)]) rfl sc.nd (pi_rngV (pv 2)) (blkOk_by (N := n_filled) (sc := _) (own := [("a", 4)]) (by first | decide +kernel | rfl)) (fun _ _ _ _ _ => (pg_name (i := 4) sc.nd rfl (by first | exact Or.inl rfl | exact Or.inr rfl))) (fun _ _ _ _ _ => pts_nil) (fun _ _ _ _ _ => (pe_tupleK (K := K) rfl rfl T.n_tuple (pe_lc (own := [("b", 3)]) rfl sc.nd (pi_rngV (pv 2)) (blkOk_by (N := n_filled) (sc := _) (own := [("b", 3)]) (by first | decide +kernel | rfl)) (fun _ _ _ _ _ => (pg_name (i := 3) sc.nd rfl (by first | exact Or.inl rfl | exact Or.inr rfl))) (fun _ _ _ _ _ => pts_nil) (fun _ _ _ _ _ => (pe_vlK (P := P) (w := w) (K := K) (mg := mg) (base := base) (i := 1) (E := fun _ => E0) ⟨rfl, rfl, rfl, rfl, rfl⟩ hr rfl (by first | exact Or.inl rfl | exact Or.inr (Or.inl rfl) | exact Or.inr (Or.inr rfl)) at0 (pa_cons (pv 5) (pa_cons (pv 4) (pa_cons (pv 3) pa_nil)))))))))))))))), ?_⟩
    refine ⟨_, rfl, n, rfl, fun p hp => ?_⟩
    have e1 : Ex TT [] H (upd H p (.rng 0 n)) := Ex.upd_new hp
    have rng : ∀ H', Ex TT [] (upd H p (.rng 0 n)) H' → H' p = some (.rng 0 n) := fun H' e => e.keep _ _ (by simp) upd_same (by simp)
    have en : ((n : Int) - 0).toNat = n := by omega
    have sz : n < sizeLine := Nat.lt_of_le_of_lt hn (by decide)
    have bd : -(2 ^ 62) ≤ (0 : Int) ∧ (0 : Int) < 2 ^ 62 ∧ -(2 ^ 62) ≤ (n : Int) ∧ (n : Int) < 2 ^ 62 := ⟨by omega, by omega, by omega, by omega⟩
    generalize upd H p (.rng 0 n) = H1 at e1 rng
    refine ⟨_, rfl, p, 0, n, rfl, rng _ (Ex.refl _), bd, ?_⟩
    rw [en]
    intro D1 hD1
    refine lc_rangeM (T := TT) (S := []) (H0 := H1) (fun o => sideD n (f o)) (Ex.refl _) Srcs.nil hD1 sz (fun o H2 Q2 ho ex2 s2 k2 => ⟨rfl, ?_⟩) fun H2 acc ex2 _ hD hacc => .inl ⟨D1, acc, rfl, .inl (.inl hD), fun r ob hr0 hob => q _ _ (e1.trans (ex2.new hr0)) (.tup (Tp.made hob) (hacc.mono (TX.new hr0)))⟩
    refine ⟨_, rfl, p, 0, n, rfl, rng _ ex2, bd, ?_⟩
    rw [en]
    intro D2 hD2
    refine lc_rangeM (T := TT) (S := []) (H0 := H2) (fun a => rowD n (f o a)) (Ex.refl _) Srcs.nil hD2 sz (fun a H3 Q3 ha ex3 s3 k3 => ⟨rfl, ?_⟩) fun H3 acc ex3 _ hD hacc => .inl ⟨D2, acc, rfl, .inl (.inl hD), fun r ob hr0 hob => k2 _ _ (ex3.new hr0) Srcs.nil (.tup (Tp.made hob) (hacc.mono (TX.new hr0)))⟩
    refine ⟨_, rfl, p, 0, n, rfl, rng _ (ex2.trans ex3), bd, ?_⟩
    rw [en]
    intro D3 hD3
    refine lc_rangeM (T := TT) (S := []) (H0 := H3) (fun b => entD (f o a b)) (Ex.refl _) Srcs.nil hD3 sz (fun b H4 Q4 hb ex4 s4 k4 => ⟨rfl, ?_⟩) fun H4 acc ex4 _ hD hacc => .inl ⟨D3, acc, rfl, .inl (.inl hD), fun r ob hr0 hob => k3 _ _ (ex4.new hr0) Srcs.nil (.tup (Tp.made hob) (hacc.mono (TX.new hr0)))⟩
    have ex5 := e1.trans ((ex2.trans ex3).trans ex4)
    refine ⟨g, sp, rfl, F, isf _ ex5, _, rfl, _, rfl, _, rfl, isf _ ex5, ?_⟩
    simp only [Int.zero_add]
    exact prom o a b H4 Q4 ho ha hb ex5 fun H5 ex6 => k4 _ _ ex6 Srcs.nil (ent_td _)
end
end Ed

set_option Elab.async false
set_option linter.all false
set_option maxRecDepth 100000
set_option maxHeartbeats 4000000
namespace Ed
open PySem PySem.Spec PyProof.Rows L2
theorem CellsT.ex {cl : List (Str × Addr)} {fr : List Str} {ws : List (Option V)} {H H1 : Hp} {T : List (Addr × Str)} (C : CellsT cl fr ws H) (e : Ex T [] H H1) : CellsT cl fr ws H1 := by
  refine ⟨C.len, fun y c z => ?_, C.inj, fun i y z => ?_⟩
  · obtain ⟨o, v, a, b⟩ := C.all y c z
    exact ⟨o, v, e.at_frz (by simp) a, b⟩
  · obtain ⟨c, hc, hv⟩ := C.has i y z
    refine ⟨c, hc, fun v ev => ?_⟩
    obtain ⟨o, u, a, b, r⟩ := hv v ev
    exact ⟨o, u, e.at_frz (by simp) a, b, r⟩
theorem Ex.ofExt {H H1 : Hp} {T : List (Addr × Str)} {S : List Addr} (e : LamX.ExtN H H1) (t : LamX.Tabs T H1) : Ex T S H H1 :=
  ⟨fun b o _ q n => e b o q n, fun b xs ⟨o, q, d⟩ => ⟨o, e _ _ q (by simp), d⟩, fun _ => t⟩
/-- tuples that were made while the cells were known are there without them -/
theorem TX.unc_td {H Hc : Hp} {env : Env} {N : List Str} {σ : L2.St} (C : CovOf env N σ H Hc) {T : List (Addr × Str)} {H2 : Hp} (e : Ex T [] Hc H2) : TX H2 (unc env.cells H2) := by
  intro b xs ⟨o, q, d⟩
  refine ⟨o, (unc_out ?_).trans q, d⟩
  rintro ⟨y, hy⟩
  obtain ⟨o2, v, z, _⟩ := C.known y b hy
  have z2 := e.at_frz (by simp) z
  rw [q] at z2
  cases z2
theorem inR_natL {v : V} {lo hi : Int} (h0 : 0 ≤ lo) (h : inR v lo hi = true) : ∃ n : Nat, v = .int n ∧ lo ≤ n ∧ (n : Int) ≤ hi := by
  match v, h with
  | .int i, h =>
    have h : (decide (lo ≤ i) && decide (i ≤ hi)) = true := h
    rw [Bool.and_eq_true, decide_eq_true_eq, decide_eq_true_eq] at h
    refine ⟨i.toNat, ?_, by omega, by omega⟩
    congr 1
    omega
theorem fnv_lamAt {P : Program} {w : World} {K : PySem.W.Frag} {mg : Str → Option Value} {base : Heap} {cl : List (Str × Addr)} {H0 : Hp} {q : Str} {params : Arguments} {body : Expr} {scope : Scope} {pm ctv : Value} {c' g : Addr}
    (N ps fr : List Str) (k : Nat) (sp : List (Option V) → Sp) (_ : H0 g = some (.frz (PySem.W.kla_obj "<lambda>" q params body scope cl pm c' ctv) (.own 0)))
    (S : NdefX.NScope N ps fr scope) (hb : ∀ us : List Value, us.length = ps.length → bindArgs (PySem.W.kla_fn "<lambda>" q params body scope cl pm (.ref c') ctv) ⟨us, []⟩ = pure (ps.zip us))
    (len : ∀ ws vs H Q E, sp ws vs H Q E → vs.length = ps.length) (nc : ∀ y, cl.lookup y = some c' → False)
    (hbody : ∀ (A : Around) (outer : List Env) (s : Shared) (H : Hp) (vs : List V) (ws : List (Option V)) (Q : VK) (E : XK), RoomG k (A.deeper (NdefX.envF ⟨"<lambda>", q, params, [], scope, cl, c'⟩ g s.heap.objs.size)) → CellsT cl fr ws H → sp ws vs H Q E →
      ∃ te, PE (NdefX.ncx (L2.CX P w) P w K mg base N ⟨"<lambda>", q, params, [], scope, cl, c'⟩ g A outer s (unc cl H) (fun cls d H' => NoCell cl H' → E cls d (rec_ cl H H'))) body te ∧ te (NdefX.startF N vs ws) (unc cl H) (fun v H' => NoCell cl H' → Q v (rec_ cl H H'))) :
    FnV P w K mg base (k + 1) g (spLam g (PySem.W.kla_obj "<lambda>" q params body scope cl pm c' ctv) c' q cl fr sp) := fnv_lam S hb len nc hbody
section
variable {P : Program} {w : World} {K : PySem.W.Frag} {mg : Str → Option Value} {base : Heap} {TT : List (Addr × Str)} {CL : Cl}
def spRule (TT : List (Addr × Str)) (c : Cl) (tb : Prop) (f : Nat → Nat → Nat → Nat → Option Int) : Sp := fun vs H Q E => ∃ v, vs = [v] ∧ Kn H v ∧ (tb → LamX.Tabs TT H) ∧
  (∀ n : Nat, v = .int n → 1 ≤ n → n ≤ 12 → ∀ v' H', Ex TT [] H H' → Td H' v' (cubeD n (f n)) → Q v' H') ∧ (inR v 1 12 = false → Raised H c.BadMany v E)
theorem v_sides (T : Txt K mg base TT CL) (c_check_many : CalV P w K mg base 3 "check_many" (spCheckMany CL)) (c_filled : CalV P w K mg base 4 "filled" (spFilled P w K mg base TT)) (c_one_side : CalV P w K mg base 1 "one_side" (spF TT sideF)) : CalV P w K mg base 5 "sides" (spRule TT CL False fun _ => sideF) := by
  obtain ⟨f, cd, D, hm⟩ := T.d_sides
  have sc := sc_sides
  let N : List Str := n_sides
  obtain ⟨g, F, hg_one_side, oc, od, fd, sl, lk⟩ := c_one_side.ex
  refine D.cal hm (fnv_def D sc (fun vs H Q E h => ?_) fun A outer s H vs Q E hr h => ?_)
  · obtain ⟨v, rfl, _⟩ := h
    rfl
  · obtain ⟨v, rfl, hv, _, q1, q2⟩ := h
    refine ⟨_, (pss_cons (ps_expr (pe_v (E := fun _ => E) c_check_many hr (by decide) rfl (fun σ => passAt (takes_of (E := E) rfl rfl rfl rfl) σ) (pa_cons (pv 0) pa_nil)))
      (pss_one (ps_ret (pe_vn c_filled hr (by decide) rfl (pa_cons (pv 0) (pa_cons (pe_glob (v := .ref _) rfl hg_one_side rfl) pa_nil)))))), ?_⟩
    refine ⟨v, rfl, v, rfl, hv, fun e => ?_, q2⟩
    obtain ⟨n, rfl, h1, h2⟩ := inR_natL (by decide) e
    refine ⟨_, rfl, n, g, sideF, _, rfl, by omega, F.mono (by decide), fun _ _ => .inl ⟨oc, od, fd, sl, lk⟩, fun o a b H1 Q' ho ha hb e1 k => ⟨o, a, b, rfl, k⟩, fun v' H' ex hd => q1 n rfl (by omega) (by omega) v' H' ex hd⟩
theorem v_once (T : Txt K mg base TT CL) (c_check_many : CalV P w K mg base 3 "check_many" (spCheckMany CL)) (c_filled : CalV P w K mg base 4 "filled" (spFilled P w K mg base TT)) (c_alike_once : CalV P w K mg base 2 "alike_once" (spF TT onceF)) : CalV P w K mg base 5 "once" (spRule TT CL False fun _ => onceF) := by
  obtain ⟨f, cd, D, hm⟩ := T.d_once
  have sc := sc_once
  let N : List Str := n_once
  obtain ⟨g, F, hg_alike_once, oc, od, fd, sl, lk⟩ := c_alike_once.ex
  refine D.cal hm (fnv_def D sc (fun vs H Q E h => ?_) fun A outer s H vs Q E hr h => ?_)
  · obtain ⟨v, rfl, _⟩ := h
    rfl
  · obtain ⟨v, rfl, hv, _, q1, q2⟩ := h
    refine ⟨_, (pss_cons (ps_expr (pe_v (E := fun _ => E) c_check_many hr (by decide) rfl (fun σ => passAt (takes_of (E := E) rfl rfl rfl rfl) σ) (pa_cons (pv 0) pa_nil)))
      (pss_one (ps_ret (pe_vn c_filled hr (by decide) rfl (pa_cons (pv 0) (pa_cons (pe_glob (v := .ref _) rfl hg_alike_once rfl) pa_nil)))))), ?_⟩
    refine ⟨v, rfl, v, rfl, hv, fun e => ?_, q2⟩
    obtain ⟨n, rfl, h1, h2⟩ := inR_natL (by decide) e
    refine ⟨_, rfl, n, g, onceF, _, rfl, by omega, F.mono (by decide), fun _ _ => .inl ⟨oc, od, fd, sl, lk⟩, fun o a b H1 Q' ho ha hb e1 k => ⟨o, a, b, rfl, k⟩, fun v' H' ex hd => q1 n rfl (by omega) (by omega) v' H' ex hd⟩
theorem v_greater (T : Txt K mg base TT CL) (c_check_many : CalV P w K mg base 3 "check_many" (spCheckMany CL)) (c_filled : CalV P w K mg base 4 "filled" (spFilled P w K mg base TT)) (c_greater_side : CalV P w K mg base 3 "greater_side" (spF TT greatF)) : CalV P w K mg base 5 "greater" (spRule TT CL False fun _ => greatF) := by
  obtain ⟨f, cd, D, hm⟩ := T.d_greater
  have sc := sc_greater
  let N : List Str := n_greater
  obtain ⟨g, F, hg_greater_side, oc, od, fd, sl, lk⟩ := c_greater_side.ex
  refine D.cal hm (fnv_def D sc (fun vs H Q E h => ?_) fun A outer s H vs Q E hr h => ?_)
  · obtain ⟨v, rfl, _⟩ := h
    rfl
  · obtain ⟨v, rfl, hv, _, q1, q2⟩ := h
    refine ⟨_, (pss_cons (ps_expr (pe_v (E := fun _ => E) c_check_many hr (by decide) rfl (fun σ => passAt (takes_of (E := E) rfl rfl rfl rfl) σ) (pa_cons (pv 0) pa_nil)))
      (pss_one (ps_ret (pe_vn c_filled hr (by decide) rfl (pa_cons (pv 0) (pa_cons (pe_glob (v := .ref _) rfl hg_greater_side rfl) pa_nil)))))), ?_⟩
    refine ⟨v, rfl, v, rfl, hv, fun e => ?_, q2⟩
    obtain ⟨n, rfl, h1, h2⟩ := inR_natL (by decide) e
    refine ⟨_, rfl, n, g, greatF, _, rfl, by omega, F.mono (by decide), fun _ _ => .inl ⟨oc, od, fd, sl, lk⟩, fun o a b H1 Q' ho ha hb e1 k => ⟨o, a, b, rfl, k⟩, fun v' H' ex hd => q1 n rfl (by omega) (by omega) v' H' ex hd⟩
/-- what turn's lambda tells -/
def spTurnL (TT : List (Addr × Str)) : List (Option V) → Sp := fun ws vs H Q _ => ∃ o a b n : Nat, vs = [.int o, .int a, .int b] ∧ ws = [some (.int n)] ∧ 0 < n ∧ ∀ H', Ex TT [] H H' → Q (.int (((a : Int) - o + b) % n)) H'
theorem v_turn (T : Txt K mg base TT CL) (c_check_many : CalV P w K mg base 3 "check_many" (spCheckMany CL)) (c_filled : CalV P w K mg base 4 "filled" (spFilled P w K mg base TT)) : CalV P w K mg base 5 "turn" (spRule TT CL True turnF) := by
  obtain ⟨f, cc, PP, D, hm, TB, hPT, hPU⟩ := T.d_turn
  have sc := sc_turn
  let N : List Str := n_turn
  refine D.cal hm (fnv_def D sc (fun vs H Q E h => ?_) fun A outer s H vs Q E hr h => ?_)
  · obtain ⟨v, rfl, _⟩ := h
    rfl
  · obtain ⟨v, rfl, hv, htb, q1, q2⟩ := h
    refine ⟨_, (pss_cons (ps_expr (pe_v (E := fun _ => E) c_check_many hr (by decide) rfl (fun σ => passAt (takes_of (E := E) rfl rfl rfl rfl) σ) (pa_cons (pv 0) pa_nil)))
      (pss_one (ps_ret (pe_vc c_filled hr (by decide) rfl (fun _ => rfl) (pa_cons (pv 0) (pa_cons (pe_lam TB rfl (q_turn ▸ hPT) (fun p hp e => (hPU p hp e).trans q_turn.symm) rfl (by show ∀ y ∈ (_ : List (Str × NameKind)), y.2 = NameKind.free → List.lookup y.1 (defScope s_turn).names = some .cell ∨ List.lookup y.1 (defScope s_turn).names = some .free; decide +kernel)) pa_nil)))))), ?_⟩
    refine ⟨v, rfl, v, rfl, hv, fun e => ?_, q2⟩
    obtain ⟨n, rfl, h1, h2⟩ := inR_natL (by decide) e
    refine ⟨_, rfl, htb trivial, fun g c' pm ctv H1 eN T1 n1 g1 k1 nc => fun Hc C => ?_⟩
    have F := fnv_lamAt (P := P) (w := w) (K := K) (mg := mg) (base := base) ["o", "a", "b", "n"] ["o", "a", "b"] ["n"] 2 (spTurnL TT) g1 (NdefX.nscope_by (by decide +kernel)) (fun us hl => by
        match us, hl with
        | [x, y, z], _ => rfl) (fun ws vs H Q E h => by
        obtain ⟨o, a, b, n, rfl, _⟩ := h
        rfl) nc (fun A outer s H vs ws Q E hr C h => by
        obtain ⟨o, a, b, n, rfl, rfl, hn, q⟩ := h
        refine ⟨_, (pe_op op_mod (pe_op op_add (pe_op op_sub (pv 1) (pv 0)) (pv 2)) (pv 3)), ?_⟩
        refine ⟨_, rfl, _, rfl, a, o, rfl, rfl, _, rfl, _, b, rfl, rfl, _, rfl, _, n, rfl, rfl, by omega, fun n0 => q _ (Ex.cells C (Ex.refl _) n0)⟩)
    refine ⟨n, g, turnF n, _, rfl, by omega, F, ?_, ?_, ?_⟩
    · exact fun H2 ex => .inr ⟨_, _, _, _, _, ex.at_frz (by simp) (C.same g1)⟩
    · intro o a b H2 Q' ho ha hb ex k
      refine ⟨ex.at_frz (by simp) (C.same g1), ex.keep _ _ (by simp) (C.same k1) LamX.codeO_ne, [some (.int n)], ?_, o, a, b, n, rfl, rfl, by omega, k⟩
      refine CellsT.ex (C.cells (js := [0]) ?_ ?_ ?_ rfl) ex
      · show ∀ y ∈ (_ : List (Str × NameKind)), y.2 = NameKind.free → List.lookup y.1 (defScope s_turn).names = some .cell ∨ List.lookup y.1 (defScope s_turn).names = some .free
        decide +kernel
      · intro y hy e
        have z : y.1 = "n" := by
          revert y
          show ∀ y ∈ (_ : List (Str × NameKind)), y.2 = NameKind.free → y.1 = "n"
          decide +kernel
        rw [z]
        obtain ⟨c, hc, _⟩ := C.slot 0 "n" rfl (.inl rfl)
        exact ⟨c, hc⟩
      · decide +kernel
    · intro v' H' ex hd
      exact q1 n rfl (by omega) (by omega) v' _ ((Ex.ofExt eN T1).trans (Ex.uncov C (by simp) ex)) (hd.mono (TX.unc_td C ex))
end
end Ed

set_option Elab.async false
set_option linter.all false
set_option maxRecDepth 100000
set_option maxHeartbeats 4000000
namespace Ed
open PySem PySem.Spec PyProof.Rows L2
/-! ### the law's own tables -/
/-- the rule that a word names -/
inductive RuleOf : Str → (Nat → Nat → Nat → Nat → Option Int) → Prop
  | turn : RuleOf "turn" turnF
  | sides : RuleOf "sides" fun _ => sideF
  | once : RuleOf "once" fun _ => onceF
  | greater : RuleOf "greater" fun _ => greatF
theorem sd_t {x : Str} : decide (V.str x = V.str x) = true := by simp
theorem sd_f {x y : Str} (h : (x == y) = false) : decide (V.str x = V.str y) = false := decide_eq_false fun z => by
  rw [V.str.inj z] at h
  simp at h
theorem nat_ne {a b : Nat} : (!decide (V.int (a : Int) = V.int (b : Int))) = decide (a ≠ b) := by
  rw [nat_eq]
  simp
theorem max_nat {a b : Nat} : V.int (if (a : Int) < b then (b : Int) else a) = V.int (if (b : Int) > a then (b : Int) else a) := rfl
theorem rule_sides_once {a b : Nat} (h : ¬ a = b) (o : Nat) : onceF o a b = sideF o a b := if_neg h
/-- a rule that keeps a side: what it tells, in the law's order -/
inductive Keeps (o a b : Nat) : Str → Option Int → Prop
  | one {x : Str} : a = o → Keeps o a b x (some b)
  | two {x : Str} : a ≠ o → b = o → Keeps o a b x (some a)
  | sides : a ≠ o → b ≠ o → Keeps o a b "sides" none
  | once0 : a ≠ o → b ≠ o → a ≠ b → Keeps o a b "once" none
  | once1 : a ≠ o → b ≠ o → a = b → Keeps o a b "once" (some a)
  | great0 : a ≠ o → b ≠ o → a ≠ b → Keeps o a b "greater" (some (if (b : Int) > a then (b : Int) else a))
  | great1 : a ≠ o → b ≠ o → a = b → Keeps o a b "greater" (some a)
theorem side_keeps {o a b : Nat} : Keeps o a b "sides" (sideF o a b) := by
  unfold sideF
  by_cases c1 : a = o
  · rw [if_pos c1]
    exact .one c1
  · rw [if_neg c1]
    by_cases c2 : b = o
    · rw [if_pos c2]
      exact .two c1 c2
    · rw [if_neg c2]
      exact .sides c1 c2
theorem once_keeps {o a b : Nat} : Keeps o a b "once" (onceF o a b) := by
  unfold onceF sideF
  by_cases c1 : a = o
  · by_cases c : a = b
    · rw [if_pos c]
      subst c
      exact .one c1
    · rw [if_neg c, if_pos c1]
      exact .one c1
  · by_cases c2 : b = o
    · by_cases c : a = b
      · exact absurd (c.trans c2) c1
      · rw [if_neg c, if_neg c1, if_pos c2]
        exact .two c1 c2
    · by_cases c : a = b
      · rw [if_pos c]
        exact .once1 c1 c2 c
      · rw [if_neg c, if_neg c1, if_neg c2]
        exact .once0 c1 c2 c
theorem great_keeps {o a b : Nat} : Keeps o a b "greater" (greatF o a b) := by
  unfold greatF onceF sideF
  by_cases c1 : a = o
  · by_cases c : a = b
    · rw [if_pos c]
      subst c
      exact .one c1
    · rw [if_neg c, if_pos c1]
      exact .one c1
  · by_cases c2 : b = o
    · by_cases c : a = b
      · exact absurd (c.trans c2) c1
      · rw [if_neg c, if_neg c1, if_pos c2]
        exact .two c1 c2
    · by_cases c : a = b
      · rw [if_pos c]
        exact .great1 c1 c2 c
      · rw [if_neg c, if_neg c1, if_neg c2]
        exact .great0 c1 c2 c
theorem RuleOf.or_keeps {x : Str} {f : Nat → Nat → Nat → Nat → Option Int} (h : RuleOf x f) : (x = "turn" ∧ f = turnF) ∨ ((x == "turn") = false ∧ ∀ n o a b, Keeps o a b x (f n o a b)) := by
  cases h with
  | turn => exact .inl ⟨rfl, rfl⟩
  | sides => exact .inr ⟨rfl, fun _ _ _ _ => side_keeps⟩
  | once => exact .inr ⟨rfl, fun _ _ _ _ => once_keeps⟩
  | greater => exact .inr ⟨rfl, fun _ _ _ _ => great_keeps⟩
section
variable {P : Program} {w : World} {K : PySem.W.Frag} {mg : Str → Option Value} {base : Heap} {TT : List (Addr × Str)} {CL : Cl}
def spOwnE : Sp := fun vs H Q _ => ∃ (n o a b : Nat) (x : Str) (f : Nat → Nat → Nat → Nat → Option Int), vs = [.int n, .str x, .int o, .int a, .int b] ∧ 0 < n ∧ RuleOf x f ∧ Q (entV (f n o a b)) H
theorem v__law_own_entry (T : Txt K mg base TT CL) : CalV P w K mg base 1 "_law_own_entry" spOwnE := by
  obtain ⟨f, cd, D, hm⟩ := T.d__law_own_entry
  have sc := sc__law_own_entry
  let N : List Str := n__law_own_entry
  refine D.cal hm (fnv_def D sc (fun vs H Q E h => ?_) fun A outer s H vs Q E hr h => ?_)
  · obtain ⟨n, o, a, b, x, f, rfl, _⟩ := h
    rfl
  · obtain ⟨n, o, a, b, x, f, rfl, hn, hx, q⟩ := h
    refine ⟨_, (pss_cons (ps_if (pt_cmpR op_eq (pv 1) pe_str (nomark _)) (pss_one (ps_ret (pe_op op_mod (pe_callTy call_int1 (by rfl) T.n_int (by decide +kernel) (pa_cons (pe_op op_add (pe_op op_sub (pv 3) (pv 2)) (pv 4)) pa_nil)) (pv 0)))) pss_nil)
      (pss_cons (ps_if (PW.pt (pw_or (pt_cmpR op_eq (pv 3) (pv 2) (nomark _)) (pw_or1 (pt_cmpR op_eq (pv 4) (pv 2) (nomark _))))) (pss_one (ps_ret (pe_ifExp (pt_cmpR op_eq (pv 3) (pv 2) (nomark _)) (pv 4) (pv 3)))) pss_nil)
      (pss_cons (ps_if (PW.pt (pw_or (pt_cmpR op_eq (pv 1) pe_str (nomark _)) (pw_or1 (PW.pt (pw_and (pt_cmpR op_eq (pv 1) pe_str (nomark _)) (pw_and1 (pt_cmpR op_ne (pv 3) (pv 4) (nomark _)))))))) (pss_one (ps_ret pe_non)) pss_nil)
      (pss_one (ps_ret (pe_ifExp (pt_cmpR op_eq (pv 3) (pv 4) (nomark _)) (pv 3) (pe_callB (call_max2 rfl) (by rfl) T.n_max (by decide +kernel) (pa_cons (pv 3) (pa_cons (pv 4) pa_nil))))))))), ?_⟩
    rcases hx.or_keeps with ⟨rfl, rfl⟩ | ⟨nt, kp⟩
    · refine ⟨_, rfl, rfl, _, rfl, ?_⟩
      rw [sd_t]
      exact iteT ⟨_, rfl, _, rfl, a, o, rfl, rfl, _, rfl, _, b, rfl, rfl, .inl ⟨_, rfl, _, rfl, _, n, rfl, rfl, by omega, q⟩⟩
    · refine ⟨_, rfl, rfl, _, rfl, ?_⟩
      rw [sd_f nt]
      refine iteF ⟨_, rfl, _, rfl, rfl, _, rfl, ?_⟩
      rw [nat_eq]
      have kp := kp n o a b
      generalize f n o a b = r at kp q
      cases kp with
      | one c1 =>
        rw [decide_eq_true c1]
        refine iteT (iteT ⟨_, rfl, _, rfl, rfl, _, rfl, ?_⟩)
        rw [nat_eq, decide_eq_true c1]
        exact iteT ⟨_, rfl, q⟩
      | two c1 c2 =>
        rw [decide_eq_false c1]
        refine iteF ⟨_, rfl, _, rfl, rfl, _, rfl, ?_⟩
        rw [nat_eq, decide_eq_true c2]
        refine iteT ⟨_, rfl, _, rfl, rfl, _, rfl, ?_⟩
        rw [nat_eq, decide_eq_false c1]
        exact iteF ⟨_, rfl, q⟩
      | sides c1 c2 =>
        rw [decide_eq_false c1]
        refine iteF ⟨_, rfl, _, rfl, rfl, _, rfl, ?_⟩
        rw [nat_eq, decide_eq_false c2]
        refine iteF ⟨_, rfl, rfl, _, rfl, ?_⟩
        rw [sd_t]
        exact iteT (iteT q)
      | once0 c1 c2 c3 =>
        rw [decide_eq_false c1]
        refine iteF ⟨_, rfl, _, rfl, rfl, _, rfl, ?_⟩
        rw [nat_eq, decide_eq_false c2]
        refine iteF ⟨_, rfl, rfl, _, rfl, ?_⟩
        rw [sd_f rfl]
        refine iteF ⟨_, rfl, rfl, _, rfl, ?_⟩
        rw [sd_t]
        refine iteT ⟨_, rfl, _, rfl, rfl, _, rfl, ?_⟩
        rw [nat_ne, decide_eq_true c3]
        exact iteT q
      | once1 c1 c2 c3 =>
        rw [decide_eq_false c1]
        refine iteF ⟨_, rfl, _, rfl, rfl, _, rfl, ?_⟩
        rw [nat_eq, decide_eq_false c2]
        refine iteF ⟨_, rfl, rfl, _, rfl, ?_⟩
        rw [sd_f rfl]
        refine iteF ⟨_, rfl, rfl, _, rfl, ?_⟩
        rw [sd_t]
        refine iteT ⟨_, rfl, _, rfl, rfl, _, rfl, ?_⟩
        rw [nat_ne, decide_eq_false fun z => z c3]
        refine iteF ⟨_, rfl, _, rfl, rfl, _, rfl, ?_⟩
        rw [nat_eq, decide_eq_true c3]
        exact iteT ⟨_, rfl, q⟩
      | great0 c1 c2 c3 =>
        rw [decide_eq_false c1]
        refine iteF ⟨_, rfl, _, rfl, rfl, _, rfl, ?_⟩
        rw [nat_eq, decide_eq_false c2]
        refine iteF ⟨_, rfl, rfl, _, rfl, ?_⟩
        rw [sd_f rfl]
        refine iteF ⟨_, rfl, rfl, _, rfl, ?_⟩
        rw [sd_f rfl]
        refine iteF (iteF ⟨_, rfl, _, rfl, rfl, _, rfl, ?_⟩)
        rw [nat_eq, decide_eq_false c3]
        exact iteF ⟨_, rfl, _, rfl, _, _, rfl, q⟩
      | great1 c1 c2 c3 =>
        rw [decide_eq_false c1]
        refine iteF ⟨_, rfl, _, rfl, rfl, _, rfl, ?_⟩
        rw [nat_eq, decide_eq_false c2]
        refine iteF ⟨_, rfl, rfl, _, rfl, ?_⟩
        rw [sd_f rfl]
        refine iteF ⟨_, rfl, rfl, _, rfl, ?_⟩
        rw [sd_f rfl]
        refine iteF (iteF ⟨_, rfl, _, rfl, rfl, _, rfl, ?_⟩)
        rw [nat_eq, decide_eq_true c3]
        exact iteT ⟨_, rfl, q⟩
end
end Ed

set_option Elab.async false
set_option linter.all false
set_option maxRecDepth 100000
set_option maxHeartbeats 4000000
namespace Ed
open PySem PySem.Spec PyProof.Rows L2
section
variable {P : Program} {w : World} {K : PySem.W.Frag} {mg : Str → Option Value} {base : Heap} {TT : List (Addr × Str)} {CL : Cl}
def spOwnT (TT : List (Addr × Str)) : Sp := fun vs H Q _ => ∃ (n : Nat) (x : Str) (f : Nat → Nat → Nat → Nat → Option Int), vs = [.int n, .str x] ∧ 1 ≤ n ∧ n ≤ 1000 ∧ RuleOf x f ∧ ∀ v' H', Ex TT [] H H' → Td H' v' (cubeD n (f n)) → Q v' H'
theorem v__law_own_table (T : Txt K mg base TT CL) (c__law_own_entry : CalV P w K mg base 1 "_law_own_entry" spOwnE) : CalV P w K mg base 2 "_law_own_table" (spOwnT TT) := by
  obtain ⟨f, cd, D, hm⟩ := T.d__law_own_table
  have sc := sc__law_own_table
  let N : List Str := n__law_own_table
  refine D.cal hm (fnv_def D sc (fun vs H Q E h => ?_) fun A outer s H vs Q E hr h => ?_)
  · obtain ⟨n, x, f, rfl, _⟩ := h
    rfl
  · obtain ⟨n, x, f, rfl, h1, h2, hx, q⟩ := h
    refine ⟨_, (pss_cons (ps_asg (pe_lst pa_nil) (pg_name (i := 2) sc.nd rfl (by first | exact Or.inl rfl | exact Or.inr rfl)))
      (pss_cons (ps_for (passes_of rfl) rfl (pi_range1 (by rfl) T.n_range (pa_cons (pv 0) pa_nil)) (pg_name (i := 3) sc.nd rfl (by first | exact Or.inl rfl | exact Or.inr rfl)) (pss_cons (ps_asg (pe_lst pa_nil) (pg_name (i := 4) sc.nd rfl (by first | exact Or.inl rfl | exact Or.inr rfl)))
      (pss_cons (ps_for (passes_of rfl) rfl (pi_range1 (by rfl) T.n_range (pa_cons (pv 0) pa_nil)) (pg_name (i := 5) sc.nd rfl (by first | exact Or.inl rfl | exact Or.inr rfl)) (pss_one (ps_expr (pe_bm PySem.F.plainAttrs_list PySem.F.slot_list_append PySem.F.type_list_append mt_append (pv 4) (pa_cons (pe_tupleK (K := K) rfl rfl T.n_tuple (pe_lc (own := [("b", 6)]) rfl sc.nd (pi_range1 (by rfl) T.n_range (pa_cons (pv 0) pa_nil)) (blkOk_by (N := n__law_own_table) (sc := defScope s__law_own_table) (own := [("b", 6)]) (by first | decide +kernel | rfl)) (fun _ _ _ _ _ => (pg_name (i := 6) sc.nd rfl (by first | exact Or.inl rfl | exact Or.inr rfl))) (fun _ _ _ _ _ => pts_nil) (fun _ _ _ _ _ => (pe_vn c__law_own_entry hr (by decide) rfl (pa_cons (pv 0) (pa_cons (pv 1) (pa_cons (pv 3) (pa_cons (pv 5) (pa_cons (pv 6) pa_nil))))))))) pa_nil)))))
      (pss_one (ps_expr (pe_bm PySem.F.plainAttrs_list PySem.F.slot_list_append PySem.F.type_list_append mt_append (pv 2) (pa_cons (pe_tupleK (K := K) rfl rfl T.n_tuple (pv 4)) pa_nil)))))))
      (pss_one (ps_ret (pe_tupleK (K := K) rfl rfl T.n_tuple (pv 2)))))), ?_⟩
    have sz : n < sizeLine := Nat.lt_of_le_of_lt h2 (by decide)
    refine ⟨Nat.zero_le _, fun F hF => ?_⟩
    refine ⟨_, rfl, _, rfl, by omega, by omega, ?_⟩
    refine for_range (lo := 0) (n := n) (fun i σ H' => ∃ v3 v4 v5 v6, σ = [some (.int n), some (.str x), some (.ref F), v3, v4, v5, v6] ∧ LcS TT [] H F ((List.range i).map fun o => sideD n (f n o)) H') ⟨_, _, _, _, rfl, Ex.upd_new hF, Srcs.nil, [], upd_same, .nil⟩ ?_ ?_
    · rintro o σ H1 ho ⟨v3, v4, v5, v6, rfl, L1⟩
      simp only [Int.zero_add]
      refine ⟨Nat.zero_le _, fun R hR => ?_⟩
      refine ⟨_, rfl, _, rfl, by omega, by omega, ?_⟩
      refine for_range (lo := 0) (n := n) (fun j σ H' => ∃ v5 v6, σ = [some (.int n), some (.str x), some (.ref F), some (.int o), some (.ref R), v5, v6] ∧ LcS TT [] H1 R ((List.range j).map fun a => rowD n (f n o a)) H') ⟨_, _, rfl, Ex.upd_new hR, Srcs.nil, [], upd_same, .nil⟩ ?_ ?_
      · rintro a σ H2 ha ⟨v5, v6, rfl, L2⟩
        simp only [Int.zero_add]
        obtain ⟨acc0, hacc0, _⟩ := L2.at_
        refine ⟨_, rfl, .inl ⟨rfl, acc0, .inl (.inl hacc0)⟩, _, rfl, _, rfl, by omega, by omega, ?_⟩
        intro D2 hD2
        refine lc_rangeM (T := TT) (S := []) (H0 := H2) (lo := 0) (n := n) (fun b => entD (f n o a b)) (Ex.refl _) Srcs.nil hD2 sz (fun b H3 Q3 hb ex3 s3 k3 => ⟨rfl, ?_⟩) fun H3 acc ex3 _ hD hacc => .inl ⟨D2, acc, rfl, .inl (.inl hD), fun r ob hr0 hob => ?_⟩
        · simp only [Int.zero_add]
          exact ⟨_, rfl, _, rfl, _, rfl, _, rfl, _, rfl, n, o, a, b, x, f, rfl, h1, hx, k3 _ _ (Ex.refl _) Srcs.nil (ent_td _)⟩
        · obtain ⟨acc2, g1, g2, L3⟩ := L2.more (y := .ref r) (Fresh.of hR) (by simp) (ex3.new hr0) Srcs.nil (.tup (Tp.made hob) (hacc.mono (TX.new hr0))) (by rw [List.length_map, List.length_range]; exact Nat.lt_trans ha sz)
          refine ⟨R, acc2, _, rfl, rfl, g1, g2, _, _, rfl, ?_⟩
          rw [map_range_snoc]
          exact L3
      · rintro σ H2 ⟨v5, v6, rfl, L2⟩
        obtain ⟨acc, hacc, hall⟩ := L2.at_
        obtain ⟨acc0, hacc0, _⟩ := L1.at_
        refine ⟨_, rfl, .inl ⟨rfl, acc0, .inl (.inl (L2.ex.at_lst (by simp) hacc0))⟩, _, rfl, .inl ⟨R, acc, rfl, .inl (.inl hacc), fun r ob hr0 hob => ?_⟩⟩
        obtain ⟨acc2, g1, g2, L3⟩ := L1.more (y := .ref r) (Fresh.of hF) (by simp) (L2.ex.new hr0) Srcs.nil (.tup (Tp.made hob) (hall.mono (TX.new hr0))) (by rw [List.length_map, List.length_range]; exact Nat.lt_trans ho sz)
        refine ⟨F, acc2, _, rfl, rfl, g1, g2, _, _, _, _, rfl, ?_⟩
        rw [map_range_snoc]
        exact L3
    · rintro σ H1 ⟨v3, v4, v5, v6, rfl, L1⟩
      obtain ⟨acc, hacc, hall⟩ := L1.at_
      exact ⟨_, rfl, .inl ⟨F, acc, rfl, .inl (.inl hacc), fun r ob hr0 hob => q _ _ (L1.ex.new hr0) (.tup (Tp.made hob) (hall.mono (TX.new hr0)))⟩⟩
def spTold (TT : List (Addr × Str)) (c : Cl) : Sp := fun vs H Q E => ∃ (v : V) (x : Str) (f : Nat → Nat → Nat → Nat → Option Int), vs = [v, .str x] ∧ Kn H v ∧ RuleOf x f ∧ LamX.Tabs TT H ∧
  (∀ n : Nat, v = .int n → 1 ≤ n → n ≤ 12 → ∀ v' H', Ex TT [] H H' → Td H' v' (cubeD n (f n)) → Q v' H') ∧ (inR v 1 12 = false → Raised H c.BadMany v E)
theorem v__law_told_by (T : Txt K mg base TT CL) (c_turn : CalV P w K mg base 5 "turn" (spRule TT CL True turnF)) (c_sides : CalV P w K mg base 5 "sides" (spRule TT CL False fun _ => sideF)) (c_once : CalV P w K mg base 5 "once" (spRule TT CL False fun _ => onceF)) (c_greater : CalV P w K mg base 5 "greater" (spRule TT CL False fun _ => greatF)) : CalV P w K mg base 6 "_law_told_by" (spTold TT CL) := by
  obtain ⟨f, cd, D, hm⟩ := T.d__law_told_by
  have sc := sc__law_told_by
  let N : List Str := n__law_told_by
  refine D.cal hm (fnv_def D sc (fun vs H Q E h => ?_) fun A outer s H vs Q E hr h => ?_)
  · obtain ⟨v, x, f, rfl, _⟩ := h
    rfl
  · obtain ⟨v, x, f, rfl, hv, hx, ht, q1, q2⟩ := h
    refine ⟨_, (pss_cons (ps_if (pt_cmpR op_eq (pv 1) pe_str (nomark _)) (pss_one (ps_ret (pe_v (E := fun _ => E) c_turn hr (by decide) rfl (fun σ => passAt (takes_of (E := E) rfl rfl rfl rfl) σ) (pa_cons (pv 0) pa_nil)))) pss_nil)
      (pss_cons (ps_if (pt_cmpR op_eq (pv 1) pe_str (nomark _)) (pss_one (ps_ret (pe_v (E := fun _ => E) c_sides hr (by decide) rfl (fun σ => passAt (takes_of (E := E) rfl rfl rfl rfl) σ) (pa_cons (pv 0) pa_nil)))) pss_nil)
      (pss_one (ps_ret (pe_ifExp (pt_cmpR op_eq (pv 1) pe_str (nomark _)) (pe_v (E := fun _ => E) c_once hr (by decide) rfl (fun σ => passAt (takes_of (E := E) rfl rfl rfl rfl) σ) (pa_cons (pv 0) pa_nil)) (pe_v (E := fun _ => E) c_greater hr (by decide) rfl (fun σ => passAt (takes_of (E := E) rfl rfl rfl rfl) σ) (pa_cons (pv 0) pa_nil))))))), ?_⟩
    cases hx with
    | turn =>
      refine ⟨_, rfl, rfl, _, rfl, ?_⟩
      rw [sd_t]
      exact iteT ⟨_, rfl, v, rfl, hv, fun _ => ht, q1, q2⟩
    | sides =>
      refine ⟨_, rfl, rfl, _, rfl, ?_⟩
      rw [sd_f rfl]
      refine iteF ⟨_, rfl, rfl, _, rfl, ?_⟩
      rw [sd_t]
      exact iteT ⟨_, rfl, v, rfl, hv, fun h => h.elim, q1, q2⟩
    | once =>
      refine ⟨_, rfl, rfl, _, rfl, ?_⟩
      rw [sd_f rfl]
      refine iteF ⟨_, rfl, rfl, _, rfl, ?_⟩
      rw [sd_f rfl]
      refine iteF ⟨_, rfl, rfl, _, rfl, ?_⟩
      rw [sd_t]
      exact iteT ⟨_, rfl, v, rfl, hv, fun h => h.elim, q1, q2⟩
    | greater =>
      refine ⟨_, rfl, rfl, _, rfl, ?_⟩
      rw [sd_f rfl]
      refine iteF ⟨_, rfl, rfl, _, rfl, ?_⟩
      rw [sd_f rfl]
      refine iteF ⟨_, rfl, rfl, _, rfl, ?_⟩
      rw [sd_f rfl]
      exact iteF ⟨_, rfl, v, rfl, hv, fun h => h.elim, q1, q2⟩
end
end Ed

set_option Elab.async false
set_option linter.all false
set_option maxRecDepth 100000
set_option maxHeartbeats 4000000
namespace Ed
open PySem PySem.Spec PyProof.Rows L2
/-! ### a good table is one -/
def entOk (n : Nat) (x : PyData) : Prop := x = .none ∨ ∃ i, x = .int i ∧ 0 ≤ i ∧ i < (n : Int)
def rowOk (n : Nat) (d : PyData) : Prop := ∃ bs, d = .tuple bs ∧ bs.length = n ∧ ∀ x ∈ bs, entOk n x
def sidOk (n : Nat) (d : PyData) : Prop := ∃ as, d = .tuple as ∧ as.length = n ∧ ∀ x ∈ as, rowOk n x
theorem badE_good {n : Nat} {x : PyData} (h : entOk n x) : badE n x = false := by
  rcases h with rfl | ⟨i, rfl, h1, h2⟩
  · rfl
  · show (decide (i < 0) || decide ((n : Int) ≤ i)) = false
    rw [decide_eq_false (by omega), decide_eq_false (by omega)]
    rfl
theorem firstBad_good {n : Nat} : ∀ {bs : List PyData}, (∀ x ∈ bs, entOk n x) → firstBad n bs = none
  | [], _ => rfl
  | e :: bs, h => by
    show (if badE n e then some 0 else (firstBad n bs).map (· + 1)) = none
    rw [badE_good (h e List.mem_cons_self), firstBad_good fun x hx => h x (List.mem_cons_of_mem _ hx)]
    rfl
theorem scanIn_good {n o : Nat} : ∀ {as : List PyData} {a : Nat}, (∀ x ∈ as, rowOk n x) → scanIn (firstBad n) o as a = none
  | [], _, _ => rfl
  | e :: as, a, h => by
    obtain ⟨bs, rfl, _, hb⟩ := h e List.mem_cons_self
    show (match firstBad n bs with | some b => some (PyData.tuple [.int o, .int a, .int b]) | none => scanIn (firstBad n) o as (a + 1)) = none
    rw [firstBad_good hb]
    exact scanIn_good fun x hx => h x (List.mem_cons_of_mem _ hx)
theorem scanOver_good {n : Nat} : ∀ {os : List PyData} {o : Nat}, (∀ x ∈ os, sidOk n x) → scanOver (firstBad n) os o = none
  | [], _, _ => rfl
  | e :: os, o, h => by
    obtain ⟨as, rfl, _, hb⟩ := h e List.mem_cons_self
    show (match scanIn (firstBad n) o as 0 with | some d => some d | none => scanOver (firstBad n) os (o + 1)) = none
    rw [scanIn_good hb]
    exact scanOver_good fun x hx => h x (List.mem_cons_of_mem _ hx)
theorem right_of {n : Nat} {os : List PyData} (hl : os.length = n) (h1 : 1 ≤ n) (h2 : n ≤ 12) (h : ∀ x ∈ os, sidOk n x) : wrongD (.tuple os) = .none := by
  have lb : ∀ {ds : List PyData}, ds.length = n → Ed.lenB n n (.tuple ds) = true := fun {ds} e => by
    show (decide ((n : Int) ≤ (ds.length : Int)) && decide ((ds.length : Int) ≤ n)) = true
    rw [decide_eq_true (by omega), decide_eq_true (by omega)]
    rfl
  have e1 : shapedD (.tuple os) = true := by
    show (Ed.lenB 1 12 (.tuple os) && os.all (baseOk os.length)) = true
    have : Ed.lenB 1 12 (.tuple os) = true := by
      show (decide ((1 : Int) ≤ (os.length : Int)) && decide ((os.length : Int) ≤ 12)) = true
      rw [decide_eq_true (by omega), decide_eq_true (by omega)]
      rfl
    rw [this, hl]
    show os.all (baseOk n) = true
    refine List.all_eq_true.mpr fun x hx => ?_
    obtain ⟨as, rfl, ha, hb⟩ := h x hx
    show (Ed.lenB n n (.tuple as) && as.all (sideOk n)) = true
    rw [lb ha]
    refine List.all_eq_true.mpr fun y hy => ?_
    obtain ⟨bs, rfl, hc, _⟩ := hb y hy
    exact lb hc
  unfold wrongD
  rw [e1]
  show (scanOver (firstBad os.length) os 0).getD .none = .none
  rw [hl, scanOver_good h]
  rfl
theorem GoodT.sid {d : PyData} {os : List PyData} (G : GoodT d os) : ∀ x ∈ os, sidOk os.length x := fun x hx => by
  obtain ⟨as, rfl, ha, hb⟩ := G.base x hx
  refine ⟨as, rfl, ha, fun y hy => ?_⟩
  obtain ⟨bs, rfl, hc, hd⟩ := hb y hy
  exact ⟨bs, rfl, hc, hd⟩
/-- what the rules tell is below n -/
theorem rule_ok {x : Str} {f : Nat → Nat → Nat → Nat → Option Int} (h : RuleOf x f) {n o a b : Nat} (ho : o < n) (ha : a < n) (hb : b < n) : entOk n (entD (f n o a b)) := by
  rcases h.or_keeps with ⟨rfl, rfl⟩ | ⟨_, kp⟩
  · have z := Int.emod_nonneg ((a : Int) - o + b) (b := (n : Int)) (by omega)
    have y := Int.emod_lt_of_pos ((a : Int) - o + b) (b := (n : Int)) (by omega)
    exact .inr ⟨_, rfl, z, y⟩
  · have kp := kp n o a b
    generalize f n o a b = r at kp
    cases kp with
    | one => exact .inr ⟨_, rfl, by omega, by omega⟩
    | two => exact .inr ⟨_, rfl, by omega, by omega⟩
    | sides => exact .inl rfl
    | once0 => exact .inl rfl
    | once1 => exact .inr ⟨_, rfl, by omega, by omega⟩
    | great0 =>
      refine .inr ⟨_, rfl, ?_, ?_⟩ <;> split <;> omega
    | great1 => exact .inr ⟨_, rfl, by omega, by omega⟩
theorem cube_right {x : Str} {f : Nat → Nat → Nat → Nat → Option Int} (h : RuleOf x f) {n : Nat} (h1 : 1 ≤ n) (h2 : n ≤ 12) : wrongD (cubeD n (f n)) = .none := by
  refine right_of (n := n) (by simp) h1 h2 fun y hy => ?_
  obtain ⟨o, ho, rfl⟩ := List.mem_map.mp hy
  refine ⟨_, rfl, by simp, fun y hy => ?_⟩
  obtain ⟨a, ha, rfl⟩ := List.mem_map.mp hy
  refine ⟨_, rfl, by simp, fun y hy => ?_⟩
  obtain ⟨b, hb, rfl⟩ := List.mem_map.mp hy
  exact rule_ok h (List.mem_range.mp ho) (List.mem_range.mp ha) (List.mem_range.mp hb)
section
variable {P : Program} {w : World} {K : PySem.W.Frag} {mg : Str → Option Value} {base : Heap} {TT : List (Addr × Str)} {CL : Cl}
def spOne (K : PySem.W.Frag) (TT : List (Addr × Str)) : Sp := fun vs H Q _ => ∃ (a l : Addr) (xs : List V), vs = [.ref a, .ref l] ∧ SrcOk H a ∧ H l = some (.lst xs) ∧ a ≠ l ∧ 1 ≤ xs.length ∧ xs.length < 1000000000 ∧ ∀ (i : Nat) (v : V) (H' : Hp), xs[i]? = some v → SrcOk H' a → Ex TT [a] H H' → Q v H'
theorem v__law_one (T : Txt K mg base TT CL) (c__law_take : CalV P w K mg base 1 "_law_take" (spTake TT)) : CalV P w K mg base 2 "_law_one" (spOne K TT) := by
  obtain ⟨f, cd, D, hm⟩ := T.d__law_one
  have sc := sc__law_one
  let N : List Str := n__law_one
  refine D.cal hm (fnv_def D sc (fun vs H Q E h => ?_) fun A outer s H vs Q E hr h => ?_)
  · obtain ⟨a, l, xs, rfl, _⟩ := h
    rfl
  · obtain ⟨a, l, xs, rfl, so, hl, ne, h1, h2, q⟩ := h
    refine ⟨_, (pss_one (ps_ret (pe_ix (ix_seqK (K := K) rfl) (pv 1) (pe_vn c__law_take hr (by decide) rfl (pa_cons (pv 0) (pa_cons (pe_callB call_len_seq (by rfl) T.n_len PySem.boot_len (pa_cons (pv 1) pa_nil)) pa_nil))) (fun _ _ => rfl)))), ?_⟩
    refine ⟨_, rfl, _, rfl, _, rfl, l, xs, rfl, .inl (.inl (.inl hl)), a, _, rfl, so, by omega, by omega, fun r H' r0 r1 so' ex => ?_⟩
    have hl' := ex.at_lst (by simp [Ne.symm ne]) hl
    obtain ⟨i, rfl⟩ : ∃ i : Nat, r = i := ⟨r.toNat, by omega⟩
    have hi : i < xs.length := by omega
    exact .inl ⟨l, xs, i, xs[i], rfl, rfl, .inl (.inl hl'), atI_nat (List.getElem?_eq_getElem hi), q i _ _ (List.getElem?_eq_getElem hi) so' ex⟩
def spGapped (TT : List (Addr × Str)) : Sp := fun vs H Q _ => ∃ (a : Addr) (v : V) (os : List PyData) (k : Int), vs = [.ref a, v, .int k] ∧ SrcOk H a ∧ Td H v (.tuple os) ∧ 1 ≤ os.length ∧ os.length ≤ 12 ∧ (∀ x ∈ os, sidOk os.length x) ∧ 1 ≤ k ∧ k < 1000000000 ∧
  ∀ v' d' H', SrcOk H' a → Ex TT [a] H H' → Td H' v' d' → wrongD d' = .none → Q v' H'
theorem v__law_gapped (T : Txt K mg base TT CL) (c__law_take : CalV P w K mg base 1 "_law_take" (spTake TT)) : CalV P w K mg base 2 "_law_gapped" (spGapped TT) := by
  obtain ⟨f, cd, D, hm⟩ := T.d__law_gapped
  have sc := sc__law_gapped
  let N : List Str := n__law_gapped
  refine D.cal hm (fnv_def D sc (fun vs H Q E h => ?_) fun A outer s H vs Q E hr h => ?_)
  · obtain ⟨a, v, os, k, rfl, _⟩ := h
    rfl
  · obtain ⟨a, v, os, k, rfl, so, hv, h1, h2, hos, kb1, kb2, q⟩ := h
    refine ⟨_, (pss_cons (ps_asg (pe_lst pa_nil) (pg_name (i := 3) sc.nd rfl (by first | exact Or.inl rfl | exact Or.inr rfl)))
      (pss_cons (ps_for (passes_of rfl) rfl (pi_tupK (K := K) rfl (pv 1)) (pg_name (i := 4) sc.nd rfl (by first | exact Or.inl rfl | exact Or.inr rfl)) (pss_one (ps_expr (pe_bm PySem.F.plainAttrs_list PySem.F.slot_list_append PySem.F.type_list_append mt_append (pv 3) (pa_cons (pe_tupleK (K := K) rfl rfl T.n_tuple (pe_lc (own := [("row", 6)]) rfl sc.nd (pi_tupK (K := K) rfl (pv 4)) (blkOk_by (N := n__law_gapped) (sc := defScope s__law_gapped) (own := [("row", 6)]) (by first | decide +kernel | rfl)) (fun _ _ _ _ _ => (pg_name (i := 6) sc.nd rfl (by first | exact Or.inl rfl | exact Or.inr rfl))) (fun _ _ _ _ _ => pts_nil) (fun _ _ _ _ _ => (pe_tupleK (K := K) rfl rfl T.n_tuple (pe_lc (own := [("x", 5)]) rfl sc.nd (pi_tupK (K := K) rfl (pv 6)) (blkOk_by (N := n__law_gapped) (sc := _) (own := [("x", 5)]) (by first | decide +kernel | rfl)) (fun _ _ _ _ _ => (pg_name (i := 5) sc.nd rfl (by first | exact Or.inl rfl | exact Or.inr rfl))) (fun _ _ _ _ _ => pts_nil) (fun _ _ _ _ _ => (pe_ifExp (pt_cmpR op_eq (pe_vn c__law_take hr (by decide) rfl (pa_cons (pv 0) (pa_cons (pv 2) pa_nil))) pe_int (nomark _)) pe_non (pv 5)))))))) pa_nil)))))
      (pss_one (ps_ret (pe_tupleK (K := K) rfl rfl T.n_tuple (pv 3)))))), ?_⟩
    obtain ⟨t, xs, rfl, ht, hall⟩ := hv.tuple_inv
    have hlen := hall.len
    refine ⟨Nat.zero_le _, fun F hF => ?_⟩
    have nF : a ≠ F := so.ne hF
    have hall0 := hall
    refine ⟨_, rfl, t, rfl, ⟨xs, (Tp.sq (TX.new hF _ _ ht))⟩, for_tup (K := K) (a := t) (xs := xs) (fun i σ H' => ∃ v4 v5 v6 ds, σ = [some (.ref a), some (.ref t), some (.int k), some (.ref F), v4, v5, v6] ∧ ds.length = i ∧ (∀ d ∈ ds, sidOk os.length d) ∧ LcS TT [a] H F ds H') ⟨_, _, _, [], rfl, rfl, by simp, Ex.upd_new hF, Srcs.one (so.upd nF), [], upd_same, .nil⟩ ?_ ?_ ?_⟩
    · rintro i σ H1 _ ⟨_, _, _, _, _, _, _, L⟩
      exact (L.ex.tups _ _ ht).sq
    · rintro i x σ H1 hx ⟨v4, v5, v6, ds, rfl, hds, hok, L1⟩
      obtain ⟨e, he, hxe⟩ := hall.get hx
      obtain ⟨as, rfl, has, hrows⟩ := hos e (List.mem_of_getElem? he)
      obtain ⟨t1, ys, rfl, ht1, hall1⟩ := (hxe.mono L1.ex.tups).tuple_inv
      have hlen1 := hall1.len
      obtain ⟨acc0, hacc0, _⟩ := L1.at_
      refine ⟨_, rfl, .inl ⟨rfl, acc0, .inl (.inl hacc0)⟩, _, rfl, t1, rfl, ⟨ys, ht1.sq⟩, fun D1 hD1 => ?_⟩
      refine lc_tupP (T := TT) (S := [a]) (H0 := H1) (K := K) (rowOk os.length) (Ex.refl _) L1.sr hD1 ht1 hall1 (by rw [hlen1]; exact Nat.lt_of_le_of_lt (by omega : as.length ≤ 12) (by decide)) (fun j x e H2 Q2 hx2 he2 ex2 s2 hd2 k2 => ⟨rfl, ?_⟩) fun H2 acc ds2 ex2 s2 hD hacc hl2 hok2 => .inl ⟨D1, acc, rfl, .inl (.inl hD), fun r ob hr0 hob => ?_⟩
      · obtain ⟨bs, rfl, hbs, hent⟩ := hrows e (List.mem_of_getElem? he2)
        obtain ⟨t2, zs, rfl, ht2, hall2⟩ := hd2.tuple_inv
        have hlen2 := hall2.len
        refine ⟨_, rfl, t2, rfl, ⟨zs, ht2.sq⟩, fun D2 hD2 => ?_⟩
        refine lc_tupP (T := TT) (S := [a]) (H0 := H2) (K := K) (entOk os.length) (Ex.refl _) s2 hD2 ht2 hall2 (by rw [hlen2]; exact Nat.lt_of_le_of_lt (by omega : bs.length ≤ 12) (by decide)) (fun m x e H3 Q3 hx3 he3 ex3 s3 hd3 k3 => ⟨rfl, ?_⟩) fun H3 acc ds3 ex3 s3 hD hacc hl3 hok3 => .inl ⟨D2, acc, rfl, .inl (.inl hD), fun r ob hr0 hob => ?_⟩
        · refine ⟨_, rfl, _, rfl, a, k, rfl, s3 a (by simp), kb1, kb2, fun r H4 r0 r1 so4 ex4 => ⟨rfl, _, rfl, ?_⟩⟩
          by_cases c : V.int r = V.int 0
          · rw [decide_eq_true c]
            exact iteT (k3 _ _ _ ex4 (Srcs.one so4) .non (.inl rfl))
          · rw [decide_eq_false c]
            exact iteF ⟨_, rfl, k3 _ _ _ ex4 (Srcs.one so4) (hd3.mono ex4.tups) (hent e (List.mem_of_getElem? he3))⟩
        · exact k2 _ _ _ (ex3.new hr0) (s3.upd (s3.free hr0)) (.tup (Tp.made hob) (hacc.mono (TX.new hr0))) ⟨_, rfl, by omega, hok3⟩
      · obtain ⟨acc2, g1, g2, L3⟩ := L1.more (y := .ref r) (Fresh.of hF) (by simp [Ne.symm nF]) (ex2.new hr0) (s2.upd (s2.free hr0)) (.tup (Tp.made hob) (hacc.mono (TX.new hr0))) (by
          have := (List.getElem?_eq_some_iff.mp hx).1
          exact Nat.lt_of_le_of_lt (by omega : ds.length ≤ 12) (by decide))
        refine ⟨F, acc2, _, rfl, rfl, g1, g2, _, _, _, _, rfl, by simp [hds], fun z hz => ?_, L3⟩
        rcases List.mem_append.mp hz with hz | hz
        · exact hok z hz
        · rw [List.mem_singleton.mp hz]
          exact ⟨_, rfl, by omega, hok2⟩
    · rintro σ H1 ⟨v4, v5, v6, ds, rfl, hds, hok, L1⟩
      obtain ⟨acc, hacc, hall⟩ := L1.at_
      have hl : ds.length = os.length := by omega
      refine ⟨_, rfl, .inl ⟨F, acc, rfl, .inl (.inl hacc), fun r ob hr0 hob => q _ (.tuple ds) _ ((L1.sr a (by simp)).upd ?_) (L1.ex.new hr0) (.tup (Tp.made hob) (hall.mono (TX.new hr0))) ?_⟩⟩
      · exact (L1.sr a (by simp)).ne hr0
      · exact right_of (n := os.length) hl h1 h2 hok
end
end Ed

set_option Elab.async false
set_option linter.all false
set_option maxRecDepth 100000
set_option maxHeartbeats 4000000
namespace Ed
open PySem PySem.Spec PyProof.Rows L2
theorem gapRow_app {d : PyData} : ∀ {ds : List PyData}, gapRow ds = none → gapRow (ds ++ [d]) = if isNon d then some ds.length else none
  | [], _ => by cases d <;> rfl
  | e :: ds, h => by
    have ih : gapRow ds = none → gapRow (ds ++ [d]) = if isNon d then some ds.length else none := gapRow_app
    have key : ∀ (hh : (gapRow ds).map (· + 1) = none), (gapRow (ds ++ [d])).map (· + 1) = if isNon d then some (ds.length + 1) else none := fun hh => by
      cases q : gapRow ds with
      | none =>
        rw [ih q]
        cases isNon d <;> rfl
      | some k =>
        rw [q] at hh
        cases hh
    cases e with
    | none => cases h
    | _ => exact key h
theorem gapRow_more {es : List PyData} {k : Nat} : ∀ {ds : List PyData}, gapRow ds = some k → gapRow (ds ++ es) = some k
  | [], h => by cases h
  | e :: ds, h => by
    have ih : ∀ j, gapRow ds = some j → gapRow (ds ++ es) = some j := fun j z => gapRow_more z
    have key : ∀ (hh : (gapRow ds).map (· + 1) = some k), (gapRow (ds ++ es)).map (· + 1) = some k := fun hh => by
      cases q : gapRow ds with
      | none =>
        rw [q] at hh
        cases hh
      | some j =>
        rw [q] at hh
        rw [ih j q]
        exact hh
    cases e with
    | none => exact h
    | _ => exact key h
section
variable {P : Program} {w : World} {K : PySem.W.Frag} {mg : Str → Option Value} {base : Heap} {TT : List (Addr × Str)} {CL : Cl}
theorem v__law_has_gap (T : Txt K mg base TT CL) : CalV P w K mg base 1 "_law_has_gap" (spGap TT) := by
  obtain ⟨f, cd, D, hm⟩ := T.d__law_has_gap
  have sc := sc__law_has_gap
  let N : List Str := n__law_has_gap
  refine D.cal hm (fnv_def D sc (fun vs H Q E h => ?_) fun A outer s H vs Q E hr h => ?_)
  · obtain ⟨v, d, rfl, _⟩ := h
    rfl
  · obtain ⟨v, d, rfl, hd, good, q⟩ := h
    refine ⟨_, (pss_cons (ps_asg (pe_callB call_len_seq (by rfl) T.n_len PySem.boot_len (pa_cons (pv 0) pa_nil)) (pg_name (i := 1) sc.nd rfl (by first | exact Or.inl rfl | exact Or.inr rfl)))
      (pss_cons (ps_for (passes_of rfl) rfl (pi_range1 (by rfl) T.n_range (pa_cons (pv 1) pa_nil)) (pg_name (i := 2) sc.nd rfl (by first | exact Or.inl rfl | exact Or.inr rfl)) (pss_one (ps_for (passes_of rfl) rfl (pi_range1 (by rfl) T.n_range (pa_cons (pv 1) pa_nil)) (pg_name (i := 3) sc.nd rfl (by first | exact Or.inl rfl | exact Or.inr rfl)) (pss_one (ps_for (passes_of rfl) rfl (pi_range1 (by rfl) T.n_range (pa_cons (pv 1) pa_nil)) (pg_name (i := 4) sc.nd rfl (by first | exact Or.inl rfl | exact Or.inr rfl)) (pss_one (ps_if (pt_cmpR op_isN (pe_ix (ix_seqK (K := K) rfl) (pe_ix (ix_seqK (K := K) rfl) (pe_ix (ix_seqK (K := K) rfl) (pv 0) (pv 2) (fun _ _ => rfl)) (pv 3) (fun _ _ => rfl)) (pv 4) (fun _ _ => rfl)) pe_non (nomark _)) (pss_one (ps_ret (pe_tupF (pa_cons (pv 2) (pa_cons (pv 3) (pa_cons (pv 4) pa_nil)))))) pss_nil)))))))
      (pss_one (ps_ret pe_non)))), ?_⟩
    obtain ⟨os, G⟩ := goodT good
    have eqd := G.eq
    subst eqd
    have n2 := G.high
    obtain ⟨a, xs, rfl, ha, hall⟩ := hd.tuple_inv
    have hlen := hall.len
    have fin : ∀ v' H' e, Ex TT [] H H' → scanOver gapRow os 0 = some e → Td H' v' e → Q v' H' := fun v' H' e ex z t => q v' H' ex (by
      show Td H' v' ((scanOver gapRow os 0).getD .none)
      rw [z]
      exact t)
    refine ⟨_, rfl, a, xs, rfl, .inr ha.sq, _, rfl, (xs.length : Int), rfl, by omega, by omega, ?_⟩
    rw [hlen]
    refine for_range (lo := 0) (n := os.length) (fun i σ H' => ∃ v2 v3 v4, σ = [some (.ref a), some (.int (os.length : Int)), v2, v3, v4] ∧ Ex TT [] H H' ∧ scanOver gapRow (os.take i) 0 = none) ⟨none, none, none, rfl, Ex.refl H, rfl⟩ ?_ ?_
    · rintro i σ H' hi ⟨v2, v3, v4, rfl, ex, hw⟩
      obtain ⟨as, eas, las, has⟩ := G.base os[i] (List.getElem_mem hi)
      have gi : os[i]? = some (.tuple as) := by
        rw [List.getElem?_eq_getElem hi, eas]
      obtain ⟨x, hx, hxd⟩ := hall.at_ gi
      have step : scanOver gapRow (os.take (i + 1)) 0 = match scanIn gapRow i as 0 with
          | some d => some d
          | none => none := by
        rw [take_snoc gi, scanOver_app, hw, List.length_take, Nat.min_eq_left (Nat.le_of_lt hi), Nat.zero_add]
        rfl
      have stop : ∀ dd, scanIn gapRow i as 0 = some dd → scanOver gapRow os 0 = some dd := fun dd z => by
        rw [z] at step
        have big := scanOver_app (f := gapRow) (xs := os.take (i + 1)) (ys := os.drop (i + 1)) (o := 0)
        rw [List.take_append_drop, step] at big
        exact big
      simp only [Int.zero_add]
      refine ⟨_, rfl, (os.length : Int), rfl, by omega, by omega, ?_⟩
      refine for_range (lo := 0) (n := os.length) (fun j σ H'' => ∃ v3 v4, σ = [some (.ref a), some (.int (os.length : Int)), some (.int (i : Int)), v3, v4] ∧ Ex TT [] H H'' ∧ scanIn gapRow i (as.take j) 0 = none) ⟨_, _, rfl, ex, rfl⟩ ?_ ?_
      · rintro j σ H'' hj ⟨v3, v4, rfl, ex2, hw2⟩
        have hj2 : j < as.length := by omega
        obtain ⟨bs, ebs, lbs, hbs⟩ := has as[j] (List.getElem_mem hj2)
        have gj : as[j]? = some (.tuple bs) := by
          rw [List.getElem?_eq_getElem hj2, ebs]
        have step2 : scanIn gapRow i (as.take (j + 1)) 0 = match gapRow bs with
            | some b => some (.tuple [.int i, .int j, .int b])
            | none => none := by
          rw [take_snoc gj, scanIn_app, hw2, List.length_take, Nat.min_eq_left (Nat.le_of_lt hj2), Nat.zero_add]
          rfl
        simp only [Int.zero_add]
        refine ⟨_, rfl, (os.length : Int), rfl, by omega, by omega, ?_⟩
        refine for_range (lo := 0) (n := os.length) (fun k σ H3 => ∃ v4, σ = [some (.ref a), some (.int (os.length : Int)), some (.int (i : Int)), some (.int (j : Int)), v4] ∧ Ex TT [] H H3 ∧ gapRow (bs.take k) = none) ⟨_, rfl, ex2, rfl⟩ ?_ ?_
        · rintro k σ H3 hk ⟨v4, rfl, ex3, hw3⟩
          have hk2 : k < bs.length := by omega
          have gk : bs[k]? = some bs[k] := List.getElem?_eq_getElem hk2
          obtain ⟨a1, ys, rfl, ha1, hall1⟩ := (hxd.mono ex3.tups).tuple_inv
          obtain ⟨y, hy, hyd⟩ := hall1.at_ gj
          obtain ⟨a2, zs, rfl, ha2, hall2⟩ := hyd.tuple_inv
          obtain ⟨z, hz, hzd⟩ := hall2.at_ gk
          have step3 : gapRow (bs.take (k + 1)) = if isNon bs[k] then some k else none := by
            rw [take_snoc gk, gapRow_app hw3, List.length_take, Nat.min_eq_left (Nat.le_of_lt hk2)]
          simp only [Int.zero_add]
          refine ⟨_, rfl, _, rfl, .inr (.inl ⟨a, xs, _, _, rfl, rfl, (ex3.tups _ _ ha).sq, at_of (j := i) rfl hx, ?_⟩)⟩
          refine ⟨_, rfl, .inr (.inl ⟨a1, ys, _, _, rfl, rfl, ha1.sq, at_of (j := j) rfl hy, ?_⟩)⟩
          refine ⟨_, rfl, .inr (.inl ⟨a2, zs, _, _, rfl, rfl, ha2.sq, at_of (j := k) rfl hz, ?_⟩)⟩
          refine ⟨rfl, _, rfl, ?_⟩
          rw [hzd.non_iff]
          cases e : isNon bs[k] with
          | false =>
            rw [e] at step3
            exact iteF ⟨_, rfl, ex3, step3⟩
          | true =>
            rw [e] at step3
            have g1 : gapRow bs = some k := by
              rw [← List.take_append_drop (k + 1) bs]
              exact gapRow_more step3
            rw [g1] at step2
            have inn : scanIn gapRow i as 0 = some (.tuple [.int i, .int j, .int k]) := by
              have big := scanIn_app (f := gapRow) (o := i) (xs := as.take (j + 1)) (ys := as.drop (j + 1)) (a := 0)
              rw [List.take_append_drop, step2] at big
              exact big
            exact iteT ⟨_, rfl, _, rfl, _, rfl, (by show 3 ≤ sizeLine; decide), fun p o hp hd0 => fin _ _ _ (ex3.new hp) (stop _ inn) (.tup (Tp.made hd0) (.cons (.int _) (.cons (.int _) (.cons (.int _) .nil))))⟩
        · rintro σ H3 ⟨v4, rfl, ex3, hw3⟩
          rw [show os.length = bs.length by omega, List.take_length] at hw3
          rw [hw3] at step2
          exact ⟨_, _, rfl, ex3, step2⟩
      · rintro σ H'' ⟨v3, v4, rfl, ex2, hw2⟩
        rw [show os.length = as.length by omega, List.take_length] at hw2
        rw [hw2] at step
        exact ⟨_, _, _, rfl, ex2, step⟩
    · rintro σ H' ⟨v2, v3, v4, rfl, ex, hw⟩
      rw [List.take_length] at hw
      refine q _ _ ex ?_
      show Td H' .non ((scanOver gapRow os 0).getD .none)
      rw [hw]
      exact .non
end
end Ed

set_option Elab.async false
set_option linter.all false
set_option maxRecDepth 100000
set_option maxHeartbeats 4000000
namespace Ed
open PySem PySem.Spec PyProof.Rows L2
section
variable {P : Program} {w : World} {K : PySem.W.Frag} {mg : Str → Option Value} {base : Heap} {TT : List (Addr × Str)} {CL : Cl}
def spIsRef (P : Program) (w : World) (K : PySem.W.Frag) (mg : Str → Option Value) (base : Heap) (TT : List (Addr × Str)) (c : Cl) : Sp := fun vs H Q _ => ∃ (g : Addr) (v : V) (d : PyData) (sp : Sp), vs = [.ref g, v] ∧ FnV P w K mg base 8 g sp ∧ IsFn K H g ∧ Td H v d ∧ Sh d ∧
  (∀ Q' E', Raised H c.BadMany v E' → sp [] H Q' E') ∧ ∀ H', Ex TT [] H H' → Q (.bl true) H'
theorem v__law_is_refused (T : Txt K mg base TT CL) : CalV P w K mg base 9 "_law_is_refused" (spIsRef P w K mg base TT CL) := by
  obtain ⟨f, cd, D, hm⟩ := T.d__law_is_refused
  have sc := sc__law_is_refused
  let N : List Str := n__law_is_refused
  refine D.cal hm (fnv_def D sc (fun vs H Q E h => ?_) fun A outer s H vs Q E hr h => ?_)
  · obtain ⟨g, v, d, sp, rfl, _⟩ := h
    rfl
  · obtain ⟨g, v, d, sp, rfl, F, hg, hv, sh, pr, q⟩ := h
    refine ⟨_, (pss_cons (ps_try_as (i := 2) rfl rfl sc.nd rfl rfl ⟨rfl, by decide, .inl T.e_Refused.mg⟩ takes0
        (fun W pn xe tk _ => (pss_one (ps_expr (pe_vl0K (P := P) (w := w) (K := K) (mg := mg) (base := base) (i := 0) (E := WE W) ⟨rfl, rfl, rfl, rfl, rfl⟩ hr rfl (by first | exact Or.inl rfl | exact Or.inr (Or.inl rfl) | exact Or.inr (Or.inr rfl)) (fun σ => passAt tk σ)))))
        (fun a oe cls d pn hz hf => (pss_one (ps_ret (pe_and (pe_callB (call_isErrK (K := K) rfl hz hf) (by rfl) T.n_isinstance (by decide +kernel) (pa_cons (pv 2) (pa_cons (pe_glob (v := .ref CL.BadMany) rfl T.e_BadMany.mg rfl) pa_nil))) (pe_one (pe_cmpR op_eq (pe_callB (call_reprK (K := K) rfl hr.g hr.u65) (by rfl) T.n_repr (by decide +kernel) (pa_cons (pe_xf (C := CL.BadMany) (xfc_of T.e_BadMany.er) T.e_BadMany.wh hz hf (pv 2)) pa_nil)) (pe_callB (call_reprK (K := K) rfl hr.g hr.u65) (by rfl) T.n_repr (by decide +kernel) (pa_cons (pv 1) pa_nil)) (nomark _))))))))
      (pss_one (ps_ret pe_bl))), ?_⟩
    refine ⟨g, sp, rfl, F, hg, hg, pr _ _ fun dd H2 hd e2 keep => ⟨true, T.x_BadMany, fun _ a ha => ?_, fun z => Bool.noConfusion z⟩⟩
    have ex : Ex TT [] H H2 := Ex.of_same keep
    refine ⟨_, rfl, .ref CL.BadMany, .ref CL.BadMany, true, CL.BadMany, dd, _, rfl, rfl, rfl, T.e_BadMany.er, e2, fun u r => r, T.k_BadMany_BadMany, ?_⟩
    have dp := (hv.mono ex.tups).dp (K := K)
    refine ⟨true, rfl, iteT ⟨_, rfl, rfl, rfl, dd, _, v, rfl, e2, rfl, v, d, rfl, dp, sh.sho, sh.nod, sh.dep, sh.len, _, rfl, v, d, rfl, dp, sh.sho, sh.nod, sh.dep, sh.len, rfl, ?_⟩⟩
    rw [sd_t]
    exact q _ ex
end
end Ed

set_option Elab.async false
set_option linter.all false
set_option maxRecDepth 100000
set_option maxHeartbeats 4000000
namespace Ed
open PySem PySem.Spec PyProof.Rows L2
/-! ### tables are shown -/
theorem entOk.sh {n : Nat} (hn : n ≤ 12) {x : PyData} (h : entOk n x) : ShB 0 4 x := by
  rcases h with rfl | ⟨i, rfl, h1, h2⟩
  · exact shNon
  · exact shInt h1 (by omega)
theorem rowOk.sh {n : Nat} (hn : n ≤ 12) {x : PyData} (h : rowOk n x) : ShB 1 75 x := by
  obtain ⟨bs, rfl, hl, hb⟩ := h
  exact shTupN (n := 12) (fun d hd => (hb d hd).sh hn) (by omega)
theorem sidOk.sh {n : Nat} (hn : n ≤ 12) {x : PyData} (h : sidOk n x) : ShB 2 927 x := by
  obtain ⟨bs, rfl, hl, hb⟩ := h
  exact shTupN (n := 12) (fun d hd => (hb d hd).sh hn) (by omega)
theorem GoodT.sh {d : PyData} {os : List PyData} (G : GoodT d os) : Sh d := by
  rw [G.eq]
  exact (shTupN (n := 12) (fun d hd => (G.sid d hd).sh G.high) G.high).sh (by decide) (by decide)
theorem gapRow_lt : ∀ {bs : List PyData} {b : Nat}, gapRow bs = some b → b < bs.length
  | [], b, h => by cases h
  | e :: r, b, h => by
    have key : (gapRow r).map (· + 1) = some b → b < (e :: r).length := fun z => by
      cases q : gapRow r with
      | none =>
        rw [q] at z
        cases z
      | some k =>
        rw [q] at z
        cases z
        have := gapRow_lt q
        exact Nat.succ_lt_succ this
    cases e with
    | none =>
      cases h
      exact Nat.succ_pos _
    | _ => exact key h
theorem scanIn_form {n o : Nat} : ∀ {as : List PyData} {a : Nat} {d : PyData}, (∀ x ∈ as, rowOk n x) → scanIn gapRow o as a = some d → ∃ j b : Nat, d = .tuple [.int o, .int j, .int b] ∧ j < a + as.length ∧ b < n
  | [], _, _, _, h => by cases h
  | e :: as, a, d, hok, h => by
    obtain ⟨bs, rfl, hl, _⟩ := hok e List.mem_cons_self
    have h' : (match gapRow bs with | some b => some (PyData.tuple [.int o, .int a, .int b]) | none => scanIn gapRow o as (a + 1)) = some d := h
    cases q : gapRow bs with
    | some b =>
      rw [q] at h'
      cases h'
      have := gapRow_lt q
      exact ⟨a, b, rfl, by rw [List.length_cons]; omega, by omega⟩
    | none =>
      rw [q] at h'
      obtain ⟨j, b, e1, e2, e3⟩ := scanIn_form (fun x hx => hok x (List.mem_cons_of_mem _ hx)) h'
      exact ⟨j, b, e1, by rw [List.length_cons]; omega, e3⟩
theorem scanOver_form {n : Nat} : ∀ {os : List PyData} {o : Nat} {d : PyData}, (∀ x ∈ os, sidOk n x) → scanOver gapRow os o = some d → ∃ i j b : Nat, d = .tuple [.int i, .int j, .int b] ∧ i < o + os.length ∧ j < n ∧ b < n
  | [], _, _, _, h => by cases h
  | e :: os, o, d, hok, h => by
    obtain ⟨as, rfl, hl, hb⟩ := hok e List.mem_cons_self
    have h' : (match scanIn gapRow o as 0 with | some d => some d | none => scanOver gapRow os (o + 1)) = some d := h
    cases q : scanIn gapRow o as 0 with
    | some b =>
      rw [q] at h'
      cases h'
      obtain ⟨j, b, e1, e2, e3⟩ := scanIn_form hb q
      exact ⟨o, j, b, e1, by rw [List.length_cons]; omega, by omega, e3⟩
    | none =>
      rw [q] at h'
      obtain ⟨i, j, b, e1, e2, e3, e4⟩ := scanOver_form (fun x hx => hok x (List.mem_cons_of_mem _ hx)) h'
      exact ⟨i, j, b, e1, by rw [List.length_cons]; omega, e3, e4⟩
theorem GoodT.gap_sh {d : PyData} {os : List PyData} (G : GoodT d os) : Sh (gapD d) := by
  rw [G.eq]
  show Sh ((scanOver gapRow os 0).getD .none)
  cases q : scanOver gapRow os 0 with
  | none => exact shNon.sh (by decide) (by decide)
  | some e =>
    obtain ⟨i, j, b, rfl, h1, h2, h3⟩ := scanOver_form G.sid q
    have := G.high
    refine ShB.sh (p := 1) (q := 3 * 4 + 2 * 3 + 3) (shTupN (n := 3) (fun d hd => ?_) (Nat.le_refl _)) (by decide) (by decide)
    simp only [List.mem_cons, List.mem_nil_iff, or_false] at hd
    rcases hd with rfl | rfl | rfl <;> exact shInt (by omega) (by omega)
/-- the way to an entry -/
theorem GoodT.at_ {H : Hp} {v : V} {d : PyData} {os : List PyData} (G : GoodT d os) (hd : Td H v d) {o a b : Nat} (ho : o < os.length) (hA : a < os.length) (hB : b < os.length) :
    ∃ r xs r2 ys r3 zs z1, v = .ref r ∧ Tp H r xs ∧ xs[o]? = some (.ref r2) ∧ Tp H r2 ys ∧ ys[a]? = some (.ref r3) ∧ Tp H r3 zs ∧ zs[b]? = some z1 ∧ Td H z1 (atD d o a b) ∧ ShB 0 4 (atD d o a b) := by
  have eqd := G.eq
  subst eqd
  obtain ⟨r, xs, rfl, hr1, hall⟩ := hd.tuple_inv
  obtain ⟨as, eas, las, has⟩ := G.base os[o] (List.getElem_mem ho)
  obtain ⟨x1, hx1, hd3⟩ := hall.at_ (List.getElem?_eq_getElem ho)
  rw [eas] at hd3
  obtain ⟨r2, ys, rfl, hr2, hall2⟩ := hd3.tuple_inv
  have ha2 : a < as.length := by omega
  obtain ⟨bs, ebs, lbs, hbs⟩ := has as[a] (List.getElem_mem ha2)
  obtain ⟨y1, hy1, hd4⟩ := hall2.at_ (List.getElem?_eq_getElem ha2)
  rw [ebs] at hd4
  obtain ⟨r3, zs, rfl, hr3, hall3⟩ := hd4.tuple_inv
  have hb2 : b < bs.length := by omega
  obtain ⟨z1, hz1, hd5⟩ := hall3.at_ (List.getElem?_eq_getElem hb2)
  have e3 : atD (.tuple os) o a b = bs[b] := by
    have f1 : nthD (.tuple os) o = .tuple as := by
      show os.getD o .none = _
      rw [List.getD_eq_getElem?_getD, List.getElem?_eq_getElem ho, eas]
      rfl
    have f2 : nthD (.tuple as) a = .tuple bs := by
      show as.getD a .none = _
      rw [List.getD_eq_getElem?_getD, List.getElem?_eq_getElem ha2, ebs]
      rfl
    unfold atD
    rw [f1, f2]
    show bs.getD b .none = _
    rw [List.getD_eq_getElem?_getD, List.getElem?_eq_getElem hb2]
    rfl
  refine ⟨r, xs, r2, ys, r3, zs, z1, rfl, hr1, hx1, hr2, hy1, hr3, hz1, ?_, ?_⟩
  · rw [e3]
    exact hd5
  · rw [e3]
    exact entOk.sh G.high (hbs _ (List.getElem_mem hb2))
theorem sne {x : Str} : (!decide (V.str x = V.str x)) = false := by
  rw [sd_t]
  rfl
theorem inR_lt {o n : Nat} (h : o < n) : inR (.int (o : Int)) 0 ((n : Int) - 1) = true := by
  show (decide ((0 : Int) ≤ o) && decide ((o : Int) ≤ (n : Int) - 1)) = true
  rw [decide_eq_true (by omega), decide_eq_true (by omega)]
  rfl
theorem odd_ok {H : Hp} {p : Addr} {n i : Nat} {v : V} (hp : Tp H p [.int 0]) (n1 : 1 ≤ n) (n2 : n ≤ 12) (h : [V.int (n : Int), V.int (0 - 1), V.non, V.str "0", V.int (10 ^ (20 : Int).toNat), V.ref p][i]? = some v) :
    inR v 0 ((n : Int) - 1) = false ∧ Kn H v ∧ ∃ dv, Td H v dv ∧ Sh dv := by
  match i, h with
  | 0, h =>
    cases Option.some.inj h
    refine ⟨?_, trivial, _, .int _, (shInt (by omega) (by omega)).sh (by decide) (by decide)⟩
    show (decide ((0 : Int) ≤ n) && decide ((n : Int) ≤ (n : Int) - 1)) = false
    rw [Bool.and_eq_false_iff]
    exact .inr (decide_eq_false (by omega))
  | 1, h =>
    cases Option.some.inj h
    exact ⟨rfl, trivial, _, .int _, by decide +kernel, by decide +kernel, by decide +kernel, by decide +kernel⟩
  | 2, h =>
    cases Option.some.inj h
    exact ⟨rfl, trivial, _, .non, by decide +kernel, by decide +kernel, by decide +kernel, by decide +kernel⟩
  | 3, h =>
    cases Option.some.inj h
    exact ⟨rfl, trivial, _, .str _, by decide +kernel, by decide +kernel, by decide +kernel, by decide +kernel⟩
  | 4, h =>
    cases Option.some.inj h
    refine ⟨?_, trivial, _, .int _, by decide +kernel, by decide +kernel, by decide +kernel, by decide +kernel⟩
    show (decide ((0 : Int) ≤ 10 ^ 20) && decide ((10 ^ 20 : Int) ≤ (n : Int) - 1)) = false
    rw [Bool.and_eq_false_iff]
    exact .inr (decide_eq_false (by omega))
  | 5, h =>
    cases Option.some.inj h
    exact ⟨rfl, ⟨_, hp⟩, .tuple [.int 0], .tup hp (.cons (.int 0) .nil), by decide +kernel, by decide +kernel, by decide +kernel, by decide +kernel⟩
  | (i + 6), h => simp at h
/-- three states, the first wrong one odd -/
def Bad3 (n : Int) (odd t0 t1 t2 : V) : Prop := t0 = odd ∨ (inR t0 0 (n - 1) = true ∧ t1 = odd) ∨ (inR t0 0 (n - 1) = true ∧ inR t1 0 (n - 1) = true ∧ t2 = odd)
theorem Bad3.cases {n : Int} {odd t0 t1 t2 : V} (h : Bad3 n odd t0 t1 t2) (o : inR odd 0 (n - 1) = false) :
    (inR t0 0 (n - 1) = false → t0 = odd) ∧ (inR t0 0 (n - 1) = true → inR t1 0 (n - 1) = false → t1 = odd) ∧ (inR t0 0 (n - 1) = true → inR t1 0 (n - 1) = true → inR t2 0 (n - 1) = false → t2 = odd) ∧
    ¬ (inR t0 0 (n - 1) = true ∧ inR t1 0 (n - 1) = true ∧ inR t2 0 (n - 1) = true) := by
  rcases h with rfl | ⟨h1, rfl⟩ | ⟨h1, h2, rfl⟩
  · refine ⟨fun _ => rfl, fun z => ?_, fun z => ?_, fun z => ?_⟩ <;> simp [o] at z
  · refine ⟨fun z => ?_, fun _ _ => rfl, fun _ z => ?_, fun z => ?_⟩ <;> simp [o, h1] at z
  · refine ⟨fun z => ?_, fun _ z => ?_, fun _ _ _ => rfl, fun z => ?_⟩ <;> simp [o, h1, h2] at z
theorem bad3_of {n : Int} {k : Nat} (hk : k < 3) {o p b : Nat} {m : Nat} (hn : n = m) (ho : o < m) (hp : p < m) (hb : b < m) {odd : V} {acc : List V} (hl : acc.length = (cutV [V.int (o : Int), .int p, .int b] (some ((k : Int) + 1)) none).length) (hok : ∀ y ∈ acc, y = .non ∨ y = .int 0) :
    ∃ t0 t1 t2, cutV [V.int (o : Int), .int p, .int b] none (some (k : Int)) ++ [odd] ++ acc = [t0, t1, t2] ∧ Bad3 n odd t0 t1 t2 ∧ ∀ y ∈ [t0, t1, t2], y = odd ∨ y = .non ∨ ∃ i : Int, y = .int i := by
  subst hn
  have ok : ∀ y ∈ acc, y = odd ∨ y = .non ∨ ∃ i : Int, y = .int i := fun y hy => by
    rcases hok y hy with z | z
    · exact .inr (.inl z)
    · exact .inr (.inr ⟨0, z⟩)
  match k, hk, acc, hl, ok with
  | 0, _, [x, y], _, ok =>
    refine ⟨odd, x, y, rfl, .inl rfl, fun z hz => ?_⟩
    rcases List.mem_cons.mp hz with rfl | hz
    · exact .inl rfl
    · exact ok z hz
  | 1, _, [y], _, ok =>
    refine ⟨.int o, odd, y, rfl, .inr (.inl ⟨inR_lt ho, rfl⟩), fun z hz => ?_⟩
    rcases List.mem_cons.mp hz with rfl | hz
    · exact .inr (.inr ⟨_, rfl⟩)
    rcases List.mem_cons.mp hz with rfl | hz
    · exact .inl rfl
    · exact ok z hz
  | 2, _, [], _, ok =>
    refine ⟨.int o, .int p, odd, rfl, .inr (.inr ⟨inR_lt ho, inR_lt hp, rfl⟩), fun z hz => ?_⟩
    rcases List.mem_cons.mp hz with rfl | hz
    · exact .inr (.inr ⟨_, rfl⟩)
    rcases List.mem_cons.mp hz with rfl | hz
    · exact .inr (.inr ⟨_, rfl⟩)
    rcases List.mem_cons.mp hz with rfl | hz
    · exact .inl rfl
    · cases hz
section
variable {P : Program} {w : World} {K : PySem.W.Frag} {mg : Str → Option Value} {base : Heap} {TT : List (Addr × Str)} {CL : Cl}
def spTabR (TT : List (Addr × Str)) : Sp := fun vs H Q _ => ∃ (a : Addr) (v : V) (d : PyData), vs = [.ref a, v] ∧ SrcOk H a ∧ Td H v d ∧ wrongD d = .none ∧ ∀ H', SrcOk H' a → Ex TT [a] H H' → Q (.bl true) H'
theorem v__law_table_right (T : Txt K mg base TT CL) (c_first_gap : CalV P w K mg base 5 "first_gap" (spFirstGap TT CL)) (c__law_has_gap : CalV P w K mg base 1 "_law_has_gap" (spGap TT)) (c_many : CalV P w K mg base 5 "many" (spMany TT CL)) (c_is_table : CalV P w K mg base 4 "is_table" (spIsTab TT)) (c_made_table : CalV P w K mg base 4 "made_table" (spMade TT CL)) (c__law_take : CalV P w K mg base 1 "_law_take" (spTake TT)) (c_entry : CalV P w K mg base 5 "entry" (spEntry TT CL)) (c__law_one : CalV P w K mg base 2 "_law_one" (spOne K TT)) : CalV P w K mg base 6 "_law_table_right" (spTabR TT) := by
  obtain ⟨f, cd, D, hm⟩ := T.d__law_table_right
  have sc := sc__law_table_right
  let N : List Str := n__law_table_right
  refine D.cal hm (fnv_def D sc (fun vs H Q E h => ?_) fun A outer s H vs Q E hr h => ?_)
  · obtain ⟨a, v, d, rfl, _⟩ := h
    rfl
  · obtain ⟨a, v, d, rfl, so, hd, good, q⟩ := h
    refine ⟨_, (pss_cons (ps_asg (pe_callB call_len_seq (by rfl) T.n_len PySem.boot_len (pa_cons (pv 1) pa_nil)) (pg_name (i := 2) sc.nd rfl (by first | exact Or.inl rfl | exact Or.inr rfl)))
      (pss_cons (ps_if (PW.pt (pw_or (pt_cmpR op_ne (pe_callB (call_repr hr.g hr.u65) (by rfl) T.n_repr (by decide +kernel) (pa_cons (pe_vn c_first_gap hr (by decide) rfl (pa_cons (pv 1) pa_nil)) pa_nil)) (pe_callB (call_repr hr.g hr.u65) (by rfl) T.n_repr (by decide +kernel) (pa_cons (pe_vn c__law_has_gap hr (by decide) rfl (pa_cons (pv 1) pa_nil)) pa_nil)) (nomark _)) (pw_or1 (pt_cmpR op_ne (pe_callB (call_repr hr.g hr.u65) (by rfl) T.n_repr (by decide +kernel) (pa_cons (pe_vn c_many hr (by decide) rfl (pa_cons (pv 1) pa_nil)) pa_nil)) (pe_callB (call_repr hr.g hr.u65) (by rfl) T.n_repr (by decide +kernel) (pa_cons (pv 2) pa_nil)) (nomark _))))) (pss_one (ps_ret pe_bl)) pss_nil)
      (pss_cons (ps_if (PW.pt (pw_or (pt_cmpR op_notBl (pe_vn c_is_table hr (by decide) rfl (pa_cons (pv 1) pa_nil)) pe_bl (nomark _)) (pw_or1 (pt_cmpR op_ne (pe_callB (call_repr hr.g hr.u65) (by rfl) T.n_repr (by decide +kernel) (pa_cons (pe_vn c_made_table hr (by decide) rfl (pa_cons (pv 1) pa_nil)) pa_nil)) (pe_callB (call_repr hr.g hr.u65) (by rfl) T.n_repr (by decide +kernel) (pa_cons (pv 1) pa_nil)) (nomark _))))) (pss_one (ps_ret pe_bl)) pss_nil)
      (pss_cons (ps_for (passes_of rfl) rfl (pi_range1 (by rfl) T.n_range (pa_cons pe_int pa_nil)) (pg_name (i := 3) sc.nd rfl (by first | exact Or.inl rfl | exact Or.inr rfl)) (pss_cons (ps_asg (pe_lc (own := [("place", 7)]) rfl sc.nd (pi_range1 (by rfl) T.n_range (pa_cons pe_int pa_nil)) (blkOk_by (N := n__law_table_right) (sc := defScope s__law_table_right) (own := [("place", 7)]) (by first | decide +kernel | rfl)) (fun _ _ _ _ _ => (pg_name (i := 7) sc.nd rfl (by first | exact Or.inl rfl | exact Or.inr rfl))) (fun _ _ _ _ _ => pts_nil) (fun _ _ _ _ _ => (pe_vn c__law_take hr (by decide) rfl (pa_cons (pv 0) (pa_cons (pv 2) pa_nil))))) (pg_unl rfl (pgs_cons (pg_name (i := 4) sc.nd rfl (by first | exact Or.inl rfl | exact Or.inr rfl)) (pgs_cons (pg_name (i := 5) sc.nd rfl (by first | exact Or.inl rfl | exact Or.inr rfl)) (pgs_cons (pg_name (i := 6) sc.nd rfl (by first | exact Or.inl rfl | exact Or.inr rfl)) pgs_nil)))))
      (pss_one (ps_if (pt_cmpR op_ne (pe_callB (call_repr hr.g hr.u65) (by rfl) T.n_repr (by decide +kernel) (pa_cons (pe_vn c_entry hr (by decide) rfl (pa_cons (pv 1) (pa_cons (pv 4) (pa_cons (pv 5) (pa_cons (pv 6) pa_nil))))) pa_nil)) (pe_callB (call_repr hr.g hr.u65) (by rfl) T.n_repr (by decide +kernel) (pa_cons (pe_ix (ix_seqK (K := K) rfl) (pe_ix (ix_seqK (K := K) rfl) (pe_ix (ix_seqK (K := K) rfl) (pv 1) (pv 4) (fun _ _ => rfl)) (pv 5) (fun _ _ => rfl)) (pv 6) (fun _ _ => rfl)) pa_nil)) (nomark _)) (pss_one (ps_ret pe_bl)) pss_nil))))
      (pss_cons (ps_par (i := 8) (j := 9) (by rfl) sc.nd rfl rfl (by decide) rfl rfl (pa_cons (pe_lc (own := [("place", 7)]) rfl sc.nd (pi_range1 (by rfl) T.n_range (pa_cons pe_int pa_nil)) (blkOk_by (N := n__law_table_right) (sc := defScope s__law_table_right) (own := [("place", 7)]) (by first | decide +kernel | rfl)) (fun _ _ _ _ _ => (pg_name (i := 7) sc.nd rfl (by first | exact Or.inl rfl | exact Or.inr rfl))) (fun _ _ _ _ _ => pts_nil) (fun _ _ _ _ _ => (pe_vn c__law_take hr (by decide) rfl (pa_cons (pv 0) (pa_cons (pv 2) pa_nil))))) (pa_cons (pe_vn c__law_take hr (by decide) rfl (pa_cons (pv 0) (pa_cons pe_int pa_nil))) pa_nil)) (by rfl))
      (pss_cons (ps_asg (pe_vn c__law_one hr (by decide) rfl (pa_cons (pv 0) (pa_cons (pe_lst (pa_cons (pv 2) (pa_cons (pe_op op_sub pe_int pe_int) (pa_cons pe_non (pa_cons pe_str (pa_cons (pe_op op_pow pe_int pe_int) (pa_cons (pe_tupF (pa_cons pe_int pa_nil)) pa_nil))))))) pa_nil))) (pg_name (i := 10) sc.nd rfl (by first | exact Or.inl rfl | exact Or.inr rfl)))
      (pss_cons (ps_asg (pe_op op_cat (pe_op op_cat (pe_slice sl_list (pv 8) po_none (po_some (pv 9))) (pe_lst (pa_cons (pv 10) pa_nil))) (pe_lc (own := [("place", 7)]) rfl sc.nd (pi_list (pe_slice sl_list (pv 8) (po_some (pe_op op_add (pv 9) pe_int)) po_none)) (blkOk_by (N := n__law_table_right) (sc := defScope s__law_table_right) (own := [("place", 7)]) (by first | decide +kernel | rfl)) (fun _ _ _ _ _ => (pg_name (i := 7) sc.nd rfl (by first | exact Or.inl rfl | exact Or.inr rfl))) (fun _ _ _ _ _ => pts_nil) (fun _ _ _ _ _ => (pe_vn c__law_one hr (by decide) rfl (pa_cons (pv 0) (pa_cons (pe_lst (pa_cons pe_non (pa_cons pe_int pa_nil))) pa_nil)))))) (pg_name (i := 11) sc.nd rfl (by first | exact Or.inl rfl | exact Or.inr rfl)))
      (pss_cons (ps_try_as (i := 12) rfl rfl sc.nd rfl rfl ⟨rfl, by decide, .inl T.e_Refused.mg⟩ takes0
        (fun W pn xe tk _ => (pss_one (ps_expr (pe_v (E := WE W) c_entry hr (by decide) rfl (fun σ => passAt tk σ) (pa_cons (pv 1) (pa_cons (pe_ix (ix_seqK (K := K) rfl) (pv 11) pe_int (fun _ _ => rfl)) (pa_cons (pe_ix (ix_seqK (K := K) rfl) (pv 11) pe_int (fun _ _ => rfl)) (pa_cons (pe_ix (ix_seqK (K := K) rfl) (pv 11) pe_int (fun _ _ => rfl)) pa_nil))))))))
        (fun a oe cls d pn hz hf => (pss_one (ps_ret (pe_and (pe_callB (call_isErrK (K := K) rfl hz hf) (by rfl) T.n_isinstance (by decide +kernel) (pa_cons (pv 12) (pa_cons (pe_glob (v := .ref CL.BadState) rfl T.e_BadState.mg rfl) pa_nil))) (pe_one (pe_cmpR op_eq (pe_callB (call_reprK (K := K) rfl hr.g hr.u65) (by rfl) T.n_repr (by decide +kernel) (pa_cons (pe_xf (C := CL.BadState) (xfc_of T.e_BadState.er) T.e_BadState.wh hz hf (pv 12)) pa_nil)) (pe_callB (call_reprK (K := K) rfl hr.g hr.u65) (by rfl) T.n_repr (by decide +kernel) (pa_cons (pv 10) pa_nil)) (nomark _))))))))
      (pss_one (ps_ret pe_bl)))))))))), ?_⟩
    obtain ⟨os, G⟩ := goodT good
    have n1 := G.low
    have n2 := G.high
    have sh := G.sh
    have shg := G.gap_sh
    have eL : lenD d = os.length := by
      rw [G.eq]
      rfl
    have bad : ∀ H E, BadT TT CL H d E := fun H E h => absurd good h
    obtain ⟨t, xs, hv0, ht, hall⟩ : ∃ t xs, v = .ref t ∧ Tp H t xs ∧ TdAll H xs os := by
      have h2 := hd
      rw [G.eq] at h2
      exact h2.tuple_inv
    subst hv0
    have hlen := hall.len
    refine ⟨_, rfl, t, xs, rfl, .inr ht.sq, ?_⟩
    rw [hlen]
    have shn : Sh (.int (os.length : Int)) := (shInt (by omega) (by omega)).sh (by decide) (by decide)
    refine ⟨.ref t, rfl, .ref t, d, rfl, hd, fun _ v1 H1 ex1 hv1 => ⟨v1, gapD d, rfl, hv1.dp, shg.sho, shg.nod, shg.dep, shg.len, .ref t, rfl, .ref t, d, rfl, hd.mono ex1.tups, good, fun v2 H2 ex2 hv2 => ⟨v2, gapD d, rfl, hv2.dp, shg.sho, shg.nod, shg.dep, shg.len, rfl, _, rfl, ?_⟩⟩, bad _ _⟩
    rw [sne]
    have ex02 := ex1.trans ex2
    refine iteF ⟨.ref t, rfl, .ref t, d, rfl, hd.mono ex02.tups, fun _ H3 ex3 => ⟨.int (lenD d), .int (lenD d), rfl, .int _, ?_, ?_, ?_, ?_, .int os.length, rfl, .int os.length, .int os.length, rfl, .int _, shn.sho, shn.nod, shn.dep, shn.len, rfl, _, rfl, ?_⟩, bad _ _⟩
    · rw [eL]
      exact shn.sho
    · rw [eL]
      exact shn.nod
    · rw [eL]
      exact shn.dep
    · rw [eL]
      exact shn.len
    rw [eL, sne]
    have ex03 := ex02.trans ex3
    refine iteF ⟨.ref t, rfl, .ref t, d, rfl, hd.mono ex03.tups, fun H4 ex4 => ⟨true, true, ?_, rfl, _, rfl, ?_⟩⟩
    · rw [good]
      rfl
    have ex04 := ex03.trans ex4
    refine iteF ⟨.ref t, rfl, .ref t, d, rfl, hd.mono ex04.tups, fun _ H5 ex5 => ⟨.ref t, d, rfl, (hd.mono (ex04.trans ex5).tups).dp, sh.sho, sh.nod, sh.dep, sh.len, .ref t, rfl, .ref t, d, rfl, (hd.mono (ex04.trans ex5).tups).dp, sh.sho, sh.nod, sh.dep, sh.len, rfl, _, rfl, ?_⟩, bad _ _⟩
    rw [sne]
    have ex05 := ex04.trans ex5
    have so5 : SrcOk H5 a := so.ex ex05 (by simp)
    have ex05 : Ex TT [a] H H5 := ex05.weak (by simp)
    generalize H5 = H5' at ex05 so5
    refine iteF ⟨_, rfl, by decide, by decide, ?_⟩
    -- four draws
    refine for_range (lo := 0) (n := 4) (fun i σ H' => ∃ v3 v4 v5 v6 v7, σ = [some (.ref a), some (.ref t), some (.int (os.length : Int)), v3, v4, v5, v6, v7, none, none, none, none, none] ∧ Ex TT [a] H H' ∧ SrcOk H' a) ⟨_, _, _, _, _, rfl, ex05, so5⟩ ?_ ?_
    · rintro i σ H1 hi ⟨v3, v4, v5, v6, v7, rfl, ex1, so1⟩
      refine ⟨_, rfl, by decide, by decide, fun D hD => ?_⟩
      refine lc_rangeV (T := TT) (S := [a]) (H0 := H1) (n := 3) (fun y => ∃ k : Nat, y = .int k ∧ k < os.length) (Ex.refl _) (Srcs.one so1) hD (by decide) (fun j H2 Q2 hj ex2 s2 k2 => ⟨rfl, _, rfl, _, rfl, a, _, rfl, s2 a (by simp), by omega, by omega, fun r H3 r0 r1 so3 ex3 => k2 _ _ ex3 (Srcs.one so3) ⟨r.toNat, by rw [Int.toNat_of_nonneg r0], by omega⟩⟩) fun H2 acc ex2 s2 hD2 hl hok => ?_
      match acc, hl, hok, hD2 with
      | [x, y, z], _, hok, hD2 =>
        obtain ⟨o, rfl, ho⟩ := hok x (by simp)
        obtain ⟨p, rfl, hp⟩ := hok y (by simp)
        obtain ⟨b, rfl, hb⟩ := hok z (by simp)
        have ex12 := ex1.trans ex2
        refine ⟨D, _, rfl, .inl (.inl hD2), rfl, ?_⟩
        refine ⟨_, _, rfl, _, _, rfl, _, [], rfl, rfl, ?_⟩
        have so2 := s2 a (by simp)
        refine ⟨_, rfl, _, rfl, _, rfl, _, rfl, .ref t, d, _, _, _, rfl, hd.mono ex12.tups, trivial, trivial, trivial, bad _ _, fun _ => ⟨fun c => ?_, fun _ c => ?_, fun _ _ c => ?_, fun o' p' b' e1 e2 e3 _ _ _ v' H3 ex3 hv' => ?_⟩⟩
        · rw [eL, inR_lt ho] at c
          cases c
        · rw [eL, inR_lt hp] at c
          cases c
        · rw [eL, inR_lt hb] at c
          cases c
        · obtain rfl : o = o' := by
            have := V.int.inj e1
            omega
          obtain rfl : p = p' := by
            have := V.int.inj e2
            omega
          obtain rfl : b = b' := by
            have := V.int.inj e3
            omega
          have ex13 := ex12.trans (ex3.weak (S' := [a]) (by simp))
          obtain ⟨r, xs, r2, ys, r3, zs, z1, ev, hr1, hx1, hr2, hy1, hr3, hz1, hz, hsh⟩ := G.at_ (hd.mono ex13.tups) ho hp hb
          have hsh := hsh.sh (by decide) (by decide)
          refine ⟨_, _, rfl, hv'.dp, hsh.sho, hsh.nod, hsh.dep, hsh.len, ?_⟩
          refine ⟨_, rfl, _, rfl, .inr (.inl ⟨r, xs, _, _, ev, rfl, hr1.sq, atI_nat hx1, ?_⟩)⟩
          refine ⟨_, rfl, .inr (.inl ⟨r2, ys, _, _, rfl, rfl, hr2.sq, atI_nat hy1, ?_⟩)⟩
          refine ⟨_, rfl, .inr (.inl ⟨r3, zs, _, _, rfl, rfl, hr3.sq, atI_nat hz1, ?_⟩)⟩
          refine ⟨_, _, rfl, hz.dp, hsh.sho, hsh.nod, hsh.dep, hsh.len, rfl, _, rfl, ?_⟩
          rw [sne]
          exact iteF ⟨_, _, _, _, _, rfl, ex13, so2.ex ex3 (by simp)⟩
    · rintro σ H1 ⟨v3, v4, v5, v6, v7, rfl, ex1, so1⟩
      refine ⟨_, rfl, by decide, by decide, fun D hD => ?_⟩
      refine lc_rangeV (T := TT) (S := [a]) (H0 := H1) (n := 3) (fun y => ∃ k : Nat, y = .int k ∧ k < os.length) (Ex.refl _) (Srcs.one so1) hD (by decide) (fun j H2 Q2 hj ex2 s2 k2 => ⟨rfl, _, rfl, _, rfl, a, _, rfl, s2 a (by simp), by omega, by omega, fun r H3 r0 r1 so3 ex3 => k2 _ _ ex3 (Srcs.one so3) ⟨r.toNat, by rw [Int.toNat_of_nonneg r0], by omega⟩⟩) fun H2 acc ex2 s2 hD2 hacl hok => ?_
      have so2 := s2 a (by simp)
      have ex12 := ex1.trans ex2
      have nD : D ∉ [a] := by
        intro z
        rw [List.mem_singleton.mp z] at hD
        obtain ⟨b, m, z, _⟩ := so1
        rw [hD] at z
        cases z
      refine ⟨_, rfl, a, 3, rfl, so2, by decide, by decide, fun k H3 k0 k1 so3 ex3 => ⟨_, _, rfl, ?_⟩⟩
      have hD3 := ex3.at_lst nD hD2
      have ex13 := ex12.trans ex3
      obtain ⟨k, rfl⟩ : ∃ k' : Nat, k = k' := ⟨k.toNat, by omega⟩
      have hk : k < 3 := by omega
      -- the odd one
      refine ⟨_, rfl, _, rfl, _, _, rfl, rfl, 10, 20, rfl, rfl, ⟨by decide, by decide, by decide⟩, (by show 1 ≤ sizeLine; decide), fun p ob hp hob => ⟨(by show 6 ≤ sizeLine; decide), fun l hl => ?_⟩⟩
      have e4 : Ex TT [a] H3 (upd H3 p (.frz ob (.tup [.int 0]))) := Ex.upd_new hp
      have hp4 : Tp (upd H3 p (.frz ob (.tup [.int 0]))) p [.int 0] := Tp.made hob
      have so4 := so3.upd (o := .frz ob (.tup [.int 0])) (so3.ne hp)
      generalize upd H3 p (.frz ob (.tup [V.int 0])) = H4 at hl e4 hp4 so4
      have e5 : Ex TT [a] H3 (upd H4 l (.lst [.int os.length, .int (0 - 1), .non, .str "0", .int (10 ^ (20 : Int).toNat), .ref p])) := e4.new hl
      have hp5 := TX.new (o := .lst [.int os.length, .int (0 - 1), .non, .str "0", .int (10 ^ (20 : Int).toNat), .ref p]) hl _ _ hp4
      have sq5 : upd H4 l (.lst [.int os.length, .int (0 - 1), .non, .str "0", .int (10 ^ (20 : Int).toNat), .ref p]) l = some (.lst [.int os.length, .int (0 - 1), .non, .str "0", .int (10 ^ (20 : Int).toNat), .ref p]) := upd_same
      have al : a ≠ l := so4.ne hl
      have so5 := so4.upd (o := .lst [.int os.length, .int (0 - 1), .non, .str "0", .int (10 ^ (20 : Int).toNat), .ref p]) al
      refine ⟨a, l, [.int os.length, .int (0 - 1), .non, .str "0", .int (10 ^ (20 : Int).toNat), .ref p], rfl, so5, sq5, al, (by show 1 ≤ 6; decide), (by show 6 < 1000000000; decide), fun i v H6 hv so6 ex6 => ?_⟩
      have hp6 := ex6.tups _ _ hp5
      have ex36 := e5.trans ex6
      have ex16 := ex13.trans ex36
      have hD6 := ex36.at_lst nD hD3
      obtain ⟨oR, oK, dv, oT, oS⟩ := odd_ok hp6 n1 n2 hv
      refine ⟨_, rfl, _, rfl, _, rfl, D, _, rfl, .inl (.inl hD6), fun p1 hp1 => ?_⟩
      have len3 : acc.length = 3 := hacl
      match acc, len3, hok, hD6 with
      | [x, y, z], _, hok, hD6 =>
        obtain ⟨o, rfl, ho⟩ := hok x (by simp)
        obtain ⟨p', rfl, hp'⟩ := hok y (by simp)
        obtain ⟨b, rfl, hb⟩ := hok z (by simp)
        have cl : (cutV [V.int (o : Int), .int p', .int b] none (some (k : Int))).length ≤ 3 := cutV_length _ _ _
        have e7 : Ex TT [a] H6 (upd H6 p1 (.lst (cutV [V.int (o : Int), .int p', .int b] none (some (k : Int))))) := Ex.upd_new hp1
        have l7 : upd H6 p1 (.lst (cutV [V.int (o : Int), .int p', .int b] none (some (k : Int)))) p1 = some (.lst (cutV [V.int (o : Int), .int p', .int b] none (some (k : Int)))) := upd_same
        have so7 := so6.upd (o := .lst (cutV [V.int (o : Int), .int p', .int b] none (some (k : Int)))) (so6.ne hp1)
        have n1a : p1 ∉ [a] := by
          intro z
          rw [List.mem_singleton.mp z] at hp1
          exact so6.ne hp1 rfl
        generalize upd H6 p1 (.lst (cutV [V.int (o : Int), .int p', .int b] none (some (k : Int)))) = H7 at e7 l7 so7
        refine ⟨_, rfl, (by show 1 ≤ sizeLine; decide), fun p2 hp2 => ?_⟩
        have e8 : Ex TT [a] H7 (upd H7 p2 (.lst [v])) := Ex.upd_new hp2
        have l8 : upd H7 p2 (.lst [v]) p2 = some (.lst [v]) := upd_same
        have so8 := so7.upd (o := .lst [v]) (so7.ne hp2)
        generalize upd H7 p2 (.lst [v]) = H8 at e8 l8 so8
        have l8' := e8.at_lst n1a l7
        refine ⟨p1, p2, _, _, rfl, rfl, l8', l8, Nat.le_trans (Nat.add_le_add_right cl 1) (by decide), fun p3 hp3 => ?_⟩
        have e9 : Ex TT [a] H8 (upd H8 p3 (.lst (cutV [V.int (o : Int), .int p', .int b] none (some (k : Int)) ++ [v]))) := Ex.upd_new hp3
        have l9 : upd H8 p3 (.lst (cutV [V.int (o : Int), .int p', .int b] none (some (k : Int)) ++ [v])) p3 = some (.lst (cutV [V.int (o : Int), .int p', .int b] none (some (k : Int)) ++ [v])) := upd_same
        have so9 := so8.upd (o := .lst (cutV [V.int (o : Int), .int p', .int b] none (some (k : Int)) ++ [v])) (so8.ne hp3)
        have n3a : p3 ∉ [a] := by
          intro z
          rw [List.mem_singleton.mp z] at hp3
          exact so8.ne hp3 rfl
        generalize upd H8 p3 (.lst (cutV [V.int (o : Int), .int p', .int b] none (some (k : Int)) ++ [v])) = H9 at e9 l9 so9
        have e69 := (e7.trans e8).trans e9
        refine ⟨_, rfl, _, rfl, _, _, rfl, rfl, _, rfl, D, _, rfl, .inl (.inl (e69.at_lst nD hD6)), fun p4 hp4 => ?_⟩
        have cl2 : (cutV [V.int (o : Int), .int p', .int b] (some ((k : Int) + 1)) none).length ≤ 3 := cutV_length _ _ _
        have e10 : Ex TT [a] H9 (upd H9 p4 (.lst (cutV [V.int (o : Int), .int p', .int b] (some ((k : Int) + 1)) none))) := Ex.upd_new hp4
        have l10 : upd H9 p4 (.lst (cutV [V.int (o : Int), .int p', .int b] (some ((k : Int) + 1)) none)) p4 = some (.lst (cutV [V.int (o : Int), .int p', .int b] (some ((k : Int) + 1)) none)) := upd_same
        have so10 := so9.upd (o := .lst (cutV [V.int (o : Int), .int p', .int b] (some ((k : Int) + 1)) none)) (so9.ne hp4)
        have n4a : p4 ∉ [a] := by
          intro z
          rw [List.mem_singleton.mp z] at hp4
          exact so9.ne hp4 rfl
        generalize upd H9 p4 (.lst (cutV [V.int (o : Int), .int p', .int b] (some ((k : Int) + 1)) none)) = H10 at e10 l10 so10
        refine ⟨p4, rfl, ⟨_, .inl (.inl l10)⟩, fun D2 hD2 => ?_⟩
        refine lc_listV (T := TT) (S := [a]) (H0 := H10) (K := K) (a := p4) (xs := cutV [V.int (o : Int), .int p', .int b] (some ((k : Int) + 1)) none) (fun y => y = .non ∨ y = .int 0) (Ex.refl _) (Srcs.one so10) hD2 (.inl (.inl l10)) n4a (Nat.lt_of_le_of_lt cl2 (by decide)) (fun j x H11 Q2 hj ex11 s11 k2 => ⟨rfl, _, rfl, (by show 2 ≤ sizeLine; decide), fun l2 hl2 => ⟨a, l2, [.non, .int 0], rfl, (s11 a (by simp)).upd ((s11 a (by simp)).ne hl2), upd_same, (s11 a (by simp)).ne hl2, by decide, by decide, fun i2 v2 H12 hv2 so12 ex12' => k2 _ _ ((Ex.upd_new hl2).trans ex12') (Srcs.one so12) ?_⟩⟩) fun H11 acc2 ex11 s11 hD11 hl11 hok11 => ?_
        · match i2, hv2 with
          | 0, hv2 => exact .inl (Option.some.inj hv2).symm
          | 1, hv2 => exact .inr (Option.some.inj hv2).symm
          | (i + 2), hv2 => simp at hv2
        have e911 := e10.trans ex11
        obtain ⟨t0, t1, t2, hL, hB, hall3⟩ := bad3_of (odd := v) hk (n := os.length) rfl ho hp' hb hl11 hok11
        refine ⟨p3, D2, _, _, rfl, rfl, e911.at_lst n3a l9, hD11, ?_, fun p5 hp5 => ?_⟩
        · rw [List.length_append]
          refine Nat.le_trans (?_ : _ ≤ 7) (by decide)
          show _ + 1 + acc2.length ≤ 7
          omega
        rw [hL]
        have e12 := e911.trans (Ex.upd_new (T := TT) (S := [a]) (o := .lst [t0, t1, t2]) hp5)
        have l12 : upd H11 p5 (.lst [t0, t1, t2]) p5 = some (.lst [t0, t1, t2]) := upd_same
        have so11 := s11 a (by simp)
        have so12 := so11.upd (o := .lst [t0, t1, t2]) (so11.ne hp5)
        generalize upd H11 p5 (.lst [t0, t1, t2]) = H12 at e12 l12 so12
        have ex6' := e69.trans e12
        have exT := ex16.trans ex6'
        have kn : ∀ y ∈ [t0, t1, t2], Kn H12 y := fun y hy => by
          rcases hall3 y hy with rfl | rfl | ⟨i, rfl⟩
          · exact oK.mono ex6'.tups
          · trivial
          · trivial
        have sq12 : SqL K H12 p5 [t0, t1, t2] := .inl (.inl l12)
        have raise : ∀ (D3 : Ends) (σ3 : L2.St) H13, Ex TT [] H12 H13 → True := fun _ _ _ _ => trivial
        refine ⟨_, rfl, _, rfl, .inl ⟨p5, _, 0, t0, rfl, rfl, sq12, rfl, ?_⟩⟩
        refine ⟨_, rfl, .inl ⟨p5, _, 1, t1, rfl, rfl, sq12, rfl, ?_⟩⟩
        refine ⟨_, rfl, .inl ⟨p5, _, 2, t2, rfl, rfl, sq12, rfl, ?_⟩⟩
        refine ⟨.ref t, d, t0, t1, t2, rfl, hd.mono exT.tups, kn _ (by simp), kn _ (by simp), kn _ (by simp), bad _ _, fun _ => ?_⟩
        rw [eL]
        obtain ⟨b0, b1, b2, b3⟩ := hB.cases oR
        have dpv := oT.mono ex6'.tups
        suffices RR : ∀ H', Ex TT [] H12 H' → Raised H' CL.BadState v _ by
          refine ⟨fun c => ?_, fun c c2 => ?_, fun c c2 c3 => ?_, fun o2 q2 b2 z1 z2 z3 l1 l2 l3 => ?_⟩
          · rw [b0 c]
            exact RR
          · rw [b1 c c2]
            exact RR
          · rw [b2 c c2 c3]
            exact RR
          · rw [z1, z2, z3] at b3
            exact (b3 ⟨inR_lt l1, inR_lt l2, inR_lt l3⟩).elim
        intro H13 ex13 dd H14 hd14 xd keep
        refine ⟨true, T.x_BadState, fun _ ae hae => ?_, fun z => Bool.noConfusion z⟩
        have ex1214 : Ex TT [] H12 H14 := ex13.trans (Ex.of_same keep)
        have dp := (dpv.mono ex1214.tups).dp (K := K)
        refine ⟨_, rfl, .ref CL.BadState, .ref CL.BadState, true, CL.BadState, dd, _, rfl, rfl, rfl, T.e_BadState.er, xd, fun u r => r, T.k_BadState_BadState, ?_⟩
        refine ⟨true, rfl, iteT ⟨_, rfl, rfl, rfl, dd, _, v, rfl, xd, rfl, v, dv, rfl, dp, oS.sho, oS.nod, oS.dep, oS.len, _, rfl, v, dv, rfl, dp, oS.sho, oS.nod, oS.dep, oS.len, rfl, ?_⟩⟩
        rw [sd_t]
        exact q _ (so12.ex ex1214 (by simp)) (exT.trans (ex1214.weak (by simp)))
end
end Ed

set_option Elab.async false
set_option linter.all false
set_option maxRecDepth 100000
set_option maxHeartbeats 4000000
namespace Ed
open PySem PySem.Spec PyProof.Rows L2
section
variable {cl : List (Str × Addr)} {fr : List Str} {ws : List (Option V)} {H : Hp}
theorem CellsT.nb (C : CellsT cl fr ws H) : ∀ b u, H b = some u → (∀ o, u ≠ .frz o (.own 0)) → ¬ ∃ y, cl.lookup y = some b := fun b u e d q => by
  obtain ⟨o, z⟩ := C.known q
  rw [z] at e
  exact d o (Option.some.inj e).symm
theorem CellsT.tp (C : CellsT cl fr ws H) {b : Addr} {xs : List V} (t : Tp H b xs) : Tp (unc cl H) b xs := by
  obtain ⟨o, e, d⟩ := t
  exact ⟨o, (unc_out (C.nb b _ e (by simp))).trans e, d⟩
theorem CellsT.kn (C : CellsT cl fr ws H) {v : V} (k : Kn H v) : Kn (unc cl H) v := k.mono fun b xs t => C.tp t
theorem CellsT.tabs {T : List (Addr × Str)} (C : CellsT cl fr ws H) (t : LamX.Tabs T H) : LamX.Tabs T (unc cl H) := fun p hp => by
  obtain ⟨ps, a1, a2, a3⟩ := t p hp
  refine ⟨ps, (unc_out (C.nb _ _ a1 (by simp))).trans a1, a2, fun p' cv hc => ?_⟩
  obtain ⟨c, c1, c2⟩ := a3 p' cv hc
  exact ⟨c, c1, (unc_out (C.nb _ _ c2 (by unfold LamX.CodeO; simp))).trans c2⟩
theorem CellsT.raised (C : CellsT cl fr ws H) {D : Addr} {v : V} {E : XK} (r : Raised H D v E) : Raised (unc cl H) D v (fun cls d H' => NoCell cl H' → E cls d (rec_ cl H H')) := by
  intro d H2 hd hx keep n0
  have nd : ¬ ∃ y, cl.lookup y = some d := fun ⟨y, hy⟩ => by
    rw [n0 y d hy] at hx
    cases hx
  refine r d _ ((unc_out nd).symm.trans hd) ((rec_out nd).trans hx) fun c u e => ?_
  by_cases z : ∃ y, cl.lookup y = some c
  · exact (rec_in z).trans e
  · exact (rec_out z).trans (keep c u ((unc_out z).trans e))
end
theorem odd2_ok {H : Hp} {p : Addr} {i : Nat} {v : V} (hp : Tp H p [.int 2]) (h : [V.int 0, V.int 13, V.int (0 - 1), V.non, V.str "3", V.int (10 ^ (20 : Int).toNat), V.ref p][i]? = some v) :
    inR v 1 12 = false ∧ Kn H v ∧ ∃ dv, Td H v dv ∧ Sh dv := by
  match i, h with
  | 0, h =>
    cases Option.some.inj h
    exact ⟨rfl, trivial, _, .int _, by decide +kernel, by decide +kernel, by decide +kernel, by decide +kernel⟩
  | 1, h =>
    cases Option.some.inj h
    exact ⟨rfl, trivial, _, .int _, by decide +kernel, by decide +kernel, by decide +kernel, by decide +kernel⟩
  | 2, h =>
    cases Option.some.inj h
    exact ⟨rfl, trivial, _, .int _, by decide +kernel, by decide +kernel, by decide +kernel, by decide +kernel⟩
  | 3, h =>
    cases Option.some.inj h
    exact ⟨rfl, trivial, _, .non, by decide +kernel, by decide +kernel, by decide +kernel, by decide +kernel⟩
  | 4, h =>
    cases Option.some.inj h
    exact ⟨rfl, trivial, _, .str _, by decide +kernel, by decide +kernel, by decide +kernel, by decide +kernel⟩
  | 5, h =>
    cases Option.some.inj h
    exact ⟨by decide +kernel, trivial, _, .int _, by decide +kernel, by decide +kernel, by decide +kernel, by decide +kernel⟩
  | 6, h =>
    cases Option.some.inj h
    exact ⟨rfl, ⟨_, hp⟩, .tuple [.int 2], .tup hp (.cons (.int 2) .nil), by decide +kernel, by decide +kernel, by decide +kernel, by decide +kernel⟩
  | (i + 7), h => simp at h
theorem words_ok {i : Nat} {x : V} (h : [V.str "turn", V.str "sides", V.str "once", V.str "greater"][i]? = some x) : ∃ w f, x = .str w ∧ RuleOf w f := by
  match i, h with
  | 0, h =>
    cases Option.some.inj h
    exact ⟨_, _, rfl, .turn⟩
  | 1, h =>
    cases Option.some.inj h
    exact ⟨_, _, rfl, .sides⟩
  | 2, h =>
    cases Option.some.inj h
    exact ⟨_, _, rfl, .once⟩
  | 3, h =>
    cases Option.some.inj h
    exact ⟨_, _, rfl, .greater⟩
  | (i + 4), h => simp at h
theorem sizes_ok {x y : Int} {b : Bool} (hx : 0 ≤ x ∧ x < 6) (hy : 0 ≤ y ∧ y < 6) : ∀ z ∈ [V.int (1 + x), V.int (1 + y)] ++ (List.replicate (if b = true then (1 : Int) else 0).toNat [V.int 12]).flatten, ∃ n : Nat, z = .int n ∧ 1 ≤ n ∧ n ≤ 12 := by
  intro z hz
  rcases List.mem_append.mp hz with hz | hz
  · simp only [List.mem_cons, List.mem_nil_iff, or_false] at hz
    rcases hz with rfl | rfl
    · exact ⟨(1 + x).toNat, by rw [Int.toNat_of_nonneg (by omega)], by omega, by omega⟩
    · exact ⟨(1 + y).toNat, by rw [Int.toNat_of_nonneg (by omega)], by omega, by omega⟩
  · cases b with
    | false => exact absurd hz (by simp)
    | true =>
      have hz : z ∈ [V.int 12] := by simpa using hz
      rw [List.mem_singleton.mp hz]
      exact ⟨12, rfl, by decide, by decide⟩
section
variable {P : Program} {w : World} {K : PySem.W.Frag} {mg : Str → Option Value} {base : Heap} {TT : List (Addr × Str)} {CL : Cl}
def spLaw (K : PySem.W.Frag) (TT : List (Addr × Str)) : Sp := fun vs H Q _ => ∃ (l : Addr) (ns : List Int), vs = [.ref l] ∧ SqL K H l (ns.map V.int) ∧ LamX.Tabs TT H ∧ ∀ H', Q (.bl true) H'
/-- what the law's lambda does -/
def spLawL (TT : List (Addr × Str)) (c : Cl) : List (Option V) → Sp := fun ws vs H Q E => vs = [] ∧ ∃ v x f, ws = [some v, some (.str x)] ∧ Kn H v ∧ RuleOf x f ∧ LamX.Tabs TT H ∧ inR v 1 12 = false ∧ Raised H c.BadMany v E
theorem v_law (T : Txt K mg base TT CL) (c__law_pool : CalV P w K mg base 1 "_law_pool" (spPool K TT)) (c__law_take : CalV P w K mg base 1 "_law_take" (spTake TT)) (c__law_own_table : CalV P w K mg base 2 "_law_own_table" (spOwnT TT)) (c__law_told_by : CalV P w K mg base 6 "_law_told_by" (spTold TT CL)) (c__law_table_right : CalV P w K mg base 6 "_law_table_right" (spTabR TT)) (c__law_gapped : CalV P w K mg base 2 "_law_gapped" (spGapped TT)) (c__law_one : CalV P w K mg base 2 "_law_one" (spOne K TT)) (c__law_is_refused : CalV P w K mg base 9 "_law_is_refused" (spIsRef P w K mg base TT CL)) : CalV P w K mg base 10 "law" (spLaw K TT) := by
  obtain ⟨f, cc, PP, D, hm, TB, hPT, hPU⟩ := T.d_law
  have sc := sc_law
  let N : List Str := n_law
  refine D.cal hm (fnv_def D sc (fun vs H Q E h => ?_) fun A outer s H vs Q E hr h => ?_)
  · obtain ⟨l, ns, rfl, _⟩ := h
    rfl
  · obtain ⟨l, ns, rfl, hs, ht, q⟩ := h
    refine ⟨_, (pss_cons (ps_asg (pe_vn c__law_pool hr (by decide) rfl (pa_cons (pv 0) (pa_cons pe_int pa_nil))) (pg_name (i := 1) sc.nd rfl (by first | exact Or.inl rfl | exact Or.inr rfl)))
      (pss_cons (ps_asg (pe_op op_cat (pe_lst (pa_cons (pe_op op_add pe_int (pe_vn c__law_take hr (by decide) rfl (pa_cons (pv 1) (pa_cons pe_int pa_nil)))) (pa_cons (pe_op op_add pe_int (pe_vn c__law_take hr (by decide) rfl (pa_cons (pv 1) (pa_cons pe_int pa_nil)))) pa_nil))) (pe_op op_rep (pe_lst (pa_cons pe_int pa_nil)) (pe_callTy call_int1 (by rfl) T.n_int (by decide +kernel) (pa_cons (pe_cmpR op_eq (pe_vn c__law_take hr (by decide) rfl (pa_cons (pv 1) (pa_cons pe_int pa_nil))) pe_int (nomark _)) pa_nil)))) (pg_name (i := 2) sc.nd rfl (by first | exact Or.inl rfl | exact Or.inr rfl)))
      (pss_cons (ps_for (passes_of rfl) rfl (pi_list (pv 2)) (pg_name (i := 3) sc.nd rfl (by first | exact Or.inl rfl | exact Or.inr rfl)) (pss_cons (ps_for (passes_of rfl) rfl (pi_list (pe_lst (pa_cons pe_str (pa_cons pe_str (pa_cons pe_str (pa_cons pe_str pa_nil)))))) (pg_name (i := 4) sc.nd rfl (by first | exact Or.inl rfl | exact Or.inr rfl)) (pss_cons (ps_asg (pe_vn c__law_own_table hr (by decide) rfl (pa_cons (pv 3) (pa_cons (pv 4) pa_nil))) (pg_name (i := 5) sc.nd rfl (by first | exact Or.inl rfl | exact Or.inr rfl)))
      (pss_one (ps_if (PW.pt (pw_or (pt_cmpR op_ne (pe_callB (call_repr hr.g hr.u65) (by rfl) T.n_repr (by decide +kernel) (pa_cons (pe_vn c__law_told_by hr (by decide) rfl (pa_cons (pv 3) (pa_cons (pv 4) pa_nil))) pa_nil)) (pe_callB (call_repr hr.g hr.u65) (by rfl) T.n_repr (by decide +kernel) (pa_cons (pv 5) pa_nil)) (nomark _)) (pw_or1 (pt_not (pt_val (pe_vn c__law_table_right hr (by decide) rfl (pa_cons (pv 1) (pa_cons (pv 5) pa_nil)))))))) (pss_one (ps_ret pe_bl)) pss_nil))))
      (pss_one (ps_if (pt_not (pt_val (pe_vn c__law_table_right hr (by decide) rfl (pa_cons (pv 1) (pa_cons (pe_vn c__law_gapped hr (by decide) rfl (pa_cons (pv 1) (pa_cons (pe_vn c__law_own_table hr (by decide) rfl (pa_cons (pv 3) (pa_cons pe_str pa_nil))) (pa_cons (pe_op op_add pe_int (pe_vn c__law_take hr (by decide) rfl (pa_cons (pv 1) (pa_cons pe_int pa_nil)))) pa_nil)))) pa_nil))))) (pss_one (ps_ret pe_bl)) pss_nil))))
      (pss_cons (ps_asg (pe_vn c__law_one hr (by decide) rfl (pa_cons (pv 1) (pa_cons (pe_lst (pa_cons pe_int (pa_cons pe_int (pa_cons (pe_op op_sub pe_int pe_int) (pa_cons pe_non (pa_cons pe_str (pa_cons (pe_op op_pow pe_int pe_int) (pa_cons (pe_tupF (pa_cons pe_int pa_nil)) pa_nil)))))))) pa_nil))) (pg_name (i := 6) sc.nd rfl (by first | exact Or.inl rfl | exact Or.inr rfl)))
      (pss_cons (ps_for (passes_of rfl) rfl (pi_list (pe_lst (pa_cons pe_str (pa_cons pe_str (pa_cons pe_str (pa_cons pe_str pa_nil)))))) (pg_name (i := 7) sc.nd rfl (by first | exact Or.inl rfl | exact Or.inr rfl)) (pss_one (ps_if (pt_not (pt_val (pe_vc c__law_is_refused hr (by decide) rfl (fun _ => rfl) (pa_cons (pe_lam TB rfl (q_law ▸ hPT) (fun p hp e => (hPU p hp e).trans q_law.symm) rfl (by show ∀ y ∈ (_ : List (Str × NameKind)), y.2 = NameKind.free → List.lookup y.1 (defScope s_law).names = some .cell ∨ List.lookup y.1 (defScope s_law).names = some .free; decide +kernel)) (pa_cons (pv 6) pa_nil))))) (pss_one (ps_ret pe_bl)) pss_nil)))
      (pss_one (ps_ret pe_bl))))))), ?_⟩
    refine ⟨_, rfl, l, ns, 0, rfl, hs, by decide, fun a H1 _ ex1 so1 => ?_⟩
    have ht1 := ex1.tabs ht
    clear ex1 ht
    -- the sizes
    refine ⟨_, rfl, a, 6, rfl, so1, by decide, by decide, fun x H2 x0 x1 so2 ex2 => ⟨_, _, rfl, rfl, _, rfl, a, 6, rfl, so2, by decide, by decide, fun y H3 y0 y1 so3 ex3 => ⟨_, _, rfl, rfl, (by show 2 ≤ sizeLine; decide), fun p1 hp1 => ?_⟩⟩⟩
    have notA : ∀ {H : Hp} {p : Addr}, SrcOk H a → H p = none → p ∉ [a] := fun {H p} so hp z => by
      rw [List.mem_singleton.mp z] at hp
      exact so.ne hp rfl
    have ht3 := ex3.tabs (ex2.tabs ht1)
    have e4 : Ex TT [a] H3 (upd H3 p1 (.lst [.int (1 + x), .int (1 + y)])) := Ex.upd_new hp1
    have l4 : upd H3 p1 (.lst [.int (1 + x), .int (1 + y)]) p1 = some (.lst [.int (1 + x), .int (1 + y)]) := upd_same
    have so4 := so3.upd (o := .lst [.int (1 + x), .int (1 + y)]) (so3.ne hp1)
    have na1 := notA so3 hp1
    generalize upd H3 p1 (.lst [.int (1 + x), .int (1 + y)]) = H4 at e4 l4 so4
    have ht4 := e4.tabs ht3
    refine ⟨(by show 1 ≤ sizeLine; decide), fun p2 hp2 => ?_⟩
    have e5 : Ex TT [a] H4 (upd H4 p2 (.lst [.int 12])) := Ex.upd_new hp2
    have l5 : upd H4 p2 (.lst [.int 12]) p2 = some (.lst [.int 12]) := upd_same
    have so5 := so4.upd (o := .lst [.int 12]) (so4.ne hp2)
    have na2 := notA so4 hp2
    generalize upd H4 p2 (.lst [.int 12]) = H5 at e5 l5 so5
    refine ⟨_, rfl, a, 24, rfl, so5, by decide, by decide, fun r H6 r0 r1 so6 ex6 => ⟨rfl, .inr ⟨_, rfl, ?_⟩⟩⟩
    generalize decide (V.int r = V.int 0) = bt
    have l6 := ex6.at_lst na2 l5
    have b1 : 0 ≤ (if bt = true then (1 : Int) else 0) ∧ (if bt = true then (1 : Int) else 0) ≤ 1 := by
      cases bt <;> decide
    have b2 : (if bt = true then (1 : Int) else 0).toNat ≤ 1 := by
      omega
    refine ⟨p2, _, _, rfl, rfl, l6, by omega, by omega, ?_, fun p3 hp3 => ?_⟩
    · show 1 * (if bt = true then (1 : Int) else 0).toNat ≤ sizeLine
      exact Nat.le_trans (by omega : _ ≤ 1) (by decide)
    have sz := sizes_ok (b := bt) ⟨x0, x1⟩ ⟨y0, y1⟩
    have fl : (List.replicate (if bt = true then (1 : Int) else 0).toNat [V.int 12]).flatten.length ≤ 1 := by
      cases bt <;> decide
    generalize (List.replicate (if bt = true then (1 : Int) else 0).toNat [V.int 12]).flatten = ls at sz fl
    have e7 : Ex TT [a] H6 (upd H6 p3 (.lst ls)) := Ex.upd_new hp3
    have l7 : upd H6 p3 (.lst ls) p3 = some (.lst ls) := upd_same
    have so7 := so6.upd (o := .lst ls) (so6.ne hp3)
    generalize upd H6 p3 (.lst ls) = H7 at e7 l7 so7
    refine ⟨p1, p3, _, _, rfl, rfl, ((e5.trans ex6).trans e7).at_lst na1 l4, l7, ?_, fun p4 hp4 => ?_⟩
    · show 2 + ls.length ≤ sizeLine
      exact Nat.le_trans (by omega : _ ≤ 3) (by decide)
    have ht7 := e7.tabs (ex6.tabs (e5.tabs ht4))
    have e8 : Ex TT [a] H7 (upd H7 p4 (.lst ([V.int (1 + x), .int (1 + y)] ++ ls))) := Ex.upd_new hp4
    have l8 : upd H7 p4 (.lst ([V.int (1 + x), .int (1 + y)] ++ ls)) p4 = some (.lst ([V.int (1 + x), .int (1 + y)] ++ ls)) := upd_same
    have so8 := so7.upd (o := .lst ([V.int (1 + x), .int (1 + y)] ++ ls)) (so7.ne hp4)
    have na4 := notA so7 hp4
    have ht8 := e8.tabs ht7
    generalize upd H7 p4 (.lst ([V.int (1 + x), .int (1 + y)] ++ ls)) = H8 at e8 l8 so8 ht8
    generalize [V.int (1 + x), .int (1 + y)] ++ ls = zs at sz l8
    clear e4 l4 so4 ht4 e5 l5 so5 ex6 so6 e7 l7 so7 ht7 e8 ex2 ex3 so3 ht3 so2 hp1 hp2 hp3 hp4 l6
    -- each size
    refine ⟨_, rfl, p4, rfl, ⟨_, .inl (.inl l8)⟩, for_list (K := K) (a := p4) (xs := zs) (fun i σ H' => ∃ v3 v4 v5, σ = [some (.ref l), some (.ref a), some (.ref p4), v3, v4, v5, none, none] ∧ Ex TT [a] H8 H' ∧ SrcOk H' a) ⟨_, _, _, rfl, Ex.refl _, so8⟩ ?_ ?_ ?_⟩
    · rintro i σ H' _ ⟨_, _, _, rfl, e, _⟩
      exact .inl (.inl (e.at_lst na4 l8))
    · rintro i z σ H9 hz ⟨v3, v4, v5, rfl, ex9, so9⟩
      obtain ⟨n, rfl, n1, n2⟩ := sz z (List.mem_of_getElem? hz)
      have ht9 := ex9.tabs ht8
      -- each word
      refine ⟨(by show 4 ≤ sizeLine; decide), fun lw hlw => ?_⟩
      have na5 := notA so9 hlw
      have e10 : Ex TT [a] H9 (upd H9 lw (.lst [.str "turn", .str "sides", .str "once", .str "greater"])) := Ex.upd_new hlw
      have l10 : upd H9 lw (.lst [.str "turn", .str "sides", .str "once", .str "greater"]) lw = some (.lst [.str "turn", .str "sides", .str "once", .str "greater"]) := upd_same
      have so10 := so9.upd (o := .lst [.str "turn", .str "sides", .str "once", .str "greater"]) (so9.ne hlw)
      generalize upd H9 lw (.lst [V.str "turn", .str "sides", .str "once", .str "greater"]) = H10 at e10 l10 so10
      refine ⟨lw, rfl, ⟨_, .inl (.inl l10)⟩, for_list (K := K) (a := lw) (xs := [V.str "turn", .str "sides", .str "once", .str "greater"]) (fun i σ H' => ∃ v4 v5, σ = [some (.ref l), some (.ref a), some (.ref p4), some (.int (n : Int)), v4, v5, none, none] ∧ Ex TT [a] H10 H' ∧ SrcOk H' a) ⟨_, _, rfl, Ex.refl _, so10⟩ ?_ ?_ ?_⟩
      · rintro i σ H' _ ⟨_, _, rfl, e, _⟩
        exact .inl (.inl (e.at_lst na5 l10))
      · rintro i z σ H11 hw ⟨v4, v5, rfl, ex11, so11⟩
        obtain ⟨wd, f, rfl, hwf⟩ := words_ok hw
        have ht11 := ex11.tabs (e10.tabs ht9)
        refine ⟨_, rfl, _, rfl, n, wd, f, rfl, n1, by omega, hwf, fun v H12 ex12 hv => ?_⟩
        have good := cube_right hwf n1 n2
        obtain ⟨os, G⟩ := goodT good
        have sh := G.sh
        have ht12 := ex12.tabs ht11
        refine ⟨_, rfl, _, rfl, .int (n : Int), wd, f, rfl, trivial, hwf, ht12, fun n' en _ _ v' H13 ex13 hv' => ?_, fun c => ?_⟩
        · obtain rfl : n = n' := by
            have := V.int.inj en
            omega
          have hv2 := hv.mono ex13.tups
          have ex1113 : Ex TT [a] H11 H13 := (ex12.trans ex13).weak (by simp)
          have so13 := so11.ex (ex12.trans ex13) (by simp)
          refine ⟨v', _, rfl, hv'.dp, sh.sho, sh.nod, sh.dep, sh.len, _, rfl, v, _, rfl, hv2.dp, sh.sho, sh.nod, sh.dep, sh.len, rfl, _, rfl, ?_⟩
          rw [sne]
          refine iteF ⟨_, rfl, _, rfl, a, v, _, rfl, so13, hv2, good, fun H14 so14 ex14 => ?_⟩
          exact ⟨true, rfl, iteF ⟨_, _, rfl, ex11.trans (ex1113.trans ex14), so14⟩⟩
        · rw [show inR (.int (n : Int)) 1 12 = true by
            show (decide ((1 : Int) ≤ n) && decide ((n : Int) ≤ 12)) = true
            rw [decide_eq_true (by omega), decide_eq_true (by omega)]
            rfl] at c
          cases c
      · rintro σ H11 ⟨v4, v5, rfl, ex11, so11⟩
        have good := cube_right RuleOf.turn n1 n2
        obtain ⟨os, G⟩ := goodT good
        have gl := G.low
        have gh := G.high
        refine ⟨_, rfl, _, rfl, _, rfl, n, "turn", turnF, rfl, n1, by omega, .turn, fun v H12 ex12 hv => ?_⟩
        have so12 := so11.ex ex12 (by simp)
        rw [G.eq] at hv
        refine ⟨_, rfl, a, 6, rfl, so12, by decide, by decide, fun r H13 r0 r1 so13 ex13 => ⟨_, _, rfl, rfl, a, v, os, _, rfl, so13, hv.mono ex13.tups, gl, gh, G.sid, by omega, by omega, fun v' d' H14 so14 ex14 hv' good' => ?_⟩⟩
        have ex1114 : Ex TT [a] H11 H14 := (ex12.weak (by simp)).trans (ex13.trans ex14)
        refine ⟨a, v', d', rfl, so14, hv', good', fun H15 so15 ex15 => ⟨true, rfl, iteF ⟨_, _, _, rfl, ?_, so15⟩⟩⟩
        exact ex9.trans (e10.trans (ex11.trans (ex1114.trans ex15)))
    · rintro σ H9 ⟨v3, v4, v5, rfl, ex9, so9⟩
      have ht9 := ex9.tabs ht8
      refine ⟨_, rfl, _, _, rfl, rfl, 10, 20, rfl, rfl, ⟨by decide, by decide, by decide⟩, (by show 1 ≤ sizeLine; decide), fun p ob hp hob => ⟨(by show 7 ≤ sizeLine; decide), fun l2 hl2 => ?_⟩⟩
      have e10 : Ex TT [a] H9 (upd H9 p (.frz ob (.tup [.int 2]))) := Ex.upd_new hp
      have hp10 : Tp (upd H9 p (.frz ob (.tup [.int 2]))) p [.int 2] := Tp.made hob
      have so10 := so9.upd (o := .frz ob (.tup [.int 2])) (so9.ne hp)
      generalize upd H9 p (.frz ob (.tup [V.int 2])) = H10 at hl2 e10 hp10 so10
      have e11 : Ex TT [a] H10 (upd H10 l2 (.lst [V.int 0, .int 13, .int (0 - 1), .non, .str "3", .int (10 ^ (20 : Int).toNat), .ref p])) := Ex.upd_new hl2
      have hp11 := TX.new (o := .lst [V.int 0, .int 13, .int (0 - 1), .non, .str "3", .int (10 ^ (20 : Int).toNat), .ref p]) hl2 _ _ hp10
      have so11 := so10.upd (o := .lst [V.int 0, .int 13, .int (0 - 1), .non, .str "3", .int (10 ^ (20 : Int).toNat), .ref p]) (so10.ne hl2)
      have l11 : upd H10 l2 (.lst [V.int 0, .int 13, .int (0 - 1), .non, .str "3", .int (10 ^ (20 : Int).toNat), .ref p]) l2 = some (.lst [V.int 0, .int 13, .int (0 - 1), .non, .str "3", .int (10 ^ (20 : Int).toNat), .ref p]) := upd_same
      generalize upd H10 l2 (.lst [V.int 0, .int 13, .int (0 - 1), .non, .str "3", .int (10 ^ (20 : Int).toNat), .ref p]) = H11 at e11 hp11 so11 l11
      refine ⟨a, l2, [V.int 0, .int 13, .int (0 - 1), .non, .str "3", .int (10 ^ (20 : Int).toNat), .ref p], rfl, so11, l11, so10.ne hl2, (by show 1 ≤ 7; decide), (by show 7 < 1000000000; decide), fun i v H12 hv so12 ex12 => ?_⟩
      obtain ⟨oR, oK, dv, oT, oS⟩ := odd2_ok (ex12.tups _ _ hp11) hv
      have ht12 := ex12.tabs (e11.tabs (e10.tabs ht9))
      refine ⟨(by show 4 ≤ sizeLine; decide), fun lw hlw => ?_⟩
      have e13 : Ex TT [] H12 (upd H12 lw (.lst [.str "turn", .str "sides", .str "once", .str "greater"])) := Ex.upd_new hlw
      have l13 : upd H12 lw (.lst [.str "turn", .str "sides", .str "once", .str "greater"]) lw = some (.lst [.str "turn", .str "sides", .str "once", .str "greater"]) := upd_same
      generalize upd H12 lw (.lst [V.str "turn", .str "sides", .str "once", .str "greater"]) = H13 at e13 l13
      have ht13 := e13.tabs ht12
      have oK := oK.mono e13.tups
      have oT := oT.mono e13.tups
      refine ⟨lw, rfl, ⟨_, .inl (.inl l13)⟩, for_list (K := K) (a := lw) (xs := [V.str "turn", .str "sides", .str "once", .str "greater"]) (fun i σ H' => ∃ v7, σ = [some (.ref l), some (.ref a), some (.ref p4), v3, v4, v5, some v, v7] ∧ Ex TT [] H13 H') ⟨_, rfl, Ex.refl _⟩ ?_ ?_ ?_⟩
      · rintro i σ H' _ ⟨_, rfl, e⟩
        exact .inl (.inl (e.at_lst (by simp) l13))
      · rintro i z σ H14 hw ⟨v7, rfl, ex14⟩
        obtain ⟨wd, f, rfl, hwf⟩ := words_ok hw
        refine ⟨ex14.tabs ht13, fun g c' pm ctv H15 eN T1 n1 g1 k1 nc => ⟨_, rfl, fun Hc C => ?_⟩⟩
        have ex15 : Ex TT [] H14 H15 := Ex.ofExt eN T1
        have F := fnv_lamAt (P := P) (w := w) (K := K) (mg := mg) (base := base) ["odd", "call"] [] ["odd", "call"] 7 (spLawL TT CL) g1 (NdefX.nscope_by (by decide +kernel)) (fun us hl => by
            match us, hl with
            | [], _ => rfl) (fun ws vs H Q E h => by
            obtain ⟨rfl, _⟩ := h
            rfl) nc (fun A outer s H vs ws Q E hr C h => by
            obtain ⟨rfl, v, x, f, rfl, hk, hx, tb, hin, hra⟩ := h
            refine ⟨_, (pe_v (E := fun _ => fun cls d H' => NoCell _ H' → E cls d (rec_ _ H H')) c__law_told_by hr (by decide) rfl (fun σ => passAt (takes_of rfl rfl rfl rfl) σ) (pa_cons (pv 0) (pa_cons (pv 1) pa_nil))), ?_⟩
            refine ⟨_, rfl, _, rfl, v, x, f, rfl, C.kn hk, hx, C.tabs tb, fun n en l1 l2 => ?_, fun _ => C.raised hra⟩
            rw [en] at hin
            have : inR (.int (n : Int)) 1 12 = true := by
              show (decide ((1 : Int) ≤ n) && decide ((n : Int) ≤ 12)) = true
              rw [decide_eq_true (by omega), decide_eq_true (by omega)]
              rfl
            rw [this] at hin
            cases hin)
        have exc : TX H13 Hc := (ex14.tups.trans ex15.tups).trans (TX.of fun b o e => C.same e)
        have tabc : LamX.Tabs TT Hc := (ex15.tabs (ex14.tabs ht13)).ext fun b o e => C.same e
        refine ⟨g, v, dv, _, rfl, F, .inr ⟨_, _, _, _, _, C.same g1⟩, oT.mono exc, oS, fun Q' E' ra => ⟨C.same g1, C.same k1, [some v, some (.str wd)], ?_, rfl, v, wd, f, rfl, oK.mono exc, hwf, tabc, oR, ra⟩, fun H' ex => ⟨true, rfl, iteF ⟨_, rfl, (ex14.trans ex15).trans (Ex.uncov C (by simp) ex)⟩⟩⟩
        refine C.cells (js := [6, 7]) ?_ ?_ ?_ rfl
        · show ∀ y ∈ (_ : List (Str × NameKind)), y.2 = NameKind.free → List.lookup y.1 (defScope s_law).names = some .cell ∨ List.lookup y.1 (defScope s_law).names = some .free
          decide +kernel
        · intro y hy e
          have z : y.1 = "odd" ∨ y.1 = "call" := by
            revert y
            show ∀ y ∈ (_ : List (Str × NameKind)), y.2 = NameKind.free → y.1 = "odd" ∨ y.1 = "call"
            decide +kernel
          rcases z with z | z
          · rw [z]
            obtain ⟨c, hc, _⟩ := C.slot 6 "odd" rfl (.inl rfl)
            exact ⟨c, hc⟩
          · rw [z]
            obtain ⟨c, hc, _⟩ := C.slot 7 "call" rfl (.inl rfl)
            exact ⟨c, hc⟩
        · decide +kernel
      · rintro σ H14 ⟨v7, rfl, ex14⟩
        exact q _
end
end Ed

set_option Elab.async false
set_option linter.all false
set_option maxRecDepth 100000
set_option maxHeartbeats 4000000
/-! Ed: the end of a law's row by functions with room and guards. -/
namespace Ed
open PySem PySem.Spec PyProof.Rows L2
/-- a class of errors as the text has it: all that is asked of it -/
def oexB (K : PySem.W.Frag) (C : Addr) : Bool := match K.lookup C with
  | some ⟨.type "type", _, .cls cd, sl⟩ => (match cd.mro, sl.toList with
    | .ref C' :: bm, [_, _, _, _, some (.builtin n), _] => C' == C && n == "ValueError.__new__" && cd.hasDict && !cd.hasDel && PySem.HandSPX.refsVE bm
    | _, _ => false)
  | _ => false
theorem oexB_ok {K : PySem.W.Frag} {C : Addr} (q : oexB K C = true) : ∃ nm q N bs bm sn sub ab col dd k0 k1 k2 k3 k5, K.lookup C = some (excClassObj nm q C N bs bm true sn sub ab col dd k0 k1 k2 k3 k5 "ValueError.__new__") ∧ PySem.HandSPX.refsVE bm = true := by
  unfold oexB at q
  split at q
  · rename_i dd cd sl ho
    split at q
    · rename_i C' bm k0 k1 k2 k3 n k5 hm hs
      simp only [Bool.and_eq_true, beq_iff_eq, Bool.not_eq_true'] at q
      obtain ⟨⟨⟨⟨e1, e2⟩, e3⟩, e4⟩, e5⟩ := q
      obtain ⟨nm, bs, mro, ns, qn, hd, sn, sub, ab, col, del⟩ := cd
      obtain ⟨l⟩ := sl
      dsimp only at hm hs e3 e4
      subst e1 e2 e3 e4 hm hs
      exact ⟨_, _, _, _, _, _, _, _, _, _, _, _, _, _, _, ho, e5⟩
    · cases q
  · cases q
def errB (K : PySem.W.Frag) (C fI : Addr) : Bool :=
  oexB K C && (decide (PySem.W.findIn K (.ref C) "__setattr__" = some (some (.builtin "object.__setattr__"))) && (decide (PySem.W.subIn K (.ref C) (.type "BaseException") = some true) && (decide (PySem.W.typeIn K (.ref C) = some (.type "type")) && (PySem.W.keepIn K (.ref C) &&
  (decide (PySem.W.findIn K (.ref C) "__init__" = some (some (.ref fI))) && (decide (PySem.W.findIn K (.ref C) "what" = some none) &&
  (decide (PySem.W.findIn K (.ref C) "__getattribute__" = some (some (.builtin "BaseException.__getattribute__"))) && (decide (PySem.W.findIn K (.ref C) "__getattr__" = some none) && (PySem.W.hasDictIn K C &&
  (decide (PySem.W.findIn K (.ref C) "__class__" = some (some (.builtin "object.__class__"))) && (decide (PySem.W.specialIn K (.builtin "object.__class__") "__get__" = some (some (.builtin "getset_descriptor.__get__"))) && (decide (PySem.W.takesIn K (.builtin "object.__class__") = some true) && decide (PySem.W.mroIn K C (.type "object") = some true)))))))))))))
theorem errB_ok {K : PySem.W.Frag} {mg : Str → Option Value} {x : Str} {C fI : Addr} (q : errB K C fI = true) (m : mg x = some (.ref C)) : ErrK K mg x C fI := by
  unfold errB at q
  simp only [Bool.and_eq_true, decide_eq_true_eq] at q
  obtain ⟨q1, q2, q3, q4, q5, q6, q7, q8, q9, q10, q11, q12, q13, q14⟩ := q
  exact ⟨⟨oexB_ok q1, q2, q3, q4, q5⟩, q6, q7, m, ⟨q8, q9, q3, q10, q11, q12, q13, q14⟩⟩
/-- a def of the text off the head's facts -/
theorem defAt_of {K : PySem.W.Frag} {mg : Str → Option Value} {x : Str} {st : Stmt} {ps : List Str} {f : Addr} {fd : FuncData} (F : FunD K x x (defArgs st) (defBody st) (defScope st) [] [] f fd)
    (hb : ∀ (kV doc pm cd : Value) (an : Option Addr) (ct : Value) (us : List Value), us.length = ps.length → bindArgs (PySem.W.fnOf x x (defArgs st) (defBody st) (defScope st) .none kV doc pm an cd ct) ⟨us, []⟩ = pure (ps.zip us)) :
    DefAt K mg x x st ps f fd.code := by
  obtain ⟨oc, od, dV, kV, doc, pm, an, cdv, ct, osl, rfl, lk, cd, dfl, _⟩ := F.ex
  have e : dV = .none := by
    rcases dfl with ⟨_, z⟩ | ⟨z, _⟩
    · exact z
    · exact (z rfl).elim
  subst e
  exact ⟨⟨oc, od, kV, doc, pm, an, ct, osl, lk⟩, cd, F.kp, fun kV doc pm an ct us h => hb kV doc pm _ an ct us h⟩
theorem code_ref {K : PySem.W.Frag} {x : Str} {st : Stmt} {ps : List Str} {f : Addr} {fd : FuncData} (F : FunD K x x (defArgs st) (defBody st) (defScope st) [] [] f fd) (hf : He.fAd K (x, none) = f) : fd.code = .ref (He.cT K (x, none)).1 := by
  obtain ⟨oc, od, dV, kV, doc, pm, an, cdv, ct, osl, rfl, lk, cd, _, _⟩ := F.ex
  obtain ⟨c, rfl⟩ := He.codeIn_ref cd
  subst hf
  rw [show (He.cT K (x, none)).1 = He.codeOf K (x, none) from rfl, He.codeOf_eq lk rfl]
end Ed

set_option Elab.async false
set_option linter.all false
set_option maxRecDepth 100000
set_option maxHeartbeats 4000000
/-! Ed: a law's row, its function known with room and guards, tables of code objects in use. -/
namespace Ed
open PySem PySem.Spec PyProof.Rows L2
/-- what is known at the law's start: the tables are empty; the script, unless it is the text's own -/
def startH (ts : List Addr) (a : Addr) (o : HO) (tr : Bool) : Hp := fun b => if b ∈ ts then some (.tbl #[]) else if tr = true ∧ b = a then some o else none
theorem startH_tab {ts : List Addr} {a b : Addr} {o : HO} {tr : Bool} (h : b ∈ ts) : startH ts a o tr b = some (.tbl #[]) := if_pos h
theorem startH_list {ts : List Addr} {a : Addr} {o : HO} (h : a ∉ ts) : startH ts a o true a = some o := (if_neg h).trans (if_pos ⟨rfl, rfl⟩)
theorem startH_seen {ts : List Addr} {a b : Addr} {o u : HO} {tr : Bool} (h : startH ts a o tr b = some u) : (b ∈ ts ∧ u = .tbl #[]) ∨ (b ∉ ts ∧ tr = true ∧ b = a ∧ u = o) := by
  unfold startH at h
  by_cases h1 : b ∈ ts
  · rw [if_pos h1] at h
    exact .inl ⟨h1, (Option.some.inj h).symm⟩
  · rw [if_neg h1] at h
    by_cases h2 : tr = true ∧ b = a
    · rw [if_pos h2] at h
      exact .inr ⟨h1, h2.1, h2.2, (Option.some.inj h).symm⟩
    · rw [if_neg h2] at h
      cases h
theorem law_callV {P : Program} {w : World} {K : PySem.W.Frag} {mg mb : Str → Option Value} {k : Nat} {fa a : Addr} {cs : List (Addr × Addr)} {sp : Sp} {s₁ : Shared} {vs : List Value} {ns : List Int}
    (KX : K.In s₁.heap) (hns : s₁.heap.Ns mainGlobals mg) (hb : s₁.heap.Ns builtinsNs mb) (hbb : ∀ x : Str, x ≠ "__name__" → mb x = bootBuiltins x) (hlim : s₁.heap.NoLimit) (hg : s₁.gens = #[])
    (hT : ∀ p ∈ cs, s₁.heap.get? p.2 = some { cls := .none, data := .fields #[] }) (nT : ∀ p ∈ cs, K.lookup p.2 = none) (C : ∀ p ∈ cs, PySem.W.CodeHd s₁.heap p.1 p.2)
    (hbm : ∃ (bm : Addr) (ob : Obj), mg "__builtins__" = some (.ref bm) ∧ bm ≠ builtinsNs ∧ s₁.heap.get? bm = some ob ∧ ob.cls = .type "module" ∧ ob.dict = some builtinsNs ∧ ob.data = .plain)
    (ha : s₁.heap.get? a = some { cls := .type "list", data := .seq vs.toArray }) (hi : IntsAre vs ns) (hl : ns.length ≤ sizeLine) (hr : RoomG k callerA)
    (F : ∀ base : Heap, K.In base → base.Ns mainGlobals mg → (∀ p ∈ cs, LamX.TabB base mg p.1 p.2) → FnV P w K mg base k fa sp)
    (hsp : ∀ H : Hp, (∀ p ∈ cs, H p.2 = some (.tbl #[])) → SqL K H a (ns.map V.int) → sp [.ref a] H (fun v _ => v = .bl true) fun _ _ _ => False) :
    codeAny (model P w) callerA (.call (.ref fa) ⟨[.ref a], []⟩) (fun r s' => r = .ok (.ret (.bool true)) ∧ OldK s₁.heap s'.heap ∧ s'.os = s₁.os ∧ AllBare s'.gens) s₁ := by
  have rv := vals_ints hi
  have lenV := hi.length
  -- the tables, and that the script is none of them
  have tabO : ∀ b ∈ cs.map (·.2), s₁.heap.get? b = some { cls := .none, data := .fields #[] } := fun b hb => by
    obtain ⟨p, hp, rfl⟩ := List.mem_map.mp hb
    exact hT p hp
  have tabM : ∀ p ∈ cs, p.2 ∈ cs.map (·.2) := fun p hp => List.mem_map.mpr ⟨p, hp, rfl⟩
  have aT : a ∉ cs.map (·.2) := fun z => by
    have q := tabO a z
    rw [ha] at q
    have q2 := congrArg Obj.data (Option.some.inj q)
    dsimp only at q2
    cases q2
  obtain ⟨L, eL⟩ : ∃ L : HO, L = .frz { cls := .type "list", data := .seq vs.toArray } (.lst (ns.map V.int)) := ⟨_, rfl⟩
  obtain ⟨H, eH⟩ : ∃ H : Hp, H = startH (cs.map (·.2)) a L (K.lookup a).isNone := ⟨_, rfl⟩
  have seen : ∀ b u, H b = some u → (b ∈ cs.map (·.2) ∧ u = .tbl #[]) ∨ (b ∉ cs.map (·.2) ∧ (K.lookup a).isNone = true ∧ b = a ∧ u = L) := fun b u e => by
    rw [eH] at e
    exact startH_seen e
  have hH : ∀ p ∈ cs, H p.2 = some (.tbl #[]) := fun p hp => by
    rw [eH]
    exact startH_tab (tabM p hp)
  have hS : SqL K H a (ns.map V.int) := by
    cases e : K.lookup a with
    | some o =>
      have e2 := KX a o e
      rw [ha] at e2
      cases e2
      exact .inr ⟨_, vs.toArray, _, e, rfl, rfl, rfl, by rw [List.size_toArray, lenV]; exact hl, by simpa using rv⟩
    | none =>
      refine .inl (.inr ⟨{ cls := .type "list", data := .seq vs.toArray }, ?_⟩)
      rw [eH, e, ← eL]
      exact startH_list aT
  have hok : HOk P w H s₁.heap := fun b u e => by
    rcases seen b u e with ⟨h1, rfl⟩ | ⟨_, _, rfl, rfl⟩
    · exact tabO b h1
    · rw [eL]
      exact ⟨ha, by rw [List.length_map]; exact hl, vs, _, rv, ha⟩
  -- what is neither the script nor a table is in the base
  have stays : ∀ {b : Addr} {o : Obj}, s₁.heap.get? b = some o → (b = a → (K.lookup a).isNone = false) → b ∉ cs.map (·.2) → (hidT s₁.heap H).get? b = some o := fun {b o} e n1 n2 => hidT_get e (by
    cases q : H b with
    | none => rfl
    | some u =>
      rcases seen b u q with ⟨h1, _⟩ | ⟨_, h2, h3, _⟩
      · exact (n2 h1).elim
      · rw [n1 h3] at h2
        cases h2)
  have plain : ∀ {b : Addr} {o : Obj}, s₁.heap.get? b = some o → (∀ vs n, o.data ≠ .seq vs n) → o.data ≠ .fields #[] → (hidT s₁.heap H).get? b = some o := fun {b o} e n1 n2 => stays e (fun z => by
      rw [z, ha] at e
      cases e
      exact (n1 _ _ rfl).elim) fun z => by
      rw [tabO b z] at e
      cases e
      exact n2 rfl
  have nsB : ∀ {b : Addr} {m : Str → Option Value}, s₁.heap.Ns b m → (hidT s₁.heap H).Ns b m := fun {b m} ⟨o, es, ep, e, d, r⟩ => ⟨o, es, ep, plain e (fun vs n z => by rw [d] at z; cases z) (fun z => by rw [d] at z; cases z), d, r⟩
  have kB : K.In (hidT s₁.heap H) := fun b o e => stays (KX b o e) (fun z => by
      rw [z] at e
      rw [e]
      rfl) fun z => by
      obtain ⟨p, hp, ep⟩ := List.mem_map.mp z
      rw [← ep, nT p hp] at e
      cases e
  have mod : L2.Mod K mg (hidT s₁.heap H) := ⟨kB, nsB hns, ⟨mb, nsB hb, hbb⟩, by
    obtain ⟨mc, h1, h2⟩ := hlim
    exact ⟨mc, nsB h1, h2⟩⟩
  have nG : ∀ b ∈ cs.map (·.2), mainGlobals ≠ b := fun b hb z => by
    obtain ⟨o, es, ep, e, hd, _⟩ := hns
    rw [z, tabO b hb] at e
    cases e
    cases hd
  have TB : ∀ p ∈ cs, LamX.TabB (hidT s₁.heap H) mg p.1 p.2 := fun p hp => by
    refine ⟨?_, ?_, nG _ (tabM p hp)⟩
    · obtain ⟨o, us, file, tf, flags, tg, inF, text, tt, e1, r1, r2, r3, r4, r5, r6, r7, r8, hne⟩ := C p hp
      refine ⟨o, us, file, tf, flags, tg, inF, text, tt, plain e1 (fun vs n z => ?_) (fun z => ?_), r1, r2, r3, r4, r5, r6, r7, r8, hne⟩
      · rw [r2] at z
        cases z
      · rw [r2] at z
        cases z
        simp at r3
    · obtain ⟨bm, ob, b1, b2, b3, b4, b5, b6⟩ := hbm
      refine ⟨bm, ob, b1, b2, fun q => ?_, fun q => ?_, plain b3 (fun vs n z => ?_) (fun z => ?_), b4, b5, b6⟩
      · obtain ⟨o, es, ep, e, hd, _⟩ := hns
        rw [q, e] at b3
        cases b3
        rw [hd] at b6
        cases b6
      · rw [q, hT p hp] at b3
        cases b3
        cases b6
      · rw [b6] at z
        cases z
      · rw [b6] at z
        cases z
  have e0 : Env0 P w K mg (hidT s₁.heap H) callerA [] s₁ H := ⟨rfl, mod, fun b o e => of_hidT e, Nat.le_of_eq (hidT_size _ _), trivial, fun b hb => absurd (show b ∈ ([] : List Addr) from hb) (by simp), hok, .of_eq hg⟩
  refine codeAny_mono ((F _ kB (nsB hns) TB).run callerA [] s₁ H [.ref a] [.ref a] _ _ hr e0 (.cons rfl .nil) (hsp H hH hS)) fun r s' h => ?_
  match r, h with
  | .error e, ⟨_, _, _, _, _, _, _, _, _, _, _, _, z⟩ => exact z.elim
  | .ok .next, h => exact False.elim h
  | .ok .brk, h => exact False.elim h
  | .ok .cont, h => exact False.elim h
  | .ok (.ret u), ⟨v, H', os, bare, un, hok', r', q⟩ =>
    have q : v = .bl true := q
    subst q
    obtain rfl : u = Value.bool true := r'
    have kept : ∀ b o, b ∉ cs.map (·.2) → s₁.heap.get? b = some o → s'.heap.get? b = some o := fun b o nb e => by
      cases z : H b with
      | none => exact un.keep b o e z (by intro z; exact absurd (show b ∈ ([] : List Addr) from z) (by simp)) (by simp)
      | some u =>
        rcases seen b u z with ⟨h1, _⟩ | ⟨_, _, h3, h4⟩
        · exact (nb h1).elim
        · rw [h4, eL] at z
          rw [h3, ha] at e
          cases e
          rw [h3] at z ⊢
          exact (hok' a _ (un.frzs a _ _ z)).1
    have grown : ∀ b ∈ cs.map (·.2), ∃ more : Array Value, s'.heap.get? b = some { cls := .none, data := .fields more } := fun b hb => by
      obtain ⟨p, hp, rfl⟩ := List.mem_map.mp hb
      obtain ⟨more, z⟩ := un.tbls p.2 #[] (hH p hp)
      exact ⟨_, hok' p.2 _ z⟩
    refine ⟨rfl, ⟨fun b o e => ?_, fun b o e => ?_⟩, os, bare⟩
    · by_cases hb : b ∈ cs.map (·.2)
      · obtain ⟨more, hm⟩ := grown b hb
        obtain ⟨p, hp, rfl⟩ := List.mem_map.mp hb
        rw [hT p hp] at e
        cases e
        exact .inr (.inl ⟨((C p hp).tab (hT p hp)).isCodeTable, rfl, #[], more, rfl, by rw [Array.empty_append]; exact hm⟩)
      · exact .inl (kept b o hb e)
    · by_cases hb : b ∈ cs.map (·.2)
      · obtain ⟨more, hm⟩ := grown b hb
        exact ⟨_, hm⟩
      · exact ⟨o, kept b o hb e⟩
/-- what the head's facts give of the law's function -/
def LawV (l : PySem.W.OpenLaw) (w : World) (K : PySem.W.Frag) (k n : Nat) (mg : Str → Option Value) (fa : Addr) (h : Heap) : Prop :=
  ∃ (cs : List (Addr × Addr)) (sp : Sp), (∀ p ∈ cs, h.get? p.2 = some { cls := .none, data := .fields #[] }) ∧ (∀ p ∈ cs, K.lookup p.2 = none) ∧ (∀ p ∈ cs, PySem.W.CodeHd h p.1 p.2) ∧
    (∀ (H : Hp) (a : Addr) (ns : List Int), ns.length ≤ n → (∀ z ∈ ns, Builtin.Int.intBits z ≤ 1048576) → (∀ p ∈ cs, H p.2 = some (.tbl #[])) → SqL K H a (ns.map V.int) → sp [.ref a] H (fun v _ => v = .bl true) fun _ _ _ => False) ∧
    ∀ base : Heap, K.In base → base.Ns mainGlobals mg → (∀ p ∈ cs, LamX.TabB base mg p.1 p.2) → FnV l.prog w K mg base k fa sp
theorem walk_v {l : PySem.W.OpenLaw} {n k : Nat} {q : Program} {loose : List Str} {XP : (Str → Option Value) → Heap → Prop} {YP : World → Heap → Prop} {d : DefRec}
    (hn : l.most = some n) (hn2 : n ≤ sizeLine) (hdf : d.params.defaults = []) (hr : RoomG k callerA)
    (F : ∀ (w : World) (mg : Str → Option Value) (fa : Addr) (h : Heap), YP w h → h.Ns mainGlobals mg → mg d.name = some (.ref fa) → ∃ K : PySem.W.Frag, K.In h ∧ LawV l w K k n mg fa h) :
    PySem.W.WalkO q loose XP YP l.row.toRowW d [] (fun f vs => PySem.call f vs) := by
  refine Att.attach_callB hn hdf fun w s₀ s₁ mg mb fa o pm cd doc a vs ns G Y ho hd hcd hmg hobj hints hlen hbits hg => ?_
  obtain ⟨K, KX, cs, sp, hT, nT, C, hsp, hF⟩ := F w mg fa _ Y G.T.g hmg
  exact law_callV KX G.T.g G.T.b G.T.builtins G.T.nolimit hg hT nT C G.T.bmain hobj hints (Nat.le_trans hlen hn2) hr hF fun H hH hS => hsp H a ns hlen hbits hH hS
end Ed

set_option Elab.async false
set_option linter.all false
set_option maxRecDepth 100000
set_option maxHeartbeats 0
/-! the head: one run of the top, what it leaves -/
namespace Ed
open PySem PySem.Spec PyProof.Rows L2
abbrev dt_whole : He.DefD := ⟨("whole", none), "whole", "whole", defArgs s_whole, defBody s_whole, defScope s_whole, [], []⟩
abbrev dt_whole_between : He.DefD := ⟨("whole_between", none), "whole_between", "whole_between", defArgs s_whole_between, defBody s_whole_between, defScope s_whole_between, [], []⟩
abbrev dt_tuple_between : He.DefD := ⟨("tuple_between", none), "tuple_between", "tuple_between", defArgs s_tuple_between, defBody s_tuple_between, defScope s_tuple_between, [], []⟩
abbrev dt_made_table : He.DefD := ⟨("made_table", none), "made_table", "made_table", defArgs s_made_table, defBody s_made_table, defScope s_made_table, [], []⟩
abbrev dt_is_table : He.DefD := ⟨("is_table", none), "is_table", "is_table", defArgs s_is_table, defBody s_is_table, defScope s_is_table, [], []⟩
abbrev dt_many : He.DefD := ⟨("many", none), "many", "many", defArgs s_many, defBody s_many, defScope s_many, [], []⟩
abbrev dt_entry : He.DefD := ⟨("entry", none), "entry", "entry", defArgs s_entry, defBody s_entry, defScope s_entry, [], []⟩
abbrev dt_first_gap : He.DefD := ⟨("first_gap", none), "first_gap", "first_gap", defArgs s_first_gap, defBody s_first_gap, defScope s_first_gap, [], []⟩
abbrev dt_turn : He.DefD := ⟨("turn", none), "turn", "turn", defArgs s_turn, defBody s_turn, defScope s_turn, [], []⟩
abbrev dt_sides : He.DefD := ⟨("sides", none), "sides", "sides", defArgs s_sides, defBody s_sides, defScope s_sides, [], []⟩
abbrev dt_once : He.DefD := ⟨("once", none), "once", "once", defArgs s_once, defBody s_once, defScope s_once, [], []⟩
abbrev dt_greater : He.DefD := ⟨("greater", none), "greater", "greater", defArgs s_greater, defBody s_greater, defScope s_greater, [], []⟩
abbrev dt_check_many : He.DefD := ⟨("check_many", none), "check_many", "check_many", defArgs s_check_many, defBody s_check_many, defScope s_check_many, [], []⟩
abbrev dt_check_state : He.DefD := ⟨("check_state", none), "check_state", "check_state", defArgs s_check_state, defBody s_check_state, defScope s_check_state, [], []⟩
abbrev dt_wrong_place : He.DefD := ⟨("wrong_place", none), "wrong_place", "wrong_place", defArgs s_wrong_place, defBody s_wrong_place, defScope s_wrong_place, [], []⟩
abbrev dt_cube_shaped : He.DefD := ⟨("cube_shaped", none), "cube_shaped", "cube_shaped", defArgs s_cube_shaped, defBody s_cube_shaped, defScope s_cube_shaped, [], []⟩
abbrev dt_wrong_entry : He.DefD := ⟨("wrong_entry", none), "wrong_entry", "wrong_entry", defArgs s_wrong_entry, defBody s_wrong_entry, defScope s_wrong_entry, [], []⟩
abbrev dt_gap_place : He.DefD := ⟨("gap_place", none), "gap_place", "gap_place", defArgs s_gap_place, defBody s_gap_place, defScope s_gap_place, [], []⟩
abbrev dt_filled : He.DefD := ⟨("filled", none), "filled", "filled", defArgs s_filled, defBody s_filled, defScope s_filled, [], []⟩
abbrev dt_one_side : He.DefD := ⟨("one_side", none), "one_side", "one_side", defArgs s_one_side, defBody s_one_side, defScope s_one_side, [], []⟩
abbrev dt_alike_once : He.DefD := ⟨("alike_once", none), "alike_once", "alike_once", defArgs s_alike_once, defBody s_alike_once, defScope s_alike_once, [], []⟩
abbrev dt_greater_side : He.DefD := ⟨("greater_side", none), "greater_side", "greater_side", defArgs s_greater_side, defBody s_greater_side, defScope s_greater_side, [], []⟩
abbrev dt__law_pool : He.DefD := ⟨("_law_pool", none), "_law_pool", "_law_pool", defArgs s__law_pool, defBody s__law_pool, defScope s__law_pool, [], []⟩
abbrev dt__law_take : He.DefD := ⟨("_law_take", none), "_law_take", "_law_take", defArgs s__law_take, defBody s__law_take, defScope s__law_take, [], []⟩
abbrev dt__law_one : He.DefD := ⟨("_law_one", none), "_law_one", "_law_one", defArgs s__law_one, defBody s__law_one, defScope s__law_one, [], []⟩
abbrev dt__law_gapped : He.DefD := ⟨("_law_gapped", none), "_law_gapped", "_law_gapped", defArgs s__law_gapped, defBody s__law_gapped, defScope s__law_gapped, [], []⟩
abbrev dt__law_has_gap : He.DefD := ⟨("_law_has_gap", none), "_law_has_gap", "_law_has_gap", defArgs s__law_has_gap, defBody s__law_has_gap, defScope s__law_has_gap, [], []⟩
abbrev dt__law_is_refused : He.DefD := ⟨("_law_is_refused", none), "_law_is_refused", "_law_is_refused", defArgs s__law_is_refused, defBody s__law_is_refused, defScope s__law_is_refused, [], []⟩
abbrev dt__law_own_entry : He.DefD := ⟨("_law_own_entry", none), "_law_own_entry", "_law_own_entry", defArgs s__law_own_entry, defBody s__law_own_entry, defScope s__law_own_entry, [], []⟩
abbrev dt__law_own_table : He.DefD := ⟨("_law_own_table", none), "_law_own_table", "_law_own_table", defArgs s__law_own_table, defBody s__law_own_table, defScope s__law_own_table, [], []⟩
abbrev dt__law_told_by : He.DefD := ⟨("_law_told_by", none), "_law_told_by", "_law_told_by", defArgs s__law_told_by, defBody s__law_told_by, defScope s__law_told_by, [], []⟩
abbrev dt__law_table_right : He.DefD := ⟨("_law_table_right", none), "_law_table_right", "_law_table_right", defArgs s__law_table_right, defBody s__law_table_right, defScope s__law_table_right, [], []⟩
abbrev dt_law : He.DefD := ⟨("law", none), "law", "law", defArgs s_law, defBody s_law, defScope s_law, [], []⟩
abbrev dt_init : He.DefD := ⟨("Refused", some "__init__"), "__init__", "Refused.__init__", defArgs (inClass k_Refused 0), defBody (inClass k_Refused 0), defScope (inClass k_Refused 0), [], []⟩
def fnL0 : List He.DefD := [dt_whole, dt_whole_between, dt_tuple_between, dt_made_table, dt_is_table, dt_many, dt_entry, dt_first_gap, dt_turn, dt_sides, dt_once, dt_greater, dt_check_many, dt_check_state, dt_wrong_place, dt_cube_shaped, dt_wrong_entry, dt_gap_place, dt_filled, dt_one_side, dt_alike_once, dt_greater_side, dt__law_pool, dt__law_take, dt__law_one, dt__law_gapped, dt__law_has_gap, dt__law_is_refused, dt__law_own_entry, dt__law_own_table]
def fnL1 : List He.DefD := [dt__law_told_by, dt__law_table_right, dt_law, dt_init]
def fnL : List He.DefD := fnL0 ++ fnL1
def faL0 : List He.Fa := [.glo "whole", .glo "whole_between", .glo "tuple_between", .glo "made_table", .glo "is_table", .glo "many", .glo "entry", .glo "first_gap", .glo "turn", .glo "sides", .glo "once", .glo "greater", .glo "check_many", .glo "check_state", .glo "wrong_place", .glo "cube_shaped", .glo "wrong_entry", .glo "gap_place", .glo "filled", .glo "one_side", .glo "alike_once", .glo "greater_side", .glo "_law_pool", .glo "_law_take", .glo "_law_one", .glo "_law_gapped", .glo "_law_has_gap", .glo "_law_is_refused", .glo "_law_own_entry", .glo "_law_own_table"]
def faL1 : List He.Fa := [.glo "_law_told_by", .glo "_law_table_right", .glo "law", .glo "Refused", .glo "BadMany", .glo "BadTable", .glo "BadState", .free "bool", .free "enumerate", .free "int", .free "isinstance", .free "len", .free "max", .free "range", .free "repr", .free "tuple", .int "MOST_STATES" 12, .exm "BadMany" "Refused" true, .exm "BadTable" "Refused" true, .exm "BadState" "Refused" true]
def faL : List He.Fa := faL0 ++ faL1
def tfL : List He.Defn := [("turn", none), ("law", none)]
def clsL : List Str := ["Refused", "BadMany", "BadTable", "BadState"]
def kitL : List (Str × Str × Bool) := [("BadMany", "BadMany", true), ("BadMany", "BadTable", false), ("BadMany", "BadState", false), ("BadTable", "BadMany", false), ("BadTable", "BadTable", true), ("BadTable", "BadState", false), ("BadState", "BadMany", false), ("BadState", "BadTable", false), ("BadState", "BadState", true)]
def exB (K : PySem.W.Frag) : Bool := (clsL.all fun x => errB K (He.ga K x) (He.ma K (He.ga K "Refused") "__init__")) && (decide (PySem.W.typeIn K (.ref (He.ma K (He.ga K "Refused") "__init__")) = some (.type "function"))) && (kitL.all fun q => decide (PySem.W.kitOne K (.ref (He.ga K q.1)) (.ref (He.ga K q.2.1)) = some q.2.2)) && (decide ((He.cT K ("turn", none)).2 ≠ (He.cT K ("law", none)).2))
abbrev RR : PySem.W.OpenRow := PySem.W.OpenLaw.row PySem.Challenge.rw_editlots_k01_tables_told_by_rule
abbrev hk : PySem.W.Hook := He.hookX 5 faL fnL [] tfL exB
def obH (s : PySem.W.SharedT) : He.AlX := He.obsX 5 faL fnL [] tfL exB (HandSHeadRun.getT s)
theorem obH_eq (s : PySem.W.SharedT) : obH s = hk.obs s.abs := He.obsX_eq (HandSHeadRun.getT_eq s)
def lsL0 : List Str := ["whole", "whole_between", "tuple_between", "made_table", "is_table", "many", "entry", "first_gap", "turn", "sides", "once", "greater", "check_many", "check_state", "wrong_place", "cube_shaped", "wrong_entry", "gap_place", "filled", "one_side", "alike_once", "greater_side", "_law_pool", "_law_take", "_law_one", "_law_gapped", "_law_has_gap", "_law_is_refused", "_law_own_entry", "_law_own_table"]
def lsL1 : List Str := ["_law_told_by", "_law_table_right", "Refused", "BadMany", "BadTable", "BadState", "MOST_STATES"]
def lsL : List Str := lsL0 ++ lsL1
theorem runH (w : World) : HandSHeadRun.RunEq RR (PySem.W.view RR.prog [41]) hk obH 6000 lsL w := by
  intro os
  kernel_rfl
end Ed

set_option Elab.async false
set_option linter.all false
set_option maxRecDepth 100000
set_option maxHeartbeats 0
/-! the end -/
namespace Ed
open PySem PySem.Spec PyProof.Rows L2
def CLof (K : PySem.W.Frag) : Cl := ⟨He.ga K "Refused", He.ga K "BadMany", He.ga K "BadTable", He.ga K "BadState", He.ma K (He.ga K "Refused") "__init__"⟩
def TTof (K : PySem.W.Frag) : List (Addr × Str) := [((He.cT K ("turn", none)).2, ("turn.<locals>.<lambda>" : Str)), ((He.cT K ("law", none)).2, ("law.<locals>.<lambda>" : Str))]
section
variable {w : World} {K : PySem.W.Frag} {h base : Heap} {mg : Str → Option Value}
theorem td_whole (X : K.In h) (G : h.Ns mainGlobals mg) (c : He.SaysD faL fnL K) : ∃ (f : Addr) (cd : Value), DefAt K mg "whole" "whole" s_whole ["thing"] f cd ∧ mg "whole" = some (.ref f) := by
  obtain ⟨fd, F⟩ := c.def_ 0 (d := dt_whole) rfl
  exact ⟨_, fd.code, defAt_of (st := s_whole) F (fun kV doc pm cd an ct us hl => match us, hl with | [_], _ => rfl), He.glo_ok X G (c.fact 0 (f := .glo "whole") rfl)⟩
theorem td_whole_between (X : K.In h) (G : h.Ns mainGlobals mg) (c : He.SaysD faL fnL K) : ∃ (f : Addr) (cd : Value), DefAt K mg "whole_between" "whole_between" s_whole_between ["thing", "low", "high"] f cd ∧ mg "whole_between" = some (.ref f) := by
  obtain ⟨fd, F⟩ := c.def_ 1 (d := dt_whole_between) rfl
  exact ⟨_, fd.code, defAt_of (st := s_whole_between) F (fun kV doc pm cd an ct us hl => match us, hl with | [_, _, _], _ => rfl), He.glo_ok X G (c.fact 1 (f := .glo "whole_between") rfl)⟩
theorem td_tuple_between (X : K.In h) (G : h.Ns mainGlobals mg) (c : He.SaysD faL fnL K) : ∃ (f : Addr) (cd : Value), DefAt K mg "tuple_between" "tuple_between" s_tuple_between ["thing", "least", "most"] f cd ∧ mg "tuple_between" = some (.ref f) := by
  obtain ⟨fd, F⟩ := c.def_ 2 (d := dt_tuple_between) rfl
  exact ⟨_, fd.code, defAt_of (st := s_tuple_between) F (fun kV doc pm cd an ct us hl => match us, hl with | [_, _, _], _ => rfl), He.glo_ok X G (c.fact 2 (f := .glo "tuple_between") rfl)⟩
theorem td_made_table (X : K.In h) (G : h.Ns mainGlobals mg) (c : He.SaysD faL fnL K) : ∃ (f : Addr) (cd : Value), DefAt K mg "made_table" "made_table" s_made_table ["thing"] f cd ∧ mg "made_table" = some (.ref f) := by
  obtain ⟨fd, F⟩ := c.def_ 3 (d := dt_made_table) rfl
  exact ⟨_, fd.code, defAt_of (st := s_made_table) F (fun kV doc pm cd an ct us hl => match us, hl with | [_], _ => rfl), He.glo_ok X G (c.fact 3 (f := .glo "made_table") rfl)⟩
theorem td_is_table (X : K.In h) (G : h.Ns mainGlobals mg) (c : He.SaysD faL fnL K) : ∃ (f : Addr) (cd : Value), DefAt K mg "is_table" "is_table" s_is_table ["thing"] f cd ∧ mg "is_table" = some (.ref f) := by
  obtain ⟨fd, F⟩ := c.def_ 4 (d := dt_is_table) rfl
  exact ⟨_, fd.code, defAt_of (st := s_is_table) F (fun kV doc pm cd an ct us hl => match us, hl with | [_], _ => rfl), He.glo_ok X G (c.fact 4 (f := .glo "is_table") rfl)⟩
theorem td_many (X : K.In h) (G : h.Ns mainGlobals mg) (c : He.SaysD faL fnL K) : ∃ (f : Addr) (cd : Value), DefAt K mg "many" "many" s_many ["table"] f cd ∧ mg "many" = some (.ref f) := by
  obtain ⟨fd, F⟩ := c.def_ 5 (d := dt_many) rfl
  exact ⟨_, fd.code, defAt_of (st := s_many) F (fun kV doc pm cd an ct us hl => match us, hl with | [_], _ => rfl), He.glo_ok X G (c.fact 5 (f := .glo "many") rfl)⟩
theorem td_entry (X : K.In h) (G : h.Ns mainGlobals mg) (c : He.SaysD faL fnL K) : ∃ (f : Addr) (cd : Value), DefAt K mg "entry" "entry" s_entry ["table", "o", "a", "b"] f cd ∧ mg "entry" = some (.ref f) := by
  obtain ⟨fd, F⟩ := c.def_ 6 (d := dt_entry) rfl
  exact ⟨_, fd.code, defAt_of (st := s_entry) F (fun kV doc pm cd an ct us hl => match us, hl with | [_, _, _, _], _ => rfl), He.glo_ok X G (c.fact 6 (f := .glo "entry") rfl)⟩
theorem td_first_gap (X : K.In h) (G : h.Ns mainGlobals mg) (c : He.SaysD faL fnL K) : ∃ (f : Addr) (cd : Value), DefAt K mg "first_gap" "first_gap" s_first_gap ["table"] f cd ∧ mg "first_gap" = some (.ref f) := by
  obtain ⟨fd, F⟩ := c.def_ 7 (d := dt_first_gap) rfl
  exact ⟨_, fd.code, defAt_of (st := s_first_gap) F (fun kV doc pm cd an ct us hl => match us, hl with | [_], _ => rfl), He.glo_ok X G (c.fact 7 (f := .glo "first_gap") rfl)⟩
theorem td_turn (X : K.In h) (G : h.Ns mainGlobals mg) (c : He.SaysD faL fnL K) : DefAt K mg "turn" "turn" s_turn ["n"] (He.ga K "turn") (.ref (He.cT K ("turn", none)).1) ∧ mg "turn" = some (.ref (He.ga K "turn")) := by
  obtain ⟨fd, F⟩ := c.def_ 8 (d := dt_turn) rfl
  rw [← code_ref (st := s_turn) (ps := ["n"]) F rfl]
  exact ⟨defAt_of (st := s_turn) F (fun kV doc pm cd an ct us hl => match us, hl with | [_], _ => rfl), He.glo_ok X G (c.fact 8 (f := .glo "turn") rfl)⟩
theorem td_sides (X : K.In h) (G : h.Ns mainGlobals mg) (c : He.SaysD faL fnL K) : ∃ (f : Addr) (cd : Value), DefAt K mg "sides" "sides" s_sides ["n"] f cd ∧ mg "sides" = some (.ref f) := by
  obtain ⟨fd, F⟩ := c.def_ 9 (d := dt_sides) rfl
  exact ⟨_, fd.code, defAt_of (st := s_sides) F (fun kV doc pm cd an ct us hl => match us, hl with | [_], _ => rfl), He.glo_ok X G (c.fact 9 (f := .glo "sides") rfl)⟩
theorem td_once (X : K.In h) (G : h.Ns mainGlobals mg) (c : He.SaysD faL fnL K) : ∃ (f : Addr) (cd : Value), DefAt K mg "once" "once" s_once ["n"] f cd ∧ mg "once" = some (.ref f) := by
  obtain ⟨fd, F⟩ := c.def_ 10 (d := dt_once) rfl
  exact ⟨_, fd.code, defAt_of (st := s_once) F (fun kV doc pm cd an ct us hl => match us, hl with | [_], _ => rfl), He.glo_ok X G (c.fact 10 (f := .glo "once") rfl)⟩
theorem td_greater (X : K.In h) (G : h.Ns mainGlobals mg) (c : He.SaysD faL fnL K) : ∃ (f : Addr) (cd : Value), DefAt K mg "greater" "greater" s_greater ["n"] f cd ∧ mg "greater" = some (.ref f) := by
  obtain ⟨fd, F⟩ := c.def_ 11 (d := dt_greater) rfl
  exact ⟨_, fd.code, defAt_of (st := s_greater) F (fun kV doc pm cd an ct us hl => match us, hl with | [_], _ => rfl), He.glo_ok X G (c.fact 11 (f := .glo "greater") rfl)⟩
theorem td_check_many (X : K.In h) (G : h.Ns mainGlobals mg) (c : He.SaysD faL fnL K) : ∃ (f : Addr) (cd : Value), DefAt K mg "check_many" "check_many" s_check_many ["n"] f cd ∧ mg "check_many" = some (.ref f) := by
  obtain ⟨fd, F⟩ := c.def_ 12 (d := dt_check_many) rfl
  exact ⟨_, fd.code, defAt_of (st := s_check_many) F (fun kV doc pm cd an ct us hl => match us, hl with | [_], _ => rfl), He.glo_ok X G (c.fact 12 (f := .glo "check_many") rfl)⟩
theorem td_check_state (X : K.In h) (G : h.Ns mainGlobals mg) (c : He.SaysD faL fnL K) : ∃ (f : Addr) (cd : Value), DefAt K mg "check_state" "check_state" s_check_state ["n", "state"] f cd ∧ mg "check_state" = some (.ref f) := by
  obtain ⟨fd, F⟩ := c.def_ 13 (d := dt_check_state) rfl
  exact ⟨_, fd.code, defAt_of (st := s_check_state) F (fun kV doc pm cd an ct us hl => match us, hl with | [_, _], _ => rfl), He.glo_ok X G (c.fact 13 (f := .glo "check_state") rfl)⟩
theorem td_wrong_place (X : K.In h) (G : h.Ns mainGlobals mg) (c : He.SaysD faL fnL K) : ∃ (f : Addr) (cd : Value), DefAt K mg "wrong_place" "wrong_place" s_wrong_place ["thing"] f cd ∧ mg "wrong_place" = some (.ref f) := by
  obtain ⟨fd, F⟩ := c.def_ 14 (d := dt_wrong_place) rfl
  exact ⟨_, fd.code, defAt_of (st := s_wrong_place) F (fun kV doc pm cd an ct us hl => match us, hl with | [_], _ => rfl), He.glo_ok X G (c.fact 14 (f := .glo "wrong_place") rfl)⟩
theorem td_cube_shaped (X : K.In h) (G : h.Ns mainGlobals mg) (c : He.SaysD faL fnL K) : ∃ (f : Addr) (cd : Value), DefAt K mg "cube_shaped" "cube_shaped" s_cube_shaped ["thing"] f cd ∧ mg "cube_shaped" = some (.ref f) := by
  obtain ⟨fd, F⟩ := c.def_ 15 (d := dt_cube_shaped) rfl
  exact ⟨_, fd.code, defAt_of (st := s_cube_shaped) F (fun kV doc pm cd an ct us hl => match us, hl with | [_], _ => rfl), He.glo_ok X G (c.fact 15 (f := .glo "cube_shaped") rfl)⟩
theorem td_wrong_entry (X : K.In h) (G : h.Ns mainGlobals mg) (c : He.SaysD faL fnL K) : ∃ (f : Addr) (cd : Value), DefAt K mg "wrong_entry" "wrong_entry" s_wrong_entry ["row", "n"] f cd ∧ mg "wrong_entry" = some (.ref f) := by
  obtain ⟨fd, F⟩ := c.def_ 16 (d := dt_wrong_entry) rfl
  exact ⟨_, fd.code, defAt_of (st := s_wrong_entry) F (fun kV doc pm cd an ct us hl => match us, hl with | [_, _], _ => rfl), He.glo_ok X G (c.fact 16 (f := .glo "wrong_entry") rfl)⟩
theorem td_gap_place (X : K.In h) (G : h.Ns mainGlobals mg) (c : He.SaysD faL fnL K) : ∃ (f : Addr) (cd : Value), DefAt K mg "gap_place" "gap_place" s_gap_place ["table"] f cd ∧ mg "gap_place" = some (.ref f) := by
  obtain ⟨fd, F⟩ := c.def_ 17 (d := dt_gap_place) rfl
  exact ⟨_, fd.code, defAt_of (st := s_gap_place) F (fun kV doc pm cd an ct us hl => match us, hl with | [_], _ => rfl), He.glo_ok X G (c.fact 17 (f := .glo "gap_place") rfl)⟩
theorem td_filled (X : K.In h) (G : h.Ns mainGlobals mg) (c : He.SaysD faL fnL K) : ∃ (f : Addr) (cd : Value), DefAt K mg "filled" "filled" s_filled ["n", "told"] f cd ∧ mg "filled" = some (.ref f) := by
  obtain ⟨fd, F⟩ := c.def_ 18 (d := dt_filled) rfl
  exact ⟨_, fd.code, defAt_of (st := s_filled) F (fun kV doc pm cd an ct us hl => match us, hl with | [_, _], _ => rfl), He.glo_ok X G (c.fact 18 (f := .glo "filled") rfl)⟩
theorem td_one_side (X : K.In h) (G : h.Ns mainGlobals mg) (c : He.SaysD faL fnL K) : ∃ (f : Addr) (cd : Value), DefAt K mg "one_side" "one_side" s_one_side ["o", "a", "b"] f cd ∧ mg "one_side" = some (.ref f) := by
  obtain ⟨fd, F⟩ := c.def_ 19 (d := dt_one_side) rfl
  exact ⟨_, fd.code, defAt_of (st := s_one_side) F (fun kV doc pm cd an ct us hl => match us, hl with | [_, _, _], _ => rfl), He.glo_ok X G (c.fact 19 (f := .glo "one_side") rfl)⟩
theorem td_alike_once (X : K.In h) (G : h.Ns mainGlobals mg) (c : He.SaysD faL fnL K) : ∃ (f : Addr) (cd : Value), DefAt K mg "alike_once" "alike_once" s_alike_once ["o", "a", "b"] f cd ∧ mg "alike_once" = some (.ref f) := by
  obtain ⟨fd, F⟩ := c.def_ 20 (d := dt_alike_once) rfl
  exact ⟨_, fd.code, defAt_of (st := s_alike_once) F (fun kV doc pm cd an ct us hl => match us, hl with | [_, _, _], _ => rfl), He.glo_ok X G (c.fact 20 (f := .glo "alike_once") rfl)⟩
theorem td_greater_side (X : K.In h) (G : h.Ns mainGlobals mg) (c : He.SaysD faL fnL K) : ∃ (f : Addr) (cd : Value), DefAt K mg "greater_side" "greater_side" s_greater_side ["o", "a", "b"] f cd ∧ mg "greater_side" = some (.ref f) := by
  obtain ⟨fd, F⟩ := c.def_ 21 (d := dt_greater_side) rfl
  exact ⟨_, fd.code, defAt_of (st := s_greater_side) F (fun kV doc pm cd an ct us hl => match us, hl with | [_, _, _], _ => rfl), He.glo_ok X G (c.fact 21 (f := .glo "greater_side") rfl)⟩
theorem td__law_pool (X : K.In h) (G : h.Ns mainGlobals mg) (c : He.SaysD faL fnL K) : ∃ (f : Addr) (cd : Value), DefAt K mg "_law_pool" "_law_pool" s__law_pool ["script", "k"] f cd ∧ mg "_law_pool" = some (.ref f) := by
  obtain ⟨fd, F⟩ := c.def_ 22 (d := dt__law_pool) rfl
  exact ⟨_, fd.code, defAt_of (st := s__law_pool) F (fun kV doc pm cd an ct us hl => match us, hl with | [_, _], _ => rfl), He.glo_ok X G (c.fact 22 (f := .glo "_law_pool") rfl)⟩
theorem td__law_take (X : K.In h) (G : h.Ns mainGlobals mg) (c : He.SaysD faL fnL K) : ∃ (f : Addr) (cd : Value), DefAt K mg "_law_take" "_law_take" s__law_take ["source", "top"] f cd ∧ mg "_law_take" = some (.ref f) := by
  obtain ⟨fd, F⟩ := c.def_ 23 (d := dt__law_take) rfl
  exact ⟨_, fd.code, defAt_of (st := s__law_take) F (fun kV doc pm cd an ct us hl => match us, hl with | [_, _], _ => rfl), He.glo_ok X G (c.fact 23 (f := .glo "_law_take") rfl)⟩
theorem td__law_one (X : K.In h) (G : h.Ns mainGlobals mg) (c : He.SaysD faL fnL K) : ∃ (f : Addr) (cd : Value), DefAt K mg "_law_one" "_law_one" s__law_one ["source", "things"] f cd ∧ mg "_law_one" = some (.ref f) := by
  obtain ⟨fd, F⟩ := c.def_ 24 (d := dt__law_one) rfl
  exact ⟨_, fd.code, defAt_of (st := s__law_one) F (fun kV doc pm cd an ct us hl => match us, hl with | [_, _], _ => rfl), He.glo_ok X G (c.fact 24 (f := .glo "_law_one") rfl)⟩
theorem td__law_gapped (X : K.In h) (G : h.Ns mainGlobals mg) (c : He.SaysD faL fnL K) : ∃ (f : Addr) (cd : Value), DefAt K mg "_law_gapped" "_law_gapped" s__law_gapped ["source", "table", "odds"] f cd ∧ mg "_law_gapped" = some (.ref f) := by
  obtain ⟨fd, F⟩ := c.def_ 25 (d := dt__law_gapped) rfl
  exact ⟨_, fd.code, defAt_of (st := s__law_gapped) F (fun kV doc pm cd an ct us hl => match us, hl with | [_, _, _], _ => rfl), He.glo_ok X G (c.fact 25 (f := .glo "_law_gapped") rfl)⟩
theorem td__law_has_gap (X : K.In h) (G : h.Ns mainGlobals mg) (c : He.SaysD faL fnL K) : ∃ (f : Addr) (cd : Value), DefAt K mg "_law_has_gap" "_law_has_gap" s__law_has_gap ["table"] f cd ∧ mg "_law_has_gap" = some (.ref f) := by
  obtain ⟨fd, F⟩ := c.def_ 26 (d := dt__law_has_gap) rfl
  exact ⟨_, fd.code, defAt_of (st := s__law_has_gap) F (fun kV doc pm cd an ct us hl => match us, hl with | [_], _ => rfl), He.glo_ok X G (c.fact 26 (f := .glo "_law_has_gap") rfl)⟩
theorem td__law_is_refused (X : K.In h) (G : h.Ns mainGlobals mg) (c : He.SaysD faL fnL K) : ∃ (f : Addr) (cd : Value), DefAt K mg "_law_is_refused" "_law_is_refused" s__law_is_refused ["call", "what"] f cd ∧ mg "_law_is_refused" = some (.ref f) := by
  obtain ⟨fd, F⟩ := c.def_ 27 (d := dt__law_is_refused) rfl
  exact ⟨_, fd.code, defAt_of (st := s__law_is_refused) F (fun kV doc pm cd an ct us hl => match us, hl with | [_, _], _ => rfl), He.glo_ok X G (c.fact 27 (f := .glo "_law_is_refused") rfl)⟩
theorem td__law_own_entry (X : K.In h) (G : h.Ns mainGlobals mg) (c : He.SaysD faL fnL K) : ∃ (f : Addr) (cd : Value), DefAt K mg "_law_own_entry" "_law_own_entry" s__law_own_entry ["size", "word", "o", "a", "b"] f cd ∧ mg "_law_own_entry" = some (.ref f) := by
  obtain ⟨fd, F⟩ := c.def_ 28 (d := dt__law_own_entry) rfl
  exact ⟨_, fd.code, defAt_of (st := s__law_own_entry) F (fun kV doc pm cd an ct us hl => match us, hl with | [_, _, _, _, _], _ => rfl), He.glo_ok X G (c.fact 28 (f := .glo "_law_own_entry") rfl)⟩
theorem td__law_own_table (X : K.In h) (G : h.Ns mainGlobals mg) (c : He.SaysD faL fnL K) : ∃ (f : Addr) (cd : Value), DefAt K mg "_law_own_table" "_law_own_table" s__law_own_table ["size", "word"] f cd ∧ mg "_law_own_table" = some (.ref f) := by
  obtain ⟨fd, F⟩ := c.def_ 29 (d := dt__law_own_table) rfl
  exact ⟨_, fd.code, defAt_of (st := s__law_own_table) F (fun kV doc pm cd an ct us hl => match us, hl with | [_, _], _ => rfl), He.glo_ok X G (c.fact 29 (f := .glo "_law_own_table") rfl)⟩
theorem td__law_told_by (X : K.In h) (G : h.Ns mainGlobals mg) (c : He.SaysD faL fnL K) : ∃ (f : Addr) (cd : Value), DefAt K mg "_law_told_by" "_law_told_by" s__law_told_by ["size", "word"] f cd ∧ mg "_law_told_by" = some (.ref f) := by
  obtain ⟨fd, F⟩ := c.def_ 30 (d := dt__law_told_by) rfl
  exact ⟨_, fd.code, defAt_of (st := s__law_told_by) F (fun kV doc pm cd an ct us hl => match us, hl with | [_, _], _ => rfl), He.glo_ok X G (c.fact 30 (f := .glo "_law_told_by") rfl)⟩
theorem td__law_table_right (X : K.In h) (G : h.Ns mainGlobals mg) (c : He.SaysD faL fnL K) : ∃ (f : Addr) (cd : Value), DefAt K mg "_law_table_right" "_law_table_right" s__law_table_right ["source", "table"] f cd ∧ mg "_law_table_right" = some (.ref f) := by
  obtain ⟨fd, F⟩ := c.def_ 31 (d := dt__law_table_right) rfl
  exact ⟨_, fd.code, defAt_of (st := s__law_table_right) F (fun kV doc pm cd an ct us hl => match us, hl with | [_, _], _ => rfl), He.glo_ok X G (c.fact 31 (f := .glo "_law_table_right") rfl)⟩
theorem td_law (X : K.In h) (G : h.Ns mainGlobals mg) (c : He.SaysD faL fnL K) : DefAt K mg "law" "law" s_law ["script"] (He.ga K "law") (.ref (He.cT K ("law", none)).1) ∧ mg "law" = some (.ref (He.ga K "law")) := by
  obtain ⟨fd, F⟩ := c.def_ 32 (d := dt_law) rfl
  rw [← code_ref (st := s_law) (ps := ["script"]) F rfl]
  exact ⟨defAt_of (st := s_law) F (fun kV doc pm cd an ct us hl => match us, hl with | [_], _ => rfl), He.glo_ok X G (c.fact 32 (f := .glo "law") rfl)⟩
theorem txt_of (X : K.In h) (G : h.Ns mainGlobals mg) (c : He.SaysX faL fnL [] tfL exB w h K) (TB : ∀ p ∈ tfL.map (He.cT K), LamX.TabB base mg p.1 p.2) : Txt K mg base (TTof K) (CLof K) := by
  have d := c.t.d
  have m := c.more
  simp only [exB, Bool.and_eq_true, decide_eq_true_eq] at m
  obtain ⟨⟨⟨mE, mT⟩, mK⟩, n0⟩ := m
  have hE : ∀ x ∈ clsL, errB K (He.ga K x) (He.ma K (He.ga K "Refused") "__init__") = true := fun x hx => List.all_eq_true.mp mE x hx
  have hK : ∀ q ∈ kitL, PySem.W.kitOne K (.ref (He.ga K q.1)) (.ref (He.ga K q.2.1)) = some q.2.2 := fun q hq => of_decide_eq_true (List.all_eq_true.mp mK q hq)
  exact {
    d_whole := td_whole X G d,
    d_whole_between := td_whole_between X G d,
    d_tuple_between := td_tuple_between X G d,
    d_made_table := td_made_table X G d,
    d_is_table := td_is_table X G d,
    d_many := td_many X G d,
    d_entry := td_entry X G d,
    d_first_gap := td_first_gap X G d,
    d_turn := ⟨_, _, _, (td_turn X G d).1, (td_turn X G d).2, TB (He.cT K ("turn", none)) (List.mem_map.mpr ⟨_, by simp [tfL], rfl⟩), by simp [TTof], (by
    intro p hp e
    simp only [TTof, List.mem_cons, List.mem_nil_iff, or_false] at hp
    rcases hp with rfl | rfl
    · rfl
    · exact (n0 e.symm).elim)⟩,
    d_sides := td_sides X G d,
    d_once := td_once X G d,
    d_greater := td_greater X G d,
    d_check_many := td_check_many X G d,
    d_check_state := td_check_state X G d,
    d_wrong_place := td_wrong_place X G d,
    d_cube_shaped := td_cube_shaped X G d,
    d_wrong_entry := td_wrong_entry X G d,
    d_gap_place := td_gap_place X G d,
    d_filled := td_filled X G d,
    d_one_side := td_one_side X G d,
    d_alike_once := td_alike_once X G d,
    d_greater_side := td_greater_side X G d,
    d__law_pool := td__law_pool X G d,
    d__law_take := td__law_take X G d,
    d__law_one := td__law_one X G d,
    d__law_gapped := td__law_gapped X G d,
    d__law_has_gap := td__law_has_gap X G d,
    d__law_is_refused := td__law_is_refused X G d,
    d__law_own_entry := td__law_own_entry X G d,
    d__law_own_table := td__law_own_table X G d,
    d__law_told_by := td__law_told_by X G d,
    d__law_table_right := td__law_table_right X G d,
    d_law := ⟨_, _, _, (td_law X G d).1, (td_law X G d).2, TB (He.cT K ("law", none)) (List.mem_map.mpr ⟨_, by simp [tfL], rfl⟩), by simp [TTof], (by
    intro p hp e
    simp only [TTof, List.mem_cons, List.mem_nil_iff, or_false] at hp
    rcases hp with rfl | rfl
    · exact (n0 e).elim
    · rfl)⟩,
    n_bool := He.free_ok X G (d.fact 37 (f := .free "bool") rfl),
    n_enumerate := He.free_ok X G (d.fact 38 (f := .free "enumerate") rfl),
    n_int := He.free_ok X G (d.fact 39 (f := .free "int") rfl),
    n_isinstance := He.free_ok X G (d.fact 40 (f := .free "isinstance") rfl),
    n_len := He.free_ok X G (d.fact 41 (f := .free "len") rfl),
    n_max := He.free_ok X G (d.fact 42 (f := .free "max") rfl),
    n_range := He.free_ok X G (d.fact 43 (f := .free "range") rfl),
    n_repr := He.free_ok X G (d.fact 44 (f := .free "repr") rfl),
    n_tuple := He.free_ok X G (d.fact 45 (f := .free "tuple") rfl),
    g_MOST_STATES := He.int_ok X G (d.fact 46 (f := .int "MOST_STATES" 12) rfl),
    i_ty := mT,
    i_fun := by
      obtain ⟨fd, F⟩ := d.def_ 33 (d := dt_init) rfl
      obtain ⟨oc, od, dV, kV, doc, pm, an, cdv, ct, osl, rfl, lk, cd, dfl, _⟩ := F.ex
      have e : dV = .none := by
        rcases dfl with ⟨_, z⟩ | ⟨z, _⟩
        · exact z
        · exact (z rfl).elim
      subst e
      exact ⟨_, ⟨⟨oc, od, kV, doc, pm, an, cdv, ct, osl, rfl, lk, cd⟩, F.kp⟩, L2.Binds.all fun us hl => match us, hl with | [_, _], _ => rfl⟩,
    e_Refused := errB_ok (hE "Refused" (by decide +kernel)) (He.glo_ok X G (d.fact 33 (f := .glo "Refused") rfl)),
    e_BadMany := errB_ok (hE "BadMany" (by decide +kernel)) (He.glo_ok X G (d.fact 34 (f := .glo "BadMany") rfl)),
    e_BadTable := errB_ok (hE "BadTable" (by decide +kernel)) (He.glo_ok X G (d.fact 35 (f := .glo "BadTable") rfl)),
    e_BadState := errB_ok (hE "BadState" (by decide +kernel)) (He.glo_ok X G (d.fact 36 (f := .glo "BadState") rfl)),
    x_BadMany := He.exm_ok (d.fact 47 (f := .exm "BadMany" "Refused" true) rfl),
    k_BadMany_BadMany := hK ("BadMany", "BadMany", true) (by decide +kernel),
    k_BadMany_BadTable := hK ("BadMany", "BadTable", false) (by decide +kernel),
    k_BadMany_BadState := hK ("BadMany", "BadState", false) (by decide +kernel),
    x_BadTable := He.exm_ok (d.fact 48 (f := .exm "BadTable" "Refused" true) rfl),
    k_BadTable_BadMany := hK ("BadTable", "BadMany", false) (by decide +kernel),
    k_BadTable_BadTable := hK ("BadTable", "BadTable", true) (by decide +kernel),
    k_BadTable_BadState := hK ("BadTable", "BadState", false) (by decide +kernel),
    x_BadState := He.exm_ok (d.fact 49 (f := .exm "BadState" "Refused" true) rfl),
    k_BadState_BadMany := hK ("BadState", "BadMany", false) (by decide +kernel),
    k_BadState_BadTable := hK ("BadState", "BadTable", false) (by decide +kernel),
    k_BadState_BadState := hK ("BadState", "BadState", true) (by decide +kernel) }
variable {P : Program} {TT : List (Addr × Str)} {CL : Cl}
theorem all_v (T : Txt K mg base TT CL) : CalV P w K mg base 10 "law" (spLaw K TT) := by
  have c_whole := v_whole (P := P) (w := w) T
  have c_whole_between := v_whole_between (P := P) (w := w) T c_whole
  have c_tuple_between := v_tuple_between (P := P) (w := w) T
  have c_check_many := v_check_many (P := P) (w := w) T c_whole_between
  have c_check_state := v_check_state (P := P) (w := w) T c_whole_between
  have c_wrong_entry := v_wrong_entry (P := P) (w := w) T
  have c_cube_shaped := v_cube_shaped (P := P) (w := w) T c_tuple_between
  have c_wrong_place := v_wrong_place (P := P) (w := w) T c_cube_shaped c_wrong_entry
  have c_made_table := v_made_table (P := P) (w := w) T c_wrong_place
  have c_is_table := v_is_table (P := P) (w := w) T c_wrong_place
  have c_many := v_many (P := P) (w := w) T c_made_table
  have c_entry := v_entry (P := P) (w := w) T c_made_table c_check_state
  have c_gap_place := v_gap_place (P := P) (w := w) T
  have c_first_gap := v_first_gap (P := P) (w := w) T c_made_table c_gap_place
  have c__law_take := v__law_take (P := P) (w := w) T
  have c__law_pool := v__law_pool (P := P) (w := w) T
  have c_one_side := v_one_side (P := P) (w := w) T
  have c_alike_once := v_alike_once (P := P) (w := w) T c_one_side
  have c_greater_side := v_greater_side (P := P) (w := w) T c_alike_once
  have c_filled := v_filled (P := P) (w := w) T
  have c_sides := v_sides (P := P) (w := w) T c_check_many c_filled c_one_side
  have c_once := v_once (P := P) (w := w) T c_check_many c_filled c_alike_once
  have c_greater := v_greater (P := P) (w := w) T c_check_many c_filled c_greater_side
  have c_turn := v_turn (P := P) (w := w) T c_check_many c_filled
  have c__law_own_entry := v__law_own_entry (P := P) (w := w) T
  have c__law_own_table := v__law_own_table (P := P) (w := w) T c__law_own_entry
  have c__law_told_by := v__law_told_by (P := P) (w := w) T c_turn c_sides c_once c_greater
  have c__law_one := v__law_one (P := P) (w := w) T c__law_take
  have c__law_gapped := v__law_gapped (P := P) (w := w) T c__law_take
  have c__law_has_gap := v__law_has_gap (P := P) (w := w) T
  have c__law_is_refused := v__law_is_refused (P := P) (w := w) T
  have c__law_table_right := v__law_table_right (P := P) (w := w) T c_first_gap c__law_has_gap c_many c_is_table c_made_table c__law_take c_entry c__law_one
  exact v_law (P := P) (w := w) T c__law_pool c__law_take c__law_own_table c__law_told_by c__law_table_right c__law_gapped c__law_one c__law_is_refused
end
theorem tabs_start {T : List (Addr × Str)} {H : Hp} (h : ∀ p ∈ T, H p.1 = some (.tbl #[])) : LamX.Tabs T H := fun p hp => ⟨#[], h p hp, by trivial, fun pos cv e => by cases e⟩
theorem law_of {w : World} {mg : Str → Option Value} {fa : Addr} {h : Heap} (Y : hk.says w h) (G : h.Ns mainGlobals mg) (hmg : mg ("law" : Str) = some (.ref fa)) : ∃ K : PySem.W.Frag, K.In h ∧ LawV PySem.Challenge.rw_editlots_k01_tables_told_by_rule w K 10 63 mg fa h := by
  obtain ⟨K, X, c⟩ := Y
  refine ⟨K, X, tfL.map (He.cT K), spLaw K (TTof K), fun p hp => ?_, fun p hp => ?_, fun p hp => ?_, fun H a ns _ _ hH hS => ⟨a, ns, rfl, hS, tabs_start fun p hp => ?_, fun _ => rfl⟩, fun base KB NB TB => ?_⟩
  · obtain ⟨q, hq, rfl⟩ := List.mem_map.mp hp
    exact c.empty q hq
  · obtain ⟨q, hq, rfl⟩ := List.mem_map.mp hp
    exact c.out q hq
  · obtain ⟨q, hq, rfl⟩ := List.mem_map.mp hp
    exact PySem.W.codeHd_of_K X (c.hd q hq)
  · have e : ∀ p ∈ TTof K, p.1 ∈ (tfL.map (He.cT K)).map (·.2) := fun p hp => by
      simp only [TTof, List.mem_cons, List.mem_nil_iff, or_false] at hp
      simp only [tfL, List.map_cons, List.map_nil, List.mem_cons, List.mem_nil_iff, or_false]
      rcases hp with rfl | rfl <;> simp
    obtain ⟨q, hq, e2⟩ := List.mem_map.mp (e p hp)
    rw [← e2]
    exact hH q hq
  · obtain ⟨f, F, hm, _⟩ := (all_v (P := PySem.Challenge.rw_editlots_k01_tables_told_by_rule.prog) (w := w) (txt_of X G c TB)).ex
    have e := hm.symm.trans hmg
    cases e
    exact F
end Ed
open PySem PySem.W PySem.Calls PyProof.Rows
theorem PySem.Challenge.cw_editlots_k01_tables_told_by_rule_holds : PySem.Challenge.rw_editlots_k01_tables_told_by_rule.Holds := by
  w_on; o_law
  refine HandSHeadRun.head_any (r := OpenLaw.row PySem.Challenge.rw_editlots_k01_tables_told_by_rule) (q := view (OpenLaw.row PySem.Challenge.rw_editlots_k01_tables_told_by_rule).prog [41]) (H := Ed.hk) (ob := Ed.obH) (M := 6000) (loose := Ed.lsL) (d := HandSHeadRun.topDef (OpenLaw.row PySem.Challenge.rw_editlots_k01_tables_told_by_rule).prog 41) (kwd := []) Ed.obH_eq
    (by kernel_rfl) (fun s => by kernel_rfl) Ed.runH (by kernel_rfl) (by kernel_rfl) (by kernel_rfl) (by rfl) (by first | assumption | decide +kernel) (by decide +kernel) ⟨rfl, rfl, rfl, rfl, rfl, by decide +kernel⟩ ?hw ?hc
  case hw => w_witness2
  case hc =>
    refine Ed.walk_v (l := PySem.Challenge.rw_editlots_k01_tables_told_by_rule) (n := 63) (k := 10) rfl (by decide) (by kernel_rfl) ⟨⟨rfl, by decide, by decide⟩, rfl⟩ ?F
    intro w mg fa h Y G hmg0
    have hmg : mg ("law" : PySem.Str) = some (.ref fa) := by
      have e : (HandSHeadRun.topDef (OpenLaw.row PySem.Challenge.rw_editlots_k01_tables_told_by_rule).prog 41).name = ("law" : PySem.Str) := by kernel_rfl
      rw [← e]
      exact hmg0
    exact Ed.law_of Y G hmg

