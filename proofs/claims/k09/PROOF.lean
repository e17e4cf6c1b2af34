import PyProof.Rows.All
import Wide.All
import OpenK.AllK
import Wide.FinOn
import HandS.ForMost
import HandS.Nested
import HandS.IsInst
import HandS.Style
import HandS.TupAny
import HandS.TupMul
import HandS.Conv
import HandS.Defaults
import HandS.Wide
import HandS.Codes
import HandS.EndTab
import KE.KNestM
import KE.KLam
import PySem.Challenge.RW_parlourday_k09_numbers_judged
set_option Elab.async false
set_option linter.all false
set_option maxRecDepth 100000
set_option maxHeartbeats 1000000
/-! a lambda with parameters, handed to a def that calls it -/
namespace Clo
open PySem PySem.Spec PyProof.Rows L2 LamX NdefX
section
variable {cl : List (Str × Addr)} {fr : List Str} {ws : List (Option V)} {Z : Cx} {pins : List (Addr × Obj)} {σ : L2.St} {H : Hp} {s : Shared}
theorem cells_later (C : CellsAt cl fr ws Z.s_0.heap Z.H_0) (hx : Z.ex = []) (I : Inv Z pins σ H s) : CellsAt cl fr ws s.heap H := by
  have nx : ∀ b : Addr, b ∉ Z.ex := fun b q => by
    rw [hx] at q
    cases q
  have cell : ∀ y c, cl.lookup y = some c → ∀ v, Z.s_0.heap.IsCell c v → s.heap.IsCell c v := fun y c e v w => by
    obtain ⟨o, ho, hd⟩ := w
    obtain ⟨sl, q⟩ := I.base.any ho (C.all y c e).1 (nx c)
    exact ⟨_, q, hd⟩
  constructor
  · exact C.len
  · intro y c e
    obtain ⟨n, v, z⟩ := C.all y c e
    obtain ⟨o, ho, hd⟩ := id z
    exact ⟨I.base.free c o ho n (nx c), v, cell y c e v z⟩
  · exact C.inj
  · intro i y e
    obtain ⟨c, hc, hv⟩ := C.has i y e
    exact ⟨c, hc, fun v q => by
      obtain ⟨u, r, z⟩ := hv v q
      exact ⟨u, r, cell y c hc _ z⟩⟩
end
/-- the object at f is the lambda F with this body -/
def LamO (f : Addr) (F : NF) (body : Expr) : HO := .ext fun h => ∃ pm ctv, h.get? f = some (PySem.W.kla_obj F.name F.qual F.params body F.scope F.cl pm F.c ctv)
theorem lamO_at {P : Program} {w : World} {H : Hp} {h : Heap} {f : Addr} {F : NF} {body : Expr} (hok : HOk P w H h) (e : H f = some (LamO f F body)) : ∃ pm ctv, h.get? f = some (PySem.W.kla_obj F.name F.qual F.params body F.scope F.cl pm F.c ctv) := (hok f _ e).1
/-- what it promises; ws: what its captured cells hold -/
structure LOk (P : Program) (w : World) (K : PySem.W.Frag) (mg : Str → Option Value) (base : Heap) (CX : CXT) (k : Nat) (f : Addr) (F : NF) (body : Expr) (ps fr : List Str) (sp : List (Option V) → Sp) : Prop where
  len : ∀ ws vs H Q E, sp ws vs H Q E → vs.length = ps.length
  run : ∀ (A : Around) (outer : List Env) (s : Shared) (H : Hp) (us : List Value) (vs : List V) (ws : List (Option V)) (Q : VK) (E : XK), Room k A → Env0 P w K mg base A outer s H → H f = some (LamO f F body) →
    H F.c = some (CodeO F.c F.qual) → CellsAt F.cl fr ws s.heap H → Vals vs us → sp ws vs H Q E → codeAny (model P w) A (.call (.ref f) ⟨us, []⟩) (CR CX outer P w H s Q E) s
section
variable {CX : CXT} {P : Program} {w : World} {K : PySem.W.Frag} {mg : Str → Option Value} {base : Heap} {N ps fr : List Str} {F : NF} {f : Addr} {k : Nat} {sp : List (Option V) → Sp} {body : Expr}
theorem lok_of (S : NScope N ps fr F.scope) (hb : ∀ (pm ctv : Value) (us : List Value), us.length = ps.length → bindArgs (PySem.W.kla_fn F.name F.qual F.params body F.scope F.cl pm (.ref F.c) ctv) ⟨us, []⟩ = pure (ps.zip us))
    (len : ∀ ws vs H Q E, sp ws vs H Q E → vs.length = ps.length)
    (hbody : ∀ (A : Around) (outer : List Env) (s : Shared) (H : Hp) (vs : List V) (ws : List (Option V)) (Q : VK) (E : XK), Room k (A.deeper (envF F f s.heap.objs.size)) → ws.length = fr.length → sp ws vs H Q E →
      ∃ t, PE (ncx CX P w K mg base N F f A outer s H E) body t ∧ t (startF N vs ws) H Q) : LOk P w K mg base CX (k + 1) f F body ps fr sp := by
  constructor
  · exact len
  intro A outer s H us vs ws Q E hr e0 hf hc C r hsp
  have hl := len _ _ _ _ _ hsp
  have lim : s.heap.NoLimit := e0.mod.nolimit.keeps fun b o e => (e0.bs b o e).1
  obtain ⟨pm, ctv, ho⟩ := lamO_at e0.hok hf
  obtain ⟨⟨oc, vc, t, hoc, hdc, hvc⟩, _, _⟩ := e0.hok F.c _ hc
  refine PySem.W.kla_callFunE hr.depth ho rfl S.co S.gen rfl ⟨F.c, oc, vc, t, rfl, hoc, hdc, hvc⟩ ?_
  rw [hb pm ctv us (by rw [← r.length]; exact hl)]
  refine wpAny_pure (wpAny_newFunctionEnv S.nocell (fun y hy => S.par y.1 (List.of_mem_zip hy).1) (fun h₁ hns hsb => ⟨lim.fresh _ hsb, ?_⟩) S.kind)
  show codeAny _ _ (.expr body (envF F f s.heap.objs.size)) _ _
  obtain ⟨t2, ht, hq⟩ := hbody A outer s H vs ws Q E (hr.deeper _) C.len hsp
  have J := inv_startN (CX := CX) (N := N) (w := w) (E := E) (F := F) (f := f) (tk := s.toks + (ps.zip us).length) S hr.hd e0 hl r C hns (fun b o e => hsb.extBut b o (Nat.ne_of_lt (Heap.lt_size e)) (Heap.get?_push_of_some _ e))
  refine PySem.W.kla_codeExpr (wpAny_mono (ht.run [] _ (startF N vs ws) H Q J hq) (fun v s' z => ?_) fun e s' z => z)
  obtain ⟨u, H', J', rv, qv⟩ := z
  exact ⟨u, H', J'.os, J'.bare, J'.base, J'.hok, rv, qv⟩
end
/-- a def that is given a closure: its promise, the captured cells known at the call -/
structure FnC (P : Program) (w : World) (K : PySem.W.Frag) (mg : Str → Option Value) (base : Heap) (CX : CXT) (k : Nat) (g : Addr) (gd : FuncData) (ps : List Str) (cl : List (Str × Addr)) (fr : List Str) (sp : List (Option V) → Sp) : Prop where
  run : ∀ (A : Around) (outer : List Env) (s : Shared) (H : Hp) (args : Args) (us : List Value) (vs : List V) (ws : List (Option V)) (Q : VK) (E : XK), Room k A → Env0 P w K mg base A outer s H → BindsTo s gd args (ps.zip us) → Vals vs us →
    CellsAt cl fr ws s.heap H → sp ws vs H Q E → vs.length = ps.length → codeAny (model P w) A (.call (.ref g) args) (CR CX outer P w H s Q E) s
section
variable {CX : CXT} {P : Program} {w : World} {K : PySem.W.Frag} {mg : Str → Option Value} {base : Heap} {k : Nat} {g : Addr} {gd : FuncData} {x qual : Str} {st : Stmt} {N ps : List Str} {cl : List (Str × Addr)} {fr : List Str} {sp : List (Option V) → Sp}
theorem fnc_of (F : L2.Fun K x qual st g gd) (S : FnScope N ps (defScope st))
    (hbody : ∀ (cdv : Value) (A : Around) (outer : List Env) (s : Shared) (H : Hp) (vs : List V) (ws : List (Option V)) (Q : VK) (E : XK), Room k (A.deeper (envOfC qual (defScope st) s.heap.objs.size g cdv)) → CellsAt cl fr ws s.heap H → sp ws vs H Q E →
      ∃ t, PSs (cxOf CX0 P w K mg base N qual (defScope st) g cdv A outer s H E).nox (defBody st) t ∧ t { nx := fun _ H' => Q .non H', rt := Q } (start N vs) H) : FnC P w K mg base CX0 (k + 1) g gd ps cl fr sp := by
  obtain ⟨oc, od, kV, doc, pm, an, cdv, ct, osl, rfl, lk, hcd⟩ := F.ex
  constructor
  intro A outer s H args us vs ws Q E hr e0 hb r C hsp hl
  refine run_ofS lk hcd S hr e0 hb r hl fun hr' => ?_
  obtain ⟨t, ht, hq⟩ := hbody cdv A outer s H vs ws Q E hr' C hsp
  exact ⟨t, ht.nox, hq⟩
end
/-! ### the calls -/
def tHeld (i : Nat) (f : Addr) (F : NF) (body : Expr) (ws : List (Option V)) (sp : List (Option V) → Sp) (E : XK) (t : TA) : TE := fun σ H Q => σ[i]? = some (some (.ref f)) ∧ H f = some (LamO f F body) ∧
  t σ H fun vs H1 => H1 f = some (LamO f F body) ∧ H1 F.c = some (CodeO F.c F.qual) ∧ sp ws vs H1 Q E
theorem lam_fnAt {X : Cx} {pins : List (Addr × Obj)} {σ : L2.St} {H : Hp} {s : Shared} {f : Addr} {F : NF} {body : Expr} (I : Inv X pins σ H s) (e : H f = some (LamO f F body)) : PySem.W.FnAt f s.heap := by
  obtain ⟨pm, ctv, ho⟩ := lamO_at I.hok e
  exact ⟨_, _, _, _, ho⟩
section
variable {X : Cx} {CX : CXT} {i j k : Nat} {x : Str} {f : Addr} {F : NF} {body : Expr} {ps fr : List Str} {ws : List (Option V)} {sp : List (Option V) → Sp} {E : XK} {t : TA} {e : Expr} {es : List Expr} {p pos : Pos}
theorem pe_held (L : LOk X.prog X.w X.K X.mg X.base CX k f F body ps fr sp) (C : CellsAt F.cl fr ws X.s_0.heap X.H_0) (hex : X.ex = []) (hr : Room j X.A) (hk : k ≤ j) (hx : Passes CX X E) (hN : X.N[i]? = some x) (hv : Vis X.env.scope x)
    (ha : PA X (e :: es) t) (hd : (x == ("__debug__" : Str)) = false := by decide) (hcd : (x == ("__classdict__" : Str)) = false := by decide)
    (he : starEach (e :: es) X.env = (false, eval e X.env) :: starEach es X.env := by rfl) (hpl : (backTo pos (starEach es X.env)).any (·.1) = false := by rfl) :
    PE X (.Call (.Name x p) (e :: es) [] pos) (tHeld i f F body ws sp E t) := by
  constructor
  intro pins s σ H Q I h
  obtain ⟨hs, hf, ht⟩ := h
  refine wpAny_Call_Name_kw (thn ((pe_var (pos := p) hN hv hd hcd).run pins s σ H (fun v H1 => v = .ref f ∧ H1 = H) I ⟨.ref f, hs, rfl, rfl⟩) fun u s1 z => ?_)
  obtain ⟨v, H1, I1, r1, rfl, eH⟩ := z
  rw [eH] at I1
  cases (show u = Value.ref f from r1)
  refine PySem.W.callWith_F (first := []) (lam_fnAt I1 hf) (thn (ha.run pos pins s1 σ H _ I1 ht) fun us s2 z => ?_) he hpl
  obtain ⟨vs, H2, I2, r, h1, h2, q⟩ := z
  refine ⟨lam_fnAt I2 h1, ?_⟩
  refine wpAny_call (codeAny_mono (L.run X.A X.stack s2 H2 us vs ws Q E (hr.mono hk) I2.env0 h1 h2 (cells_later C hex I2) r q) fun r s' hq => ?_)
  cases r with
  | error e => exact hx pins σ H2 s2 e s' I2 hq
  | ok fl =>
    cases fl with
    | ret u => exact I2.after hq
    | next => exact hq.elim
    | brk => exact hq.elim
    | cont => exact hq.elim
/-- g(e, ..): a def of the text that is given a function which the running frame has made; js: where the captured names stand -/
def tCallC (js : List Nat) (sp : Addr → Addr → List (Option V) → Sp) (E : XK) (t : TA) : TE := fun σ H Q => t σ H fun vs H1 => ∃ f c', sp f c' (js.map (slotAt σ)) vs H1 Q E
theorem pe_callC {cl : List (Str × Addr)} {js : List Nat} {g : Addr} {gd : FuncData} {sp : Addr → Addr → List (Option V) → Sp} (G : ∀ f c', FnC X.prog X.w X.K X.mg X.base CX k g gd ps cl fr (sp f c')) (len : ∀ f c' ws vs H Q E, sp f c' ws vs H Q E → vs.length = ps.length) (cp : X.Ok → Caps X cl fr js) (hr : Room j X.A) (hk : k ≤ j)
    (hg : Gl X x) (hm : X.mg x = some (.ref g)) (hkp : PySem.W.keepIn X.K (.ref g) = true) (hb : Binds X.K gd ps []) (hx : Passes CX X E) (ha : PA X (e :: es) t) (hdb : (x == ("__debug__" : Str)) = false := by decide)
    (he : starEach (e :: es) X.env = (false, eval e X.env) :: starEach es X.env := by rfl) (hpl : (backTo pos (starEach es X.env)).any (·.1) = false := by rfl) :
    PE X (.Call (.Name x p) (e :: es) [] pos) (tCallC js sp E t) := by
  constructor
  intro pins s σ H Q I h
  refine wpAny_Call_Name_kw (ld_glob I hg hm ?_ hdb)
  refine PySem.W.callWith_K (h₀ := X.base) I.ok.mod.kin hkp (thn (ha.run pos pins s σ H _ I h) fun us s2 z => ?_) he hpl
  obtain ⟨vs, H2, I2, r, f0, c0, q⟩ := z
  refine ⟨I2.kIn, ?_⟩
  have hl := len _ _ _ _ _ _ _ q
  have bt : BindsTo s2 gd ⟨us, []⟩ (ps.zip us) := by
    have b := hb s2 us I2.kIn (by rw [List.append_nil, ← r.length]; exact hl)
    rw [List.append_nil] at b
    exact b
  refine wpAny_call (codeAny_mono ((G f0 c0).run X.A X.stack s2 H2 ⟨us, []⟩ us vs _ Q E (hr.mono hk) I2.env0 bt r (cells_of I2 (cp I2.ok)) q hl) fun r s' hq => ?_)
  cases r with
  | error e => exact hx pins σ H2 s2 e s' I2 hq
  | ok fl =>
    cases fl with
    | ret u => exact I2.after hq
    | next => exact hq.elim
    | brk => exact hq.elim
    | cont => exact hq.elim
end
/-! ### the lambda itself -/
def tLamE (T : List (Addr × Str)) (q : Str) (mk : Addr → NF) (body : Expr) : TE := fun _ H Q => Tabs T H ∧ ∀ (f c' : Addr) (H1 : Hp), ExtN H H1 → (∀ b, H1 b = none → H b = none) → Tabs T H1 → H f = none → H1 f = some (LamO f (mk c') body) → H1 c' = some (CodeO c' q) → Q (.ref f) H1
section
variable {X : Cx} {pins : List (Addr × Obj)} {σ : L2.St} {H : Hp} {s : Shared}
theorem lam_laid {F : NF} {body : Expr} {pm ctv : Value} {t' : Nat} (I : Inv X pins σ H s) :
    Inv X pins σ (upd H s.heap.objs.size (LamO s.heap.objs.size F body)) { s with heap := s.heap.push (PySem.W.kla_obj F.name F.qual F.params body F.scope F.cl pm F.c ctv), toks := t' } := by
  have e : (s.heap.push (PySem.W.kla_obj F.name F.qual F.params body F.scope F.cl pm F.c ctv)).get? s.heap.objs.size = some (PySem.W.kla_obj F.name F.qual F.params body F.scope F.cl pm F.c ctv) := Heap.get?_push_size _ rfl
  exact I.laid (a := s.heap.objs.size) (o := LamO s.heap.objs.size F body) (fun b u q => Heap.get?_push_of_some _ q) (Nat.le_refl _) ⟨⟨pm, ctv, e⟩, ⟨_, e⟩, fun h1 h2 ⟨a, b, z⟩ st => ⟨a, b, st _ z⟩⟩
theorem pe_lambda {T : List (Addr × Str)} {c P : Addr} {params : Arguments} {body : Expr} {scope : Scope} {pos : Pos} (TB : TabB X.base X.mg c P) (hcode : X.env.code = .ref c) (hm : (P, X.env.qual ++ "<lambda>") ∈ T)
    (hu : ∀ p ∈ T, p.1 = P → p.2 = X.env.qual ++ "<lambda>") (hdef : defaultsOf params X.env = ([], [])) (hfree : X.Ok → ∀ y ∈ scope.names, y.2 = .free → ∃ c, X.env.cells.lookup y.1 = some c) :
    PE X (.Lambda params body scope pos) (tLamE T (X.env.qual ++ "<lambda>") (fun c' => ⟨"<lambda>", X.env.qual ++ "<lambda>", params, [], scope, cloFrom X.env.cells scope.names [], c'⟩) body) := by
  constructor
  intro pins s σ H Q I hq
  obtain ⟨hT, h⟩ := hq
  obtain ⟨ps, hP, ht, ha⟩ := hT _ hm
  have bP : s.heap.BuiltinsAt X.mg P := TB.bm.keeps I.bk
  have hP' : s.heap.get? P = some { cls := .none, data := .fields ps } := I.hok P _ hP
  refine PySem.W.kla_eval hdef ?_
  rcases hc : codeAmong pos ps.toList with _ | cv
  · -- a new code object
    refine PySem.W.kla_makeFunction (mg := X.mg) (c := c) (P := P) (ps := ps) (closure_ok (hfree I.ok)) I.ok.glob (I.mod.glob.keeps I.bk) hcode (TB.code.keeps I.bk) hP' ht hc TB.gP bP fun c' ctv h' tk hx hge hlt hrec htb => ?_
    obtain ⟨c2, oc, vs, t, e2, hoc, hd, hv⟩ := hrec
    cases e2
    have nC : H c' = none := I.hok.fresh hge
    have nPC : P ≠ c' := ne_of_none hP nC
    have I1 : Inv X pins σ (upd (upd H P (.tbl (ps ++ #[rawInt pos.line, rawInt pos.col, .ref c']))) c' (CodeO c' (X.env.qual ++ "<lambda>"))) { s with heap := h', toks := tk } :=
      inv_table I hP (fun b o hb e => hx b o hb e) htb hge ⟨oc, vs, t, hoc, hd, hv⟩
    have nF : upd (upd H P (.tbl (ps ++ #[rawInt pos.line, rawInt pos.col, .ref c']))) c' (CodeO c' (X.env.qual ++ "<lambda>")) h'.objs.size = none := I1.hok.fresh (Nat.le_refl _)
    have I2 := lam_laid (F := ⟨"<lambda>", X.env.qual ++ "<lambda>", params, [], scope, cloFrom X.env.cells scope.names [], c'⟩) (body := body) (pm := (X.mg "__name__").getD .none) (ctv := ctv) (t' := tk) I1
    have nF0 : H h'.objs.size = none := upd_none (upd_none nF)
    have old : ∀ b o, H b = some o → (∀ q, o ≠ .tbl q) → upd (upd (upd H P (.tbl (ps ++ #[rawInt pos.line, rawInt pos.col, .ref c']))) c' (CodeO c' (X.env.qual ++ "<lambda>"))) h'.objs.size (LamO h'.objs.size ⟨"<lambda>", X.env.qual ++ "<lambda>", params, [], scope, cloFrom X.env.cells scope.names [], c'⟩ body) b = some o := fun b o e n => by
      rw [upd_ne (ne_of_none e nF0), upd_ne (ne_of_none e nC), upd_ne (fun z => n ps (Option.some.inj (e.symm.trans (by rw [z]; exact hP))))]
      exact e
    have atC : upd (upd (upd H P (.tbl (ps ++ #[rawInt pos.line, rawInt pos.col, .ref c']))) c' (CodeO c' (X.env.qual ++ "<lambda>"))) h'.objs.size (LamO h'.objs.size ⟨"<lambda>", X.env.qual ++ "<lambda>", params, [], scope, cloFrom X.env.cells scope.names [], c'⟩ body) c' = some (CodeO c' (X.env.qual ++ "<lambda>")) := by
      rw [upd_ne (ne_of_none upd_same nF), upd_same]
    refine ⟨.ref h'.objs.size, _, I2, rfl, h h'.objs.size c' _ old (fun b e => upd_none (upd_none (upd_none e))) (fun p hp => ?_) nF0 upd_same atC⟩
    by_cases hb : p.1 = P
    · rw [hu p hp hb, hb]
      have eL : (ps ++ #[rawInt pos.line, rawInt pos.col, .ref c']).toList = ps.toList ++ [rawInt pos.line, rawInt pos.col, .ref c'] := by simp
      refine ⟨ps ++ #[rawInt pos.line, rawInt pos.col, .ref c'], ?_, by rw [eL]; exact PySem.TriplesOk_snoc _ _ _ _ ht, fun p' cv q => ?_⟩
      · have atP : upd (upd H P (.tbl (ps ++ #[rawInt pos.line, rawInt pos.col, .ref c']))) c' (CodeO c' (X.env.qual ++ "<lambda>")) P = some (.tbl (ps ++ #[rawInt pos.line, rawInt pos.col, .ref c'])) := by rw [upd_ne nPC, upd_same]
        exact (upd_ne (ne_of_none atP nF)).trans atP
      · rw [eL] at q
        rcases among_app _ ht q with q | q
        · obtain ⟨c0, e1, e3⟩ := ha p' cv q
          exact ⟨c0, e1, old _ _ e3 codeO_ne⟩
        · exact ⟨c', q, atC⟩
    · obtain ⟨ps', a1, a2, a3⟩ := hT p hp
      refine ⟨ps', ?_, a2, fun p' cv q => ?_⟩
      · rw [upd_ne (ne_of_none a1 nF0), upd_ne (ne_of_none a1 nC), upd_ne hb]
        exact a1
      · obtain ⟨c0, e1, e3⟩ := a3 p' cv q
        exact ⟨c0, e1, old _ _ e3 codeO_ne⟩
  · -- the code object stands in the table
    obtain ⟨c', e, hco⟩ := ha pos cv hc
    subst e
    refine PySem.W.kla_makeFunctionHit (mg := X.mg) (c := c) (P := P) (ps := ps) (closure_ok (hfree I.ok)) I.ok.glob (I.mod.glob.keeps I.bk) hcode (TB.code.keeps I.bk) hP' ht hc bP fun ctv h' tk hx hsz => ?_
    have I1 : Inv X pins σ H { s with heap := h', toks := tk } := I.kept hx
    have nF : H h'.objs.size = none := I1.hok.fresh (Nat.le_refl _)
    have I2 := lam_laid (F := ⟨"<lambda>", X.env.qual ++ "<lambda>", params, [], scope, cloFrom X.env.cells scope.names [], c'⟩) (body := body) (pm := (X.mg "__name__").getD .none) (ctv := ctv) (t' := tk) I1
    have sm : ∀ b o, H b = some o → upd H h'.objs.size (LamO h'.objs.size ⟨"<lambda>", X.env.qual ++ "<lambda>", params, [], scope, cloFrom X.env.cells scope.names [], c'⟩ body) b = some o := fun b o q => by
      rw [upd_ne (ne_of_none q nF)]
      exact q
    exact ⟨.ref h'.objs.size, _, I2, rfl, h h'.objs.size c' _ (ExtN.of sm) (fun b q => upd_none q) (hT.ext sm) nF upd_same (sm _ _ hco)⟩
end
end Clo

set_option Elab.async false
set_option linter.all false
set_option maxRecDepth 100000
set_option maxHeartbeats 4000000
namespace K09
open PySem PySem.Spec PyProof.Rows L2
/-! ### a call with keywords alone -/
section
variable {X : Cx} {CX : CXT} {k : Nat} {f : Addr} {fd : FuncData} {ps ks : List Str} {sp : Sp} {E : XK} {x : Str} {p pos : Pos} {kws : List Keyword} {tk : TA} {g : List Value → List Value → List Value} {gV : List V → List V → List V}
theorem pe_callN0 (F : FnOk X.prog X.w X.K X.mg X.base CX k f fd ps sp) (hr : Room k X.A) (hg : Gl X x) (hm : X.mg x = some (.ref f)) (hk : PySem.W.keepIn X.K (.ref f) = true) (hb : KBn X.K fd ps 0 ks g gV) (hx : Passes CX X E)
    (hkw : PK X kws tk) (hall : (backToKw pos (keywordEach kws X.env)).all (·.1.isSome) = true := by rfl) (hks : (backToKw pos (keywordEach kws X.env)).filterMap (·.1) = ks := by rfl)
    (hdb : (x == ("__debug__" : Str)) = false := by decide)
    (hpl : ((backTo pos (starEach [] X.env)).any (·.1) || (backToKw pos (keywordEach kws X.env)).any (·.1.isNone)) = false := by rfl) :
    PE X (.Call (.Name x p) [] kws pos) (tCallN 0 ks.length sp gV E tNil tk) := by
  refine ⟨fun pins s σ H Q I h => ?_⟩
  refine wpAny_Call_Name_kw (ld_glob I hg hm ?_ hdb)
  refine PySem.W.callWith_KW0 (h₀ := X.base) I.ok.mod.kin hk hall ?_ hpl
  refine thn (hkw.run pos pins s σ H _ I h) fun ws s2 ⟨zs, H2, I2, rz, l1, l2, q2⟩ => ⟨I2.kIn, ?_⟩
  rw [hks]
  exact run_fnN F hr hb hx I2 .nil rz rfl l2 q2
end

theorem bt_len : bootBuiltins "len" = some (.builtin "len") := by decide +kernel
theorem bt_isinstance : bootBuiltins "isinstance" = some (.builtin "isinstance") := by decide +kernel
theorem bt_abs : bootBuiltins "abs" = some (.builtin "abs") := by decide +kernel
theorem bt_all : bootBuiltins "all" = some (.builtin "all") := by decide +kernel
theorem bt_max : bootBuiltins "max" = some (.builtin "max") := by decide +kernel
theorem bt_min : bootBuiltins "min" = some (.builtin "min") := by decide +kernel
theorem bt_sorted : bootBuiltins "sorted" = some (.builtin "sorted") := by decide +kernel
theorem bt_repr : bootBuiltins "repr" = some (.builtin "repr") := by decide +kernel
theorem bt_int : bootBuiltins "int" = some (.type "int") := by decide +kernel
theorem bt_bool : bootBuiltins "bool" = some (.type "bool") := by decide +kernel
theorem bt_tuple : bootBuiltins "tuple" = some (.type "tuple") := by decide +kernel
theorem bt_list : bootBuiltins "list" = some (.type "list") := by decide +kernel
theorem bt_range : bootBuiltins "range" = some (.type "range") := by decide +kernel
theorem bt_enumerate : bootBuiltins "enumerate" = some (.type "enumerate") := by decide +kernel
/-- a statement that is never reached -/
theorem ps_dead {X : Cx} {st : Stmt} : PS X st (fun _ _ _ => False) := ⟨fun _ _ _ _ _ _ h => h.elim⟩
structure DefAt (K : PySem.W.Frag) (mg : Str → Option Value) (x : Str) (st : Stmt) (ps : List Str) (f : Addr) (fd : FuncData) : Prop where
  F : Fun K x x st f fd
  g : mg x = some (.ref f)
  b : Binds K fd ps []
def topS (i : Nat) : Stmt := PySem.Challenge.pw_parlourday_k09_numbers_judged.main.body.getD i (.Pass ⟨0, 0, 0, 0⟩)
abbrev s_search : Stmt := topS 1
abbrev N_search : List Str := ["start", "leads", "steps", "found", "at", "place", "index", "target"]
theorem sc_search : FnScope ["start", "leads", "steps", "found", "at", "place", "index", "target"] ["start", "leads"] (defScope s_search) := ⟨rfl, rfl, rfl, by decide +kernel, rfl, by decide +kernel, by decide +kernel⟩
abbrev s_is_whole : Stmt := topS 7
abbrev N_is_whole : List Str := ["thing"]
theorem sc_is_whole : FnScope ["thing"] ["thing"] (defScope s_is_whole) := ⟨rfl, rfl, rfl, by decide +kernel, rfl, by decide +kernel, by decide +kernel⟩
abbrev s_is_whole_in : Stmt := topS 8
abbrev N_is_whole_in : List Str := ["thing", "low", "high"]
theorem sc_is_whole_in : FnScope ["thing", "low", "high"] ["thing", "low", "high"] (defScope s_is_whole_in) := ⟨rfl, rfl, rfl, by decide +kernel, rfl, by decide +kernel, by decide +kernel⟩
abbrev s_is_pair : Stmt := topS 9
abbrev N_is_pair : List Str := ["thing"]
theorem sc_is_pair : FnScope ["thing"] ["thing"] (defScope s_is_pair) := ⟨rfl, rfl, rfl, by decide +kernel, rfl, by decide +kernel, by decide +kernel⟩
abbrev s_check_fraction : Stmt := topS 10
abbrev N_check_fraction : List Str := ["thing"]
theorem sc_check_fraction : FnScope ["thing"] ["thing"] (defScope s_check_fraction) := ⟨rfl, rfl, rfl, by decide +kernel, rfl, by decide +kernel, by decide +kernel⟩
abbrev s_walk_steps : Stmt := topS 12
abbrev N_walk_steps : List Str := ["web", "target", "_"]
theorem sc_walk_steps : FnScope ["web", "target", "_"] ["web"] (defScope s_walk_steps) := ⟨rfl, rfl, rfl, by decide +kernel, rfl, by decide +kernel, by decide +kernel⟩
abbrev s_met_nodes : Stmt := topS 13
abbrev N_met_nodes : List Str := ["web"]
theorem sc_met_nodes : FnScope ["web"] ["web"] (defScope s_met_nodes) := ⟨rfl, rfl, rfl, by decide +kernel, rfl, by decide +kernel, by decide +kernel⟩
abbrev s_turned : Stmt := topS 14
abbrev N_turned : List Str := ["web", "weight", "target", "moves"]
theorem sc_turned : FnScope ["web", "weight", "target", "moves"] ["web"] (defScope s_turned) := ⟨rfl, rfl, rfl, by decide +kernel, rfl, by decide +kernel, by decide +kernel⟩
abbrev s_weighed : Stmt := topS 15
abbrev N_weighed : List Str := ["web", "fraction", "above", "below", "weight", "target", "moves"]
theorem sc_weighed : FnScope ["web", "fraction", "above", "below", "weight", "target", "moves"] ["web", "fraction"] (defScope s_weighed) := ⟨rfl, rfl, rfl, by decide +kernel, rfl, by decide +kernel, by decide +kernel⟩
abbrev s_holds_up : Stmt := topS 16
abbrev N_holds_up : List Str := ["web", "numbers", "node", "weight", "target"]
theorem sc_holds_up : FnScope ["web", "numbers", "node", "weight", "target"] ["web", "numbers"] (defScope s_holds_up) := ⟨rfl, rfl, rfl, by decide +kernel, rfl, by decide +kernel, by decide +kernel⟩
abbrev s_is_web : Stmt := topS 21
abbrev N_is_web : List Str := ["thing", "node"]
theorem sc_is_web : FnScope ["thing", "node"] ["thing"] (defScope s_is_web) := ⟨rfl, rfl, rfl, by decide +kernel, rfl, by decide +kernel, by decide +kernel⟩
abbrev s_is_node : Stmt := topS 22
abbrev N_is_node : List Str := ["thing", "size", "move"]
theorem sc_is_node : FnScope ["thing", "size", "move"] ["thing", "size"] (defScope s_is_node) := ⟨rfl, rfl, rfl, by decide +kernel, rfl, by decide +kernel, by decide +kernel⟩
abbrev s_is_move : Stmt := topS 23
abbrev N_is_move : List Str := ["thing", "size"]
theorem sc_is_move : FnScope ["thing", "size"] ["thing", "size"] (defScope s_is_move) := ⟨rfl, rfl, rfl, by decide +kernel, rfl, by decide +kernel, by decide +kernel⟩
abbrev s_check_web : Stmt := topS 24
abbrev N_check_web : List Str := ["thing"]
theorem sc_check_web : FnScope ["thing"] ["thing"] (defScope s_check_web) := ⟨rfl, rfl, rfl, by decide +kernel, rfl, by decide +kernel, by decide +kernel⟩
abbrev s_is_numbers : Stmt := topS 26
abbrev N_is_numbers : List Str := ["web", "thing", "number"]
theorem sc_is_numbers : FnScope ["web", "thing", "number"] ["web", "thing"] (defScope s_is_numbers) := ⟨rfl, rfl, rfl, by decide +kernel, rfl, by decide +kernel, by decide +kernel⟩
abbrev s_caps : Stmt := topS 27
abbrev N_caps : List Str := ["web", "fraction", "thing"]
theorem sc_caps : FnScope ["web", "fraction", "thing"] ["web", "fraction", "thing"] (defScope s_caps) := ⟨rfl, rfl, rfl, by decide +kernel, rfl, by decide +kernel, by decide +kernel⟩
abbrev s_bears : Stmt := topS 28
abbrev N_bears : List Str := ["web", "fraction", "thing"]
theorem sc_bears : FnScope ["web", "fraction", "thing"] ["web", "fraction", "thing"] (defScope s_bears) := ⟨rfl, rfl, rfl, by decide +kernel, rfl, by decide +kernel, by decide +kernel⟩
abbrev s_turned_numbers : Stmt := topS 29
abbrev N_turned_numbers : List Str := ["numbers", "number"]
theorem sc_turned_numbers : FnScope ["numbers", "number"] ["numbers"] (defScope s_turned_numbers) := ⟨rfl, rfl, rfl, by decide +kernel, rfl, by decide +kernel, by decide +kernel⟩
abbrev s__law_open : Stmt := topS 31
abbrev N__law_open : List Str := ["_law_script", "_law_k", "_law_cell", "_law_seed"]
theorem sc__law_open : FnScope ["_law_script", "_law_k", "_law_cell", "_law_seed"] ["_law_script", "_law_k"] (defScope s__law_open) := ⟨rfl, rfl, rfl, by decide +kernel, rfl, by decide +kernel, by decide +kernel⟩
abbrev s__law_draw : Stmt := topS 32
abbrev N__law_draw : List Str := ["_law_deck", "_law_many", "_law_taken", "_law_stir"]
theorem sc__law_draw : FnScope ["_law_deck", "_law_many", "_law_taken", "_law_stir"] ["_law_deck", "_law_many"] (defScope s__law_draw) := ⟨rfl, rfl, rfl, by decide +kernel, rfl, by decide +kernel, by decide +kernel⟩
abbrev s__law_web : Stmt := topS 33
abbrev N__law_web : List Str := ["_law_deck", "_law_many", "_law_moves", "_law_most", "_law_size", "_law_found", "_law_node", "_law_own", "_law_move"]
theorem sc__law_web : FnScope ["_law_deck", "_law_many", "_law_moves", "_law_most", "_law_size", "_law_found", "_law_node", "_law_own", "_law_move"] ["_law_deck", "_law_many", "_law_moves", "_law_most"] (defScope s__law_web) := ⟨rfl, rfl, rfl, by decide +kernel, rfl, by decide +kernel, by decide +kernel⟩
abbrev s__law_met : Stmt := topS 34
abbrev N__law_met : List Str := ["_law_net", "_law_start", "_law_found", "_law_at", "_law_weight", "_law_target"]
theorem sc__law_met : FnScope ["_law_net", "_law_start", "_law_found", "_law_at", "_law_weight", "_law_target"] ["_law_net", "_law_start"] (defScope s__law_met) := ⟨rfl, rfl, rfl, by decide +kernel, rfl, by decide +kernel, by decide +kernel⟩
abbrev s__law_left : Stmt := topS 35
abbrev N__law_left : List Str := ["_law_net", "_law_ratio", "_law_sign", "_law_above", "_law_below", "_law_sums", "_law_turn", "_law_later", "_law_node", "_law_totals", "_law_weight", "_law_target"]
theorem sc__law_left : FnScope ["_law_net", "_law_ratio", "_law_sign", "_law_above", "_law_below", "_law_sums", "_law_turn", "_law_later", "_law_node", "_law_totals", "_law_weight", "_law_target"] ["_law_net", "_law_ratio", "_law_sign"] (defScope s__law_left) := ⟨rfl, rfl, rfl, by decide +kernel, rfl, by decide +kernel, by decide +kernel⟩
abbrev s__law_says : Stmt := topS 36
abbrev N__law_says : List Str := ["_law_found", "_law_due"]
theorem sc__law_says : FnScope ["_law_found", "_law_due"] ["_law_found", "_law_due"] (defScope s__law_says) := ⟨rfl, rfl, rfl, by decide +kernel, rfl, by decide +kernel, by decide +kernel⟩
abbrev s__law_capped : Stmt := topS 37
abbrev N__law_capped : List Str := ["_law_net", "_law_ratio", "_law_numbers", "_law_sign", "_law_above", "_law_below", "_law_node", "_law_weight", "_law_target"]
theorem sc__law_capped : FnScope ["_law_net", "_law_ratio", "_law_numbers", "_law_sign", "_law_above", "_law_below", "_law_node", "_law_weight", "_law_target"] ["_law_net", "_law_ratio", "_law_numbers", "_law_sign"] (defScope s__law_capped) := ⟨rfl, rfl, rfl, by decide +kernel, rfl, by decide +kernel, by decide +kernel⟩
abbrev s__law_is_numbers : Stmt := topS 38
abbrev N__law_is_numbers : List Str := ["_law_net", "_law_item", "_law_one"]
theorem sc__law_is_numbers : FnScope ["_law_net", "_law_item", "_law_one"] ["_law_net", "_law_item"] (defScope s__law_is_numbers) := ⟨rfl, rfl, rfl, by decide +kernel, rfl, by decide +kernel, by decide +kernel⟩
abbrev s__law_things : Stmt := topS 39
abbrev N__law_things : List Str := ["_law_deck", "_law_net", "_law_ratio", "_law_sign", "_law_size", "_law_own", "_law_node", "_law_number", "_law_at", "_law_more", "_law_moved", "_law_bent", "_law_rows"]
theorem sc__law_things : FnScope ["_law_deck", "_law_net", "_law_ratio", "_law_sign", "_law_size", "_law_own", "_law_node", "_law_number", "_law_at", "_law_more", "_law_moved", "_law_bent", "_law_rows"] ["_law_deck", "_law_net", "_law_ratio", "_law_sign"] (defScope s__law_things) := ⟨rfl, rfl, rfl, by decide +kernel, rfl, by decide +kernel, by decide +kernel⟩
abbrev s__law_weights : Stmt := topS 40
abbrev N__law_weights : List Str := ["_law_net", "_law_found", "_law_node", "_law_weight", "_law_target"]
theorem sc__law_weights : FnScope ["_law_net", "_law_found", "_law_node", "_law_weight", "_law_target"] ["_law_net"] (defScope s__law_weights) := ⟨rfl, rfl, rfl, by decide +kernel, rfl, by decide +kernel, by decide +kernel⟩
abbrev s__law_right : Stmt := topS 41
abbrev N__law_right : List Str := ["_law_deck", "_law_net", "_law_times", "_law_weights_here", "_law_middle", "_law_ratio", "_law_kept", "_law_sign", "_law_item", "_law_good", "_law_borne"]
theorem sc__law_right : FnScope ["_law_deck", "_law_net", "_law_times", "_law_weights_here", "_law_middle", "_law_ratio", "_law_kept", "_law_sign", "_law_item", "_law_good", "_law_borne"] ["_law_deck"] (defScope s__law_right) := ⟨rfl, rfl, rfl, by decide +kernel, rfl, by decide +kernel, by decide +kernel⟩
abbrev s_law : Stmt := topS 42
abbrev N_law : List Str := ["_law_script", "_law_k"]
theorem sc_law : FnScope ["_law_script", "_law_k"] ["_law_script"] (defScope s_law) := ⟨rfl, rfl, rfl, by decide +kernel, rfl, by decide +kernel, by decide +kernel⟩
structure Top (K : PySem.W.Frag) (mg : Str → Option Value) where
  f_search : Addr
  d_search : FuncData
  D_search : DefAt K mg "search" s_search ["start", "leads"] f_search d_search
  f_is_whole : Addr
  d_is_whole : FuncData
  D_is_whole : DefAt K mg "is_whole" s_is_whole ["thing"] f_is_whole d_is_whole
  f_is_whole_in : Addr
  d_is_whole_in : FuncData
  D_is_whole_in : DefAt K mg "is_whole_in" s_is_whole_in ["thing", "low", "high"] f_is_whole_in d_is_whole_in
  f_is_pair : Addr
  d_is_pair : FuncData
  D_is_pair : DefAt K mg "is_pair" s_is_pair ["thing"] f_is_pair d_is_pair
  f_check_fraction : Addr
  d_check_fraction : FuncData
  D_check_fraction : DefAt K mg "check_fraction" s_check_fraction ["thing"] f_check_fraction d_check_fraction
  f_walk_steps : Addr
  d_walk_steps : FuncData
  D_walk_steps : DefAt K mg "walk_steps" s_walk_steps ["web"] f_walk_steps d_walk_steps
  f_met_nodes : Addr
  d_met_nodes : FuncData
  D_met_nodes : DefAt K mg "met_nodes" s_met_nodes ["web"] f_met_nodes d_met_nodes
  f_turned : Addr
  d_turned : FuncData
  D_turned : DefAt K mg "turned" s_turned ["web"] f_turned d_turned
  f_weighed : Addr
  d_weighed : FuncData
  D_weighed : DefAt K mg "weighed" s_weighed ["web", "fraction"] f_weighed d_weighed
  f_holds_up : Addr
  d_holds_up : FuncData
  D_holds_up : DefAt K mg "holds_up" s_holds_up ["web", "numbers"] f_holds_up d_holds_up
  f_is_web : Addr
  d_is_web : FuncData
  D_is_web : DefAt K mg "is_web" s_is_web ["thing"] f_is_web d_is_web
  f_is_node : Addr
  d_is_node : FuncData
  D_is_node : DefAt K mg "is_node" s_is_node ["thing", "size"] f_is_node d_is_node
  f_is_move : Addr
  d_is_move : FuncData
  D_is_move : DefAt K mg "is_move" s_is_move ["thing", "size"] f_is_move d_is_move
  f_check_web : Addr
  d_check_web : FuncData
  D_check_web : DefAt K mg "check_web" s_check_web ["thing"] f_check_web d_check_web
  f_is_numbers : Addr
  d_is_numbers : FuncData
  D_is_numbers : DefAt K mg "is_numbers" s_is_numbers ["web", "thing"] f_is_numbers d_is_numbers
  f_caps : Addr
  d_caps : FuncData
  D_caps : DefAt K mg "caps" s_caps ["web", "fraction", "thing"] f_caps d_caps
  f_bears : Addr
  d_bears : FuncData
  D_bears : DefAt K mg "bears" s_bears ["web", "fraction", "thing"] f_bears d_bears
  f_turned_numbers : Addr
  d_turned_numbers : FuncData
  D_turned_numbers : DefAt K mg "turned_numbers" s_turned_numbers ["numbers"] f_turned_numbers d_turned_numbers
  f__law_open : Addr
  d__law_open : FuncData
  D__law_open : DefAt K mg "_law_open" s__law_open ["_law_script", "_law_k"] f__law_open d__law_open
  f__law_draw : Addr
  d__law_draw : FuncData
  D__law_draw : DefAt K mg "_law_draw" s__law_draw ["_law_deck", "_law_many"] f__law_draw d__law_draw
  f__law_web : Addr
  d__law_web : FuncData
  D__law_web : DefAt K mg "_law_web" s__law_web ["_law_deck", "_law_many", "_law_moves", "_law_most"] f__law_web d__law_web
  f__law_met : Addr
  d__law_met : FuncData
  D__law_met : DefAt K mg "_law_met" s__law_met ["_law_net", "_law_start"] f__law_met d__law_met
  f__law_left : Addr
  d__law_left : FuncData
  D__law_left : DefAt K mg "_law_left" s__law_left ["_law_net", "_law_ratio", "_law_sign"] f__law_left d__law_left
  f__law_says : Addr
  d__law_says : FuncData
  D__law_says : DefAt K mg "_law_says" s__law_says ["_law_found", "_law_due"] f__law_says d__law_says
  f__law_capped : Addr
  d__law_capped : FuncData
  D__law_capped : DefAt K mg "_law_capped" s__law_capped ["_law_net", "_law_ratio", "_law_numbers", "_law_sign"] f__law_capped d__law_capped
  f__law_is_numbers : Addr
  d__law_is_numbers : FuncData
  D__law_is_numbers : DefAt K mg "_law_is_numbers" s__law_is_numbers ["_law_net", "_law_item"] f__law_is_numbers d__law_is_numbers
  f__law_things : Addr
  d__law_things : FuncData
  D__law_things : DefAt K mg "_law_things" s__law_things ["_law_deck", "_law_net", "_law_ratio", "_law_sign"] f__law_things d__law_things
  f__law_weights : Addr
  d__law_weights : FuncData
  D__law_weights : DefAt K mg "_law_weights" s__law_weights ["_law_net"] f__law_weights d__law_weights
  f__law_right : Addr
  d__law_right : FuncData
  D__law_right : DefAt K mg "_law_right" s__law_right ["_law_deck"] f__law_right d__law_right
  b_len : mg "len" = none
  b_isinstance : mg "isinstance" = none
  b_abs : mg "abs" = none
  b_all : mg "all" = none
  b_max : mg "max" = none
  b_min : mg "min" = none
  b_sorted : mg "sorted" = none
  b_repr : mg "repr" = none
  b_int : mg "int" = none
  b_bool : mg "bool" = none
  b_tuple : mg "tuple" = none
  b_list : mg "list" = none
  b_range : mg "range" = none
  b_enumerate : mg "enumerate" = none
  t_MOST_NODES : Tok
  c_MOST_NODES : mg "MOST_NODES" = some (.int 120 t_MOST_NODES)
  t_MOST_MOVES : Tok
  c_MOST_MOVES : mg "MOST_MOVES" = some (.int 12 t_MOST_MOVES)
  t_MOST_WEIGHT : Tok
  c_MOST_WEIGHT : mg "MOST_WEIGHT" = some (.int 1000000 t_MOST_WEIGHT)
end K09

set_option Elab.async false
set_option linter.all false
set_option maxRecDepth 100000
set_option maxHeartbeats 1000000
namespace K09
open PySem PySem.Spec PyProof.Rows L2 LamX NdefX Clo
/-! ### what is met -/
inductive Reach (L : Int → List Int) : Int → Prop
  | zero : Reach L 0
  | step {k t : Int} (h : Reach L k) (m : t ∈ L k) : Reach L t
structure Gd (n : Int) (L : Int → List Int) (ps : List Int) (i : Nat) : Prop where
  nd : ps.Nodup
  bd : ∀ k ∈ ps, 0 ≤ k ∧ k < n
  zr : 0 ∈ ps
  cl : ∀ j, j < i → ∀ k, ps[j]? = some k → ∀ t ∈ L k, t ∈ ps
  rc : ∀ k ∈ ps, Reach L k
  le : i ≤ ps.length
theorem Gd.add {n : Int} {L : Int → List Int} {ps : List Int} {i : Nat} {t : Int} (g : Gd n L ps i) (nt : t ∉ ps) (b : 0 ≤ t ∧ t < n) (r : Reach L t) : Gd n L (ps ++ [t]) i := by
  refine ⟨?_, fun k m => ?_, List.mem_append_left _ g.zr, fun j hj k e u hu => ?_, fun k m => ?_, by rw [List.length_append]; have := g.le; omega⟩
  · rw [List.nodup_append]
    refine ⟨g.nd, by simp, fun a ha b hb e => ?_⟩
    rw [List.mem_singleton.mp hb] at e
    exact nt (e ▸ ha)
  · rcases List.mem_append.mp m with m | m
    · exact g.bd k m
    · rw [List.mem_singleton.mp m]
      exact b
  · have h1 : j < ps.length := Nat.lt_of_lt_of_le hj g.le
    rw [List.getElem?_append_left h1] at e
    exact List.mem_append_left _ (g.cl j hj k e u hu)
  · rcases List.mem_append.mp m with m | m
    · exact g.rc k m
    · rw [List.mem_singleton.mp m]
      exact r
theorem Gd.next {n : Int} {L : Int → List Int} {ps : List Int} {i : Nat} {k : Int} (g : Gd n L ps i) (e : ps[i]? = some k) (h : ∀ t ∈ L k, t ∈ ps) : Gd n L ps (i + 1) := by
  refine ⟨g.nd, g.bd, g.zr, fun j hj k' e' t ht => ?_, g.rc, ?_⟩
  · by_cases hj2 : j = i
    · subst hj2
      rw [e] at e'
      cases e'
      exact h t ht
    · exact g.cl j (by omega) k' e' t ht
  · have := (List.getElem?_eq_some_iff.mp e).1
    omega
theorem Gd.iff {n : Int} {L : Int → List Int} {ps : List Int} (g : Gd n L ps ps.length) {k : Int} : k ∈ ps ↔ Reach L k := by
  refine ⟨g.rc k, fun r => ?_⟩
  induction r with
  | zero => exact g.zr
  | step h m ih =>
    obtain ⟨j, hj⟩ := List.getElem?_of_mem ih
    exact g.cl j (List.getElem?_eq_some_iff.mp hj).1 _ hj _ m
theorem nodup_len : ∀ (m : Nat) (ps : List Int), ps.Nodup → (∀ k ∈ ps, 0 ≤ k ∧ k < (m : Int)) → ps.length ≤ m
  | 0, ps, _, b => by
    cases ps with
    | nil => exact Nat.le_refl _
    | cons x r =>
      have := b x List.mem_cons_self
      omega
  | m + 1, ps, nd, b => by
    have h1 := nodup_len m (ps.filter fun k => decide (k ≠ (m : Int))) (nd.filter _) fun k hk => by
      have h2 := List.mem_filter.mp hk
      have h3 := b k h2.1
      have h4 : k ≠ (m : Int) := of_decide_eq_true h2.2
      omega
    have h5 : ps.length ≤ (ps.filter fun k => decide (k ≠ (m : Int))).length + 1 := by
      clear h1 b
      induction ps with
      | nil => exact Nat.zero_le _
      | cons x r ih =>
        have ndr := (List.nodup_cons.mp nd)
        by_cases hx : x = (m : Int)
        · have : r.filter (fun k => decide (k ≠ (m : Int))) = r := by
            rw [List.filter_eq_self]
            intro a ha
            exact decide_eq_true fun e => ndr.1 (by rw [hx, ← e]; exact ha)
          rw [List.filter_cons_of_neg (by simp [hx]), this]
          exact Nat.le_refl _
        · rw [List.filter_cons_of_pos (by simp [hx]), List.length_cons, List.length_cons]
          have := ih ndr.2
          omega
    omega
theorem valV_none {kvs : List (Key × V)} {k : Key} : valV kvs k = none ↔ k ∉ kvs.map (·.1) := by
  unfold valV
  rw [Option.map_eq_none_iff, List.find?_eq_none]
  constructor
  · intro h m
    obtain ⟨p, hp, e⟩ := List.mem_map.mp m
    exact h p hp (by simp [e])
  · intro h p hp e
    exact h (List.mem_map.mpr ⟨p, hp, by simpa using e⟩)
theorem inl_mem {t : Int} {ps : List Int} : (Sum.inl t : Key) ∈ ps.map Sum.inl ↔ t ∈ ps := by
  constructor
  · intro h
    obtain ⟨x, hx, e⟩ := List.mem_map.mp h
    cases e
    exact hx
  · exact fun h => List.mem_map.mpr ⟨t, h, rfl⟩
theorem same_upd {H : Hp} {p : Addr} {o : HO} (h : H p = none) : Same H (upd H p o) := fun b x e => by
  rw [upd_ne (ne_of_none e h)]
  exact e
theorem Same.at_new {H H' : Hp} {f : Addr} {o : HO} (s : Same H H') (n : H f = none) : Same H (upd H' f o) := fun a u e => by
  rw [upd_ne (ne_of_none e n)]
  exact s a u e
def atOf (n : Int) (σ : L2.St) : Nat := match slotAt σ 4 with
  | some (.int a) => (n - a).toNat
  | _ => 0
/-! ### search -/
/-- what a def that leads says: WK tells what is known of the captured -/
def spL (WK : List (Option V) → Hp → Prop) (n : Int) (L : Int → List Int) (ws : List (Option V)) : Sp := fun vs H Q _ => ∃ p, vs = [.int p] ∧ (0 ≤ p ∧ p < n) ∧ WK ws H ∧ ∀ r H', Same H H' → H r = none → H' r = some (.lst ((L p).map V.int)) → Q (.ref r) H'
def spSearch (WK : List (Option V) → Hp → Prop) (n : Int) (L : Int → List Int) (f : Addr) (F : NF) (body : Expr) (ws : List (Option V)) : Sp := fun vs H Q _ => vs = [.int 0, .ref f] ∧ H f = some (LamO f F body) ∧ H F.c = some (CodeO F.c F.qual) ∧ WK ws H ∧
  ∀ d kvs ps H', Same H H' → H d = none → H' d = some (.dK kvs) → kvs.map (·.1) = ps.map Sum.inl → Gd n L ps ps.length → Q (.ref d) H'
section
variable {P : Program} {w : World} {K : PySem.W.Frag} {mg : Str → Option Value} {base : Heap}
theorem ok_search (T : Top K mg) {WK : List (Option V) → Hp → Prop} {n : Int} {L : Int → List Int} {f : Addr} {F : NF} {body : Expr} {fr : List Str} (HL : LOk P w K mg base CX0 1 f F body ["node"] fr (spL WK n L)) (mono : ∀ ws H H', Same H H' → WK ws H → WK ws H')
    (n0 : 0 < n) (n1 : n ≤ 120) (Ln : ∀ p, 0 ≤ p → p < n → (L p).length ≤ 12 ∧ ∀ t ∈ L p, 0 ≤ t ∧ t < n) : FnC P w K mg base CX0 2 T.f_search T.d_search ["start", "leads"] F.cl fr (spSearch WK n L f F body) := by
  refine fnc_of T.D_search.F sc_search fun cdv A outer s H vs ws Q E hr C0 h => ?_
  obtain ⟨rfl, hf, hc, hw, q⟩ := h
  refine ⟨_, (pss_cons (ps_set (i := 2) sc_search.nd rfl (.inl rfl) (pe_disp (pps_cons (pv 0) pe_non pps_nil) rfl rfl (by simp) (by decide)))
    (pss_cons (ps_set (i := 3) sc_search.nd rfl (.inl rfl) (pe_lst (pa_cons (pv 0) pa_nil)))
    (pss_cons (ps_set (i := 4) sc_search.nd rfl (.inl rfl) pe_int)
    (pss_cons (ps_while PassesOwn.never (pt_cmpR op_lt (pv 4) (pe_callB call_len_seq rfl T.b_len bt_len (pa_cons (pv 3) pa_nil)) (nomark _))
      (pss_cons (ps_set (i := 5) sc_search.nd rfl (.inl rfl) (pe_ix ix_list (pv 3) (pv 4) (fun _ _ => rfl)))
      (pss_cons (ps_aug (i := 4) sc_search.nd rfl (.inl rfl) pe_int ip_add)
      (pss_one (ps_for PassesOwn.never rfl (pi_enum rfl T.b_enumerate (pa_cons (pe_held (i := 1) HL C0 rfl (hr.mono (by omega)) (Nat.le_refl _) pass0 rfl (.inl rfl) (pa_cons (pv 5) pa_nil)) pa_nil)) (pg_tup rfl (pgs_cons (pg_name (i := 6) sc_search.nd rfl (.inl rfl)) (pgs_cons (pg_name (i := 7) sc_search.nd rfl (.inl rfl)) pgs_nil)))
        (pss_one (ps_if (pt_cmp (pc_dnotin (hu_of hr) (pv 7) (pv 2)))
          (pss_cons (ps_dput (hu_of hr) (pv 2) (pv 7) (pe_tup (pa_cons (pv 5) (pa_cons (pv 6) pa_nil))) rfl)
          (pss_one (ps_expr (pe_bm PySem.F.plainAttrs_list PySem.F.slot_list_append PySem.F.type_list_append mt_append (pv 3) (pa_cons (pv 7) pa_nil)))))
          pss_nil)))))))
    (pss_one (ps_ret (pv 2))))))), ?_⟩
  -- steps
  refine fun d hd => ⟨.int 0, rfl, upd_same, [(.inl 0, .non)], rfl, (by show 1 ≤ 15; decide), ?_⟩
  have sd : Same H (upd (upd H d (.dK [])) d (.dK (mergeK [] [(.inl 0, .non)]))) := fun b u e => by
    rw [upd_ne (ne_of_none e hd), upd_ne (ne_of_none e hd)]
    exact e
  have ed : (upd (upd H d (.dK [])) d (.dK (mergeK [] [(.inl 0, .non)]))) d = some (.dK [(.inl 0, .non)]) := by
    rw [upd_same]
    rfl
  revert sd ed
  generalize (upd (upd H d (.dK [])) d (.dK (mergeK [] [(.inl 0, .non)]))) = H1
  intro sd ed
  -- found, at
  refine ⟨.int 0, rfl, (by show 1 ≤ sizeLine; decide), fun o ho => ?_⟩
  have so : Same H1 (upd H1 o (.lst [.int 0])) := same_upd ho
  have Ho : H o = none := by
    cases e : H o with
    | none => rfl
    | some u =>
      rw [sd o u e] at ho
      cases ho
  have ndo : d ≠ o := ne_of_none ed ho
  -- the while
  refine while_by (fun σ H' => ∃ (at' : Nat) (ps : List Int) (kvs : List (Key × V)) (y5 y6 y7 : Option V), σ = [some (.int 0), some (.ref f), some (.ref d), some (.ref o), some (.int (at' : Int)), y5, y6, y7] ∧ Same H H' ∧ H' d = some (.dK kvs) ∧ H' o = some (.lst (ps.map V.int)) ∧ kvs.map (·.1) = ps.map Sum.inl ∧ Gd n L ps at')
    (fun σ _ => atOf n σ) ⟨0, [0], [(.inl 0, .non)], none, none, none, rfl, sd.trans so, so _ _ ed, upd_same, rfl, ⟨by simp, fun k m => by rw [List.mem_singleton.mp m]; omega, by simp, fun j hj => by omega, fun k m => by rw [List.mem_singleton.mp m]; exact .zero, by simp⟩⟩ (fun σ H2 p => ?_) (fun σ H2 Q1 Q2 hm hq => ?_)
  · obtain ⟨at', ps, kvs, y5, y6, y7, rfl, s2, ed2, eo2, ek, g⟩ := p
    have hlen : (ps.map V.int).length = ps.length := List.length_map _
    refine ⟨.int at', rfl, .ref o, rfl, o, _, rfl, .inl (SqL.of eo2), at', _, rfl, rfl, _, rfl, ite2 (fun c => ?_) (fun c => ?_)⟩
    · have hat : at' < ps.length := by
        have := of_decide_eq_true c
        rw [hlen] at this
        omega
      have gp : ps[at']? = some ps[at'] := List.getElem?_eq_getElem hat
      obtain ⟨pl, hpl⟩ : ∃ pl, pl = ps[at'] := ⟨_, rfl⟩
      rw [← hpl] at gp
      have mp : pl ∈ ps := List.mem_of_getElem? gp
      have bp := g.bd pl mp
      -- place, at
      refine ⟨.ref o, rfl, .int at', rfl, o, _, at', .int pl, rfl, rfl, SqL.of eo2, atI_nat (j := at') (by rw [List.getElem?_map, gp]; rfl), ?_⟩
      refine ⟨.int at', rfl, at', 1, rfl, rfl, ?_⟩
      -- leads(place)
      refine ⟨rfl, s2 _ _ hf, .int pl, rfl, s2 _ _ hf, s2 _ _ hc, pl, rfl, bp, mono ws H H2 s2 hw, fun r H3 s3 nr er => ⟨r, _, rfl, SqL.of er, ?_⟩⟩
      obtain ⟨Ll, Lb⟩ := Ln pl bp.1 bp.2
      have edr : d ≠ r := ne_of_none ed2 nr
      have eor : o ≠ r := ne_of_none eo2 nr
      refine ⟨fun i m σ H' => ∃ (ps' : List Int) (kvs' : List (Key × V)) (y6 y7 : Option V), i + m = (L pl).length ∧ σ = [some (.int 0), some (.ref f), some (.ref d), some (.ref o), some (.int ((at' : Int) + 1)), some (.int pl), y6, y7] ∧ Same H H' ∧ H' r = some (.lst ((L pl).map V.int)) ∧ H' d = some (.dK kvs') ∧ H' o = some (.lst (ps'.map V.int)) ∧
        kvs'.map (·.1) = ps'.map Sum.inl ∧ Gd n L ps' at' ∧ ps'[at']? = some pl ∧ ∀ u ∈ (L pl).take i, u ∈ ps',
        ⟨(L pl).length, ps, kvs, y6, y7, by omega, rfl, s2.trans s3, er, s3 _ _ ed2, s3 _ _ eo2, ek, g, gp, fun u m => by simp at m⟩, fun i m σ H' hW => ?_⟩
      obtain ⟨ps', kvs', z6, z7, em, rfl, s4, er4, ed4, eo4, ek4, g4, gp4, ft⟩ := hW
      have hS : SqL K H' r ((L pl).map V.int) := SqL.of er4
      by_cases hi : i < (L pl).length
      · obtain ⟨tg, htg⟩ : ∃ tg, (L pl)[i]? = some tg := ⟨_, List.getElem?_eq_getElem hi⟩
        have mtg : tg ∈ L pl := List.mem_of_getElem? htg
        have gx : ((L pl).map V.int)[i]? = some (.int tg) := by
          rw [List.getElem?_map, htg]
          rfl
        refine .inr ⟨⟨_, _, hS, gx⟩, fun σ' H5 => ∃ (ps' : List Int) (kvs' : List (Key × V)) (y6 y7 : Option V), σ' = [some (.int 0), some (.ref f), some (.ref d), some (.ref o), some (.int ((at' : Int) + 1)), some (.int pl), y6, y7] ∧ Same H H5 ∧ H5 r = some (.lst ((L pl).map V.int)) ∧ H5 d = some (.dK kvs') ∧ H5 o = some (.lst (ps'.map V.int)) ∧
          kvs'.map (·.1) = ps'.map Sum.inl ∧ Gd n L ps' at' ∧ ps'[at']? = some pl ∧ ∀ u ∈ (L pl).take (i + 1), u ∈ ps', fun σ' H5 hN => ?_, fun x H5 hy => ?_⟩
        · obtain ⟨a1, a2, a3, a4, e, rest⟩ := hN
          exact ⟨m - 1, by omega, a1, a2, a3, a4, by omega, e, rest⟩
        · obtain ⟨Tt, x1, rfl, nT, rfl, f1⟩ := hy
          have ex1 : x1 = .int tg := Option.some.inj ((f1 _ hS).symm.trans gx)
          subst ex1
          have sT := same_upd (o := .tup [.int (i : Nat), .int tg]) nT
          have ed5 := sT _ _ ed4
          have eo5 := sT _ _ eo4
          refine ⟨Tt, [.int (i : Nat), .int tg], rfl, SqT.of upd_same, rfl, .int (i : Nat), [.int tg], rfl, .int tg, [], rfl, rfl, ?_⟩
          refine ⟨.int tg, rfl, .ref d, rfl, d, _, rfl, DGet.k (k := Sum.inl tg) ed5, _, rfl, ite2 (fun c1 => ?_) (fun c1 => ?_)⟩
          · have nk : valV kvs' (Sum.inl tg) = none := by
              cases e : valV kvs' (Sum.inl tg) with
              | none => rfl
              | some v =>
                rw [e] at c1
                cases c1
            have nt : tg ∉ ps' := fun m' => by
              rw [valV_none, ek4] at nk
              exact nk (inl_mem.mpr m')
            have lp : ps'.length ≤ 120 := by
              have := nodup_len n.toNat ps' g4.nd fun k m' => by
                have := g4.bd k m'
                omega
              omega
            have lk : kvs'.length = ps'.length := by
              have := congrArg List.length ek4
              rw [List.length_map, List.length_map] at this
              exact this
            refine ⟨.int pl, rfl, .int (i : Nat), rfl, (by show 2 ≤ sizeLine; decide), fun u hu => ?_⟩
            have sU := same_upd (o := .tup [.int pl, .int (i : Nat)]) hu
            have ed6 := sU _ _ ed5
            refine ⟨.ref d, rfl, .int tg, rfl, d, _, rfl, DPut.k (k := Sum.inl tg) ed6 (small1000 (by omega)), ?_⟩
            rw [putK_new _ nk]
            have eo6 := sU _ _ eo5
            have er6 := sU _ _ (sT _ _ er4)
            refine ⟨.ref o, rfl, .inl ⟨rfl, _, .inl (.inl (by rw [upd_ne ndo.symm]; exact eo6))⟩, .int tg, rfl, o, _, _, rfl, rfl, (by rw [upd_ne ndo.symm]; exact eo6), small1000 (by rw [List.length_map]; omega), ?_⟩
            have s7 : Same H (upd (upd (upd (upd H' Tt (.tup [.int (i : Nat), .int tg])) u (.tup [.int pl, .int (i : Nat)])) d (.dK (kvs' ++ [(Sum.inl tg, .ref u)]))) o (.lst (ps'.map V.int ++ [.int tg]))) :=
              Same.at_new (Same.at_new (s4.trans (sT.trans sU)) hd) Ho
            refine ⟨ps' ++ [tg], kvs' ++ [(Sum.inl tg, .ref u)], _, _, rfl, s7, ?_, ?_, ?_, ?_, g4.add nt (Lb tg mtg) (.step (g4.rc pl (List.mem_of_getElem? gp4)) mtg), ?_, fun v mv => ?_⟩
            · rw [upd_ne eor.symm, upd_ne edr.symm]
              exact er6
            · rw [upd_ne ndo, upd_same]
            · rw [upd_same, List.map_append]
              rfl
            · rw [List.map_append, List.map_append, ek4]
              rfl
            · rw [List.getElem?_append_left (List.getElem?_eq_some_iff.mp gp4).1]
              exact gp4
            · rw [List.take_add_one, htg] at mv
              rcases List.mem_append.mp mv with mv | mv
              · exact List.mem_append_left _ (ft v mv)
              · have : v = tg := by simpa using mv
                rw [this]
                simp
          · have mt : tg ∈ ps' := by
              cases e : valV kvs' (Sum.inl tg) with
              | none =>
                rw [e] at c1
                exact absurd rfl c1
              | some v =>
                by_cases q1 : (Sum.inl tg : Key) ∈ kvs'.map (·.1)
                · rw [ek4] at q1
                  exact inl_mem.mp q1
                · rw [valV_none.mpr q1] at e
                  cases e
            refine ⟨ps', kvs', _, _, rfl, s4.trans sT, sT _ _ er4, ed5, eo5, ek4, g4, gp4, fun v mv => ?_⟩
            rw [List.take_add_one, htg] at mv
            rcases List.mem_append.mp mv with mv | mv
            · exact ft v mv
            · have : v = tg := by simpa using mv
              rw [this]
              exact mt
      · refine .inl ⟨⟨_, hS, by rw [List.length_map]; omega⟩, ?_⟩
        have fa : ∀ u ∈ L pl, u ∈ ps' := fun u mu => ft u (by rw [List.take_of_length_le (by omega)]; exact mu)
        refine ⟨⟨at' + 1, ps', kvs', _, _, _, rfl, s4, ed4, eo4, ek4, g4.next gp4 fa⟩, ?_⟩
        show (n - ((at' : Int) + 1)).toNat < (n - (at' : Int)).toNat
        have h1 := nodup_len n.toNat ps g.nd fun k m' => by
          have := g.bd k m'
          omega
        omega
    · have e : at' = ps.length := by
        have h1 : ¬ (at' : Int) < ((ps.map V.int).length : Nat) := fun z => c (decide_eq_true z)
        rw [hlen] at h1
        have := g.le
        omega
      subst e
      exact ⟨.ref d, rfl, q d kvs ps H2 s2 hd ed2 ek g⟩
  · obtain ⟨a1, e1, a2, e2, a3, a4, e3, e4, i1, i2, e5, e6, k, e7, qq⟩ := hq
    exact ⟨a1, e1, a2, e2, a3, a4, e3, e4, i1, i2, e5, e6, k, e7, hm _ _ qq⟩
end
end K09

set_option Elab.async false
set_option linter.all false
set_option maxRecDepth 100000
set_option maxHeartbeats 1000000
namespace K09
open PySem PySem.Spec PyProof.Rows L2 LamX NdefX Clo
abbrev Net := List (List (Int × Int))
def leadsOf (net : Net) (p : Int) : List Int := (net.getD p.toNat []).map (·.2)
structure NetOk (net : Net) : Prop where
  n0 : 0 < net.length
  n1 : net.length ≤ 120
  m0 : ∀ ms ∈ net, 1 ≤ ms.length ∧ ms.length ≤ 12
  tg : ∀ ms ∈ net, ∀ m ∈ ms, 0 ≤ m.2 ∧ m.2 < (net.length : Int)
def MvT (H : Hp) (y : V) (m : Int × Int) : Prop := ∃ d, y = .ref d ∧ H d = some (.tup [.int m.1, .int m.2])
def Each {α β : Type} (R : α → β → Prop) (xs : List α) (ys : List β) : Prop := xs.length = ys.length ∧ ∀ (i : Nat) (x : α) (y : β), xs[i]? = some x → ys[i]? = some y → R x y
def NdC (C : List V → HO) (H : Hp) (x : V) (ms : List (Int × Int)) : Prop := ∃ b ys, x = .ref b ∧ H b = some (C ys) ∧ Each (MvT H) ys ms
def WbC (C : List V → HO) (H : Hp) (v : V) (net : Net) : Prop := ∃ a xs, v = .ref a ∧ H a = some (C xs) ∧ Each (NdC C H) xs net
/-- lists and tuples stay -/
def Stay (H H' : Hp) : Prop := (∀ a xs, H a = some (.tup xs) → H' a = some (.tup xs)) ∧ ∀ a xs, H a = some (.lst xs) → H' a = some (.lst xs)
theorem Stay.of {H H' : Hp} (s : Same H H') : Stay H H' := ⟨fun a xs e => s a _ e, fun a xs e => s a _ e⟩
theorem Stay.ext {H H' : Hp} (s : ExtN H H') : Stay H H' := ⟨fun a xs e => s a _ e (fun _ z => nomatch z), fun a xs e => s a _ e (fun _ z => nomatch z)⟩
theorem MvT.stay {H H' : Hp} (s : Stay H H') {y : V} {m : Int × Int} (h : MvT H y m) : MvT H' y m := by
  obtain ⟨d, e, f⟩ := h
  exact ⟨d, e, s.1 _ _ f⟩
theorem Each.imp {α β : Type} {R R' : α → β → Prop} {xs : List α} {ys : List β} (h : Each R xs ys) (f : ∀ x y, R x y → R' x y) : Each R' xs ys := ⟨h.1, fun i x y e1 e2 => f x y (h.2 i x y e1 e2)⟩
theorem net_at {net : Net} {p : Int} (h0 : 0 ≤ p) (h1 : p < (net.length : Int)) : ∃ ms, net[p.toNat]? = some ms ∧ net.getD p.toNat [] = ms ∧ ms ∈ net := by
  have h : p.toNat < net.length := by omega
  exact ⟨net[p.toNat], List.getElem?_eq_getElem h, by rw [List.getD_eq_getElem?_getD, List.getElem?_eq_getElem h]; rfl, List.getElem_mem h⟩
theorem NetOk.leads {net : Net} (o : NetOk net) : ∀ p, 0 ≤ p → p < (net.length : Int) → (leadsOf net p).length ≤ 12 ∧ ∀ t ∈ leadsOf net p, 0 ≤ t ∧ t < (net.length : Int) := fun p h0 h1 => by
  obtain ⟨ms, _, e, m⟩ := net_at h0 h1
  unfold leadsOf
  rw [e]
  refine ⟨by rw [List.length_map]; exact (o.m0 ms m).2, fun t ht => ?_⟩
  obtain ⟨mv, hm, rfl⟩ := List.mem_map.mp ht
  exact o.tg ms m mv hm
theorem take_map_succ {α β : Type} {f : α → β} {xs : List α} {i : Nat} {x : α} (h : xs[i]? = some x) : (xs.take (i + 1)).map f = (xs.take i).map f ++ [f x] := by
  rw [List.take_add_one, h, List.map_append]
  rfl
/-! the lambda's parts -/
def lamParts : List Stmt → Arguments × Expr × Scope
  | [.Return (some (.Call _ [_, .Lambda p b s _] _ _)) _] => (p, b, s)
  | _ => (defArgs s_walk_steps, .Constant .none 0 ⟨0, 0, 0, 0⟩, defScope s_walk_steps)
abbrev lamP : Arguments := (lamParts (defBody s_walk_steps)).1
abbrev lamB : Expr := (lamParts (defBody s_walk_steps)).2.1
abbrev lamS : Scope := (lamParts (defBody s_walk_steps)).2.2
theorem sc_lam : NScope ["node", "web", "_", "target"] ["node"] ["web"] lamS := nscope_by (by decide +kernel)
abbrev lamF (q : Str) (cl : List (Str × Addr)) (c' : Addr) : NF := ⟨"<lambda>", q, lamP, [], lamS, cl, c'⟩
def WK (C : List V → HO) (net : Net) (ws : List (Option V)) (H : Hp) : Prop := ∃ v, ws = [some v] ∧ WbC C H v net
theorem NdC.stayL {H H' : Hp} (s : Stay H H') {x : V} {ms : List (Int × Int)} (h : NdC HO.lst H x ms) : NdC HO.lst H' x ms := by
  obtain ⟨b, ys, e, f, g⟩ := h
  exact ⟨b, ys, e, s.2 _ _ f, g.imp fun _ _ => MvT.stay s⟩
theorem WbC.stayL {H H' : Hp} (s : Stay H H') {v : V} {net : Net} (h : WbC HO.lst H v net) : WbC HO.lst H' v net := by
  obtain ⟨b, ys, e, f, g⟩ := h
  exact ⟨b, ys, e, s.2 _ _ f, g.imp fun _ _ => NdC.stayL s⟩
section
variable {P : Program} {w : World} {K : PySem.W.Frag} {mg : Str → Option Value} {base : Heap}
theorem lokL {net : Net} (o : NetOk net) (f : Addr) (q : Str) (cl : List (Str × Addr)) (c' : Addr) : LOk P w K mg base CX0 1 f (lamF q cl c') lamB ["node"] ["web"] (spL (WK HO.lst net) net.length (leadsOf net)) := by
  refine lok_of (N := ["node", "web", "_", "target"]) sc_lam (fun pm ctv us hl => match us, hl with | [_], _ => rfl) (fun ws vs H Q E h => ?_) (fun A outer s H vs ws Q E hr _ h => ?_)
  · obtain ⟨p, rfl, _⟩ := h
    rfl
  obtain ⟨p, rfl, hp, ⟨v, rfl, a, xs, rfl, ea, hx⟩, q⟩ := h
  refine ⟨_, pe_lc (own := [("_", 2), ("target", 3)]) (g := gTup K 2 (gCons (gName 2) (gCons (gName 3) gNil))) (tt := tYes) rfl sc_lam.nd (pi_list (pe_ix ix_list (pe_var (i := 1) rfl (Or.inr (Or.inr rfl))) (pe_var (i := 0) rfl (Or.inl rfl)) (fun _ _ => rfl))) (blkOk_by (N := ["node", "web", "_", "target"]) (sc := lamS) (by decide +kernel))
    (fun _ _ _ _ _ => pg_tup rfl (pgs_cons (pg_name (i := 2) sc_lam.nd rfl (Or.inl rfl) (Or.inr rfl)) (pgs_cons (pg_name (i := 3) sc_lam.nd rfl (Or.inl rfl) (Or.inr rfl)) pgs_nil))) (fun _ _ _ _ _ => pts_nil) (fun _ _ _ _ _ => pe_var (i := 3) rfl (Or.inl rfl)), ?_⟩
  obtain ⟨ms, em, eg, mm⟩ := net_at hp.1 hp.2
  have hlt : p.toNat < xs.length := by
    rw [hx.1]
    omega
  obtain ⟨x, ex⟩ : ∃ x, xs[p.toNat]? = some x := ⟨_, List.getElem?_eq_getElem hlt⟩
  obtain ⟨b, ys, rfl, eb, hy⟩ := hx.2 _ _ _ ex em
  have lm := o.m0 ms mm
  have ip : atI xs p = some (.ref b) := by
    have := atI_nat (xs := xs) (j := p.toNat) ex
    rw [Int.toNat_of_nonneg hp.1] at this
    exact this
  refine ⟨.ref a, rfl, .int p, rfl, a, xs, p, .ref b, rfl, rfl, SqL.of ea, ip, b, rfl, ⟨ys, SqL.of eb⟩, fun D hD => lc_list (xs := ys) (fun i H' => Same H H' ∧ H' D = some (.lst ((ms.take i).map fun m => V.int m.2))) ⟨fun u z e => by rw [upd_ne (ne_of_none e hD)]; exact e, upd_same⟩ (fun i H' _ p => SqL.of (p.1 _ _ eb)) (fun i y H' hyi p => ?_) (fun H' p => ?_)⟩
  · obtain ⟨s1, eD⟩ := p
    have hi : i < ms.length := by
      rw [← hy.1]
      exact (List.getElem?_eq_some_iff.mp hyi).1
    obtain ⟨m, hm⟩ : ∃ m, ms[i]? = some m := ⟨_, List.getElem?_eq_getElem hi⟩
    obtain ⟨d, rfl, ed⟩ := hy.2 _ _ _ hyi hm
    refine ⟨d, [.int m.1, .int m.2], rfl, SqT.of (s1 _ _ ed), rfl, .int m.1, [.int m.2], rfl, .int m.2, [], rfl, rfl, ?_⟩
    refine ⟨rfl, .int m.2, rfl, _, eD, small1000 (by rw [List.length_map, List.length_take]; omega), ?_, ?_⟩
    · intro u z e
      rw [upd_ne (ne_of_none e hD)]
      exact s1 _ _ e
    · rw [upd_same, take_map_succ hm]
  · obtain ⟨s1, eD⟩ := p
    refine q D H' s1 hD ?_
    rw [eD]
    unfold leadsOf
    rw [eg, List.map_map, List.take_of_length_le (by rw [hy.1]; exact Nat.le_refl _)]
    rfl
end
theorem NdC.stayT {H H' : Hp} (s : Stay H H') {x : V} {ms : List (Int × Int)} (h : NdC HO.tup H x ms) : NdC HO.tup H' x ms := by
  obtain ⟨b, ys, e, f, g⟩ := h
  exact ⟨b, ys, e, s.1 _ _ f, g.imp fun _ _ => MvT.stay s⟩
theorem WbC.stayT {H H' : Hp} (s : Stay H H') {v : V} {net : Net} (h : WbC HO.tup H v net) : WbC HO.tup H' v net := by
  obtain ⟨b, ys, e, f, g⟩ := h
  exact ⟨b, ys, e, s.1 _ _ f, g.imp fun _ _ => NdC.stayT s⟩
section
variable {P : Program} {w : World} {K : PySem.W.Frag} {mg : Str → Option Value} {base : Heap}
theorem lokT {net : Net} (o : NetOk net) (f : Addr) (q : Str) (cl : List (Str × Addr)) (c' : Addr) : LOk P w K mg base CX0 1 f (lamF q cl c') lamB ["node"] ["web"] (spL (WK HO.tup net) net.length (leadsOf net)) := by
  refine lok_of (N := ["node", "web", "_", "target"]) sc_lam (fun pm ctv us hl => match us, hl with | [_], _ => rfl) (fun ws vs H Q E h => ?_) (fun A outer s H vs ws Q E hr _ h => ?_)
  · obtain ⟨p, rfl, _⟩ := h
    rfl
  obtain ⟨p, rfl, hp, ⟨v, rfl, a, xs, rfl, ea, hx⟩, q⟩ := h
  refine ⟨_, pe_lc (own := [("_", 2), ("target", 3)]) (g := gTup K 2 (gCons (gName 2) (gCons (gName 3) gNil))) (tt := tYes) rfl sc_lam.nd (pi_tup (pe_ix ix_tup (pe_var (i := 1) rfl (Or.inr (Or.inr rfl))) (pe_var (i := 0) rfl (Or.inl rfl)) (fun _ _ => rfl))) (blkOk_by (N := ["node", "web", "_", "target"]) (sc := lamS) (by decide +kernel))
    (fun _ _ _ _ _ => pg_tup rfl (pgs_cons (pg_name (i := 2) sc_lam.nd rfl (Or.inl rfl) (Or.inr rfl)) (pgs_cons (pg_name (i := 3) sc_lam.nd rfl (Or.inl rfl) (Or.inr rfl)) pgs_nil))) (fun _ _ _ _ _ => pts_nil) (fun _ _ _ _ _ => pe_var (i := 3) rfl (Or.inl rfl)), ?_⟩
  obtain ⟨ms, em, eg, mm⟩ := net_at hp.1 hp.2
  have hlt : p.toNat < xs.length := by
    rw [hx.1]
    omega
  obtain ⟨x, ex⟩ : ∃ x, xs[p.toNat]? = some x := ⟨_, List.getElem?_eq_getElem hlt⟩
  obtain ⟨b, ys, rfl, eb, hy⟩ := hx.2 _ _ _ ex em
  have lm := o.m0 ms mm
  have ip : atI xs p = some (.ref b) := by
    have := atI_nat (xs := xs) (j := p.toNat) ex
    rw [Int.toNat_of_nonneg hp.1] at this
    exact this
  refine ⟨.ref a, rfl, .int p, rfl, a, xs, p, .ref b, rfl, rfl, SqT.of ea, ip, b, rfl, ⟨ys, SqT.of eb⟩, fun D hD => lc_tup (xs := ys) (fun i H' => Same H H' ∧ H' D = some (.lst ((ms.take i).map fun m => V.int m.2))) ⟨fun u z e => by rw [upd_ne (ne_of_none e hD)]; exact e, upd_same⟩ (fun i H' _ p => SqT.of (p.1 _ _ eb)) (fun i y H' hyi p => ?_) (fun H' p => ?_)⟩
  · obtain ⟨s1, eD⟩ := p
    have hi : i < ms.length := by
      rw [← hy.1]
      exact (List.getElem?_eq_some_iff.mp hyi).1
    obtain ⟨m, hm⟩ : ∃ m, ms[i]? = some m := ⟨_, List.getElem?_eq_getElem hi⟩
    obtain ⟨d, rfl, ed⟩ := hy.2 _ _ _ hyi hm
    refine ⟨d, [.int m.1, .int m.2], rfl, SqT.of (s1 _ _ ed), rfl, .int m.1, [.int m.2], rfl, .int m.2, [], rfl, rfl, ?_⟩
    refine ⟨rfl, .int m.2, rfl, _, eD, small1000 (by rw [List.length_map, List.length_take]; omega), ?_, ?_⟩
    · intro u z e
      rw [upd_ne (ne_of_none e hD)]
      exact s1 _ _ e
    · rw [upd_same, take_map_succ hm]
  · obtain ⟨s1, eD⟩ := p
    refine q D H' s1 hD ?_
    rw [eD]
    unfold leadsOf
    rw [eg, List.map_map, List.take_of_length_le (by rw [hy.1]; exact Nat.le_refl _)]
    rfl
end
end K09

set_option Elab.async false
set_option linter.all false
set_option maxRecDepth 100000
set_option maxHeartbeats 1000000
namespace K09
open PySem PySem.Spec PyProof.Rows L2 LamX NdefX Clo
abbrev wEnv (L f : Addr) (cw : Addr) : Env := envOfC "walk_steps" (defScope s_walk_steps) L f (.ref cw)
abbrev lamQ : Str := (wEnv 0 0 0).qual ++ "<lambda>"
def WalkAt (K : PySem.W.Frag) (f : Addr) (d : FuncData) (cw : Addr) : Prop := ∃ (oc : Value) (od : Option Addr) (kV doc pm : Value) (an : Option Addr) (ct : Value) (osl : Array (Option Value)),
  d = PySem.W.fnOf "walk_steps" "walk_steps" (defArgs s_walk_steps) (defBody s_walk_steps) (defScope s_walk_steps) .none kV doc pm an (.ref cw) ct ∧ K.lookup f = some ⟨oc, od, .func d, osl⟩ ∧ PySem.W.codeIn K (.ref cw) "walk_steps" = true
def spWalk (C : List V → HO) (Pw : Addr) (net : Net) : Sp := fun vs H Q _ => ∃ v, vs = [v] ∧ WbC C H v net ∧ Tabs [(Pw, lamQ)] H ∧ ∀ d kvs ps H', ExtN H H' → Tabs [(Pw, lamQ)] H' → H' d = some (.dK kvs) → kvs.map (·.1) = ps.map Sum.inl → Gd net.length (leadsOf net) ps ps.length → Q (.ref d) H'
def spMet (C : List V → HO) (Pw : Addr) (net : Net) : Sp := fun vs H Q _ => ∃ v, vs = [v] ∧ WbC C H v net ∧ Tabs [(Pw, lamQ)] H ∧ ∀ r ps H', ExtN H H' → Tabs [(Pw, lamQ)] H' → H' r = some (.lst (ps.map V.int)) → Gd net.length (leadsOf net) ps ps.length → Q (.ref r) H'
def Fine (net : Net) (nums : List Int) (k : Int) : Prop := ∀ m ∈ net.getD k.toNat [], m.1 + nums.getD m.2.toNat 0 ≤ nums.getD k.toNat 0
def Holds (net : Net) (nums : List Int) : Prop := ∀ k, Reach (leadsOf net) k → Fine net nums k
def spHolds (C : List V → HO) (Pw : Addr) (net : Net) : Sp := fun vs H Q _ => ∃ v m nums, vs = [v, .ref m] ∧ WbC C H v net ∧ H m = some (.tup (nums.map V.int)) ∧ nums.length = net.length ∧ Tabs [(Pw, lamQ)] H ∧ ∀ (b : Bool) H', ExtN H H' → Tabs [(Pw, lamQ)] H' → (b = true ↔ Holds net nums) → Q (.bl b) H'
theorem ints_at {nums : List Int} {k : Int} (h0 : 0 ≤ k) (h1 : k < (nums.length : Int)) : atI (nums.map V.int) k = some (.int (nums.getD k.toNat 0)) := by
  have h : k.toNat < nums.length := by omega
  have := atI_nat (xs := nums.map V.int) (j := k.toNat) (v := .int (nums.getD k.toNat 0)) (by rw [List.getElem?_map, List.getD_eq_getElem?_getD, List.getElem?_eq_getElem h]; rfl)
  rw [Int.toNat_of_nonneg h0] at this
  exact this
section
variable {P : Program} {w : World} {K : PySem.W.Frag} {mg : Str → Option Value} {base : Heap}
theorem ok_walkL (T : Top K mg) {cw Pw : Addr} (W : WalkAt K T.f_walk_steps T.d_walk_steps cw) (TB : TabB base mg cw Pw) {net : Net} (o : NetOk net) : FnOk P w K mg base CX0 3 T.f_walk_steps T.d_walk_steps ["web"] (spWalk HO.lst Pw net) := by
  obtain ⟨oc, od, kV, doc, pm, an, ct, osl, e, lk, hcd⟩ := W
  rw [e] at lk ⊢
  have S := sc_walk_steps
  refine fn_of lk hcd S (fun vs H Q E h => ?_) (fun A outer s H vs Q E hr h => ?_)
  · obtain ⟨v, rfl, _⟩ := h
    rfl
  obtain ⟨v, rfl, wb, hT, q⟩ := h
  have fr1 : ∀ y ∈ lamS.names, y.2 = .free → (defScope s_walk_steps).names.lookup y.1 = some .cell ∨ (defScope s_walk_steps).names.lookup y.1 = some .free := ndef_free (fr := ["web"]) (by decide +kernel)
  have fr2 : ∀ y ∈ (["web"] : List Str), (y, NameKind.free) ∈ lamS.names := ndef_fr (sc := defScope s_walk_steps) (by decide +kernel)
  refine ⟨_, pss_one (ps_ret (pe_callC (k := 2) (j := 2) (cl := cloFrom (wEnv s.heap.objs.size T.f_walk_steps cw).cells lamS.names []) (fr := ["web"]) (js := [0])
    (fun f c' => ok_search T (lokL o f lamQ (cloFrom (wEnv s.heap.objs.size T.f_walk_steps cw).cells lamS.names []) c') (fun ws H H' s' h => by
      obtain ⟨v, e, h⟩ := h
      exact ⟨v, e, h.stayL (Stay.of s')⟩) (by have := o.n0; omega) (by have := o.n1; omega) o.leads)
    (fun f c' ws vs H Q E h => by rw [h.1]; rfl) (fun ok => Caps.made ok fr1 fr2 rfl) hr (Nat.le_refl _) rfl T.D_search.g T.D_search.F.kp T.D_search.b pass0
    (pa_cons pe_int (pa_cons (pe_lambda TB rfl (List.mem_singleton.mpr rfl) (fun p hp _ => by rw [List.mem_singleton.mp hp]) rfl (fun ok y hy e => (fr1 y hy e).elim (fun z => ok.has _ (.inl z)) fun z => ok.has _ (.inr z))) pa_nil)))), ?_⟩
  refine ⟨hT, fun f c' H1 x1 nn hT1 nf ef ec => ⟨f, c', rfl, ef, ec, ⟨v, rfl, wb.stayL (Stay.ext x1)⟩, fun d kvs ps H2 s2 nd ed ek g => ?_⟩⟩
  exact q d kvs ps H2 (x1.trans (ExtN.of s2)) (hT1.ext s2) ed ek g
theorem ok_metL (T : Top K mg) {cw Pw : Addr} (W : WalkAt K T.f_walk_steps T.d_walk_steps cw) (TB : TabB base mg cw Pw) {net : Net} (o : NetOk net) : FnOk P w K mg base CX0 4 T.f_met_nodes T.d_met_nodes ["web"] (spMet HO.lst Pw net) := by
  have G_walk_steps : FnOk P w K mg base CX0 3 T.f_walk_steps T.d_walk_steps ["web"] (spWalk HO.lst Pw net) := ok_walkL T W TB o
  refine T.D_met_nodes.F.ok sc_met_nodes (fun vs H Q E h => ?_) (fun cdv A outer s H vs Q E hr h => ?_)
  · obtain ⟨v, rfl, _⟩ := h
    rfl
  obtain ⟨v, rfl, wb, hT, q⟩ := h
  refine ⟨_, (pss_one (ps_ret (pe_callTy (call_list_dK rfl) rfl T.b_list bt_list (pa_cons (pe_call G_walk_steps (hr.mono (by omega)) rfl T.D_walk_steps.g T.D_walk_steps.F.kp T.D_walk_steps.b .nil pass0 (pa_cons (pv 0) pa_nil)) pa_nil)))), ?_⟩
  refine ⟨v, rfl, v, rfl, wb, hT, fun d kvs ps H1 x1 hT1 ed ek g => ⟨d, kvs, rfl, ed, fun r hr' => ?_⟩⟩
  have s2 : Same H1 (upd H1 r (.lst (kvs.map fun kv => kV kv.1))) := same_upd hr'
  refine q r ps _ (x1.trans (ExtN.of s2)) (hT1.ext s2) ?_ g
  rw [upd_same]
  have : kvs.map (fun kv => kV kv.1) = ps.map V.int := by
    have h1 := congrArg (List.map kV) ek
    rw [List.map_map, List.map_map] at h1
    exact h1
  rw [this]
theorem ok_holdsL (T : Top K mg) {cw Pw : Addr} (W : WalkAt K T.f_walk_steps T.d_walk_steps cw) (TB : TabB base mg cw Pw) {net : Net} (o : NetOk net) : FnOk P w K mg base CX0 5 T.f_holds_up T.d_holds_up ["web", "numbers"] (spHolds HO.lst Pw net) := by
  have G_met_nodes : FnOk P w K mg base CX0 4 T.f_met_nodes T.d_met_nodes ["web"] (spMet HO.lst Pw net) := ok_metL T W TB o
  refine T.D_holds_up.F.ok sc_holds_up (fun vs H Q E h => ?_) (fun cdv A outer s H vs Q E hr h => ?_)
  · obtain ⟨v, m, nums, rfl, _⟩ := h
    rfl
  obtain ⟨v, m, nums, rfl, wb, em, ln, hT, q⟩ := h
  refine ⟨_, (pss_cons (ps_for PassesOwn.never rfl (pi_list (pe_call G_met_nodes (hr.mono (by omega)) rfl T.D_met_nodes.g T.D_met_nodes.F.kp T.D_met_nodes.b .nil pass0 (pa_cons (pv 0) pa_nil))) (pg_name (i := 2) sc_holds_up.nd rfl (.inl rfl))
      (pss_one (ps_for PassesOwn.never rfl (pi_list (pe_ix ix_list (pv 0) (pv 2) (fun _ _ => rfl))) (pg_tup rfl (pgs_cons (pg_name (i := 3) sc_holds_up.nd rfl (.inl rfl)) (pgs_cons (pg_name (i := 4) sc_holds_up.nd rfl (.inl rfl)) pgs_nil)))
        (pss_one (ps_if (pt_cmpR op_gt (pe_op op_add (pv 3) (pe_ix ix_tup (pv 1) (pv 4) (fun _ _ => rfl))) (pe_ix ix_tup (pv 1) (pv 2) (fun _ _ => rfl)) (nomark _))
          (pss_one (ps_ret pe_bl))
          pss_nil)))))
    (pss_one (ps_ret pe_bl))), ?_⟩
  refine ⟨v, rfl, v, rfl, wb, hT, fun r ps H1 x1 hT1 er g => ?_⟩
  have wb1 := wb.stayL (Stay.ext x1)
  have em1 : H1 m = some (.tup (nums.map V.int)) := (Stay.ext x1).1 _ _ em
  obtain ⟨a, xs, rfl, ea, hx⟩ := wb1
  refine ⟨r, rfl, ⟨_, SqL.of er⟩, for_list (xs := ps.map V.int) (fun i σ H' => H' = H1 ∧ (∃ y2 y3 y4, σ = [some (.ref a), some (.ref m), y2, y3, y4]) ∧ ∀ k ∈ ps.take i, Fine net nums k) ⟨rfl, ⟨_, _, _, rfl⟩, fun k m => by simp at m⟩ (fun i σ H' _ p => by rw [p.1]; exact SqL.of er) (fun i x σ H' hxi p => ?_) (fun σ H' p => ?_)⟩
  · obtain ⟨rfl, ⟨y2, y3, y4, rfl⟩, f⟩ := p
    have hi : i < ps.length := by
      have := (List.getElem?_eq_some_iff.mp hxi).1
      rw [List.length_map] at this
      exact this
    obtain ⟨k, hk⟩ : ∃ k, ps[i]? = some k := ⟨_, List.getElem?_eq_getElem hi⟩
    have ex : x = .int k := by
      rw [List.getElem?_map, hk] at hxi
      exact (Option.some.inj hxi).symm
    subst ex
    have mk : k ∈ ps := List.mem_of_getElem? hk
    have bk := g.bd k mk
    obtain ⟨ms, ems, eg, mm⟩ := net_at bk.1 bk.2
    have hlt : k.toNat < xs.length := by
      rw [hx.1]
      omega
    obtain ⟨z, ez⟩ : ∃ z, xs[k.toNat]? = some z := ⟨_, List.getElem?_eq_getElem hlt⟩
    obtain ⟨b, ys, rfl, eb, hy⟩ := hx.2 _ _ _ ez ems
    have ip : atI xs k = some (.ref b) := by
      have := atI_nat (xs := xs) (j := k.toNat) ez
      rw [Int.toNat_of_nonneg bk.1] at this
      exact this
    have nk : atI (nums.map V.int) k = some (.int (nums.getD k.toNat 0)) := ints_at bk.1 (by omega)
    refine ⟨.ref a, rfl, .int k, rfl, a, xs, k, .ref b, rfl, rfl, SqL.of ea, ip, b, rfl, ⟨ys, SqL.of eb⟩, for_list (xs := ys) (fun j σ H2 => H2 = H' ∧ (∃ y3 y4, σ = [some (.ref a), some (.ref m), some (.int k), y3, y4]) ∧ ∀ u ∈ ms.take j, u.1 + nums.getD u.2.toNat 0 ≤ nums.getD k.toNat 0) ⟨rfl, ⟨_, _, rfl⟩, fun u m => by simp at m⟩ (fun j σ H2 _ p => by rw [p.1]; exact SqL.of eb) (fun j y σ H2 hyj p => ?_) (fun σ H2 p => ?_)⟩
    · obtain ⟨rfl, ⟨y3, y4, rfl⟩, f2⟩ := p
      have hj : j < ms.length := by
        rw [← hy.1]
        exact (List.getElem?_eq_some_iff.mp hyj).1
      obtain ⟨u, hu⟩ : ∃ u, ms[j]? = some u := ⟨_, List.getElem?_eq_getElem hj⟩
      have mu : u ∈ ms := List.mem_of_getElem? hu
      have bu := o.tg ms mm u mu
      obtain ⟨d, rfl, ed⟩ := hy.2 _ _ _ hyj hu
      have nu : atI (nums.map V.int) u.2 = some (.int (nums.getD u.2.toNat 0)) := ints_at bu.1 (by omega)
      refine ⟨d, [.int u.1, .int u.2], rfl, SqT.of ed, rfl, .int u.1, [.int u.2], rfl, .int u.2, [], rfl, rfl, ?_⟩
      refine ⟨.int u.1, rfl, .ref m, rfl, .int u.2, rfl, m, _, u.2, _, rfl, rfl, SqT.of em1, nu, u.1, _, rfl, rfl, .ref m, rfl, .int k, rfl, m, _, k, _, rfl, rfl, SqT.of em1, nk, _, _, rfl, rfl, _, rfl, ite2 (fun c => ?_) (fun c => ?_)⟩
      · refine q _ _ x1 hT1 ⟨fun d => (nomatch d), fun d => ?_⟩
        have h1 := d k (g.rc k mk) u (by rw [eg]; exact mu)
        have h2 := of_decide_eq_true c
        omega
      · refine ⟨rfl, ⟨_, _, rfl⟩, fun v mv => ?_⟩
        rw [List.take_add_one, hu] at mv
        rcases List.mem_append.mp mv with mv | mv
        · exact f2 v mv
        · have e1 : v = u := by simpa using mv
          rw [e1]
          have h2 : ¬ (u.1 + nums.getD u.2.toNat 0 > nums.getD k.toNat 0) := fun h3 => c (decide_eq_true h3)
          omega
    · obtain ⟨rfl, ⟨y3, y4, rfl⟩, f2⟩ := p
      refine ⟨rfl, ⟨_, _, _, rfl⟩, fun v mv => ?_⟩
      rw [List.take_add_one, hk] at mv
      rcases List.mem_append.mp mv with mv | mv
      · exact f v mv
      · have e1 : v = k := by simpa using mv
        rw [e1]
        intro u mu
        rw [eg] at mu
        exact f2 u (by rw [List.take_of_length_le (by rw [hy.1]; exact Nat.le_refl _)]; exact mu)
  · obtain ⟨rfl, _, f⟩ := p
    rw [List.length_map, List.take_length] at f
    exact q _ _ x1 hT1 ⟨fun _ k hk => f k (g.iff.mpr hk), fun _ => rfl⟩
end
section
variable {P : Program} {w : World} {K : PySem.W.Frag} {mg : Str → Option Value} {base : Heap}
theorem ok_walkT_ (T : Top K mg) {cw Pw : Addr} (W : WalkAt K T.f_walk_steps T.d_walk_steps cw) (TB : TabB base mg cw Pw) {net : Net} (o : NetOk net) : FnOk P w K mg base CX0 3 T.f_walk_steps T.d_walk_steps ["web"] (spWalk HO.tup Pw net) := by
  obtain ⟨oc, od, kV, doc, pm, an, ct, osl, e, lk, hcd⟩ := W
  rw [e] at lk ⊢
  have S := sc_walk_steps
  refine fn_of lk hcd S (fun vs H Q E h => ?_) (fun A outer s H vs Q E hr h => ?_)
  · obtain ⟨v, rfl, _⟩ := h
    rfl
  obtain ⟨v, rfl, wb, hT, q⟩ := h
  have fr1 : ∀ y ∈ lamS.names, y.2 = .free → (defScope s_walk_steps).names.lookup y.1 = some .cell ∨ (defScope s_walk_steps).names.lookup y.1 = some .free := ndef_free (fr := ["web"]) (by decide +kernel)
  have fr2 : ∀ y ∈ (["web"] : List Str), (y, NameKind.free) ∈ lamS.names := ndef_fr (sc := defScope s_walk_steps) (by decide +kernel)
  refine ⟨_, pss_one (ps_ret (pe_callC (k := 2) (j := 2) (cl := cloFrom (wEnv s.heap.objs.size T.f_walk_steps cw).cells lamS.names []) (fr := ["web"]) (js := [0])
    (fun f c' => ok_search T (lokT o f lamQ (cloFrom (wEnv s.heap.objs.size T.f_walk_steps cw).cells lamS.names []) c') (fun ws H H' s' h => by
      obtain ⟨v, e, h⟩ := h
      exact ⟨v, e, h.stayT (Stay.of s')⟩) (by have := o.n0; omega) (by have := o.n1; omega) o.leads)
    (fun f c' ws vs H Q E h => by rw [h.1]; rfl) (fun ok => Caps.made ok fr1 fr2 rfl) hr (Nat.le_refl _) rfl T.D_search.g T.D_search.F.kp T.D_search.b pass0
    (pa_cons pe_int (pa_cons (pe_lambda TB rfl (List.mem_singleton.mpr rfl) (fun p hp _ => by rw [List.mem_singleton.mp hp]) rfl (fun ok y hy e => (fr1 y hy e).elim (fun z => ok.has _ (.inl z)) fun z => ok.has _ (.inr z))) pa_nil)))), ?_⟩
  refine ⟨hT, fun f c' H1 x1 nn hT1 nf ef ec => ⟨f, c', rfl, ef, ec, ⟨v, rfl, wb.stayT (Stay.ext x1)⟩, fun d kvs ps H2 s2 nd ed ek g => ?_⟩⟩
  exact q d kvs ps H2 (x1.trans (ExtN.of s2)) (hT1.ext s2) ed ek g
theorem ok_metT_ (T : Top K mg) {cw Pw : Addr} (W : WalkAt K T.f_walk_steps T.d_walk_steps cw) (TB : TabB base mg cw Pw) {net : Net} (o : NetOk net) : FnOk P w K mg base CX0 4 T.f_met_nodes T.d_met_nodes ["web"] (spMet HO.tup Pw net) := by
  have G_walk_steps : FnOk P w K mg base CX0 3 T.f_walk_steps T.d_walk_steps ["web"] (spWalk HO.tup Pw net) := ok_walkT_ T W TB o
  refine T.D_met_nodes.F.ok sc_met_nodes (fun vs H Q E h => ?_) (fun cdv A outer s H vs Q E hr h => ?_)
  · obtain ⟨v, rfl, _⟩ := h
    rfl
  obtain ⟨v, rfl, wb, hT, q⟩ := h
  refine ⟨_, (pss_one (ps_ret (pe_callTy (call_list_dK rfl) rfl T.b_list bt_list (pa_cons (pe_call G_walk_steps (hr.mono (by omega)) rfl T.D_walk_steps.g T.D_walk_steps.F.kp T.D_walk_steps.b .nil pass0 (pa_cons (pv 0) pa_nil)) pa_nil)))), ?_⟩
  refine ⟨v, rfl, v, rfl, wb, hT, fun d kvs ps H1 x1 hT1 ed ek g => ⟨d, kvs, rfl, ed, fun r hr' => ?_⟩⟩
  have s2 : Same H1 (upd H1 r (.lst (kvs.map fun kv => kV kv.1))) := same_upd hr'
  refine q r ps _ (x1.trans (ExtN.of s2)) (hT1.ext s2) ?_ g
  rw [upd_same]
  have : kvs.map (fun kv => kV kv.1) = ps.map V.int := by
    have h1 := congrArg (List.map kV) ek
    rw [List.map_map, List.map_map] at h1
    exact h1
  rw [this]
theorem ok_holdsT_ (T : Top K mg) {cw Pw : Addr} (W : WalkAt K T.f_walk_steps T.d_walk_steps cw) (TB : TabB base mg cw Pw) {net : Net} (o : NetOk net) : FnOk P w K mg base CX0 5 T.f_holds_up T.d_holds_up ["web", "numbers"] (spHolds HO.tup Pw net) := by
  have G_met_nodes : FnOk P w K mg base CX0 4 T.f_met_nodes T.d_met_nodes ["web"] (spMet HO.tup Pw net) := ok_metT_ T W TB o
  refine T.D_holds_up.F.ok sc_holds_up (fun vs H Q E h => ?_) (fun cdv A outer s H vs Q E hr h => ?_)
  · obtain ⟨v, m, nums, rfl, _⟩ := h
    rfl
  obtain ⟨v, m, nums, rfl, wb, em, ln, hT, q⟩ := h
  refine ⟨_, (pss_cons (ps_for PassesOwn.never rfl (pi_list (pe_call G_met_nodes (hr.mono (by omega)) rfl T.D_met_nodes.g T.D_met_nodes.F.kp T.D_met_nodes.b .nil pass0 (pa_cons (pv 0) pa_nil))) (pg_name (i := 2) sc_holds_up.nd rfl (.inl rfl))
      (pss_one (ps_for PassesOwn.never rfl (pi_tup (pe_ix ix_tup (pv 0) (pv 2) (fun _ _ => rfl))) (pg_tup rfl (pgs_cons (pg_name (i := 3) sc_holds_up.nd rfl (.inl rfl)) (pgs_cons (pg_name (i := 4) sc_holds_up.nd rfl (.inl rfl)) pgs_nil)))
        (pss_one (ps_if (pt_cmpR op_gt (pe_op op_add (pv 3) (pe_ix ix_tup (pv 1) (pv 4) (fun _ _ => rfl))) (pe_ix ix_tup (pv 1) (pv 2) (fun _ _ => rfl)) (nomark _))
          (pss_one (ps_ret pe_bl))
          pss_nil)))))
    (pss_one (ps_ret pe_bl))), ?_⟩
  refine ⟨v, rfl, v, rfl, wb, hT, fun r ps H1 x1 hT1 er g => ?_⟩
  have wb1 := wb.stayT (Stay.ext x1)
  have em1 : H1 m = some (.tup (nums.map V.int)) := (Stay.ext x1).1 _ _ em
  obtain ⟨a, xs, rfl, ea, hx⟩ := wb1
  refine ⟨r, rfl, ⟨_, SqL.of er⟩, for_list (xs := ps.map V.int) (fun i σ H' => H' = H1 ∧ (∃ y2 y3 y4, σ = [some (.ref a), some (.ref m), y2, y3, y4]) ∧ ∀ k ∈ ps.take i, Fine net nums k) ⟨rfl, ⟨_, _, _, rfl⟩, fun k m => by simp at m⟩ (fun i σ H' _ p => by rw [p.1]; exact SqL.of er) (fun i x σ H' hxi p => ?_) (fun σ H' p => ?_)⟩
  · obtain ⟨rfl, ⟨y2, y3, y4, rfl⟩, f⟩ := p
    have hi : i < ps.length := by
      have := (List.getElem?_eq_some_iff.mp hxi).1
      rw [List.length_map] at this
      exact this
    obtain ⟨k, hk⟩ : ∃ k, ps[i]? = some k := ⟨_, List.getElem?_eq_getElem hi⟩
    have ex : x = .int k := by
      rw [List.getElem?_map, hk] at hxi
      exact (Option.some.inj hxi).symm
    subst ex
    have mk : k ∈ ps := List.mem_of_getElem? hk
    have bk := g.bd k mk
    obtain ⟨ms, ems, eg, mm⟩ := net_at bk.1 bk.2
    have hlt : k.toNat < xs.length := by
      rw [hx.1]
      omega
    obtain ⟨z, ez⟩ : ∃ z, xs[k.toNat]? = some z := ⟨_, List.getElem?_eq_getElem hlt⟩
    obtain ⟨b, ys, rfl, eb, hy⟩ := hx.2 _ _ _ ez ems
    have ip : atI xs k = some (.ref b) := by
      have := atI_nat (xs := xs) (j := k.toNat) ez
      rw [Int.toNat_of_nonneg bk.1] at this
      exact this
    have nk : atI (nums.map V.int) k = some (.int (nums.getD k.toNat 0)) := ints_at bk.1 (by omega)
    refine ⟨.ref a, rfl, .int k, rfl, a, xs, k, .ref b, rfl, rfl, SqT.of ea, ip, b, rfl, ⟨ys, SqT.of eb⟩, for_tup (xs := ys) (fun j σ H2 => H2 = H' ∧ (∃ y3 y4, σ = [some (.ref a), some (.ref m), some (.int k), y3, y4]) ∧ ∀ u ∈ ms.take j, u.1 + nums.getD u.2.toNat 0 ≤ nums.getD k.toNat 0) ⟨rfl, ⟨_, _, rfl⟩, fun u m => by simp at m⟩ (fun j σ H2 _ p => by rw [p.1]; exact SqT.of eb) (fun j y σ H2 hyj p => ?_) (fun σ H2 p => ?_)⟩
    · obtain ⟨rfl, ⟨y3, y4, rfl⟩, f2⟩ := p
      have hj : j < ms.length := by
        rw [← hy.1]
        exact (List.getElem?_eq_some_iff.mp hyj).1
      obtain ⟨u, hu⟩ : ∃ u, ms[j]? = some u := ⟨_, List.getElem?_eq_getElem hj⟩
      have mu : u ∈ ms := List.mem_of_getElem? hu
      have bu := o.tg ms mm u mu
      obtain ⟨d, rfl, ed⟩ := hy.2 _ _ _ hyj hu
      have nu : atI (nums.map V.int) u.2 = some (.int (nums.getD u.2.toNat 0)) := ints_at bu.1 (by omega)
      refine ⟨d, [.int u.1, .int u.2], rfl, SqT.of ed, rfl, .int u.1, [.int u.2], rfl, .int u.2, [], rfl, rfl, ?_⟩
      refine ⟨.int u.1, rfl, .ref m, rfl, .int u.2, rfl, m, _, u.2, _, rfl, rfl, SqT.of em1, nu, u.1, _, rfl, rfl, .ref m, rfl, .int k, rfl, m, _, k, _, rfl, rfl, SqT.of em1, nk, _, _, rfl, rfl, _, rfl, ite2 (fun c => ?_) (fun c => ?_)⟩
      · refine q _ _ x1 hT1 ⟨fun d => (nomatch d), fun d => ?_⟩
        have h1 := d k (g.rc k mk) u (by rw [eg]; exact mu)
        have h2 := of_decide_eq_true c
        omega
      · refine ⟨rfl, ⟨_, _, rfl⟩, fun v mv => ?_⟩
        rw [List.take_add_one, hu] at mv
        rcases List.mem_append.mp mv with mv | mv
        · exact f2 v mv
        · have e1 : v = u := by simpa using mv
          rw [e1]
          have h2 : ¬ (u.1 + nums.getD u.2.toNat 0 > nums.getD k.toNat 0) := fun h3 => c (decide_eq_true h3)
          omega
    · obtain ⟨rfl, ⟨y3, y4, rfl⟩, f2⟩ := p
      refine ⟨rfl, ⟨_, _, _, rfl⟩, fun v mv => ?_⟩
      rw [List.take_add_one, hk] at mv
      rcases List.mem_append.mp mv with mv | mv
      · exact f v mv
      · have e1 : v = k := by simpa using mv
        rw [e1]
        intro u mu
        rw [eg] at mu
        exact f2 u (by rw [List.take_of_length_le (by rw [hy.1]; exact Nat.le_refl _)]; exact mu)
  · obtain ⟨rfl, _, f⟩ := p
    rw [List.length_map, List.take_length] at f
    exact q _ _ x1 hT1 ⟨fun _ k hk => f k (g.iff.mpr hk), fun _ => rfl⟩
end
end K09

set_option Elab.async false
set_option linter.all false
set_option maxRecDepth 100000
set_option maxHeartbeats 4000000
namespace K09
open PySem PySem.Spec PyProof.Rows L2
def rLenSeq (K : PySem.W.Frag) : List V → Hp → VK → Prop := fun xs H Q => ∃ p ys, xs = [V.ref p] ∧ (SqL K H p ys ∨ SqT K H p ys) ∧ Q (V.int (ys.length : Nat)) H
/-! ### data: what is known of a value; h: the address of the hand, which no datum is -/
inductive Kn (h : Addr) (H : Hp) : V → Prop
  | non : Kn h H .non
  | bl (b : Bool) : Kn h H (.bl b)
  | int (i : Int) : Kn h H (.int i)
  | str (s : Str) : Kn h H (.str s)
  | tup (a : Addr) (xs : List V) (e : H a = some (.tup xs)) (z : xs.length ≤ 1000) (k : ∀ x ∈ xs, Kn h H x) : Kn h H (.ref a)
  | lst (a : Addr) (xs : List V) (n : a ≠ h) (e : H a = some (.lst xs)) : Kn h H (.ref a)
  | dct (a : Addr) (kvs : List (Key × V)) (e : H a = some (.dK kvs)) : Kn h H (.ref a)
/-- all but the object at h stays -/
def But (h : Addr) (H H' : Hp) : Prop := ∀ a o, a ≠ h → H a = some o → H' a = some o
theorem But.of {h : Addr} {H H' : Hp} (s : Same H H') : But h H H' := fun a o _ e => s a o e
theorem But.refl (h : Addr) (H : Hp) : But h H H := fun _ _ _ e => e
theorem But.trans {h : Addr} {H H1 H2 : Hp} (a : But h H H1) (b : But h H1 H2) : But h H H2 := fun c o n e => b c o n (a c o n e)
def IsL (h : Addr) (H : Hp) : Prop := ∃ xs, H h = some (.lst xs)
theorem IsL.ne {h : Addr} {H : Hp} (l : IsL h H) {a : Addr} {o : HO} (e : H a = some o) (n : ∀ xs, o ≠ .lst xs) : a ≠ h := fun z => by
  obtain ⟨xs, q⟩ := l
  rw [z, q] at e
  exact n xs (Option.some.inj e).symm
theorem Kn.mono {h : Addr} {H H' : Hp} (l : IsL h H) (s : But h H H') {v : V} (k : Kn h H v) : Kn h H' v := by
  induction k with
  | non => exact .non
  | bl b => exact .bl b
  | int i => exact .int i
  | str s => exact .str s
  | tup a xs e z _ ih => exact .tup a xs (s a _ (l.ne e (fun _ z => nomatch z)) e) z ih
  | lst a xs n e => exact .lst a xs n (s a _ n e)
  | dct a kvs e => exact .dct a kvs (s a _ (l.ne e (fun _ z => nomatch z)) e)
theorem Kn.same {h : Addr} {H H' : Hp} (s : Same H H') {v : V} (k : Kn h H v) : Kn h H' v := by
  induction k with
  | non => exact .non
  | bl b => exact .bl b
  | int i => exact .int i
  | str s => exact .str s
  | tup a xs e z _ ih => exact .tup a xs (s a _ e) z ih
  | lst a xs n e => exact .lst a xs n (s a _ e)
  | dct a kvs e => exact .dct a kvs (s a _ e)
/-- the items of a tuple -/
def tupOf (H : Hp) : V → Option (List V)
  | .ref a => match H a with
    | some (.tup xs) => some xs
    | _ => none
  | _ => none
theorem tupOf_ref {H : Hp} {a : Addr} {xs : List V} (e : H a = some (.tup xs)) : tupOf H (.ref a) = some xs := by
  show (match H a with | some (.tup xs) => some xs | _ => none) = some xs
  rw [e]
theorem tupOf_some {H : Hp} {v : V} {xs : List V} (e : tupOf H v = some xs) : ∃ a, v = .ref a ∧ H a = some (.tup xs) := by
  cases v with
  | ref a =>
    have e' : (match H a with | some (.tup xs) => some xs | _ => none) = some xs := e
    refine ⟨a, rfl, ?_⟩
    cases q : H a with
    | none => rw [q] at e'; cases e'
    | some o =>
      rw [q] at e'
      cases o <;> first | (cases e'; rfl) | cases e'
  | _ => cases e
theorem Kn.tupOf_same {h : Addr} {H H' : Hp} (s : Same H H') {v : V} (k : Kn h H v) : tupOf H' v = tupOf H v := by
  cases k with
  | non => rfl
  | bl b => rfl
  | int i => rfl
  | str s => rfl
  | tup a xs e z _ => rw [tupOf_ref e, tupOf_ref (s a _ e)]
  | lst a xs n e =>
    show (match H' a with | some (.tup xs) => some xs | _ => none) = (match H a with | some (.tup xs) => some xs | _ => none)
    rw [e, s a _ e]
  | dct a kvs e =>
    show (match H' a with | some (.tup xs) => some xs | _ => none) = (match H a with | some (.tup xs) => some xs | _ => none)
    rw [e, s a _ e]
theorem Kn.items {h : Addr} {H : Hp} {v : V} (k : Kn h H v) {xs : List V} (e : tupOf H v = some xs) : xs.length ≤ 1000 ∧ ∀ x ∈ xs, Kn h H x := by
  cases k with
  | tup a ys q z f =>
    rw [tupOf_ref q] at e
    cases e
    exact ⟨z, f⟩
  | lst a ys n q =>
    have e' : (match H a with | some (.tup xs) => some xs | _ => none) = some xs := e
    rw [q] at e'
    cases e'
  | dct a ys q =>
    have e' : (match H a with | some (.tup xs) => some xs | _ => none) = some xs := e
    rw [q] at e'
    cases e'
  | _ => cases e
/-! ### what a web is -/
def IsWI (lo hi : Int) (v : V) : Prop := ∃ i, v = .int i ∧ lo ≤ i ∧ i ≤ hi
def IsMove (H : Hp) (n : Int) (v : V) : Prop := ∃ x y, tupOf H v = some [x, y] ∧ IsWI (-1000000) 1000000 x ∧ IsWI 0 (n - 1) y
def IsNode (H : Hp) (n : Int) (v : V) : Prop := ∃ xs, tupOf H v = some xs ∧ (1 ≤ xs.length ∧ xs.length ≤ 12) ∧ ∀ x ∈ xs, IsMove H n x
def IsWeb (H : Hp) (v : V) : Prop := ∃ xs, tupOf H v = some xs ∧ (1 ≤ xs.length ∧ xs.length ≤ 120) ∧ ∀ x ∈ xs, IsNode H xs.length x
theorem Kn.isMove {h : Addr} {H H' : Hp} (s : Same H H') {n : Int} {v : V} (k : Kn h H v) : IsMove H' n v ↔ IsMove H n v := by
  unfold IsMove
  rw [k.tupOf_same s]
theorem Kn.isNode {h : Addr} {H H' : Hp} (s : Same H H') {n : Int} {v : V} (k : Kn h H v) : IsNode H' n v ↔ IsNode H n v := by
  unfold IsNode
  rw [k.tupOf_same s]
  constructor
  · rintro ⟨xs, e, z, f⟩
    exact ⟨xs, e, z, fun x m => (((k.items e).2 x m).isMove s).mp (f x m)⟩
  · rintro ⟨xs, e, z, f⟩
    exact ⟨xs, e, z, fun x m => (((k.items e).2 x m).isMove s).mpr (f x m)⟩
theorem Kn.isWeb {h : Addr} {H H' : Hp} (s : Same H H') {v : V} (k : Kn h H v) : IsWeb H' v ↔ IsWeb H v := by
  unfold IsWeb
  rw [k.tupOf_same s]
  constructor
  · rintro ⟨xs, e, z, f⟩
    exact ⟨xs, e, z, fun x m => (((k.items e).2 x m).isNode s).mp (f x m)⟩
  · rintro ⟨xs, e, z, f⟩
    exact ⟨xs, e, z, fun x m => (((k.items e).2 x m).isNode s).mpr (f x m)⟩
/-! ### isinstance of a datum -/
def isIntB : V → Bool
  | .int _ => true
  | .bl _ => true
  | _ => false
def isBlB : V → Bool
  | .bl _ => true
  | _ => false
theorem Kn.isi_int {K : PySem.W.Frag} {h : Addr} {H : Hp} {v : V} (k : Kn h H v) : ∃ t, TyX K H v t ∧ PySem.W.kitOne K t (.type "int") = some (isIntB v) := by
  cases k with
  | non => exact ⟨_, .base .non, kit_ty (by show kitB _ _ = some false; decide +kernel)⟩
  | bl b => exact ⟨_, .base (.bl b), kit_ty (by show kitB _ _ = some true; decide +kernel)⟩
  | int i => exact ⟨_, .base (.int i), kit_ty (by show kitB _ _ = some true; decide +kernel)⟩
  | str s => exact ⟨_, .base (.str s), kit_ty (by show kitB _ _ = some false; decide +kernel)⟩
  | tup a xs e z _ => exact ⟨_, .base (.tup e), kit_ty (by show kitB _ _ = some false; decide +kernel)⟩
  | lst a xs n e => exact ⟨_, .base (.lst e), kit_ty (by show kitB _ _ = some false; decide +kernel)⟩
  | dct a kvs e => exact ⟨_, .base (.dK e), kit_ty (by show kitB _ _ = some false; decide +kernel)⟩
theorem Kn.isi_bool {K : PySem.W.Frag} {h : Addr} {H : Hp} {v : V} (k : Kn h H v) : ∃ t, TyX K H v t ∧ PySem.W.kitOne K t (.type "bool") = some (isBlB v) := by
  cases k with
  | non => exact ⟨_, .base .non, kit_ty (by show kitB _ _ = some false; decide +kernel)⟩
  | bl b => exact ⟨_, .base (.bl b), kit_ty (by show kitB _ _ = some true; decide +kernel)⟩
  | int i => exact ⟨_, .base (.int i), kit_ty (by show kitB _ _ = some false; decide +kernel)⟩
  | str s => exact ⟨_, .base (.str s), kit_ty (by show kitB _ _ = some false; decide +kernel)⟩
  | tup a xs e z _ => exact ⟨_, .base (.tup e), kit_ty (by show kitB _ _ = some false; decide +kernel)⟩
  | lst a xs n e => exact ⟨_, .base (.lst e), kit_ty (by show kitB _ _ = some false; decide +kernel)⟩
  | dct a kvs e => exact ⟨_, .base (.dK e), kit_ty (by show kitB _ _ = some false; decide +kernel)⟩
theorem Kn.isi_tup {K : PySem.W.Frag} {h : Addr} {H : Hp} {v : V} (k : Kn h H v) : ∃ t, TyX K H v t ∧ PySem.W.kitOne K t (.type "tuple") = some (tupOf H v).isSome := by
  cases k with
  | non => exact ⟨_, .base .non, kit_ty (by show kitB _ _ = some false; decide +kernel)⟩
  | bl b => exact ⟨_, .base (.bl b), kit_ty (by show kitB _ _ = some false; decide +kernel)⟩
  | int i => exact ⟨_, .base (.int i), kit_ty (by show kitB _ _ = some false; decide +kernel)⟩
  | str s => exact ⟨_, .base (.str s), kit_ty (by show kitB _ _ = some false; decide +kernel)⟩
  | tup a xs e z _ =>
    rw [tupOf_ref e]
    exact ⟨_, .base (.tup e), kit_ty (by show kitB _ _ = some true; decide +kernel)⟩
  | lst a xs n e =>
    have q : (tupOf H (.ref a)).isSome = false := by
      show (match H a with | some (.tup xs) => some xs | _ => none).isSome = false
      rw [e]
      rfl
    rw [q]
    exact ⟨_, .base (.lst e), kit_ty (by show kitB _ _ = some false; decide +kernel)⟩
  | dct a kvs e =>
    have q : (tupOf H (.ref a)).isSome = false := by
      show (match H a with | some (.tup xs) => some xs | _ => none).isSome = false
      rw [e]
      rfl
    rw [q]
    exact ⟨_, .base (.dK e), kit_ty (by show kitB _ _ = some false; decide +kernel)⟩
section
variable {P : Program} {w : World} {K : PySem.W.Frag} {mg : Str → Option Value} {base : Heap}
/-! ### is_whole, is_whole_in, _law_is_number -/
def spWhole : Sp := fun vs H Q _ => ∃ h v, vs = [v] ∧ Kn h H v ∧ ∀ b : Bool, (b = true ↔ ∃ i, v = .int i) → Q (.bl b) H
theorem ok_is_whole (T : Top K mg) : FnOk P w K mg base CX0 1 T.f_is_whole T.d_is_whole ["thing"] spWhole := by
  refine T.D_is_whole.F.ok sc_is_whole (fun vs H Q E h => ?_) (fun cdv A outer s H vs Q E hr h => ?_)
  · obtain ⟨h, v, rfl, _⟩ := h
    rfl
  obtain ⟨h, v, rfl, k, q⟩ := h
  refine ⟨_, (pss_one (ps_ret (pe_and (pe_callB call_isi rfl T.b_isinstance (by decide +kernel) (pa_cons (pv 0) (pa_cons (pe_bltn (v := .ty "int") rfl T.b_int (by decide +kernel) rfl) pa_nil))) (pe_one (pe_not (pe_callB call_isi rfl T.b_isinstance (by decide +kernel) (pa_cons (pv 0) (pa_cons (pe_bltn (v := .ty "bool") rfl T.b_bool (by decide +kernel) rfl) pa_nil)))))))), ?_⟩
  obtain ⟨t, ht, kt⟩ := k.isi_int (K := K)
  obtain ⟨u, hu, ku⟩ := k.isi_bool (K := K)
  refine ⟨v, rfl, v, .ty "int", t, .type "int", isIntB v, rfl, .ty "int", ht, kt, isIntB v, rfl, ite2 (fun c => ?_) (fun c => ?_)⟩
  · refine ⟨v, rfl, v, .ty "bool", u, .type "bool", isBlB v, rfl, .ty "bool", hu, ku, isBlB v, rfl, q _ ?_⟩
    cases v <;> simp_all [isIntB, isBlB]
  · refine q _ ?_
    cases v <;> simp_all [isIntB]
def spIn : Sp := fun vs H Q _ => ∃ h v lo hi, vs = [v, .int lo, .int hi] ∧ Kn h H v ∧ ∀ b : Bool, (b = true ↔ IsWI lo hi v) → Q (.bl b) H
theorem ok_is_whole_in (T : Top K mg) : FnOk P w K mg base CX0 2 T.f_is_whole_in T.d_is_whole_in ["thing", "low", "high"] spIn := by
  have G_is_whole : FnOk P w K mg base CX0 1 T.f_is_whole T.d_is_whole ["thing"] spWhole := ok_is_whole T
  refine T.D_is_whole_in.F.ok sc_is_whole_in (fun vs H Q E h => ?_) (fun cdv A outer s H vs Q E hr h => ?_)
  · obtain ⟨h, v, lo, hi, rfl, _⟩ := h
    rfl
  obtain ⟨h, v, lo, hi, rfl, k, q⟩ := h
  refine ⟨_, (pss_one (ps_ret (pe_and (pe_call G_is_whole (hr.mono (by decide)) rfl T.D_is_whole.g T.D_is_whole.F.kp T.D_is_whole.b .nil pass0 (pa_cons (pv 0) pa_nil)) (pe_one (pe_chain op_le op_le (pv 1) (pv 0) (pv 2)))))), ?_⟩
  refine ⟨v, rfl, h, v, rfl, k, fun b hb => ⟨b, rfl, ite2 (fun c => ?_) (fun c => ?_)⟩⟩
  · obtain ⟨i, rfl⟩ := hb.mp c
    refine ⟨_, rfl, _, rfl, lo, i, rfl, rfl, _, rfl, ite2 (fun c1 => ?_) (fun c1 => ?_)⟩
    · refine ⟨_, rfl, i, hi, rfl, rfl, q _ ?_⟩
      have c2 := of_decide_eq_true c1
      constructor
      · intro d
        exact ⟨i, rfl, c2, of_decide_eq_true d⟩
      · rintro ⟨j, e, d1, d2⟩
        cases e
        exact decide_eq_true d2
    · refine q _ ?_
      constructor
      · intro d
        cases d
      · rintro ⟨j, e, d1, d2⟩
        cases e
        exact absurd (decide_eq_true d1) c1
  · refine q _ ?_
    constructor
    · intro d
      cases d
    · rintro ⟨j, e, d1, d2⟩
      exact absurd (hb.mpr ⟨j, e⟩) c
end
section
variable {P : Program} {w : World} {K : PySem.W.Frag} {mg : Str → Option Value} {base : Heap}
def spPair : Sp := fun vs H Q _ => ∃ h v, vs = [v] ∧ Kn h H v ∧ ∀ b : Bool, (b = true ↔ ∃ x y, tupOf H v = some [x, y]) → Q (.bl b) H
theorem two_of {xs : List V} (h : xs.length = 2) : ∃ x y, xs = [x, y] := by
  match xs, h with
  | [x, y], _ => exact ⟨x, y, rfl⟩
theorem ok_is_pair (T : Top K mg) : FnOk P w K mg base CX0 1 T.f_is_pair T.d_is_pair ["thing"] spPair := by
  refine T.D_is_pair.F.ok sc_is_pair (fun vs H Q E h => ?_) (fun cdv A outer s H vs Q E hr h => ?_)
  · obtain ⟨h, v, rfl, _⟩ := h
    rfl
  obtain ⟨h, v, rfl, k, q⟩ := h
  refine ⟨_, (pss_one (ps_ret (pe_and (pe_callB call_isi rfl T.b_isinstance (by decide +kernel) (pa_cons (pv 0) (pa_cons (pe_bltn (v := .ty "tuple") rfl T.b_tuple (by decide +kernel) rfl) pa_nil))) (pe_one (pe_cmpR op_eq (pe_callB call_len_seq rfl T.b_len (by decide +kernel) (pa_cons (pv 0) pa_nil)) pe_int (nomark _)))))), ?_⟩
  obtain ⟨t, ht, kt⟩ := k.isi_tup (K := K)
  refine ⟨v, rfl, v, .ty "tuple", t, .type "tuple", _, rfl, .ty "tuple", ht, kt, _, rfl, ite2 (fun c => ?_) (fun c => ?_)⟩
  · obtain ⟨xs, e⟩ := Option.isSome_iff_exists.mp c
    obtain ⟨a, rfl, ea⟩ := tupOf_some e
    refine ⟨.ref a, rfl, a, xs, rfl, .inr (SqT.of ea), rfl, q _ ?_⟩
    constructor
    · intro d
      have d2 : ((xs.length : Nat) : Int) = 2 := V.int.inj (of_decide_eq_true d)
      obtain ⟨x, y, rfl⟩ := two_of (xs := xs) (by omega)
      exact ⟨x, y, e⟩
    · rintro ⟨x, y, e2⟩
      rw [e] at e2
      cases e2
      exact decide_eq_true rfl
  · refine q _ ?_
    constructor
    · intro d
      cases d
    · rintro ⟨x, y, e2⟩
      rw [e2] at c
      exact absurd rfl c
def spMove : Sp := fun vs H Q _ => ∃ h v n, vs = [v, .int n] ∧ Kn h H v ∧ ∀ b : Bool, (b = true ↔ IsMove H n v) → Q (.bl b) H
theorem ok_is_move (T : Top K mg) : FnOk P w K mg base CX0 3 T.f_is_move T.d_is_move ["thing", "size"] spMove := by
  have G_is_pair : FnOk P w K mg base CX0 1 T.f_is_pair T.d_is_pair ["thing"] spPair := ok_is_pair T
  have G_is_whole_in : FnOk P w K mg base CX0 2 T.f_is_whole_in T.d_is_whole_in ["thing", "low", "high"] spIn := ok_is_whole_in T
  refine T.D_is_move.F.ok sc_is_move (fun vs H Q E h => ?_) (fun cdv A outer s H vs Q E hr h => ?_)
  · obtain ⟨h, v, n, rfl, _⟩ := h
    rfl
  obtain ⟨h, v, n, rfl, k, q⟩ := h
  refine ⟨_, (pss_cons (ps_if (pt_not (pt_val (pe_call G_is_pair (hr.mono (by decide)) rfl T.D_is_pair.g T.D_is_pair.F.kp T.D_is_pair.b .nil pass0 (pa_cons (pv 0) pa_nil))))
      (pss_one (ps_ret pe_bl))
      pss_nil)
    (pss_one (ps_ret (pe_and (pe_call G_is_whole_in (hr.mono (by decide)) rfl T.D_is_whole_in.g T.D_is_whole_in.F.kp T.D_is_whole_in.b .nil pass0 (pa_cons (pe_ix ix_tup (pv 0) pe_int (fun _ _ => rfl)) (pa_cons (pe_un un_neg (pe_glob (v := .int 1000000) rfl T.c_MOST_WEIGHT ⟨_, rfl⟩)) (pa_cons (pe_glob (v := .int 1000000) rfl T.c_MOST_WEIGHT ⟨_, rfl⟩) pa_nil)))) (pe_one (pe_call G_is_whole_in (hr.mono (by decide)) rfl T.D_is_whole_in.g T.D_is_whole_in.F.kp T.D_is_whole_in.b .nil pass0 (pa_cons (pe_ix ix_tup (pv 0) pe_int (fun _ _ => rfl)) (pa_cons pe_int (pa_cons (pe_op op_sub (pv 1) pe_int) pa_nil))))))))), ?_⟩
  refine ⟨v, rfl, h, v, rfl, k, fun b hb => ⟨b, rfl, ite2 (fun c => ?_) (fun c => ?_)⟩⟩
  · refine q _ ⟨fun d => (nomatch d), fun d => ?_⟩
    obtain ⟨x, y, e, _⟩ := d
    have := hb.mpr ⟨x, y, e⟩
    rw [this] at c
    cases c
  · have hb1 : b = true := by
      cases b with
      | true => rfl
      | false => exact absurd rfl c
    obtain ⟨x, y, e⟩ := hb.mp hb1
    obtain ⟨a, rfl, ea⟩ := tupOf_some e
    have kx := (k.items e).2 x (by simp)
    have ky := (k.items e).2 y (by simp)
    refine ⟨.ref a, rfl, a, _, 0, x, rfl, rfl, SqT.of ea, atI_nat (j := 0) rfl, 1000000, rfl, h, x, -1000000, 1000000, rfl, kx, fun b1 h1 => ⟨b1, rfl, ite2 (fun c1 => ?_) (fun c1 => ?_)⟩⟩
    · refine ⟨.ref a, rfl, a, _, 1, y, rfl, rfl, SqT.of ea, atI_nat (j := 1) rfl, .int n, rfl, n, 1, rfl, rfl, h, y, 0, n - 1, rfl, ky, fun b2 h2 => q _ ?_⟩
      constructor
      · intro d
        exact ⟨x, y, e, h1.mp c1, h2.mp d⟩
      · rintro ⟨x', y', e', d1, d2⟩
        rw [e] at e'
        cases e'
        exact h2.mpr d2
    · refine q _ ⟨fun d => (nomatch d), ?_⟩
      rintro ⟨x', y', e', d1, d2⟩
      rw [e] at e'
      cases e'
      exact absurd (h1.mpr d1) c1
noncomputable def fB (p : V → Prop) (x : V) : Bool := @decide (p x) (Classical.propDecidable _)
theorem fB_iff {p : V → Prop} {x : V} : fB p x = true ↔ p x := by
  unfold fB
  exact @decide_eq_true_iff (p x) (Classical.propDecidable _)
theorem all_fB {p : V → Prop} {xs : List V} : (xs.map (fB p)).all id = true ↔ ∀ x ∈ xs, p x := by
  rw [List.all_map, List.all_eq_true]
  exact ⟨fun h x m => fB_iff.mp (h x m), fun h x m => fB_iff.mpr (h x m)⟩
def spNode : Sp := fun vs H Q _ => ∃ h v n, vs = [v, .int n] ∧ Kn h H v ∧ ∀ (b : Bool) H', Same H H' → (b = true ↔ IsNode H n v) → Q (.bl b) H'
theorem ok_is_node (T : Top K mg) : FnOk P w K mg base CX0 4 T.f_is_node T.d_is_node ["thing", "size"] spNode := by
  have G_is_move : FnOk P w K mg base CX0 3 T.f_is_move T.d_is_move ["thing", "size"] spMove := ok_is_move T
  refine T.D_is_node.F.ok sc_is_node (fun vs H Q E h => ?_) (fun cdv A outer s H vs Q E hr h => ?_)
  · obtain ⟨h, v, n, rfl, _⟩ := h
    rfl
  obtain ⟨h, v, n, rfl, k, q⟩ := h
  refine ⟨_, (pss_cons (ps_if (pt_not (PW.pt (pw_and (pt_val (pe_callB call_isi rfl T.b_isinstance (by decide +kernel) (pa_cons (pv 0) (pa_cons (pe_bltn (v := .ty "tuple") rfl T.b_tuple (by decide +kernel) rfl) pa_nil)))) (pw_and1 (pt_chain op_le op_le pe_int (pe_callB call_len_seq rfl T.b_len (by decide +kernel) (pa_cons (pv 0) pa_nil)) (pe_glob (v := .int 12) rfl T.c_MOST_MOVES ⟨_, rfl⟩))))))
      (pss_one (ps_ret pe_bl))
      pss_nil)
    (pss_one (ps_ret (pe_callB (cr_all rfl) rfl T.b_all (by decide +kernel) (pa_cons (pe_lc (own := [("move", 2)]) (g := gName 2) (tt := tYes) rfl sc_is_node.nd (pi_tup (pv 0)) (blkOk_by (N := N_is_node) (sc := defScope s_is_node) (by decide +kernel)) (fun _ _ _ _ _ => pg_name (i := 2) sc_is_node.nd rfl (Or.inl rfl)) (fun _ _ _ _ _ => pts_nil) (fun _ _ _ _ _ => (pe_call G_is_move (hr.mono (by decide)) rfl T.D_is_move.g T.D_is_move.F.kp T.D_is_move.b .nil pass0 (pa_cons (pv 2) (pa_cons (pv 1) pa_nil))))) pa_nil))))), ?_⟩
  obtain ⟨t, ht, kt⟩ := k.isi_tup (K := K)
  have bad : ∀ H', Same H H' → ¬ IsNode H n v → Q (.bl false) H' := fun H' s' ni => q _ _ s' ⟨fun d => (nomatch d), fun d => absurd d ni⟩
  have rest : ∀ a xs, v = .ref a → H a = some (.tup xs) → (1 ≤ xs.length ∧ xs.length ≤ 12) → ∀ D : Addr, H D = none → ∀ H', Same H H' → H' D = some (.lst ((xs.take xs.length).map fun x => V.bl (fB (IsMove H n) x))) →
      Q (.bl (((xs.map (fB (IsMove H n))).all id))) H' := fun a xs e1 e2 z D hD H' s' _ => q _ _ s' (by
    subst e1
    rw [all_fB]
    unfold IsNode
    constructor
    · intro d
      exact ⟨xs, tupOf_ref e2, z, d⟩
    · rintro ⟨ys, e3, _, d⟩
      rw [tupOf_ref e2] at e3
      cases e3
      exact d)
  refine ⟨v, rfl, v, .ty "tuple", t, .type "tuple", _, rfl, .ty "tuple", ht, kt, _, rfl, ite2 (fun c => ?_) (fun c => ?_)⟩
  · obtain ⟨xs, e⟩ := Option.isSome_iff_exists.mp c
    obtain ⟨a, rfl, ea⟩ := tupOf_some e
    refine ⟨.ref a, rfl, a, xs, rfl, .inr (SqT.of ea), 1, xs.length, rfl, rfl, _, rfl, ite2 (fun c1 => ?_) (fun c1 => ?_)⟩
    · refine ⟨xs.length, 12, rfl, rfl, _, rfl, ite2 (fun c2 => ?_) (fun c2 => ?_)⟩
      · refine bad H (Same.refl H) ?_
        rintro ⟨ys, e3, z, _⟩
        rw [e] at e3
        cases e3
        have : decide (((xs.length : Nat) : Int) ≤ 12) = true := decide_eq_true (by omega)
        rw [this] at c2
        cases c2
      · have d1 : (1 : Int) ≤ ((xs.length : Nat) : Int) := of_decide_eq_true c1
        have d2 : ((xs.length : Nat) : Int) ≤ 12 := by
          by_cases d : ((xs.length : Nat) : Int) ≤ 12
          · exact d
          · rw [decide_eq_false d] at c2
            exact absurd rfl c2
        have z : 1 ≤ xs.length ∧ xs.length ≤ 12 := by omega
        refine ⟨.ref a, rfl, a, rfl, ⟨xs, SqT.of ea⟩, fun D hD => lc_tup (xs := xs) (fun i H' => Same H H' ∧ H' D = some (.lst ((xs.take i).map fun x => V.bl (fB (IsMove H n) x)))) ⟨same_upd hD, upd_same⟩ (fun i H' _ p => SqT.of (p.1 _ _ ea)) (fun i x H' hx p => ?_) (fun H' p => ?_)⟩
        · obtain ⟨s1, eD⟩ := p
          have kx : Kn h H x := (k.items e).2 x (List.mem_of_getElem? hx)
          refine ⟨rfl, x, rfl, .int n, rfl, h, x, n, rfl, kx.same s1, fun b hb => ⟨_, eD, ?_, ?_, ?_⟩⟩
          · rw [List.length_map, List.length_take]
            exact small1000 (by omega)
          · intro u o eu
            rw [upd_ne (ne_of_none eu hD)]
            exact s1 _ _ eu
          · rw [upd_same, take_map_succ hx]
            have : b = fB (IsMove H n) x := by
              rw [Bool.eq_iff_iff, hb, fB_iff, kx.isMove s1]
            rw [this]
        · obtain ⟨s1, eD⟩ := p
          rw [List.take_length] at eD
          refine ⟨D, xs.map (fB (IsMove H n)), rfl, SqL.of (by rw [eD, List.map_map]; rfl), ?_⟩
          exact rest a xs rfl ea z D hD H' s1 (by rw [eD, List.take_length])
    · refine ⟨_, rfl, ite2 (fun c2 => bad H (Same.refl H) ?_) (fun c2 => absurd rfl c2)⟩
      rintro ⟨ys, e3, z, _⟩
      rw [e] at e3
      cases e3
      exact c1 (show decide ((1 : Int) ≤ ((xs.length : Nat) : Int)) = true from decide_eq_true (by omega))
  · refine ite2 (fun c2 => bad H (Same.refl H) ?_) (fun c2 => absurd rfl c2)
    rintro ⟨ys, e3, z, _⟩
    rw [e3] at c
    exact absurd rfl c
end
section
variable {P : Program} {w : World} {K : PySem.W.Frag} {mg : Str → Option Value} {base : Heap}
def spWeb : Sp := fun vs H Q _ => ∃ h v, vs = [v] ∧ Kn h H v ∧ ∀ (b : Bool) H', Same H H' → (b = true ↔ IsWeb H v) → Q (.bl b) H'
theorem ok_is_web (T : Top K mg) : FnOk P w K mg base CX0 5 T.f_is_web T.d_is_web ["thing"] spWeb := by
  have G_is_node : FnOk P w K mg base CX0 4 T.f_is_node T.d_is_node ["thing", "size"] spNode := ok_is_node T
  refine T.D_is_web.F.ok sc_is_web (fun vs H Q E h => ?_) (fun cdv A outer s H vs Q E hr h => ?_)
  · obtain ⟨h, v, rfl, _⟩ := h
    rfl
  obtain ⟨h, v, rfl, k, q⟩ := h
  refine ⟨_, (pss_cons (ps_if (pt_not (PW.pt (pw_and (pt_val (pe_callB call_isi rfl T.b_isinstance bt_isinstance (pa_cons (pv 0) (pa_cons (pe_bltn (v := .ty "tuple") rfl T.b_tuple bt_tuple rfl) pa_nil)))) (pw_and1 (pt_chain op_le op_le pe_int (pe_callB (r := rLenSeq K) call_len_seq rfl T.b_len bt_len (pa_cons (pv 0) pa_nil)) (pe_glob (v := .int 120) rfl T.c_MOST_NODES ⟨_, rfl⟩))))))
      (pss_one (ps_ret pe_bl))
      pss_nil)
    (pss_one (ps_ret (pe_callB (cr_all rfl) rfl T.b_all bt_all (pa_cons (pe_lc (own := [("node", 1)]) (g := gName 1) (tt := tYes) rfl sc_is_web.nd (pi_tup (pv 0)) (blkOk_by (N := N_is_web) (sc := defScope s_is_web) (by decide +kernel)) (fun _ _ _ _ _ => pg_name (i := 1) sc_is_web.nd rfl (Or.inl rfl)) (fun _ _ _ _ _ => pts_nil) (fun _ _ _ _ _ => (pe_call G_is_node (hr.mono (by decide)) rfl T.D_is_node.g T.D_is_node.F.kp T.D_is_node.b .nil pass0 (pa_cons (pv 1) (pa_cons (pe_callB (r := rLenSeq K) call_len_seq rfl T.b_len bt_len (pa_cons (pv 0) pa_nil)) pa_nil))))) pa_nil))))), ?_⟩
  obtain ⟨t, ht, kt⟩ := k.isi_tup (K := K)
  have bad : ∀ H', Same H H' → ¬ IsWeb H v → Q (.bl false) H' := fun H' s' ni => q _ _ s' ⟨fun d => (nomatch d), fun d => absurd d ni⟩
  refine ⟨v, rfl, v, .ty "tuple", t, .type "tuple", _, rfl, .ty "tuple", ht, kt, _, rfl, ite2 (fun c => ?_) (fun c => ?_)⟩
  · obtain ⟨xs, e⟩ := Option.isSome_iff_exists.mp c
    obtain ⟨a, rfl, ea⟩ := tupOf_some e
    refine ⟨.ref a, rfl, a, xs, rfl, .inr (SqT.of ea), 1, xs.length, rfl, rfl, _, rfl, ite2 (fun c1 => ?_) (fun c1 => ?_)⟩
    · refine ⟨xs.length, 120, rfl, rfl, _, rfl, ite2 (fun c2 => ?_) (fun c2 => ?_)⟩
      · refine bad H (Same.refl H) ?_
        rintro ⟨ys, e3, z, _⟩
        rw [e] at e3
        cases e3
        have : decide (((xs.length : Nat) : Int) ≤ 120) = true := decide_eq_true (by omega)
        rw [this] at c2
        cases c2
      · have d1 : (1 : Int) ≤ ((xs.length : Nat) : Int) := of_decide_eq_true c1
        have d2 : ((xs.length : Nat) : Int) ≤ 120 := by
          by_cases d : ((xs.length : Nat) : Int) ≤ 120
          · exact d
          · rw [decide_eq_false d] at c2
            exact absurd rfl c2
        have z : 1 ≤ xs.length ∧ xs.length ≤ 120 := by omega
        refine ⟨.ref a, rfl, a, rfl, ⟨xs, SqT.of ea⟩, fun D hD => lc_tup (xs := xs) (fun i H' => Same H H' ∧ H' D = some (.lst ((xs.take i).map fun x => V.bl (fB (IsNode H xs.length) x)))) ⟨same_upd hD, upd_same⟩ (fun i H' _ p => SqT.of (p.1 _ _ ea)) (fun i x H' hx p => ?_) (fun H' p => ?_)⟩
        · obtain ⟨s1, eD⟩ := p
          have kx : Kn h H x := (k.items e).2 x (List.mem_of_getElem? hx)
          refine ⟨rfl, x, rfl, .ref a, rfl, a, xs, rfl, .inr (SqT.of (s1 _ _ ea)), h, x, xs.length, rfl, kx.same s1, fun b H2 s2 hb => ⟨_, s2 _ _ eD, ?_, ?_, ?_⟩⟩
          · rw [List.length_map, List.length_take]
            exact small1000 (by omega)
          · intro u o eu
            rw [upd_ne (ne_of_none eu hD)]
            exact s2 _ _ (s1 _ _ eu)
          · rw [upd_same, take_map_succ hx]
            have : b = fB (IsNode H xs.length) x := by
              rw [Bool.eq_iff_iff, hb, fB_iff, kx.isNode s1]
            rw [this]
        · obtain ⟨s1, eD⟩ := p
          rw [List.take_length] at eD
          refine ⟨D, xs.map (fB (IsNode H xs.length)), rfl, SqL.of (by rw [eD, List.map_map]; rfl), q _ _ s1 ?_⟩
          rw [all_fB]
          constructor
          · intro d
            exact ⟨xs, e, z, d⟩
          · rintro ⟨ys, e3, _, d⟩
            rw [e] at e3
            cases e3
            exact d
    · refine ⟨_, rfl, ite2 (fun c2 => bad H (Same.refl H) ?_) (fun c2 => absurd rfl c2)⟩
      rintro ⟨ys, e3, z, _⟩
      rw [e] at e3
      cases e3
      exact c1 (show decide ((1 : Int) ≤ ((xs.length : Nat) : Int)) = true from decide_eq_true (by omega))
  · refine ite2 (fun c2 => bad H (Same.refl H) ?_) (fun c2 => absurd rfl c2)
    rintro ⟨ys, e3, z, _⟩
    rw [e3] at c
    exact absurd rfl c
end
end K09

set_option Elab.async false
set_option linter.all false
set_option maxRecDepth 100000
set_option maxHeartbeats 1000000
namespace K09
open PySem PySem.Spec PyProof.Rows L2
abbrev csW : Scope := { kind := .function, names := [(".0", .local), ("moves", .local), ("above", .cell), ("below", .cell)], isGenerator := false, isCoroutine := false, more := [] }
abbrev csT : Scope := { kind := .function, names := [(".0", .local), ("moves", .local), ("tuple", .globalImplicit)], isGenerator := false, isCoroutine := false, more := [] }
def mapNet (g : Int × Int → Int × Int) (net : Net) : Net := net.map (·.map g)
abbrev wgt (a b : Int) : Int × Int → Int × Int := fun m => (b * m.1 - a, m.2)
abbrev ngt : Int × Int → Int × Int := fun m => (-m.1, m.2)
theorem Each.nil {α β : Type} {R : α → β → Prop} : Each R [] [] := ⟨rfl, fun i x y e _ => by simp at e⟩
theorem Each.snoc {α β : Type} {R : α → β → Prop} {xs : List α} {ys : List β} {x : α} {y : β} (h : Each R xs ys) (r : R x y) : Each R (xs ++ [x]) (ys ++ [y]) := by
  refine ⟨by rw [List.length_append, List.length_append, h.1]; rfl, fun i a b e1 e2 => ?_⟩
  by_cases hi : i < xs.length
  · rw [List.getElem?_append_left hi] at e1
    rw [List.getElem?_append_left (by rw [← h.1]; exact hi)] at e2
    exact h.2 i a b e1 e2
  · have l1 := (List.getElem?_eq_some_iff.mp e1).1
    rw [List.length_append] at l1
    have hi2 : i = xs.length := by
      have : ([x] : List α).length = 1 := rfl
      omega
    subst hi2
    rw [List.getElem?_append_right (Nat.le_refl _), Nat.sub_self] at e1
    rw [List.getElem?_append_right (by rw [h.1]; exact Nat.le_refl _), h.1, Nat.sub_self] at e2
    cases e1
    cases e2
    exact r
theorem MvT.upd {H : Hp} {D : Addr} {zs : List V} {o : HO} (e : H D = some (.lst zs)) {y : V} {m : Int × Int} (h : MvT H y m) : MvT (upd H D o) y m := by
  obtain ⟨d, rfl, f⟩ := h
  exact ⟨d, rfl, by rw [upd_ne (fun z => by rw [z, e] at f; cases f)]; exact f⟩
section
variable {P : Program} {w : World} {K : PySem.W.Frag} {mg : Str → Option Value} {base : Heap}
def spWgt : Sp := fun vs H Q _ => ∃ v f a b net, vs = [v, .ref f] ∧ WbC HO.tup H v net ∧ NetOk net ∧ H f = some (.tup [.int a, .int b]) ∧ (∀ ms ∈ net, ∀ m ∈ ms, -1000000 ≤ m.1 ∧ m.1 ≤ 1000000) ∧ ∀ u H', Same H H' → WbC HO.lst H' u (mapNet (wgt a b) net) → Q u H'
theorem ok_weighed (T : Top K mg) : FnOk P w K mg base CX0 1 T.f_weighed T.d_weighed ["web", "fraction"] spWgt := by
  refine T.D_weighed.F.ok sc_weighed (fun vs H Q E h => ?_) (fun cdv A outer s H vs Q E hr h => ?_)
  · obtain ⟨v, f, a, b, net, rfl, _⟩ := h
    rfl
  obtain ⟨v, f, a, b, net, rfl, wb, o, ef, wo, q⟩ := h
  refine ⟨_, (pss_cons (ps_asg (pv 1) (pg_tup rfl (pgs_cons (pg_name (i := 2) sc_weighed.nd rfl (.inr rfl)) (pgs_cons (pg_name (i := 3) sc_weighed.nd rfl (.inr rfl)) pgs_nil))))
    (pss_one (ps_ret (pe_lc (own := [("moves", 6)]) (g := (gName 6)) (tt := tYes) rfl sc_weighed.nd (pi_tup (pv 0)) (blkOk_by (N := N_weighed) (sc := defScope s_weighed) (by decide +kernel)) (fun _ _ _ _ _ => (pg_name (i := 6) sc_weighed.nd rfl (Or.inl rfl))) (fun _ _ _ _ _ => pts_nil) (fun _ _ _ _ _ => (pe_lc (wi := iTup K (tVar 6)) (own := [("weight", 4), ("target", 5)]) (g := (gTup K 2 (gCons (gName 4) (gCons (gName 5) gNil)))) (tt := tYes) rfl sc_weighed.nd (pi_tup (pv 6)) (blkOk_by (N := N_weighed) (sc := csW) (by decide +kernel)) (fun _ _ _ _ _ => (pg_tup rfl (pgs_cons (pg_name (i := 4) sc_weighed.nd rfl (Or.inl rfl)) (pgs_cons (pg_name (i := 5) sc_weighed.nd rfl (Or.inl rfl)) pgs_nil)))) (fun _ _ _ _ _ => pts_nil) (fun _ _ _ _ _ => (pe_tup (pa_cons (pe_op op_sub (pe_op op_mul (pv 3) (pv 4)) (pv 2)) (pa_cons (pv 5) pa_nil)))))))))), ?_⟩
  obtain ⟨wa, xs, rfl, ea, hx⟩ := wb
  refine ⟨.ref f, rfl, f, _, rfl, SqT.of ef, rfl, .int a, [.int b], rfl, .int b, [], rfl, rfl, ?_⟩
  refine ⟨.ref wa, rfl, wa, rfl, ⟨xs, SqT.of ea⟩, fun D hD => lc_tup (xs := xs) (fun i H' => Same H H' ∧ ∃ zs, H' D = some (.lst zs) ∧ Each (fun z ms => NdC HO.lst H' z ms ∧ z ≠ .ref D) zs ((net.take i).map (·.map (wgt a b)))) ⟨same_upd hD, [], upd_same, Each.nil⟩ (fun i H' _ p => SqT.of (p.1 _ _ ea)) (fun i x H' hxi p => ?_) (fun H' p => ?_)⟩
  · obtain ⟨s1, zs, eD, hz⟩ := p
    have hi : i < net.length := by
      rw [← hx.1]
      exact (List.getElem?_eq_some_iff.mp hxi).1
    obtain ⟨ms, hms⟩ : ∃ ms, net[i]? = some ms := ⟨_, List.getElem?_eq_getElem hi⟩
    have mms : ms ∈ net := List.mem_of_getElem? hms
    obtain ⟨nb, ys, rfl, eb, hy⟩ := hx.2 _ _ _ hxi hms
    have lm := o.m0 ms mms
    refine ⟨rfl, .ref nb, rfl, nb, rfl, ⟨ys, SqT.of (s1 _ _ eb)⟩, fun G hG => ?_⟩
    have nGD : G ≠ D := fun z => by
      rw [z, eD] at hG
      cases hG
    refine lc_tup (xs := ys) (fun j H2 => Same H' H2 ∧ ∃ us, H2 G = some (.lst us) ∧ Each (MvT H2) us ((ms.take j).map (wgt a b))) ⟨same_upd hG, [], upd_same, Each.nil⟩ (fun j H2 _ p => SqT.of (p.1 _ _ (s1 _ _ eb))) (fun j y H2 hyj p => ?_) (fun H2 p => ?_)
    · obtain ⟨s2, us, eG, hu⟩ := p
      have hj : j < ms.length := by
        rw [← hy.1]
        exact (List.getElem?_eq_some_iff.mp hyj).1
      obtain ⟨m, hm⟩ : ∃ m, ms[j]? = some m := ⟨_, List.getElem?_eq_getElem hj⟩
      obtain ⟨d, rfl, ed⟩ := hy.2 _ _ _ hyj hm
      have wm := wo ms mms m (List.mem_of_getElem? hm)
      refine ⟨d, [.int m.1, .int m.2], rfl, SqT.of (s2 _ _ (s1 _ _ ed)), rfl, .int m.1, [.int m.2], rfl, .int m.2, [], rfl, rfl, ?_⟩
      refine ⟨rfl, .int b, rfl, .int m.1, rfl, b, m.1, rfl, rfl, .inr ⟨by omega, by omega⟩, .int a, rfl, _, a, rfl, rfl, .int m.2, rfl, (by show 2 ≤ sizeLine; decide), fun p hp => ?_⟩
      have s3 := same_upd (o := .tup [.int (b * m.1 - a), .int m.2]) hp
      have eG3 := s3 _ _ eG
      have lu : us.length ≤ 12 := by
        rw [hu.1, List.length_map, List.length_take]
        omega
      refine ⟨us, eG3, small1000 (by omega), fun u z e => ?_, us ++ [.ref p], upd_same, ?_⟩
      · rw [upd_ne (ne_of_none e hG)]
        exact s3 _ _ (s2 _ _ e)
      · rw [take_map_succ hm]
        refine Each.snoc (hu.imp fun z n hz => (hz.stay (Stay.of s3)).upd eG3) (MvT.upd eG3 ⟨p, rfl, upd_same⟩)
    · obtain ⟨s2, us, eG, hu⟩ := p
      rw [List.take_of_length_le (by rw [hy.1]; exact Nat.le_refl _)] at hu
      have eD2 := s2 _ _ eD
      have lz : zs.length ≤ 120 := by
        rw [hz.1, List.length_map, List.length_take]
        have := o.n1
        omega
      refine ⟨zs, eD2, small1000 (by omega), fun u z e => ?_, zs ++ [.ref G], upd_same, ?_⟩
      · rw [upd_ne (ne_of_none e hD)]
        exact s2 _ _ (s1 _ _ e)
      · rw [take_map_succ hms]
        have keep : ∀ z n, NdC HO.lst H2 z n → z ≠ .ref D → NdC HO.lst (upd H2 D (.lst (zs ++ [.ref G]))) z n := fun z n h hne => by
          obtain ⟨c, ts, rfl, ec, ht⟩ := h
          exact ⟨c, ts, rfl, by rw [upd_ne (fun e => hne (by rw [e]))]; exact ec, ht.imp fun y m hh => hh.upd eD2⟩
        exact Each.snoc (hz.imp fun z n hh => ⟨keep z n (hh.1.stayL (Stay.of s2)) hh.2, hh.2⟩) ⟨keep _ _ ⟨G, us, rfl, eG, hu⟩ (fun e => nGD (V.ref.inj e)), fun e => nGD (V.ref.inj e)⟩
  · obtain ⟨s1, zs, eD, hz⟩ := p
    rw [List.take_of_length_le (by rw [hx.1]; exact Nat.le_refl _)] at hz
    exact q _ _ s1 ⟨D, zs, rfl, eD, hz.imp fun z n h => h.1⟩
end
end K09

set_option Elab.async false
set_option linter.all false
set_option maxRecDepth 100000
set_option maxHeartbeats 1000000
namespace K09
open PySem PySem.Spec PyProof.Rows L2 LamX NdefX Clo
theorem pe_tupleK {X : Cx} {K : PySem.W.Frag} {a : Expr} {ta : TE} {p pos : Pos} (hK : X.K = K) (hg : Gl X "tuple") (hm : X.mg "tuple" = none) (ha : PE X a ta) (na : starEach [a] X.env = (false, eval a X.env) :: starEach [] X.env := by rfl) :
    PE X (.Call (.Name "tuple" p) [a] [] pos) (tThen ta (kTup K)) := by
  subst hK
  exact pe_tupleOf hg hm ha na
section
variable {P : Program} {w : World} {K : PySem.W.Frag} {mg : Str → Option Value} {base : Heap}
def spTrn : Sp := fun vs H Q _ => ∃ v net, vs = [v] ∧ WbC HO.lst H v net ∧ NetOk net ∧ ∀ u H', Same H H' → WbC HO.tup H' u (mapNet ngt net) → Q u H'
theorem ok_turned (T : Top K mg) : FnOk P w K mg base CX0 1 T.f_turned T.d_turned ["web"] spTrn := by
  refine T.D_turned.F.ok sc_turned (fun vs H Q E h => ?_) (fun cdv A outer s H vs Q E hr h => ?_)
  · obtain ⟨v, net, rfl, _⟩ := h
    rfl
  obtain ⟨v, net, rfl, wb, o, q⟩ := h
  refine ⟨_, (pss_one (ps_ret (pe_tupleOf rfl T.b_tuple (pe_lc (own := [("moves", 3)]) (g := (gName 3)) (tt := tYes) rfl sc_turned.nd (pi_list (pv 0)) (blkOk_by (N := N_turned) (sc := defScope s_turned) (by decide +kernel)) (fun _ _ _ _ _ => (pg_name (i := 3) sc_turned.nd rfl (Or.inl rfl))) (fun _ _ _ _ _ => pts_nil) (fun _ _ _ _ _ => (pe_tupleK (K := K) rfl rfl T.b_tuple (pe_lc (wi := iList K (tVar 3)) (own := [("weight", 1), ("target", 2)]) (g := (gTup K 2 (gCons (gName 1) (gCons (gName 2) gNil)))) (tt := tYes) rfl sc_turned.nd (pi_list (pv 3)) (blkOk_by (N := N_turned) (sc := csT) (by decide +kernel)) (fun _ _ _ _ _ => (pg_tup rfl (pgs_cons (pg_name (i := 1) sc_turned.nd rfl (Or.inl rfl)) (pgs_cons (pg_name (i := 2) sc_turned.nd rfl (Or.inl rfl)) pgs_nil)))) (fun _ _ _ _ _ => pts_nil) (fun _ _ _ _ _ => (pe_tup (pa_cons (pe_un un_neg (pv 1)) (pa_cons (pv 2) pa_nil))))))))))), ?_⟩
  obtain ⟨wa, xs, rfl, ea, hx⟩ := wb
  refine ⟨.ref wa, rfl, wa, rfl, ⟨xs, SqL.of ea⟩, fun D hD => lc_list (xs := xs) (fun i H' => Same H H' ∧ ∃ zs, H' D = some (.lst zs) ∧ Each (NdC HO.tup H') zs ((net.take i).map (·.map ngt))) ⟨same_upd hD, [], upd_same, Each.nil⟩ (fun i H' _ p => SqL.of (p.1 _ _ ea)) (fun i x H' hxi p => ?_) (fun H' p => ?_)⟩
  · obtain ⟨s1, zs, eD, hz⟩ := p
    have hi : i < net.length := by
      rw [← hx.1]
      exact (List.getElem?_eq_some_iff.mp hxi).1
    obtain ⟨ms, hms⟩ : ∃ ms, net[i]? = some ms := ⟨_, List.getElem?_eq_getElem hi⟩
    have mms : ms ∈ net := List.mem_of_getElem? hms
    obtain ⟨nb, ys, rfl, eb, hy⟩ := hx.2 _ _ _ hxi hms
    have lm := o.m0 ms mms
    refine ⟨rfl, .ref nb, rfl, nb, rfl, ⟨ys, SqL.of (s1 _ _ eb)⟩, fun G hG => ?_⟩
    refine lc_list (xs := ys) (fun j H2 => Same H' H2 ∧ ∃ us, H2 G = some (.lst us) ∧ Each (MvT H2) us ((ms.take j).map ngt)) ⟨same_upd hG, [], upd_same, Each.nil⟩ (fun j H2 _ p => SqL.of (p.1 _ _ (s1 _ _ eb))) (fun j y H2 hyj p => ?_) (fun H2 p => ?_)
    · obtain ⟨s2, us, eG, hu⟩ := p
      have hj : j < ms.length := by
        rw [← hy.1]
        exact (List.getElem?_eq_some_iff.mp hyj).1
      obtain ⟨m, hm⟩ : ∃ m, ms[j]? = some m := ⟨_, List.getElem?_eq_getElem hj⟩
      obtain ⟨d, rfl, ed⟩ := hy.2 _ _ _ hyj hm
      refine ⟨d, [.int m.1, .int m.2], rfl, SqT.of (s2 _ _ (s1 _ _ ed)), rfl, .int m.1, [.int m.2], rfl, .int m.2, [], rfl, rfl, ?_⟩
      refine ⟨rfl, .int m.1, rfl, m.1, rfl, .int m.2, rfl, (by show 2 ≤ sizeLine; decide), fun p hp => ?_⟩
      have s3 := same_upd (o := .tup [.int (-m.1), .int m.2]) hp
      have eG3 := s3 _ _ eG
      have lu : us.length ≤ 12 := by
        rw [hu.1, List.length_map, List.length_take]
        omega
      refine ⟨us, eG3, small1000 (by omega), fun u z e => ?_, us ++ [.ref p], upd_same, ?_⟩
      · rw [upd_ne (ne_of_none e hG)]
        exact s3 _ _ (s2 _ _ e)
      · rw [take_map_succ hm]
        exact Each.snoc (hu.imp fun z n hz => (hz.stay (Stay.of s3)).upd eG3) (MvT.upd eG3 ⟨p, rfl, upd_same⟩)
    · obtain ⟨s2, us, eG, hu⟩ := p
      rw [List.take_of_length_le (by rw [hy.1]; exact Nat.le_refl _)] at hu
      refine .inl ⟨G, us, rfl, SqL.of eG, fun B hB => ?_⟩
      have s3 := same_upd (o := .tup us) hB
      have eD3 := s3 _ _ (s2 _ _ eD)
      have lz : zs.length ≤ 120 := by
        rw [hz.1, List.length_map, List.length_take]
        have := o.n1
        omega
      refine ⟨zs, eD3, small1000 (by omega), fun u z e => ?_, zs ++ [.ref B], upd_same, ?_⟩
      · rw [upd_ne (ne_of_none e hD)]
        exact s3 _ _ (s2 _ _ (s1 _ _ e))
      · rw [take_map_succ hms]
        have keep : ∀ z n, NdC HO.tup (upd H2 B (.tup us)) z n → NdC HO.tup (upd (upd H2 B (.tup us)) D (.lst (zs ++ [.ref B]))) z n := fun z n h => by
          obtain ⟨c, ts, rfl, ec, ht⟩ := h
          exact ⟨c, ts, rfl, by rw [upd_ne (fun e => by rw [e, eD3] at ec; cases ec)]; exact ec, ht.imp fun y m hh => hh.upd eD3⟩
        exact Each.snoc (hz.imp fun z n hh => keep z n (hh.stayT (Stay.of (s2.trans s3)))) (keep _ _ ⟨B, us, rfl, upd_same, hu.imp fun y m hh => hh.stay (Stay.of s3)⟩)
  · obtain ⟨s1, zs, eD, hz⟩ := p
    rw [List.take_of_length_le (by rw [hx.1]; exact Nat.le_refl _)] at hz
    refine .inl ⟨D, zs, rfl, SqL.of eD, fun B hB => ?_⟩
    have s3 := same_upd (o := .tup zs) hB
    exact q _ _ (s1.trans s3) ⟨B, zs, rfl, upd_same, hz.imp fun z n h => h.stayT (Stay.of s3)⟩
/-! ### numbers -/
def spTN : Sp := fun vs H Q _ => ∃ (m : Addr) (nums : List Int), vs = [.ref m] ∧ H m = some (.tup (nums.map V.int)) ∧ nums.length ≤ 500 ∧ ∀ p H', Same H H' → H' p = some (.tup ((nums.map fun i => -i).map V.int)) → Q (.ref p) H'
theorem ok_turned_numbers (T : Top K mg) : FnOk P w K mg base CX0 1 T.f_turned_numbers T.d_turned_numbers ["numbers"] spTN := by
  refine T.D_turned_numbers.F.ok sc_turned_numbers (fun vs H Q E h => ?_) (fun cdv A outer s H vs Q E hr h => ?_)
  · obtain ⟨m, nums, rfl, _⟩ := h
    rfl
  obtain ⟨m, nums, rfl, em, l5, q⟩ := h
  refine ⟨_, (pss_one (ps_ret (pe_tupleOf rfl T.b_tuple (pe_lc (own := [("number", 1)]) (g := (gName 1)) (tt := tYes) rfl sc_turned_numbers.nd (pi_tup (pv 0)) (blkOk_by (N := N_turned_numbers) (sc := defScope s_turned_numbers) (by decide +kernel)) (fun _ _ _ _ _ => (pg_name (i := 1) sc_turned_numbers.nd rfl (Or.inl rfl))) (fun _ _ _ _ _ => pts_nil) (fun _ _ _ _ _ => (pe_un un_neg (pv 1))))))), ?_⟩
  refine ⟨.ref m, rfl, m, rfl, ⟨_, SqT.of em⟩, fun D hD => lc_tup (xs := nums.map V.int) (fun i H' => Same H H' ∧ H' D = some (.lst (((nums.take i).map fun i => -i).map V.int))) ⟨same_upd hD, upd_same⟩ (fun i H' _ p => SqT.of (p.1 _ _ em)) (fun i x H' hxi p => ?_) (fun H' p => ?_)⟩
  · obtain ⟨s1, eD⟩ := p
    have hi : i < nums.length := by
      have := (List.getElem?_eq_some_iff.mp hxi).1
      rw [List.length_map] at this
      exact this
    obtain ⟨k, hk⟩ : ∃ k, nums[i]? = some k := ⟨_, List.getElem?_eq_getElem hi⟩
    have ex : x = .int k := by
      rw [List.getElem?_map, hk] at hxi
      exact (Option.some.inj hxi).symm
    subst ex
    refine ⟨rfl, .int k, rfl, k, rfl, _, eD, small1000 (by rw [List.length_map, List.length_map, List.length_take]; omega), fun u z e => ?_, ?_⟩
    · rw [upd_ne (ne_of_none e hD)]
      exact s1 _ _ e
    · rw [upd_same, take_map_succ hk, List.map_append]
      rfl
  · obtain ⟨s1, eD⟩ := p
    rw [List.length_map, List.take_length] at eD
    refine .inl ⟨D, _, rfl, SqL.of eD, fun B hB => q B _ (s1.trans (same_upd hB)) upd_same⟩
def IsNums (H : Hp) (v : V) (n : Nat) : Prop := ∃ nums : List Int, tupOf H v = some (nums.map V.int) ∧ nums.length = n
theorem ints_of : ∀ {xs : List V}, (∀ x ∈ xs, ∃ i, x = .int i) → ∃ nums : List Int, xs = nums.map V.int
  | [], _ => ⟨[], rfl⟩
  | x :: r, h => by
    obtain ⟨i, e⟩ := h x List.mem_cons_self
    obtain ⟨ns, f⟩ := ints_of (xs := r) fun y m => h y (List.mem_cons_of_mem _ m)
    exact ⟨i :: ns, by rw [e, f]; rfl⟩
def spIsN : Sp := fun vs H Q _ => ∃ h a xs v, vs = [.ref a, v] ∧ H a = some (.tup xs) ∧ Kn h H v ∧ ∀ (b : Bool) H', Same H H' → (b = true ↔ IsNums H v xs.length) → Q (.bl b) H'
theorem ok_is_numbers (T : Top K mg) : FnOk P w K mg base CX0 2 T.f_is_numbers T.d_is_numbers ["web", "thing"] spIsN := by
  have G_is_whole : FnOk P w K mg base CX0 1 T.f_is_whole T.d_is_whole ["thing"] spWhole := ok_is_whole T
  refine T.D_is_numbers.F.ok sc_is_numbers (fun vs H Q E h => ?_) (fun cdv A outer s H vs Q E hr h => ?_)
  · obtain ⟨h, a, xs, v, rfl, _⟩ := h
    rfl
  obtain ⟨h, a, xs, v, rfl, ea, k, q⟩ := h
  refine ⟨_, (pss_one (ps_ret (pe_and (pe_callB call_isi rfl T.b_isinstance bt_isinstance (pa_cons (pv 1) (pa_cons (pe_bltn (v := .ty "tuple") rfl T.b_tuple bt_tuple rfl) pa_nil))) (pe_and (pe_cmpR op_eq (pe_callB call_len_seq rfl T.b_len bt_len (pa_cons (pv 1) pa_nil)) (pe_callB call_len_seq rfl T.b_len bt_len (pa_cons (pv 0) pa_nil)) (nomark _)) (pe_one (pe_callB (cr_all rfl) rfl T.b_all bt_all (pa_cons (pe_lc (own := [("number", 2)]) (g := (gName 2)) (tt := tYes) rfl sc_is_numbers.nd (pi_tup (pv 1)) (blkOk_by (N := N_is_numbers) (sc := defScope s_is_numbers) (by decide +kernel)) (fun _ _ _ _ _ => (pg_name (i := 2) sc_is_numbers.nd rfl (Or.inl rfl))) (fun _ _ _ _ _ => pts_nil) (fun _ _ _ _ _ => (pe_call G_is_whole (hr.mono (by omega)) rfl T.D_is_whole.g T.D_is_whole.F.kp T.D_is_whole.b .nil pass0 (pa_cons (pv 2) pa_nil)))) pa_nil))))))), ?_⟩
  obtain ⟨t, ht, kt⟩ := k.isi_tup (K := K)
  refine ⟨v, rfl, v, .ty "tuple", t, .type "tuple", _, rfl, .ty "tuple", ht, kt, _, rfl, ite2 (fun c => ?_) (fun c => ?_)⟩
  · obtain ⟨ys, e⟩ := Option.isSome_iff_exists.mp c
    obtain ⟨d, rfl, ed⟩ := tupOf_some e
    refine ⟨.ref d, rfl, d, ys, rfl, .inr (SqT.of ed), .ref a, rfl, a, xs, rfl, .inr (SqT.of ea), rfl, _, rfl, ite2 (fun c1 => ?_) (fun c1 => ?_)⟩
    · have l1 : ys.length = xs.length := by
        have := V.int.inj (of_decide_eq_true c1)
        omega
      refine ⟨.ref d, rfl, d, rfl, ⟨ys, SqT.of ed⟩, fun D hD => lc_tup (xs := ys) (fun i H' => Same H H' ∧ H' D = some (.lst ((ys.take i).map fun x => V.bl (fB (fun x => ∃ i, x = V.int i) x)))) ⟨same_upd hD, upd_same⟩ (fun i H' _ p => SqT.of (p.1 _ _ ed)) (fun i x H' hxi p => ?_) (fun H' p => ?_)⟩
      · obtain ⟨s1, eD⟩ := p
        have mx := List.mem_of_getElem? hxi
        have kx : Kn h H x := (k.items e).2 x mx
        have ly := (k.items e).1
        refine ⟨rfl, x, rfl, h, x, rfl, kx.same s1, fun b hb => ⟨_, eD, ?_, fun u z e => ?_, ?_⟩⟩
        · rw [List.length_map, List.length_take]
          have := (List.getElem?_eq_some_iff.mp hxi).1
          exact small1000 (by omega)
        · rw [upd_ne (ne_of_none e hD)]
          exact s1 _ _ e
        · rw [upd_same, take_map_succ hxi]
          have : b = fB (fun x => ∃ i, x = V.int i) x := by
            rw [Bool.eq_iff_iff, hb, fB_iff]
          rw [this]
      · obtain ⟨s1, eD⟩ := p
        rw [List.take_length] at eD
        refine ⟨D, ys.map (fB fun x => ∃ i, x = V.int i), rfl, SqL.of (by rw [eD, List.map_map]; rfl), q _ _ s1 ?_⟩
        rw [all_fB]
        constructor
        · intro f
          obtain ⟨nums, rfl⟩ := ints_of f
          exact ⟨nums, e, by rw [← l1, List.length_map]⟩
        · rintro ⟨nums, e2, _⟩
          rw [e] at e2
          cases e2
          intro x m
          obtain ⟨i, _, rfl⟩ := List.mem_map.mp m
          exact ⟨i, rfl⟩
    · refine q _ _ (Same.refl H) ⟨fun z => (nomatch z), ?_⟩
      rintro ⟨nums, e2, l2⟩
      rw [e] at e2
      cases e2
      rw [List.length_map, l2] at c1
      exact absurd (decide_eq_true rfl) c1
  · refine q _ _ (Same.refl H) ⟨fun z => (nomatch z), ?_⟩
    rintro ⟨nums, e2, l2⟩
    rw [e2] at c
    exact absurd rfl c
end
end K09

set_option Elab.async false
set_option linter.all false
set_option maxRecDepth 100000
set_option maxHeartbeats 1000000
namespace K09
open PySem PySem.Spec PyProof.Rows L2 LamX NdefX Clo
def WOk (net : Net) : Prop := ∀ ms ∈ net, ∀ m ∈ ms, -1000000 ≤ m.1 ∧ m.1 ≤ 1000000
theorem MvT.isMove {H : Hp} {y : V} {m : Int × Int} {n : Int} (h : MvT H y m) (b : -1000000 ≤ m.1 ∧ m.1 ≤ 1000000) (t : 0 ≤ m.2 ∧ m.2 < n) : IsMove H n y := by
  obtain ⟨d, rfl, e⟩ := h
  exact ⟨_, _, tupOf_ref e, ⟨_, rfl, b.1, b.2⟩, ⟨_, rfl, t.1, by omega⟩⟩
theorem WbC.isWeb {H : Hp} {v : V} {net : Net} (h : WbC HO.tup H v net) (o : NetOk net) (wo : WOk net) : IsWeb H v := by
  obtain ⟨a, xs, rfl, ea, hx⟩ := h
  refine ⟨xs, tupOf_ref ea, by rw [hx.1]; exact ⟨o.n0, o.n1⟩, fun x m => ?_⟩
  obtain ⟨i, hi⟩ := List.getElem?_of_mem m
  have hl : i < net.length := by
    rw [← hx.1]
    exact (List.getElem?_eq_some_iff.mp hi).1
  obtain ⟨ms, hms⟩ : ∃ ms, net[i]? = some ms := ⟨_, List.getElem?_eq_getElem hl⟩
  have mms := List.mem_of_getElem? hms
  obtain ⟨b, ys, rfl, eb, hy⟩ := hx.2 _ _ _ hi hms
  refine ⟨ys, tupOf_ref eb, by rw [hy.1]; exact o.m0 ms mms, fun y my => ?_⟩
  obtain ⟨j, hj⟩ := List.getElem?_of_mem my
  have hl2 : j < ms.length := by
    rw [← hy.1]
    exact (List.getElem?_eq_some_iff.mp hj).1
  obtain ⟨mv, hmv⟩ : ∃ mv, ms[j]? = some mv := ⟨_, List.getElem?_eq_getElem hl2⟩
  have mmv := List.mem_of_getElem? hmv
  have := o.tg ms mms mv mmv
  exact (hy.2 _ _ _ hj hmv).isMove (wo ms mms mv mmv) ⟨this.1, by rw [hx.1]; exact this.2⟩
theorem isMove_kn {h : Addr} {H : Hp} {n : Int} {v : V} (m : IsMove H n v) : Kn h H v := by
  obtain ⟨x, y, e, ⟨i, rfl, _⟩, ⟨j, rfl, _⟩⟩ := m
  obtain ⟨a, rfl, q⟩ := tupOf_some e
  refine .tup a _ q (by show 2 ≤ 1000; decide) fun x m => ?_
  rcases List.mem_cons.mp m with rfl | m
  · exact .int _
  · rw [List.mem_singleton.mp m]
    exact .int _
theorem isWeb_kn {h : Addr} {H : Hp} {v : V} (m : IsWeb H v) : Kn h H v := by
  obtain ⟨xs, e, z, f⟩ := m
  obtain ⟨a, rfl, q⟩ := tupOf_some e
  refine .tup a _ q (by omega) fun x mx => ?_
  obtain ⟨ys, e2, z2, f2⟩ := f x mx
  obtain ⟨b, rfl, q2⟩ := tupOf_some e2
  exact .tup b _ q2 (by omega) fun y my => isMove_kn (f2 y my)
theorem mapNet_mem {g : Int × Int → Int × Int} {net : Net} {ms : List (Int × Int)} (m : ms ∈ mapNet g net) : ∃ ms0 ∈ net, ms = ms0.map g := by
  obtain ⟨a, b, c⟩ := List.mem_map.mp m
  exact ⟨a, b, c.symm⟩
theorem NetOk.map {net : Net} (o : NetOk net) {g : Int × Int → Int × Int} (hg : ∀ m, (g m).2 = m.2) : NetOk (mapNet g net) := by
  have hl : (mapNet g net).length = net.length := List.length_map _
  refine ⟨by rw [hl]; exact o.n0, by rw [hl]; exact o.n1, fun ms m => ?_, fun ms m mv hm => ?_⟩
  · obtain ⟨ms0, m0, rfl⟩ := mapNet_mem m
    rw [List.length_map]
    exact o.m0 ms0 m0
  · obtain ⟨ms0, m0, rfl⟩ := mapNet_mem m
    obtain ⟨mv0, h0, rfl⟩ := List.mem_map.mp hm
    rw [hl, hg]
    exact o.tg ms0 m0 mv0 h0
section
variable {P : Program} {w : World} {K : PySem.W.Frag} {mg : Str → Option Value} {base : Heap}
def spChW : Sp := fun vs H Q _ => ∃ (v : V), vs = [v] ∧ IsWeb H v ∧ ∀ H', Same H H' → Q .non H'
theorem ok_check_web (T : Top K mg) : FnOk P w K mg base CX0 6 T.f_check_web T.d_check_web ["thing"] spChW := by
  have G_is_web : FnOk P w K mg base CX0 5 T.f_is_web T.d_is_web ["thing"] spWeb := ok_is_web T
  refine T.D_check_web.F.ok sc_check_web (fun vs H Q E h => ?_) (fun cdv A outer s H vs Q E hr h => ?_)
  · obtain ⟨v, rfl, _⟩ := h
    rfl
  obtain ⟨v, rfl, iw, q⟩ := h
  refine ⟨_, (pss_one (ps_if (pt_not (pt_val (pe_call G_is_web (hr.mono (by omega)) rfl T.D_is_web.g T.D_is_web.F.kp T.D_is_web.b .nil pass0 (pa_cons (pv 0) pa_nil))))
      (pss_one ps_dead)
      pss_nil)), ?_⟩
  refine ⟨v, rfl, 0, v, rfl, isWeb_kn iw, fun b H' s' hb => ⟨b, rfl, ite2 (fun c => ?_) (fun c => ?_)⟩⟩
  · rw [hb.mpr iw] at c
    cases c
  · exact q H' s'
def spChF : Sp := fun vs H Q _ => ∃ (f : Addr) (a b : Int), vs = [.ref f] ∧ H f = some (.tup [.int a, .int b]) ∧ 1 ≤ b ∧ Q .non H
theorem ok_check_fraction (T : Top K mg) : FnOk P w K mg base CX0 2 T.f_check_fraction T.d_check_fraction ["thing"] spChF := by
  have G_is_pair : FnOk P w K mg base CX0 1 T.f_is_pair T.d_is_pair ["thing"] spPair := ok_is_pair T
  have G_is_whole : FnOk P w K mg base CX0 1 T.f_is_whole T.d_is_whole ["thing"] spWhole := ok_is_whole T
  refine T.D_check_fraction.F.ok sc_check_fraction (fun vs H Q E h => ?_) (fun cdv A outer s H vs Q E hr h => ?_)
  · obtain ⟨f, a, b, rfl, _⟩ := h
    rfl
  obtain ⟨f, a, b, rfl, ef, b1, q⟩ := h
  refine ⟨_, (pss_one (ps_if (pt_not (PW.pt (pw_and (pt_val (pe_call G_is_pair (hr.mono (by omega)) rfl T.D_is_pair.g T.D_is_pair.F.kp T.D_is_pair.b .nil pass0 (pa_cons (pv 0) pa_nil))) (pw_and (pt_val (pe_call G_is_whole (hr.mono (by omega)) rfl T.D_is_whole.g T.D_is_whole.F.kp T.D_is_whole.b .nil pass0 (pa_cons (pe_ix ix_tup (pv 0) pe_int (fun _ _ => rfl)) pa_nil))) (pw_and (pt_val (pe_call G_is_whole (hr.mono (by omega)) rfl T.D_is_whole.g T.D_is_whole.F.kp T.D_is_whole.b .nil pass0 (pa_cons (pe_ix ix_tup (pv 0) pe_int (fun _ _ => rfl)) pa_nil))) (pw_and1 (pt_cmpR op_ge (pe_ix ix_tup (pv 0) pe_int (fun _ _ => rfl)) pe_int (nomark _))))))))
      (pss_one ps_dead)
      pss_nil)), ?_⟩
  have kf : Kn 0 H (.ref f) := .tup f _ ef (by show 2 ≤ 1000; decide) fun x m => by
    rcases List.mem_cons.mp m with rfl | m
    · exact .int _
    · rw [List.mem_singleton.mp m]
      exact .int _
  refine ⟨.ref f, rfl, 0, .ref f, rfl, kf, fun c0 h0 => ⟨c0, rfl, ?_⟩⟩
  have e0 : c0 = true := h0.mpr ⟨_, _, tupOf_ref ef⟩
  subst e0
  refine iteT ⟨.ref f, rfl, f, _, 0, .int a, rfl, rfl, SqT.of ef, atI_nat (j := 0) rfl, 0, .int a, rfl, .int a, fun c1 h1 => ⟨c1, rfl, ?_⟩⟩
  have e1 : c1 = true := h1.mpr ⟨a, rfl⟩
  subst e1
  refine iteT ⟨.ref f, rfl, f, _, 1, .int b, rfl, rfl, SqT.of ef, atI_nat (j := 1) rfl, 0, .int b, rfl, .int b, fun c2 h2 => ⟨c2, rfl, ?_⟩⟩
  have e2 : c2 = true := h2.mpr ⟨b, rfl⟩
  subst e2
  refine iteT ⟨.ref f, rfl, f, _, 1, .int b, rfl, rfl, SqT.of ef, atI_nat (j := 1) rfl, b, 1, rfl, rfl, _, rfl, ite2 (fun c => ?_) (fun c => q)⟩
  have : decide (b ≥ 1) = true := decide_eq_true b1
  rw [this] at c
  cases c
/-! ### caps, bears -/
def Capped (H : Hp) (net : Net) (thing : V) : Prop := ∃ nums : List Int, tupOf H thing = some (nums.map V.int) ∧ nums.length = net.length ∧ Holds net nums
def Borne (H : Hp) (net : Net) (thing : V) : Prop := ∃ nums : List Int, tupOf H thing = some (nums.map V.int) ∧ nums.length = net.length ∧ Holds (mapNet ngt net) (nums.map fun i => -i)
def spCaps (R : Hp → Net → V → Prop) (Pw : Addr) : Sp := fun vs H Q _ => ∃ (h : Addr) (v : V) (f : Addr) (thing : V) (a b : Int) (net : Net), vs = [v, .ref f, thing] ∧ WbC HO.tup H v net ∧ NetOk net ∧ WOk net ∧ H f = some (.tup [.int a, .int b]) ∧ 1 ≤ b ∧ Kn h H thing ∧ Tabs [(Pw, lamQ)] H ∧
  ∀ (c : Bool) H', ExtN H H' → Tabs [(Pw, lamQ)] H' → (c = true ↔ R H (mapNet (wgt a b) net) thing) → Q (.bl c) H'
theorem ok_caps (T : Top K mg) {cw Pw : Addr} (W : WalkAt K T.f_walk_steps T.d_walk_steps cw) (TB : TabB base mg cw Pw) : FnOk P w K mg base CX0 7 T.f_caps T.d_caps ["web", "fraction", "thing"] (spCaps Capped Pw) := by
  have G_check_web : FnOk P w K mg base CX0 6 T.f_check_web T.d_check_web ["thing"] spChW := ok_check_web T
  have G_check_fraction : FnOk P w K mg base CX0 2 T.f_check_fraction T.d_check_fraction ["thing"] spChF := ok_check_fraction T
  have G_is_numbers : FnOk P w K mg base CX0 2 T.f_is_numbers T.d_is_numbers ["web", "thing"] spIsN := ok_is_numbers T
  have G_weighed : FnOk P w K mg base CX0 1 T.f_weighed T.d_weighed ["web", "fraction"] spWgt := ok_weighed T
  have GH : ∀ net, NetOk net → FnOk P w K mg base CX0 5 T.f_holds_up T.d_holds_up ["web", "numbers"] (spHolds HO.lst Pw net) := fun net o => ok_holdsL T W TB o
  have G_holds_up : FnOk P w K mg base CX0 5 T.f_holds_up T.d_holds_up ["web", "numbers"] (fun vs H Q E => ∃ net, NetOk net ∧ spHolds HO.lst Pw net vs H Q E) :=
    ⟨fun vs H Q E ⟨net, o, h⟩ => (GH net o).len vs H Q E h, fun A outer s H args us vs Q E hr he hb hv ⟨net, o, h⟩ => (GH net o).run A outer s H args us vs Q E hr he hb hv h⟩
  refine T.D_caps.F.ok sc_caps (fun vs H Q E h => ?_) (fun cdv A outer s H vs Q E hr h => ?_)
  · obtain ⟨h, v, f, thing, a, b, net, rfl, _⟩ := h
    rfl
  obtain ⟨h, v, f, thing, a, b, net, rfl, wb, o, wo, ef, b1, kt, hT, q⟩ := h
  refine ⟨_, (pss_cons (ps_expr (pe_call G_check_web (hr.mono (by omega)) rfl T.D_check_web.g T.D_check_web.F.kp T.D_check_web.b .nil pass0 (pa_cons (pv 0) pa_nil)))
    (pss_cons (ps_expr (pe_call G_check_fraction (hr.mono (by omega)) rfl T.D_check_fraction.g T.D_check_fraction.F.kp T.D_check_fraction.b .nil pass0 (pa_cons (pv 1) pa_nil)))
    (pss_one (ps_ret (pe_and (pe_call G_is_numbers (hr.mono (by omega)) rfl T.D_is_numbers.g T.D_is_numbers.F.kp T.D_is_numbers.b .nil pass0 (pa_cons (pv 0) (pa_cons (pv 2) pa_nil))) (pe_one (pe_call G_holds_up (hr.mono (by omega)) rfl T.D_holds_up.g T.D_holds_up.F.kp T.D_holds_up.b .nil pass0 (pa_cons (pe_call G_weighed (hr.mono (by omega)) rfl T.D_weighed.g T.D_weighed.F.kp T.D_weighed.b .nil pass0 (pa_cons (pv 0) (pa_cons (pv 1) pa_nil))) (pa_cons (pv 2) pa_nil))))))))), ?_⟩
  refine ⟨v, rfl, v, rfl, wb.isWeb o wo, fun H1 s1 => ⟨.ref f, rfl, f, a, b, rfl, s1 _ _ ef, b1, ?_⟩⟩
  have wb1 := wb.stayT (Stay.of s1)
  obtain ⟨wa, xs, rfl, ea1, hx⟩ := id wb1
  have kt1 := kt.same s1
  refine ⟨.ref wa, rfl, thing, rfl, h, wa, xs, thing, rfl, ea1, kt1, fun c H2 s2 hc => ⟨c, rfl, ite2 (fun z => ?_) (fun z => ?_)⟩⟩
  · obtain ⟨nums, en, ln⟩ := hc.mp z
    have s12 := s1.trans s2
    have en0 : tupOf H thing = some (nums.map V.int) := by
      rw [← kt.tupOf_same s1]
      exact en
    obtain ⟨d, rfl, ed⟩ := tupOf_some en
    have hT2 := hT.ext s12
    refine ⟨.ref wa, rfl, .ref f, rfl, .ref wa, f, a, b, net, rfl, wb1.stayT (Stay.of s2), o, s12 _ _ ef, wo, fun u H3 s3 wb3 => ⟨.ref d, rfl, mapNet (wgt a b) net, o.map (fun _ => rfl), u, d, nums, rfl, wb3, s3 _ _ (s2 _ _ ed), ?_, hT2.ext s3, fun c2 H4 x4 hT4 hc2 => q c2 H4 ((ExtN.of (s12.trans s3)).trans x4) hT4 ?_⟩⟩
    · rw [ln, hx.1]
      exact (List.length_map _).symm
    · rw [hc2]
      constructor
      · intro hh
        exact ⟨nums, en0, by rw [ln, hx.1]; exact (List.length_map _).symm, hh⟩
      · rintro ⟨nums2, e2, _, hh⟩
        rw [en0] at e2
        have : nums = nums2 := (List.map_inj_right (fun x y h => V.int.inj h)).mp (Option.some.inj e2)
        rw [this]
        exact hh
  · refine q _ _ (ExtN.of (s1.trans s2)) (hT.ext (s1.trans s2)) ⟨fun d => (nomatch d), ?_⟩
    rintro ⟨nums, en, ln, _⟩
    refine absurd (hc.mpr ⟨nums, ?_, ?_⟩) z
    · rw [kt.tupOf_same s1]
      exact en
    · rw [ln, hx.1]
      exact List.length_map _
theorem ok_bears (T : Top K mg) {cw Pw : Addr} (W : WalkAt K T.f_walk_steps T.d_walk_steps cw) (TB : TabB base mg cw Pw) : FnOk P w K mg base CX0 7 T.f_bears T.d_bears ["web", "fraction", "thing"] (spCaps Borne Pw) := by
  have G_check_web : FnOk P w K mg base CX0 6 T.f_check_web T.d_check_web ["thing"] spChW := ok_check_web T
  have G_check_fraction : FnOk P w K mg base CX0 2 T.f_check_fraction T.d_check_fraction ["thing"] spChF := ok_check_fraction T
  have G_is_numbers : FnOk P w K mg base CX0 2 T.f_is_numbers T.d_is_numbers ["web", "thing"] spIsN := ok_is_numbers T
  have G_weighed : FnOk P w K mg base CX0 1 T.f_weighed T.d_weighed ["web", "fraction"] spWgt := ok_weighed T
  have G_turned : FnOk P w K mg base CX0 1 T.f_turned T.d_turned ["web"] spTrn := ok_turned T
  have G_turned_numbers : FnOk P w K mg base CX0 1 T.f_turned_numbers T.d_turned_numbers ["numbers"] spTN := ok_turned_numbers T
  have GH : ∀ net, NetOk net → FnOk P w K mg base CX0 5 T.f_holds_up T.d_holds_up ["web", "numbers"] (spHolds HO.tup Pw net) := fun net o => ok_holdsT_ T W TB o
  have G_holds_up : FnOk P w K mg base CX0 5 T.f_holds_up T.d_holds_up ["web", "numbers"] (fun vs H Q E => ∃ net, NetOk net ∧ spHolds HO.tup Pw net vs H Q E) :=
    ⟨fun vs H Q E ⟨net, o, h⟩ => (GH net o).len vs H Q E h, fun A outer s H args us vs Q E hr he hb hv ⟨net, o, h⟩ => (GH net o).run A outer s H args us vs Q E hr he hb hv h⟩
  refine T.D_bears.F.ok sc_bears (fun vs H Q E h => ?_) (fun cdv A outer s H vs Q E hr h => ?_)
  · obtain ⟨h, v, f, thing, a, b, net, rfl, _⟩ := h
    rfl
  obtain ⟨h, v, f, thing, a, b, net, rfl, wb, o, wo, ef, b1, kt, hT, q⟩ := h
  refine ⟨_, (pss_cons (ps_expr (pe_call G_check_web (hr.mono (by omega)) rfl T.D_check_web.g T.D_check_web.F.kp T.D_check_web.b .nil pass0 (pa_cons (pv 0) pa_nil)))
    (pss_cons (ps_expr (pe_call G_check_fraction (hr.mono (by omega)) rfl T.D_check_fraction.g T.D_check_fraction.F.kp T.D_check_fraction.b .nil pass0 (pa_cons (pv 1) pa_nil)))
    (pss_one (ps_ret (pe_and (pe_call G_is_numbers (hr.mono (by omega)) rfl T.D_is_numbers.g T.D_is_numbers.F.kp T.D_is_numbers.b .nil pass0 (pa_cons (pv 0) (pa_cons (pv 2) pa_nil))) (pe_one (pe_call G_holds_up (hr.mono (by omega)) rfl T.D_holds_up.g T.D_holds_up.F.kp T.D_holds_up.b .nil pass0 (pa_cons (pe_call G_turned (hr.mono (by omega)) rfl T.D_turned.g T.D_turned.F.kp T.D_turned.b .nil pass0 (pa_cons (pe_call G_weighed (hr.mono (by omega)) rfl T.D_weighed.g T.D_weighed.F.kp T.D_weighed.b .nil pass0 (pa_cons (pv 0) (pa_cons (pv 1) pa_nil))) pa_nil)) (pa_cons (pe_call G_turned_numbers (hr.mono (by omega)) rfl T.D_turned_numbers.g T.D_turned_numbers.F.kp T.D_turned_numbers.b .nil pass0 (pa_cons (pv 2) pa_nil)) pa_nil))))))))), ?_⟩
  refine ⟨v, rfl, v, rfl, wb.isWeb o wo, fun H1 s1 => ⟨.ref f, rfl, f, a, b, rfl, s1 _ _ ef, b1, ?_⟩⟩
  have wb1 := wb.stayT (Stay.of s1)
  obtain ⟨wa, xs, rfl, ea1, hx⟩ := id wb1
  have kt1 := kt.same s1
  refine ⟨.ref wa, rfl, thing, rfl, h, wa, xs, thing, rfl, ea1, kt1, fun c H2 s2 hc => ⟨c, rfl, ite2 (fun z => ?_) (fun z => ?_)⟩⟩
  · obtain ⟨nums, en, ln⟩ := hc.mp z
    have s12 := s1.trans s2
    have en0 : tupOf H thing = some (nums.map V.int) := by
      rw [← kt.tupOf_same s1]
      exact en
    obtain ⟨d, rfl, ed⟩ := tupOf_some en
    have hT2 := hT.ext s12
    have lnn : nums.length = net.length := by rw [ln, hx.1]
    refine ⟨.ref wa, rfl, .ref f, rfl, .ref wa, f, a, b, net, rfl, wb1.stayT (Stay.of s2), o, s12 _ _ ef, wo, fun u H3 s3 wb3 => ⟨u, mapNet (wgt a b) net, rfl, wb3, o.map (fun _ => rfl), fun u2 H4 s4 wb4 => ?_⟩⟩
    refine ⟨.ref d, rfl, d, nums, rfl, s4 _ _ (s3 _ _ (s2 _ _ ed)), by have := o.n1; omega, fun p H5 s5 e5 => ?_⟩
    have s25 := s3.trans (s4.trans s5)
    refine ⟨mapNet ngt (mapNet (wgt a b) net), (o.map (g := wgt a b) (fun _ => rfl)).map (fun _ => rfl), u2, p, nums.map (fun i => -i), rfl, wb4.stayT (Stay.of s5), e5, ?_, hT2.ext s25, fun c2 H6 x6 hT6 hc2 => q c2 H6 ((ExtN.of (s12.trans s25)).trans x6) hT6 ?_⟩
    · unfold mapNet
      rw [List.length_map, List.length_map, List.length_map, lnn]
    · rw [hc2]
      constructor
      · intro hh
        exact ⟨nums, en0, by rw [lnn]; exact (List.length_map _).symm, hh⟩
      · rintro ⟨nums2, e2, _, hh⟩
        rw [en0] at e2
        have : nums = nums2 := (List.map_inj_right (fun x y h => V.int.inj h)).mp (Option.some.inj e2)
        rw [this]
        exact hh
  · refine q _ _ (ExtN.of (s1.trans s2)) (hT.ext (s1.trans s2)) ⟨fun d => (nomatch d), ?_⟩
    rintro ⟨nums, en, ln, _⟩
    refine absurd (hc.mpr ⟨nums, ?_, ?_⟩) z
    · rw [kt.tupOf_same s1]
      exact en
    · rw [ln, hx.1]
      exact List.length_map _
end
end K09

set_option Elab.async false
set_option linter.all false
set_option maxRecDepth 100000
set_option maxHeartbeats 1000000
namespace K09
open PySem PySem.Spec PyProof.Rows L2 LamX NdefX Clo
/-! ### the deck -/
def Deck (d : Addr) (t : Int) (H : Hp) : Prop := ∃ c s n : Int, H d = some (.lst [.int c, .int s, .int n]) ∧ 0 ≤ n ∧ n ≤ t
theorem Deck.isL {d : Addr} {t : Int} {H : Hp} (a : Deck d t H) : IsL d H := by
  obtain ⟨c, s, n, e, _⟩ := a
  exact ⟨_, e⟩
theorem Deck.same {d : Addr} {t : Int} {H H' : Hp} (s : Same H H') (a : Deck d t H) : Deck d t H' := by
  obtain ⟨c, s1, n, e, r⟩ := a
  exact ⟨c, s1, n, s _ _ e, r⟩
theorem Deck.mono {d : Addr} {t u : Int} {H : Hp} (a : Deck d t H) (h : t ≤ u) : Deck d u H := by
  obtain ⟨c, s1, n, e, r1, r2⟩ := a
  exact ⟨c, s1, n, e, r1, by omega⟩
theorem Deck.ne {d f : Addr} {t : Int} {H : Hp} (a : Deck d t H) (n : H f = none) : f ≠ d := by
  obtain ⟨c, s1, k, e, _⟩ := a
  exact fun z => by
    rw [z, e] at n
    cases n
theorem Deck.other {d f : Addr} {t : Int} {H : Hp} {o : HO} (a : Deck d t H) (n : f ≠ d) : Deck d t (upd H f o) := by
  obtain ⟨c, s1, k, e, r⟩ := a
  exact ⟨c, s1, k, by rw [upd_ne n.symm]; exact e, r⟩
theorem But.back {h f : Addr} {H H' : Hp} (b : But h H H') (nh : f ≠ h) (n : H' f = none) : H f = none := by
  cases q : H f with
  | none => rfl
  | some o =>
    rw [b f o nh q] at n
    cases n
theorem But.at_new {h f : Addr} {H H' : Hp} {o : HO} (b : But h H H') (n : H f = none) : But h H (upd H' f o) := fun a u na e => by
  rw [upd_ne (ne_of_none e n)]
  exact b a u na e
theorem but_upd {h : Addr} {H : Hp} {o : HO} : But h H (upd H h o) := fun a u n e => by rw [upd_ne n]; exact e
theorem atI_mem {xs : List V} {r : Int} (h0 : 0 ≤ r) (h1 : r < xs.length) : ∃ v, v ∈ xs ∧ atI xs r = some v := by
  have h : r.toNat < xs.length := by omega
  have e : ((r.toNat : Nat) : Int) = r := Int.toNat_of_nonneg h0
  refine ⟨xs[r.toNat], List.getElem_mem h, ?_⟩
  have := atI_nat (xs := xs) (j := r.toNat) (List.getElem?_eq_getElem h)
  rw [e] at this
  exact this
section
variable {P : Program} {w : World} {K : PySem.W.Frag} {mg : Str → Option Value} {base : Heap}
def spOpen (K : PySem.W.Frag) : Sp := fun vs H Q _ => ∃ (a : Addr) (ns : List Int) (k : Nat), vs = [.ref a, .int k] ∧ SqL K H a (ns.map V.int) ∧ ∀ d H', Same H H' → H d = none → Deck d 0 H' → Q (.ref d) H'
theorem ok__law_open (T : Top K mg) : FnOk P w K mg base CX0 1 T.f__law_open T.d__law_open ["_law_script", "_law_k"] (spOpen K) := by
  refine T.D__law_open.F.ok sc__law_open (fun vs H Q E h => ?_) (fun cdv A outer s H vs Q E hr h => ?_)
  · obtain ⟨a, ns, k, rfl, _⟩ := h
    rfl
  obtain ⟨a, ns, k, rfl, hS, q⟩ := h
  refine ⟨_, (C8.pss_cut (ps_set (i := 2) sc__law_open.nd rfl (.inl rfl) pe_int)
    (C8.pss_cut (ps_if (pt_cmpR op_lt (pv 1) (pe_callB call_len_seq rfl T.b_len bt_len (pa_cons (pv 0) pa_nil)) (nomark _))
      (pss_one (ps_set (i := 2) sc__law_open.nd rfl (.inl rfl) (pe_ix ix_list (pv 0) (pv 1) (fun _ _ => rfl))))
      pss_nil)
    (C8.pss_cut (ps_set (i := 3) sc__law_open.nd rfl (.inl rfl) (pe_op op_add (pe_op op_add (pe_op op_mod (pe_callTy call_int1 rfl T.b_int bt_int (pa_cons (pe_op op_add (pe_op op_mul pe_int (pe_callB call_abs rfl T.b_abs bt_abs (pa_cons (pv 2) pa_nil))) (pe_callTy call_int1 rfl T.b_int bt_int (pa_cons (pe_cmpR op_lt (pv 2) pe_int (nomark _)) pa_nil))) pa_nil)) (pe_op op_add (pe_op op_pow pe_int pe_int) pe_int)) (pe_op op_mul pe_int (pv 1))) pe_int))
    (pss_one (ps_ret (pe_lst (pa_cons (pe_callB (call_max2 rfl) rfl T.b_max bt_max (pa_cons pe_int (pa_cons (pe_op op_sub (pv 2) (pe_op op_pow pe_int pe_int)) pa_nil))) (pa_cons (pv 3) (pa_cons pe_int pa_nil))))))))), ?_⟩
  refine ⟨fun σ H' => σ = [some (.ref a), some (.int k), some (.int 0), none] ∧ H' = H, ⟨rfl, rfl⟩, ?_⟩
  rintro σ H1 ⟨rfl, rfl⟩
  refine ⟨fun σ H' => ∃ cell : Int, σ = [some (.ref a), some (.int k), some (.int cell), none] ∧ H' = H1, ?_, ?_⟩
  · refine ⟨.int k, rfl, .ref a, rfl, a, _, rfl, .inl hS, k, _, rfl, rfl, _, rfl, ite2 (fun c => ?_) (fun c => ⟨0, rfl, rfl⟩)⟩
    have hk : k < ns.length := by
      have := of_decide_eq_true c
      rw [List.length_map] at this
      omega
    exact ⟨.ref a, rfl, .int k, rfl, a, _, k, .int ns[k], rfl, rfl, hS, atI_nat (j := k) (by rw [List.getElem?_map, List.getElem?_eq_getElem hk]; rfl), ns[k], rfl, rfl⟩
  rintro σ H2 ⟨cell, rfl, rfl⟩
  refine ⟨fun σ H' => ∃ seed : Int, σ = [some (.ref a), some (.int k), some (.int cell), some (.int seed)] ∧ H' = H2, ?_, ?_⟩
  · refine ⟨.int cell, rfl, cell, rfl, 2, _, rfl, rfl, .inl ⟨by decide, by decide⟩, .int cell, rfl, cell, 0, rfl, rfl, .inr ⟨_, rfl, _, _, rfl, rfl, .inl ⟨_, rfl, 10, 39, rfl, rfl, ⟨by decide, by decide, by decide⟩, _, 3, rfl, rfl, _, _, rfl, rfl, (by show (0 : Int) < 10 ^ 39 + 3; decide), .int k, rfl, 5, k, rfl, rfl, .inl ⟨by decide, by decide⟩, _, _, rfl, rfl, _, 1, rfl, rfl, ?_⟩⟩⟩
    exact ⟨_, rfl, rfl⟩
  rintro σ H3 ⟨seed, rfl, rfl⟩
  refine ⟨.int cell, rfl, 10, 18, rfl, rfl, ⟨by decide, by decide, by decide⟩, cell, _, rfl, rfl, 0, _, rfl, .int seed, rfl, (by show 3 ≤ sizeLine; decide), fun d hd => ?_⟩
  exact q d _ (same_upd hd) hd ⟨_, _, 0, upd_same, Int.le_refl 0, Int.le_refl 0⟩
def spDraw : Sp := fun vs H Q _ => ∃ (d : Addr) (t many : Int), vs = [.ref d, .int many] ∧ 0 < many ∧ many ≤ 1000000000 ∧ t ≤ 1000000000 ∧ Deck d t H ∧ ∀ r H', 0 ≤ r → r < many → But d H H' → Deck d (t + 1) H' → Q (.int r) H'
theorem ok_draw (T : Top K mg) : FnOk P w K mg base CX0 1 T.f__law_draw T.d__law_draw ["_law_deck", "_law_many"] spDraw := by
  refine T.D__law_draw.F.ok sc__law_draw (fun vs H Q E h => ?_) (fun cdv A outer s H vs Q E hr h => ?_)
  · obtain ⟨d, t, many, rfl, _⟩ := h
    rfl
  obtain ⟨d, t, many, rfl, hpos, hm, ht, ⟨c, sd, n, ed, n0, n1⟩, q⟩ := h
  refine ⟨_, (pss_cons (ps_if (pt_cmpR op_gt (pe_ix ix_list (pv 0) pe_int (fun _ _ => rfl)) pe_int (nomark _))
      (pss_cons (ps_set (i := 2) sc__law_draw.nd rfl (.inl rfl) (pe_op op_mod (pe_callTy call_int1 rfl T.b_int bt_int (pa_cons (pe_ix ix_list (pv 0) pe_int (fun _ _ => rfl)) pa_nil)) (pv 1)))
      (pss_cons (ps_asg (pe_op op_fdiv (pe_ix ix_list (pv 0) pe_int (fun _ _ => rfl)) (pv 1)) (pg_sub (pv 0) pe_int set_list))
      (pss_one (ps_ret (pv 2)))))
      pss_nil)
    (C8.pss_cut (ps_asg (pe_op op_add (pe_ix ix_list (pv 0) pe_int (fun _ _ => rfl)) pe_int) (pg_sub (pv 0) pe_int set_list))
    (C8.pss_cut (ps_set (i := 3) sc__law_draw.nd rfl (.inl rfl) (pe_op op_mod (pe_callTy call_int1 rfl T.b_int bt_int (pa_cons (pe_op op_add (pe_op op_mul (pe_ix ix_list (pv 0) pe_int (fun _ _ => rfl)) (pe_op op_add pe_int (pe_op op_mul pe_int (pe_ix ix_list (pv 0) pe_int (fun _ _ => rfl))))) (pe_op op_mul (pe_op op_mul pe_int (pe_ix ix_list (pv 0) pe_int (fun _ _ => rfl))) (pe_ix ix_list (pv 0) pe_int (fun _ _ => rfl)))) pa_nil)) pe_int))
    (C8.pss_cut (ps_set (i := 3) sc__law_draw.nd rfl (.inl rfl) (pe_op op_mod (pe_callTy call_int1 rfl T.b_int bt_int (pa_cons (pe_op op_add (pe_op op_add (pe_op op_mul (pv 3) (pv 3)) (pe_op op_mul pe_int (pe_ix ix_list (pv 0) pe_int (fun _ _ => rfl)))) (pe_ix ix_list (pv 0) pe_int (fun _ _ => rfl))) pa_nil)) pe_int))
    (C8.pss_cut (ps_set (i := 3) sc__law_draw.nd rfl (.inl rfl) (pe_op op_mod (pe_callTy call_int1 rfl T.b_int bt_int (pa_cons (pe_op op_add (pe_op op_mul (pe_op op_mul (pv 3) (pv 3)) (pv 3)) (pe_op op_mul pe_int (pe_ix ix_list (pv 0) pe_int (fun _ _ => rfl)))) pa_nil)) pe_int))
    (pss_one (ps_ret (pe_op op_mod (pe_callTy call_int1 rfl T.b_int bt_int (pa_cons (pe_op op_fdiv (pv 3) pe_int) pa_nil)) (pv 1))))))))), ?_⟩
  have hL : SqL K H d _ := SqL.of ed
  refine ⟨.ref d, rfl, d, _, 0, .int c, rfl, rfl, hL, atI_nat (j := 0) rfl, c, 0, rfl, rfl, _, rfl, ite2 (fun _ => ?_) (fun _ => ?_)⟩
  · refine ⟨.ref d, rfl, d, _, 0, .int c, rfl, rfl, hL, atI_nat (j := 0) rfl, .inl ⟨c, rfl, .int many, rfl, c, many, rfl, rfl, hpos, ?_⟩⟩
    refine ⟨.ref d, rfl, d, _, 0, .int c, rfl, rfl, hL, atI_nat (j := 0) rfl, .int many, rfl, c, many, rfl, rfl, ⟨hpos, by omega⟩, .ref d, rfl, d, _, 0, 0, rfl, rfl, ed, rfl, _, rfl, ?_⟩
    exact q _ _ (Int.emod_nonneg _ (by omega)) (Int.emod_lt_of_pos _ hpos) but_upd ⟨_, _, n, upd_same, n0, by omega⟩
  refine ⟨fun σ H' => σ = [some (.ref d), some (.int many), none, none] ∧ But d H H' ∧ H' d = some (.lst [.int c, .int sd, .int (n + 1)]), ?_, ?_⟩
  · refine ⟨.ref d, rfl, d, _, 2, .int n, rfl, rfl, hL, atI_nat (j := 2) rfl, n, 1, rfl, rfl, .ref d, rfl, d, _, 2, 2, rfl, rfl, ed, rfl, ?_⟩
    exact ⟨rfl, but_upd, upd_same⟩
  rintro σ H1 ⟨rfl, b1, ed1⟩
  have hL1 : SqL K H1 d _ := SqL.of ed1
  refine ⟨fun σ H' => ∃ m : Int, σ = [some (.ref d), some (.int many), none, some (.int m)] ∧ (0 ≤ m ∧ m < 1000000000000000003) ∧ H' = H1, ?_, ?_⟩
  · refine ⟨.ref d, rfl, d, _, 1, .int sd, rfl, rfl, hL1, atI_nat (j := 1) rfl, .ref d, rfl, d, _, 2, .int (n + 1), rfl, rfl, hL1, atI_nat (j := 2) rfl, 2, _, rfl, rfl, .inl ⟨by decide, by decide⟩, _, _, rfl, rfl, _, _, rfl, rfl, .inr ⟨by omega, by omega⟩,
      .ref d, rfl, d, _, 2, .int (n + 1), rfl, rfl, hL1, atI_nat (j := 2) rfl, 104729, _, rfl, rfl, .inl ⟨by decide, by decide⟩, .ref d, rfl, d, _, 2, .int (n + 1), rfl, rfl, hL1, atI_nat (j := 2) rfl, _, n + 1, rfl, rfl, .inr ⟨by omega, by omega⟩, _, _, rfl, rfl, .inl ⟨_, rfl, _, 1000000000000000003, rfl, rfl, (by show (0 : Int) < 1000000000000000003; decide), ?_⟩⟩
    exact ⟨_, rfl, ⟨Int.emod_nonneg _ (by decide), Int.emod_lt_of_pos _ (by decide)⟩, rfl⟩
  rintro σ H2 ⟨m, rfl, ⟨m0, m1⟩, rfl⟩
  refine ⟨fun σ H' => ∃ m : Int, σ = [some (.ref d), some (.int many), none, some (.int m)] ∧ (0 ≤ m ∧ m < 2305843009213693951) ∧ H' = H2, ?_, ?_⟩
  · refine ⟨.int m, rfl, .int m, rfl, m, m, rfl, rfl, .inl ⟨by omega, by omega⟩, .ref d, rfl, d, _, 2, .int (n + 1), rfl, rfl, hL1, atI_nat (j := 2) rfl, 611953, _, rfl, rfl, .inl ⟨by decide, by decide⟩, _, _, rfl, rfl, .ref d, rfl, d, _, 1, .int sd, rfl, rfl, hL1, atI_nat (j := 1) rfl, _, _, rfl, rfl, .inl ⟨_, rfl, _, 2305843009213693951, rfl, rfl, (by show (0 : Int) < 2305843009213693951; decide), ?_⟩⟩
    exact ⟨_, rfl, ⟨Int.emod_nonneg _ (by decide), Int.emod_lt_of_pos _ (by decide)⟩, rfl⟩
  rintro σ H3 ⟨m', rfl, ⟨k0, k1⟩, rfl⟩
  refine ⟨fun σ H' => ∃ m : Int, σ = [some (.ref d), some (.int many), none, some (.int m)] ∧ H' = H3, ?_, ?_⟩
  · refine ⟨.int m', rfl, .int m', rfl, m', m', rfl, rfl, .inl ⟨by omega, by omega⟩, .int m', rfl, _, m', rfl, rfl, .inr ⟨by omega, by omega⟩, .ref d, rfl, d, _, 2, .int (n + 1), rfl, rfl, hL1, atI_nat (j := 2) rfl, 7368787, _, rfl, rfl, .inl ⟨by decide, by decide⟩, _, _, rfl, rfl, .inl ⟨_, rfl, _, 1000000000000000009, rfl, rfl, (by show (0 : Int) < 1000000000000000009; decide), ?_⟩⟩
    exact ⟨_, rfl, rfl⟩
  rintro σ H4 ⟨m2, rfl, rfl⟩
  refine ⟨.int m2, rfl, m2, 1031, rfl, rfl, ⟨by decide, by decide⟩, .inl ⟨_, rfl, .int many, rfl, _, many, rfl, rfl, hpos, ?_⟩⟩
  exact q _ _ (Int.emod_nonneg _ (by omega)) (Int.emod_lt_of_pos _ hpos) b1 ⟨_, _, n + 1, ed1, by omega, by omega⟩
end
end K09

set_option Elab.async false
set_option linter.all false
set_option maxRecDepth 100000
set_option maxHeartbeats 1000000
namespace K09
open PySem PySem.Spec PyProof.Rows L2 LamX NdefX Clo
section
variable {P : Program} {w : World} {K : PySem.W.Frag} {mg : Str → Option Value} {base : Heap}
def spWebD : Sp := fun vs H Q _ => ∃ (d : Addr) (t many moves most : Int), vs = [.ref d, .int many, .int moves, .int most] ∧ (1 ≤ many ∧ many ≤ 20) ∧ (1 ≤ moves ∧ moves ≤ 12) ∧ (1 ≤ most ∧ most ≤ 1000000) ∧ t ≤ 100000000 ∧ Deck d t H ∧
  ∀ v net H', But d H H' → Deck d (t + 1000) H' → WbC HO.tup H' v net → NetOk net → WOk net → net.length ≤ 20 → Q v H'
theorem Stay.butT {d : Addr} {t : Int} {H H' : Hp} (a : Deck d t H) (b : But d H H') : ∀ c xs, H c = some (.tup xs) → H' c = some (.tup xs) := fun c xs e => b c _ (a.isL.ne e (fun _ z => nomatch z)) e
theorem MvT.up {H H' : Hp} (s : ∀ c xs, H c = some (.tup xs) → H' c = some (.tup xs)) {y : V} {m : Int × Int} (h : MvT H y m) : MvT H' y m := by
  obtain ⟨d, e, f⟩ := h
  exact ⟨d, e, s _ _ f⟩
theorem NdC.up {H H' : Hp} (s : ∀ c xs, H c = some (.tup xs) → H' c = some (.tup xs)) {x : V} {ms : List (Int × Int)} (h : NdC HO.tup H x ms) : NdC HO.tup H' x ms := by
  obtain ⟨b, ys, e, f, g⟩ := h
  exact ⟨b, ys, e, s _ _ f, g.imp fun _ _ => MvT.up s⟩
theorem WbC.up {H H' : Hp} (s : ∀ c xs, H c = some (.tup xs) → H' c = some (.tup xs)) {v : V} {net : Net} (h : WbC HO.tup H v net) : WbC HO.tup H' v net := by
  obtain ⟨b, ys, e, f, g⟩ := h
  exact ⟨b, ys, e, s _ _ f, g.imp fun _ _ => NdC.up s⟩
theorem up_lst {H : Hp} {f : Addr} {zs : List V} {o : HO} (e : H f = some (.lst zs)) : ∀ c xs, H c = some (.tup xs) → (upd H f o) c = some (.tup xs) := fun c xs q => by
  rw [upd_ne (fun z => by rw [z, e] at q; cases q)]
  exact q
theorem up_new {H : Hp} {f : Addr} {o : HO} (e : H f = none) : ∀ c xs, H c = some (.tup xs) → (upd H f o) c = some (.tup xs) := fun c xs q => same_upd e c _ q
theorem ok__law_web (T : Top K mg) : FnOk P w K mg base CX0 2 T.f__law_web T.d__law_web ["_law_deck", "_law_many", "_law_moves", "_law_most"] spWebD := by
  have G__law_draw : FnOk P w K mg base CX0 1 T.f__law_draw T.d__law_draw ["_law_deck", "_law_many"] spDraw := ok_draw T
  refine T.D__law_web.F.ok sc__law_web (fun vs H Q E h => ?_) (fun cdv A outer s H vs Q E hr h => ?_)
  · obtain ⟨d, t, many, moves, most, rfl, _⟩ := h
    rfl
  obtain ⟨d, t, many, moves, most, rfl, hm, hv, hw, ht, a0, q⟩ := h
  refine ⟨_, (C8.pss_cut (ps_set (i := 4) sc__law_web.nd rfl (.inl rfl) (pe_op op_add pe_int (pe_call G__law_draw (hr.mono (by omega)) rfl T.D__law_draw.g T.D__law_draw.F.kp T.D__law_draw.b .nil pass0 (pa_cons (pv 0) (pa_cons (pv 1) pa_nil)))))
    (pss_cons (ps_set (i := 5) sc__law_web.nd rfl (.inl rfl) (pe_lst pa_nil))
    (pss_cons (ps_for PassesOwn.never rfl (pi_range1 rfl T.b_range (pa_cons (pv 4) pa_nil)) (pg_name (i := 6) sc__law_web.nd rfl (.inl rfl))
      (C8.pss_cut (ps_set (i := 7) sc__law_web.nd rfl (.inl rfl) (pe_lst pa_nil))
      (C8.pss_cut (ps_for PassesOwn.never rfl (pi_range1 rfl T.b_range (pa_cons (pe_op op_add pe_int (pe_call G__law_draw (hr.mono (by omega)) rfl T.D__law_draw.g T.D__law_draw.F.kp T.D__law_draw.b .nil pass0 (pa_cons (pv 0) (pa_cons (pv 2) pa_nil)))) pa_nil)) (pg_name (i := 8) sc__law_web.nd rfl (.inl rfl))
        (pss_one (ps_expr (pe_bm PySem.F.plainAttrs_list PySem.F.slot_list_append PySem.F.type_list_append mt_append (pv 7) (pa_cons (pe_tup (pa_cons (pe_op op_sub (pe_call G__law_draw (hr.mono (by omega)) rfl T.D__law_draw.g T.D__law_draw.F.kp T.D__law_draw.b .nil pass0 (pa_cons (pv 0) (pa_cons (pe_op op_add (pe_op op_mul pe_int (pv 3)) pe_int) pa_nil))) (pv 3)) (pa_cons (pe_call G__law_draw (hr.mono (by omega)) rfl T.D__law_draw.g T.D__law_draw.F.kp T.D__law_draw.b .nil pass0 (pa_cons (pv 0) (pa_cons (pv 4) pa_nil))) pa_nil))) pa_nil)))))
      (C8.pss_cut (ps_if (PW.pt (pw_and (pt_cmpR op_lt (pe_callB call_len_seq rfl T.b_len bt_len (pa_cons (pv 7) pa_nil)) (pv 2) (nomark _)) (pw_and1 (pt_cmpR op_eq (pe_call G__law_draw (hr.mono (by omega)) rfl T.D__law_draw.g T.D__law_draw.F.kp T.D__law_draw.b .nil pass0 (pa_cons (pv 0) (pa_cons pe_int pa_nil))) pe_int (nomark _)))))
        (pss_one (ps_expr (pe_bm PySem.F.plainAttrs_list PySem.F.slot_list_append PySem.F.type_list_append mt_append (pv 7) (pa_cons (pe_ix ix_list (pv 7) pe_int (fun _ _ => rfl)) pa_nil))))
        pss_nil)
      (pss_one (ps_expr (pe_bm PySem.F.plainAttrs_list PySem.F.slot_list_append PySem.F.type_list_append mt_append (pv 5) (pa_cons (pe_tupleOf rfl T.b_tuple (pv 7)) pa_nil))))))))
    (pss_one (ps_ret (pe_tupleOf rfl T.b_tuple (pv 5))))))), ?_⟩
  refine ⟨fun σ H' => ∃ size : Int, σ = [some (.ref d), some (.int many), some (.int moves), some (.int most), some (.int size), none, none, none, none] ∧ (1 ≤ size ∧ size ≤ many) ∧ But d H H' ∧ Deck d (t + 1) H', ?_, ?_⟩
  · refine ⟨.ref d, rfl, .int many, rfl, d, t, many, rfl, by omega, by omega, by omega, a0, fun r H1 r0 r1 b1 a1 => ⟨1, r, rfl, rfl, ?_⟩⟩
    exact ⟨1 + r, rfl, by omega, b1, a1⟩
  rintro σ H1 ⟨size, rfl, hs, b1, a1⟩
  refine ⟨Nat.zero_le _, fun f hf => ?_⟩
  have nfd := a1.ne hf
  have Hf : H f = none := b1.back nfd hf
  refine ⟨.int size, rfl, size, rfl, by omega, by omega, for_range (n := size.toNat) (fun i σ H' => (∃ y6 y7 y8, σ = [some (.ref d), some (.int many), some (.int moves), some (.int most), some (.int size), some (.ref f), y6, y7, y8]) ∧ But d H H' ∧ Deck d (t + 1 + 30 * (i : Int)) H' ∧ ∃ xs net, H' f = some (.lst xs) ∧ Each (NdC HO.tup H') xs net ∧ net.length = i ∧
      ∀ ms ∈ net, (1 ≤ ms.length ∧ ms.length ≤ 12) ∧ ∀ m ∈ ms, (0 ≤ m.2 ∧ m.2 < size) ∧ -1000000 ≤ m.1 ∧ m.1 ≤ 1000000)
    ⟨⟨_, _, _, rfl⟩, b1.at_new Hf, (a1.other nfd).mono (by omega), [], [], upd_same, Each.nil, rfl, fun ms m => by cases m⟩ (fun i σ H3 hi p => ?_) (fun σ H3 p => ?_)⟩
  · obtain ⟨⟨y6, y7, y8, rfl⟩, b3, a3, xs, net, ef, ex, ln, fn⟩ := p
    -- own
    refine ⟨fun σ H' => ∃ g, σ = [some (.ref d), some (.int many), some (.int moves), some (.int most), some (.int size), some (.ref f), some (.int (0 + (i : Int))), some (.ref g), y8] ∧ But d H H' ∧ Deck d (t + 1 + 30 * (i : Int)) H' ∧ H' f = some (.lst xs) ∧ Each (NdC HO.tup H') xs net ∧ H' g = some (.lst []) ∧ g ≠ d ∧ g ≠ f ∧ H g = none, ?_, ?_⟩
    · refine ⟨Nat.zero_le _, fun g hg => ?_⟩
      have ngd := a3.ne hg
      have ngf : g ≠ f := fun z => by
        rw [z, ef] at hg
        cases hg
      exact ⟨g, rfl, b3.at_new (b3.back ngd hg), a3.other ngd, by rw [upd_ne ngf.symm]; exact ef, ex.imp fun _ _ => NdC.up (up_new hg), upd_same, ngd, ngf, b3.back ngd hg⟩
    rintro σ H4 ⟨g, rfl, b4, a4, ef4, ex4, eg4, ngd, ngf, Hg⟩
    -- the moves
    refine ⟨fun σ H' => ∃ y8 ys ms, σ = [some (.ref d), some (.int many), some (.int moves), some (.int most), some (.int size), some (.ref f), some (.int (0 + (i : Int))), some (.ref g), y8] ∧ But d H H' ∧ Deck d (t + 1 + 30 * (i : Int) + 1 + 24) H' ∧ H' f = some (.lst xs) ∧ Each (NdC HO.tup H') xs net ∧ H' g = some (.lst ys) ∧ Each (MvT H') ys ms ∧ (1 ≤ ms.length ∧ (ms.length : Int) ≤ moves) ∧ ∀ m ∈ ms, (0 ≤ m.2 ∧ m.2 < size) ∧ -1000000 ≤ m.1 ∧ m.1 ≤ 1000000, ?_, ?_⟩
    · refine ⟨.ref d, rfl, .int moves, rfl, d, _, moves, rfl, by omega, by omega, by omega, a4, fun r H5 r0 r1 b5 a5 => ⟨1, r, rfl, rfl, 1 + r, rfl, by omega, by omega, ?_⟩⟩
      refine for_range (n := (1 + r).toNat) (fun j σ H' => (∃ y8, σ = [some (.ref d), some (.int many), some (.int moves), some (.int most), some (.int size), some (.ref f), some (.int (0 + (i : Int))), some (.ref g), y8]) ∧ But d H H' ∧ Deck d (t + 1 + 30 * (i : Int) + 1 + 2 * (j : Int)) H' ∧ H' f = some (.lst xs) ∧ Each (NdC HO.tup H') xs net ∧ ∃ ys ms, H' g = some (.lst ys) ∧ Each (MvT H') ys ms ∧ ms.length = j ∧ ∀ m ∈ ms, (0 ≤ m.2 ∧ m.2 < size) ∧ -1000000 ≤ m.1 ∧ m.1 ≤ 1000000)
        ⟨⟨_, rfl⟩, b4.trans b5, a5.mono (by omega), b5 f _ nfd ef4, ex4.imp fun _ _ => NdC.up (Stay.butT a4 b5), [], [], b5 g _ ngd eg4, Each.nil, rfl, fun m hm => by cases hm⟩ (fun j σ H6 hj p => ?_) (fun σ H6 p => ?_)
      · obtain ⟨⟨z8, rfl⟩, b6, a6, ef6, ex6, ys, ms, eg6, ey6, lm, fm⟩ := p
        refine ⟨.ref g, rfl, .inl ⟨rfl, _, .inl (.inl eg6)⟩, .ref d, rfl, .int most, rfl, 2, most, rfl, rfl, .inl ⟨by decide, by decide⟩, _, 1, rfl, rfl, d, _, _, rfl, by omega, by omega, by omega, a6, fun r2 H7 r20 r21 b7 a7 => ⟨.int most, rfl, r2, most, rfl, rfl, .ref d, rfl, .int size, rfl, d, _, size, rfl, by omega, by omega, by omega, a7, fun r3 H8 r30 r31 b8 a8 => ⟨(by show 2 ≤ sizeLine; decide), fun p hp => ?_⟩⟩⟩
        have c8 : But d H6 H8 := b7.trans b8
        have eg8 := c8 g _ ngd eg6
        have s9 := same_upd (o := .tup [.int (r2 - most), .int r3]) hp
        have eg9 := s9 _ _ eg8
        have up1 : ∀ c xs, H6 c = some (.tup xs) → (upd H8 p (.tup [.int (r2 - most), .int r3])) c = some (.tup xs) := fun c xs e => s9 c _ (Stay.butT a6 c8 c xs e)
        have ly : ys.length ≤ 12 := by
          rw [ey6.1]
          omega
        refine ⟨g, ys, .ref p, rfl, rfl, eg9, small1000 (by omega), ⟨_, rfl⟩, But.at_new ((b6.trans c8).trans (But.of s9)) Hg, ((a8.same s9).other ngd).mono (by omega), ?_, ex6.imp fun _ _ h => (h.up up1).up (up_lst eg9), ys ++ [.ref p], ms ++ [(r2 - most, r3)], upd_same, Each.snoc (ey6.imp fun _ _ h => (h.up up1).up (up_lst eg9)) (MvT.up (up_lst eg9) ⟨p, rfl, upd_same⟩), by rw [List.length_append, lm]; rfl, fun m hm => ?_⟩
        · rw [upd_ne ngf.symm]
          exact s9 _ _ (c8 f _ nfd ef6)
        · rcases List.mem_append.mp hm with hm | hm
          · exact fm m hm
          · rw [List.mem_singleton.mp hm]
            exact ⟨⟨r30, r31⟩, by omega, by omega⟩
      · obtain ⟨⟨z8, rfl⟩, b6, a6, ef6, ex6, ys, ms, eg6, ey6, lm, fm⟩ := p
        exact ⟨z8, ys, ms, rfl, b6, a6.mono (by omega), ef6, ex6, eg6, ey6, ⟨by omega, by omega⟩, fm⟩
    rintro σ H5 ⟨y8', ys, ms, rfl, b5, a5, ef5, ex5, eg5, ey5, lm, fm⟩
    -- one more
    refine ⟨fun σ H' => ∃ ys ms, σ = [some (.ref d), some (.int many), some (.int moves), some (.int most), some (.int size), some (.ref f), some (.int (0 + (i : Int))), some (.ref g), y8'] ∧ But d H H' ∧ Deck d (t + 1 + 30 * (i : Int) + 1 + 24 + 1) H' ∧ H' f = some (.lst xs) ∧ Each (NdC HO.tup H') xs net ∧ H' g = some (.lst ys) ∧ Each (MvT H') ys ms ∧ (1 ≤ ms.length ∧ ms.length ≤ 12) ∧ ∀ m ∈ ms, (0 ≤ m.2 ∧ m.2 < size) ∧ -1000000 ≤ m.1 ∧ m.1 ≤ 1000000, ?_, ?_⟩
    · refine ⟨.ref g, rfl, g, ys, rfl, .inl (SqL.of eg5), .int moves, rfl, _, moves, rfl, rfl, _, rfl, ite2 (fun c => ?_) (fun c => ?_)⟩
      · have l2 : (ys.length : Int) < moves := of_decide_eq_true c
        refine ⟨.ref d, rfl, d, _, 8, rfl, by decide, by decide, by omega, a5, fun r H6 r0 r1 b6 a6 => ⟨rfl, _, rfl, ite2 (fun c2 => ?_) (fun c2 => ?_)⟩⟩
        · have eg6 := b6 g _ ngd eg5
          obtain ⟨y0, hy0⟩ : ∃ y0, ys[0]? = some y0 := ⟨_, List.getElem?_eq_getElem (show 0 < ys.length by rw [ey5.1]; omega)⟩
          obtain ⟨m0, hm0⟩ : ∃ m0, ms[0]? = some m0 := ⟨_, List.getElem?_eq_getElem (show 0 < ms.length by omega)⟩
          have ey6 : Each (MvT H6) ys ms := ey5.imp fun _ _ => MvT.up (Stay.butT a5 b6)
          have l3 := ey5.1
          refine ⟨.ref g, rfl, .inl ⟨rfl, _, .inl (.inl eg6)⟩, .ref g, rfl, g, ys, 0, y0, rfl, rfl, SqL.of eg6, atI_nat (j := 0) hy0, g, ys, y0, rfl, rfl, eg6, small1000 (by omega), ys ++ [y0], ms ++ [m0], rfl, But.at_new (b5.trans b6) Hg, (a6.other ngd).mono (by omega), ?_, ?_, upd_same, ?_, ?_, fun m hm => ?_⟩
          · rw [upd_ne ngf.symm]
            exact b6 f _ nfd ef5
          · exact ex5.imp fun _ _ h => (h.up (Stay.butT a5 b6)).up (up_lst eg6)
          · exact Each.snoc (ey6.imp fun _ _ h => h.up (up_lst eg6)) ((ey6.2 0 y0 m0 hy0 hm0).up (up_lst eg6))
          · rw [List.length_append]
            have : ([m0] : List (Int × Int)).length = 1 := rfl
            omega
          · rcases List.mem_append.mp hm with hm | hm
            · exact fm m hm
            · rw [List.mem_singleton.mp hm]
              exact fm m0 (List.mem_of_getElem? hm0)
        · exact ⟨ys, ms, rfl, b5.trans b6, a6.mono (by omega), b6 f _ nfd ef5, ex5.imp fun _ _ => NdC.up (Stay.butT a5 b6), b6 g _ ngd eg5, ey5.imp fun _ _ => MvT.up (Stay.butT a5 b6), ⟨lm.1, by omega⟩, fm⟩
      · exact ite2 (fun z => (nomatch z)) fun _ => ⟨ys, ms, rfl, b5, a5.mono (by omega), ef5, ex5, eg5, ey5, ⟨lm.1, by omega⟩, fm⟩
    rintro σ H6 ⟨ys, ms, rfl, b6, a6, ef6, ex6, eg6, ey6, lm, fm⟩
    -- found.append(tuple(own))
    refine ⟨.ref f, rfl, .inl ⟨rfl, _, .inl (.inl ef6)⟩, .ref g, rfl, .inl ⟨g, ys, rfl, SqL.of eg6, fun p hp => ?_⟩⟩
    have s9 := same_upd (o := .tup ys) hp
    have ef9 := s9 _ _ ef6
    have lx : xs.length ≤ 20 := by
      rw [ex6.1]
      omega
    refine ⟨f, xs, .ref p, rfl, rfl, ef9, small1000 (by omega), ⟨_, _, _, rfl⟩, But.at_new (b6.trans (But.of s9)) Hf, ((a6.same s9).other nfd).mono (by omega), xs ++ [.ref p], net ++ [ms], upd_same, Each.snoc (ex6.imp fun _ _ h => (h.up (up_new hp)).up (up_lst ef9)) (NdC.up (up_lst ef9) ⟨p, ys, rfl, upd_same, ey6.imp fun _ _ => MvT.up (up_new hp)⟩), by rw [List.length_append, ln]; rfl, fun ms' hm => ?_⟩
    rcases List.mem_append.mp hm with hm | hm
    · exact fn ms' hm
    · rw [List.mem_singleton.mp hm]
      exact ⟨lm, fm⟩
  · obtain ⟨⟨y6, y7, y8, rfl⟩, b3, a3, xs, net, ef, ex, ln, fn⟩ := p
    refine ⟨.ref f, rfl, .inl ⟨f, xs, rfl, SqL.of ef, fun p hp => ?_⟩⟩
    have s4 := same_upd (o := .tup xs) hp
    refine q _ net _ (b3.trans (But.of s4)) ((a3.same s4).mono (by omega)) ⟨p, xs, rfl, upd_same, ex.imp fun _ _ => NdC.up (up_new hp)⟩ ⟨by omega, by omega, fun ms m => (fn ms m).1, fun ms m mv hm => ?_⟩ (fun ms m mv hm => ((fn ms m).2 mv hm).2) (by omega)
    have := ((fn ms m).2 mv hm).1
    exact ⟨this.1, by omega⟩
end
end K09

set_option Elab.async false
set_option linter.all false
set_option maxRecDepth 100000
set_option maxHeartbeats 1000000
namespace K09
open PySem PySem.Spec PyProof.Rows L2 LamX NdefX Clo
theorem hu64 {A : Around} {k : Nat} (hr : Room k A) : A.units + 64 < cLine := by
  have := hr.un
  omega
theorem inV_ints {t : Int} : ∀ {ps : List Int}, inV (.int t) (ps.map V.int) = decide (t ∈ ps)
  | [] => rfl
  | x :: r => by
    have ih := inV_ints (t := t) (ps := r)
    show (eqV (.int x) (.int t) || inV (.int t) (r.map V.int)) = decide (t ∈ x :: r)
    rw [ih]
    show ((x == t) || decide (t ∈ r)) = decide (t ∈ x :: r)
    by_cases h : x = t
    · subst h
      simp
    · have h' : ¬ t = x := fun e => h e.symm
      simp [h, h']
theorem flat_ints {ps : List Int} : (ps.map V.int).all flatV = true := by
  rw [List.all_map, List.all_eq_true]
  intro x _
  rfl
section
variable {P : Program} {w : World} {K : PySem.W.Frag} {mg : Str → Option Value} {base : Heap}
def spLMet : Sp := fun vs H Q _ => ∃ v net, vs = [v, .int 0] ∧ WbC HO.tup H v net ∧ NetOk net ∧ net.length ≤ 20 ∧ ∀ (r : Addr) (ps : List Int) H', Same H H' → H' r = some (.lst (ps.map V.int)) → (∀ k ∈ ps, 0 ≤ k ∧ k < (net.length : Int)) → (∀ k, k ∈ ps ↔ Reach (leadsOf net) k) → Q (.ref r) H'
theorem ok__law_met (T : Top K mg) : FnOk P w K mg base CX0 1 T.f__law_met T.d__law_met ["_law_net", "_law_start"] spLMet := by
  refine T.D__law_met.F.ok sc__law_met (fun vs H Q E h => ?_) (fun cdv A outer s H vs Q E hr h => ?_)
  · obtain ⟨v, net, rfl, _⟩ := h
    rfl
  obtain ⟨v, net, rfl, ⟨wa, xs, rfl, ea, hx⟩, o, l20, q⟩ := h
  refine ⟨_, (pss_cons (ps_set (i := 2) sc__law_met.nd rfl (.inl rfl) (pe_lst (pa_cons (pv 1) pa_nil)))
    (pss_cons (ps_set (i := 3) sc__law_met.nd rfl (.inl rfl) pe_int)
    (pss_cons (ps_while PassesOwn.never (pt_cmpR op_lt (pv 3) (pe_callB call_len_seq rfl T.b_len bt_len (pa_cons (pv 2) pa_nil)) (nomark _))
      (pss_cons (ps_for PassesOwn.never rfl (pi_tup (pe_ix ix_tup (pv 0) (pe_ix ix_list (pv 2) (pv 3) (fun _ _ => rfl)) (fun _ _ => rfl))) (pg_tup rfl (pgs_cons (pg_name (i := 4) sc__law_met.nd rfl (.inl rfl)) (pgs_cons (pg_name (i := 5) sc__law_met.nd rfl (.inl rfl)) pgs_nil)))
        (pss_one (ps_if (pt_cmpR op_notIn_seq (pv 5) (pv 2) rfl)
          (pss_one (ps_expr (pe_bm PySem.F.plainAttrs_list PySem.F.slot_list_append PySem.F.type_list_append mt_append (pv 2) (pa_cons (pv 5) pa_nil))))
          pss_nil)))
      (pss_one (ps_set (i := 3) sc__law_met.nd rfl (.inl rfl) (pe_op op_add (pv 3) pe_int)))))
    (pss_one (ps_ret (pe_callB cr_sorted rfl T.b_sorted bt_sorted (pa_cons (pv 2) pa_nil))))))), ?_⟩
  refine ⟨.int 0, rfl, (by show 1 ≤ sizeLine; decide), fun f hf => ?_⟩
  refine while_by (fun σ H' => ∃ (at' : Nat) (ps : List Int) (y4 y5 : Option V), σ = [some (.ref wa), some (.int 0), some (.ref f), some (.int (at' : Int)), y4, y5] ∧ Same H H' ∧ H' f = some (.lst (ps.map V.int)) ∧ Gd net.length (leadsOf net) ps at')
    (fun σ _ => match slotAt σ 3 with
      | some (.int a) => ((net.length : Int) - a).toNat
      | _ => 0) ⟨0, [0], none, none, rfl, same_upd hf, upd_same, ⟨by simp, fun k m => by rw [List.mem_singleton.mp m]; have := o.n0; omega, by simp, fun j hj => by omega, fun k m => by rw [List.mem_singleton.mp m]; exact .zero, by simp⟩⟩ (fun σ H2 p => ?_) (fun σ H2 Q1 Q2 hm hq => ?_)
  · obtain ⟨at', ps, y4, y5, rfl, s2, ef2, g⟩ := p
    have hlen : (ps.map V.int).length = ps.length := List.length_map _
    have lps : ps.length ≤ net.length := nodup_len _ ps g.nd g.bd
    refine ⟨.int at', rfl, .ref f, rfl, f, _, rfl, .inl (SqL.of ef2), at', _, rfl, rfl, _, rfl, ite2 (fun c => ?_) (fun c => ?_)⟩
    · have hat : at' < ps.length := by
        have := of_decide_eq_true c
        rw [hlen] at this
        omega
      have gp : ps[at']? = some ps[at'] := List.getElem?_eq_getElem hat
      obtain ⟨pl, hpl⟩ : ∃ pl, pl = ps[at'] := ⟨_, rfl⟩
      rw [← hpl] at gp
      have mp : pl ∈ ps := List.mem_of_getElem? gp
      have bp := g.bd pl mp
      obtain ⟨ms, ems, eg, mm⟩ := net_at bp.1 bp.2
      obtain ⟨z, ez⟩ : ∃ z, xs[pl.toNat]? = some z := ⟨_, List.getElem?_eq_getElem (show pl.toNat < xs.length by rw [hx.1]; omega)⟩
      obtain ⟨b, ys, rfl, eb, hy⟩ := hx.2 _ _ _ ez ems
      have ip : atI xs pl = some (.ref b) := by
        have := atI_nat (xs := xs) (j := pl.toNat) ez
        rw [Int.toNat_of_nonneg bp.1] at this
        exact this
      have lds : leadsOf net pl = ms.map (·.2) := by
        unfold leadsOf
        rw [eg]
      refine ⟨.ref wa, rfl, .ref f, rfl, .int at', rfl, f, _, at', .int pl, rfl, rfl, SqL.of ef2, atI_nat (j := at') (by rw [List.getElem?_map, gp]; rfl), wa, xs, pl, .ref b, rfl, rfl, SqT.of (s2 _ _ ea), ip, b, rfl, ⟨ys, SqT.of (s2 _ _ eb)⟩,
        for_tup (xs := ys) (fun j σ H' => ∃ (ps' : List Int) (y4 y5 : Option V), σ = [some (.ref wa), some (.int 0), some (.ref f), some (.int (at' : Int)), y4, y5] ∧ Same H H' ∧ H' f = some (.lst (ps'.map V.int)) ∧ Gd net.length (leadsOf net) ps' at' ∧ ps'[at']? = some pl ∧ ∀ u ∈ ms.take j, u.2 ∈ ps')
        ⟨ps, _, _, rfl, s2, ef2, g, gp, fun u m => by simp at m⟩ (fun j σ H' _ p => ?_) (fun j y σ H' hyj p => ?_) (fun σ H' p => ?_)⟩
      · obtain ⟨_, _, _, _, s3, _⟩ := p
        exact SqT.of (s3 _ _ eb)
      · obtain ⟨ps', z4, z5, rfl, s3, ef3, g3, gp3, ft⟩ := p
        have hj : j < ms.length := by
          rw [← hy.1]
          exact (List.getElem?_eq_some_iff.mp hyj).1
        obtain ⟨u, hu⟩ : ∃ u, ms[j]? = some u := ⟨_, List.getElem?_eq_getElem hj⟩
        have mu : u ∈ ms := List.mem_of_getElem? hu
        have bu := o.tg ms mm u mu
        obtain ⟨d, rfl, ed⟩ := hy.2 _ _ _ hyj hu
        have lps3 : ps'.length ≤ net.length := nodup_len _ ps' g3.nd g3.bd
        refine ⟨d, [.int u.1, .int u.2], rfl, SqT.of (s3 _ _ ed), rfl, .int u.1, [.int u.2], rfl, .int u.2, [], rfl, rfl, ?_⟩
        refine ⟨.int u.2, rfl, .ref f, rfl, f, _, rfl, .inl (SqL.of ef3), rfl, flat_ints, _, rfl, ite2 (fun c1 => ?_) (fun c1 => ?_)⟩
        · have nt : u.2 ∉ ps' := fun m' => by
            have : inV (.int u.2) (ps'.map V.int) = true := by
              rw [inV_ints]
              exact decide_eq_true m'
            rw [this] at c1
            cases c1
          refine ⟨.ref f, rfl, .inl ⟨rfl, _, .inl (.inl ef3)⟩, .int u.2, rfl, f, _, _, rfl, rfl, ef3, small1000 (by rw [List.length_map]; omega), ?_⟩
          refine ⟨ps' ++ [u.2], _, _, rfl, Same.at_new s3 hf, by rw [upd_same, List.map_append]; rfl, g3.add nt bu (.step (g3.rc pl (List.mem_of_getElem? gp3)) (by rw [lds]; exact List.mem_map.mpr ⟨u, mu, rfl⟩)), ?_, fun v mv => ?_⟩
          · rw [List.getElem?_append_left (List.getElem?_eq_some_iff.mp gp3).1]
            exact gp3
          · rw [List.take_add_one, hu] at mv
            rcases List.mem_append.mp mv with mv | mv
            · exact List.mem_append_left _ (ft v mv)
            · have : v = u := by simpa using mv
              rw [this]
              simp
        · have mt : u.2 ∈ ps' := by
            by_cases h : u.2 ∈ ps'
            · exact h
            · refine absurd ?_ c1
              show (!inV (.int u.2) (ps'.map V.int)) = true
              rw [inV_ints, decide_eq_false h]
              rfl
          refine ⟨ps', _, _, rfl, s3, ef3, g3, gp3, fun v mv => ?_⟩
          rw [List.take_add_one, hu] at mv
          rcases List.mem_append.mp mv with mv | mv
          · exact ft v mv
          · have : v = u := by simpa using mv
            rw [this]
            exact mt
      · obtain ⟨ps', z4, z5, rfl, s3, ef3, g3, gp3, ft⟩ := p
        have fa : ∀ t ∈ leadsOf net pl, t ∈ ps' := fun t mt => by
          rw [lds] at mt
          obtain ⟨u, mu, rfl⟩ := List.mem_map.mp mt
          exact ft u (by rw [List.take_of_length_le (by rw [hy.1]; exact Nat.le_refl _)]; exact mu)
        refine ⟨.int at', rfl, at', 1, rfl, rfl, ⟨at' + 1, ps', _, _, rfl, s3, ef3, g3.next gp3 fa⟩, ?_⟩
        show ((net.length : Int) - ((at' : Int) + 1)).toNat < ((net.length : Int) - (at' : Int)).toNat
        omega
    · have e : at' = ps.length := by
        have h1 : ¬ (at' : Int) < ((ps.map V.int).length : Nat) := fun z => c (decide_eq_true z)
        rw [hlen] at h1
        have := g.le
        omega
      subst e
      refine ⟨.ref f, rfl, f, ps, rfl, SqL.of ef2, by omega, fun ns' p hperm _ hp => ?_⟩
      exact q p ns' _ (s2.trans (same_upd hp)) upd_same (fun k m => g.bd k (hperm.mem_iff.mp m)) (fun k => hperm.mem_iff.trans g.iff)
  · obtain ⟨a1, e1, a2, e2, a3, a4, e3, e4, i1, i2, e5, e6, k, e7, qq⟩ := hq
    exact ⟨a1, e1, a2, e2, a3, a4, e3, e4, i1, i2, e5, e6, k, e7, hm _ _ qq⟩
def LHolds (net : Net) (a b : Int) (nums : List Int) (sg : Int) : Prop := ∀ k, Reach (leadsOf net) k → ∀ u ∈ net.getD k.toNat [], sg * (b * u.1 - a + nums.getD u.2.toNat 0 - nums.getD k.toNat 0) ≤ 0
def spLCap : Sp := fun vs H Q _ => ∃ (v : V) (f m : Addr) (a b sg : Int) (nums : List Int) (net : Net), vs = [v, .ref f, .ref m, .int sg] ∧ WbC HO.tup H v net ∧ NetOk net ∧ WOk net ∧ net.length ≤ 20 ∧ H f = some (.tup [.int a, .int b]) ∧ H m = some (.tup (nums.map V.int)) ∧ nums.length = net.length ∧ (sg = 1 ∨ sg = -1) ∧
  ∀ (c : Bool) H', Same H H' → (c = true ↔ LHolds net a b nums sg) → Q (.bl c) H'
theorem ok__law_capped (T : Top K mg) : FnOk P w K mg base CX0 2 T.f__law_capped T.d__law_capped ["_law_net", "_law_ratio", "_law_numbers", "_law_sign"] spLCap := by
  have G__law_met : FnOk P w K mg base CX0 1 T.f__law_met T.d__law_met ["_law_net", "_law_start"] spLMet := ok__law_met T
  refine T.D__law_capped.F.ok sc__law_capped (fun vs H Q E h => ?_) (fun cdv A outer s H vs Q E hr h => ?_)
  · obtain ⟨v, f, m, a, b, sg, nums, net, rfl, _⟩ := h
    rfl
  obtain ⟨v, f, m, a, b, sg, nums, net, rfl, wb, o, wo, l20, ef, em, ln, hsg, q⟩ := h
  refine ⟨_, (pss_cons (ps_asg (pv 1) (pg_tup rfl (pgs_cons (pg_name (i := 4) sc__law_capped.nd rfl (.inl rfl)) (pgs_cons (pg_name (i := 5) sc__law_capped.nd rfl (.inl rfl)) pgs_nil))))
    (pss_cons (ps_for PassesOwn.never rfl (pi_list (pe_call G__law_met (hr.mono (by omega)) rfl T.D__law_met.g T.D__law_met.F.kp T.D__law_met.b .nil pass0 (pa_cons (pv 0) (pa_cons pe_int pa_nil)))) (pg_name (i := 6) sc__law_capped.nd rfl (.inl rfl))
      (pss_one (ps_for PassesOwn.never rfl (pi_tup (pe_ix ix_tup (pv 0) (pv 6) (fun _ _ => rfl))) (pg_tup rfl (pgs_cons (pg_name (i := 7) sc__law_capped.nd rfl (.inl rfl)) (pgs_cons (pg_name (i := 8) sc__law_capped.nd rfl (.inl rfl)) pgs_nil)))
        (pss_one (ps_if (pt_cmpR op_gt (pe_op op_mul (pv 3) (pe_op op_sub (pe_op op_add (pe_op op_sub (pe_op op_mul (pv 5) (pv 7)) (pv 4)) (pe_ix ix_tup (pv 2) (pv 8) (fun _ _ => rfl))) (pe_ix ix_tup (pv 2) (pv 6) (fun _ _ => rfl)))) pe_int (nomark _))
          (pss_one (ps_ret pe_bl))
          pss_nil)))))
    (pss_one (ps_ret pe_bl)))), ?_⟩
  refine ⟨.ref f, rfl, f, _, rfl, SqT.of ef, rfl, .int a, [.int b], rfl, .int b, [], rfl, rfl, ?_⟩
  refine ⟨v, rfl, v, net, rfl, wb, o, l20, fun r ps H1 s1 er bps hps => ?_⟩
  have em1 := s1 _ _ em
  obtain ⟨wa, xs, rfl, ea, hx⟩ := wb.stayT (Stay.of s1)
  refine ⟨r, rfl, ⟨_, SqL.of er⟩, for_list (xs := ps.map V.int) (fun i σ H' => H' = H1 ∧ (∃ y6 y7 y8, σ = [some (.ref wa), some (.ref f), some (.ref m), some (.int sg), some (.int a), some (.int b), y6, y7, y8]) ∧ ∀ k ∈ ps.take i, ∀ u ∈ net.getD k.toNat [], sg * (b * u.1 - a + nums.getD u.2.toNat 0 - nums.getD k.toNat 0) ≤ 0)
    ⟨rfl, ⟨_, _, _, rfl⟩, fun k m => by simp at m⟩ (fun i σ H' _ p => by rw [p.1]; exact SqL.of er) (fun i x σ H' hxi p => ?_) (fun σ H' p => ?_)⟩
  · obtain ⟨rfl, ⟨y6, y7, y8, rfl⟩, fk⟩ := p
    have hi : i < ps.length := by
      have := (List.getElem?_eq_some_iff.mp hxi).1
      rw [List.length_map] at this
      exact this
    obtain ⟨k, hk⟩ : ∃ k, ps[i]? = some k := ⟨_, List.getElem?_eq_getElem hi⟩
    have ex : x = .int k := by
      rw [List.getElem?_map, hk] at hxi
      exact (Option.some.inj hxi).symm
    subst ex
    have mk : k ∈ ps := List.mem_of_getElem? hk
    have bk := bps k mk
    obtain ⟨ms, ems, eg, mm⟩ := net_at bk.1 bk.2
    obtain ⟨z, ez⟩ : ∃ z, xs[k.toNat]? = some z := ⟨_, List.getElem?_eq_getElem (show k.toNat < xs.length by rw [hx.1]; omega)⟩
    obtain ⟨c, ys, rfl, eb, hy⟩ := hx.2 _ _ _ ez ems
    have ip : atI xs k = some (.ref c) := by
      have := atI_nat (xs := xs) (j := k.toNat) ez
      rw [Int.toNat_of_nonneg bk.1] at this
      exact this
    have nk : atI (nums.map V.int) k = some (.int (nums.getD k.toNat 0)) := ints_at bk.1 (by omega)
    refine ⟨.ref wa, rfl, .int k, rfl, wa, xs, k, .ref c, rfl, rfl, SqT.of ea, ip, c, rfl, ⟨ys, SqT.of eb⟩, for_tup (xs := ys) (fun j σ H2 => H2 = H' ∧ (∃ y7 y8, σ = [some (.ref wa), some (.ref f), some (.ref m), some (.int sg), some (.int a), some (.int b), some (.int k), y7, y8]) ∧ ∀ u ∈ ms.take j, sg * (b * u.1 - a + nums.getD u.2.toNat 0 - nums.getD k.toNat 0) ≤ 0)
      ⟨rfl, ⟨_, _, rfl⟩, fun u m => by simp at m⟩ (fun j σ H2 _ p => by rw [p.1]; exact SqT.of eb) (fun j y σ H2 hyj p => ?_) (fun σ H2 p => ?_)⟩
    · obtain ⟨rfl, ⟨y7, y8, rfl⟩, f2⟩ := p
      have hj : j < ms.length := by
        rw [← hy.1]
        exact (List.getElem?_eq_some_iff.mp hyj).1
      obtain ⟨u, hu⟩ : ∃ u, ms[j]? = some u := ⟨_, List.getElem?_eq_getElem hj⟩
      have mu : u ∈ ms := List.mem_of_getElem? hu
      have bu := o.tg ms mm u mu
      have wu := wo ms mm u mu
      obtain ⟨d, rfl, ed⟩ := hy.2 _ _ _ hyj hu
      have nu : atI (nums.map V.int) u.2 = some (.int (nums.getD u.2.toNat 0)) := ints_at bu.1 (by omega)
      refine ⟨d, [.int u.1, .int u.2], rfl, SqT.of ed, rfl, .int u.1, [.int u.2], rfl, .int u.2, [], rfl, rfl, ?_⟩
      refine ⟨.int sg, rfl, .int b, rfl, .int u.1, rfl, b, u.1, rfl, rfl, .inr ⟨by omega, by omega⟩, .int a, rfl, _, a, rfl, rfl, .ref m, rfl, .int u.2, rfl, m, _, u.2, _, rfl, rfl, SqT.of em1, nu, _, _, rfl, rfl, .ref m, rfl, .int k, rfl, m, _, k, _, rfl, rfl, SqT.of em1, nk, _, _, rfl, rfl, sg, _, rfl, rfl, .inl ⟨by omega, by omega⟩, _, 0, rfl, rfl, _, rfl, ite2 (fun c => ?_) (fun c => ?_)⟩
      · refine q _ _ s1 ⟨fun d => (nomatch d), fun d => ?_⟩
        have h1 := d k ((hps k).mp mk) u (by rw [eg]; exact mu)
        have h2 := of_decide_eq_true c
        omega
      · refine ⟨rfl, ⟨_, _, rfl⟩, fun v mv => ?_⟩
        rw [List.take_add_one, hu] at mv
        rcases List.mem_append.mp mv with mv | mv
        · exact f2 v mv
        · have e1 : v = u := by simpa using mv
          rw [e1]
          have h2 : ¬ (sg * (b * u.1 - a + nums.getD u.2.toNat 0 - nums.getD k.toNat 0) > 0) := fun h3 => c (decide_eq_true h3)
          omega
    · obtain ⟨rfl, ⟨y7, y8, rfl⟩, f2⟩ := p
      refine ⟨rfl, ⟨_, _, _, rfl⟩, fun v mv => ?_⟩
      rw [List.take_add_one, hk] at mv
      rcases List.mem_append.mp mv with mv | mv
      · exact fk v mv
      · have e1 : v = k := by simpa using mv
        rw [e1]
        intro u mu
        rw [eg] at mu
        exact f2 u (by rw [List.take_of_length_le (by rw [hy.1]; exact Nat.le_refl _)]; exact mu)
  · obtain ⟨rfl, _, fk⟩ := p
    rw [List.length_map, List.take_length] at fk
    exact q _ _ s1 ⟨fun _ k hk => fk k ((hps k).mpr hk), fun _ => rfl⟩
def spSays : Sp := fun vs H Q _ => ∃ x : Bool, vs = [.bl x, .bl x] ∧ Q (.bl true) H
theorem ok__law_says (T : Top K mg) : FnOk P w K mg base CX0 1 T.f__law_says T.d__law_says ["_law_found", "_law_due"] spSays := by
  refine T.D__law_says.F.ok sc__law_says (fun vs H Q E h => ?_) (fun cdv A outer s H vs Q E hr h => ?_)
  · obtain ⟨x, rfl, _⟩ := h
    rfl
  obtain ⟨x, rfl, q⟩ := h
  refine ⟨_, (pss_one (ps_ret (pe_and (pe_callB call_isi rfl T.b_isinstance bt_isinstance (pa_cons (pv 0) (pa_cons (pe_bltn (v := .ty "bool") rfl T.b_bool bt_bool rfl) pa_nil))) (pe_one (pe_cmpR op_eq (pv 0) (pv 1) (nomark _)))))), ?_⟩
  refine ⟨.bl x, rfl, .bl x, .ty "bool", _, .type "bool", true, rfl, .ty "bool", .base (.bl x), kit_ty (by show kitB _ _ = some true; decide +kernel), true, rfl, iteT ?_⟩
  refine ⟨.bl x, rfl, .bl x, rfl, rfl, ?_⟩
  have e : decide (V.bl x = V.bl x) = true := decide_eq_true rfl
  have fin : Q (.bl (decide (V.bl x = V.bl x))) H := by
    rw [e]
    exact q
  exact fin
end
end K09

set_option Elab.async false
set_option linter.all false
set_option maxRecDepth 100000
set_option maxHeartbeats 1000000
namespace K09
open PySem PySem.Spec PyProof.Rows L2 LamX NdefX Clo
/-! flat data -/
def datOf : V → PyData
  | .bl b => .bool b
  | .int i => .int i
  | .str x => .str x
  | _ => .none
def FlatOk (v : V) : Prop := flatV v = true ∧ ∀ x, v = .str x → PyData.canLay0 (.str x) = true
theorem FlatOk.dp {K : PySem.W.Frag} {H : Hp} {v : V} (h : FlatOk v) : Dp K H v (datOf v) := by
  obtain ⟨f, _⟩ := h
  cases v with
  | non => exact .non
  | bl b => exact .bl b
  | int i => exact .int i
  | str x => exact .str x
  | _ => cases f
theorem FlatOk.lay {v : V} (h : FlatOk v) : (datOf v).canLay0 = true ∧ (datOf v).depth = 0 := by
  obtain ⟨f, g⟩ := h
  cases v with
  | str x => exact ⟨g x rfl, by simp [datOf, PyData.depth]⟩
  | _ => exact ⟨by simp [datOf, PyData.canLay0], by simp [datOf, PyData.depth]⟩
theorem flat_all {K : PySem.W.Frag} {H : Hp} : ∀ {xs : List V}, (∀ x ∈ xs, FlatOk x) → DpAll K H xs (xs.map datOf) ∧ PyData.canLayAll0 (xs.map datOf) = true ∧ PyData.depthAll (xs.map datOf) = 0
  | [], _ => ⟨.nil, by simp [PyData.canLayAll0], by simp [PyData.depthAll]⟩
  | x :: r, h => by
    obtain ⟨a, b, c⟩ := flat_all (K := K) (H := H) (xs := r) fun y m => h y (List.mem_cons_of_mem _ m)
    have hx := h x List.mem_cons_self
    refine ⟨.cons hx.dp a, ?_, ?_⟩
    · simp [PyData.canLayAll0, hx.lay.1, b]
    · simp [PyData.depthAll, hx.lay.2, c]
theorem flat_shaped {K : PySem.W.Frag} {H : Hp} {a : Addr} {xs : List V} (e : SqL K H a xs) (h : ∀ x ∈ xs, FlatOk x) : Dp K H (.ref a) (.list (xs.map datOf)) ∧ SeqAt.shaped (.list (xs.map datOf)) = true := by
  obtain ⟨p, q, r⟩ := flat_all (K := K) (H := H) h
  refine ⟨.lst e p, ?_⟩
  unfold SeqAt.shaped
  simp [PyData.canLay0, PyData.depth, q, r]
theorem ints_flat {ns : List Int} : ∀ x ∈ ns.map V.int, FlatOk x := fun x m => by
  obtain ⟨i, _, rfl⟩ := List.mem_map.mp m
  exact ⟨rfl, fun y z => nomatch z⟩
section
variable {P : Program} {w : World} {K : PySem.W.Frag} {mg : Str → Option Value} {base : Heap}
def spLWts : Sp := fun vs H Q _ => ∃ (v : V) (net : Net), vs = [v] ∧ WbC HO.tup H v net ∧ NetOk net ∧ WOk net ∧ net.length ≤ 20 ∧ ∀ (r : Addr) (ws : List Int) H', Same H H' → H r = none → H' r = some (.lst (ws.map V.int)) → ws ≠ [] → ws.length ≤ 240 → (∀ x ∈ ws, -1000000 ≤ x ∧ x ≤ 1000000) → Q (.ref r) H'
theorem ok__law_weights (T : Top K mg) : FnOk P w K mg base CX0 1 T.f__law_weights T.d__law_weights ["_law_net"] spLWts := by
  refine T.D__law_weights.F.ok sc__law_weights (fun vs H Q E h => ?_) (fun cdv A outer s H vs Q E hr h => ?_)
  · obtain ⟨v, net, rfl, _⟩ := h
    rfl
  obtain ⟨v, net, rfl, ⟨wa, xs, rfl, ea, hx⟩, o, wo, l20, q⟩ := h
  refine ⟨_, (pss_cons (ps_set (i := 1) sc__law_weights.nd rfl (.inl rfl) (pe_lst pa_nil))
    (pss_cons (ps_for PassesOwn.never rfl (pi_tup (pv 0)) (pg_name (i := 2) sc__law_weights.nd rfl (.inl rfl))
      (pss_one (ps_expr (pe_bm PySem.F.plainAttrs_list PySem.F.slot_list_extend PySem.F.type_list_extend mt_extend (pv 1) (pa_cons (pe_lc (own := [("_law_weight", 3), ("_law_target", 4)]) (g := (gTup K 2 (gCons (gName 3) (gCons (gName 4) gNil)))) (tt := tYes) rfl sc__law_weights.nd (pi_tup (pv 2)) (blkOk_by (N := N__law_weights) (sc := defScope s__law_weights) (by decide +kernel)) (fun _ _ _ _ _ => (pg_tup rfl (pgs_cons (pg_name (i := 3) sc__law_weights.nd rfl (Or.inl rfl)) (pgs_cons (pg_name (i := 4) sc__law_weights.nd rfl (Or.inl rfl)) pgs_nil)))) (fun _ _ _ _ _ => pts_nil) (fun _ _ _ _ _ => (pv 3))) pa_nil)))))
    (pss_one (ps_ret (pv 1))))), ?_⟩
  refine ⟨Nat.zero_le _, fun f hf => ?_⟩
  refine ⟨.ref wa, rfl, wa, rfl, ⟨xs, SqT.of (same_upd hf _ _ ea)⟩, for_tup (xs := xs) (fun i σ H' => (∃ y2 y3 y4, σ = [some (.ref wa), some (.ref f), y2, y3, y4]) ∧ Same H H' ∧ ∃ ws : List Int, H' f = some (.lst (ws.map V.int)) ∧ i ≤ ws.length ∧ ws.length ≤ 12 * i ∧ ∀ x ∈ ws, -1000000 ≤ x ∧ x ≤ 1000000)
    ⟨⟨_, _, _, rfl⟩, same_upd hf, [], upd_same, Nat.le_refl _, Nat.le_refl _, fun x m => by cases m⟩ (fun i σ H' _ p => SqT.of (p.2.1 _ _ ea)) (fun i x σ H' hxi p => ?_) (fun σ H' p => ?_)⟩
  · obtain ⟨⟨y2, y3, y4, rfl⟩, s1, ws, ef, l1, l2, fw⟩ := p
    have hi : i < net.length := by
      rw [← hx.1]
      exact (List.getElem?_eq_some_iff.mp hxi).1
    obtain ⟨ms, hms⟩ : ∃ ms, net[i]? = some ms := ⟨_, List.getElem?_eq_getElem hi⟩
    have mms : ms ∈ net := List.mem_of_getElem? hms
    obtain ⟨nb, ys, rfl, eb, hy⟩ := hx.2 _ _ _ hxi hms
    have lm := o.m0 ms mms
    refine ⟨.ref f, rfl, .inl ⟨rfl, _, .inl (.inl ef)⟩, .ref nb, rfl, nb, rfl, ⟨ys, SqT.of (s1 _ _ eb)⟩, fun G hG => ?_⟩
    refine lc_tup (xs := ys) (fun j H2 => Same H' H2 ∧ H2 G = some (.lst (((ms.take j).map (·.1)).map V.int))) ⟨same_upd hG, upd_same⟩ (fun j H2 _ p => SqT.of (p.1 _ _ (s1 _ _ eb))) (fun j y H2 hyj p => ?_) (fun H2 p => ?_)
    · obtain ⟨s2, eG⟩ := p
      have hj : j < ms.length := by
        rw [← hy.1]
        exact (List.getElem?_eq_some_iff.mp hyj).1
      obtain ⟨m, hm⟩ : ∃ m, ms[j]? = some m := ⟨_, List.getElem?_eq_getElem hj⟩
      obtain ⟨d, rfl, ed⟩ := hy.2 _ _ _ hyj hm
      refine ⟨d, [.int m.1, .int m.2], rfl, SqT.of (s2 _ _ (s1 _ _ ed)), rfl, .int m.1, [.int m.2], rfl, .int m.2, [], rfl, rfl, ?_⟩
      refine ⟨rfl, .int m.1, rfl, _, eG, small1000 (by rw [List.length_map, List.length_map, List.length_take]; omega), fun u z e => ?_, ?_⟩
      · rw [upd_ne (ne_of_none e hG)]
        exact s2 _ _ e
      · rw [upd_same, take_map_succ hm, List.map_append]
        rfl
    · obtain ⟨s2, eG⟩ := p
      rw [List.take_of_length_le (by rw [hy.1]; exact Nat.le_refl _)] at eG
      refine ⟨f, G, _, _, rfl, rfl, s2 _ _ ef, eG, Nat.le_of_lt (small1000 (by rw [List.length_map, List.length_map, List.length_map]; omega)), ⟨_, _, _, rfl⟩, ?_, ws ++ ms.map (·.1), ?_, ?_, ?_, fun x mx => ?_⟩
      · exact Same.at_new (s1.trans s2) hf
      · rw [upd_same, List.map_append]
      · rw [List.length_append, List.length_map]
        omega
      · rw [List.length_append, List.length_map]
        omega
      · rcases List.mem_append.mp mx with mx | mx
        · exact fw x mx
        · obtain ⟨m, hm, rfl⟩ := List.mem_map.mp mx
          exact wo ms mms m hm
  · obtain ⟨⟨y2, y3, y4, rfl⟩, s1, ws, ef, l1, l2, fw⟩ := p
    have lx : xs.length = net.length := hx.1
    have n0 := o.n0
    refine ⟨.ref f, rfl, q f ws H' s1 hf ef (fun z => ?_) (by omega) fw⟩
    rw [z] at l1
    have : ([] : List Int).length = 0 := rfl
    omega
/-! numbers, by the law -/
def isW : V → Bool
  | .int _ => true
  | _ => false
theorem isW_iff {v : V} : isW v = true ↔ ∃ i, v = .int i := by
  cases v <;> simp [isW]
theorem take_filter_succ {xs : List V} {i : Nat} {x : V} {p : V → Bool} (h : xs[i]? = some x) : (xs.take (i + 1)).filter p = (xs.take i).filter p ++ (if p x = true then [x] else []) := by
  rw [List.take_add_one, h, List.filter_append]
  by_cases hp : p x = true
  · rw [if_pos hp]
    simp [hp]
  · rw [if_neg hp]
    simp [hp]
def spLNum : Sp := fun vs H Q _ => ∃ (h a : Addr) (xs : List V) (v : V), vs = [.ref a, v] ∧ H a = some (.tup xs) ∧ Kn h H v ∧ (∀ ys, tupOf H v = some ys → ∀ y ∈ ys, FlatOk y) ∧ ∀ (b : Bool) H', Same H H' → (b = true ↔ IsNums H v xs.length) → Q (.bl b) H'
theorem ok__law_is_numbers (T : Top K mg) : FnOk P w K mg base CX0 1 T.f__law_is_numbers T.d__law_is_numbers ["_law_net", "_law_item"] spLNum := by
  refine T.D__law_is_numbers.F.ok sc__law_is_numbers (fun vs H Q E h => ?_) (fun cdv A outer s H vs Q E hr h => ?_)
  · obtain ⟨h, a, xs, v, rfl, _⟩ := h
    rfl
  obtain ⟨h, a, xs, v, rfl, ea, k, fl, q⟩ := h
  refine ⟨_, (pss_cons (ps_if (PW.pt (pw_or (pt_not (pt_val (pe_callB call_isi rfl T.b_isinstance bt_isinstance (pa_cons (pv 1) (pa_cons (pe_bltn (v := .ty "tuple") rfl T.b_tuple bt_tuple rfl) pa_nil))))) (pw_or1 (pt_cmpR op_ne (pe_callB call_len_seq rfl T.b_len bt_len (pa_cons (pv 1) pa_nil)) (pe_callB call_len_seq rfl T.b_len bt_len (pa_cons (pv 0) pa_nil)) (nomark _)))))
      (pss_one (ps_ret pe_bl))
      pss_nil)
    (pss_one (ps_ret (pe_cmpR (op_eqD (hu64 hr)) (pe_lc (own := [("_law_one", 2)]) (g := (gName 2)) (tt := _) rfl sc__law_is_numbers.nd (pi_tup (pv 1)) (blkOk_by (N := N__law_is_numbers) (sc := defScope s__law_is_numbers) (by decide +kernel)) (fun _ _ _ _ _ => (pg_name (i := 2) sc__law_is_numbers.nd rfl (Or.inl rfl))) (fun _ _ _ _ _ => (pts_one (PW.pt (pw_or (pt_not (pt_val (pe_callB (r := rIsi K) call_isi rfl T.b_isinstance bt_isinstance (pa_cons (pv 2) (pa_cons (pe_bltn (v := .ty "int") rfl T.b_int bt_int rfl) pa_nil))))) (pw_or1 (pt_val (pe_callB (r := rIsi K) call_isi rfl T.b_isinstance bt_isinstance (pa_cons (pv 2) (pa_cons (pe_bltn (v := .ty "bool") rfl T.b_bool bt_bool rfl) pa_nil))))))))) (fun _ _ _ _ _ => (pv 2))) (pe_lst pa_nil) (nomark _))))), ?_⟩
  have bad : ¬ IsNums H v xs.length → Q (.bl false) H := fun ni => q _ _ (Same.refl H) ⟨fun d => (nomatch d), fun d => absurd d ni⟩
  obtain ⟨t, ht, kt⟩ := k.isi_tup (K := K)
  refine ⟨v, rfl, v, .ty "tuple", t, .type "tuple", _, rfl, .ty "tuple", ht, kt, _, rfl, ite2 (fun c => ?_) (fun c => ?_)⟩
  · refine ite2 (fun _ => bad ?_) (fun z => absurd rfl z)
    rintro ⟨ns, e3, z⟩
    rw [e3] at c
    cases c
  have c' : (tupOf H v).isSome = true := by
    cases q1 : (tupOf H v).isSome with
    | true => rfl
    | false => exact absurd (by rw [q1]; rfl) c
  obtain ⟨ys, e⟩ := Option.isSome_iff_exists.mp c'
  obtain ⟨d, rfl, ed⟩ := tupOf_some e
  have hS := SqT.of (K := K) ed
  refine ⟨.ref d, rfl, d, ys, rfl, .inr hS, .ref a, rfl, a, xs, rfl, .inr (SqT.of ea), rfl, _, rfl, ite2 (fun c1 => ?_) (fun c1 => ?_)⟩
  · refine bad ?_
    rintro ⟨ns, e3, z⟩
    rw [e] at e3
    cases e3
    rw [List.length_map, z, decide_eq_true rfl] at c1
    cases c1
  have ly : ys.length = xs.length := by
    by_cases dd : V.int ((ys.length : Nat) : Int) = V.int ((xs.length : Nat) : Int)
    · have := V.int.inj dd
      omega
    · exact absurd (by rw [decide_eq_false dd]; rfl) c1
  have fy := fl ys e
  have l1000 := (k.items e).1
  refine ⟨.ref d, rfl, d, rfl, ⟨ys, hS⟩, fun D hD => lc_tup (xs := ys) (fun i H' => Same H H' ∧ H' D = some (.lst ((ys.take i).filter fun y => !isW y))) ⟨same_upd hD, upd_same⟩ (fun i H' _ p => SqT.of (p.1 _ _ ed)) (fun i x H' hxi p => ?_) (fun H' p => ?_)⟩
  · obtain ⟨s1, eD⟩ := p
    have mx := List.mem_of_getElem? hxi
    have kx := ((k.items e).2 x mx).same s1
    obtain ⟨t1, ht1, kt1⟩ := kx.isi_int (K := K)
    obtain ⟨t2, ht2, kt2⟩ := kx.isi_bool (K := K)
    have lf : ((ys.take i).filter fun y => !isW y).length ≤ 1000 := by
      have h1 := List.length_filter_le (fun y => !isW y) (ys.take i)
      rw [List.length_take] at h1
      omega
    have put : ∀ (b : Bool), b = !isW x → if b = true then (∃ v, ([some (.ref a), some (.ref d), some x] : L2.St)[2]? = some (some v) ∧ ∃ acc, H' D = some (.lst acc) ∧ acc.length < sizeLine ∧ (Same H (upd H' D (.lst (acc ++ [v]))) ∧ (upd H' D (.lst (acc ++ [v]))) D = some (.lst ((ys.take (i + 1)).filter fun y => !isW y)))) else (Same H H' ∧ H' D = some (.lst ((ys.take (i + 1)).filter fun y => !isW y))) := fun b hb => by
      rw [take_filter_succ hxi, ← hb]
      refine ite2 (fun c => ?_) (fun c => ?_)
      · rw [if_pos c]
        exact ⟨x, rfl, _, eD, small1000 lf, Same.at_new s1 hD, upd_same⟩
      · rw [if_neg c, List.append_nil]
        exact ⟨s1, eD⟩
    refine ⟨rfl, x, rfl, x, .ty "int", t1, .type "int", _, rfl, .ty "int", ht1, kt1, _, rfl, ite2 (fun c => put true ?_) (fun c => ?_)⟩
    · cases x <;> simp_all [isIntB, isW]
    · refine ⟨x, rfl, x, .ty "bool", t2, .type "bool", _, rfl, .ty "bool", ht2, kt2, _, rfl, put (isBlB x) ?_⟩
      cases x <;> simp_all [isIntB, isBlB, isW]
  · obtain ⟨s1, eD⟩ := p
    rw [List.take_length] at eD
    refine ⟨Nat.zero_le _, fun B hB => ?_⟩
    have s2 := same_upd (o := .lst []) hB
    have ff : ∀ y ∈ ys.filter (fun y => !isW y), FlatOk y := fun y m => fy y (List.mem_filter.mp m).1
    obtain ⟨p1, p2⟩ := flat_shaped (K := K) (SqL.of (s2 _ _ eD)) ff
    obtain ⟨q1, q2⟩ := flat_shaped (K := K) (H := upd H' B (.lst [])) (a := B) (xs := []) (SqL.of upd_same) (fun y m => by cases m)
    refine ⟨_, _, p1, q1, p2, q2, q _ _ (s1.trans s2) ?_⟩
    constructor
    · intro hh
      have h0 : ys.filter (fun y => !isW y) = [] := by
        cases hf : ys.filter (fun y => !isW y) with
        | nil => rfl
        | cons z r =>
          rw [hf] at hh
          simp [PyData.eqv, PyData.eqvAll] at hh
      obtain ⟨ns, en⟩ := ints_of (xs := ys) fun y m => by
        have := List.filter_eq_nil_iff.mp h0 y m
        exact isW_iff.mp (by simpa using this)
      exact ⟨ns, by rw [e, en], by rw [← ly, en, List.length_map]⟩
    · rintro ⟨ns, e3, z⟩
      rw [e] at e3
      cases e3
      have h0 : (ns.map V.int).filter (fun y => !isW y) = [] := by
        rw [List.filter_eq_nil_iff]
        intro y m
        obtain ⟨i, _, rfl⟩ := List.mem_map.mp m
        simp [isW]
      rw [h0]
      simp [PyData.eqv, PyData.eqvAll]
end
end K09

set_option Elab.async false
set_option linter.all false
set_option maxRecDepth 100000
set_option maxHeartbeats 1000000
namespace K09
open PySem PySem.Spec PyProof.Rows L2 LamX NdefX Clo
theorem list_max : ∀ {ns : List Int}, 0 < ns.length → ∃ m ∈ ns, ∀ y ∈ ns, y ≤ m
  | [], h => by cases h
  | [x], _ => ⟨x, by simp, fun y m => by rw [List.mem_singleton.mp m]; exact Int.le_refl _⟩
  | x :: y :: r, _ => by
    obtain ⟨m, hm, f⟩ := list_max (ns := y :: r) (by simp)
    by_cases h : x ≤ m
    · exact ⟨m, List.mem_cons_of_mem _ hm, fun z hz => by
        rcases List.mem_cons.mp hz with rfl | hz
        · exact h
        · exact f z hz⟩
    · exact ⟨x, List.mem_cons_self, fun z hz => by
        rcases List.mem_cons.mp hz with rfl | hz
        · exact Int.le_refl _
        · have := f z hz
          omega⟩
theorem flat_one {x : V} {n : Nat} : (List.replicate n [x]).flatten = List.replicate n x := by
  induction n with
  | zero => rfl
  | succ n ih =>
    rw [List.replicate_succ, List.replicate_succ, List.flatten_cons, ih]
    rfl
section
variable {P : Program} {w : World} {K : PySem.W.Frag} {mg : Str → Option Value} {base : Heap}
def spLLeft : Sp := fun vs H Q _ => ∃ (v : V) (f : Addr) (a b sg : Int) (net : Net), vs = [v, .ref f, .int sg] ∧ WbC HO.tup H v net ∧ NetOk net ∧ WOk net ∧ net.length ≤ 20 ∧ H f = some (.tup [.int a, .int b]) ∧ (sg = 1 ∨ sg = -1) ∧
  ∀ (u : V) H', Same H H' → (u = .non ∨ ∃ (r : Addr) (ns : List Int), u = .ref r ∧ H' r = some (.lst (ns.map V.int)) ∧ ns.length = net.length) → Q u H'
theorem ok__law_left (T : Top K mg) : FnOk P w K mg base CX0 1 T.f__law_left T.d__law_left ["_law_net", "_law_ratio", "_law_sign"] spLLeft := by
  refine T.D__law_left.F.ok sc__law_left (fun vs H Q E h => ?_) (fun cdv A outer s H vs Q E hr h => ?_)
  · obtain ⟨v, f, a, b, sg, net, rfl, _⟩ := h
    rfl
  obtain ⟨v, f, a, b, sg, net, rfl, ⟨wa, xs, rfl, ea, hx⟩, o, wo, l20, ef, hsg, q⟩ := h
  refine ⟨_, (C8.pss_cut (ps_asg (pv 1) (pg_tup rfl (pgs_cons (pg_name (i := 3) sc__law_left.nd rfl (.inr rfl)) (pgs_cons (pg_name (i := 4) sc__law_left.nd rfl (.inr rfl)) pgs_nil))))
    (C8.pss_cut (ps_set (i := 5) sc__law_left.nd rfl (.inr rfl) (pe_op op_rep (pe_lst (pa_cons pe_int pa_nil)) (pe_callB call_len_seq rfl T.b_len bt_len (pa_cons (pv 0) pa_nil))))
    (pss_cons (ps_for PassesOwn.never rfl (pi_range1 rfl T.b_range (pa_cons (pe_op op_add (pe_callB call_len_seq rfl T.b_len bt_len (pa_cons (pv 0) pa_nil)) pe_int) pa_nil)) (pg_name (i := 6) sc__law_left.nd rfl (.inl rfl))
      (C8.pss_cut (ps_set (i := 7) sc__law_left.nd rfl (.inl rfl) (pe_lst pa_nil))
      (C8.pss_cut (ps_for PassesOwn.never rfl (pi_range1 rfl T.b_range (pa_cons (pe_callB call_len_seq rfl T.b_len bt_len (pa_cons (pv 0) pa_nil)) pa_nil)) (pg_name (i := 8) sc__law_left.nd rfl (.inl rfl))
        (pss_cons (ps_setLc (i := 9) (own := [("_law_weight", 10), ("_law_target", 11)]) (g := (gTup K 2 (gCons (gName 10) (gCons (gName 11) gNil)))) (tt := tYes) rfl sc__law_left.nd rfl rfl (sw_true rfl rfl rfl (by decide +kernel)) (pi_tup (pe_ix ix_tup (pv 0) (pv 8) (fun _ _ => rfl))) (blkOk_by (N := N__law_left) (sc := defScope s__law_left) (by decide +kernel)) (fun _ _ _ _ _ => (pg_tup rfl (pgs_cons (pg_name (i := 10) sc__law_left.nd rfl (Or.inl rfl)) (pgs_cons (pg_name (i := 11) sc__law_left.nd rfl (Or.inl rfl)) pgs_nil)))) (fun _ _ _ _ _ => pts_nil) (fun _ _ _ _ _ => (pe_op op_add (pe_op op_mul (pv 2) (pe_op op_sub (pe_op op_mul (pv 4) (pv 10)) (pv 3))) (pe_ix (r := rIxL K) ix_list (pv 5) (pv 11) (fun _ _ => rfl)))))
        (pss_one (ps_expr (pe_bm PySem.F.plainAttrs_list PySem.F.slot_list_append PySem.F.type_list_append mt_append (pv 7) (pa_cons (pe_callB (cr_max rfl) rfl T.b_max bt_max (pa_cons (pe_op op_cat (pe_lst (pa_cons pe_int pa_nil)) (pv 9)) pa_nil)) pa_nil))))))
      (pss_cons (ps_if (pt_cmpR (op_eqD (hu64 hr)) (pv 7) (pv 5) (nomark _))
        (pss_one (ps_ret (pv 5)))
        pss_nil)
      (pss_one (ps_set (i := 5) sc__law_left.nd rfl (.inr rfl) (pv 7)))))))
    (pss_one (ps_ret pe_non))))), ?_⟩
  have lx : xs.length = net.length := hx.1
  refine ⟨fun σ H' => σ = [some (.ref wa), some (.ref f), some (.int sg), some (.int a), some (.int b), none, none, none, none, none, none, none] ∧ H' = H, ⟨.ref f, rfl, f, _, rfl, SqT.of ef, rfl, .int a, [.int b], rfl, .int b, [], rfl, rfl, rfl, rfl⟩, ?_⟩
  rintro σ H1 ⟨rfl, rfl⟩
  refine ⟨fun σ H' => ∃ (sa : Addr) (ss : List Int), σ = [some (.ref wa), some (.ref f), some (.int sg), some (.int a), some (.int b), some (.ref sa), none, none, none, none, none, none] ∧ Same H1 H' ∧ H' sa = some (.lst (ss.map V.int)) ∧ ss.length = net.length, ?_, ?_⟩
  · refine ⟨(by show 1 ≤ sizeLine; decide), fun p hp => ?_⟩
    have s1 := same_upd (o := .lst [.int 0]) hp
    refine ⟨.ref wa, rfl, wa, xs, rfl, .inr (SqT.of (s1 _ _ ea)), p, xs.length, [.int 0], rfl, rfl, upd_same, by omega, by omega, Nat.le_of_lt (small1000 (by show 1 * ((xs.length : Nat) : Int).toNat ≤ 1000; omega)), fun u hu => ?_⟩
    rw [flat_one]
    refine ⟨u, List.replicate ((xs.length : Nat) : Int).toNat 0, rfl, s1.trans (same_upd hu), ?_, by rw [List.length_replicate]; omega⟩
    rw [upd_same, List.map_replicate]
  rintro σ H2 ⟨sa, ss, rfl, s2, es, ls⟩
  refine ⟨.ref wa, rfl, wa, xs, rfl, .inr (SqT.of (s2 _ _ ea)), _, 1, rfl, rfl, _, rfl, by omega, by omega, for_range (fun i σ H' => ∃ (y6 y7 y8 y9 y10 y11 : Option V) (sa : Addr) (ss : List Int), σ = [some (.ref wa), some (.ref f), some (.int sg), some (.int a), some (.int b), some (.ref sa), y6, y7, y8, y9, y10, y11] ∧ Same H1 H' ∧ H' sa = some (.lst (ss.map V.int)) ∧ ss.length = net.length)
    ⟨_, _, _, _, _, _, sa, ss, rfl, s2, es, ls⟩ (fun i σ H3 _ p => ?_) (fun σ H3 p => ?_)⟩
  · obtain ⟨y6, y7, y8, y9, y10, y11, sa, ss, rfl, s3, es3, ls3⟩ := p
    -- later
    refine ⟨fun σ H' => ∃ la, σ = [some (.ref wa), some (.ref f), some (.int sg), some (.int a), some (.int b), some (.ref sa), some (.int (0 + (i : Int))), some (.ref la), y8, y9, y10, y11] ∧ Same H1 H' ∧ H' sa = some (.lst (ss.map V.int)) ∧ H' la = some (.lst []) ∧ la ≠ sa ∧ H1 la = none, ?_, ?_⟩
    · refine ⟨Nat.zero_le _, fun la hla => ⟨la, rfl, s3.trans (same_upd hla), same_upd hla _ _ es3, upd_same, (ne_of_none es3 hla).symm, s3.free hla⟩⟩
    rintro σ H4 ⟨la, rfl, s4, es4, el4, nls, H1la⟩
    refine ⟨fun σ H' => ∃ (y8 y9 y10 y11 : Option V) (lt : List Int), σ = [some (.ref wa), some (.ref f), some (.int sg), some (.int a), some (.int b), some (.ref sa), some (.int (0 + (i : Int))), some (.ref la), y8, y9, y10, y11] ∧ Same H1 H' ∧ H' sa = some (.lst (ss.map V.int)) ∧ H' la = some (.lst (lt.map V.int)) ∧ lt.length = net.length, ?_, ?_⟩
    · refine ⟨.ref wa, rfl, wa, xs, rfl, .inr (SqT.of (s4 _ _ ea)), _, rfl, by omega, by omega, for_range (fun j σ H' => ∃ (y8 y9 y10 y11 : Option V) (lt : List Int), σ = [some (.ref wa), some (.ref f), some (.int sg), some (.int a), some (.int b), some (.ref sa), some (.int (0 + (i : Int))), some (.ref la), y8, y9, y10, y11] ∧ Same H1 H' ∧ H' sa = some (.lst (ss.map V.int)) ∧ H' la = some (.lst (lt.map V.int)) ∧ lt.length = j)
        ⟨_, _, _, _, [], rfl, s4, es4, el4, rfl⟩ (fun j σ H5 hj p => ?_) (fun σ H5 p => ?_)⟩
      · obtain ⟨z8, z9, z10, z11, lt, rfl, s5, es5, el5, ll5⟩ := p
        have hj2 : j < net.length := by omega
        obtain ⟨ms, hms⟩ : ∃ ms, net[j]? = some ms := ⟨_, List.getElem?_eq_getElem hj2⟩
        have mms : ms ∈ net := List.mem_of_getElem? hms
        obtain ⟨z, ez⟩ : ∃ z, xs[j]? = some z := ⟨_, List.getElem?_eq_getElem (show j < xs.length by omega)⟩
        obtain ⟨nb, ys, rfl, eb, hy⟩ := hx.2 _ _ _ ez hms
        have lm := o.m0 ms mms
        have ip : atI xs (0 + (j : Int)) = some (.ref nb) := by
          rw [Int.zero_add]
          exact atI_nat (j := j) ez
        refine ⟨.ref wa, rfl, .int (0 + (j : Int)), rfl, wa, xs, _, .ref nb, rfl, rfl, SqT.of (s5 _ _ ea), ip, nb, rfl, ⟨ys, SqT.of (s5 _ _ eb)⟩, fun D hD => ?_⟩
        have nDl : la ≠ D := ne_of_none el5 hD
        have nDs : sa ≠ D := ne_of_none es5 hD
        refine lc_tup (xs := ys) (fun i H' => Same H5 H' ∧ ∃ ts : List Int, H' D = some (.lst (ts.map V.int)) ∧ ts.length = i) ⟨same_upd hD, [], upd_same, rfl⟩ (fun i H' _ p => SqT.of (p.1 _ _ (s5 _ _ eb))) (fun i y H' hyi p => ?_) (fun H6 p => ?_)
        · obtain ⟨s6, ts, eD, lts⟩ := p
          have hi : i < ms.length := by
            rw [← hy.1]
            exact (List.getElem?_eq_some_iff.mp hyi).1
          obtain ⟨m, hm⟩ : ∃ m, ms[i]? = some m := ⟨_, List.getElem?_eq_getElem hi⟩
          obtain ⟨d, rfl, ed⟩ := hy.2 _ _ _ hyi hm
          have mm := List.mem_of_getElem? hm
          have bu := o.tg ms mms m mm
          have wu := wo ms mms m mm
          have nu : atI (ss.map V.int) m.2 = some (.int (ss.getD m.2.toNat 0)) := ints_at bu.1 (by omega)
          refine ⟨d, [.int m.1, .int m.2], rfl, SqT.of (s6 _ _ (s5 _ _ ed)), rfl, .int m.1, [.int m.2], rfl, .int m.2, [], rfl, rfl, ?_⟩
          refine ⟨rfl, .int sg, rfl, .int b, rfl, .int m.1, rfl, b, m.1, rfl, rfl, .inr ⟨by omega, by omega⟩, .int a, rfl, _, a, rfl, rfl, sg, _, rfl, rfl, .inl ⟨by omega, by omega⟩, .ref sa, rfl, .int m.2, rfl, sa, _, m.2, _, rfl, rfl, SqL.of (s6 _ _ es5), nu, _, _, rfl, rfl, _, eD, small1000 (by rw [List.length_map]; omega), fun u z e => ?_, ts ++ [sg * (b * m.1 - a) + ss.getD m.2.toNat 0], ?_, ?_⟩
          · rw [upd_ne (ne_of_none e hD)]
            exact s6 _ _ e
          · rw [upd_same, List.map_append]
            rfl
          · rw [List.length_append, lts]
            rfl
        · obtain ⟨s6, ts, eD, lts⟩ := p
          have el6 := s6 _ _ el5
          refine ⟨.ref la, rfl, .inl ⟨rfl, _, .inl (.inl el6)⟩, (by show 1 ≤ sizeLine; decide), fun p hp => ?_⟩
          have s7 := same_upd (o := .lst [.int 0]) hp
          refine ⟨.ref D, rfl, p, D, [.int 0], ts.map V.int, rfl, rfl, upd_same, s7 _ _ eD, Nat.le_of_lt (small1000 (by rw [List.length_map]; show 1 + ts.length ≤ 1000; rw [lts, hy.1]; omega)), fun u hu => ?_⟩
          have s8 := same_upd (o := .lst ([.int 0] ++ ts.map V.int)) hu
          obtain ⟨m, hm, fm⟩ := list_max (ns := 0 :: ts) (by simp)
          refine ⟨u, 0 :: ts, rfl, SqL.of (by rw [upd_same]; rfl), by simp, fun m' hm' fm' => ?_⟩
          have el8 := s8 _ _ (s7 _ _ el6)
          refine ⟨la, _, _, rfl, rfl, el8, small1000 (by rw [List.length_map]; omega), _, _, _, _, lt ++ [m'], rfl, Same.at_new ((s5.trans s6).trans (s7.trans s8)) H1la, ?_, ?_, ?_⟩
          · rw [upd_ne nls.symm]
            exact s8 _ _ (s7 _ _ (s6 _ _ es5))
          · rw [upd_same, List.map_append]
            rfl
          · rw [List.length_append, ll5]
            rfl
      · obtain ⟨z8, z9, z10, z11, lt, rfl, s5, es5, el5, ll5⟩ := p
        exact ⟨z8, z9, z10, z11, lt, rfl, s5, es5, el5, by omega⟩
    rintro σ H5 ⟨z8, z9, z10, z11, lt, rfl, s5, es5, el5, ll5⟩
    obtain ⟨p1, p2⟩ := flat_shaped (K := K) (SqL.of el5) (ints_flat (ns := lt))
    obtain ⟨q1, q2⟩ := flat_shaped (K := K) (SqL.of es5) (ints_flat (ns := ss))
    refine ⟨.ref la, rfl, .ref sa, rfl, _, _, p1, q1, p2, q2, _, rfl, ite2 (fun _ => ?_) (fun _ => ?_)⟩
    · exact ⟨.ref sa, rfl, q _ _ s5 (.inr ⟨sa, ss, rfl, es5, ls3⟩)⟩
    · exact ⟨.ref la, rfl, _, _, _, _, _, _, la, lt, rfl, s5, el5, ll5⟩
  · obtain ⟨y6, y7, y8, y9, y10, y11, sa, ss, rfl, s3, es3, ls3⟩ := p
    exact q _ _ s3 (.inl rfl)
end
end K09

set_option Elab.async false
set_option linter.all false
set_option maxRecDepth 100000
set_option maxHeartbeats 1000000
namespace Rep
open PySem PySem.Spec PyProof.Rows L2
/-! ### a tuple times a number that may be one: the tuple itself then -/
theorem tuple_mul1 (l : Addr) (items : Array Value) (n : Nat) (dd : Option Addr) (sl : Array (Option Value)) (u : Tok) :
    Meets (Builtin.«tuple.__mul__» ⟨[.ref l, .int 1 u], []⟩) (fun _ R s => s.heap.get? l = some { cls := .type "tuple", dict := dd, data := .seq items n, slots := sl } ∧ R (.ok (.ret (Value.ref l))) s) :=
  .of_wp fun prog w A R s h => by
    obtain ⟨hp, g, d, tk, os⟩ := s
    obtain ⟨hl, h⟩ := h
    have f1 := AutoSeq1.idx_int
    wp_walk using wpAny_loadPart' hl
    repeat (first
      | (refine wpAny_ite_false (decide_eq_false (by simp)) ?_; wp_walk using wpAny_loadPart' hl)
      | (refine wpAny_ite_true (decide_eq_true (by simp)) ?_; wp_walk using wpAny_loadPart' hl))
    exact ⟨_, rfl, h⟩
def rRepA (K : PySem.W.Frag) : R2 := fun x y H Q => ∃ l k xs, x = .ref l ∧ y = .int k ∧ SqT K H l xs ∧ xs ≠ [] ∧ 1 ≤ k ∧ k ≤ 1000 ∧ xs.length ≤ 1000 ∧ (k = 1 → Q (.ref l) H) ∧ ∀ p, H p = none → Q (.ref p) (upd H p (.tup (List.replicate k.toNat xs).flatten))
section
variable {X : Cx}
theorem op_repA : OpR X (binaryOp .Mult) (rRepA X.K) := by
  intro pins s σ H x y v u Q I rx ry h
  obtain ⟨l, k, xs, rfl, rfl, hT, hne, h1, h2, hz, q1, q⟩ := h
  by_cases hk : 2 ≤ k
  · exact op_repT pins s σ H _ _ v u Q I rx ry ⟨l, k, xs, rfl, rfl, hT, hne, hk, h2, hz, q⟩
  · have e1 : k = 1 := by omega
    subst e1
    cases rx
    obtain ⟨t, rfl⟩ := ry
    obtain ⟨its, r, ⟨⟨cls, dd, data, sl⟩, ho, hc, n, hd⟩, hs⟩ := I.tuple hT
    simp only at hc hd
    subst hc hd
    refine wpAny_binaryOp_repeat_ref (T := "tuple") (U := "int") (by decide) ⟨_, ho, rfl⟩ (fun s' => typeIs_int s' 1 t) noFill_tuple_mul F.fills_int_mul F.slot_int_rmul repeat_tuple F.slot_int_index.lookup
      (call_meets F.slot_int_rmul (typeIs_int s 1 t) F.entry_int_rmul (F.args_int_rmul_2 _ _) (int_rmul_tuple 1 t l its.toArray n dd sl)
        ⟨ho, rfl, ⟨_, ho, rfl⟩, call_meets F.slot_tuple_mul ⟨_, ho, rfl⟩ F.entry_tuple_mul (F.args_tuple_mul_2 _ _) (tuple_mul1 l its.toArray n dd sl t) ⟨ho, ?_⟩⟩)
    exact ⟨.ref l, H, I, rfl, q1 rfl⟩
end
end Rep

set_option Elab.async false
set_option linter.all false
set_option maxRecDepth 100000
set_option maxHeartbeats 1000000
namespace K09
open PySem PySem.Spec PyProof.Rows L2 LamX NdefX Clo Rep
theorem FlatOk.kn {h : Addr} {H : Hp} {v : V} (f : FlatOk v) : Kn h H v := by
  obtain ⟨f, _⟩ := f
  cases v with
  | non => exact .non
  | bl b => exact .bl b
  | int i => exact .int i
  | str x => exact .str x
  | _ => cases f
theorem FlatOk.ints {i : Int} : FlatOk (.int i) := ⟨rfl, fun _ z => nomatch z⟩
def Thing (h : Addr) (H : Hp) (x : V) : Prop := Kn h H x ∧ ∀ ys, tupOf H x = some ys → ∀ y ∈ ys, FlatOk y
theorem Thing.same {h : Addr} {H H' : Hp} (s : Same H H') {x : V} (t : Thing h H x) : Thing h H' x := ⟨t.1.same s, fun ys e => t.2 ys (by rw [← t.1.tupOf_same s]; exact e)⟩
theorem Thing.tup {h : Addr} {H : Hp} {a : Addr} {xs : List V} (e : H a = some (.tup xs)) (z : xs.length ≤ 1000) (f : ∀ x ∈ xs, FlatOk x) : Thing h H (.ref a) :=
  ⟨.tup a xs e z fun x m => (f x m).kn, fun ys ey => by rw [tupOf_ref e] at ey; cases ey; exact f⟩
theorem Thing.flat {h : Addr} {H : Hp} {x : V} (f : FlatOk x) : Thing h H x := ⟨f.kn, fun ys e => by
  obtain ⟨f, _⟩ := f
  cases x <;> first | (cases e; done) | (cases f; done)⟩
theorem Thing.lst {h : Addr} {H : Hp} {a : Addr} {xs : List V} (e : H a = some (.lst xs)) (n : a ≠ h) : Thing h H (.ref a) := ⟨.lst a xs n e, fun ys z => by
  unfold tupOf at z
  simp only [e] at z
  cases z⟩
/-! ### readings that give a flat list, a flat tuple, a thing -/
def GL (H0 : Hp) (t : TE) (σ : L2.St) (n : Nat) : Prop := ∀ (H : Hp) (Q : VK), Same H0 H → (∀ a xs H', Same H H' → H' a = some (.lst xs) → (∀ x ∈ xs, FlatOk x) → xs.length ≤ n → Q (.ref a) H') → t σ H Q
def GT (H0 : Hp) (t : TE) (σ : L2.St) (n : Nat) : Prop := ∀ (H : Hp) (Q : VK), Same H0 H → (∀ a xs H', Same H H' → H' a = some (.tup xs) → (∀ x ∈ xs, FlatOk x) → xs.length ≤ n → Q (.ref a) H') → t σ H Q
def GP (H0 : Hp) (t : TO) (σ : L2.St) : Prop := ∀ (H : Hp) (Q : Option Int → Hp → Prop), Same H0 H → (∀ o H', Same H H' → Q o H') → t σ H Q
def GV (h : Addr) (H0 : Hp) (t : TE) (σ : L2.St) : Prop := ∀ (H : Hp) (Q : VK), Same H0 H → (∀ x H', Same H H' → Thing h H' x → Q x H') → t σ H Q
def GVs (h : Addr) (H0 : Hp) (n : Nat) (t : TA) (σ : L2.St) : Prop := ∀ (H : Hp) (Q : List V → Hp → Prop), Same H0 H → (∀ xs H', Same H H' → (∀ x ∈ xs, Thing h H' x) → xs.length = n → Q xs H') → t σ H Q
section
variable {h : Addr} {H0 : Hp} {σ : L2.St} {K : PySem.W.Frag} {te ta tb : TE} {tl th : TO} {tr : TA} {n m : Nat} {a : Addr} {xs : List V} {i : Nat} {j : Int} {c : V}
theorem GP.no : GP H0 tNoPart σ := fun H Q s q => q none H (Same.refl _)
theorem GP.var (e : σ[i]? = some (some (.int j))) : GP H0 (tPart (tVar i)) σ := fun H Q s q => ⟨_, e, j, rfl, q _ _ (Same.refl _)⟩
theorem GP.one : GP H0 (tPart (tC (.int j))) σ := fun H Q s q => ⟨j, rfl, q _ _ (Same.refl _)⟩
theorem GP.add (e : σ[i]? = some (some (.int j))) {k : Int} : GP H0 (tPart (tOp (rI0 fun i j => .int (i + j)) (tVar i) (tC (.int k)))) σ := fun H Q s q => ⟨_, e, j, k, rfl, rfl, _, rfl, q _ _ (Same.refl _)⟩
theorem GL.var (e : σ[i]? = some (some (.ref a))) (ea : H0 a = some (.lst xs)) (f : ∀ x ∈ xs, FlatOk x) (l : xs.length ≤ n) : GL H0 (tVar i) σ n := fun H Q s q => ⟨_, e, q a xs H (Same.refl _) (s _ _ ea) f l⟩
theorem GT.var (e : σ[i]? = some (some (.ref a))) (ea : H0 a = some (.tup xs)) (f : ∀ x ∈ xs, FlatOk x) (l : xs.length ≤ n) : GT H0 (tVar i) σ n := fun H Q s q => ⟨_, e, q a xs H (Same.refl _) (s _ _ ea) f l⟩
theorem GL.slice (ga : GL H0 te σ n) (pl : GP H0 tl σ) (pu : GP H0 th σ) : GL H0 (tSl (rSlL K) te tl th) σ n := fun H Q s q =>
  ga H _ s fun x xs H1 s1 ea f l => pl H1 _ (s.trans s1) fun lo H2 s2 => pu H2 _ (s.trans (s1.trans s2)) fun hi H3 s3 =>
    ⟨x, xs, rfl, SqL.of ((s2.trans s3) _ _ ea), fun p hp => q p _ _ (s1.trans (s2.trans (s3.trans (same_upd hp)))) upd_same (fun y m => f y (List.mem_of_mem_drop (List.mem_of_mem_take m))) (Nat.le_trans (cutV_length ..) l)⟩
theorem GL.cat (ga : GL H0 ta σ n) (gb : GL H0 tb σ m) (hnm : n + m ≤ 1000 := by omega) : GL H0 (tOp rCat ta tb) σ (n + m) := fun H Q s q =>
  ga H _ s fun p xs H1 s1 ep fp lp => gb H1 _ (s.trans s1) fun r ys H2 s2 er fr lr => ⟨p, r, xs, ys, rfl, rfl, s2 _ _ ep, er, Nat.le_of_lt (small1000 (by omega)), fun u hu =>
    q u _ _ (s1.trans (s2.trans (same_upd hu))) upd_same (fun x mx => by
      rcases List.mem_append.mp mx with mx | mx
      · exact fp x mx
      · exact fr x mx) (by rw [List.length_append]; omega)⟩
theorem GL.one (ga : ∀ (H : Hp) (Q : VK), Same H0 H → (∀ i : Int, Q (.int i) H) → te σ H Q) : GL H0 (tLst (tCons te tNil)) σ 1 := fun H Q s q =>
  ga H _ s fun i => ⟨(by show 1 ≤ sizeLine; decide), fun p hp => q p [.int i] _ (same_upd hp) upd_same (fun x mx => by rw [List.mem_singleton.mp mx]; exact .ints) (Nat.le_refl _)⟩
theorem GL.rev (ga : GL H0 te σ n) : GL H0 (tRevL K te) σ n := fun H Q s q =>
  ga H _ s fun p xs H1 s1 e f l => ⟨p, xs, rfl, SqL.of e, fun u hu => q u _ _ (s1.trans (same_upd hu)) upd_same (fun x mx => f x (List.mem_reverse.mp mx)) (by rw [List.length_reverse]; exact l)⟩
theorem GT.ofL (ga : GL H0 te σ n) : GT H0 (tThen te (kTup K)) σ n := fun H Q s q =>
  ga H _ s fun p xs H1 s1 e f l => .inl ⟨p, xs, rfl, SqL.of e, fun u hu => q u xs _ (s1.trans (same_upd hu)) upd_same f l⟩
theorem GT.lit (f : FlatOk c) : GT H0 (tTup (tCons (tC c) tNil)) σ 1 := fun H Q s q =>
  ⟨(by show 1 ≤ sizeLine; decide), fun p hp => q p [c] _ (same_upd hp) upd_same (fun x mx => by rw [List.mem_singleton.mp mx]; exact f) (Nat.le_refl _)⟩
theorem GT.nil : GT H0 (tTup tNil) σ 0 := fun H Q s q =>
  ⟨Nat.zero_le _, fun p hp => q p [] _ (same_upd hp) upd_same (fun x mx => by cases mx) (Nat.le_refl _)⟩
theorem GT.cat (ga : GT H0 ta σ n) (gb : GT H0 tb σ m) (hnm : n + m ≤ 1000 := by omega) : GT H0 (tOp (rCatA K) ta tb) σ (n + m) := fun H Q s q =>
  ga H _ s fun p xs H1 s1 ep fp lp => gb H1 _ (s.trans s1) fun r ys H2 s2 er fr lr => ⟨p, r, xs, ys, rfl, rfl, SqT.of (s2 _ _ ep), SqT.of er, Nat.le_of_lt (small1000 (by omega)),
    fun _ => q r ys _ (s1.trans s2) er fr (by omega), fun _ _ => q p xs _ (s1.trans s2) (s2 _ _ ep) fp (by omega), fun _ _ u hu =>
    q u _ _ (s1.trans (s2.trans (same_upd hu))) upd_same (fun x mx => by
      rcases List.mem_append.mp mx with mx | mx
      · exact fp x mx
      · exact fr x mx) (by rw [List.length_append]; omega)⟩
theorem GT.rep (f : FlatOk c) (e : σ[i]? = some (some (.int j))) (h1 : 1 ≤ j) (h2 : j ≤ 1000) : GT H0 (tOp (rRepA K) (tTup (tCons (tC c) tNil)) (tVar i)) σ 1000 := fun H Q s q =>
  ⟨(by show 1 ≤ sizeLine; decide), fun p hp => ⟨_, e, p, j, [c], rfl, rfl, SqT.of upd_same, by simp, h1, h2, (by show 1 ≤ 1000; decide), fun _ => q p [c] _ (same_upd hp) upd_same (fun x mx => by rw [List.mem_singleton.mp mx]; exact f) (by show 1 ≤ 1000; decide), fun u hu => by
    rw [flat_one]
    exact q u _ _ ((same_upd hp).trans (same_upd hu)) upd_same (fun x mx => by rw [(List.mem_replicate.mp mx).2]; exact f) (by rw [List.length_replicate]; omega)⟩⟩
theorem GV.ofT (ga : GT H0 te σ n) (hn : n ≤ 1000 := by omega) : GV h H0 te σ := fun H Q s q => ga H _ s fun p xs H1 s1 e f l => q _ _ s1 (.tup e (by omega) f)
theorem GV.lit (f : FlatOk c) : GV h H0 (tC c) σ := fun H Q s q => q c H (Same.refl _) (.flat f)
theorem GV.var {v : V} (e : σ[i]? = some (some v)) (t : Thing h H0 v) : GV h H0 (tVar i) σ := fun H Q s q => ⟨_, e, q v H (Same.refl _) (t.same s)⟩
theorem GVs.nil : GVs h H0 0 tNil σ := fun H Q s q => q [] H (Same.refl _) (fun x m => by cases m) rfl
theorem GVs.cons (a : GV h H0 ta σ) (b : GVs h H0 n tr σ) : GVs h H0 (n + 1) (tCons ta tr) σ := fun H Q s q =>
  a H _ s fun x H1 s1 k1 => b H1 _ (s.trans s1) fun xs H2 s2 k2 e => q (x :: xs) H2 (s1.trans s2) (fun y m => by
    rcases List.mem_cons.mp m with rfl | m
    · exact k1.same s2
    · exact k2 y m) (by rw [List.length_cons, e])
theorem GVs.run {H : Hp} {Q : VK} (a : GVs h H0 n tr σ) (s : Same H0 H) (d : ∃ o, H0 h = some o) (hn : n ≤ 500) (q : ∀ p xs H', Same H H' → H' p = some (.lst xs) → p ≠ h → xs.length = n → (∀ x ∈ xs, Thing h H' x) → Q (.ref p) H') : tLst tr σ H Q :=
  a H _ s fun xs H1 s1 k1 e => ⟨Nat.le_of_lt (small1000 (by omega)), fun p hp => q p xs _ (s1.trans (same_upd hp)) upd_same (fun z => by
    obtain ⟨o, eo⟩ := d
    have := s1 _ _ (s _ _ eo)
    rw [← z, hp] at this
    cases this) e fun x m => (k1 x m).same (same_upd hp)⟩
theorem GVs.cat {H : Hp} {Q : VK} {p : Addr} {ys : List V} (e : σ[i]? = some (some (.ref p))) (ep : H p = some (.lst ys)) (kp : ∀ x ∈ ys, Thing h H x) (hy : ys.length ≤ 400) (g : GVs h H0 n tr σ) (s : Same H0 H) (d : ∃ o, H0 h = some o) (hn : n ≤ 400)
    (q : ∀ u zs H', Same H H' → H' u = some (.lst zs) → u ≠ h → zs.length = ys.length + n → (∀ x ∈ zs, Thing h H' x) → Q (.ref u) H') : tOp rCat (tVar i) (tLst tr) σ H Q :=
  ⟨.ref p, e, GVs.run g s d (by omega) fun r xs H1 s1 er nr lr kr => ⟨p, r, ys, xs, rfl, rfl, s1 _ _ ep, er, Nat.le_of_lt (small1000 (by omega)), fun u hu =>
    q u (ys ++ xs) _ (s1.trans (same_upd hu)) upd_same (fun z => by
      obtain ⟨o, eo⟩ := d
      have := s1 _ _ (s _ _ eo)
      rw [← z, hu] at this
      cases this) (by rw [List.length_append, lr]) fun x m => by
      rcases List.mem_append.mp m with m | m
      · exact (kp x m).same (s1.trans (same_upd hu))
      · exact (kr x m).same (same_upd hu)⟩⟩
end
end K09

set_option Elab.async false
set_option linter.all false
set_option maxRecDepth 100000
set_option maxHeartbeats 2000000
namespace K09
open PySem PySem.Spec PyProof.Rows L2 LamX NdefX Clo Rep
def rIsN0 : R2 := fun x y H Q => y = .non ∧ Q (.bl (decide (x = .non))) H
theorem op_isN0 {X : Cx} : OpR X (compareOp .Is) rIsN0 := op_isN
theorem lit_str {x : Str} (h : PyData.canLay0 (.str x) = true) : FlatOk (.str x) := ⟨rfl, fun y e => by cases e; exact h⟩
theorem lit_bl {b : Bool} : FlatOk (.bl b) := ⟨rfl, fun _ z => nomatch z⟩
theorem lit_non : FlatOk .non := ⟨rfl, fun _ z => nomatch z⟩
section
variable {K : PySem.W.Frag} {H0 : Hp} {te : TE} {a : Addr} {ns : List Int} {y0 y1 y2 y3 y4 y6 y7 y8 y9 y10 y11 y12 : Option V}
theorem GL.lc (ea : H0 a = some (.lst (ns.map V.int))) (l : ns.length ≤ 1000)
    (hte : ∀ (j : Int) (H : Hp) (Q : VK), (∀ i : Int, Q (.int i) H) → te [y0, y1, y2, y3, y4, some (.ref a), y6, some (.int j), y8, y9, y10, y11, y12] H Q) :
    GL H0 (tLc (iList K (tVar 5)) (gName 7) tYes te [7]) [y0, y1, y2, y3, y4, some (.ref a), y6, y7, y8, y9, y10, y11, y12] ns.length := fun H Q s q => by
  refine ⟨.ref a, rfl, a, rfl, ⟨_, SqL.of (s _ _ ea)⟩, fun D hD => lc_list (xs := ns.map V.int) (fun i H' => Same H H' ∧ ∃ ts : List Int, H' D = some (.lst (ts.map V.int)) ∧ ts.length = i) ⟨same_upd hD, [], upd_same, rfl⟩ (fun i H' _ p => SqL.of (p.1 _ _ (s _ _ ea))) (fun i y H' hy p => ?_) (fun H' p => ?_)⟩
  · obtain ⟨s1, ts, eD, lts⟩ := p
    obtain ⟨j, _, rfl⟩ := List.mem_map.mp (List.mem_of_getElem? hy)
    have hi : i < ns.length := by
      rw [← List.length_map (as := ns) V.int]
      exact (List.getElem?_eq_some_iff.mp hy).1
    refine ⟨rfl, hte j H' _ fun k => ⟨_, eD, small1000 (by rw [List.length_map]; omega), fun u z e => ?_, ts ++ [k], ?_, ?_⟩⟩
    · rw [upd_ne (ne_of_none e hD)]
      exact s1 _ _ e
    · rw [upd_same, List.map_append]
      rfl
    · rw [List.length_append, lts]
      rfl
  · obtain ⟨s1, ts, eD, lts⟩ := p
    rw [List.length_map] at lts
    exact q D _ H' s1 eD ints_flat (by rw [List.length_map]; omega)
end
section
variable {P : Program} {w : World} {K : PySem.W.Frag} {mg : Str → Option Value} {base : Heap}
def spThings : Sp := fun vs H Q _ => ∃ (d f : Addr) (t a b sg : Int) (v : V) (net : Net), vs = [.ref d, v, .ref f, .int sg] ∧ t ≤ 100000000 ∧ Deck d t H ∧ WbC HO.tup H v net ∧ NetOk net ∧ WOk net ∧ net.length ≤ 20 ∧ H f = some (.tup [.int a, .int b]) ∧ (sg = 1 ∨ sg = -1) ∧
  ∀ (r : Addr) (ys : List V) H', But d H H' → Deck d (t + 100) H' → H' r = some (.lst ys) → r ≠ d → ys.length ≤ 1000 → (∀ y ∈ ys, Thing d H' y) → Q (.ref r) H'
theorem ok__law_things (T : Top K mg) : FnOk P w K mg base CX0 2 T.f__law_things T.d__law_things ["_law_deck", "_law_net", "_law_ratio", "_law_sign"] spThings := by
  have G__law_draw : FnOk P w K mg base CX0 1 T.f__law_draw T.d__law_draw ["_law_deck", "_law_many"] spDraw := ok_draw T
  have G__law_left : FnOk P w K mg base CX0 1 T.f__law_left T.d__law_left ["_law_net", "_law_ratio", "_law_sign"] spLLeft := ok__law_left T
  refine T.D__law_things.F.ok sc__law_things (fun vs H Q E h => ?_) (fun cdv A outer s H vs Q E hr h => ?_)
  · obtain ⟨d, f, t, a, b, sg, v, net, rfl, _⟩ := h
    rfl
  obtain ⟨d, f, t, a, b, sg, v, net, rfl, ht, dk, ⟨wa, xs, rfl, ea, hx⟩, o, wo, l20, ef, hsg, q⟩ := h
  refine ⟨_, (C8.pss_cut (ps_set (i := 4) sc__law_things.nd rfl (.inl rfl) (pe_callB call_len_seq rfl T.b_len bt_len (pa_cons (pv 1) pa_nil)))
    (C8.pss_cut (ps_set (i := 5) sc__law_things.nd rfl (.inl rfl) (pe_call G__law_left (hr.mono (by omega)) rfl T.D__law_left.g T.D__law_left.F.kp T.D__law_left.b .nil pass0 (pa_cons (pv 1) (pa_cons (pv 2) (pa_cons (pv 3) pa_nil)))))
    (C8.pss_cut (ps_if (pt_cmpR op_isN0 (pv 5) pe_non (nomark _))
      (pss_one (ps_setLc (i := 5) (own := [("_law_node", 6)]) (g := (gName 6)) (tt := tYes) rfl sc__law_things.nd rfl rfl (sw_true rfl rfl rfl (by decide +kernel)) (pi_range1 rfl T.b_range (pa_cons (pv 4) pa_nil)) (blkOk_by (N := N__law_things) (sc := defScope s__law_things) (by decide +kernel)) (fun _ _ _ _ _ => (pg_name (i := 6) sc__law_things.nd rfl (Or.inl rfl))) (fun _ _ _ _ _ => pts_nil) (fun _ _ _ _ _ => (pe_call G__law_draw (hr.mono (by omega)) rfl T.D__law_draw.g T.D__law_draw.F.kp T.D__law_draw.b .nil pass0 (pa_cons (pv 0) (pa_cons pe_int pa_nil))))))
      pss_nil)
    (C8.pss_cut (ps_setLc (i := 5) (own := [("_law_number", 7)]) (g := (gName 7)) (tt := tYes) rfl sc__law_things.nd rfl rfl (sw_true rfl rfl rfl (by decide +kernel)) (pi_list (pv 5)) (blkOk_by (N := N__law_things) (sc := defScope s__law_things) (by decide +kernel)) (fun _ _ _ _ _ => (pg_name (i := 7) sc__law_things.nd rfl (Or.inl rfl))) (fun _ _ _ _ _ => pts_nil) (fun _ _ _ _ _ => (pe_op op_mul (pv 3) (pv 7))))
    (C8.pss_cut (ps_asg (pe_tup (pa_cons (pe_call G__law_draw (hr.mono (by omega)) rfl T.D__law_draw.g T.D__law_draw.F.kp T.D__law_draw.b .nil pass0 (pa_cons (pv 0) (pa_cons (pv 4) pa_nil))) (pa_cons (pe_ix ix_list (pe_lst (pa_cons pe_int (pa_cons (pe_un un_neg pe_int) (pa_cons (pe_op op_pow pe_int pe_int) pa_nil)))) (pe_call G__law_draw (hr.mono (by omega)) rfl T.D__law_draw.g T.D__law_draw.F.kp T.D__law_draw.b .nil pass0 (pa_cons (pv 0) (pa_cons pe_int pa_nil))) (fun _ _ => rfl)) pa_nil))) (pg_tup rfl (pgs_cons (pg_name (i := 8) sc__law_things.nd rfl (.inl rfl)) (pgs_cons (pg_name (i := 9) sc__law_things.nd rfl (.inr rfl)) pgs_nil))))
    (C8.pss_cut (ps_set (i := 10) sc__law_things.nd rfl (.inl rfl) (pe_tupleK (K := K) rfl rfl T.b_tuple (pe_lc (own := [("_law_number", 7)]) (g := (gName 7)) (tt := tYes) rfl sc__law_things.nd (pi_list (pv 5)) (blkOk_by (N := N__law_things) (sc := defScope s__law_things) (by decide +kernel)) (fun _ _ _ _ _ => (pg_name (i := 7) sc__law_things.nd rfl (Or.inl rfl))) (fun _ _ _ _ _ => pts_nil) (fun _ _ _ _ _ => (pe_op op_add (pv 7) (pv 9))))))
    (C8.pss_cut (ps_set (i := 11) sc__law_things.nd rfl (.inl rfl) (pe_tupleK (K := K) rfl rfl T.b_tuple (pe_op op_cat (pe_op op_cat (pe_slice sl_list (pv 5) po_none (po_some (pv 8))) (pe_lst (pa_cons (pe_op op_add (pe_ix ix_list (pv 5) (pv 8) (fun _ _ => rfl)) (pv 9)) pa_nil))) (pe_slice sl_list (pv 5) (po_some (pe_op op_add (pv 8) pe_int)) po_none))))
    (C8.pss_cut (ps_set (i := 12) sc__law_things.nd rfl (.inl rfl) (pe_lst (pa_cons (pe_tupleK (K := K) rfl rfl T.b_tuple (pv 5)) (pa_cons (pv 10) (pa_cons (pv 11) (pa_cons (pe_tupleK (K := K) rfl rfl T.b_tuple (pe_revL (pv 5))) (pa_cons (pe_tupleK (K := K) rfl rfl T.b_tuple (pe_lc (own := [("_law_number", 7)]) (g := (gName 7)) (tt := tYes) rfl sc__law_things.nd (pi_list (pv 5)) (blkOk_by (N := N__law_things) (sc := defScope s__law_things) (by decide +kernel)) (fun _ _ _ _ _ => (pg_name (i := 7) sc__law_things.nd rfl (Or.inl rfl))) (fun _ _ _ _ _ => pts_nil) (fun _ _ _ _ _ => (pe_un un_neg (pv 7))))) (pa_cons (pe_op Rep.op_repA (pe_tup (pa_cons pe_int pa_nil)) (pv 4)) pa_nil))))))))
    (C8.pss_cut (ps_set (i := 12) sc__law_things.nd rfl (.inl rfl) (pe_op op_cat (pv 12) (pe_lst (pa_cons (pv 5) (pa_cons (pe_tupleK (K := K) rfl rfl T.b_tuple (pe_slice sl_list (pv 5) (po_some pe_int) po_none)) (pa_cons (pe_op op_catA (pe_tupleK (K := K) rfl rfl T.b_tuple (pv 5)) (pe_tup (pa_cons pe_int pa_nil))) (pa_cons pe_non (pa_cons pe_bl (pa_cons pe_str (pa_cons (pe_tup pa_nil) (pa_cons (pe_op Rep.op_repA (pe_tup (pa_cons pe_non pa_nil)) (pv 4)) (pa_cons (pe_op Rep.op_repA (pe_tup (pa_cons pe_bl pa_nil)) (pv 4)) pa_nil))))))))))))
    (pss_one (ps_ret (pe_op op_cat (pv 12) (pe_lst (pa_cons (pe_op op_catA (pe_op op_catA (pe_tupleK (K := K) rfl rfl T.b_tuple (pe_slice sl_list (pv 5) po_none (po_some (pv 8)))) (pe_tup (pa_cons pe_str pa_nil))) (pe_tupleK (K := K) rfl rfl T.b_tuple (pe_slice sl_list (pv 5) (po_some (pe_op op_add (pv 8) pe_int)) po_none))) (pa_cons (pe_op op_catA (pe_op op_catA (pe_tupleK (K := K) rfl rfl T.b_tuple (pe_slice sl_list (pv 5) po_none (po_some (pv 8)))) (pe_tup (pa_cons pe_bl pa_nil))) (pe_tupleK (K := K) rfl rfl T.b_tuple (pe_slice sl_list (pv 5) (po_some (pe_op op_add (pv 8) pe_int)) po_none))) pa_nil))))))))))))))), ?_⟩
  have lx : xs.length = net.length := hx.1
  have lp : 0 < net.length := o.n0
  -- the size
  refine ⟨fun σ H' => σ = [some (.ref d), some (.ref wa), some (.ref f), some (.int sg), some (.int (net.length : Nat)), none, none, none, none, none, none, none, none] ∧ H' = H, ?_, ?_⟩
  · refine ⟨.ref wa, rfl, wa, xs, rfl, .inr (SqT.of ea), ?_, rfl⟩
    rw [lx]
    rfl
  rintro σ H1 ⟨rfl, rfl⟩
  -- what is left
  refine ⟨fun σ H' => ∃ u, σ = [some (.ref d), some (.ref wa), some (.ref f), some (.int sg), some (.int (net.length : Nat)), some u, none, none, none, none, none, none, none] ∧ Same H1 H' ∧ (u = .non ∨ ∃ (r : Addr) (ns : List Int), u = .ref r ∧ H' r = some (.lst (ns.map V.int)) ∧ ns.length = net.length), ?_, ?_⟩
  · exact ⟨.ref wa, rfl, .ref f, rfl, .int sg, rfl, .ref wa, f, a, b, sg, net, rfl, ⟨wa, xs, rfl, ea, hx⟩, o, wo, l20, ef, hsg, fun u H' s hu => ⟨u, rfl, s, hu⟩⟩
  rintro σ H2 ⟨u, rfl, s2, hu⟩
  -- none is left: drawn
  refine ⟨fun σ H' => ∃ (r : Addr) (ns : List Int), σ = [some (.ref d), some (.ref wa), some (.ref f), some (.int sg), some (.int (net.length : Nat)), some (.ref r), none, none, none, none, none, none, none] ∧ But d H1 H' ∧ Deck d (t + 20) H' ∧ H' r = some (.lst (ns.map V.int)) ∧ ns.length = net.length, ?_, ?_⟩
  · refine ⟨u, rfl, rfl, _, rfl, ite2 (fun c => ?_) (fun c => ?_)⟩
    · refine ⟨.int (net.length : Nat), rfl, _, rfl, by omega, by omega, fun D hD => lc_range (n := net.length) (fun i H' => But d H1 H' ∧ Deck d (t + i) H' ∧ ∃ ts : List Int, H' D = some (.lst (ts.map V.int)) ∧ ts.length = i) ?_ (fun i H3 hi p => ?_) (fun H3 p => ?_)⟩
      · have s3 := same_upd (o := .lst []) hD
        exact ⟨.of (s2.trans s3), ((dk.same s2).same s3).mono (by omega), [], upd_same, rfl⟩
      · obtain ⟨b3, k3, ts, eD, lts⟩ := p
        have nD : D ≠ d := (dk.same s2).ne hD
        refine ⟨rfl, .ref d, rfl, d, _, 9, rfl, by decide, by decide, by omega, k3, fun r H4 r0 r1 b4 k4 => ?_⟩
        have eD4 := b4 _ _ nD eD
        refine ⟨_, eD4, small1000 (by rw [List.length_map]; omega), fun c u nc e => ?_, ?_, ts ++ [r], ?_, ?_⟩
        · rw [upd_ne ?_]
          · exact b4 _ _ nc (b3 _ _ nc e)
          · exact ne_of_none (s2 _ _ e) hD
        · exact (k4.other nD).mono (by omega)
        · rw [upd_same, List.map_append]
          rfl
        · rw [List.length_append, lts]
          rfl
      · obtain ⟨b3, k3, ts, eD, lts⟩ := p
        exact ⟨D, ts, rfl, b3, k3.mono (by omega), eD, lts⟩
    · rcases hu with rfl | ⟨r, ns, rfl, er, lr⟩
      · exact absurd (decide_eq_true rfl) c
      · exact ⟨r, ns, rfl, .of s2, (dk.same s2).mono (by omega), er, lr⟩
  rintro σ H3 ⟨r, ns, rfl, b3, k3, er, lr⟩
  -- signed
  have nd : ∀ {c : Addr} {H' : Hp}, Deck d (t + 20) H' → H' c = none → c ≠ d := fun k n => k.ne n
  refine ⟨fun σ H' => ∃ (D : Addr) (ns : List Int), σ = [some (.ref d), some (.ref wa), some (.ref f), some (.int sg), some (.int (net.length : Nat)), some (.ref D), none, none, none, none, none, none, none] ∧ But d H1 H' ∧ Deck d (t + 20) H' ∧ H' D = some (.lst (ns.map V.int)) ∧ ns.length = net.length ∧ D ≠ d, ?_, ?_⟩
  · refine ⟨.ref r, rfl, r, rfl, ⟨_, SqL.of er⟩, fun D hD => lc_list (xs := ns.map V.int) (fun i H' => Same H3 H' ∧ ∃ ts : List Int, H' D = some (.lst (ts.map V.int)) ∧ ts.length = i) ⟨same_upd hD, [], upd_same, rfl⟩ (fun i H' _ p => SqL.of (p.1 _ _ er)) (fun i y H' hy p => ?_) (fun H' p => ?_)⟩
    · obtain ⟨s1, ts, eD, lts⟩ := p
      obtain ⟨j, _, rfl⟩ := List.mem_map.mp (List.mem_of_getElem? hy)
      have hi : i < ns.length := by
        rw [← List.length_map (as := ns) V.int]
        exact (List.getElem?_eq_some_iff.mp hy).1
      refine ⟨rfl, .int sg, rfl, .int j, rfl, sg, j, rfl, rfl, ?_⟩
      refine ⟨.inl ⟨by omega, by omega⟩, _, eD, small1000 (by rw [List.length_map]; omega), fun u z e => ?_, ts ++ [sg * j], ?_, ?_⟩
      · rw [upd_ne (ne_of_none e hD)]
        exact s1 _ _ e
      · rw [upd_same, List.map_append]
        rfl
      · rw [List.length_append, lts]
        rfl
    · obtain ⟨s1, ts, eD, lts⟩ := p
      rw [List.length_map] at lts
      exact ⟨D, ts, rfl, b3.trans (.of s1), k3.same s1, eD, by omega, nd k3 hD⟩
  clear er lr
  rintro σ H4 ⟨D, ns, rfl, b4, k4, eD, lD, nD⟩
  -- a place, a number
  refine ⟨fun σ H' => ∃ (at' more : Int), σ = [some (.ref d), some (.ref wa), some (.ref f), some (.int sg), some (.int (net.length : Nat)), some (.ref D), none, none, some (.int at'), some (.int more), none, none, none] ∧ But d H1 H' ∧ Deck d (t + 22) H' ∧ H' D = some (.lst (ns.map V.int)) ∧ 0 ≤ at' ∧ at' < (ns.length : Int), ?_, ?_⟩
  · refine ⟨.ref d, rfl, .int (net.length : Nat), rfl, d, t + 20, (net.length : Nat), rfl, by omega, by omega, by omega, k4, fun at' H5 a0 a1 b5 k5 => ?_⟩
    refine ⟨1, rfl, 10, 25, rfl, rfl, ⟨by decide, by decide, by decide⟩, (by show 3 ≤ sizeLine; decide), fun p hp => ?_⟩
    have s6 := same_upd (o := .lst [.int 1, .int (-1), .int (10 ^ (25 : Int).toNat)]) hp
    have np := k5.ne hp
    refine ⟨.ref d, rfl, d, t + 20 + 1, 3, rfl, by decide, by decide, by omega, k5.same s6, fun x H6 x0 x1 b6 k6 => ?_⟩
    obtain ⟨v, mv, ev⟩ := atI_mem (xs := [V.int 1, .int (-1), .int (10 ^ (25 : Int).toNat)]) x0 x1
    obtain ⟨more, rfl⟩ : ∃ more : Int, v = .int more := by
      rcases List.mem_cons.mp mv with rfl | mv
      · exact ⟨_, rfl⟩
      rcases List.mem_cons.mp mv with rfl | mv
      · exact ⟨_, rfl⟩
      · exact ⟨_, List.mem_singleton.mp mv⟩
    refine ⟨p, _, x, .int more, rfl, rfl, SqL.of (b6 p _ np upd_same), ev, (by show 2 ≤ sizeLine; decide), fun w' hw => ?_⟩
    have s7 := same_upd (o := .tup [.int at', .int more]) hw
    refine ⟨w', _, rfl, SqT.of upd_same, rfl, .int at', [.int more], rfl, .int more, [], rfl, rfl, at', more, rfl, ?_, ?_, ?_, a0, by omega⟩
    · exact b4.trans (b5.trans ((But.of s6).trans (b6.trans (.of s7))))
    · exact (k6.same s7).mono (by omega)
    · exact s7 _ _ (b6 _ _ nD (s6 _ _ (b5 _ _ nD eD)))
  clear eD k4 b4
  rintro σ H5 ⟨at', more, rfl, b5, k5, eD, a0, a1⟩
  have l20n : ns.length ≤ 20 := by omega
  -- moved
  refine ⟨fun σ H' => ∃ (m : Addr) (ms : List V), σ = [some (.ref d), some (.ref wa), some (.ref f), some (.int sg), some (.int (net.length : Nat)), some (.ref D), none, none, some (.int at'), some (.int more), some (.ref m), none, none] ∧ Same H5 H' ∧ H' m = some (.tup ms) ∧ (∀ x ∈ ms, FlatOk x) ∧ ms.length ≤ 20, ?_, ?_⟩
  · unfold tAsg
    refine (GT.ofL (GL.lc eD (by omega) fun j H Q q => ?_)) H5 _ (Same.refl _) fun m ms H6 s6 em fm lm => ?_
    · exact ⟨.int j, rfl, .int more, rfl, j, more, rfl, rfl, q _⟩
    · exact ⟨m, ms, rfl, s6, em, fm, by omega⟩
  rintro σ H6 ⟨m, ms, rfl, s6, em, fm, lm⟩
  have eD6 := s6 _ _ eD
  -- bent
  refine ⟨fun σ H' => ∃ (m2 : Addr) (ms2 : List V), σ = [some (.ref d), some (.ref wa), some (.ref f), some (.int sg), some (.int (net.length : Nat)), some (.ref D), none, none, some (.int at'), some (.int more), some (.ref m), some (.ref m2), none] ∧ Same H6 H' ∧ H' m2 = some (.tup ms2) ∧ (∀ x ∈ ms2, FlatOk x) ∧ ms2.length ≤ 41, ?_, ?_⟩
  · have gv : GL H6 (tVar 5) [some (.ref d), some (.ref wa), some (.ref f), some (.int sg), some (.int (net.length : Nat)), some (.ref D), none, none, some (.int at'), some (.int more), some (.ref m), none, none] 20 := .var rfl eD6 ints_flat (by rw [List.length_map]; exact l20n)
    unfold tAsg
    refine (GT.ofL (GL.cat (GL.cat (gv.slice .no (.var (j := at') rfl)) (GL.one fun H Q s q => ?_)) (gv.slice (.add (j := at') rfl) .no))) H6 _ (Same.refl _) fun m2 ms2 H7 s7 em2 fm2 lm2 => ?_
    · exact ⟨.ref D, rfl, .int at', rfl, D, _, at', _, rfl, rfl, SqL.of (s _ _ eD6), ints_at a0 a1, .int more, rfl, _, more, rfl, rfl, q _⟩
    · exact ⟨m2, ms2, rfl, s7, em2, fm2, by omega⟩
  rintro σ H7 ⟨m2, ms2, rfl, s7, em2, fm2, lm2⟩
  have em7 := s7 _ _ em
  have eD7 := s7 _ _ eD6
  have d7 : ∃ o, H7 d = some o := by
    obtain ⟨c, s1, n, e, _⟩ := k5
    exact ⟨_, s7 _ _ (s6 _ _ e)⟩
  -- rows
  have t7a : Thing d H7 (.ref m) := .tup em7 (by omega) fm
  have t7b : Thing d H7 (.ref m2) := .tup em2 (by omega) fm2
  have n1 : (1 : Int) ≤ (net.length : Nat) := by omega
  have n2 : ((net.length : Nat) : Int) ≤ 1000 := by omega
  refine ⟨fun σ H' => ∃ (p : Addr) (ys : List V), σ = [some (.ref d), some (.ref wa), some (.ref f), some (.int sg), some (.int (net.length : Nat)), some (.ref D), none, none, some (.int at'), some (.int more), some (.ref m), some (.ref m2), some (.ref p)] ∧ Same H7 H' ∧ H' p = some (.lst ys) ∧ ys.length = 6 ∧ p ≠ d ∧ ∀ y ∈ ys, Thing d H' y, ?_, ?_⟩
  · have gv : GL H7 (tVar 5) [some (.ref d), some (.ref wa), some (.ref f), some (.int sg), some (.int (net.length : Nat)), some (.ref D), none, none, some (.int at'), some (.int more), some (.ref m), some (.ref m2), none] 20 := .var rfl eD7 ints_flat (by rw [List.length_map]; exact l20n)
    unfold tAsg
    refine GVs.run (h := d) (n := 6) (.cons (.ofT (.ofL gv)) (.cons (.var rfl t7a) (.cons (.var rfl t7b) (.cons (.ofT (.ofL (.rev gv))) (.cons (.ofT (.ofL (GL.lc eD7 (by omega) fun j H Q q => ?_))) (.cons (.ofT (GT.rep .ints (j := (net.length : Nat)) rfl n1 n2)) .nil)))))) (Same.refl _) d7 (by decide) fun p ys H8 s8 ep np ly ky => ?_
    · exact ⟨.int j, rfl, j, rfl, q _⟩
    · exact ⟨p, ys, rfl, s8, ep, ly, np, ky⟩
  rintro σ H8 ⟨p, ys, rfl, s8, ep, ly, np, ky⟩
  have eD8 := s8 _ _ eD7
  have d8 : ∃ o, H8 d = some o := by
    obtain ⟨o, e⟩ := d7
    exact ⟨o, s8 _ _ e⟩
  -- more rows
  refine ⟨fun σ H' => ∃ (p : Addr) (ys : List V), σ = [some (.ref d), some (.ref wa), some (.ref f), some (.int sg), some (.int (net.length : Nat)), some (.ref D), none, none, some (.int at'), some (.int more), some (.ref m), some (.ref m2), some (.ref p)] ∧ Same H8 H' ∧ H' p = some (.lst ys) ∧ ys.length = 15 ∧ p ≠ d ∧ ∀ y ∈ ys, Thing d H' y, ?_, ?_⟩
  · have gv : GL H8 (tVar 5) [some (.ref d), some (.ref wa), some (.ref f), some (.int sg), some (.int (net.length : Nat)), some (.ref D), none, none, some (.int at'), some (.int more), some (.ref m), some (.ref m2), some (.ref p)] 20 := .var rfl eD8 ints_flat (by rw [List.length_map]; exact l20n)
    unfold tAsg
    refine GVs.cat (h := d) (n := 9) (i := 12) (p := p) rfl ep ky (by omega) (.cons (.var rfl (.lst eD8 nD)) (.cons (.ofT (.ofL (.slice gv .one .no))) (.cons (.ofT (.cat (.ofL gv) (.lit .ints))) (.cons (.lit lit_non) (.cons (.lit lit_bl) (.cons (.lit (lit_str (by decide +kernel))) (.cons (.ofT .nil) (.cons (.ofT (GT.rep lit_non (j := (net.length : Nat)) rfl n1 n2)) (.cons (.ofT (GT.rep lit_bl (j := (net.length : Nat)) rfl n1 n2)) .nil))))))))) (Same.refl _) d8 (by decide) fun p' zs H9 s9 ep' np' lz kz => ?_
    exact ⟨p', zs, rfl, s9, ep', by omega, np', kz⟩
  clear ep np ly ky
  rintro σ H9 ⟨p, ys, rfl, s9, ep, ly, np, ky⟩
  have eD9 := s9 _ _ eD8
  have d9 : ∃ o, H9 d = some o := by
    obtain ⟨o, e⟩ := d8
    exact ⟨o, s9 _ _ e⟩
  -- the end
  have gv : GL H9 (tVar 5) [some (.ref d), some (.ref wa), some (.ref f), some (.int sg), some (.int (net.length : Nat)), some (.ref D), none, none, some (.int at'), some (.int more), some (.ref m), some (.ref m2), some (.ref p)] 20 := .var rfl eD9 ints_flat (by rw [List.length_map]; exact l20n)
  unfold tRet
  refine GVs.cat (h := d) (n := 2) (i := 12) (p := p) rfl ep ky (by omega) (.cons (.ofT (.cat (.cat (.ofL (gv.slice .no (.var (j := at') rfl))) (.lit (lit_str (by decide +kernel)))) (.ofL (gv.slice (.add (j := at') rfl) .no)))) (.cons (.ofT (.cat (.cat (.ofL (gv.slice .no (.var (j := at') rfl))) (.lit lit_bl)) (.ofL (gv.slice (.add (j := at') rfl) .no)))) .nil)) (Same.refl _) d9 (by decide) fun r zs H10 s10 er nr lz kz => ?_
  have sall := s6.trans (s7.trans (s8.trans (s9.trans s10)))
  exact q r zs H10 (b5.trans (.of sall)) ((k5.same sall).mono (by omega)) er nr (by omega) kz
end
end K09

set_option Elab.async false
set_option linter.all false
set_option maxRecDepth 100000
set_option maxHeartbeats 1000000
namespace K09
open PySem PySem.Spec PyProof.Rows L2 LamX NdefX Clo Rep
theorem getD_map {g : Int × Int → Int × Int} {net : Net} (k : Nat) : (mapNet g net).getD k [] = (net.getD k []).map g := by
  unfold mapNet
  rw [List.getD_eq_getElem?_getD, List.getD_eq_getElem?_getD, List.getElem?_map]
  cases net[k]? <;> rfl
theorem leads_map {g : Int × Int → Int × Int} (hg : ∀ m, (g m).2 = m.2) {net : Net} : leadsOf (mapNet g net) = leadsOf net := by
  funext p
  unfold leadsOf
  rw [getD_map, List.map_map]
  exact List.map_congr_left fun m _ => hg m
theorem capped_iff {H : Hp} {net : Net} {thing : V} {a b : Int} (o : NetOk net) : Capped H (mapNet (wgt a b) net) thing ↔ ∃ nums : List Int, tupOf H thing = some (nums.map V.int) ∧ nums.length = net.length ∧ LHolds net a b nums 1 := by
  have hl : (mapNet (wgt a b) net).length = net.length := List.length_map _
  unfold Capped Holds
  rw [leads_map (g := wgt a b) (fun _ => rfl), hl]
  refine ⟨fun ⟨nums, e, l, h⟩ => ⟨nums, e, l, fun k r u m => ?_⟩, fun ⟨nums, e, l, h⟩ => ⟨nums, e, l, fun k r => ?_⟩⟩
  · have := h k r
    unfold Fine at this
    rw [getD_map] at this
    have := this _ (List.mem_map_of_mem m)
    simp only [] at this
    omega
  · unfold Fine
    rw [getD_map]
    intro u m
    obtain ⟨u0, m0, rfl⟩ := List.mem_map.mp m
    have := h k r u0 m0
    simp only []
    omega
theorem neg_getD {nums : List Int} {k : Nat} : (nums.map fun i => -i).getD k 0 = -nums.getD k 0 := by
  rw [List.getD_eq_getElem?_getD, List.getD_eq_getElem?_getD, List.getElem?_map]
  cases nums[k]? with
  | none => rfl
  | some x => rfl
theorem borne_iff {H : Hp} {net : Net} {thing : V} {a b : Int} (o : NetOk net) : Borne H (mapNet (wgt a b) net) thing ↔ ∃ nums : List Int, tupOf H thing = some (nums.map V.int) ∧ nums.length = net.length ∧ LHolds net a b nums (-1) := by
  have hl : (mapNet (wgt a b) net).length = net.length := List.length_map _
  unfold Borne Holds
  rw [leads_map (g := ngt) (fun _ => rfl), leads_map (g := wgt a b) (fun _ => rfl), hl]
  refine ⟨fun ⟨nums, e, l, h⟩ => ⟨nums, e, l, fun k r u m => ?_⟩, fun ⟨nums, e, l, h⟩ => ⟨nums, e, l, fun k r => ?_⟩⟩
  · have := h k r
    unfold Fine at this
    rw [getD_map, getD_map] at this
    have := this _ (List.mem_map_of_mem (List.mem_map_of_mem m))
    simp only [neg_getD] at this
    omega
  · unfold Fine
    rw [getD_map, getD_map]
    intro u m
    obtain ⟨u1, m1, rfl⟩ := List.mem_map.mp m
    obtain ⟨u0, m0, rfl⟩ := List.mem_map.mp m1
    have := h k r u0 m0
    simp only [neg_getD]
    omega
theorem nums_inj : ∀ {as bs : List Int}, as.map V.int = bs.map V.int → as = bs
  | [], [], _ => rfl
  | [], _ :: _, e => by cases e
  | _ :: _, [], e => by cases e
  | x :: r, y :: s, e => by
    rw [List.map_cons, List.map_cons] at e
    injection e with e1 e2
    injection e1 with e1
    rw [e1, nums_inj e2]
end K09

set_option Elab.async false
set_option linter.all false
set_option maxRecDepth 100000
set_option maxHeartbeats 1000000
/-! nested data of small integers: shown within bounds -/
namespace Shw
open PySem PySem.Spec PyProof.Rows L2
structure Sh (d : PyData) (k w : Nat) : Prop where
  s : d.showable = true
  n : d.hasDict = false
  k : d.depth ≤ k
  l : d.leavesShort 13 = true
  w : d.weight ≤ w
theorem Sh.mono {d : PyData} {k w k' w' : Nat} (h : Sh d k w) (hk : k ≤ k') (hw : w ≤ w') : Sh d k' w' := ⟨h.s, h.n, Nat.le_trans h.k hk, h.l, Nat.le_trans h.w hw⟩
theorem log_lt {n k : Nat} (h : n < 2 ^ k) : n = 0 ∨ n.log2 < k := by
  by_cases z : n = 0
  · exact .inl z
  · exact .inr ((Nat.log2_lt z).mpr h)
theorem Sh.int {i : Int} (h : i.natAbs < 10 ^ 12) : Sh (.int i) 0 40 := by
  have e : (10 : Nat) ^ 12 < 2 ^ 40 := by decide
  have hl := log_lt (k := 40) (Nat.lt_trans h e)
  refine ⟨?_, by simp [PyData.hasDict], by simp [PyData.depth], ?_, ?_⟩
  · show decide (i.natAbs.log2 < 1920) = true
    refine decide_eq_true ?_
    rcases hl with z | z
    · rw [z]
      decide
    · omega
  · simp only [PyData.leavesShort, decide_eq_true_eq]
    exact PyData.shown_int_le h
  · simp only [PyData.weight]
    split
    · omega
    · rcases hl with z | z
      · rw [z]
        decide
      · omega
theorem sh_all {k w : Nat} : ∀ {ds : List PyData}, (∀ d ∈ ds, Sh d k w) → PyData.showableAll ds = true ∧ PyData.hasDictAll ds = false ∧ PyData.depthAll ds ≤ k ∧ PyData.leavesShortAll 13 ds = true ∧ PyData.weightAll ds ≤ ds.length * (w + 1)
  | [], _ => ⟨by simp [PyData.showableAll], by simp [PyData.hasDictAll], by simp [PyData.depthAll], by simp [PyData.leavesShortAll], by simp [PyData.weightAll]⟩
  | d :: r, h => by
    obtain ⟨a, b, c, e, f⟩ := sh_all (ds := r) fun y m => h y (List.mem_cons_of_mem _ m)
    have g := h d List.mem_cons_self
    refine ⟨by simp [PyData.showableAll, g.s, a], by simp [PyData.hasDictAll, g.n, b], ?_, by simp [PyData.leavesShortAll, g.l, e], ?_⟩
    · simp only [PyData.depthAll]
      exact Nat.max_le.mpr ⟨g.k, c⟩
    · simp only [PyData.weightAll, List.length_cons]
      have := g.w
      have e2 : (r.length + 1) * (w + 1) = r.length * (w + 1) + (w + 1) := Nat.succ_mul _ _
      omega
theorem Sh.tup {ds : List PyData} {k w n : Nat} (h : ∀ d ∈ ds, Sh d k w) (hn : ds.length ≤ n) : Sh (.tuple ds) (k + 1) (n * (w + 1)) := by
  obtain ⟨a, b, c, e, f⟩ := sh_all h
  have m := Nat.mul_le_mul_right (w + 1) hn
  exact ⟨by simp only [PyData.showable, a], by simp only [PyData.hasDict, b], by simp only [PyData.depth]; omega, by simp only [PyData.leavesShort, e], by simp only [PyData.weight]; omega⟩
theorem Sh.lst {ds : List PyData} {k w n : Nat} (h : ∀ d ∈ ds, Sh d k w) (hn : ds.length ≤ n) : Sh (.list ds) (k + 1) (n * (w + 1)) := by
  obtain ⟨a, b, c, e, f⟩ := sh_all h
  have m := Nat.mul_le_mul_right (w + 1) hn
  exact ⟨by simp only [PyData.showable, a], by simp only [PyData.hasDict, b], by simp only [PyData.depth]; omega, by simp only [PyData.leavesShort, e], by simp only [PyData.weight]; omega⟩
theorem Sh.fits {d : PyData} {k w : Nat} (h : Sh d k w) (hw : w ≤ 2 ^ 20) : d.shown.length ≤ sizeLine := PyData.shown_fits (B := 13) (by decide) (by decide) h.l (Nat.le_trans h.w hw)
end Shw

set_option Elab.async false
set_option linter.all false
set_option maxRecDepth 100000
set_option maxHeartbeats 1000000
/-! defs that show data as texts: what stands around them shows nothing; the end of a law that does so -/
namespace Grd
open PySem PySem.Spec PyProof.Rows L2 LamX NdefX Clo
section
variable {X : Cx}
theorem call_repr (hg : X.A.guards = some []) (hu : X.A.units + 100 < cLine) : CallR X (.builtin "repr") (fun xs H Q => ∃ (a : Addr) (d : PyData), xs = [.ref a] ∧ Dp X.K H (.ref a) d ∧ d.showable = true ∧ d.hasDict = false ∧ d.depth ≤ 64 ∧ d.shown.length ≤ sizeLine ∧ Q (.str d.shown) H) := by
  intro pins s σ H xs us Q I r h
  obtain ⟨a, d, rfl, hd, h1, h2, h3, h4, q⟩ := h
  obtain ⟨u, rfl, rx⟩ := vals1 r
  cases (show u = Value.ref a from rx)
  obtain ⟨as, rd⟩ := Dp.reads I d (.ref a) (.ref a) hd rfl
  exact repr_of_reads' rd h1 (PyData.noDict_hsm h2) hg (by omega) (fun _ _ e => e) (fun h' u tk hk => ⟨.str d.shown, H, I.kept (t' := tk) hk, ⟨u, rfl⟩, q⟩) h4
end
structure FnG (P : Program) (w : World) (K : PySem.W.Frag) (mg : Str → Option Value) (base : Heap) (CX : CXT) (k : Nat) (f : Addr) (fd : FuncData) (ps : List Str) (sp : Sp) : Prop where
  len : ∀ vs H Q E, sp vs H Q E → vs.length = ps.length
  run : ∀ (A : Around) (outer : List Env) (s : Shared) (H : Hp) (args : Args) (us : List Value) (vs : List V) (Q : VK) (E : XK), Room k A → A.guards = some [] → Env0 P w K mg base A outer s H → BindsTo s fd args (ps.zip us) → Vals vs us → sp vs H Q E →
    codeAny (model P w) A (.call (.ref f) args) (CR CX outer P w H s Q E) s
section
variable {P : Program} {w : World} {K : PySem.W.Frag} {mg : Str → Option Value} {base : Heap} {k : Nat} {g : Addr} {gd : FuncData} {x qual : Str} {st : Stmt} {N ps : List Str} {sp : Sp}
theorem fng_of (F : L2.Fun K x qual st g gd) (S : FnScope N ps (defScope st)) (len : ∀ vs H Q E, sp vs H Q E → vs.length = ps.length)
    (hbody : ∀ (cdv : Value) (A : Around) (outer : List Env) (s : Shared) (H : Hp) (vs : List V) (Q : VK) (E : XK), Room k (A.deeper (envOfC qual (defScope st) s.heap.objs.size g cdv)) → (A.deeper (envOfC qual (defScope st) s.heap.objs.size g cdv)).guards = some [] → sp vs H Q E →
      ∃ t, PSs (cxOf CX0 P w K mg base N qual (defScope st) g cdv A outer s H E).nox (defBody st) t ∧ t { nx := fun _ H' => Q .non H', rt := Q } (start N vs) H) : FnG P w K mg base CX0 (k + 1) g gd ps sp := by
  obtain ⟨oc, od, kV, doc, pm, an, cdv, ct, osl, rfl, lk, hcd⟩ := F.ex
  constructor
  · exact len
  intro A outer s H args us vs Q E hr hg e0 hb r hsp
  refine run_ofS lk hcd S hr e0 hb r (len _ _ _ _ hsp) fun hr' => ?_
  obtain ⟨t, ht, hq⟩ := hbody cdv A outer s H vs Q E hr' hg hsp
  exact ⟨t, ht.nox, hq⟩
end
section
variable {X : Cx} {CX : CXT} {j k : Nat} {x : Str} {ps : List Str} {sp : Sp} {E : XK} {t : TA} {e : Expr} {es : List Expr} {p pos : Pos} {g : Addr} {gd : FuncData}
theorem pe_callG (G : FnG X.prog X.w X.K X.mg X.base CX k g gd ps sp) (hr : Room j X.A) (hk : k ≤ j) (hgd : X.A.guards = some [])
    (hg : Gl X x) (hm : X.mg x = some (.ref g)) (hkp : PySem.W.keepIn X.K (.ref g) = true) (hb : Binds X.K gd ps []) (hx : Passes CX X E) (ha : PA X (e :: es) t) (hdb : (x == ("__debug__" : Str)) = false := by decide)
    (he : starEach (e :: es) X.env = (false, eval e X.env) :: starEach es X.env := by rfl) (hpl : (backTo pos (starEach es X.env)).any (·.1) = false := by rfl) :
    PE X (.Call (.Name x p) (e :: es) [] pos) (tCall sp [] E t) := by
  constructor
  intro pins s σ H Q I h
  refine wpAny_Call_Name_kw (ld_glob I hg hm ?_ hdb)
  refine PySem.W.callWith_K (h₀ := X.base) I.ok.mod.kin hkp (thn (ha.run pos pins s σ H _ I h) fun us s2 z => ?_) he hpl
  obtain ⟨vs, H2, I2, r, q⟩ := z
  have q : sp vs H2 Q E := by
    have q' : sp (vs ++ []) H2 Q E := q
    rw [List.append_nil] at q'
    exact q'
  refine ⟨I2.kIn, ?_⟩
  have hl := G.len _ _ _ _ q
  have bt : BindsTo s2 gd ⟨us, []⟩ (ps.zip us) := by
    have b := hb s2 us I2.kIn (by rw [List.append_nil, ← r.length]; exact hl)
    rw [List.append_nil] at b
    exact b
  refine wpAny_call (codeAny_mono (G.run X.A X.stack s2 H2 ⟨us, []⟩ us vs Q E (hr.mono hk) hgd I2.env0 bt r q) fun r s' hq => ?_)
  cases r with
  | error e => exact hx pins σ H2 s2 e s' I2 hq
  | ok fl =>
    cases fl with
    | ret u => exact I2.after hq
    | next => exact hq.elim
    | brk => exact hq.elim
    | cont => exact hq.elim
end
end Grd

set_option Elab.async false
set_option linter.all false
set_option maxRecDepth 100000
set_option maxHeartbeats 2000000
namespace K09
open PySem PySem.Spec PyProof.Rows L2 LamX NdefX Clo Rep Shw Grd
theorem hu100 {A : Around} {k : Nat} (hr : Room k A) : A.units + 100 < cLine := by
  have := hr.un
  omega
/-! the web as a datum -/
def mvD (m : Int × Int) : PyData := .tuple [.int m.1, .int m.2]
def ndD (ms : List (Int × Int)) : PyData := .tuple (ms.map mvD)
def netD (net : Net) : PyData := .tuple (net.map ndD)
theorem dp_each {K : PySem.W.Frag} {H : Hp} {β : Type} {R : V → β → Prop} {f : β → PyData} (hR : ∀ x m, R x m → Dp K H x (f m)) : ∀ {xs : List V} {ms : List β}, Each R xs ms → DpAll K H xs (ms.map f)
  | [], [], _ => .nil
  | [], _ :: _, h => by cases h.1
  | _ :: _, [], h => by cases h.1
  | x :: r, m :: s, h => .cons (hR _ _ (h.2 0 x m rfl rfl)) (dp_each hR (xs := r) (ms := s) ⟨Nat.succ.inj h.1, fun i a b e1 e2 => h.2 (i + 1) a b e1 e2⟩)
theorem MvT.dp {K : PySem.W.Frag} {H : Hp} {y : V} {m : Int × Int} (h : MvT H y m) : Dp K H y (mvD m) := by
  obtain ⟨d, rfl, e⟩ := h
  exact .tup (SqT.of e) (.cons (.int _) (.cons (.int _) .nil))
theorem NdC.dp {K : PySem.W.Frag} {H : Hp} {x : V} {ms : List (Int × Int)} (h : NdC HO.tup H x ms) : Dp K H x (ndD ms) := by
  obtain ⟨b, ys, rfl, e, g⟩ := h
  exact .tup (SqT.of e) (dp_each (f := mvD) (fun _ _ => MvT.dp) g)
theorem WbC.dp {K : PySem.W.Frag} {H : Hp} {v : V} {net : Net} (h : WbC HO.tup H v net) : Dp K H v (netD net) := by
  obtain ⟨b, ys, rfl, e, g⟩ := h
  exact .tup (SqT.of e) (dp_each (f := ndD) (fun _ _ => NdC.dp) g)
theorem pair_sh {a b : Int} (ha : a.natAbs < 10 ^ 12) (hb : b.natAbs < 10 ^ 12) : Sh (.tuple [.int a, .int b]) 1 82 := by
  refine Sh.tup (k := 0) (w := 40) (n := 2) (fun d m => ?_) (Nat.le_refl _)
  rcases List.mem_cons.mp m with rfl | m
  · exact .int ha
  · rw [List.mem_singleton.mp m]
    exact .int hb
theorem net_sh {net : Net} (o : NetOk net) (wo : WOk net) (l : net.length ≤ 20) : Sh (netD net) 3 19940 := by
  have e : (10 : Nat) ^ 12 = 1000000000000 := by decide
  refine Sh.tup (k := 2) (w := 996) (n := 20) (fun d m => ?_) (by rw [List.length_map]; exact l)
  obtain ⟨ms, mms, rfl⟩ := List.mem_map.mp m
  refine Sh.tup (k := 1) (w := 82) (n := 12) (fun d m => ?_) (by rw [List.length_map]; exact (o.m0 ms mms).2)
  obtain ⟨u, mu, rfl⟩ := List.mem_map.mp m
  have w1 := wo ms mms u mu
  have t1 := o.tg ms mms u mu
  exact pair_sh (by omega) (by omega)
/-- all but the deck and the tables stays -/
def ButN (d : Addr) (H H' : Hp) : Prop := ∀ a o, a ≠ d → (∀ ps, o ≠ .tbl ps) → H a = some o → H' a = some o
theorem ButN.of {d : Addr} {H H' : Hp} (b : But d H H') : ButN d H H' := fun a o n _ e => b a o n e
theorem ButN.ext {d : Addr} {H H' : Hp} (x : ExtN H H') : ButN d H H' := fun a o _ n e => x a o e n
theorem ButN.refl (d : Addr) (H : Hp) : ButN d H H := fun _ _ _ _ e => e
theorem ButN.trans {d : Addr} {H H1 H2 : Hp} (a : ButN d H H1) (b : ButN d H1 H2) : ButN d H H2 := fun c o n m e => b c o n m (a c o n m e)
theorem Deck.ext {d : Addr} {t : Int} {H H' : Hp} (k : Deck d t H) (x : ExtN H H') : Deck d t H' := by
  obtain ⟨c, s, n, e, r⟩ := k
  exact ⟨c, s, n, x _ _ e (fun _ z => nomatch z), r⟩
theorem Tabs.but {d Pw : Addr} {t : Int} {q : Str} {H H' : Hp} (hT : Tabs [(Pw, q)] H) (k : Deck d t H) (b : But d H H') (hc : ∀ c, H c = some (CodeO c q) → c ≠ d) : Tabs [(Pw, q)] H' := fun p hp => by
  obtain ⟨ps, h1, h2, h3⟩ := hT p hp
  have nP : p.1 ≠ d := k.isL.ne h1 (fun _ z => nomatch z)
  refine ⟨ps, b _ _ nP h1, h2, fun pos cv h => ?_⟩
  obtain ⟨c, e, f⟩ := h3 pos cv h
  have : p.2 = q := by
    cases List.mem_singleton.mp hp
    rfl
  rw [this] at f
  exact ⟨c, e, by rw [this]; exact b _ _ (hc c f) f⟩
theorem tupBut {d : Addr} {t : Int} {H H' : Hp} (k : Deck d t H) (b : ButN d H H') : ∀ c xs, H c = some (.tup xs) → H' c = some (.tup xs) := fun c xs e => b c _ (k.isL.ne e (fun _ z => nomatch z)) (fun _ z => nomatch z) e
theorem Kn.butN {d : Addr} {t : Int} {H H' : Hp} (k : Deck d t H) (b : ButN d H H') {v : V} (kn : Kn d H v) : Kn d H' v := by
  induction kn with
  | non => exact .non
  | bl b => exact .bl b
  | int i => exact .int i
  | str s => exact .str s
  | tup a xs e z _ ih => exact .tup a xs (tupBut k b a xs e) z ih
  | lst a xs n e => exact .lst a xs n (b a _ n (fun _ z => nomatch z) e)
  | dct a kvs e => exact .dct a kvs (b a _ (k.isL.ne e (fun _ z => nomatch z)) (fun _ z => nomatch z) e)
end K09

set_option Elab.async false
set_option linter.all false
set_option maxRecDepth 100000
set_option maxHeartbeats 2000000
namespace K09
open PySem PySem.Spec PyProof.Rows L2 LamX NdefX Clo Rep Shw Grd
theorem Kn.tupN {d : Addr} {t : Int} {H H' : Hp} (k : Deck d t H) (b : ButN d H H') {v : V} (kn : Kn d H v) : tupOf H' v = tupOf H v := by
  cases kn with
  | non => rfl
  | bl b => rfl
  | int i => rfl
  | str s => rfl
  | tup a xs e z _ => rw [tupOf_ref e, tupOf_ref (tupBut k b _ _ e)]
  | lst a xs n e =>
    unfold tupOf
    simp only [e, b a (.lst xs) n (fun _ z => nomatch z) e]
  | dct a kvs e =>
    unfold tupOf
    simp only [e, b a (.dK kvs) (k.isL.ne e (fun _ z => nomatch z)) (fun _ z => nomatch z) e]
def kwR (us : List V) : List V := match us with
  | [t, f, w] => [w, f, t]
  | _ => us
def kwU (us : List Value) : List Value := match us with
  | [t, f, w] => [w, f, t]
  | _ => us
section
variable {P : Program} {w : World} {K : PySem.W.Frag} {mg : Str → Option Value} {base : Heap}
def spRight (Pw : Addr) : Sp := fun vs H Q _ => ∃ (d : Addr), vs = [.ref d] ∧ Deck d 0 H ∧ Tabs [(Pw, lamQ)] H ∧ ∀ H', ButN d H H' → Tabs [(Pw, lamQ)] H' → Q (.bl true) H'
theorem ok__law_right (T : Top K mg) {cw Pw : Addr} (W : WalkAt K T.f_walk_steps T.d_walk_steps cw) (TB : TabB base mg cw Pw)
    (KN_caps : KBn K T.d_caps ["web", "fraction", "thing"] 0 ["thing", "fraction", "web"] (fun _ ws => kwU ws) (fun _ zs => kwR zs))
    (KN_bears : KBn K T.d_bears ["web", "fraction", "thing"] 0 ["thing", "fraction", "web"] (fun _ ws => kwU ws) (fun _ zs => kwR zs)) :
    FnG P w K mg base CX0 8 T.f__law_right T.d__law_right ["_law_deck"] (spRight Pw) := by
  have G__law_draw : FnOk P w K mg base CX0 1 T.f__law_draw T.d__law_draw ["_law_deck", "_law_many"] spDraw := ok_draw T
  have G__law_web := ok__law_web (P := P) (w := w) (base := base) T
  have G__law_weights : FnOk P w K mg base CX0 1 T.f__law_weights T.d__law_weights ["_law_net"] spLWts := ok__law_weights T
  have G__law_things : FnOk P w K mg base CX0 2 T.f__law_things T.d__law_things ["_law_deck", "_law_net", "_law_ratio", "_law_sign"] spThings := ok__law_things T
  have G__law_is_numbers : FnOk P w K mg base CX0 1 T.f__law_is_numbers T.d__law_is_numbers ["_law_net", "_law_item"] spLNum := ok__law_is_numbers T
  have G__law_says : FnOk P w K mg base CX0 1 T.f__law_says T.d__law_says ["_law_found", "_law_due"] spSays := ok__law_says T
  have G__law_capped : FnOk P w K mg base CX0 2 T.f__law_capped T.d__law_capped ["_law_net", "_law_ratio", "_law_numbers", "_law_sign"] spLCap := ok__law_capped T
  have G_caps : FnOk P w K mg base CX0 7 T.f_caps T.d_caps ["web", "fraction", "thing"] (spCaps Capped Pw) := ok_caps T W TB
  have G_bears : FnOk P w K mg base CX0 7 T.f_bears T.d_bears ["web", "fraction", "thing"] (spCaps Borne Pw) := ok_bears T W TB
  refine fng_of T.D__law_right.F sc__law_right (fun vs H Q E h => ?_) (fun cdv A outer s H vs Q E hr hgd h => ?_)
  · obtain ⟨d, rfl, _⟩ := h
    rfl
  obtain ⟨d, rfl, dk, hT, q⟩ := h
  refine ⟨_, (C8.pss_cut (ps_set (i := 1) sc__law_right.nd rfl (.inl rfl) (pe_call G__law_web (hr.mono (by omega)) rfl T.D__law_web.g T.D__law_web.F.kp T.D__law_web.b .nil pass0 (pa_cons (pv 0) (pa_cons pe_int (pa_cons (pe_ix ix_list (pe_lst (pa_cons pe_int (pa_cons pe_int (pa_cons pe_int (pa_cons pe_int pa_nil))))) (pe_call G__law_draw (hr.mono (by omega)) rfl T.D__law_draw.g T.D__law_draw.F.kp T.D__law_draw.b .nil pass0 (pa_cons (pv 0) (pa_cons pe_int pa_nil))) (fun _ _ => rfl)) (pa_cons (pe_ix ix_list (pe_lst (pa_cons pe_int (pa_cons pe_int (pa_cons (pe_op op_pow pe_int pe_int) pa_nil)))) (pe_call G__law_draw (hr.mono (by omega)) rfl T.D__law_draw.g T.D__law_draw.F.kp T.D__law_draw.b .nil pass0 (pa_cons (pv 0) (pa_cons pe_int pa_nil))) (fun _ _ => rfl)) pa_nil))))))
    (C8.pss_cut (ps_set (i := 2) sc__law_right.nd rfl (.inl rfl) (pe_op op_add pe_int (pe_call G__law_draw (hr.mono (by omega)) rfl T.D__law_draw.g T.D__law_draw.F.kp T.D__law_draw.b .nil pass0 (pa_cons (pv 0) (pa_cons pe_int pa_nil)))))
    (C8.pss_cut (ps_set (i := 3) sc__law_right.nd rfl (.inl rfl) (pe_call G__law_weights (hr.mono (by omega)) rfl T.D__law_weights.g T.D__law_weights.F.kp T.D__law_weights.b .nil pass0 (pa_cons (pv 1) pa_nil)))
    (C8.pss_cut (ps_set (i := 4) sc__law_right.nd rfl (.inl rfl) (pe_op op_add (pe_ix ix_list (pv 3) (pe_call G__law_draw (hr.mono (by omega)) rfl T.D__law_draw.g T.D__law_draw.F.kp T.D__law_draw.b .nil pass0 (pa_cons (pv 0) (pa_cons (pe_callB call_len_seq rfl T.b_len bt_len (pa_cons (pv 3) pa_nil)) pa_nil))) (fun _ _ => rfl)) (pe_ix ix_list (pv 3) (pe_call G__law_draw (hr.mono (by omega)) rfl T.D__law_draw.g T.D__law_draw.F.kp T.D__law_draw.b .nil pass0 (pa_cons (pv 0) (pa_cons (pe_callB call_len_seq rfl T.b_len bt_len (pa_cons (pv 3) pa_nil)) pa_nil))) (fun _ _ => rfl))))
    (C8.pss_cut (ps_set (i := 5) sc__law_right.nd rfl (.inl rfl) (pe_ix ix_list (pe_lst (pa_cons (pe_tup (pa_cons (pe_op op_mul (pv 4) (pv 2)) (pa_cons (pe_op op_mul pe_int (pv 2)) pa_nil))) (pa_cons (pe_tup (pa_cons (pe_callB (cr_max rfl) rfl T.b_max bt_max (pa_cons (pv 3) pa_nil)) (pa_cons pe_int pa_nil))) (pa_cons (pe_tup (pa_cons (pe_op op_sub (pe_callB (cr_min rfl) rfl T.b_min bt_min (pa_cons (pv 3) pa_nil)) pe_int) (pa_cons pe_int pa_nil))) pa_nil)))) (pe_call G__law_draw (hr.mono (by omega)) rfl T.D__law_draw.g T.D__law_draw.F.kp T.D__law_draw.b .nil pass0 (pa_cons (pv 0) (pa_cons pe_int pa_nil))) (fun _ _ => rfl)))
    (C8.pss_cut (ps_set (i := 6) sc__law_right.nd rfl (.inl rfl) (pe_callB (Grd.call_repr hgd (hu100 hr)) rfl T.b_repr bt_repr (pa_cons (pe_lst (pa_cons (pv 1) (pa_cons (pv 5) pa_nil))) pa_nil)))
    (pss_cons (ps_for PassesOwn.never rfl (pi_list (pe_lst (pa_cons pe_int (pa_cons (pe_un un_neg pe_int) pa_nil)))) (pg_name (i := 7) sc__law_right.nd rfl (.inl rfl))
      (pss_one (ps_for PassesOwn.never rfl (pi_list (pe_call G__law_things (hr.mono (by omega)) rfl T.D__law_things.g T.D__law_things.F.kp T.D__law_things.b .nil pass0 (pa_cons (pv 0) (pa_cons (pv 1) (pa_cons (pv 5) (pa_cons (pv 7) pa_nil)))))) (pg_name (i := 8) sc__law_right.nd rfl (.inl rfl))
        (C8.pss_cut (ps_set (i := 9) sc__law_right.nd rfl (.inl rfl) (pe_call G__law_is_numbers (hr.mono (by omega)) rfl T.D__law_is_numbers.g T.D__law_is_numbers.F.kp T.D__law_is_numbers.b .nil pass0 (pa_cons (pv 1) (pa_cons (pv 8) pa_nil))))
        (C8.pss_cut (ps_if (pt_not (pt_val (pe_call G__law_says (hr.mono (by omega)) rfl T.D__law_says.g T.D__law_says.F.kp T.D__law_says.b .nil pass0 (pa_cons (pe_call G_caps (hr.mono (by omega)) rfl T.D_caps.g T.D_caps.F.kp T.D_caps.b .nil pass0 (pa_cons (pv 1) (pa_cons (pv 5) (pa_cons (pv 8) pa_nil)))) (pa_cons (pe_and (pv 9) (pe_one (pe_call G__law_capped (hr.mono (by omega)) rfl T.D__law_capped.g T.D__law_capped.F.kp T.D__law_capped.b .nil pass0 (pa_cons (pv 1) (pa_cons (pv 5) (pa_cons (pv 8) (pa_cons pe_int pa_nil))))))) pa_nil)))))
          (pss_one (ps_ret pe_bl))
          pss_nil)
        (C8.pss_cut (ps_set (i := 10) sc__law_right.nd rfl (.inl rfl) (pe_callN0 G_bears (hr.mono (by omega)) rfl T.D_bears.g T.D_bears.F.kp KN_bears pass0 (pk_cons (pv 8) (pk_cons (pv 5) (pk_cons (pv 1) pk_nil)))))
        (C8.pss_cut (ps_if (pt_not (pt_val (pe_call G__law_says (hr.mono (by omega)) rfl T.D__law_says.g T.D__law_says.F.kp T.D__law_says.b .nil pass0 (pa_cons (pv 10) (pa_cons (pe_and (pv 9) (pe_one (pe_call G__law_capped (hr.mono (by omega)) rfl T.D__law_capped.g T.D__law_capped.F.kp T.D__law_capped.b .nil pass0 (pa_cons (pv 1) (pa_cons (pv 5) (pa_cons (pv 8) (pa_cons (pe_un un_neg pe_int) pa_nil))))))) pa_nil)))))
          (pss_one (ps_ret pe_bl))
          pss_nil)
        (pss_one (ps_if (pt_cmpR op_ne (pe_callN0 G_caps (hr.mono (by omega)) rfl T.D_caps.g T.D_caps.F.kp KN_caps pass0 (pk_cons (pv 8) (pk_cons (pv 5) (pk_cons (pv 1) pk_nil)))) (pe_call G_caps (hr.mono (by omega)) rfl T.D_caps.g T.D_caps.F.kp T.D_caps.b .nil pass0 (pa_cons (pv 1) (pa_cons (pv 5) (pa_cons (pv 8) pa_nil)))) (nomark _))
          (pss_one (ps_ret pe_bl))
          pss_nil)))))))))
    (pss_one (ps_ret (pe_cmpR op_eq (pe_callB (Grd.call_repr hgd (hu100 hr)) rfl T.b_repr bt_repr (pa_cons (pe_lst (pa_cons (pv 1) (pa_cons (pv 5) pa_nil))) pa_nil)) (pv 6) (nomark _))))))))))), ?_⟩
  have e12 : (10 : Nat) ^ 12 = 1000000000000 := by decide
  -- the web
  refine ⟨fun σ H' => ∃ (v : V) (net : Net), σ = [some (.ref d), some v, none, none, none, none, none, none, none, none, none] ∧ But d H H' ∧ Deck d 2000 H' ∧ WbC HO.tup H' v net ∧ NetOk net ∧ WOk net ∧ net.length ≤ 20, ?_, ?_⟩
  · refine ⟨.ref d, rfl, (by show 4 ≤ sizeLine; decide), fun p1 h1 => ?_⟩
    have s1 := same_upd (o := .lst [.int 4, .int 4, .int 4, .int 12]) h1
    refine ⟨.ref d, rfl, d, 0, 4, rfl, by decide, by decide, by decide, dk.same s1, fun x H1 x0 x1 b1 k1 => ?_⟩
    have n1 := dk.ne h1
    obtain ⟨i, ei, i1, i2⟩ : ∃ i : Int, atI [V.int 4, .int 4, .int 4, .int 12] x = some (.int i) ∧ 1 ≤ i ∧ i ≤ 12 := by
      obtain ⟨v, mv, ev⟩ := atI_mem (xs := [V.int 4, .int 4, .int 4, .int 12]) x0 x1
      rcases List.mem_cons.mp mv with rfl | mv
      · exact ⟨4, ev, by decide, by decide⟩
      rcases List.mem_cons.mp mv with rfl | mv
      · exact ⟨4, ev, by decide, by decide⟩
      rcases List.mem_cons.mp mv with rfl | mv
      · exact ⟨4, ev, by decide, by decide⟩
      · rw [List.mem_singleton.mp mv] at ev
        exact ⟨12, ev, by decide, by decide⟩
    refine ⟨p1, _, x, .int i, rfl, rfl, SqL.of (b1 p1 _ n1 upd_same), ei, 10, 6, rfl, rfl, ⟨by decide, by decide, by decide⟩, (by show 3 ≤ sizeLine; decide), fun p2 h2 => ?_⟩
    have s2 := same_upd (o := .lst [.int 3, .int 40, .int (10 ^ (6 : Int).toNat)]) h2
    have n2 := k1.ne h2
    refine ⟨.ref d, rfl, d, 0 + 1, 3, rfl, by decide, by decide, by decide, k1.same s2, fun y H2 y0 y1 b2 k2 => ?_⟩
    obtain ⟨j, ej, j1, j2⟩ : ∃ j : Int, atI [V.int 3, .int 40, .int (10 ^ (6 : Int).toNat)] y = some (.int j) ∧ 1 ≤ j ∧ j ≤ 1000000 := by
      obtain ⟨v, mv, ev⟩ := atI_mem (xs := [V.int 3, .int 40, .int (10 ^ (6 : Int).toNat)]) y0 y1
      rcases List.mem_cons.mp mv with rfl | mv
      · exact ⟨3, ev, by decide, by decide⟩
      rcases List.mem_cons.mp mv with rfl | mv
      · exact ⟨40, ev, by decide, by decide⟩
      · rw [List.mem_singleton.mp mv] at ev
        exact ⟨_, ev, by decide, by decide⟩
    refine ⟨p2, _, y, .int j, rfl, rfl, SqL.of (b2 p2 _ n2 upd_same), ej, d, 0 + 1 + 1, 8, i, j, rfl, ⟨by decide, by decide⟩, ⟨i1, i2⟩, ⟨j1, j2⟩, by decide, k2, fun v net H3 b3 k3 wb o wo l => ?_⟩
    exact ⟨v, net, rfl, (But.of s1).trans (b1.trans ((But.of s2).trans (b2.trans b3))), k3.mono (by omega), wb, o, wo, l⟩
  rintro σ H1 ⟨v, net, rfl, b1, k1, wb1, o, wo, l20⟩
  -- times
  refine ⟨fun σ H' => ∃ times : Int, σ = [some (.ref d), some v, some (.int times), none, none, none, none, none, none, none, none] ∧ But d H H' ∧ Deck d 2001 H' ∧ WbC HO.tup H' v net ∧ 1 ≤ times ∧ times ≤ 3, ?_, ?_⟩
  · refine ⟨.ref d, rfl, d, 2000, 3, rfl, by decide, by decide, by decide, k1, fun r H2 r0 r1 b2 k2 => ?_⟩
    exact ⟨1, r, rfl, rfl, 1 + r, rfl, b1.trans b2, k2, wb1.up (tupBut k1 (.of b2)), by omega, by omega⟩
  rintro σ H2 ⟨times, rfl, b2, k2, wb2, t1, t3⟩
  -- weights
  refine ⟨fun σ H' => ∃ (r : Addr) (ws : List Int), σ = [some (.ref d), some v, some (.int times), some (.ref r), none, none, none, none, none, none, none] ∧ But d H H' ∧ Deck d 2001 H' ∧ WbC HO.tup H' v net ∧ r ≠ d ∧ H' r = some (.lst (ws.map V.int)) ∧ ws ≠ [] ∧ ws.length ≤ 240 ∧ (∀ x ∈ ws, -1000000 ≤ x ∧ x ≤ 1000000), ?_, ?_⟩
  · exact ⟨v, rfl, v, net, rfl, wb2, o, wo, l20, fun r ws H' s hn er ne len bd => ⟨r, ws, rfl, b2.trans (.of s), k2.same s, wb2.stayT (Stay.of s), k2.ne hn, er, ne, len, bd⟩⟩
  rintro σ H3 ⟨r, ws, rfl, b3, k3, wb3, nr, er, wne, wl, wbd⟩
  have wpos : 0 < ws.length := List.length_pos_iff.mpr wne
  have lmap : (ws.map V.int).length = ws.length := List.length_map _
  -- middle
  refine ⟨fun σ H' => ∃ mid : Int, σ = [some (.ref d), some v, some (.int times), some (.ref r), some (.int mid), none, none, none, none, none, none] ∧ But d H H' ∧ Deck d 2003 H' ∧ WbC HO.tup H' v net ∧ H' r = some (.lst (ws.map V.int)) ∧ -2000000 ≤ mid ∧ mid ≤ 2000000, ?_, ?_⟩
  · refine ⟨.ref r, rfl, .ref d, rfl, .ref r, rfl, r, _, rfl, .inl (SqL.of er), d, 2001, _, rfl, by omega, by omega, by decide, k3, fun x H4 x0 x1 b4 k4 => ?_⟩
    have er4 := b4 r _ nr er
    have ex := ints_at (nums := ws) x0 (by omega)
    refine ⟨r, _, x, _, rfl, rfl, SqL.of er4, ex, .ref r, rfl, .ref d, rfl, .ref r, rfl, r, _, rfl, .inl (SqL.of er4), d, 2001 + 1, _, rfl, by omega, by omega, by decide, k4, fun y H5 y0 y1 b5 k5 => ?_⟩
    have er5 := b5 r _ nr er4
    have ey := ints_at (nums := ws) y0 (by omega)
    have g : ∀ k : Int, 0 ≤ k → k < (ws.length : Int) → -1000000 ≤ ws.getD k.toNat 0 ∧ ws.getD k.toNat 0 ≤ 1000000 := fun k h0 h1 => by
      have hk : k.toNat < ws.length := by omega
      refine wbd _ ?_
      rw [List.getD_eq_getElem?_getD, List.getElem?_eq_getElem hk]
      exact List.getElem_mem hk
    have g1 := g x x0 (by omega)
    have g2 := g y y0 (by omega)
    exact ⟨r, _, y, _, rfl, rfl, SqL.of er5, ey, _, _, rfl, rfl, _, rfl, b3.trans (b4.trans b5), k5, (wb3.up (tupBut k3 (.of b4))).up (tupBut k4 (.of b5)), er5, by omega, by omega⟩
  rintro σ H4 ⟨mid, rfl, b4, k4, wb4, er4, m0, m1⟩
  -- the fraction
  refine ⟨fun σ H' => ∃ (f : Addr) (a b : Int), σ = [some (.ref d), some v, some (.int times), some (.ref r), some (.int mid), some (.ref f), none, none, none, none, none] ∧ But d H H' ∧ Deck d 2004 H' ∧ WbC HO.tup H' v net ∧ H' f = some (.tup [.int a, .int b]) ∧ 1 ≤ b ∧ b ≤ 10 ∧ -10000000 ≤ a ∧ a ≤ 10000000, ?_, ?_⟩
  · refine ⟨.int mid, rfl, .int times, rfl, mid, times, rfl, rfl, .inr ⟨by omega, by omega⟩, .int times, rfl, 2, times, rfl, rfl, .inl ⟨by decide, by decide⟩, (by show 2 ≤ sizeLine; decide), fun p1 h1 => ?_⟩
    have s1 := same_upd (o := .tup [.int (mid * times), .int (2 * times)]) h1
    refine ⟨.ref r, rfl, r, ws, rfl, SqL.of (s1 _ _ er4), wpos, fun mx mm fm => ⟨(by show 2 ≤ sizeLine; decide), fun p2 h2 => ?_⟩⟩
    have s2 := same_upd (o := .tup [.int mx, .int 1]) h2
    refine ⟨.ref r, rfl, r, ws, rfl, SqL.of (s2 _ _ (s1 _ _ er4)), wpos, fun mn mm2 fm2 => ⟨mn, 1, rfl, rfl, (by show 2 ≤ sizeLine; decide), fun p3 h3 => ⟨(by show 3 ≤ sizeLine; decide), fun p4 h4 => ?_⟩⟩⟩
    have s3 := same_upd (o := .tup [.int (mn - 1), .int 1]) h3
    have s4 := same_upd (o := .lst [.ref p1, .ref p2, .ref p3]) h4
    have sall := s1.trans (s2.trans (s3.trans s4))
    have k5 := k4.same sall
    have np4 := (k4.same (s1.trans (s2.trans s3))).ne h4
    refine ⟨.ref d, rfl, d, 2003, 3, rfl, by decide, by decide, by decide, k5, fun x H5 x0 x1 b5 k6 => ?_⟩
    have bm := wbd _ mm
    have bn := wbd _ mm2
    have fin : ∀ (p : Addr) (a b : Int), (∀ o', o' = HO.tup [.int a, .int b] → (upd (upd (upd (upd H4 p1 (.tup [.int (mid * times), .int (2 * times)])) p2 (.tup [.int mx, .int 1])) p3 (.tup [.int (mn - 1), .int 1])) p4 (.lst [.ref p1, .ref p2, .ref p3])) p = some o') → 1 ≤ b → b ≤ 10 → -10000000 ≤ a → a ≤ 10000000 →
        ∃ (f : Addr) (a b : Int), [some (V.ref d), some v, some (.int times), some (.ref r), some (.int mid), some (.ref p), none, none, none, none, none] = [some (.ref d), some v, some (.int times), some (.ref r), some (.int mid), some (.ref f), none, none, none, none, none] ∧ But d H H5 ∧ Deck d 2004 H5 ∧ WbC HO.tup H5 v net ∧ H5 f = some (.tup [.int a, .int b]) ∧ 1 ≤ b ∧ b ≤ 10 ∧ -10000000 ≤ a ∧ a ≤ 10000000 := fun p a b e c1 c2 c3 c4 => by
      have ep := e _ rfl
      exact ⟨p, a, b, rfl, b4.trans ((But.of sall).trans b5), k6, (wb4.stayT (Stay.of sall)).up (tupBut k5 (.of b5)), b5 p _ (k5.isL.ne ep (fun _ z => nomatch z)) ep, c1, c2, c3, c4⟩
    obtain ⟨u, mu, eu⟩ := atI_mem (xs := [V.ref p1, .ref p2, .ref p3]) x0 x1
    refine ⟨p4, _, x, u, rfl, rfl, SqL.of (b5 p4 _ np4 upd_same), eu, ?_⟩
    have tm : -6000000 ≤ mid * times ∧ mid * times ≤ 6000000 := by
      obtain rfl | rfl | rfl : times = 1 ∨ times = 2 ∨ times = 3 := by omega
      all_goals omega
    rcases List.mem_cons.mp mu with rfl | mu
    · exact fin p1 (mid * times) (2 * times) (fun o' z => by rw [z]; exact s4 _ _ (s3 _ _ (s2 _ _ upd_same))) (by omega) (by omega) (by omega) (by omega)
    rcases List.mem_cons.mp mu with rfl | mu
    · exact fin p2 mx 1 (fun o' z => by rw [z]; exact s4 _ _ (s3 _ _ upd_same)) (by omega) (by omega) (by omega) (by omega)
    · rw [List.mem_singleton.mp mu]
      exact fin p3 (mn - 1) 1 (fun o' z => by rw [z]; exact s4 _ _ upd_same) (by omega) (by omega) (by omega) (by omega)
  clear er4 wb4 k4 b4
  rintro σ H5 ⟨f, a, b, rfl, b5, k5, wb5, ef5, c1, c2, c3, c4⟩
  have hT5 : Tabs [(Pw, lamQ)] H5 := K09.Tabs.but hT dk b5 fun c e => dk.isL.ne e (fun _ z => nomatch z)
  -- what is shown
  have shw : Sh (.list [netD net, .tuple [.int a, .int b]]) 4 39882 := by
    refine Sh.lst (k := 3) (w := 19940) (n := 2) (fun x m => ?_) (Nat.le_refl _)
    rcases List.mem_cons.mp m with rfl | m
    · exact net_sh o wo l20
    · rw [List.mem_singleton.mp m]
      exact (pair_sh (by omega) (by omega)).mono (by decide) (by decide)
  have dpl : ∀ (p : Addr) (H' : Hp), H' p = some (.lst [v, .ref f]) → WbC HO.tup H' v net → H' f = some (.tup [.int a, .int b]) → Dp K H' (.ref p) (.list [netD net, .tuple [.int a, .int b]]) := fun p H' e w' e2 =>
    .lst (SqL.of e) (.cons w'.dp (.cons (.tup (SqT.of e2) (.cons (.int _) (.cons (.int _) .nil))) .nil))
  refine ⟨fun σ H' => σ = [some (.ref d), some v, some (.int times), some (.ref r), some (.int mid), some (.ref f), some (.str (PyData.list [netD net, .tuple [.int a, .int b]]).shown), none, none, none, none] ∧ Same H5 H', ?_, ?_⟩
  · refine ⟨v, rfl, .ref f, rfl, (by show 2 ≤ sizeLine; decide), fun p hp => ?_⟩
    have s6 := same_upd (o := .lst [v, .ref f]) hp
    exact ⟨p, _, rfl, dpl p _ upd_same (wb5.stayT (Stay.of s6)) (s6 _ _ ef5), shw.s, shw.n, Nat.le_trans shw.k (by decide), shw.fits (by decide), rfl, s6⟩
  rintro σ H6 ⟨rfl, s6⟩
  -- both signs
  refine ⟨1, rfl, (by show 2 ≤ sizeLine; decide), fun p hp => ?_⟩
  have s7 := same_upd (o := .lst [.int 1, .int (-1)]) hp
  have k7 := k5.same (s6.trans s7)
  have nP := (k5.same s6).ne hp
  refine ⟨p, rfl, ⟨_, SqL.of upd_same⟩, for_list (xs := [.int 1, .int (-1)]) (fun j σ H' => (∃ y7 y8 y9 y10, σ = [some (.ref d), some v, some (.int times), some (.ref r), some (.int mid), some (.ref f), some (.str (PyData.list [netD net, .tuple [.int a, .int b]]).shown), y7, y8, y9, y10]) ∧ ButN d (upd H6 p (.lst [.int 1, .int (-1)])) H' ∧ Deck d (2004 + 100 * (j : Int)) H' ∧ Tabs [(Pw, lamQ)] H')
    ⟨⟨_, _, _, _, rfl⟩, .refl _ _, k7.mono (by omega), hT5.ext (s6.trans s7)⟩ (fun j σ H' _ p => SqL.of (p.2.1 _ _ nP (fun _ z => nomatch z) upd_same)) (fun j x σ H7 hx p => ?_) (fun σ H7 p => ?_)⟩
  · obtain ⟨⟨y7, y8, y9, y10, rfl⟩, b7, k7', hT7⟩ := p
    have hj : j < 2 := (List.getElem?_eq_some_iff.mp hx).1
    obtain ⟨sg, rfl, hsg⟩ : ∃ sg : Int, x = .int sg ∧ (sg = 1 ∨ sg = -1) := by
      rcases List.mem_cons.mp (List.mem_of_getElem? hx) with rfl | m
      · exact ⟨1, rfl, .inl rfl⟩
      · rw [List.mem_singleton.mp m]
        exact ⟨-1, rfl, .inr rfl⟩
    have wb7 := (wb5.stayT (Stay.of (s6.trans s7))).up (tupBut k7 b7)
    have ef7 := tupBut k7 b7 _ _ ((s6.trans s7) _ _ ef5)
    refine ⟨.ref d, rfl, v, rfl, .ref f, rfl, .int sg, rfl, d, f, 2004 + 100 * (j : Int), a, b, sg, v, net, rfl, by omega, k7', wb7, o, wo, l20, ef7, hsg, fun l ys H8 b8 k8 el8 nl ly ky => ?_⟩
    have hT8 : Tabs [(Pw, lamQ)] H8 := K09.Tabs.but hT7 k7' b8 fun c e => k7'.isL.ne e (fun _ z => nomatch z)
    have wb8 := wb7.up (tupBut k7' (.of b8))
    have ef8 := tupBut k7' (.of b8) _ _ ef7
    obtain ⟨wa, xs, rfl, ea8, hx8⟩ := id wb8
    have lx : xs.length = net.length := hx8.1
    have b78 := b7.trans (.of b8)
    refine ⟨l, rfl, ⟨_, SqL.of el8⟩, for_list (xs := ys) (fun _ σ H' => (∃ y8 y9 y10, σ = [some (.ref d), some (.ref wa), some (.int times), some (.ref r), some (.int mid), some (.ref f), some (.str (PyData.list [netD net, .tuple [.int a, .int b]]).shown), some (.int sg), y8, y9, y10]) ∧ ButN d H8 H' ∧ Deck d (2004 + 100 * (j : Int) + 100) H' ∧ Tabs [(Pw, lamQ)] H')
      ⟨⟨_, _, _, rfl⟩, .refl _ _, k8, hT8⟩ (fun i σ H' _ p => SqL.of (p.2.1 _ _ nl (fun _ z => nomatch z) el8)) (fun i y σ H9 hy p => ?_) (fun σ H9 p => ?_)⟩
    · obtain ⟨⟨y8, y9, y10, rfl⟩, b9, k9, hT9⟩ := p
      have ty := ky y (List.mem_of_getElem? hy)
      have fx : ∀ H', ButN d H8 H' → WbC HO.tup H' (.ref wa) net ∧ H' wa = some (.tup xs) ∧ H' f = some (.tup [.int a, .int b]) ∧ Kn d H' y ∧ tupOf H' y = tupOf H8 y := fun H' b' =>
        ⟨wb8.up (tupBut k8 b'), tupBut k8 b' _ _ ea8, tupBut k8 b' _ _ ef8, Kn.butN k8 b' ty.1, Kn.tupN k8 b' ty.1⟩
      obtain ⟨wb9, ea9, ef9, kn9, tp9⟩ := fx H9 b9
      -- good
      refine ⟨fun σ H' => ∃ good : Bool, σ = [some (.ref d), some (.ref wa), some (.int times), some (.ref r), some (.int mid), some (.ref f), some (.str (PyData.list [netD net, .tuple [.int a, .int b]]).shown), some (.int sg), some y, some (.bl good), y10] ∧ Same H9 H' ∧ (good = true ↔ IsNums H8 y net.length), ?_, ?_⟩
      · refine ⟨.ref wa, rfl, y, rfl, d, wa, xs, y, rfl, ea9, kn9, fun zs e => ty.2 zs (by rw [← tp9]; exact e), fun good H' s hg => ⟨good, rfl, s, ?_⟩⟩
        rw [hg, lx]
        unfold IsNums
        rw [tp9]
      rintro σ H10 ⟨good, rfl, s10, hg⟩
      have b10 := b9.trans (.of (.of s10))
      have k10 := k9.same s10
      have hT10 := hT9.ext s10
      obtain ⟨wb10, ea10, ef10, kn10, tp10⟩ := fx H10 b10
      -- the two ways of the law's own judge
      have own : ∀ (sg' : Int) (H' : Hp) (c : Bool), (c = true ↔ ∃ nums : List Int, tupOf H8 y = some (nums.map V.int) ∧ nums.length = net.length ∧ LHolds net a b nums sg') → good = false → c = false := fun sg' H' c hc hf => by
        cases c with
        | false => rfl
        | true =>
          obtain ⟨nums, e, l, _⟩ := hc.mp rfl
          rw [hg.mpr ⟨nums, e, l⟩] at hf
          cases hf
      have own2 : ∀ (sg' : Int) (nums : List Int) (c c2 : Bool), tupOf H8 y = some (nums.map V.int) → nums.length = net.length → (c = true ↔ ∃ nums : List Int, tupOf H8 y = some (nums.map V.int) ∧ nums.length = net.length ∧ LHolds net a b nums sg') → (c2 = true ↔ LHolds net a b nums sg') → c = c2 := fun sg' nums c c2 e l hc hc2 => by
        rw [Bool.eq_iff_iff, hc, hc2]
        constructor
        · rintro ⟨n2, e2, _, h2⟩
          rw [e] at e2
          rw [nums_inj (Option.some.inj e2)]
          exact h2
        · exact fun h2 => ⟨nums, e, l, h2⟩
      -- caps
      refine ⟨fun σ H' => σ = [some (.ref d), some (.ref wa), some (.int times), some (.ref r), some (.int mid), some (.ref f), some (.str (PyData.list [netD net, .tuple [.int a, .int b]]).shown), some (.int sg), some y, some (.bl good), y10] ∧ ButN d H8 H' ∧ Deck d (2004 + 100 * (j : Int) + 100) H' ∧ Tabs [(Pw, lamQ)] H', ?_, ?_⟩
      · refine ⟨.ref wa, rfl, .ref f, rfl, y, rfl, d, .ref wa, f, y, a, b, net, rfl, wb10, o, wo, ef10, c1, kn10, hT10, fun c H11 x11 hT11 hc => ?_⟩
        have b11 := b10.trans (.ext x11)
        have k11 := k10.ext x11
        obtain ⟨wb11, ea11, ef11, kn11, tp11⟩ := fx H11 b11
        have hc := hc.trans (capped_iff o)
        rw [tp10] at hc
        refine ⟨.bl good, rfl, good, rfl, ite2 (fun z => ?_) (fun z => ?_)⟩
        · obtain ⟨nums, en, ln⟩ := hg.mp z
          obtain ⟨m, rfl, em⟩ := tupOf_some (tp11.trans en)
          refine ⟨.ref wa, rfl, .ref f, rfl, .ref m, rfl, .ref wa, f, m, a, b, 1, nums, net, rfl, wb11, o, wo, l20, ef11, em, ln, .inl rfl, fun c2 H12 s12 hc2 => ?_⟩
          refine ⟨c, by rw [own2 1 nums c c2 en ln hc hc2]; rfl, true, rfl, ite2 (fun z => absurd z Bool.false_ne_true) (fun _ => ⟨rfl, b11.trans (.of (.of s12)), k11.same s12, hT11.ext s12⟩)⟩
        · have zf : good = false := by
            cases good with
            | false => rfl
            | true => exact absurd rfl z
          refine ⟨c, by rw [own 1 H11 c hc zf]; rfl, true, rfl, ite2 (fun z => absurd z Bool.false_ne_true) (fun _ => ⟨rfl, b11, k11, hT11⟩)⟩
      clear wb10 ea10 ef10 kn10 tp10 hT10 k10 b10
      rintro σ H11 ⟨rfl, b11, k11, hT11⟩
      obtain ⟨wb11, ea11, ef11, kn11, tp11⟩ := fx H11 b11
      -- borne
      refine ⟨fun σ H' => ∃ c : Bool, σ = [some (.ref d), some (.ref wa), some (.int times), some (.ref r), some (.int mid), some (.ref f), some (.str (PyData.list [netD net, .tuple [.int a, .int b]]).shown), some (.int sg), some y, some (.bl good), some (.bl c)] ∧ (ButN d H8 H' ∧ Deck d (2004 + 100 * (j : Int) + 100) H' ∧ Tabs [(Pw, lamQ)] H') ∧ (c = true ↔ ∃ nums : List Int, tupOf H8 y = some (nums.map V.int) ∧ nums.length = net.length ∧ LHolds net a b nums (-1)), ?_, ?_⟩
      · refine ⟨y, rfl, .ref f, rfl, .ref wa, rfl, rfl, rfl, d, .ref wa, f, y, a, b, net, rfl, wb11, o, wo, ef11, c1, kn11, hT11, fun c H12 x12 hT12 hc => ⟨c, rfl, ⟨b11.trans (.ext x12), k11.ext x12, hT12⟩, ?_⟩⟩
        rw [hc, borne_iff o, tp11]
      rintro σ H12 ⟨c, rfl, ⟨b12, k12, hT12⟩, hc⟩
      obtain ⟨wb12, ea12, ef12, kn12, tp12⟩ := fx H12 b12
      -- bears
      refine ⟨fun σ H' => σ = [some (.ref d), some (.ref wa), some (.int times), some (.ref r), some (.int mid), some (.ref f), some (.str (PyData.list [netD net, .tuple [.int a, .int b]]).shown), some (.int sg), some y, some (.bl good), some (.bl c)] ∧ ButN d H8 H' ∧ Deck d (2004 + 100 * (j : Int) + 100) H' ∧ Tabs [(Pw, lamQ)] H', ?_, ?_⟩
      · refine ⟨.bl c, rfl, .bl good, rfl, good, rfl, ite2 (fun z => ?_) (fun z => ?_)⟩
        · obtain ⟨nums, en, ln⟩ := hg.mp z
          obtain ⟨m, rfl, em⟩ := tupOf_some (tp12.trans en)
          refine ⟨.ref wa, rfl, .ref f, rfl, .ref m, rfl, 1, rfl, .ref wa, f, m, a, b, -1, nums, net, rfl, wb12, o, wo, l20, ef12, em, ln, .inr rfl, fun c2 H13 s13 hc2 => ?_⟩
          refine ⟨c, by rw [own2 (-1) nums c c2 en ln hc hc2]; rfl, true, rfl, ite2 (fun z => absurd z Bool.false_ne_true) (fun _ => ⟨rfl, b12.trans (.of (.of s13)), k12.same s13, hT12.ext s13⟩)⟩
        · have zf : good = false := by
            cases good with
            | false => rfl
            | true => exact absurd rfl z
          refine ⟨c, by rw [own (-1) H12 c hc zf]; rfl, true, rfl, ite2 (fun z => absurd z Bool.false_ne_true) (fun _ => ⟨rfl, b12, k12, hT12⟩)⟩
      clear wb12 ea12 ef12 kn12 tp12 hT12 k12 b12
      rintro σ H13 ⟨rfl, b13, k13, hT13⟩
      obtain ⟨wb13, ea13, ef13, kn13, tp13⟩ := fx H13 b13
      -- by name, by position
      refine ⟨y, rfl, .ref f, rfl, .ref wa, rfl, rfl, rfl, d, .ref wa, f, y, a, b, net, rfl, wb13, o, wo, ef13, c1, kn13, hT13, fun u1 H14 x14 hT14 hu1 => ?_⟩
      have b14 := b13.trans (.ext x14)
      obtain ⟨wb14, ea14, ef14, kn14, tp14⟩ := fx H14 b14
      refine ⟨.ref wa, rfl, .ref f, rfl, y, rfl, d, .ref wa, f, y, a, b, net, rfl, wb14, o, wo, ef14, c1, kn14, hT14, fun u2 H15 x15 hT15 hu2 => ?_⟩
      have e12 : u1 = u2 := by
        rw [Bool.eq_iff_iff, hu1, hu2, capped_iff o, capped_iff o, tp13, tp14]
      rw [e12]
      refine ⟨rfl, _, rfl, ite2 (fun z => ?_) (fun _ => ⟨⟨_, _, _, rfl⟩, b14.trans (.ext x15), (k13.ext x14).ext x15, hT15⟩)⟩
      rw [decide_eq_true rfl] at z
      exact absurd z Bool.false_ne_true
    · obtain ⟨⟨y8, y9, y10, rfl⟩, b9, k9, hT9⟩ := p
      exact ⟨⟨_, _, _, _, rfl⟩, b78.trans b9, k9.mono (by omega), hT9⟩
  · obtain ⟨⟨y7, y8, y9, y10, rfl⟩, b7, k7', hT7⟩ := p
    have wb7 := (wb5.stayT (Stay.of (s6.trans s7))).up (tupBut k7 b7)
    have ef7 := tupBut k7 b7 _ _ ((s6.trans s7) _ _ ef5)
    refine ⟨v, rfl, .ref f, rfl, (by show 2 ≤ sizeLine; decide), fun u hu => ?_⟩
    have s8 := same_upd (o := .lst [v, .ref f]) hu
    refine ⟨u, _, rfl, dpl u _ upd_same (wb7.stayT (Stay.of s8)) (s8 _ _ ef7), shw.s, shw.n, Nat.le_trans shw.k (by decide), shw.fits (by decide), _, rfl, rfl, ?_⟩
    have fin : Q (.bl (decide (V.str (PyData.list [netD net, .tuple [.int a, .int b]]).shown = V.str (PyData.list [netD net, .tuple [.int a, .int b]]).shown))) (upd H7 u (.lst [v, .ref f])) := by
      rw [decide_eq_true rfl]
      exact q _ ((ButN.of (b5.trans (.of (s6.trans s7)))).trans (b7.trans (.of (.of s8)))) (hT7.ext s8)
    exact fin
end
end K09

set_option Elab.async false
set_option linter.all false
set_option maxRecDepth 100000
set_option maxHeartbeats 2000000
namespace K09
open PySem PySem.Spec PyProof.Rows L2 LamX NdefX Clo Rep Shw Grd
section
variable {P : Program} {w : World} {K : PySem.W.Frag} {mg : Str → Option Value} {base : Heap}
theorem SqL.butN {H H' : Hp} {a d : Addr} {xs : List V} (h : SqL K H a xs) (n : H d = none) {H1 : Hp} (s : Same H H1) (b : ButN d H1 H') : SqL K H' a xs := by
  rcases h with (e | ⟨o, e⟩) | e
  · exact .inl (.inl (b a _ (ne_of_none e n) (fun _ z => nomatch z) (s _ _ e)))
  · exact .inl (.inr ⟨o, b a _ (ne_of_none e n) (fun _ z => nomatch z) (s _ _ e)⟩)
  · exact .inr e
def spLaw (K : PySem.W.Frag) (Pw : Addr) : Sp := fun vs H Q _ => ∃ (a : Addr) (ns : List Int), vs = [.ref a] ∧ SqL K H a (ns.map V.int) ∧ ns.length ≤ 63 ∧ Tabs [(Pw, lamQ)] H ∧ ∀ H', Q (.bl true) H'
theorem ok_law (T : Top K mg) {cw Pw : Addr} (W : WalkAt K T.f_walk_steps T.d_walk_steps cw) (TB : TabB base mg cw Pw)
    (KN_caps : KBn K T.d_caps ["web", "fraction", "thing"] 0 ["thing", "fraction", "web"] (fun _ ws => kwU ws) (fun _ zs => kwR zs))
    (KN_bears : KBn K T.d_bears ["web", "fraction", "thing"] 0 ["thing", "fraction", "web"] (fun _ ws => kwU ws) (fun _ zs => kwR zs))
    {f : Addr} {fd : FuncData} (F : Fun K "law" "law" s_law f fd) : FnG P w K mg base CX0 9 f fd ["_law_script"] (spLaw K Pw) := by
  have G__law_open : FnOk P w K mg base CX0 1 T.f__law_open T.d__law_open ["_law_script", "_law_k"] (spOpen K) := ok__law_open T
  have G__law_right : FnG P w K mg base CX0 8 T.f__law_right T.d__law_right ["_law_deck"] (spRight Pw) := ok__law_right T W TB KN_caps KN_bears
  refine fng_of F sc_law (fun vs H Q E h => ?_) (fun cdv A outer s H vs Q E hr hgd h => ?_)
  · obtain ⟨a, ns, rfl, _⟩ := h
    rfl
  obtain ⟨a, ns, rfl, hS, l63, hT, q⟩ := h
  refine ⟨_, (pss_cons (ps_for PassesOwn.never rfl (pi_range1 rfl T.b_range (pa_cons (pe_callB (call_max2 rfl) rfl T.b_max bt_max (pa_cons pe_int (pa_cons (pe_callB (call_min2 rfl) rfl T.b_min bt_min (pa_cons pe_int (pa_cons (pe_callB call_len_seq rfl T.b_len bt_len (pa_cons (pv 0) pa_nil)) pa_nil))) pa_nil))) pa_nil)) (pg_name (i := 1) sc_law.nd rfl (.inl rfl))
      (pss_one (ps_if (pt_not (pt_val (pe_callG G__law_right hr (by omega) hgd rfl T.D__law_right.g T.D__law_right.F.kp T.D__law_right.b pass0 (pa_cons (pe_call G__law_open (hr.mono (by omega)) rfl T.D__law_open.g T.D__law_open.F.kp T.D__law_open.b .nil pass0 (pa_cons (pv 0) (pa_cons (pv 1) pa_nil))) pa_nil))))
        (pss_one (ps_ret pe_bl))
        pss_nil)))
    (pss_one (ps_ret pe_bl))), ?_⟩
  have lm : (ns.map V.int).length = ns.length := List.length_map _
  refine ⟨.ref a, rfl, a, _, rfl, .inl hS, 6, _, rfl, 1, _, rfl, _, rfl, ?_, ?_, for_range (fun i σ H' => (∃ y1, σ = [some (.ref a), y1]) ∧ SqL K H' a (ns.map V.int) ∧ Tabs [(Pw, lamQ)] H')
    ⟨⟨_, rfl⟩, hS, hT⟩ (fun i σ H1 hi p => ?_) (fun σ H1 p => q H1)⟩
  · split <;> split <;> omega
  · split <;> split <;> omega
  · obtain ⟨⟨y1, rfl⟩, hS1, hT1⟩ := p
    refine ⟨.ref a, rfl, .int (0 + (i : Int)), rfl, a, ns, i, by rw [Int.zero_add]; rfl, hS1, fun d H2 s2 nd k2 => ?_⟩
    refine ⟨d, rfl, k2, hT1.ext s2, fun H3 b3 hT3 => ⟨true, rfl, ite2 (fun z => absurd z Bool.false_ne_true) (fun _ => ⟨⟨_, rfl⟩, SqL.butN hS1 nd s2 b3, hT3⟩)⟩⟩
end
end K09

set_option Elab.async false
set_option linter.all false
set_option maxRecDepth 100000
set_option maxHeartbeats 2000000
namespace Grd
open PySem PySem.Spec PyProof.Rows L2 LamX NdefX Clo
/-- the law's own call, from the head: one table (that of the code object cw), the script -/
theorem law_callG {P : Program} {w : World} {K : PySem.W.Frag} {mg mb : Str → Option Value} {k : Nat} {fa a cw Pw : Addr} {fd : FuncData} {x : Str} {sp : Sp} {s₁ : Shared} {vs : List Value} {ns : List Int}
    (KX : K.In s₁.heap) (hns : s₁.heap.Ns mainGlobals mg) (hb : s₁.heap.Ns builtinsNs mb) (hbb : ∀ x : Str, x ≠ "__name__" → mb x = bootBuiltins x) (hlim : s₁.heap.NoLimit) (hg : s₁.gens = #[])
    (hT : s₁.heap.get? Pw = some { cls := .none, data := .fields #[] }) (nT : K.lookup Pw = none) (C : PySem.W.CodeHd s₁.heap cw Pw)
    (hbm : ∃ (bm : Addr) (ob : Obj), mg "__builtins__" = some (.ref bm) ∧ bm ≠ builtinsNs ∧ s₁.heap.get? bm = some ob ∧ ob.cls = .type "module" ∧ ob.dict = some builtinsNs ∧ ob.data = .plain)
    (ha : s₁.heap.get? a = some { cls := .type "list", data := .seq vs.toArray }) (hi : IntsAre vs ns) (hl : ns.length ≤ sizeLine) (hr : Room k callerA)
    (F : ∀ base : Heap, K.In base → base.Ns mainGlobals mg → TabB base mg cw Pw → FnG P w K mg base CX0 k fa fd [x] sp) (hbind : ∀ (s : Shared) (u : Value), BindsTo s fd ⟨[u], []⟩ [(x, u)])
    (hsp : ∀ H : Hp, H Pw = some (.tbl #[]) → SqL K H a (ns.map V.int) → sp [.ref a] H (fun v _ => v = .bl true) fun _ _ _ => False) :
    codeAny (model P w) callerA (.call (.ref fa) ⟨[.ref a], []⟩) (fun r s' => r = .ok (.ret (.bool true)) ∧ OldK s₁.heap s'.heap ∧ s'.os = s₁.os ∧ AllBare s'.gens) s₁ := by
  have rv := vals_ints hi
  have lenV := hi.length
  have aP : a ≠ Pw := fun z => by
    rw [z, hT] at ha
    have z' : (Data.fields #[] : Data) = Data.seq vs.toArray _ := congrArg Obj.data (Option.some.inj ha)
    cases z'
  -- what is tracked: the table, and the script if the text has not written it
  obtain ⟨scr, hscr⟩ : ∃ scr : Option HO, scr = (match K.lookup a with | some _ => none | none => some (HO.frz { cls := .type "list", data := .seq vs.toArray } (.lst (ns.map V.int)))) := ⟨_, rfl⟩
  obtain ⟨H, hH⟩ : ∃ H : Hp, H = fun b => if b = Pw then some (.tbl #[]) else if b = a then scr else none := ⟨_, rfl⟩
  have HP : H Pw = some (.tbl #[]) := by
    rw [hH]
    exact if_pos rfl
  have Ha : H a = scr := by
    rw [hH]
    show (if a = Pw then _ else if a = a then scr else none) = scr
    rw [if_neg aP, if_pos rfl]
  have Hn : ∀ b, b ≠ Pw → b ≠ a → H b = none := fun b h1 h2 => by
    rw [hH]
    show (if b = Pw then _ else if b = a then scr else none) = none
    rw [if_neg h1, if_neg h2]
  have scrC : scr = none ∨ scr = some (HO.frz { cls := .type "list", data := .seq vs.toArray } (.lst (ns.map V.int))) := by
    rw [hscr]
    cases K.lookup a with
    | some o => exact .inl rfl
    | none => exact .inr rfl
  have free : ∀ {b : Addr} {o : Obj}, s₁.heap.get? b = some o → (∀ v n, o.data ≠ .seq v n) → o.data ≠ .fields #[] → H b = none := fun {b o} e h1 h2 => by
    refine Hn b (fun z => ?_) fun z => ?_
    · rw [z, hT] at e
      cases e
      exact h2 rfl
    · rw [z, ha] at e
      cases e
      exact h1 _ _ rfl
  have freeD : ∀ {b : Addr} {o : Obj} {es : Array DictEntry} {n : Nat}, s₁.heap.get? b = some o → o.data = .dict es n → H b = none := fun {b o es n} e d =>
    free e (fun v m z => by rw [d] at z; cases z) fun z => by rw [d] at z; cases z
  have ns_ : ∀ {b : Addr} {m : Str → Option Value}, s₁.heap.Ns b m → (hidT s₁.heap H).Ns b m := fun {b m} h => by
    obtain ⟨o, es, ep, e, d, r⟩ := h
    exact ⟨o, es, ep, hidT_get e (freeD e d), d, r⟩
  have kb : K.In (hidT s₁.heap H) := fun b o e => by
    refine hidT_get (KX b o e) ?_
    by_cases h1 : b = Pw
    · rw [h1, nT] at e
      cases e
    · by_cases h2 : b = a
      · rw [h2, Ha, hscr]
        rw [h2] at e
        rw [e]
      · exact Hn b h1 h2
  have hok : HOk P w H s₁.heap := fun b u e => by
    by_cases h1 : b = Pw
    · rw [h1, HP] at e
      cases e
      rw [h1]
      exact hT
    · by_cases h2 : b = a
      · rw [h2, Ha] at e
        rcases scrC with z | z
        · rw [z] at e
          cases e
        · rw [z] at e
          cases e
          rw [h2]
          exact ⟨ha, by rw [List.length_map]; exact hl, vs, _, rv, ha⟩
      · rw [Hn b h1 h2] at e
        cases e
  have md : L2.Mod K mg (hidT s₁.heap H) := by
    obtain ⟨mc, h1, h2⟩ := hlim
    exact ⟨kb, ns_ hns, ⟨mb, ns_ hb, hbb⟩, mc, ns_ h1, h2⟩
  have tb : TabB (hidT s₁.heap H) mg cw Pw := by
    constructor
    · obtain ⟨o, us, file, tf, flags, tg, inF, text, tt, e1, r1, r2, r3, r4, r5, r6, r7, r8, hne⟩ := C
      refine ⟨o, us, file, tf, flags, tg, inF, text, tt, hidT_get e1 (free e1 (fun v m z => ?_) fun z => ?_), r1, r2, r3, r4, r5, r6, r7, r8, hne⟩
      · rw [r2] at z
        cases z
      · rw [r2] at z
        cases z
        simp at r3
    · obtain ⟨bm, ob, b1, b2, b3, b4, b5, b6⟩ := hbm
      have nG : bm ≠ mainGlobals := fun z => by
        obtain ⟨o, es, ep, e, hd, _⟩ := hns
        rw [z, e] at b3
        cases b3
        rw [hd] at b6
        cases b6
      have nP : bm ≠ Pw := fun z => by
        rw [z, hT] at b3
        cases b3
        cases b6
      exact ⟨bm, ob, b1, b2, nG, nP, hidT_get b3 (free b3 (fun v m z => by rw [b6] at z; cases z) fun z => by rw [b6] at z; cases z), b4, b5, b6⟩
    · intro z
      obtain ⟨o, es, ep, e, hd, _⟩ := hns
      rw [z, hT] at e
      cases e
      cases hd
  have e0 : Env0 P w K mg (hidT s₁.heap H) callerA [] s₁ H := by
    refine ⟨rfl, md, fun b o e => of_hidT e, Nat.le_of_eq (hidT_size _ _), trivial, fun b hb => ?_, hok, .of_eq hg⟩
    cases (show b ∈ ([] : List Addr) from hb)
  have sq : SqL K H a (ns.map V.int) := by
    cases hk : K.lookup a with
    | some o =>
      have e := KX a o hk
      rw [ha] at e
      cases e
      exact .inr ⟨_, vs.toArray, _, hk, rfl, rfl, rfl, by rw [List.size_toArray, lenV]; exact hl, by simpa using rv⟩
    | none =>
      refine .inl (.inr ⟨{ cls := .type "list", data := .seq vs.toArray }, ?_⟩)
      rw [Ha, hscr, hk]
  refine codeAny_mono ((F _ kb (ns_ hns) tb).run callerA [] s₁ H ⟨[.ref a], []⟩ [.ref a] [.ref a] _ _ hr rfl e0 (hbind s₁ (.ref a)) (.cons rfl .nil) (hsp H HP sq)) fun r s' h => ?_
  cases r with
  | error e => exact (show False from h).elim
  | ok fl =>
    cases fl with
    | next => exact (show False from h).elim
    | brk => exact (show False from h).elim
    | cont => exact (show False from h).elim
    | ret u =>
      obtain ⟨v, H', os, bare, un, hok', r', q⟩ := h
      cases (show v = .bl true from q)
      cases (show u = Value.bool true from r')
      have key : ∀ b o, b ≠ Pw → s₁.heap.get? b = some o → s'.heap.get? b = some o := fun b o nb e => by
        by_cases h2 : b = a
        · rcases scrC with z | z
          · exact un.keep b o e (by rw [h2, Ha, z]) (fun q => by cases (show b ∈ ([] : List Addr) from q)) (fun q => by cases q)
          · have z1 : H b = some (HO.frz { cls := .type "list", data := .seq vs.toArray } (.lst (ns.map V.int))) := by rw [h2, Ha, z]
            obtain ⟨e1, _⟩ := hok b _ z1
            obtain ⟨e2, _⟩ := hok' b _ (un.frzs b _ _ z1)
            rw [e] at e1
            cases e1
            exact e2
        · exact un.keep b o e (Hn b nb h2) (fun q => by cases (show b ∈ ([] : List Addr) from q)) (fun q => by cases q)
      obtain ⟨more, zt⟩ := un.tbls Pw #[] HP
      have grown : s'.heap.get? Pw = some { cls := .none, data := .fields (#[] ++ more) } := hok' Pw _ zt
      refine ⟨rfl, ⟨fun b o e => ?_, fun b o e => ?_⟩, os, bare⟩
      · by_cases h1 : b = Pw
        · rw [h1] at e ⊢
          rw [hT] at e
          cases e
          exact .inr (.inl ⟨(C.tab hT).isCodeTable, rfl, #[], more, rfl, grown⟩)
        · exact .inl (key b o h1 e)
      · by_cases h1 : b = Pw
        · rw [h1]
          exact ⟨_, grown⟩
        · exact ⟨o, key b o h1 e⟩
/-- the end of a law's row -/
theorem walk_ofG {l : PySem.W.OpenLaw} {n k : Nat} {q : Program} {loose : List Str} {XP : (Str → Option Value) → Heap → Prop} {YP : World → Heap → Prop} {d : DefRec} {K : Params → PySem.W.Frag} {x : Str}
    (hn : l.most = some n) (hn2 : n ≤ sizeLine) (hdf : d.params.defaults = []) (hr : Room k callerA) (hY : ∀ (w : World) (h : Heap), YP w h → (K w.params).In h)
    (F : ∀ (w : World) (mg : Str → Option Value) (fa : Addr) (h : Heap), YP w h → (K w.params).In h → h.Ns mainGlobals mg → mg d.name = some (.ref fa) →
      ∃ (fd : FuncData) (cw Pw : Addr) (sp : Sp), h.get? Pw = some { cls := .none, data := .fields #[] } ∧ (K w.params).lookup Pw = none ∧ PySem.W.CodeHd h cw Pw ∧ (∀ (s : Shared) (u : Value), BindsTo s fd ⟨[u], []⟩ [(x, u)]) ∧
        (∀ (H : Hp) (a : Addr) (ns : List Int), ns.length ≤ n → H Pw = some (.tbl #[]) → SqL (K w.params) H a (ns.map V.int) → sp [.ref a] H (fun v _ => v = .bl true) fun _ _ _ => False) ∧
        ∀ base : Heap, (K w.params).In base → base.Ns mainGlobals mg → TabB base mg cw Pw → FnG l.prog w (K w.params) mg base CX0 k fa fd [x] sp) :
    PySem.W.WalkO q loose XP YP l.row.toRowW d [] (fun f vs => PySem.call f vs) := by
  refine Att.attach_callB hn hdf fun w s₀ s₁ mg mb fa o pm cd doc a vs ns G Y ho hd hcd hmg hobj hints hlen hbits hg => ?_
  have KX := hY w _ Y
  obtain ⟨fd, cw, Pw, sp, hT, nT, C, hb, hsp, hF⟩ := F w mg fa _ Y KX G.T.g hmg
  exact law_callG KX G.T.g G.T.b G.T.builtins G.T.nolimit hg hT nT C G.T.bmain hobj hints (Nat.le_trans hlen hn2) hr hF hb fun H hH hS => hsp H a ns hlen hH hS
end Grd

set_option Elab.async false
set_option linter.all false
set_option maxRecDepth 100000
set_option maxHeartbeats 4000000
namespace K09
open PySem PySem.Spec PyProof.Rows L2 LamX NdefX Clo Rep Shw Grd
theorem kw_rel {zs : List V} {ws : List Value} (h : Vals zs ws) : Vals (kwR zs) (kwU ws) := by
  cases h with
  | nil => exact .nil
  | cons a r => cases r with
    | nil => exact .cons a .nil
    | cons b r => cases r with
      | nil => exact .cons a (.cons b .nil)
      | cons c r => cases r with
        | nil => exact .cons c (.cons b (.cons a .nil))
        | cons d r => exact .cons a (.cons b (.cons c (.cons d r)))
theorem defAt_mk {h : Heap} {K : PySem.W.Frag} {mg : Str → Option Value} {x : Str} {st : Stmt} {ps : List Str} {f : Addr} {oc : Value} {od an : Option Addr} {osl : Array (Option Value)} {kV doc pm cdv ct : Value} (X : K.In h) (G : h.Ns mainGlobals mg)
    (a : PySem.W.nsIn K mainGlobals x = some (some (.ref f))) (l : K.lookup f = some ⟨oc, od, .func (PySem.W.fnOf x x (defArgs st) (defBody st) (defScope st) .none kV doc pm an cdv ct), osl⟩) (c : PySem.W.codeIn K cdv x = true) (k : PySem.W.keepIn K (.ref f) = true)
    (hb : ∀ (kV doc pm : Value) (an : Option Addr) (cdv ct : Value) (us : List Value), us.length = ps.length → bindArgs (PySem.W.fnOf x x (defArgs st) (defBody st) (defScope st) .none kV doc pm an cdv ct) ⟨us, []⟩ = pure (ps.zip us)) :
    DefAt K mg x st ps f (PySem.W.fnOf x x (defArgs st) (defBody st) (defScope st) .none kV doc pm an cdv ct) :=
  ⟨fun_mk l c k, PySem.W.mg_of X G a, (fun_mk l c k).binds hb⟩
theorem all_mk {l : PySem.W.OpenLaw} {w : World} {K : PySem.W.Frag} {h : Heap} {mg : Str → Option Value} {fa cw Pw : Addr} (X : K.In h) (G : h.Ns mainGlobals mg) (hfa : mg "law" = some (.ref fa))
    {f_search : Addr} {oc_search : Value} {od_search an_search : Option Addr} {sl_search : Array (Option Value)} {kV_search dc_search pm_search cd_search ct_search : Value}
    (a_search : PySem.W.nsIn K mainGlobals "search" = some (some (.ref f_search))) (l_search : K.lookup f_search = some ⟨oc_search, od_search, .func (PySem.W.fnOf "search" "search" (defArgs s_search) (defBody s_search) (defScope s_search) .none kV_search dc_search pm_search an_search cd_search ct_search), sl_search⟩) (c_search : PySem.W.codeIn K cd_search "search" = true) (k_search : PySem.W.keepIn K (.ref f_search) = true)
    {f_is_whole : Addr} {oc_is_whole : Value} {od_is_whole an_is_whole : Option Addr} {sl_is_whole : Array (Option Value)} {kV_is_whole dc_is_whole pm_is_whole cd_is_whole ct_is_whole : Value}
    (a_is_whole : PySem.W.nsIn K mainGlobals "is_whole" = some (some (.ref f_is_whole))) (l_is_whole : K.lookup f_is_whole = some ⟨oc_is_whole, od_is_whole, .func (PySem.W.fnOf "is_whole" "is_whole" (defArgs s_is_whole) (defBody s_is_whole) (defScope s_is_whole) .none kV_is_whole dc_is_whole pm_is_whole an_is_whole cd_is_whole ct_is_whole), sl_is_whole⟩) (c_is_whole : PySem.W.codeIn K cd_is_whole "is_whole" = true) (k_is_whole : PySem.W.keepIn K (.ref f_is_whole) = true)
    {f_is_whole_in : Addr} {oc_is_whole_in : Value} {od_is_whole_in an_is_whole_in : Option Addr} {sl_is_whole_in : Array (Option Value)} {kV_is_whole_in dc_is_whole_in pm_is_whole_in cd_is_whole_in ct_is_whole_in : Value}
    (a_is_whole_in : PySem.W.nsIn K mainGlobals "is_whole_in" = some (some (.ref f_is_whole_in))) (l_is_whole_in : K.lookup f_is_whole_in = some ⟨oc_is_whole_in, od_is_whole_in, .func (PySem.W.fnOf "is_whole_in" "is_whole_in" (defArgs s_is_whole_in) (defBody s_is_whole_in) (defScope s_is_whole_in) .none kV_is_whole_in dc_is_whole_in pm_is_whole_in an_is_whole_in cd_is_whole_in ct_is_whole_in), sl_is_whole_in⟩) (c_is_whole_in : PySem.W.codeIn K cd_is_whole_in "is_whole_in" = true) (k_is_whole_in : PySem.W.keepIn K (.ref f_is_whole_in) = true)
    {f_is_pair : Addr} {oc_is_pair : Value} {od_is_pair an_is_pair : Option Addr} {sl_is_pair : Array (Option Value)} {kV_is_pair dc_is_pair pm_is_pair cd_is_pair ct_is_pair : Value}
    (a_is_pair : PySem.W.nsIn K mainGlobals "is_pair" = some (some (.ref f_is_pair))) (l_is_pair : K.lookup f_is_pair = some ⟨oc_is_pair, od_is_pair, .func (PySem.W.fnOf "is_pair" "is_pair" (defArgs s_is_pair) (defBody s_is_pair) (defScope s_is_pair) .none kV_is_pair dc_is_pair pm_is_pair an_is_pair cd_is_pair ct_is_pair), sl_is_pair⟩) (c_is_pair : PySem.W.codeIn K cd_is_pair "is_pair" = true) (k_is_pair : PySem.W.keepIn K (.ref f_is_pair) = true)
    {f_check_fraction : Addr} {oc_check_fraction : Value} {od_check_fraction an_check_fraction : Option Addr} {sl_check_fraction : Array (Option Value)} {kV_check_fraction dc_check_fraction pm_check_fraction cd_check_fraction ct_check_fraction : Value}
    (a_check_fraction : PySem.W.nsIn K mainGlobals "check_fraction" = some (some (.ref f_check_fraction))) (l_check_fraction : K.lookup f_check_fraction = some ⟨oc_check_fraction, od_check_fraction, .func (PySem.W.fnOf "check_fraction" "check_fraction" (defArgs s_check_fraction) (defBody s_check_fraction) (defScope s_check_fraction) .none kV_check_fraction dc_check_fraction pm_check_fraction an_check_fraction cd_check_fraction ct_check_fraction), sl_check_fraction⟩) (c_check_fraction : PySem.W.codeIn K cd_check_fraction "check_fraction" = true) (k_check_fraction : PySem.W.keepIn K (.ref f_check_fraction) = true)
    {f_walk_steps : Addr} {oc_walk_steps : Value} {od_walk_steps an_walk_steps : Option Addr} {sl_walk_steps : Array (Option Value)} {kV_walk_steps dc_walk_steps pm_walk_steps ct_walk_steps : Value}
    (a_walk_steps : PySem.W.nsIn K mainGlobals "walk_steps" = some (some (.ref f_walk_steps))) (l_walk_steps : K.lookup f_walk_steps = some ⟨oc_walk_steps, od_walk_steps, .func (PySem.W.fnOf "walk_steps" "walk_steps" (defArgs s_walk_steps) (defBody s_walk_steps) (defScope s_walk_steps) .none kV_walk_steps dc_walk_steps pm_walk_steps an_walk_steps (.ref cw) ct_walk_steps), sl_walk_steps⟩) (c_walk_steps : PySem.W.codeIn K (.ref cw) "walk_steps" = true) (k_walk_steps : PySem.W.keepIn K (.ref f_walk_steps) = true)
    {f_met_nodes : Addr} {oc_met_nodes : Value} {od_met_nodes an_met_nodes : Option Addr} {sl_met_nodes : Array (Option Value)} {kV_met_nodes dc_met_nodes pm_met_nodes cd_met_nodes ct_met_nodes : Value}
    (a_met_nodes : PySem.W.nsIn K mainGlobals "met_nodes" = some (some (.ref f_met_nodes))) (l_met_nodes : K.lookup f_met_nodes = some ⟨oc_met_nodes, od_met_nodes, .func (PySem.W.fnOf "met_nodes" "met_nodes" (defArgs s_met_nodes) (defBody s_met_nodes) (defScope s_met_nodes) .none kV_met_nodes dc_met_nodes pm_met_nodes an_met_nodes cd_met_nodes ct_met_nodes), sl_met_nodes⟩) (c_met_nodes : PySem.W.codeIn K cd_met_nodes "met_nodes" = true) (k_met_nodes : PySem.W.keepIn K (.ref f_met_nodes) = true)
    {f_turned : Addr} {oc_turned : Value} {od_turned an_turned : Option Addr} {sl_turned : Array (Option Value)} {kV_turned dc_turned pm_turned cd_turned ct_turned : Value}
    (a_turned : PySem.W.nsIn K mainGlobals "turned" = some (some (.ref f_turned))) (l_turned : K.lookup f_turned = some ⟨oc_turned, od_turned, .func (PySem.W.fnOf "turned" "turned" (defArgs s_turned) (defBody s_turned) (defScope s_turned) .none kV_turned dc_turned pm_turned an_turned cd_turned ct_turned), sl_turned⟩) (c_turned : PySem.W.codeIn K cd_turned "turned" = true) (k_turned : PySem.W.keepIn K (.ref f_turned) = true)
    {f_weighed : Addr} {oc_weighed : Value} {od_weighed an_weighed : Option Addr} {sl_weighed : Array (Option Value)} {kV_weighed dc_weighed pm_weighed cd_weighed ct_weighed : Value}
    (a_weighed : PySem.W.nsIn K mainGlobals "weighed" = some (some (.ref f_weighed))) (l_weighed : K.lookup f_weighed = some ⟨oc_weighed, od_weighed, .func (PySem.W.fnOf "weighed" "weighed" (defArgs s_weighed) (defBody s_weighed) (defScope s_weighed) .none kV_weighed dc_weighed pm_weighed an_weighed cd_weighed ct_weighed), sl_weighed⟩) (c_weighed : PySem.W.codeIn K cd_weighed "weighed" = true) (k_weighed : PySem.W.keepIn K (.ref f_weighed) = true)
    {f_holds_up : Addr} {oc_holds_up : Value} {od_holds_up an_holds_up : Option Addr} {sl_holds_up : Array (Option Value)} {kV_holds_up dc_holds_up pm_holds_up cd_holds_up ct_holds_up : Value}
    (a_holds_up : PySem.W.nsIn K mainGlobals "holds_up" = some (some (.ref f_holds_up))) (l_holds_up : K.lookup f_holds_up = some ⟨oc_holds_up, od_holds_up, .func (PySem.W.fnOf "holds_up" "holds_up" (defArgs s_holds_up) (defBody s_holds_up) (defScope s_holds_up) .none kV_holds_up dc_holds_up pm_holds_up an_holds_up cd_holds_up ct_holds_up), sl_holds_up⟩) (c_holds_up : PySem.W.codeIn K cd_holds_up "holds_up" = true) (k_holds_up : PySem.W.keepIn K (.ref f_holds_up) = true)
    {f_is_web : Addr} {oc_is_web : Value} {od_is_web an_is_web : Option Addr} {sl_is_web : Array (Option Value)} {kV_is_web dc_is_web pm_is_web cd_is_web ct_is_web : Value}
    (a_is_web : PySem.W.nsIn K mainGlobals "is_web" = some (some (.ref f_is_web))) (l_is_web : K.lookup f_is_web = some ⟨oc_is_web, od_is_web, .func (PySem.W.fnOf "is_web" "is_web" (defArgs s_is_web) (defBody s_is_web) (defScope s_is_web) .none kV_is_web dc_is_web pm_is_web an_is_web cd_is_web ct_is_web), sl_is_web⟩) (c_is_web : PySem.W.codeIn K cd_is_web "is_web" = true) (k_is_web : PySem.W.keepIn K (.ref f_is_web) = true)
    {f_is_node : Addr} {oc_is_node : Value} {od_is_node an_is_node : Option Addr} {sl_is_node : Array (Option Value)} {kV_is_node dc_is_node pm_is_node cd_is_node ct_is_node : Value}
    (a_is_node : PySem.W.nsIn K mainGlobals "is_node" = some (some (.ref f_is_node))) (l_is_node : K.lookup f_is_node = some ⟨oc_is_node, od_is_node, .func (PySem.W.fnOf "is_node" "is_node" (defArgs s_is_node) (defBody s_is_node) (defScope s_is_node) .none kV_is_node dc_is_node pm_is_node an_is_node cd_is_node ct_is_node), sl_is_node⟩) (c_is_node : PySem.W.codeIn K cd_is_node "is_node" = true) (k_is_node : PySem.W.keepIn K (.ref f_is_node) = true)
    {f_is_move : Addr} {oc_is_move : Value} {od_is_move an_is_move : Option Addr} {sl_is_move : Array (Option Value)} {kV_is_move dc_is_move pm_is_move cd_is_move ct_is_move : Value}
    (a_is_move : PySem.W.nsIn K mainGlobals "is_move" = some (some (.ref f_is_move))) (l_is_move : K.lookup f_is_move = some ⟨oc_is_move, od_is_move, .func (PySem.W.fnOf "is_move" "is_move" (defArgs s_is_move) (defBody s_is_move) (defScope s_is_move) .none kV_is_move dc_is_move pm_is_move an_is_move cd_is_move ct_is_move), sl_is_move⟩) (c_is_move : PySem.W.codeIn K cd_is_move "is_move" = true) (k_is_move : PySem.W.keepIn K (.ref f_is_move) = true)
    {f_check_web : Addr} {oc_check_web : Value} {od_check_web an_check_web : Option Addr} {sl_check_web : Array (Option Value)} {kV_check_web dc_check_web pm_check_web cd_check_web ct_check_web : Value}
    (a_check_web : PySem.W.nsIn K mainGlobals "check_web" = some (some (.ref f_check_web))) (l_check_web : K.lookup f_check_web = some ⟨oc_check_web, od_check_web, .func (PySem.W.fnOf "check_web" "check_web" (defArgs s_check_web) (defBody s_check_web) (defScope s_check_web) .none kV_check_web dc_check_web pm_check_web an_check_web cd_check_web ct_check_web), sl_check_web⟩) (c_check_web : PySem.W.codeIn K cd_check_web "check_web" = true) (k_check_web : PySem.W.keepIn K (.ref f_check_web) = true)
    {f_is_numbers : Addr} {oc_is_numbers : Value} {od_is_numbers an_is_numbers : Option Addr} {sl_is_numbers : Array (Option Value)} {kV_is_numbers dc_is_numbers pm_is_numbers cd_is_numbers ct_is_numbers : Value}
    (a_is_numbers : PySem.W.nsIn K mainGlobals "is_numbers" = some (some (.ref f_is_numbers))) (l_is_numbers : K.lookup f_is_numbers = some ⟨oc_is_numbers, od_is_numbers, .func (PySem.W.fnOf "is_numbers" "is_numbers" (defArgs s_is_numbers) (defBody s_is_numbers) (defScope s_is_numbers) .none kV_is_numbers dc_is_numbers pm_is_numbers an_is_numbers cd_is_numbers ct_is_numbers), sl_is_numbers⟩) (c_is_numbers : PySem.W.codeIn K cd_is_numbers "is_numbers" = true) (k_is_numbers : PySem.W.keepIn K (.ref f_is_numbers) = true)
    {f_caps : Addr} {oc_caps : Value} {od_caps an_caps : Option Addr} {sl_caps : Array (Option Value)} {kV_caps dc_caps pm_caps cd_caps ct_caps : Value}
    (a_caps : PySem.W.nsIn K mainGlobals "caps" = some (some (.ref f_caps))) (l_caps : K.lookup f_caps = some ⟨oc_caps, od_caps, .func (PySem.W.fnOf "caps" "caps" (defArgs s_caps) (defBody s_caps) (defScope s_caps) .none kV_caps dc_caps pm_caps an_caps cd_caps ct_caps), sl_caps⟩) (c_caps : PySem.W.codeIn K cd_caps "caps" = true) (k_caps : PySem.W.keepIn K (.ref f_caps) = true)
    {f_bears : Addr} {oc_bears : Value} {od_bears an_bears : Option Addr} {sl_bears : Array (Option Value)} {kV_bears dc_bears pm_bears cd_bears ct_bears : Value}
    (a_bears : PySem.W.nsIn K mainGlobals "bears" = some (some (.ref f_bears))) (l_bears : K.lookup f_bears = some ⟨oc_bears, od_bears, .func (PySem.W.fnOf "bears" "bears" (defArgs s_bears) (defBody s_bears) (defScope s_bears) .none kV_bears dc_bears pm_bears an_bears cd_bears ct_bears), sl_bears⟩) (c_bears : PySem.W.codeIn K cd_bears "bears" = true) (k_bears : PySem.W.keepIn K (.ref f_bears) = true)
    {f_turned_numbers : Addr} {oc_turned_numbers : Value} {od_turned_numbers an_turned_numbers : Option Addr} {sl_turned_numbers : Array (Option Value)} {kV_turned_numbers dc_turned_numbers pm_turned_numbers cd_turned_numbers ct_turned_numbers : Value}
    (a_turned_numbers : PySem.W.nsIn K mainGlobals "turned_numbers" = some (some (.ref f_turned_numbers))) (l_turned_numbers : K.lookup f_turned_numbers = some ⟨oc_turned_numbers, od_turned_numbers, .func (PySem.W.fnOf "turned_numbers" "turned_numbers" (defArgs s_turned_numbers) (defBody s_turned_numbers) (defScope s_turned_numbers) .none kV_turned_numbers dc_turned_numbers pm_turned_numbers an_turned_numbers cd_turned_numbers ct_turned_numbers), sl_turned_numbers⟩) (c_turned_numbers : PySem.W.codeIn K cd_turned_numbers "turned_numbers" = true) (k_turned_numbers : PySem.W.keepIn K (.ref f_turned_numbers) = true)
    {f__law_open : Addr} {oc__law_open : Value} {od__law_open an__law_open : Option Addr} {sl__law_open : Array (Option Value)} {kV__law_open dc__law_open pm__law_open cd__law_open ct__law_open : Value}
    (a__law_open : PySem.W.nsIn K mainGlobals "_law_open" = some (some (.ref f__law_open))) (l__law_open : K.lookup f__law_open = some ⟨oc__law_open, od__law_open, .func (PySem.W.fnOf "_law_open" "_law_open" (defArgs s__law_open) (defBody s__law_open) (defScope s__law_open) .none kV__law_open dc__law_open pm__law_open an__law_open cd__law_open ct__law_open), sl__law_open⟩) (c__law_open : PySem.W.codeIn K cd__law_open "_law_open" = true) (k__law_open : PySem.W.keepIn K (.ref f__law_open) = true)
    {f__law_draw : Addr} {oc__law_draw : Value} {od__law_draw an__law_draw : Option Addr} {sl__law_draw : Array (Option Value)} {kV__law_draw dc__law_draw pm__law_draw cd__law_draw ct__law_draw : Value}
    (a__law_draw : PySem.W.nsIn K mainGlobals "_law_draw" = some (some (.ref f__law_draw))) (l__law_draw : K.lookup f__law_draw = some ⟨oc__law_draw, od__law_draw, .func (PySem.W.fnOf "_law_draw" "_law_draw" (defArgs s__law_draw) (defBody s__law_draw) (defScope s__law_draw) .none kV__law_draw dc__law_draw pm__law_draw an__law_draw cd__law_draw ct__law_draw), sl__law_draw⟩) (c__law_draw : PySem.W.codeIn K cd__law_draw "_law_draw" = true) (k__law_draw : PySem.W.keepIn K (.ref f__law_draw) = true)
    {f__law_web : Addr} {oc__law_web : Value} {od__law_web an__law_web : Option Addr} {sl__law_web : Array (Option Value)} {kV__law_web dc__law_web pm__law_web cd__law_web ct__law_web : Value}
    (a__law_web : PySem.W.nsIn K mainGlobals "_law_web" = some (some (.ref f__law_web))) (l__law_web : K.lookup f__law_web = some ⟨oc__law_web, od__law_web, .func (PySem.W.fnOf "_law_web" "_law_web" (defArgs s__law_web) (defBody s__law_web) (defScope s__law_web) .none kV__law_web dc__law_web pm__law_web an__law_web cd__law_web ct__law_web), sl__law_web⟩) (c__law_web : PySem.W.codeIn K cd__law_web "_law_web" = true) (k__law_web : PySem.W.keepIn K (.ref f__law_web) = true)
    {f__law_met : Addr} {oc__law_met : Value} {od__law_met an__law_met : Option Addr} {sl__law_met : Array (Option Value)} {kV__law_met dc__law_met pm__law_met cd__law_met ct__law_met : Value}
    (a__law_met : PySem.W.nsIn K mainGlobals "_law_met" = some (some (.ref f__law_met))) (l__law_met : K.lookup f__law_met = some ⟨oc__law_met, od__law_met, .func (PySem.W.fnOf "_law_met" "_law_met" (defArgs s__law_met) (defBody s__law_met) (defScope s__law_met) .none kV__law_met dc__law_met pm__law_met an__law_met cd__law_met ct__law_met), sl__law_met⟩) (c__law_met : PySem.W.codeIn K cd__law_met "_law_met" = true) (k__law_met : PySem.W.keepIn K (.ref f__law_met) = true)
    {f__law_left : Addr} {oc__law_left : Value} {od__law_left an__law_left : Option Addr} {sl__law_left : Array (Option Value)} {kV__law_left dc__law_left pm__law_left cd__law_left ct__law_left : Value}
    (a__law_left : PySem.W.nsIn K mainGlobals "_law_left" = some (some (.ref f__law_left))) (l__law_left : K.lookup f__law_left = some ⟨oc__law_left, od__law_left, .func (PySem.W.fnOf "_law_left" "_law_left" (defArgs s__law_left) (defBody s__law_left) (defScope s__law_left) .none kV__law_left dc__law_left pm__law_left an__law_left cd__law_left ct__law_left), sl__law_left⟩) (c__law_left : PySem.W.codeIn K cd__law_left "_law_left" = true) (k__law_left : PySem.W.keepIn K (.ref f__law_left) = true)
    {f__law_says : Addr} {oc__law_says : Value} {od__law_says an__law_says : Option Addr} {sl__law_says : Array (Option Value)} {kV__law_says dc__law_says pm__law_says cd__law_says ct__law_says : Value}
    (a__law_says : PySem.W.nsIn K mainGlobals "_law_says" = some (some (.ref f__law_says))) (l__law_says : K.lookup f__law_says = some ⟨oc__law_says, od__law_says, .func (PySem.W.fnOf "_law_says" "_law_says" (defArgs s__law_says) (defBody s__law_says) (defScope s__law_says) .none kV__law_says dc__law_says pm__law_says an__law_says cd__law_says ct__law_says), sl__law_says⟩) (c__law_says : PySem.W.codeIn K cd__law_says "_law_says" = true) (k__law_says : PySem.W.keepIn K (.ref f__law_says) = true)
    {f__law_capped : Addr} {oc__law_capped : Value} {od__law_capped an__law_capped : Option Addr} {sl__law_capped : Array (Option Value)} {kV__law_capped dc__law_capped pm__law_capped cd__law_capped ct__law_capped : Value}
    (a__law_capped : PySem.W.nsIn K mainGlobals "_law_capped" = some (some (.ref f__law_capped))) (l__law_capped : K.lookup f__law_capped = some ⟨oc__law_capped, od__law_capped, .func (PySem.W.fnOf "_law_capped" "_law_capped" (defArgs s__law_capped) (defBody s__law_capped) (defScope s__law_capped) .none kV__law_capped dc__law_capped pm__law_capped an__law_capped cd__law_capped ct__law_capped), sl__law_capped⟩) (c__law_capped : PySem.W.codeIn K cd__law_capped "_law_capped" = true) (k__law_capped : PySem.W.keepIn K (.ref f__law_capped) = true)
    {f__law_is_numbers : Addr} {oc__law_is_numbers : Value} {od__law_is_numbers an__law_is_numbers : Option Addr} {sl__law_is_numbers : Array (Option Value)} {kV__law_is_numbers dc__law_is_numbers pm__law_is_numbers cd__law_is_numbers ct__law_is_numbers : Value}
    (a__law_is_numbers : PySem.W.nsIn K mainGlobals "_law_is_numbers" = some (some (.ref f__law_is_numbers))) (l__law_is_numbers : K.lookup f__law_is_numbers = some ⟨oc__law_is_numbers, od__law_is_numbers, .func (PySem.W.fnOf "_law_is_numbers" "_law_is_numbers" (defArgs s__law_is_numbers) (defBody s__law_is_numbers) (defScope s__law_is_numbers) .none kV__law_is_numbers dc__law_is_numbers pm__law_is_numbers an__law_is_numbers cd__law_is_numbers ct__law_is_numbers), sl__law_is_numbers⟩) (c__law_is_numbers : PySem.W.codeIn K cd__law_is_numbers "_law_is_numbers" = true) (k__law_is_numbers : PySem.W.keepIn K (.ref f__law_is_numbers) = true)
    {f__law_things : Addr} {oc__law_things : Value} {od__law_things an__law_things : Option Addr} {sl__law_things : Array (Option Value)} {kV__law_things dc__law_things pm__law_things cd__law_things ct__law_things : Value}
    (a__law_things : PySem.W.nsIn K mainGlobals "_law_things" = some (some (.ref f__law_things))) (l__law_things : K.lookup f__law_things = some ⟨oc__law_things, od__law_things, .func (PySem.W.fnOf "_law_things" "_law_things" (defArgs s__law_things) (defBody s__law_things) (defScope s__law_things) .none kV__law_things dc__law_things pm__law_things an__law_things cd__law_things ct__law_things), sl__law_things⟩) (c__law_things : PySem.W.codeIn K cd__law_things "_law_things" = true) (k__law_things : PySem.W.keepIn K (.ref f__law_things) = true)
    {f__law_weights : Addr} {oc__law_weights : Value} {od__law_weights an__law_weights : Option Addr} {sl__law_weights : Array (Option Value)} {kV__law_weights dc__law_weights pm__law_weights cd__law_weights ct__law_weights : Value}
    (a__law_weights : PySem.W.nsIn K mainGlobals "_law_weights" = some (some (.ref f__law_weights))) (l__law_weights : K.lookup f__law_weights = some ⟨oc__law_weights, od__law_weights, .func (PySem.W.fnOf "_law_weights" "_law_weights" (defArgs s__law_weights) (defBody s__law_weights) (defScope s__law_weights) .none kV__law_weights dc__law_weights pm__law_weights an__law_weights cd__law_weights ct__law_weights), sl__law_weights⟩) (c__law_weights : PySem.W.codeIn K cd__law_weights "_law_weights" = true) (k__law_weights : PySem.W.keepIn K (.ref f__law_weights) = true)
    {f__law_right : Addr} {oc__law_right : Value} {od__law_right an__law_right : Option Addr} {sl__law_right : Array (Option Value)} {kV__law_right dc__law_right pm__law_right cd__law_right ct__law_right : Value}
    (a__law_right : PySem.W.nsIn K mainGlobals "_law_right" = some (some (.ref f__law_right))) (l__law_right : K.lookup f__law_right = some ⟨oc__law_right, od__law_right, .func (PySem.W.fnOf "_law_right" "_law_right" (defArgs s__law_right) (defBody s__law_right) (defScope s__law_right) .none kV__law_right dc__law_right pm__law_right an__law_right cd__law_right ct__law_right), sl__law_right⟩) (c__law_right : PySem.W.codeIn K cd__law_right "_law_right" = true) (k__law_right : PySem.W.keepIn K (.ref f__law_right) = true)
    {f_law : Addr} {oc_law : Value} {od_law an_law : Option Addr} {sl_law : Array (Option Value)} {kV_law dc_law pm_law cd_law ct_law : Value}
    (a_law : PySem.W.nsIn K mainGlobals "law" = some (some (.ref f_law))) (l_law : K.lookup f_law = some ⟨oc_law, od_law, .func (PySem.W.fnOf "law" "law" (defArgs s_law) (defBody s_law) (defScope s_law) .none kV_law dc_law pm_law an_law cd_law ct_law), sl_law⟩) (c_law : PySem.W.codeIn K cd_law "law" = true) (k_law : PySem.W.keepIn K (.ref f_law) = true)
    (z_len : PySem.W.nsIn K mainGlobals "len" = some none)
    (z_isinstance : PySem.W.nsIn K mainGlobals "isinstance" = some none)
    (z_abs : PySem.W.nsIn K mainGlobals "abs" = some none)
    (z_all : PySem.W.nsIn K mainGlobals "all" = some none)
    (z_max : PySem.W.nsIn K mainGlobals "max" = some none)
    (z_min : PySem.W.nsIn K mainGlobals "min" = some none)
    (z_sorted : PySem.W.nsIn K mainGlobals "sorted" = some none)
    (z_repr : PySem.W.nsIn K mainGlobals "repr" = some none)
    (z_int : PySem.W.nsIn K mainGlobals "int" = some none)
    (z_bool : PySem.W.nsIn K mainGlobals "bool" = some none)
    (z_tuple : PySem.W.nsIn K mainGlobals "tuple" = some none)
    (z_list : PySem.W.nsIn K mainGlobals "list" = some none)
    (z_range : PySem.W.nsIn K mainGlobals "range" = some none)
    (z_enumerate : PySem.W.nsIn K mainGlobals "enumerate" = some none)
    {t_MOST_NODES : Tok} (g_MOST_NODES : PySem.W.nsIn K mainGlobals "MOST_NODES" = some (some (.int 120 t_MOST_NODES)))
    {t_MOST_MOVES : Tok} (g_MOST_MOVES : PySem.W.nsIn K mainGlobals "MOST_MOVES" = some (some (.int 12 t_MOST_MOVES)))
    {t_MOST_WEIGHT : Tok} (g_MOST_WEIGHT : PySem.W.nsIn K mainGlobals "MOST_WEIGHT" = some (some (.int 1000000 t_MOST_WEIGHT)))
    (pc : PySem.W.codeHdIn K cw Pw = true) (pn : K.lookup Pw = none) (pt : h.get? Pw = some { cls := .none, data := .fields #[] }) :
    ∃ (fd : FuncData) (cw Pw : Addr) (sp : Sp), h.get? Pw = some { cls := .none, data := .fields #[] } ∧ K.lookup Pw = none ∧ PySem.W.CodeHd h cw Pw ∧ (∀ (s : Shared) (u : Value), BindsTo s fd ⟨[u], []⟩ [("_law_script", u)]) ∧
        (∀ (H : Hp) (a : Addr) (ns : List Int), ns.length ≤ 63 → H Pw = some (.tbl #[]) → SqL K H a (ns.map V.int) → sp [.ref a] H (fun v _ => v = .bl true) fun _ _ _ => False) ∧
        ∀ base : Heap, K.In base → base.Ns mainGlobals mg → TabB base mg cw Pw → FnG l.prog w K mg base CX0 9 fa fd ["_law_script"] sp := by
  have e := hfa.symm.trans (PySem.W.mg_of X G a_law)
  cases e
  have D_search := defAt_mk (st := s_search) (ps := ["start", "leads"]) X G a_search l_search c_search k_search (fun _ _ _ _ _ _ us hl => match us, hl with | [_, _], _ => rfl)
  have D_is_whole := defAt_mk (st := s_is_whole) (ps := ["thing"]) X G a_is_whole l_is_whole c_is_whole k_is_whole (fun _ _ _ _ _ _ us hl => match us, hl with | [_], _ => rfl)
  have D_is_whole_in := defAt_mk (st := s_is_whole_in) (ps := ["thing", "low", "high"]) X G a_is_whole_in l_is_whole_in c_is_whole_in k_is_whole_in (fun _ _ _ _ _ _ us hl => match us, hl with | [_, _, _], _ => rfl)
  have D_is_pair := defAt_mk (st := s_is_pair) (ps := ["thing"]) X G a_is_pair l_is_pair c_is_pair k_is_pair (fun _ _ _ _ _ _ us hl => match us, hl with | [_], _ => rfl)
  have D_check_fraction := defAt_mk (st := s_check_fraction) (ps := ["thing"]) X G a_check_fraction l_check_fraction c_check_fraction k_check_fraction (fun _ _ _ _ _ _ us hl => match us, hl with | [_], _ => rfl)
  have D_walk_steps := defAt_mk (st := s_walk_steps) (ps := ["web"]) X G a_walk_steps l_walk_steps c_walk_steps k_walk_steps (fun _ _ _ _ _ _ us hl => match us, hl with | [_], _ => rfl)
  have D_met_nodes := defAt_mk (st := s_met_nodes) (ps := ["web"]) X G a_met_nodes l_met_nodes c_met_nodes k_met_nodes (fun _ _ _ _ _ _ us hl => match us, hl with | [_], _ => rfl)
  have D_turned := defAt_mk (st := s_turned) (ps := ["web"]) X G a_turned l_turned c_turned k_turned (fun _ _ _ _ _ _ us hl => match us, hl with | [_], _ => rfl)
  have D_weighed := defAt_mk (st := s_weighed) (ps := ["web", "fraction"]) X G a_weighed l_weighed c_weighed k_weighed (fun _ _ _ _ _ _ us hl => match us, hl with | [_, _], _ => rfl)
  have D_holds_up := defAt_mk (st := s_holds_up) (ps := ["web", "numbers"]) X G a_holds_up l_holds_up c_holds_up k_holds_up (fun _ _ _ _ _ _ us hl => match us, hl with | [_, _], _ => rfl)
  have D_is_web := defAt_mk (st := s_is_web) (ps := ["thing"]) X G a_is_web l_is_web c_is_web k_is_web (fun _ _ _ _ _ _ us hl => match us, hl with | [_], _ => rfl)
  have D_is_node := defAt_mk (st := s_is_node) (ps := ["thing", "size"]) X G a_is_node l_is_node c_is_node k_is_node (fun _ _ _ _ _ _ us hl => match us, hl with | [_, _], _ => rfl)
  have D_is_move := defAt_mk (st := s_is_move) (ps := ["thing", "size"]) X G a_is_move l_is_move c_is_move k_is_move (fun _ _ _ _ _ _ us hl => match us, hl with | [_, _], _ => rfl)
  have D_check_web := defAt_mk (st := s_check_web) (ps := ["thing"]) X G a_check_web l_check_web c_check_web k_check_web (fun _ _ _ _ _ _ us hl => match us, hl with | [_], _ => rfl)
  have D_is_numbers := defAt_mk (st := s_is_numbers) (ps := ["web", "thing"]) X G a_is_numbers l_is_numbers c_is_numbers k_is_numbers (fun _ _ _ _ _ _ us hl => match us, hl with | [_, _], _ => rfl)
  have D_caps := defAt_mk (st := s_caps) (ps := ["web", "fraction", "thing"]) X G a_caps l_caps c_caps k_caps (fun _ _ _ _ _ _ us hl => match us, hl with | [_, _, _], _ => rfl)
  have D_bears := defAt_mk (st := s_bears) (ps := ["web", "fraction", "thing"]) X G a_bears l_bears c_bears k_bears (fun _ _ _ _ _ _ us hl => match us, hl with | [_, _, _], _ => rfl)
  have D_turned_numbers := defAt_mk (st := s_turned_numbers) (ps := ["numbers"]) X G a_turned_numbers l_turned_numbers c_turned_numbers k_turned_numbers (fun _ _ _ _ _ _ us hl => match us, hl with | [_], _ => rfl)
  have D__law_open := defAt_mk (st := s__law_open) (ps := ["_law_script", "_law_k"]) X G a__law_open l__law_open c__law_open k__law_open (fun _ _ _ _ _ _ us hl => match us, hl with | [_, _], _ => rfl)
  have D__law_draw := defAt_mk (st := s__law_draw) (ps := ["_law_deck", "_law_many"]) X G a__law_draw l__law_draw c__law_draw k__law_draw (fun _ _ _ _ _ _ us hl => match us, hl with | [_, _], _ => rfl)
  have D__law_web := defAt_mk (st := s__law_web) (ps := ["_law_deck", "_law_many", "_law_moves", "_law_most"]) X G a__law_web l__law_web c__law_web k__law_web (fun _ _ _ _ _ _ us hl => match us, hl with | [_, _, _, _], _ => rfl)
  have D__law_met := defAt_mk (st := s__law_met) (ps := ["_law_net", "_law_start"]) X G a__law_met l__law_met c__law_met k__law_met (fun _ _ _ _ _ _ us hl => match us, hl with | [_, _], _ => rfl)
  have D__law_left := defAt_mk (st := s__law_left) (ps := ["_law_net", "_law_ratio", "_law_sign"]) X G a__law_left l__law_left c__law_left k__law_left (fun _ _ _ _ _ _ us hl => match us, hl with | [_, _, _], _ => rfl)
  have D__law_says := defAt_mk (st := s__law_says) (ps := ["_law_found", "_law_due"]) X G a__law_says l__law_says c__law_says k__law_says (fun _ _ _ _ _ _ us hl => match us, hl with | [_, _], _ => rfl)
  have D__law_capped := defAt_mk (st := s__law_capped) (ps := ["_law_net", "_law_ratio", "_law_numbers", "_law_sign"]) X G a__law_capped l__law_capped c__law_capped k__law_capped (fun _ _ _ _ _ _ us hl => match us, hl with | [_, _, _, _], _ => rfl)
  have D__law_is_numbers := defAt_mk (st := s__law_is_numbers) (ps := ["_law_net", "_law_item"]) X G a__law_is_numbers l__law_is_numbers c__law_is_numbers k__law_is_numbers (fun _ _ _ _ _ _ us hl => match us, hl with | [_, _], _ => rfl)
  have D__law_things := defAt_mk (st := s__law_things) (ps := ["_law_deck", "_law_net", "_law_ratio", "_law_sign"]) X G a__law_things l__law_things c__law_things k__law_things (fun _ _ _ _ _ _ us hl => match us, hl with | [_, _, _, _], _ => rfl)
  have D__law_weights := defAt_mk (st := s__law_weights) (ps := ["_law_net"]) X G a__law_weights l__law_weights c__law_weights k__law_weights (fun _ _ _ _ _ _ us hl => match us, hl with | [_], _ => rfl)
  have D__law_right := defAt_mk (st := s__law_right) (ps := ["_law_deck"]) X G a__law_right l__law_right c__law_right k__law_right (fun _ _ _ _ _ _ us hl => match us, hl with | [_], _ => rfl)
  let T : Top K mg := {
    f_search := _, d_search := _, D_search := D_search,
    f_is_whole := _, d_is_whole := _, D_is_whole := D_is_whole,
    f_is_whole_in := _, d_is_whole_in := _, D_is_whole_in := D_is_whole_in,
    f_is_pair := _, d_is_pair := _, D_is_pair := D_is_pair,
    f_check_fraction := _, d_check_fraction := _, D_check_fraction := D_check_fraction,
    f_walk_steps := _, d_walk_steps := _, D_walk_steps := D_walk_steps,
    f_met_nodes := _, d_met_nodes := _, D_met_nodes := D_met_nodes,
    f_turned := _, d_turned := _, D_turned := D_turned,
    f_weighed := _, d_weighed := _, D_weighed := D_weighed,
    f_holds_up := _, d_holds_up := _, D_holds_up := D_holds_up,
    f_is_web := _, d_is_web := _, D_is_web := D_is_web,
    f_is_node := _, d_is_node := _, D_is_node := D_is_node,
    f_is_move := _, d_is_move := _, D_is_move := D_is_move,
    f_check_web := _, d_check_web := _, D_check_web := D_check_web,
    f_is_numbers := _, d_is_numbers := _, D_is_numbers := D_is_numbers,
    f_caps := _, d_caps := _, D_caps := D_caps,
    f_bears := _, d_bears := _, D_bears := D_bears,
    f_turned_numbers := _, d_turned_numbers := _, D_turned_numbers := D_turned_numbers,
    f__law_open := _, d__law_open := _, D__law_open := D__law_open,
    f__law_draw := _, d__law_draw := _, D__law_draw := D__law_draw,
    f__law_web := _, d__law_web := _, D__law_web := D__law_web,
    f__law_met := _, d__law_met := _, D__law_met := D__law_met,
    f__law_left := _, d__law_left := _, D__law_left := D__law_left,
    f__law_says := _, d__law_says := _, D__law_says := D__law_says,
    f__law_capped := _, d__law_capped := _, D__law_capped := D__law_capped,
    f__law_is_numbers := _, d__law_is_numbers := _, D__law_is_numbers := D__law_is_numbers,
    f__law_things := _, d__law_things := _, D__law_things := D__law_things,
    f__law_weights := _, d__law_weights := _, D__law_weights := D__law_weights,
    f__law_right := _, d__law_right := _, D__law_right := D__law_right,
    b_len := PySem.W.mg_none_of X G z_len,
    b_isinstance := PySem.W.mg_none_of X G z_isinstance,
    b_abs := PySem.W.mg_none_of X G z_abs,
    b_all := PySem.W.mg_none_of X G z_all,
    b_max := PySem.W.mg_none_of X G z_max,
    b_min := PySem.W.mg_none_of X G z_min,
    b_sorted := PySem.W.mg_none_of X G z_sorted,
    b_repr := PySem.W.mg_none_of X G z_repr,
    b_int := PySem.W.mg_none_of X G z_int,
    b_bool := PySem.W.mg_none_of X G z_bool,
    b_tuple := PySem.W.mg_none_of X G z_tuple,
    b_list := PySem.W.mg_none_of X G z_list,
    b_range := PySem.W.mg_none_of X G z_range,
    b_enumerate := PySem.W.mg_none_of X G z_enumerate,
    t_MOST_NODES := _, c_MOST_NODES := PySem.W.mg_of X G g_MOST_NODES,
    t_MOST_MOVES := _, c_MOST_MOVES := PySem.W.mg_of X G g_MOST_MOVES,
    t_MOST_WEIGHT := _, c_MOST_WEIGHT := PySem.W.mg_of X G g_MOST_WEIGHT }
  have KC : KBn K T.d_caps ["web", "fraction", "thing"] 0 ["thing", "fraction", "web"] (fun _ ws => kwU ws) (fun _ zs => kwR zs) := ⟨fun s us ws _ l1 l2 => match us, ws, l1, l2 with | [], [_, _, _], _, _ => .of_eq rfl, fun _ h => kw_rel h⟩
  have KB : KBn K T.d_bears ["web", "fraction", "thing"] 0 ["thing", "fraction", "web"] (fun _ ws => kwU ws) (fun _ zs => kwR zs) := ⟨fun s us ws _ l1 l2 => match us, ws, l1, l2 with | [], [_, _, _], _, _ => .of_eq rfl, fun _ h => kw_rel h⟩
  exact ⟨PySem.W.fnOf "law" "law" (defArgs s_law) (defBody s_law) (defScope s_law) .none kV_law dc_law pm_law an_law cd_law ct_law, cw, Pw, spLaw K Pw, pt, pn, PySem.W.codeHd_of_K X pc, fun s v => .of_eq rfl,
    fun H a ns hl hP hS => ⟨a, ns, rfl, hS, hl, fun p hp => by rw [List.mem_singleton.mp hp]; exact TabS.nil hP, fun _ => rfl⟩,
    fun base _ _ TB => ok_law T ⟨_, _, _, _, _, _, _, _, rfl, l_walk_steps, c_walk_steps⟩ TB KC KB (fun_mk (st := s_law) l_law c_law k_law)⟩
end K09
open PySem PySem.W PyProof.Rows
set_option maxRecDepth 100000 in
set_option maxHeartbeats 0 in
theorem PySem.Challenge.cw_parlourday_k09_numbers_judged_holds : PySem.Challenge.rw_parlourday_k09_numbers_judged.Holds := by
  w_on; o_law; k_head; (case hw => w_witness2)
  k_fill
  refine Grd.walk_ofG (l := PySem.Challenge.rw_parlourday_k09_numbers_judged) (n := 63) (k := 9) (x := "_law_script") rfl (by decide) rfl ⟨rfl, by decide, by decide⟩ (fun w h Y => PySem.W.km_in_of Y) ?F
  case F =>
    intro w mg fa h Y KX G hmg
    have hT8 := PySem.W.km_tabs_of Y
    refine' K09.all_mk KX G hmg ?a_search ?l_search ?c_search ?k_search ?a_is_whole ?l_is_whole ?c_is_whole ?k_is_whole ?a_is_whole_in ?l_is_whole_in ?c_is_whole_in ?k_is_whole_in ?a_is_pair ?l_is_pair ?c_is_pair ?k_is_pair ?a_check_fraction ?l_check_fraction ?c_check_fraction ?k_check_fraction ?a_walk_steps ?l_walk_steps ?c_walk_steps ?k_walk_steps ?a_met_nodes ?l_met_nodes ?c_met_nodes ?k_met_nodes ?a_turned ?l_turned ?c_turned ?k_turned ?a_weighed ?l_weighed ?c_weighed ?k_weighed ?a_holds_up ?l_holds_up ?c_holds_up ?k_holds_up ?a_is_web ?l_is_web ?c_is_web ?k_is_web ?a_is_node ?l_is_node ?c_is_node ?k_is_node ?a_is_move ?l_is_move ?c_is_move ?k_is_move ?a_check_web ?l_check_web ?c_check_web ?k_check_web ?a_is_numbers ?l_is_numbers ?c_is_numbers ?k_is_numbers ?a_caps ?l_caps ?c_caps ?k_caps ?a_bears ?l_bears ?c_bears ?k_bears ?a_turned_numbers ?l_turned_numbers ?c_turned_numbers ?k_turned_numbers ?a__law_open ?l__law_open ?c__law_open ?k__law_open ?a__law_draw ?l__law_draw ?c__law_draw ?k__law_draw ?a__law_web ?l__law_web ?c__law_web ?k__law_web ?a__law_met ?l__law_met ?c__law_met ?k__law_met ?a__law_left ?l__law_left ?c__law_left ?k__law_left ?a__law_says ?l__law_says ?c__law_says ?k__law_says ?a__law_capped ?l__law_capped ?c__law_capped ?k__law_capped ?a__law_is_numbers ?l__law_is_numbers ?c__law_is_numbers ?k__law_is_numbers ?a__law_things ?l__law_things ?c__law_things ?k__law_things ?a__law_weights ?l__law_weights ?c__law_weights ?k__law_weights ?a__law_right ?l__law_right ?c__law_right ?k__law_right ?a_law ?l_law ?c_law ?k_law ?z_len ?z_isinstance ?z_abs ?z_all ?z_max ?z_min ?z_sorted ?z_repr ?z_int ?z_bool ?z_tuple ?z_list ?z_range ?z_enumerate ?g_MOST_NODES ?g_MOST_MOVES ?g_MOST_WEIGHT ?pc ?pn ?pt
    (case a_search => k_is); (case l_search => k_is); (case c_search => k_is); (case k_search => k_is); (case a_is_whole => k_is); (case l_is_whole => k_is); (case c_is_whole => k_is); (case k_is_whole => k_is); (case a_is_whole_in => k_is); (case l_is_whole_in => k_is); (case c_is_whole_in => k_is); (case k_is_whole_in => k_is); (case a_is_pair => k_is); (case l_is_pair => k_is); (case c_is_pair => k_is); (case k_is_pair => k_is); (case a_check_fraction => k_is); (case l_check_fraction => k_is); (case c_check_fraction => k_is); (case k_check_fraction => k_is); (case a_walk_steps => k_is); (case l_walk_steps => k_is); (case c_walk_steps => k_is); (case k_walk_steps => k_is); (case a_met_nodes => k_is); (case l_met_nodes => k_is); (case c_met_nodes => k_is); (case k_met_nodes => k_is); (case a_turned => k_is); (case l_turned => k_is); (case c_turned => k_is); (case k_turned => k_is); (case a_weighed => k_is); (case l_weighed => k_is); (case c_weighed => k_is); (case k_weighed => k_is); (case a_holds_up => k_is); (case l_holds_up => k_is); (case c_holds_up => k_is); (case k_holds_up => k_is); (case a_is_web => k_is); (case l_is_web => k_is); (case c_is_web => k_is); (case k_is_web => k_is); (case a_is_node => k_is); (case l_is_node => k_is); (case c_is_node => k_is); (case k_is_node => k_is); (case a_is_move => k_is); (case l_is_move => k_is); (case c_is_move => k_is); (case k_is_move => k_is); (case a_check_web => k_is); (case l_check_web => k_is); (case c_check_web => k_is); (case k_check_web => k_is); (case a_is_numbers => k_is); (case l_is_numbers => k_is); (case c_is_numbers => k_is); (case k_is_numbers => k_is); (case a_caps => k_is); (case l_caps => k_is); (case c_caps => k_is); (case k_caps => k_is); (case a_bears => k_is); (case l_bears => k_is); (case c_bears => k_is); (case k_bears => k_is); (case a_turned_numbers => k_is); (case l_turned_numbers => k_is); (case c_turned_numbers => k_is); (case k_turned_numbers => k_is); (case a__law_open => k_is); (case l__law_open => k_is); (case c__law_open => k_is); (case k__law_open => k_is); (case a__law_draw => k_is); (case l__law_draw => k_is); (case c__law_draw => k_is); (case k__law_draw => k_is); (case a__law_web => k_is); (case l__law_web => k_is); (case c__law_web => k_is); (case k__law_web => k_is); (case a__law_met => k_is); (case l__law_met => k_is); (case c__law_met => k_is); (case k__law_met => k_is); (case a__law_left => k_is); (case l__law_left => k_is); (case c__law_left => k_is); (case k__law_left => k_is); (case a__law_says => k_is); (case l__law_says => k_is); (case c__law_says => k_is); (case k__law_says => k_is); (case a__law_capped => k_is); (case l__law_capped => k_is); (case c__law_capped => k_is); (case k__law_capped => k_is); (case a__law_is_numbers => k_is); (case l__law_is_numbers => k_is); (case c__law_is_numbers => k_is); (case k__law_is_numbers => k_is); (case a__law_things => k_is); (case l__law_things => k_is); (case c__law_things => k_is); (case k__law_things => k_is); (case a__law_weights => k_is); (case l__law_weights => k_is); (case c__law_weights => k_is); (case k__law_weights => k_is); (case a__law_right => k_is); (case l__law_right => k_is); (case c__law_right => k_is); (case k__law_right => k_is); (case a_law => k_is); (case l_law => k_is); (case c_law => k_is); (case k_law => k_is); (case z_len => k_is); (case z_isinstance => k_is); (case z_abs => k_is); (case z_all => k_is); (case z_max => k_is); (case z_min => k_is); (case z_sorted => k_is); (case z_repr => k_is); (case z_int => k_is); (case z_bool => k_is); (case z_tuple => k_is); (case z_list => k_is); (case z_range => k_is); (case z_enumerate => k_is); (case g_MOST_NODES => k_is); (case g_MOST_MOVES => k_is); (case g_MOST_WEIGHT => k_is); (case pt => exact hT8 _ List.mem_cons_self); (case pc => kernel_rfl); (case pn => first | kernel_rfl | rfl | decide +kernel)

