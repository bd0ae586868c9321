import PyProof.Rows.All
import Wide.All
import OpenK.AllK
import Wide.FinOn
import HandS.ForMost
import HandS.Wide
import HandS.WideMore
import HandS.TupAny
import HandS.TupLen
import HandS.Evl
import HandS.Codes
import PyProof.ReprLen
import PyProof.StrLawsRepr
import HandS.Walk
import HandS.Zip
import KE.GoesMore
import HandS.Style
import HandS.TupMul
import PyProof.StrOps2
import HandS.IsInst
import HandS.StrMore
import HandS.ExcInit
import HandS.Nested
import HandS.ClsMeth
import HandS.FStr
import KE.KExcSuper
import HandS.ExcField
import HandS.ExcIs
import HandS.ExcOwn
import HandS.WordsExc
import KE.KExcIs
import HandS.Dict
import HandS.Replace
import HandS.ReplaceDef
import HandS.ReplaceLit
import HandS.ReplaceList
import HandS.TryOnly
import KE.RegKSuper
import PySem.Challenge.RW_pyhold_k00_splits_lines
set_option Elab.async false
set_option linter.all false
set_option maxRecDepth 100000
set_option maxHeartbeats 4000000
/-! A layer of one's own over the hand layer: defs by name, data, the helpers that the laws share. -/
namespace LK
open PySem PySem.Spec PyProof.Rows L2

/-! ### a def's promise where nothing is being shown (repr asks who is) -/
structure FnG (P : Program) (w : World) (K : PySem.W.Frag) (mg : Str → Option Value) (base : Heap) (CX : CXT) (k : Nat) (f : Addr) (fd : FuncData) (ps : List Str) (sp : Sp) : Prop where
  len : ∀ vs H Q E, sp vs H Q E → vs.length = ps.length
  run : ∀ (A : Around) (outer : List Env) (s : Shared) (H : Hp) (args : Args) (us : List Value) (vs : List V) (Q : VK) (E : XK), Room k A → A.guards = some [] →
    Env0 P w K mg base A outer s H → BindsTo s fd args (ps.zip us) → Vals vs us → sp vs H Q E → codeAny (model P w) A (.call (.ref f) args) (CR CX outer P w H s Q E) s
section
variable {P : Program} {w : World} {K : PySem.W.Frag} {mg : Str → Option Value} {base : Heap} {CX : CXT}
theorem FnG.imp {k : Nat} {f : Addr} {fd : FuncData} {ps : List Str} {sp sp' : Sp} (F : FnG P w K mg base CX k f fd ps sp) (h : ∀ vs H Q E, sp' vs H Q E → sp vs H Q E) : FnG P w K mg base CX k f fd ps sp' where
  len := fun vs H Q E q => F.len vs H Q E (h vs H Q E q)
  run := fun A outer s H args us vs Q E hr hg he hb hv hs => F.run A outer s H args us vs Q E hr hg he hb hv (h vs H Q E hs)
/-- the rule for a def: its body as a term of rules, and the reading of that term -/
theorem okG {x qual : Str} {st : Stmt} {f : Addr} {fd : FuncData} {N ps : List Str} {k : Nat} {sp : Sp} (F : Fun K x qual st f fd) (S : FnScope N ps (defScope st)) (len : ∀ vs H Q E, sp vs H Q E → vs.length = ps.length)
    (body : ∀ (cdv : Value) (A : Around) (outer : List Env) (s : Shared) (H : Hp) (vs : List V) (Q : VK) (E : XK), Room k (A.deeper (envOfC qual (defScope st) s.heap.objs.size f cdv)) →
      (A.deeper (envOfC qual (defScope st) s.heap.objs.size f cdv)).guards = some [] → sp vs H Q E →
      ∃ t, PSs (cxOf CX P w K mg base N qual (defScope st) f cdv A outer s H E) (defBody st) t ∧ t { nx := fun _ H' => Q .non H', rt := Q } (start N vs) H) :
    FnG P w K mg base CX (k + 1) f fd ps sp := by
  obtain ⟨oc, od, kV, doc, pm, an, cdv, ct, osl, rfl, lk, hcd⟩ := F.ex
  refine ⟨len, fun A outer s H args us vs Q E hr hgd e0 hb r hsp => ?_⟩
  have inn : K.In s.heap := e0.mod.kin.keeps fun b o e => (e0.bs b o e).1
  refine codeAny_call_function hr.depth (inn _ _ lk) rfl S.co S.gen rfl (PySem.W.codeRec_of inn hcd) (hb _ _ _ _ ?_)
  refine wpAny_newFunctionEnv_cells S.kind (fun y hy => ?_) fun env he s1 made => ?_
  · obtain ⟨n, v⟩ := y
    exact (S.par n (List.of_mem_zip hy).1).elim .inl fun q => .inr ⟨q, PySem.W.cellsFrom_some _ _ _ (.inl q)⟩
  · subst he
    have lim : s.heap.NoLimit := e0.mod.nolimit.keeps fun b o e => (e0.bs b o e).1
    refine ⟨lim.keeps made.toInCall.keep, codeAny_func ?_⟩
    obtain ⟨t, ht, hq⟩ := body cdv A outer s H vs Q E (hr.deeper _) hgd hsp
    refine wpAny_mono (ht.run [] s1 (start N vs) H _ (inv_start S hr.hd e0 (len _ _ _ _ hsp) r made) hq) (fun fl s' hs => ?_) fun e s' hs => hs
    cases fl with
    | ret u => exact let ⟨v, _, H', J, rv, q⟩ := hs; ⟨v, H', J.os, J.bare, J.base, J.hok, rv, q⟩
    | next => exact let ⟨_, H', J, q⟩ := hs; ⟨V.non, H', J.os, J.bare, J.base, J.hok, rfl, q⟩
    | brk => exact let ⟨_, _, _, q⟩ := hs; q.elim
    | cont => exact let ⟨_, _, _, q⟩ := hs; q.elim
/-- .. whose body lets no exception out -/
theorem okG0 {x qual : Str} {st : Stmt} {f : Addr} {fd : FuncData} {N ps : List Str} {k : Nat} {sp : Sp} (F : Fun K x qual st f fd) (S : FnScope N ps (defScope st)) (len : ∀ vs H Q E, sp vs H Q E → vs.length = ps.length)
    (body : ∀ (cdv : Value) (A : Around) (outer : List Env) (s : Shared) (H : Hp) (vs : List V) (Q : VK) (E : XK), Room k (A.deeper (envOfC qual (defScope st) s.heap.objs.size f cdv)) →
      (A.deeper (envOfC qual (defScope st) s.heap.objs.size f cdv)).guards = some [] → sp vs H Q E →
      ∃ t, PSs (cxOf CX0 P w K mg base N qual (defScope st) f cdv A outer s H E).nox (defBody st) t ∧ t { nx := fun _ H' => Q .non H', rt := Q } (start N vs) H) :
    FnG P w K mg base CX0 (k + 1) f fd ps sp :=
  okG F S len fun cdv A outer s H vs Q E hr hg hs => let ⟨t, ht, q⟩ := body cdv A outer s H vs Q E hr hg hs; ⟨t, ht.nox, q⟩
end
section
variable {X : Cx} {CX : CXT} {k : Nat} {f : Addr} {fd : FuncData} {ps : List Str} {sp : Sp} {E : XK} {x : Str} {p pos : Pos} {e : Expr} {es : List Expr} {t : TA}
theorem run_fnG {pins : List (Addr × Obj)} {σ : L2.St} {H : Hp} {s : Shared} {Q : VK} {us : List Value} {vs : List V} (F : FnG X.prog X.w X.K X.mg X.base CX k f fd ps sp) (hr : Room k X.A) (hg : X.A.guards = some []) (hb : Binds X.K fd ps [])
    (hx : Passes CX X E) (I : Inv X pins σ H s) (r : Vals vs us) (h : sp vs H Q E) : wpAny (model X.prog X.w) X.A (call (.ref f) us) (EP X pins σ Q) X.xe s := by
  have hl : (us ++ []).length = ps.length := by rw [List.append_nil, ← r.length, F.len _ _ _ _ h]
  have hbs := hb s us I.kIn hl
  rw [List.append_nil] at hbs
  refine wpAny_call (codeAny_mono (F.run X.A X.stack s H ⟨us, []⟩ us vs Q E hr hg I.env0 hbs r h) fun res s' hq => ?_)
  match res, hq with
  | .error e, hq => exact hx pins σ H s e s' I hq
  | .ok (.ret u), hq => exact I.after hq
  | .ok .next, hq => exact hq.elim
  | .ok .brk, hq => exact hq.elim
  | .ok .cont, hq => exact hq.elim
end

/-! ### defs of the text, by name -/
/-- what the top has left of the def x, whose statement is st -/
def HasFn (K : PySem.W.Frag) (x : Str) (st : Stmt) : Prop := ∃ (f : Addr) (oc : Value) (od an : Option Addr) (kV doc pm cdv ct : Value) (osl : Array (Option Value)),
  PySem.W.nsIn K mainGlobals x = some (some (.ref f)) ∧ K.lookup f = some ⟨oc, od, .func (PySem.W.fnOf x x (defArgs st) (defBody st) (defScope st) .none kV doc pm an cdv ct), osl⟩ ∧
  PySem.W.codeIn K cdv x = true ∧ PySem.W.keepIn K (.ref f) = true
/-- the def x may be called: its promise sp, by level k -/
structure Use (P : Program) (w : World) (K : PySem.W.Frag) (mg : Str → Option Value) (base : Heap) (CX : CXT) (x : Str) (k : Nat) (ps : List Str) (sp : Sp) : Prop where
  ex : ∃ (f : Addr) (fd : FuncData), FnG P w K mg base CX k f fd ps sp ∧ mg x = some (.ref f) ∧ PySem.W.keepIn K (.ref f) = true ∧ Binds K fd ps []
section
variable {P : Program} {w : World} {K : PySem.W.Frag} {mg : Str → Option Value} {base h : Heap} {CX : CXT}
theorem mk_use {x : Str} {st : Stmt} {k : Nat} {ps : List Str} {sp : Sp} (F : HasFn K x st) (X : K.In h) (G : h.Ns mainGlobals mg)
    (hb : ∀ (kV doc pm : Value) (an : Option Addr) (cdv ct : Value) (us : List Value), us.length = ps.length → bindArgs (PySem.W.fnOf x x (defArgs st) (defBody st) (defScope st) .none kV doc pm an cdv ct) ⟨us, []⟩ = pure (ps.zip us))
    (ok : ∀ (f : Addr) (fd : FuncData), Fun K x x st f fd → FnG P w K mg base CX k f fd ps sp) : Use P w K mg base CX x k ps sp := by
  obtain ⟨f, oc, od, an, kV, doc, pm, cdv, ct, osl, e, l, c, kp⟩ := F
  have Fn := fun_mk (st := st) l c kp
  exact ⟨f, _, ok f _ Fn, PySem.W.mg_of X G e, kp, Fn.binds hb⟩
theorem Use.imp {x : Str} {k : Nat} {ps : List Str} {sp sp' : Sp} (U : Use P w K mg base CX x k ps sp) (h : ∀ vs H Q E, sp' vs H Q E → sp vs H Q E) : Use P w K mg base CX x k ps sp' := by
  obtain ⟨f, fd, ok, r⟩ := U.ex
  exact ⟨f, fd, ok.imp h, r⟩
end
section
variable {X : Cx} {CX : CXT} {E : XK} {k : Nat} {x : Str} {ps : List Str} {sp : Sp} {p pos : Pos} {e : Expr} {es : List Expr} {t : TA}
theorem pe_useX (U : Use X.prog X.w X.K X.mg X.base CX x k ps sp) (hx : Passes CX X E) (hr : Room k X.A) (gd : X.A.guards = some []) (hg : Gl X x) (ha : PA X (e :: es) t) (hdb : (x == ("__debug__" : Str)) = false := by decide)
    (he : starEach (e :: es) X.env = (false, eval e X.env) :: starEach es X.env := by rfl) (hpl : (backTo pos (starEach es X.env)).any (·.1) = false := by rfl) : PE X (.Call (.Name x p) (e :: es) [] pos) (fun σ H Q => t σ H fun vs H1 => sp vs H1 Q E) := by
  obtain ⟨f, fd, ok, hm, kp, hb⟩ := U.ex
  refine ⟨fun pins s σ H Q I h => wpAny_Call_Name_kw (ld_glob I hg hm ?_ hdb)⟩
  exact PySem.W.callWith_K (h₀ := X.base) I.ok.mod.kin kp (thn (ha.run pos pins s σ H _ I h) fun us s1 ⟨vs, H1, I1, r, q⟩ => ⟨I1.kIn, run_fnG ok hr gd hb hx I1 r q⟩) he hpl
def tUse (sp : Sp) (E : XK) (t : TA) : TE := fun σ H Q => t σ H fun vs H1 => sp vs H1 Q E
theorem pe_use (U : Use X.prog X.w X.K X.mg X.base CX0 x k ps sp) (hr : Room k X.A) (gd : X.A.guards = some []) (hg : Gl X x) (ha : PA X (e :: es) t) (hdb : (x == ("__debug__" : Str)) = false := by decide)
    (he : starEach (e :: es) X.env = (false, eval e X.env) :: starEach es X.env := by rfl) (hpl : (backTo pos (starEach es X.env)).any (·.1) = false := by rfl) : PE X (.Call (.Name x p) (e :: es) [] pos) (tUse sp E0 t) := pe_useX U pass0 hr gd hg ha hdb he hpl
theorem pe_use0 (U : Use X.prog X.w X.K X.mg X.base CX0 x k ps sp) (hr : Room k X.A) (gd : X.A.guards = some []) (hg : Gl X x) (hdb : (x == ("__debug__" : Str)) = false := by decide) : PE X (.Call (.Name x p) [] [] pos) (tUse sp E0 tNil) := by
  obtain ⟨f, fd, ok, hm, kp, hb⟩ := U.ex
  exact ⟨fun pins s σ H Q I h => wpAny_Call_Name_kw (ld_glob I hg hm (PySem.W.callWith_K0 I.kIn kp (run_fnG (us := []) ok hr gd hb pass0 I .nil h)) hdb)⟩
end

/-! ### what stays -/
theorem Same.new {H : Hp} {p : Addr} {o : HO} (h : H p = none) : Same H (upd H p o) := fun b u e => by
  rw [upd_ne (ne_of_none e h)]; exact e
theorem Same.rd {H H' : Hp} {a : Addr} {u : HO} (e : Same H H') (h : Rd H a u) : Rd H' a u := by
  rcases h with h | ⟨o, h⟩
  · exact .inl (e _ _ h)
  · exact .inr ⟨o, e _ _ h⟩
theorem Same.tupl {K : PySem.W.Frag} {H H' : Hp} {a : Addr} {xs : List V} (e : Same H H') (h : SqT K H a xs) : SqT K H' a xs := by
  rcases h with h | h
  · exact .inl (Same.rd e h)
  · exact .inr h
theorem SqT.mono {K : PySem.W.Frag} {H H' : Hp} {a : Addr} {xs : List V} (h : SqT K H a xs) (e : Same H H') : SqT K H' a xs := Same.tupl e h
theorem SqL.mono {K : PySem.W.Frag} {H H' : Hp} {a : Addr} {xs : List V} (h : SqL K H a xs) (e : Same H H') : SqL K H' a xs := e.seq h

/-! ### data: none, bools, ints, texts, tuples (and lists that stand still) -/
mutual
theorem Dp.mono {K : PySem.W.Frag} {H H' : Hp} (e : Same H H') : ∀ {v : V} {d : PyData}, Dp K H v d → Dp K H' v d
  | _, _, .non => .non
  | _, _, .bl b => .bl b
  | _, _, .int i => .int i
  | _, _, .str x => .str x
  | _, _, .lst h a => .lst (e.seq h) (DpAll.mono e a)
  | _, _, .tup h a => .tup (Same.tupl e h) (DpAll.mono e a)
theorem DpAll.mono {K : PySem.W.Frag} {H H' : Hp} (e : Same H H') : ∀ {vs : List V} {ds : List PyData}, DpAll K H vs ds → DpAll K H' vs ds
  | _, _, .nil => .nil
  | _, _, .cons h a => .cons (Dp.mono e h) (DpAll.mono e a)
end
/-- a tuple just made -/
theorem Dp.made {K : PySem.W.Frag} {H : Hp} {p : Addr} {xs : List V} {ds : List PyData} (hp : H p = none) (h : DpAll K H xs ds) : Dp K (upd H p (.tup xs)) (.ref p) (.tuple ds) :=
  .tup (SqT.of upd_same) (DpAll.mono (Same.new hp) h)
theorem DpAll.length {K : PySem.W.Frag} {H : Hp} : ∀ {vs : List V} {ds : List PyData}, DpAll K H vs ds → vs.length = ds.length
  | _, _, .nil => rfl
  | _, _, .cons _ t => by simp [DpAll.length t]
theorem DpAll.app {K : PySem.W.Frag} {H : Hp} : ∀ {vs ws : List V} {ds es : List PyData}, DpAll K H vs ds → DpAll K H ws es → DpAll K H (vs ++ ws) (ds ++ es)
  | _, _, _, _, .nil, t => t
  | _, _, _, _, .cons h a, t => .cons h (DpAll.app a t)

/-! ### repr of data -/
mutual
theorem Dp.noDict {K : PySem.W.Frag} {H : Hp} : ∀ {v : V} {d : PyData}, Dp K H v d → d.hasDict = false
  | _, _, .non => rfl
  | _, _, .bl _ => rfl
  | _, _, .int _ => rfl
  | _, _, .str _ => rfl
  | _, _, .lst _ a => by simp only [PyData.hasDict]; exact DpAll.noDict a
  | _, _, .tup _ a => by simp only [PyData.hasDict]; exact DpAll.noDict a
theorem DpAll.noDict {K : PySem.W.Frag} {H : Hp} : ∀ {vs : List V} {ds : List PyData}, DpAll K H vs ds → PyData.hasDictAll ds = false
  | _, _, .nil => rfl
  | _, _, .cons h a => by simp only [PyData.hasDictAll, Dp.noDict h, DpAll.noDict a, Bool.or_self]
end
/-- what repr asks of data -/
structure ShowOk (d : PyData) : Prop where
  ok : d.showable = true
  dp : d.depth ≤ 60
  sz : d.shown.length ≤ sizeLine
def rRepr (K : PySem.W.Frag) : List V → Hp → VK → Prop := fun xs H Q => ∃ v d, xs = [v] ∧ Dp K H v d ∧ ShowOk d ∧ Q (.str d.shown) H
section
variable {X : Cx}
theorem call_repr_data (hg : X.A.guards = some []) (hu : X.A.units + 64 < cLine) : CallR X (.builtin "repr") (rRepr X.K) := by
  intro pins s σ H xs us Q I r h
  obtain ⟨v, d, rfl, hd, ⟨hs, hdp, hsz⟩, q⟩ := h
  obtain ⟨u, rfl, rv⟩ := vals1 r
  obtain ⟨as, rr⟩ := Dp.reads I d v u hd rv
  have nd := Dp.noDict hd
  cases d with
  | none => cases rr; exact PySem.P.repr_of_none ⟨.str _, H, I.tok _, ⟨_, rfl⟩, q⟩
  | bool b => cases rr; exact PySem.P.repr_of_bool ⟨.str _, H, I.tok _, ⟨_, rfl⟩, by simpa [PyData.shown] using q⟩
  | int i => cases rr; exact PySem.P.repr_of_int (of_decide_eq_true (by simpa [PyData.showable] using hs)) ⟨.str _, H, I.tok _, ⟨_, rfl⟩, by simpa [PyData.shown] using q⟩
  | str x => cases rr; exact PySem.P.repr_of_str (hsz := by simpa [PyData.shown] using hsz) ⟨.str _, H, I.tok _, ⟨_, rfl⟩, by simpa [PyData.shown] using q⟩
  | list ds =>
    obtain ⟨a, rfl⟩ := PyProof.Rows.isRef_of_reads rr rfl
    exact repr_of_reads' rr hs (PyData.noDict_hsm nd) hg (by omega) (fun _ _ e => e) (fun h' u tk hk => ⟨.str _, H, I.kept hk, ⟨_, rfl⟩, q⟩) hsz
  | tuple ds =>
    obtain ⟨a, rfl⟩ := PyProof.Rows.isRef_of_reads rr rfl
    exact repr_of_reads' rr hs (PyData.noDict_hsm nd) hg (by omega) (fun _ _ e => e) (fun h' u tk hk => ⟨.str _, H, I.kept hk, ⟨_, rfl⟩, q⟩) hsz
  | dict kv => cases hd
end

/-! ### the law's own call -/
/-- the heap behind the top, seen with the script at a locked, or with nothing tracked -/
theorem law_callG {P : Program} {w : World} {K : PySem.W.Frag} {mg mb : Str → Option Value} {CX : CXT} {k : Nat} {fa a : Addr} {fd : FuncData} {x : Str} {sp : Sp} {s₁ : Shared} {vs : List Value} {ns : List Int}
    (inn : K.In s₁.heap) (hns : s₁.heap.Ns mainGlobals mg) (hb : s₁.heap.Ns builtinsNs mb) (hbb : ∀ x : Str, x ≠ "__name__" → mb x = bootBuiltins x) (hlim : s₁.heap.NoLimit) (hgens : s₁.gens = #[])
    (ha : s₁.heap.get? a = some { cls := .type "list", data := .seq vs.toArray }) (hi : IntsAre vs ns) (hl : ns.length ≤ sizeLine) (hr : Room k callerA)
    (F : ∀ base : Heap, K.In base → base.Ns mainGlobals mg → FnG P w K mg base CX k fa fd [x] sp) (hbind : ∀ (s : Shared) (u : Value), BindsTo s fd ⟨[u], []⟩ [(x, u)])
    (hsp : ∀ H : Hp, Only H → SqL K H a (ns.map V.int) → sp [.ref a] H (fun v _ => v = .bl true) fun _ _ _ => False)
    (hCX : ∀ H e s', CX [] H s₁ (fun _ _ _ => False) e s' → False) :
    codeAny (model P w) callerA (.call (.ref fa) ⟨[.ref a], []⟩) (fun r s' => r = .ok (.ret (.bool true)) ∧ OldK s₁.heap s'.heap ∧ s'.os = s₁.os ∧ AllBare s'.gens) s₁ := by
  have rv := vals_ints hi
  have run : ∀ H : Hp, Only H → SqL K H a (ns.map V.int) → HOk P w H s₁.heap → (∀ b u, H b = some u → b = a ∧ K.lookup a = none) →
      codeAny (model P w) callerA (.call (.ref fa) ⟨[.ref a], []⟩) (fun r s' => r = .ok (.ret (.bool true)) ∧ OldK s₁.heap s'.heap ∧ s'.os = s₁.os ∧ AllBare s'.gens) s₁ := by
    intro H only hS hok at_a
    -- what is no list stays in the base
    have free : ∀ {b : Addr} {o : Obj}, s₁.heap.get? b = some o → (∀ its n, o.data ≠ .seq its n) → H b = none := fun {b o} e hd => by
      cases q : H b with
      | none => rfl
      | some u =>
        obtain ⟨rfl, _⟩ := at_a b u q
        rw [ha] at e; cases e
        exact absurd rfl (hd _ _)
    have names : ∀ {b : Addr} {m : Str → Option Value}, s₁.heap.Ns b m → (hidT s₁.heap H).Ns b m := fun {b m} hn => by
      obtain ⟨o, es, ep, e, d, r⟩ := hn
      exact ⟨o, es, ep, hidT_get e (free e fun its n z => by rw [d] at z; cases z), d, r⟩
    have inb : K.In (hidT s₁.heap H) := fun b o e => by
      refine hidT_get (inn b o e) ?_
      cases q : H b with
      | none => rfl
      | some u =>
        obtain ⟨rfl, hk⟩ := at_a b u q
        rw [e] at hk; cases hk
    have md : Mod K mg (hidT s₁.heap H) := by
      obtain ⟨mc, h1, h2⟩ := hlim
      exact ⟨inb, names hns, ⟨mb, names hb, hbb⟩, ⟨mc, names h1, h2⟩⟩
    have none_in : ∀ b : Addr, b ∉ ([] : List Addr) := fun b z => nomatch z
    have e0 : Env0 P w K mg (hidT s₁.heap H) callerA [] s₁ H := ⟨rfl, md, fun b o e => of_hidT e, Nat.le_of_eq (hidT_size _ _), trivial, fun b z => absurd z (none_in b), hok, .of_eq hgens⟩
    refine codeAny_mono ((F _ inb (names hns)).run callerA [] s₁ H ⟨[.ref a], []⟩ [.ref a] [.ref a] _ _ hr rfl e0 (hbind s₁ (.ref a)) (.cons rfl .nil) (hsp H only hS)) fun r s' h => ?_
    match r, h with
    | .error e, h => exact (hCX H e s' h).elim
    | .ok .next, h => exact False.elim h
    | .ok .brk, h => exact False.elim h
    | .ok .cont, h => exact False.elim h
    | .ok (.ret u), h =>
      obtain ⟨v, H', os, bare, un, hok', r', q⟩ := h
      obtain rfl : v = V.bl true := q
      obtain rfl : u = Value.bool true := r'
      refine ⟨rfl, OldK.of_keep fun b o e => ?_, os, bare⟩
      cases q : H b with
      | none => exact un.keep b o e q (none_in b) (none_in b)
      | some u =>
        rcases only b with z | ⟨ob, xs, z⟩
        · rw [q] at z; cases z
        · have e1 : s₁.heap.get? b = some ob := (hok b _ z).1
          rw [e] at e1; cases e1
          exact (hok' b _ (un.frzs b o _ z)).1
  cases hk : K.lookup a with
  | some o =>
    have e := inn a o hk
    rw [ha] at e; cases e
    have sz : vs.toArray.size ≤ sizeLine := by rw [List.size_toArray, hi.length]; exact hl
    exact run (fun _ => none) (fun _ => .inl rfl) (.inr ⟨_, vs.toArray, _, hk, rfl, rfl, rfl, sz, by simpa using rv⟩) (fun b u z => nomatch (show (none : Option HO) = some u from z)) fun b u z => nomatch (show (none : Option HO) = some u from z)
  | none =>
    let u0 : HO := .frz { cls := .type "list", data := .seq vs.toArray } (.lst (ns.map V.int))
    have at1 : ∀ b u, upd (fun _ => none) a u0 b = some u → b = a ∧ u = u0 := fun b u z => by
      by_cases hb : b = a
      · subst hb; rw [upd_same] at z; exact ⟨rfl, (Option.some.inj z).symm⟩
      · rw [upd_ne hb] at z; cases z
    refine run (upd (fun _ => none) a u0) (fun b => ?_) (.inl (.inr ⟨_, upd_same⟩)) (fun b u z => ?_) fun b u z => ⟨(at1 b u z).1, hk⟩
    · by_cases hb : b = a
      · subst hb; exact .inr ⟨_, _, upd_same⟩
      · exact .inl (by rw [upd_ne hb])
    · obtain ⟨rfl, rfl⟩ := at1 b u z
      exact ⟨ha, by rw [List.length_map]; exact hl, vs, _, rv, ha⟩
theorem walkG {l : PySem.W.OpenLaw} {n k : Nat} {q : Program} {loose : List Str} {XP : (Str → Option Value) → Heap → Prop} {YP : World → Heap → Prop} {d : DefRec} {K : Params → PySem.W.Frag} {CX : CXT} {sp : PySem.W.Frag → Sp} {x : Str}
    (hn : l.most = some n) (hn2 : n ≤ sizeLine) (hdf : d.params.defaults = []) (hr : Room k callerA)
    (hY : ∀ (w : World) (h : Heap), YP w h → (K w.params).In h)
    (F : ∀ (w : World) (mg : Str → Option Value) (fa : Addr) (h : Heap), (K w.params).In h → h.Ns mainGlobals mg → mg d.name = some (.ref fa) →
      ∃ fd : FuncData, (∀ (s : Shared) (u : Value), BindsTo s fd ⟨[u], []⟩ [(x, u)]) ∧
        ∀ base : Heap, (K w.params).In base → base.Ns mainGlobals mg → FnG l.prog w (K w.params) mg base CX k fa fd [x] (sp (K w.params)))
    (hsp : ∀ (K : PySem.W.Frag) (H : Hp) (a : Addr) (ns : List Int), ns.length ≤ n → Only H → SqL K H a (ns.map V.int) → sp K [.ref a] H (fun v _ => v = .bl true) fun _ _ _ => False)
    (hCX : ∀ (H : Hp) (s : Shared) (e : Value) (s' : Shared), CX [] H s (fun _ _ _ => False) e s' → False) :
    PySem.W.WalkO q loose XP YP l.row.toRowW d [] (fun f vs => PySem.call f vs) :=
  Att.attach_call hn hdf fun w s₀ s₁ mg mb fa o pm cd doc a vs ns G Y ho hd hcd hmg hobj hints hlen hg =>
    let ⟨fd, hb, hF⟩ := F w mg fa _ (hY w _ Y) G.T.g hmg
    law_callG (hY w _ Y) G.T.g G.T.b G.T.builtins G.T.nolimit hg hobj hints (Nat.le_trans hlen hn2) hr hF hb (fun H hO hS => hsp (K w.params) H a ns hlen hO hS) fun H e s' => hCX H s₁ e s'
/-- from the top's facts: the law's def and its arguments -/
theorem law_use {P : Program} {w : World} {K : PySem.W.Frag} {mg : Str → Option Value} {h : Heap} {CX : CXT} {k : Nat} {fa : Addr} {st : Stmt} {x : Str} {sp : Sp} (L : HasFn K "law" st) (X : K.In h) (G : h.Ns mainGlobals mg) (hfa : mg "law" = some (.ref fa))
    (hb : ∀ (kV doc pm : Value) (an : Option Addr) (cdv ct v : Value), bindArgs (PySem.W.fnOf "law" "law" (defArgs st) (defBody st) (defScope st) .none kV doc pm an cdv ct) ⟨[v], []⟩ = pure [(x, v)])
    (ok : ∀ base : Heap, K.In base → base.Ns mainGlobals mg → ∀ fd, Fun K "law" "law" st fa fd → FnG P w K mg base CX k fa fd [x] sp) :
    ∃ fd : FuncData, (∀ (s : Shared) (v : Value), BindsTo s fd ⟨[v], []⟩ [(x, v)]) ∧ ∀ base : Heap, K.In base → base.Ns mainGlobals mg → FnG P w K mg base CX k fa fd [x] sp := by
  obtain ⟨f, oc, od, an, kV, doc, pm, cdv, ct, osl, e, l, c, kp⟩ := L
  have z := hfa.symm.trans (PySem.W.mg_of X G e)
  cases z
  have Fn := fun_mk (st := st) l c kp
  exact ⟨_, fun s v => .of_eq (hb ..), fun base h1 h2 => ok base h1 h2 _ Fn⟩

/-! ### tests whose answer is known -/
theorem iteFb {c : Bool} {A B : Prop} (h : c = false) (b : B) : if c = true then A else B := by rw [h]; exact iteF b
theorem iteTb {c : Bool} {A B : Prop} (h : c = true) (a : A) : if c = true then A else B := by rw [h]; exact iteT a
theorem ite3 {c : Bool} {A B : Prop} (h1 : c = true → A) (h2 : c = false → B) : if c = true then A else B := by
  cases c with
  | true => exact iteT (h1 rfl)
  | false => exact iteF (h2 rfl)

/-! ### constants of the top -/
def HasInt (K : PySem.W.Frag) (x : Str) (n : Int) : Prop := ∃ (t : Tok) (m : Int), PySem.W.nsIn K mainGlobals x = some (some (.int m t)) ∧ m = n
def KTup (K : PySem.W.Frag) (a : Addr) (xs : List V) : Prop := ∃ (od : Option Addr) (its : Array Value) (n : Nat) (sl : Array (Option Value)), K.lookup a = some ⟨.type "tuple", od, .seq its n, sl⟩ ∧ its.size ≤ sizeLine ∧ Vals xs its.toList
def HasTup (K : PySem.W.Frag) (x : Str) (xs : List V) : Prop := ∃ a, PySem.W.nsIn K mainGlobals x = some (some (.ref a)) ∧ KTup K a xs
theorem KTup.sq {K : PySem.W.Frag} {a : Addr} {xs : List V} (h : KTup K a xs) (H : Hp) : SqT K H a xs := by
  obtain ⟨od, its, n, sl, e, z, v⟩ := h
  exact .inr ⟨_, its, n, e, rfl, rfl, z, v⟩
/-- the module's names, as the defs see them -/
def GInt (mg : Str → Option Value) (x : Str) (n : Int) : Prop := ∃ t, mg x = some (.int n t)
def GTup (K : PySem.W.Frag) (mg : Str → Option Value) (x : Str) (xs : List V) : Prop := ∃ a, mg x = some (.ref a) ∧ KTup K a xs
theorem HasInt.g {K : PySem.W.Frag} {mg : Str → Option Value} {h : Heap} {x : Str} {n : Int} (i : HasInt K x n) (X : K.In h) (G : h.Ns mainGlobals mg) : GInt mg x n := by
  obtain ⟨t, m, e, rfl⟩ := i
  exact ⟨t, PySem.W.mg_of X G e⟩
theorem HasTup.g {K : PySem.W.Frag} {mg : Str → Option Value} {h : Heap} {x : Str} {xs : List V} (i : HasTup K x xs) (X : K.In h) (G : h.Ns mainGlobals mg) : GTup K mg x xs := by
  obtain ⟨a, e, k⟩ := i
  exact ⟨a, PySem.W.mg_of X G e, k⟩
section
variable {X : Cx} {x : Str} {pos : Pos}
theorem pe_globI {n : Int} (h : GInt X.mg x n) (hg : Gl X x) (hd : (x == ("__debug__" : Str)) = false := by decide) : PE X (.Name x pos) (tC (.int n)) := by
  obtain ⟨t, e⟩ := h
  exact pe_glob hg e ⟨t, rfl⟩ hd
/-- a tuple of the top: it is read as xs, wherever it stands -/
def tGT (K : PySem.W.Frag) (xs : List V) : TE := fun _ H Q => ∀ a, KTup K a xs → Q (.ref a) H
theorem pe_globT {xs : List V} (h : GTup X.K X.mg x xs) (hg : Gl X x) (hd : (x == ("__debug__" : Str)) = false := by decide) : PE X (.Name x pos) (tGT X.K xs) := by
  obtain ⟨a, e, k⟩ := h
  exact ⟨fun pins s σ H Q I q => (pe_glob (v := .ref a) hg e rfl hd).run pins s σ H Q I (q a k)⟩
end

/-! ### // by any divisor but 0 -/
def CDivX (_ j : Int) : Prop := j ≠ 0 ∧ j.natAbs.log2 < 9000
theorem op_fdivX {X : Cx} : OpR X (binaryOp .FloorDiv) (rI CDivX fun i j => .int (i.fdiv j)) := opI fun _ _ _ _ _ _ _ hc q => floordiv_int hc.1 q (.inl (PyProof.noPylong_of_log2 hc.2))
theorem fdiv_le_pos (i : Int) {j : Int} (hj : 0 < j) : (i.fdiv j).natAbs ≤ i.natAbs + 1 := by
  have e := Int.mul_fdiv_add_fmod i j
  have h0 := Int.fmod_nonneg_of_pos i hj
  have h1 := Int.fmod_lt_of_pos i hj
  have a : (i.fdiv j).natAbs ≤ (j * i.fdiv j).natAbs := by
    rw [Int.natAbs_mul]; exact Nat.le_mul_of_pos_left _ (by omega)
  by_cases hi : 0 ≤ i
  · have : 0 ≤ i.fdiv j := Int.fdiv_nonneg hi (by omega)
    have : 0 ≤ j * i.fdiv j := Int.mul_nonneg (by omega) this
    omega
  · have q : i.fdiv j ≤ -1 := by
      by_cases z : 0 ≤ i.fdiv j
      · have := Int.mul_nonneg (show 0 ≤ j by omega) z
        omega
      · omega
    have r : -1 + i ≤ i.fdiv j := by
      have : i.fdiv j * (j - 1) ≤ (-1) * (j - 1) := Int.mul_le_mul_of_nonneg_right q (by omega)
      have e2 : j * i.fdiv j = i.fdiv j * (j - 1) + i.fdiv j := by rw [Int.mul_sub, Int.mul_one, Int.mul_comm]; omega
      omega
    omega
theorem fdiv_le (i j : Int) : (i.fdiv j).natAbs ≤ i.natAbs + 1 := by
  by_cases h : 0 < j
  · exact fdiv_le_pos i h
  · by_cases h2 : j = 0
    · subst h2; rw [Int.fdiv_zero]; omega
    · have e : i.fdiv j = (-i).fdiv (-j) := by rw [Int.neg_fdiv_neg]
      have := fdiv_le_pos (-i) (show 0 < -j by omega)
      rw [e]; omega

/-! ### how long a shown thing is at most -/
structure Sm (d : PyData) (dp N : Nat) : Prop where
  ok : d.showable = true
  dp : d.depth ≤ dp
  sz : d.shown.length ≤ N
structure SmAll (ds : List PyData) (dp n N : Nat) : Prop where
  ok : PyData.showableAll ds = true
  dp : PyData.depthAll ds ≤ dp
  len : ds.length ≤ n
  sz : ((PyData.shownAll ds).map (·.length)).sum ≤ N
theorem Sm.show {d : PyData} {dp N : Nat} (h : Sm d dp N) (h1 : dp ≤ 60) (h2 : N ≤ sizeLine) : ShowOk d := ⟨h.ok, Nat.le_trans h.dp h1, Nat.le_trans h.sz h2⟩
theorem Sm.mono {d : PyData} {dp N dp' N' : Nat} (h : Sm d dp N) (h1 : dp ≤ dp') (h2 : N ≤ N') : Sm d dp' N' := ⟨h.ok, Nat.le_trans h.dp h1, Nat.le_trans h.sz h2⟩
theorem shownAll_length : ∀ ds : List PyData, (PyData.shownAll ds).length = ds.length
  | [] => rfl
  | d :: ds => by simp [PyData.shownAll, shownAll_length ds]
theorem Sm.int {i : Int} (h : i.natAbs < 2 ^ 1900) : Sm (.int i) 0 2000 := by
  have hl : i.natAbs.log2 < 1900 := PySem.Flt.log2_lt_of (by decide) h
  refine ⟨?_, Nat.le_refl 0, ?_⟩
  · simp only [PyData.showable, decide_eq_true_eq]; omega
  · have e := int_text_length_le (k := 1900) (by decide) hl
    show (Str.ofString (toString i)).length ≤ 2000
    rw [PySem.ofString_length]; omega
theorem Sm.bool (b : Bool) : Sm (.bool b) 0 10 := ⟨rfl, Nat.le_refl 0, by cases b <;> decide +kernel⟩
theorem Sm.none : Sm .none 0 10 := ⟨rfl, Nat.le_refl 0, by decide +kernel⟩
theorem Sm.str {x : Str} {n : Nat} (h : x.length ≤ n) (hc : ∀ c ∈ x.cps.toList, c < 16 ^ 8) : Sm (.str x) 0 (10 * n + 2) := ⟨rfl, Nat.le_refl 0, by
  have e := PySem.StrLaws.reprText_len x hc
  show (reprText x).length ≤ _
  omega⟩
theorem SmAll.nil : SmAll [] 0 0 0 := ⟨rfl, Nat.le_refl 0, Nat.le_refl 0, Nat.le_refl 0⟩
theorem SmAll.cons {d : PyData} {ds : List PyData} {dp dp' n N M : Nat} (h : Sm d dp N) (t : SmAll ds dp' n M) : SmAll (d :: ds) (max dp dp') (n + 1) (N + M) := by
  have h1 := h.dp
  have h2 := t.dp
  refine ⟨by simp [PyData.showableAll, h.ok, t.ok], ?_, by have := t.len; simp; omega, ?_⟩
  · simp only [PyData.depthAll]; omega
  · have := h.sz
    have := t.sz
    simp only [PyData.shownAll, List.map_cons, List.sum_cons]; omega
theorem Sm.tup {ds : List PyData} {dp n N : Nat} (h : SmAll ds dp n N) : Sm (.tuple ds) (dp + 1) (N + 2 * n + 3) := by
  refine ⟨by simpa [PyData.showable] using h.ok, by simp only [PyData.depth]; have := h.dp; omega, ?_⟩
  have e := tupleText_len_le (PyData.shownAll ds)
  have := h.sz
  have := h.len
  rw [shownAll_length] at e
  show (tupleText (PyData.shownAll ds)).length ≤ _
  omega
theorem Sm.lst {ds : List PyData} {dp n N : Nat} (h : SmAll ds dp n N) : Sm (.list ds) (dp + 1) (N + 2 * n + 3) := by
  refine ⟨by simpa [PyData.showable] using h.ok, by simp only [PyData.depth]; have := h.dp; omega, ?_⟩
  have e := listText_len_le (PyData.shownAll ds)
  have := h.sz
  have := h.len
  rw [shownAll_length] at e
  show (listText (PyData.shownAll ds)).length ≤ _
  omega
theorem SmAll.many {dp N : Nat} : ∀ {ds : List PyData}, (∀ d ∈ ds, Sm d dp N) → SmAll ds dp ds.length (N * ds.length)
  | [], _ => ⟨rfl, Nat.zero_le _, Nat.le_refl 0, Nat.zero_le _⟩
  | d :: ds, h => by
    have t := SmAll.cons (h d (by simp)) (SmAll.many (fun e he => h e (List.mem_cons_of_mem _ he)))
    rw [Nat.max_self] at t
    refine ⟨t.ok, t.dp, t.len, Nat.le_trans t.sz ?_⟩
    rw [List.length_cons, Nat.mul_succ]; omega
theorem sz_0 : (0 : Nat) ≤ sizeLine := by decide
theorem sz_1 : (1 : Nat) ≤ sizeLine := by decide
theorem sz_2 : (2 : Nat) ≤ sizeLine := by decide
theorem sz_3 : (3 : Nat) ≤ sizeLine := by decide
theorem sz_4 : (4 : Nat) ≤ sizeLine := by decide
theorem sz_5 : (5 : Nat) ≤ sizeLine := by decide
/-! ### the ends: each premise a fact that k_is finds -/
theorem HasFn.mk' {K : PySem.W.Frag} {x : Str} {st : Stmt} {f : Addr} {oc : Value} {od an : Option Addr} {kV doc pm cdv ct : Value} {osl : Array (Option Value)} (a : PySem.W.nsIn K mainGlobals x = some (some (.ref f)))
    (b : K.lookup f = some ⟨oc, od, .func (PySem.W.fnOf x x (defArgs st) (defBody st) (defScope st) .none kV doc pm an cdv ct), osl⟩) (c : PySem.W.codeIn K cdv x = true) (d : PySem.W.keepIn K (.ref f) = true) : HasFn K x st :=
  ⟨f, oc, od, an, kV, doc, pm, cdv, ct, osl, a, b, c, d⟩
theorem HasInt.mk' {K : PySem.W.Frag} {x : Str} {n m : Int} {t : Tok} (a : PySem.W.nsIn K mainGlobals x = some (some (.int m t))) (e : m = n) : HasInt K x n := ⟨t, m, a, e⟩
theorem HasTup.mk' {K : PySem.W.Frag} {x : Str} {xs : List V} {a : Addr} {od : Option Addr} {its : Array Value} {n : Nat} {sl : Array (Option Value)} (h : PySem.W.nsIn K mainGlobals x = some (some (.ref a)))
    (b : K.lookup a = some ⟨.type "tuple", od, .seq its n, sl⟩) (z : its.size ≤ sizeLine) (v : Vals xs its.toList) : HasTup K x xs := ⟨a, h, od, its, n, sl, b, z, v⟩
/-! ### what the laws' helpers promise -/
/-! the digits and the place -/
def BoxAt (H : Hp) (p dl : Addr) : Prop := ∃ (ds : List Int) (k : Int), H p = some (.lst [.ref dl, .int k]) ∧ 0 ≤ k ∧ H dl = some (.lst (ds.map V.int)) ∧ ds.length ≤ 4000 ∧ ∀ d ∈ ds, 0 ≤ d ∧ d < 1000
theorem BoxAt.at_ {H : Hp} {p dl : Addr} (h : BoxAt H p dl) : ∃ xs, H p = some (.lst xs) := let ⟨_, _, a, _⟩ := h; ⟨_, a⟩
theorem BoxAt.dg {H : Hp} {p dl : Addr} (h : BoxAt H p dl) : ∃ xs, H dl = some (.lst xs) := let ⟨_, _, _, _, c, _⟩ := h; ⟨_, c⟩
def Keep (p : Addr) (H H' : Hp) : Prop := ∀ b o, H b = some o → b ≠ p → H' b = some o
def spDraw (K : PySem.W.Frag) : Sp := fun vs H Q _ => ∃ (p dl : Addr) (m : Int), vs = [.ref p, .int m] ∧ BoxAt H p dl ∧ 0 < m ∧ ∀ r H', 0 ≤ r → r < m → BoxAt H' p dl → Keep p H H' → Q (.int r) H'
def spCell (K : PySem.W.Frag) : Sp := fun vs H Q _ => ∃ (a : Addr) (ns : List Int) (i : Int), vs = [.ref a, .int i] ∧ SqL K H a (ns.map V.int) ∧ 0 ≤ i ∧ ∀ r, Q (.int r) H
def DigAt (H0 H : Hp) (dl : Addr) (n : Nat) : Prop := ∃ ds : List Int, H dl = some (.lst (ds.map V.int)) ∧ ds.length ≤ n ∧ (∀ d ∈ ds, 0 ≤ d ∧ d < 1000) ∧ Same H0 H
theorem DigAt.mono {H0 H : Hp} {dl : Addr} {n m : Nat} (h : DigAt H0 H dl n) (l : n ≤ m) : DigAt H0 H dl m := let ⟨ds, a, b, c, d⟩ := h; ⟨ds, a, by omega, c, d⟩
theorem DigAt.add {H0 H : Hp} {dl : Addr} {n : Nat} {r : Int} {xs : List V} (h : DigAt H0 H dl n) (hx : H dl = some (.lst xs)) (nd : H0 dl = none) (h0 : 0 ≤ r) (h1 : r < 1000) : DigAt H0 (upd H dl (.lst (xs ++ [.int r]))) dl (n + 1) := by
  obtain ⟨ds, a, b, c, d⟩ := h
  rw [hx] at a
  obtain rfl := HO.lst.inj (Option.some.inj a)
  refine ⟨ds ++ [r], by rw [upd_same, List.map_append]; rfl, by simp; omega, fun z hz => ?_, fun q o e => by rw [upd_ne (ne_of_none e nd)]; exact d q o e⟩
  rcases List.mem_append.mp hz with hz | hz
  · exact c z hz
  · have : z = r := by simpa using hz
    omega
def spDigits (K : PySem.W.Frag) : Sp := fun vs H Q _ => ∃ (a : Addr) (ns : List Int) (lo hi : Nat), vs = [.ref a, .int lo, .int hi] ∧ SqL K H a (ns.map V.int) ∧ lo ≤ hi ∧ hi ≤ 64 ∧
  ∀ (p : Addr) (H' : Hp), H p = none → DigAt H H' p 4000 → Q (.ref p) H'
def spBound : Sp := fun vs H Q _ => vs = [] ∧ Q (.int (2 ^ 256)) H
theorem Keep.trans {p : Addr} {H H1 H2 : Hp} (a : Keep p H H1) (b : Keep p H1 H2) : Keep p H H2 := fun c o h ne => b c o (a c o h ne) ne
theorem Keep.refl (p : Addr) (H : Hp) : Keep p H H := fun _ _ h _ => h
def Sgn (z : Int) : Prop := z = 1 ∨ z = -1
theorem Sgn.mul {z n : Int} (h : Sgn z) : (z * n).natAbs = n.natAbs := by
  rcases h with rfl | rfl <;> omega
theorem Sgn.wide {z n : Int} (h : Sgn z) (hn : n.natAbs < 2 ^ 300) : CMulW z n := wide_mul (a := 2) (b := 300) (by rcases h with rfl | rfl <;> decide) hn (by decide) (by decide) (by decide)
def spNumber (K : PySem.W.Frag) : Sp := fun vs H Q _ => ∃ (p dl : Addr), vs = [.ref p] ∧ BoxAt H p dl ∧ ∀ (n : Int) H', n.natAbs < 2 ^ 260 → BoxAt H' p dl → Keep p H H' → Q (.int n) H'
def spSame (K : PySem.W.Frag) : Sp := fun vs H Q _ => ∃ (x y : V) (d : PyData), vs = [x, y] ∧ Dp K H x d ∧ Dp K H y d ∧ ShowOk d ∧ Q (.bl true) H
theorem Same.keep {p : Addr} {H H' : Hp} (e : Same H H') : Keep p H H' := fun b o h _ => e b o h
theorem BoxAt.same {p dl : Addr} {H H' : Hp} (h : BoxAt H p dl) (e : Same H H') : BoxAt H' p dl := by
  obtain ⟨ds, k, a, b, c, d⟩ := h
  exact ⟨ds, k, e _ _ a, b, e _ _ c, d⟩
theorem BoxAt.upd {p dl l : Addr} {H : Hp} {o : HO} (h : BoxAt H p dl) (h1 : l ≠ p) (h2 : l ≠ dl) : BoxAt (L2.upd H l o) p dl := by
  obtain ⟨ds, k, a, b, c, d⟩ := h
  exact ⟨ds, k, by rw [upd_ne (Ne.symm h1)]; exact a, b, by rw [upd_ne (Ne.symm h2)]; exact c, d⟩
theorem strOk (s : Str) (h : s.cps.toList.all (fun c => decide (c < 16 ^ 8)) = true) : ∀ c ∈ s.cps.toList, c < 16 ^ 8 := fun c hc => of_decide_eq_true (List.all_eq_true.mp h c hc)

/-! ### data without lists: what no change of a list can reach -/
mutual
inductive Dt (K : PySem.W.Frag) (H : Hp) : V → PyData → Prop
  | non : Dt K H .non .none
  | bl (b : Bool) : Dt K H (.bl b) (.bool b)
  | int (i : Int) : Dt K H (.int i) (.int i)
  | str (x : Str) : Dt K H (.str x) (.str x)
  | tup {a : Addr} {xs : List V} {ds : List PyData} : SqT K H a xs → DtAll K H xs ds → Dt K H (.ref a) (.tuple ds)
inductive DtAll (K : PySem.W.Frag) (H : Hp) : List V → List PyData → Prop
  | nil : DtAll K H [] []
  | cons {v : V} {vs : List V} {d : PyData} {ds : List PyData} : Dt K H v d → DtAll K H vs ds → DtAll K H (v :: vs) (d :: ds)
end
mutual
theorem Dt.dp {K : PySem.W.Frag} {H : Hp} : ∀ {v : V} {d : PyData}, Dt K H v d → Dp K H v d
  | _, _, .non => .non
  | _, _, .bl b => .bl b
  | _, _, .int i => .int i
  | _, _, .str x => .str x
  | _, _, .tup h a => .tup h (DtAll.dp a)
theorem DtAll.dp {K : PySem.W.Frag} {H : Hp} : ∀ {vs : List V} {ds : List PyData}, DtAll K H vs ds → DpAll K H vs ds
  | _, _, .nil => .nil
  | _, _, .cons h a => .cons (Dt.dp h) (DtAll.dp a)
end
/-- every tuple that H reads H' reads as well -/
def KeepT (K : PySem.W.Frag) (H H' : Hp) : Prop := ∀ a xs, SqT K H a xs → SqT K H' a xs
mutual
theorem Dt.keepT {K : PySem.W.Frag} {H H' : Hp} (e : KeepT K H H') : ∀ {v : V} {d : PyData}, Dt K H v d → Dt K H' v d
  | _, _, .non => .non
  | _, _, .bl b => .bl b
  | _, _, .int i => .int i
  | _, _, .str x => .str x
  | _, _, .tup h a => .tup (e _ _ h) (DtAll.keepT e a)
theorem DtAll.keepT {K : PySem.W.Frag} {H H' : Hp} (e : KeepT K H H') : ∀ {vs : List V} {ds : List PyData}, DtAll K H vs ds → DtAll K H' vs ds
  | _, _, .nil => .nil
  | _, _, .cons h a => .cons (Dt.keepT e h) (DtAll.keepT e a)
end
theorem KeepT.refl (K : PySem.W.Frag) (H : Hp) : KeepT K H H := fun _ _ h => h
theorem KeepT.trans {K : PySem.W.Frag} {H H1 H2 : Hp} (a : KeepT K H H1) (b : KeepT K H1 H2) : KeepT K H H2 := fun c xs h => b c xs (a c xs h)
theorem Same.keepT {K : PySem.W.Frag} {H H' : Hp} (e : Same H H') : KeepT K H H' := fun _ _ h => Same.tupl e h
theorem Keep.keepT {K : PySem.W.Frag} {p : Addr} {H H' : Hp} (e : Keep p H H') (hp : ∃ xs, H p = some (.lst xs)) : KeepT K H H' := fun a xs h => by
  obtain ⟨ys, hp⟩ := hp
  rcases h with (h | ⟨o, h⟩) | h
  · exact .inl (.inl (e _ _ h (ne_of h hp (by intro z; cases z))))
  · exact .inl (.inr ⟨o, e _ _ h (ne_of h hp (by intro z; cases z))⟩)
  · exact .inr h
theorem KeepT.upd {K : PySem.W.Frag} {p : Addr} {H : Hp} {o : HO} {xs : List V} (hp : H p = some (.lst xs)) : KeepT K H (upd H p o) :=
  Keep.keepT (p := p) (fun b u e hb => by rw [upd_ne hb]; exact e) ⟨xs, hp⟩
theorem Dt.mono {K : PySem.W.Frag} {H H' : Hp} {v : V} {d : PyData} (e : Same H H') (h : Dt K H v d) : Dt K H' v d := h.keepT (Same.keepT e)
theorem DtAll.mono {K : PySem.W.Frag} {H H' : Hp} {v : List V} {d : List PyData} (e : Same H H') (h : DtAll K H v d) : DtAll K H' v d := h.keepT (Same.keepT e)
theorem Dt.made {K : PySem.W.Frag} {H : Hp} {p : Addr} {xs : List V} {ds : List PyData} (hp : H p = none) (h : DtAll K H xs ds) : Dt K (L2.upd H p (.tup xs)) (.ref p) (.tuple ds) := .tup (SqT.of upd_same) (DtAll.mono (Same.new hp) h)
theorem DtAll.length {K : PySem.W.Frag} {H : Hp} {vs : List V} {ds : List PyData} (h : DtAll K H vs ds) : vs.length = ds.length := LK.DpAll.length h.dp
theorem DtAll.app {K : PySem.W.Frag} {H : Hp} : ∀ {vs ws : List V} {ds es : List PyData}, DtAll K H vs ds → DtAll K H ws es → DtAll K H (vs ++ ws) (ds ++ es)
  | _, _, _, _, .nil, t => t
  | _, _, _, _, .cons h a, t => .cons h (DtAll.app a t)
theorem DtAll.get {K : PySem.W.Frag} {H : Hp} : ∀ {vs : List V} {ds : List PyData} {i : Nat} {d : PyData}, DtAll K H vs ds → ds[i]? = some d → ∃ v, vs[i]? = some v ∧ Dt K H v d
  | _, _, 0, _, .cons h _, e => ⟨_, rfl, Option.some.inj e ▸ h⟩
  | _, _, i + 1, _, .cons _ a, e => DtAll.get (i := i) a e
theorem DtAll.getV {K : PySem.W.Frag} {H : Hp} : ∀ {vs : List V} {ds : List PyData} {i : Nat} {v : V}, DtAll K H vs ds → vs[i]? = some v → ∃ d, ds[i]? = some d ∧ Dt K H v d
  | _, _, 0, _, .cons h _, e => ⟨_, rfl, Option.some.inj e ▸ h⟩
  | _, _, i + 1, _, .cons _ a, e => DtAll.getV (i := i) a e
theorem Dt.tuple_inv {K : PySem.W.Frag} {H : Hp} {v : V} {ds : List PyData} (h : Dt K H v (.tuple ds)) : ∃ a xs, v = .ref a ∧ SqT K H a xs ∧ DtAll K H xs ds := by
  cases h with
  | tup h a => exact ⟨_, _, rfl, h, a⟩
theorem DtAll.cons_inv {K : PySem.W.Frag} {H : Hp} {vs : List V} {d : PyData} {ds : List PyData} (h : DtAll K H vs (d :: ds)) : ∃ v ws, vs = v :: ws ∧ Dt K H v d ∧ DtAll K H ws ds := by
  cases h with
  | cons h a => exact ⟨_, _, rfl, h, a⟩
theorem DtAll.nil_inv {K : PySem.W.Frag} {H : Hp} {vs : List V} (h : DtAll K H vs []) : vs = [] := by cases h; rfl
theorem Dt.int_inv {K : PySem.W.Frag} {H : Hp} {v : V} {i : Int} (h : Dt K H v (.int i)) : v = .int i := by cases h; rfl
theorem Dt.str_inv {K : PySem.W.Frag} {H : Hp} {v : V} {x : Str} (h : Dt K H v (.str x)) : v = .str x := by cases h; rfl
theorem Dt.bool_inv {K : PySem.W.Frag} {H : Hp} {v : V} {b : Bool} (h : Dt K H v (.bool b)) : v = .bl b := by cases h; rfl
theorem dtStrs {K : PySem.W.Frag} {H : Hp} : ∀ xs : List Str, DtAll K H (xs.map V.str) (xs.map PyData.str)
  | [] => .nil
  | x :: xs => .cons (.str x) (dtStrs xs)
end LK

set_option Elab.async false
set_option linter.all false
set_option maxRecDepth 100000
set_option maxHeartbeats 4000000
/-! enumerate of a tuple. -/
namespace LK
open PySem PySem.Spec PyProof.Rows L2
open AutoSeq1 (wpAny_loadPart')
open Sem (wp)
def enumObj (it : Addr) : Obj := { cls := .type "enumerate", data := .fields #[.none, .bool false, .ref it, rawInt 0, .none, .none] }
def tupIt (t : Addr) : Obj := { cls := .type "tuple_iterator", data := .fields #[.ref t, .int 0 0] }
theorem meets_enumT (t : Addr) (items : Array Value) (n : Nat) (dct : Option Addr) (sl : Array (Option Value)) :
    Meets (Builtin.«enumerate.__new__» ⟨[.type "enumerate", .ref t], []⟩) (fun _ R s => s.heap.get? t = some { cls := .type "tuple", dict := dct, data := .seq items n, slots := sl } ∧
      R (.ok (.ret (.ref (s.heap.push (tupIt t)).objs.size))) { s with heap := (s.heap.push (tupIt t)).push (enumObj s.heap.objs.size) }) :=
  .of_wp fun prog w A R s h => by
    obtain ⟨hp, g, d, tk, os⟩ := s
    obtain ⟨hl, h⟩ := h
    have hsub := sub_enumerate
    have hT : Heap.IsTuple (Shared.heap ⟨hp, g, d, tk, os⟩) t items := ⟨_, hl, rfl, n, rfl⟩
    wp_walk using wpAny_loadPart' hl
    refine wpAny_stack_any fun st => wpAny_pure ?_
    split
    · rename_i c _ _ _ _ _
      cases (c == Value.type "enumerate") <;> (wp_walk using wpAny_loadPart' hl, wpAny_pyIter_tuple hT; exact ⟨_, rfl, h⟩)
    · wp_walk using wpAny_loadPart' hl, wpAny_pyIter_tuple hT
      exact ⟨_, rfl, h⟩
section
variable {prog : Program} {w : World} {A : Around} {E : Value → Shared → Prop} {s : Shared}
theorem call_enumT {t : Addr} {items : Array Value} {Q : Value → Shared → Prop} (hT : s.heap.IsTuple t items)
    (h : ∀ h', IsEnum h' (s.heap.objs.size + 1) s.heap.objs.size 0 .none → h'.IsTupleIter s.heap.objs.size t 0 → (∀ b o, s.heap.get? b = some o → h'.get? b = some o) → Q (.ref (s.heap.objs.size + 1)) { s with heap := h' }) :
    wpAny (model prog w) A (call (.type "enumerate") [.ref t]) Q E s := by
  obtain ⟨⟨c, dct, dt, sl⟩, hl, hc, n, hd⟩ := hT
  obtain rfl : c = .type "tuple" := hc
  obtain rfl : dt = .seq items n := hd
  refine callType_new F.called_enumerate (by decide) (F.typeCall_enumerate_1 _) (F.newCall_enumerate_1 _) (fun obj => F.args_object_init_2 obj _) F.entry_enumerate_new (meets_enumT t items n dct sl) ⟨hl, ?_⟩
  have hz : (s.heap.push (tupIt t)).objs.size = s.heap.objs.size + 1 := Heap.size_push ..
  have he : IsEnum ((s.heap.push (tupIt t)).push (enumObj s.heap.objs.size)) (s.heap.objs.size + 1) s.heap.objs.size 0 .none := by
    have q := Heap.get?_push_size (s.heap.push (tupIt t)) (o := enumObj s.heap.objs.size) rfl
    rw [hz] at q
    exact q
  show _ ∧ _
  rw [hz]
  exact ⟨⟨_, he, rfl⟩, h _ he (Heap.get?_push_of_some _ (Heap.get?_push_size _ rfl) |> fun q => ⟨_, q, rfl, rfl⟩) fun b o x => Heap.get?_push_of_some _ (Heap.get?_push_of_some _ x)⟩
end
/-- the tuple at a, each item in a new pair with its place -/
def IteT (K : PySem.W.Frag) (a : Addr) : It where
  go := fun i H => ∃ (xs : List V) (x : V), SqT K H a xs ∧ xs[i]? = some x
  yld := fun i H v H' => ∃ T x, v = .ref T ∧ H T = none ∧ H' = upd H T (.tup [.int (i : Nat), x]) ∧ ∀ xs, SqT K H a xs → xs[i]? = some x
  stop := fun i H => ∃ xs : List V, SqT K H a xs ∧ xs.length = i
theorem turn_enumT {P : Program} {w : World} {K : PySem.W.Frag} {elts : List Expr} {kk : Nat} {tpos : Pos} (a e it : Addr) :
    Turn P w K (.Tuple elts kk tpos) (IteT K a) [e, it] e (fun i h => (∃ old, IsEnum h e it ((i : Nat) : Int) old) ∧ h.IsTupleIter it a i ∧ e ≠ it) where
  mem := List.mem_cons_self
  obj := fun i h st b hb => by
    obtain ⟨⟨old, he⟩, ⟨o, ho, hc, hd⟩, _⟩ := st
    have hb : b = e ∨ b = it := by simpa using hb
    rcases hb with rfl | rfl
    · exact ⟨_, he, fun v q => nomatch q⟩
    · exact ⟨o, ho, fun v q => by rw [hd] at q; cases q⟩
  keep := fun i h h' st k => by
    obtain ⟨⟨old, he⟩, hi, hne⟩ := st
    exact ⟨⟨old, k e (by simp) _ he⟩, hi.at fun o q => k it (by simp) o q, hne⟩
  item := by
    intro X hP hw hK hc i pins s σ H E I hf st hg
    subst hP hw hK
    obtain ⟨⟨old, he⟩, hit, hne⟩ := st
    obtain ⟨xs, x, hq, hx⟩ := hg
    obtain ⟨its, rv, p, hz⟩ := I.tuple hq
    obtain ⟨u, hu, ru⟩ := rv.get hx
    have hel : e < s.heap.objs.size := Heap.lt_size he
    have hil : it < s.heap.objs.size := by obtain ⟨_, q, _⟩ := hit; exact Heap.lt_size q
    have hat : a ≠ it := by
      intro z
      subst z
      obtain ⟨o, q1, c1, _⟩ := hit
      obtain ⟨o', q2, c2, _⟩ := p
      rw [q1] at q2; cases q2
      exact absurd (Value.type.inj (c1.symm.trans c2)) (by decide)
    have D := Draws.tuple (prog := X.prog) (w := X.w) (A := X.A.in1) (I.ok.hd hc) it a hat its.toArray
    have Dst : (fun i (h : Heap) => h.IsTupleIter it a i ∧ h.IsTuple a its.toArray) i s.heap := ⟨hit, p⟩
    have eat : e ≠ a := by
      intro z
      subst z
      obtain ⟨o', q2, c2, _⟩ := p
      rw [he] at q2; cases q2
      exact absurd (Value.type.inj c2) (by decide)
    have hi : i < its.toArray.size := by
      have := (List.getElem?_eq_some_iff.mp hu).1
      simpa using this
    refine wpAny_pyNext_enum_itemD D he Dst hi hne (by simp [hne, eat]) fun v h' tk hv ho hst hT hsz hk => ?_
    obtain rfl : v = u := by
      have hv : its.toArray[i]? = some v := hv
      rw [show its.toArray[i]? = some u by simpa using hu] at hv
      exact (Option.some.inj hv).symm
    refine ⟨_, rfl, wpAny_letOwnedTupleGo_enum (s := { s with heap := h', toks := tk + 1 }) ho fun h'' he' sb => ?_⟩
    have hT2 := (sb.2 _ (Nat.ne_of_gt hel)).trans hT
    have new : ObjOk X.prog X.w (upd H s.heap.objs.size (.tup [.int (i : Nat), x])) h'' s.heap.objs.size (.tup [.int (i : Nat), x]) :=
      ⟨by show 2 ≤ sizeLine; decide, [.int i tk, v], .cons ⟨_, rfl⟩ (.cons ru .nil), ⟨_, hT2, rfl, _, rfl⟩⟩
    have I1 : Inv X pins σ (upd H s.heap.objs.size (.tup [.int (i : Nat), x])) { s with heap := h'', toks := tk + 1 } :=
      I.turnedNew (ch := [e, it]) (fun b ob hb q => (sb.2 b (fun z => hb (by simp [z]))).trans (hk b ob (fun z => hb (by simp [z])) (fun z => hb (by simp [z])) q)) hf (Nat.le_refl _) new
    refine ⟨.ref s.heap.objs.size, _, I1, rfl, ⟨_, x, rfl, I.hok.fresh (Nat.le_refl _), rfl, fun ys hy => by rw [I.tuple_inj hy hq]; exact hx⟩, ⟨⟨v, ?_⟩, hst.1.at fun o q => (sb.2 it (Ne.symm hne)).trans q, hne⟩, fun b hb => ?_⟩
    · rw [show ((i + 1 : Nat) : Int) = (i : Int) + 1 by omega]
      exact he'
    · have hb' : b < s.heap.objs.size := by
        have z : b = e ∨ b = it := by simpa using hb
        rcases z with rfl | rfl <;> assumption
      rw [upd_ne (Nat.ne_of_lt hb')]
      exact (hf b hb).1
  done := by
    intro X hP hw hK hc i pins s σ H E I hf st hg
    subst hP hw hK
    obtain ⟨⟨old, he⟩, hit, hne⟩ := st
    obtain ⟨xs, hq, hx⟩ := hg
    obtain ⟨its, rv, p, hz⟩ := I.tuple hq
    obtain ⟨f0, f1, f2, f3, f4, f5⟩ := hf it (by simp)
    have hl := rv.length
    have hat : a ≠ it := by
      intro z
      subst z
      obtain ⟨o, q1, c1, _⟩ := hit
      obtain ⟨o', q2, c2, _⟩ := p
      rw [q1] at q2; cases q2
      exact absurd (Value.type.inj (c1.symm.trans c2)) (by decide)
    have D := Draws.tuple (prog := X.prog) (w := X.w) (A := X.A.in1) (I.ok.hd hc) it a hat its.toArray
    have hn : i = its.toArray.size := by simp; omega
    subst hn
    exact wpAny_pyNext_enum_endD D he ⟨hit, p⟩ fun h' eb => ⟨rfl, I.turned (t' := s.toks) (fun b o hb q => eb b o hb q) f0 f1 f3 f4 f5⟩
  self := fun A i s Q E st h => let ⟨⟨_, he⟩, _⟩ := st; wpAny_pyIter_enum he h
def iEnumT (K : PySem.W.Frag) (ta : TA) : TI := fun σ H R => ta σ H fun vs H1 => ∃ a xs, vs = [.ref a] ∧ SqT K H1 a xs ∧ R (IteT K a) H1
theorem pi_enumT {X : Cx} {e : Expr} {ta : TA} {p pos tpos : Pos} {elts : List Expr} {kk : Nat} (hg : Gl X "enumerate") (hm : X.mg "enumerate" = none) (ha : PA X [e] ta) (hs : starEach [e] X.env = [(false, eval e X.env)] := by rfl) :
    PI X (.Tuple elts kk tpos) (.Call (.Name "enumerate" p) [e] [] pos) (iEnumT X.K ta) := by
  refine ⟨fun pins s σ H R I h => ?_⟩
  refine Call_ (ld_blt I hg hm boot_enumerate (PyProof.Rows.callWith_type1 (thn (ha.run pos pins s σ H _ I h) fun us s1 ⟨vs, H1, I1, r1, q1⟩ => ?_) hs rfl))
  obtain ⟨a, xs, rfl, hq, q⟩ := q1
  cases r1 with
  | cons r rr =>
    cases rr
    cases r
    obtain ⟨its, rv, p', hz⟩ := I1.tuple hq
    refine call_enumT (show s1.heap.IsTuple a its.toArray from p') fun h' he hit hk => wpAny_pyIter_enum he ?_
    refine ⟨s1.heap.objs.size + 1, [s1.heap.objs.size + 1, s1.heap.objs.size], _, _, H1, rfl, I1.kept (t' := s1.toks) hk, turn_enumT a (s1.heap.objs.size + 1) s1.heap.objs.size, ⟨⟨.none, he⟩, hit, Nat.succ_ne_self _⟩, fun b hb => ?_, q⟩
    have hle : s1.heap.objs.size ≤ b := by
      have z : b = s1.heap.objs.size + 1 ∨ b = s1.heap.objs.size := by simpa using hb
      rcases z with rfl | rfl <;> omega
    exact I1.fpOk hle (I1.hok.fresh hle)
theorem walk_enumT {K : PySem.W.Frag} {a : Addr} {xs : List V} : Walk (IteT K a) xs.length (fun H => SqT K H a xs) (YPair (fun i => some (.int (i : Nat))) (fun i => xs[i]?)) := by
  refine ⟨fun i _ hi q => ⟨xs, xs[i], q, by simp [hi]⟩, fun _ q => ⟨xs, q, rfl⟩, fun i H v H' _ q y => ?_⟩
  obtain ⟨T, x, h1, h2, h3, h4⟩ := y
  exact ⟨T, .int (i : Nat), x, h1, h2, h3, rfl, h4 xs q⟩

/-! ### comprehensions whose items are data -/
theorem tYes_of {σ : L2.St} {H : Hp} {P R : Hp → Prop} (h : P H) : tYes σ H fun b H3 => if b = true then P H3 else R H3 := by
  show (if true = true then P H else R H)
  rw [if_pos rfl]
  exact h
/-- each turn gives data and leaves what stood; no test -/
theorem lc_dt {K : PySem.W.Frag} {J : It} {n : Nat} {G : Hp → Prop} {Y : Nat → Hp → V → Hp → Prop} (w : Walk J n G Y) {g : TG} {te : TE} {vs : List Nat} {σ : L2.St} {H : Hp} {D : Addr} {Qd : Hp → Prop} (hD : H D = none) (ds : List PyData) (hn : ds.length = n) (hz : n < sizeLine)
    (hG : ∀ H', Same H H' → G H')
    (hs : ∀ i x H1 H2 d (Nx : V → Hp → Prop), i < n → ds[i]? = some d → Same H H1 → (∃ acc, H1 D = some (.lst acc)) → Y i H1 x H2 → (∀ y H5, Same H1 H5 → Dt K H5 y d → Nx y H5) →
      g x (wipe σ vs) H2 fun σ2 H3 => wipe σ2 vs = wipe σ vs ∧ te σ2 H3 Nx)
    (hd : ∀ H' acc, Same H H' → H' D = some (.lst acc) → DtAll K H' acc ds → Qd H')
    (mono : ∀ x σ H Q Q', (∀ σ' H', Q σ' H' → Q' σ' H') → g x σ H Q → g x σ H Q') :
    ∃ W : Nat → Nat → Hp → Prop, (∃ m, W 0 m (upd H D (.lst []))) ∧ ∀ i m H, W i m H →
      (J.stop i H ∧ Qd H) ∨ (J.go i H ∧ ∃ Nx : Hp → Prop, (∀ H', Nx H' → ∃ m', m' < m ∧ W (i + 1) m' H') ∧ ∀ x H', J.yld i H x H' → g x (wipe σ vs) H' fun σ2 H2 => wipe σ2 vs = wipe σ vs ∧ tYes σ2 H2 fun b H3 =>
        if b = true then te σ2 H3 fun y H4 => ∃ acc, H4 D = some (.lst acc) ∧ acc.length < sizeLine ∧ Nx (upd H4 D (.lst (acc ++ [y]))) else Nx H3) := by
  refine lc_it w (fun i H' => ∃ acc, H' D = some (.lst acc) ∧ DtAll K H' acc (ds.take i) ∧ Same H H') ⟨[], upd_same, .nil, Same.new hD⟩ (fun i H' _ h => let ⟨_, _, _, s⟩ := h; hG H' s) (fun i x H1 H2 hi h y => ?_) fun H' h => ?_
  · obtain ⟨acc, a1, a2, a3⟩ := h
    have hi' : i < ds.length := by omega
    have hg := hs i x H1 H2 ds[i] (fun y H4 => ∃ acc, H4 D = some (.lst acc) ∧ acc.length < sizeLine ∧ ∃ acc', upd H4 D (.lst (acc ++ [y])) D = some (.lst acc') ∧ DtAll K (upd H4 D (.lst (acc ++ [y]))) acc' (ds.take (i + 1)) ∧ Same H (upd H4 D (.lst (acc ++ [y]))))
      hi (List.getElem?_eq_getElem hi') a3 ⟨acc, a1⟩ y fun y H5 s hy => ?_
    · exact mono _ _ _ _ _ (fun σ2 H3 q => ⟨q.1, tYes_of q.2⟩) hg
    · have b1 := s _ _ a1
      have kt : KeepT K H5 (upd H5 D (.lst (acc ++ [y]))) := KeepT.upd b1
      refine ⟨acc, b1, ?_, _, upd_same, ?_, fun b o e => ?_⟩
      · rw [a2.length, List.length_take]; omega
      · rw [List.take_succ, List.getElem?_eq_getElem hi']
        exact DtAll.app (DtAll.keepT (KeepT.trans (Same.keepT s) kt) a2) (.cons (Dt.keepT kt hy) .nil)
      · rw [upd_ne (ne_of_none e hD)]
        exact s _ _ (a3 _ _ e)
  · obtain ⟨acc, a1, a2, a3⟩ := h
    rw [← hn, List.take_length] at a2
    exact hd H' acc a3 a1 a2
theorem mono_name {i : Nat} : ∀ x (σ : L2.St) (H : Hp) (Q Q' : L2.St → Hp → Prop), (∀ σ' H', Q σ' H' → Q' σ' H') → gName i x σ H Q → gName i x σ H Q' := fun _ _ _ _ _ h q => h _ _ q
theorem mono_tup2 {K : PySem.W.Frag} {i j n : Nat} : ∀ x (σ : L2.St) (H : Hp) (Q Q' : L2.St → Hp → Prop), (∀ σ' H', Q σ' H' → Q' σ' H') → gTup K n (gCons (gName i) (gCons (gName j) gNil)) x σ H Q → gTup K n (gCons (gName i) (gCons (gName j) gNil)) x σ H Q' := by
  rintro x σ H Q Q' h ⟨a, xs, e1, e2, e3, v, r, e4, v', r', e5, e6, q⟩
  exact ⟨a, xs, e1, e2, e3, v, r, e4, v', r', e5, e6, h _ _ q⟩
end LK

set_option Elab.async false
set_option linter.all false
set_option maxRecDepth 100000
set_option maxHeartbeats 4000000
set_option exponentiation.threshold 3000
/-! More rules: text * int, two rules at one place, what == says of data. -/
namespace LK
open PySem PySem.Spec PyProof.Rows L2
theorem at_of' {α : Type} {xs : List α} {z : Int} {j : Nat} {v : α} (e : z = (j : Int)) (h : xs[j]? = some v) : atI xs z = some v := by
  rw [e]
  exact atI_nat h
/-- z repeated k times, by its codes -/
def repC (z : List Nat) (k : Int) : List Nat := (List.replicate k.toNat z).flatten
def repS (z : Str) (k : Int) : Str := ⟨(repC z.cps.toList k).toArray⟩
theorem repC_length (z : List Nat) (k : Int) : (repC z k).length = k.toNat * z.length := by simp [repC]
theorem foldl_arr (z : Array Nat) : ∀ (n : Nat) (acc : Array Nat), (List.replicate n z).foldl (· ++ ·) acc = acc ++ (List.replicate n z.toList).flatten.toArray
  | 0, acc => by simp
  | n + 1, acc => by
    rw [List.replicate_succ, List.foldl_cons, foldl_arr z n, List.replicate_succ, List.flatten_cons]
    apply Array.ext'
    simp
def rRepS : R2 := fun x y H Q => ∃ (z : Str) (k : Int), x = .str z ∧ y = .int k ∧ -1000000000000 ≤ k ∧ k < 1000000000000 ∧ z.length * k.toNat ≤ 1000000 ∧ Q (.str (repS z k)) H
theorem repS_arr (z : Str) (k : Int) : (⟨(List.replicate k.toNat z.cps).foldl (· ++ ·) #[]⟩ : Str) = repS z k := by
  rw [foldl_arr]
  simp [repS, repC]
theorem op_rep_str {X : Cx} : OpR X (binaryOp .Mult) rRepS := by
  intro pins s σ H x y v u Q I rx ry h
  obtain ⟨z, k, rfl, rfl, h1, h2, h3, q⟩ := h
  obtain ⟨t, rfl⟩ := rx
  obtain ⟨t', rfl⟩ := ry
  have szl : (1000000 : Nat) ≤ sizeLine := by decide
  have e1 : ¬ k < 1 → k = (k.toNat : Int) := fun h => by omega
  refine PySem.P.mul_str ?_ (fun hk hz => ?_) (fun hk hz => ?_) ?_
  · rw [decide_eq_false (by omega), decide_eq_false (by omega)]; rfl
  · have e0 : z.length ≠ 0 := fun e => by rw [e] at hz; simp at hz
    have hd : (9223372036854775807 : Int) / k ≥ 1000000 := by
      apply Int.le_ediv_of_mul_le (by omega)
      have hlen : k.toNat ≤ 1000000 := Nat.le_trans (Nat.le_mul_of_pos_left _ (by omega)) h3
      omega
    have hl : z.length ≤ 1000000 := Nat.le_trans (Nat.le_mul_of_pos_right _ (by omega)) h3
    show ¬ ((z.length : Int) > 9223372036854775807 / k)
    omega
  · unfold Builtin.Str.tooLong
    simp
    omega
  · split
    · rename_i hk
      have e : repS z k = Str.empty := by
        have : k.toNat = 0 := by omega
        simp [repS, repC, this]; rfl
      refine ⟨by decide, .str _, H, I.tok _, ⟨_, rfl⟩, ?_⟩
      rw [← e]; exact q
    · rename_i hk
      split
      · rename_i hz
        have e : repS z k = z := by
          rcases Bool.or_eq_true_iff.mp hz with h | h
          · have : k = 1 := by simpa using h
            subst this
            simp [repS, repC]
          · have : z.cps.toList = [] := by
              have : z.cps.size = 0 := by simpa [Str.length] using h
              exact List.eq_nil_of_length_eq_zero (by simpa using this)
            have e2 : (List.replicate k.toNat ([] : List Nat)).flatten = [] := by simp
            unfold repS repC
            rw [this, e2]
            cases z with
            | mk c =>
              have : c = #[] := Array.toList_inj.mp (by simpa using this)
              subst this; rfl
        refine ⟨.str _, H, I, ⟨t, rfl⟩, ?_⟩
        rw [← e]; exact q
      · rw [repS_arr]
        refine ⟨?_, .str _, H, I.tok _, ⟨_, rfl⟩, q⟩
        show (repC z.cps.toList k).toArray.size ≤ sizeLine
        rw [List.size_toArray, repC_length]
        have : z.cps.toList.length = z.length := by simp [Str.length]
        rw [this, Nat.mul_comm]; omega
/-! ### the objects at the beginning -/
def clsNames : List Str := ["Exception", "ArithmeticError", "ZeroDivisionError", "OverflowError", "LookupError", "IndexError", "KeyError", "NameError", "AttributeError", "TypeError", "ValueError", "StopIteration", "RuntimeError", "RecursionError", "MemoryError", "HostError"]
def clsBases : List Int := [-1, 1, 2, 2, 1, 5, 5, 1, 1, 1, 1, 1, 1, 13, 1, 1]
def builtNames : List Str := ["print", "len", "range", "repr", "str", "int", "list", "tuple", "dict", "iter", "next", "isinstance", "abs"]
def clsVar (i : Nat) (n : Str) : PyData := .tuple [.str n, .tuple [.str "ref", .int ((i : Int) + 1)]]
def nameVar (k n : Str) : PyData := .tuple [.str n, .tuple [.str k, .str n]]
def clsObj (n : Str) (b : Int) : PyData := .tuple [.str "class", .str n, .int b, .tuple []]
def clsVars : List PyData := clsNames.mapIdx clsVar
def startVars (hs : List Str) : List PyData := clsVars ++ builtNames.map (nameVar "built") ++ hs.map (nameVar "host")
def startD (hs : List Str) : List PyData := .tuple [.str "scope", .tuple (startVars hs), .tuple [], .tuple [], .int (-1), .bool false] :: List.zipWith clsObj clsNames clsBases
/-- a list at p, of the data ds -/
def ListAt (K : PySem.W.Frag) (H : Hp) (p : Addr) (ds : List PyData) : Prop := ∃ xs, H p = some (.lst xs) ∧ DtAll K H xs ds
def spStart (K : PySem.W.Frag) : Sp := fun vs H Q _ => ∃ (t : Addr) (hs : List Str), vs = [.ref t] ∧ SqT K H t (hs.map V.str) ∧ hs.length ≤ 1000 ∧
  ∀ (p : Addr) (H' : Hp), H p = none → Same H H' → ListAt K H' p (startD hs) → Q (.ref p) H'
theorem at0 {α : Type} {x : α} {ws : List α} : atI (x :: ws) 0 = some x := at_of' (j := 0) rfl rfl
theorem at1 {α : Type} {x y : α} {ws : List α} : atI (x :: y :: ws) 1 = some y := at_of' (j := 1) rfl rfl
theorem at2 {α : Type} {x y z : α} {ws : List α} : atI (x :: y :: z :: ws) 2 = some z := at_of' (j := 2) rfl rfl
/-- a written pair, triple as it is read -/
theorem Dt.head {K : PySem.W.Frag} {H : Hp} {v : V} {z : Str} {rest : List PyData} (h : Dt K H v (.tuple (.str z :: rest))) : ∃ a ws, v = .ref a ∧ SqT K H a (.str z :: ws) ∧ DtAll K H ws rest := by
  obtain ⟨q, xs, rfl, hs, ha⟩ := h.tuple_inv
  obtain ⟨x, ws, rfl, h1, hw⟩ := ha.cons_inv
  cases h1.str_inv
  exact ⟨q, ws, rfl, hs, hw⟩
theorem Dt.pair {K : PySem.W.Frag} {H : Hp} {v : V} {z : Str} {d : PyData} (h : Dt K H v (.tuple [.str z, d])) : ∃ a x, v = .ref a ∧ SqT K H a [.str z, x] ∧ Dt K H x d := by
  obtain ⟨a, ws, rfl, hs, hw⟩ := h.head
  obtain ⟨x, ws', rfl, h1, hn⟩ := hw.cons_inv
  cases hn.nil_inv
  exact ⟨a, x, rfl, hs, h1⟩
theorem Dt.triple {K : PySem.W.Frag} {H : Hp} {v : V} {z : Str} {d e : PyData} (h : Dt K H v (.tuple [.str z, d, e])) : ∃ a x y, v = .ref a ∧ SqT K H a [.str z, x, y] ∧ Dt K H x d ∧ Dt K H y e := by
  obtain ⟨a, ws, rfl, hs, hw⟩ := h.head
  obtain ⟨x, ws', rfl, h1, hn⟩ := hw.cons_inv
  obtain ⟨y, ws'', rfl, h2, hn2⟩ := hn.cons_inv
  cases hn2.nil_inv
  exact ⟨a, x, y, rfl, hs, h1, h2⟩
theorem listAt_mono {K : PySem.W.Frag} {H H' : Hp} {p : Addr} {ds : List PyData} (h : ListAt K H p ds) (e : Same H H') : ListAt K H' p ds := by
  obtain ⟨xs, hx, ax⟩ := h
  exact ⟨xs, e _ _ hx, DtAll.mono e ax⟩
theorem eqv_nil (ds : List PyData) : PyData.eqv (.tuple ds) (.tuple []) = ds.isEmpty := by
  cases ds <;> simp [PyData.eqv, PyData.eqvAll]
theorem listAt_upd {K : PySem.W.Frag} {H : Hp} {l l' : Addr} {ds : List PyData} {xs : List V} {o : HO} (h : ListAt K H l ds) (ne : l ≠ l') (hl : H l' = some (.lst xs)) : ListAt K (upd H l' o) l ds := by
  obtain ⟨ys, hy, ay⟩ := h
  exact ⟨ys, by rw [upd_ne ne]; exact hy, DtAll.keepT (KeepT.upd hl) ay⟩
theorem listAt_app {K : PySem.W.Frag} {H : Hp} {l : Addr} {ds : List PyData} {xs : List V} {v : V} {d : PyData} (h : ListAt K H l ds) (hl : H l = some (.lst xs)) (hd : Dt K H v d) : ListAt K (upd H l (.lst (xs ++ [v]))) l (ds ++ [d]) := by
  obtain ⟨ys, hy, ay⟩ := h
  rw [hl] at hy
  obtain rfl := HO.lst.inj (Option.some.inj hy)
  exact ⟨_, upd_same, DtAll.app (DtAll.keepT (KeepT.upd hl) ay) (.cons (Dt.keepT (KeepT.upd hl) hd) .nil)⟩
theorem listAt_keep {K : PySem.W.Frag} {H H' : Hp} {l p : Addr} {ds : List PyData} (h : ListAt K H l ds) (e : Keep p H H') (ne : l ≠ p) (hp : ∃ xs, H p = some (.lst xs)) : ListAt K H' l ds := by
  obtain ⟨ys, hy, ay⟩ := h
  exact ⟨ys, e _ _ hy ne, DtAll.keepT (Keep.keepT e hp) ay⟩
theorem listAt_made {K : PySem.W.Frag} {H : Hp} {l : Addr} {xs : List V} {ds : List PyData} (hl : H l = none) (h : DtAll K H xs ds) : ListAt K (upd H l (.lst xs)) l ds := ⟨xs, upd_same, DtAll.mono (Same.new hl) h⟩
/-! how long the objects at the beginning are, shown -/
def shortS (n : Str) : Bool := decide (n.length ≤ 40) && n.cps.toList.all (fun c => decide (c < 16 ^ 8))
theorem Sm.short {n : Str} (h : shortS n = true) : Sm (.str n) 0 500 := by
  obtain ⟨h1, h2⟩ := Bool.and_eq_true_iff.mp h
  exact (Sm.str (of_decide_eq_true h1) (strOk n h2)).mono (by decide) (by decide)
theorem cls_short : ∀ n ∈ clsNames, shortS n = true := by decide +kernel
theorem built_short : ∀ n ∈ builtNames, shortS n = true := by decide +kernel
theorem Sm.nm {k n : Str} (hk : shortS k = true) (hn : shortS n = true) : Sm (nameVar k n) 3 4000 :=
  (Sm.tup (.cons (Sm.short hn) (.cons (Sm.tup (.cons (Sm.short hk) (.cons (Sm.short hn) .nil))) .nil))).mono (by decide) (by decide)
theorem Sm.cv {i : Nat} {n : Str} (hi : i < 1000) (hn : shortS n = true) : Sm (clsVar i n) 3 4000 :=
  (Sm.tup (.cons (Sm.short hn) (.cons (Sm.tup (.cons (Sm.short (n := "ref") (by decide +kernel)) (.cons (Sm.int (Nat.lt_of_lt_of_le (show ((i : Int) + 1).natAbs < 2 ^ 20 by omega) (Nat.pow_le_pow_right (by decide) (by decide)))) .nil))) .nil))).mono (by decide) (by decide)
theorem Sm.co {b : Int} {n : Str} (hb : b.natAbs < 1000) (hn : shortS n = true) : Sm (clsObj n b) 3 4000 :=
  (Sm.tup (.cons (Sm.short (n := "class") (by decide +kernel)) (.cons (Sm.short hn) (.cons (Sm.int (Nat.lt_of_lt_of_le (show b.natAbs < 2 ^ 20 by omega) (Nat.pow_le_pow_right (by decide) (by decide)))) (.cons (Sm.tup .nil) .nil))))).mono (by decide) (by decide)
theorem SmAll.mem {ds : List PyData} {dp n N m M : Nat} (h : SmAll ds dp n N) (h1 : n ≤ m) (h2 : N ≤ M) : SmAll ds dp m M := ⟨h.ok, h.dp, Nat.le_trans h.len h1, Nat.le_trans h.sz h2⟩
theorem sm_vars {hs : List Str} {L : Nat} (h : ∀ n ∈ hs, shortS n = true) (hl : hs.length ≤ L) : SmAll (startVars hs) 3 (29 + L) (4000 * (29 + L)) := by
  have h1 : ∀ d ∈ startVars hs, Sm d 3 4000 := fun d hd => by
    rcases List.mem_append.mp hd with hd | hd
    · rcases List.mem_append.mp hd with hd | hd
      · obtain ⟨i, hi, rfl⟩ := List.mem_mapIdx.mp hd
        exact Sm.cv (Nat.lt_trans hi (by decide)) (cls_short _ (List.getElem_mem hi))
      · obtain ⟨n, hn, rfl⟩ := List.mem_map.mp hd
        exact Sm.nm (by decide +kernel) (built_short n hn)
    · obtain ⟨n, hn, rfl⟩ := List.mem_map.mp hd
      exact Sm.nm (by decide +kernel) (h n hn)
  have hlen : (startVars hs).length = 29 + hs.length := by
    simp only [startVars, List.length_append, List.length_map]
    have : clsVars.length = 16 := by decide
    have : builtNames.length = 13 := by decide
    omega
  exact (SmAll.many h1).mem (by omega) (by omega)
theorem sm_start {hs : List Str} {L : Nat} (h : ∀ n ∈ hs, shortS n = true) (hl : hs.length ≤ L) : ∀ d ∈ startD hs, Sm d 5 (5000 * (30 + L)) := fun d hd => by
  rcases List.mem_cons.mp hd with rfl | hd
  · exact (Sm.tup (.cons (Sm.short (n := "scope") (by decide +kernel)) (.cons (Sm.tup (sm_vars h hl)) (.cons (Sm.tup .nil) (.cons (Sm.tup .nil) (.cons (Sm.int (by decide)) (.cons (Sm.bool false) .nil))))))).mono (by decide) (by omega)
  · have : ∃ n b, d = clsObj n b ∧ n ∈ clsNames ∧ b.natAbs < 1000 := by
      have key : ∀ q ∈ List.zip clsNames clsBases, q.1 ∈ clsNames ∧ q.2.natAbs < 1000 := by decide +kernel
      rw [← List.map_uncurry_zip_eq_zipWith] at hd
      obtain ⟨q, hq, rfl⟩ := List.mem_map.mp hd
      exact ⟨q.1, q.2, rfl, key q hq⟩
    obtain ⟨n, b, rfl, hn, hb⟩ := this
    exact (Sm.co hb (cls_short n hn)).mono (by decide) (by omega)
theorem start_cls {hs : List Str} {k : Nat} (h1 : 1 ≤ k) (h2 : k ≤ 16) : ∃ rest, (startD hs)[k]? = some (.tuple (.str "class" :: rest)) := by
  obtain ⟨j, rfl⟩ : ∃ j, k = j + 1 := ⟨k - 1, by omega⟩
  have l1 : clsNames.length = 16 := by decide
  have l2 : clsBases.length = 16 := by decide
  refine ⟨[.str clsNames[j]!, .int clsBases[j]!, .tuple []], ?_⟩
  have e1 : clsNames[j]? = some clsNames[j]! := by rw [List.getElem!_eq_getElem?_getD]; rw [List.getElem?_eq_getElem (by omega)]; rfl
  have e2 : clsBases[j]? = some clsBases[j]! := by rw [List.getElem!_eq_getElem?_getD]; rw [List.getElem?_eq_getElem (by omega)]; rfl
  show (List.zipWith clsObj clsNames clsBases)[j]? = _
  rw [List.getElem?_zipWith, e1, e2]
  rfl
end LK

set_option Elab.async false
set_option linter.all false
set_option maxRecDepth 100000
set_option maxHeartbeats 4000000
set_option exponentiation.threshold 3000
/-! tuple * 1; rows: texts or tuples at one place; the type of what is read as a tuple; data equal to itself. -/
namespace LK
open PySem PySem.Spec PyProof.Rows L2
theorem tuple_mul1 (l : Addr) (items : Array Value) (n : Nat) (dd : Option Addr) (sl : Array (Option Value)) (u : Tok) :
    Meets (Builtin.«tuple.__mul__» ⟨[.ref l, .int 1 u], []⟩) (fun _ R s => s.heap.get? l = some { cls := .type "tuple", dict := dd, data := .seq items n, slots := sl } ∧ R (.ok (.ret (Value.ref l))) s) :=
  .of_wp fun prog w A R s h => by
    obtain ⟨hp, g, d, tk, os⟩ := s
    obtain ⟨hl, h⟩ := h
    have f1 := AutoSeq1.idx_int
    have c0 : (decide ((1 : Int) < -(2 ^ 63)) || decide ((1 : Int) ≥ 2 ^ 63)) = false := by decide
    have c1 : (items.isEmpty || (1 : Int) == 1) = true := by simp
    wp_walk using wpAny_loadPart' hl
    exact ⟨_, rfl, h⟩
/-- a tuple times an int from 1 to 1000 -/
def rRepTA (K : PySem.W.Frag) : R2 := fun x y H Q => ∃ l k xs, x = .ref l ∧ y = .int k ∧ SqT K H l xs ∧ xs ≠ [] ∧ 1 ≤ k ∧ k ≤ 1000 ∧ xs.length ≤ 1000 ∧ (k = 1 → Q (.ref l) H) ∧ (k ≠ 1 → ∀ p, H p = none → Q (.ref p) (upd H p (.tup (List.replicate k.toNat xs).flatten)))
section
variable {X : Cx}
theorem op_repTA : OpR X (binaryOp .Mult) (rRepTA X.K) := by
  intro pins s σ H x y v u Q I rx ry h
  obtain ⟨l, k, xs, rfl, rfl, hT, hne, h1, h2, hz, q1, q2⟩ := h
  by_cases hk : k = 1
  · subst hk
    cases rx
    obtain ⟨t, rfl⟩ := ry
    obtain ⟨its, r, ⟨⟨cls, dd, data, sl⟩, ho, hc, n, hd⟩, hs⟩ := I.tuple hT
    simp only at hc hd
    subst hc hd
    refine wpAny_binaryOp_repeat_ref (T := "tuple") (U := "int") (by decide) ⟨_, ho, rfl⟩ (fun s' => typeIs_int s' 1 t) noFill_tuple_mul F.fills_int_mul F.slot_int_rmul repeat_tuple F.slot_int_index.lookup
      (call_meets F.slot_int_rmul (typeIs_int s 1 t) F.entry_int_rmul (F.args_int_rmul_2 _ _) (int_rmul_tuple 1 t l its.toArray n dd sl)
        ⟨ho, rfl, ⟨_, ho, rfl⟩, call_meets F.slot_tuple_mul ⟨_, ho, rfl⟩ F.entry_tuple_mul (F.args_tuple_mul_2 _ _) (tuple_mul1 l its.toArray n dd sl t) ⟨ho, ?_⟩⟩)
    exact ⟨.ref l, H, I, rfl, q1 rfl⟩
  · exact op_repT pins s σ H _ _ v u Q I rx ry ⟨l, k, xs, rfl, rfl, hT, hne, by omega, h2, hz, q2 hk⟩
end
theorem SqT.tyX {K : PySem.W.Frag} {H : Hp} {a : Addr} {xs : List V} (h : SqT K H a xs) : TyX K H (.ref a) (.type "tuple") := by
  rcases h with (h | ⟨o, h⟩) | ⟨o, its, n, e, c, _⟩
  · exact .base (.tup h)
  · exact .fTuple h
  · exact .kTuple e c
/-! ### data equal to itself -/
mutual
theorem eqv_self : ∀ {d : PyData}, d.canLay0 = true → PyData.eqv d d = true
  | .none, _ => by simp [PyData.eqv]
  | .bool _, _ => by simp [PyData.eqv]
  | .int _, _ => by simp [PyData.eqv]
  | .str _, _ => by simp [PyData.eqv]
  | .list xs, h => by rw [PyData.eqv]; exact eqvAll_self (by simpa [PyData.canLay0] using h)
  | .tuple xs, h => by rw [PyData.eqv]; exact eqvAll_self (by simpa [PyData.canLay0] using h)
  | .dict _, h => absurd h (by simp [PyData.canLay0])
theorem eqvAll_self : ∀ {xs : List PyData}, PyData.canLayAll0 xs = true → PyData.eqvAll xs xs = true
  | [], _ => by simp [PyData.eqvAll]
  | x :: xs, h => by
    rw [PyData.canLayAll0, Bool.and_eq_true] at h
    rw [PyData.eqvAll, eqv_self h.1, eqvAll_self h.2]; rfl
end
theorem canLayAll0_of {ds : List PyData} (h : ∀ d ∈ ds, d.canLay0 = true) : PyData.canLayAll0 ds = true := by
  induction ds with
  | nil => rfl
  | cons d ds ih => rw [PyData.canLayAll0, h d (by simp), ih fun e he => h e (List.mem_cons_of_mem _ he)]; rfl
theorem depthAll_of {ds : List PyData} {n : Nat} (h : ∀ d ∈ ds, d.depth ≤ n) : PyData.depthAll ds ≤ n := by
  induction ds with
  | nil => exact Nat.zero_le _
  | cons d ds ih => rw [PyData.depthAll]; exact Nat.max_le.mpr ⟨h d (by simp), ih fun e he => h e (List.mem_cons_of_mem _ he)⟩
/-! ### rows: a text, or a tuple of small ints -/
def Item (d : PyData) : Prop := ∃ i : Int, d = .tuple [.str "int", .int i] ∧ 0 ≤ i ∧ i < 11
def Low (z : Str) : Prop := ∀ c ∈ z.cps.toList, c < 128
inductive Row : Bool → PyData → Nat → Prop
  | txt {z : Str} {n : Nat} : z.length = n → Low z → Row true (.str z) n
  | tup {ds : List PyData} {n : Nat} : ds.length = n → (∀ d ∈ ds, Item d) → Row false (.tuple ds) n
def catD : PyData → PyData → PyData
  | .str a, .str b => .str (a ++ b)
  | .tuple a, .tuple b => .tuple (a ++ b)
  | a, _ => a
def repD (d : PyData) (k : Int) : PyData := match d with
  | .str a => .str (repS a k)
  | .tuple a => .tuple (List.replicate k.toNat a).flatten
  | a => a
def noneD : PyData → PyData
  | .str a => .str (cutS a none (some 0))
  | .tuple _ => .tuple []
  | a => a
theorem len_app (a b : Str) : (a ++ b).length = a.length + b.length := strLen_append a b
theorem len_rep (z : Str) (k : Int) : (repS z k).length = z.length * k.toNat := by
  show (repC z.cps.toList k).toArray.size = _
  rw [List.size_toArray, repC_length, Nat.mul_comm]
  simp [Str.length]
theorem Low.app {a b : Str} (h : Low a) (g : Low b) : Low (a ++ b) := by
  intro c hc
  have e : (a ++ b).cps.toList = a.cps.toList ++ b.cps.toList := by
    show (a.cps ++ b.cps).toList = _
    simp
  rw [e] at hc
  rcases List.mem_append.mp hc with hc | hc
  · exact h c hc
  · exact g c hc
theorem Low.rep {a : Str} (h : Low a) (k : Int) : Low (repS a k) := by
  intro c hc
  have hc : c ∈ (List.replicate k.toNat a.cps.toList).flatten := by simpa [repS, repC] using hc
  obtain ⟨l, hl, hcl⟩ := List.mem_flatten.mp hc
  exact h c (List.eq_of_mem_replicate hl ▸ hcl)
theorem Low.cut {a : Str} (h : Low a) (lo hi : Option Int) : Low (cutS a lo hi) := by
  intro c hc
  have hc : c ∈ (a.cps.toList.drop (HT.sIx a.length 0 lo)).take (HT.sIx a.length a.length hi - HT.sIx a.length 0 lo) := hc
  exact h c (List.mem_of_mem_drop (List.mem_of_mem_take hc))
theorem cut_to (a : Str) (m : Nat) : (cutS a none (some (m : Int))).length ≤ m := by
  show ((a.cps.toList.drop (HT.sIx a.length 0 none)).take (HT.sIx a.length a.length (some (m : Int)) - HT.sIx a.length 0 none)).toArray.size ≤ m
  rw [List.size_toArray, List.length_take, HT.sIx_nat]
  omega
theorem Row.cat {t : Bool} {a b : PyData} {n m : Nat} (h : Row t a n) (g : Row t b m) : Row t (catD a b) (n + m) := by
  cases h with
  | txt e l =>
    cases g with
    | txt e2 l2 => exact .txt (by rw [len_app, e, e2]) (l.app l2)
  | tup e l =>
    cases g with
    | tup e2 l2 => exact .tup (by rw [List.length_append, e, e2]) fun d hd => (List.mem_append.mp hd).elim (l d) (l2 d)
theorem Row.rep {t : Bool} {a : PyData} {n : Nat} (h : Row t a n) (k : Int) : Row t (repD a k) (n * k.toNat) := by
  cases h with
  | txt e l => exact .txt (by rw [len_rep, e]) (l.rep k)
  | tup e l =>
    refine .tup (by rw [PyProof.Rows.lm_len_rep_flat, e, Nat.mul_comm]) fun d hd => ?_
    obtain ⟨x, hx, hdx⟩ := List.mem_flatten.mp hd
    exact l d (List.eq_of_mem_replicate hx ▸ hdx)
theorem Row.none {t : Bool} {a : PyData} {n : Nat} (h : Row t a n) : Row t (noneD a) 0 := by
  cases h with
  | @txt z _ e l => exact .txt (Nat.le_zero.mp (cut_to z 0)) (l.cut _ _)
  | tup e l => exact .tup rfl fun d hd => by cases hd
theorem Item.sm {d : PyData} (h : Item d) : Sm d 1 3000 := by
  obtain ⟨i, rfl, h0, h1⟩ := h
  exact (Sm.tup (.cons (Sm.short (n := "int") (by decide +kernel)) (.cons (Sm.int (Nat.lt_of_lt_of_le (show i.natAbs < 2 ^ 20 by omega) (Nat.pow_le_pow_right (by decide) (by decide)))) .nil))).mono (by decide) (by decide)
theorem Row.sm {t : Bool} {d : PyData} {n : Nat} (h : Row t d n) (hn : n ≤ 1000) : Sm d 2 3100000 := by
  cases h with
  | txt e l => exact (Sm.str (n := 1000) (by omega) fun c hc => Nat.lt_of_lt_of_le (l c hc) (by decide)).mono (by decide) (by decide)
  | tup e l => exact (Sm.tup ((SmAll.many fun d hd => (l d hd).sm).mem (m := 1000) (M := 3000000) (by omega) (by omega))).mono (by decide) (by decide)
theorem Row.lay {t : Bool} {d : PyData} {n : Nat} (h : Row t d n) : d.canLay0 = true := by
  cases h with
  | @txt z _ e l =>
    rw [PyData.canLay0]
    exact Array.all_eq_true_iff_forall_mem.mpr fun c hc => by
      have := l c (Array.mem_toList_iff.mpr hc)
      exact decide_eq_true (by omega)
  | tup e l =>
    rw [PyData.canLay0]
    exact canLayAll0_of fun d hd => by obtain ⟨i, rfl, _⟩ := l d hd; simp only [PyData.canLay0, PyData.canLayAll0, Bool.and_true]; decide +kernel
section
variable {X : Cx}
/-- a + b, two rows -/
def rCatD (K : PySem.W.Frag) : R2 := fun x y H Q => ∃ (t : Bool) (a b : PyData) (n m : Nat), Row t a n ∧ Row t b m ∧ Dt K H x a ∧ Dt K H y b ∧ n + m ≤ 2000 ∧ ∀ v H', Same H H' → Dt K H' v (catD a b) → Q v H'
theorem op_catD : OpR X (binaryOp .Add) (rCatD X.K) := by
  intro pins s σ H x y v u Q I rx ry h
  obtain ⟨t, a, b, n, m, ha, hb, da, db, hz, q⟩ := h
  cases ha with
  | txt e l =>
    cases hb with
    | txt e2 l2 =>
      cases da.str_inv; cases db.str_inv
      exact op_add_str pins s σ H _ _ v u Q I rx ry ⟨_, _, rfl, rfl, by rw [e, e2]; exact Nat.le_trans hz (by decide), q _ _ (Same.refl _) (.str _)⟩
  | @tup ds _ e l =>
    cases hb with
    | @tup es _ e2 l2 =>
      obtain ⟨p, xs, rfl, hs, ax⟩ := da.tuple_inv
      obtain ⟨p2, ys, rfl, hs2, ay⟩ := db.tuple_inv
      have lx := ax.length
      have ly := ay.length
      refine op_catA pins s σ H _ _ v u Q I rx ry ⟨p, p2, xs, ys, rfl, rfl, hs, hs2, by rw [lx, ly, e, e2]; exact Nat.le_trans hz (by decide), fun h0 => ?_, fun _ h0 => ?_, fun _ _ z hz => ?_⟩
      · subst h0
        have : ds = [] := List.eq_nil_of_length_eq_zero (by rw [← lx]; rfl)
        subst this
        exact q _ _ (Same.refl _) db
      · subst h0
        have : es = [] := List.eq_nil_of_length_eq_zero (by rw [← ly]; rfl)
        subst this
        refine q _ _ (Same.refl _) ?_
        show Dt X.K H (.ref p) (.tuple (ds ++ []))
        rw [List.append_nil]; exact da
      · exact q _ _ (Same.new hz) (Dt.made hz (DtAll.app ax ay))
/-- a * k, a row and an int -/
def rRepD (K : PySem.W.Frag) : R2 := fun x y H Q => ∃ (t : Bool) (a : PyData) (n : Nat) (k : Int), Row t a n ∧ Dt K H x a ∧ y = .int k ∧ 1 ≤ n ∧ 1 ≤ k ∧ n * k ≤ 1000 ∧ ∀ v H', Same H H' → Dt K H' v (repD a k) → Q v H'
theorem dtRep {K : PySem.W.Frag} {H : Hp} {xs : List V} {ds : List PyData} (h : DtAll K H xs ds) : ∀ m : Nat, DtAll K H (List.replicate m xs).flatten (List.replicate m ds).flatten
  | 0 => .nil
  | m + 1 => by
    rw [List.replicate_succ, List.flatten_cons, List.replicate_succ, List.flatten_cons]
    exact DtAll.app h (dtRep h m)
theorem op_repD : OpR X (binaryOp .Mult) (rRepD X.K) := by
  intro pins s σ H x y v u Q I rx ry h
  obtain ⟨t, a, n, k, ha, da, rfl, hn, hk, hz, q⟩ := h
  have k1 : k ≤ 1000 := by
    have : 1 * k ≤ n * k := Int.mul_le_mul_of_nonneg_right (by omega) (by omega)
    omega
  have n1 : n ≤ 1000 := by
    have : (n : Int) * 1 ≤ n * k := Int.mul_le_mul_of_nonneg_left hk (by omega)
    omega
  cases ha with
  | txt e l =>
    cases da.str_inv
    refine op_rep_str pins s σ H _ _ v u Q I rx ry ⟨_, k, rfl, rfl, by omega, by omega, ?_, q _ _ (Same.refl _) (.str _)⟩
    rw [e]
    exact Nat.le_trans (Nat.mul_le_mul n1 (show k.toNat ≤ 1000 by omega)) (by decide)
  | @tup ds _ e l =>
    obtain ⟨p, xs, rfl, hs, ax⟩ := da.tuple_inv
    have lx := ax.length
    refine op_repTA pins s σ H _ _ v u Q I rx ry ⟨p, k, xs, rfl, rfl, hs, fun z => ?_, hk, k1, by omega, fun h1 => ?_, fun h1 z hz => ?_⟩
    · subst z
      rw [List.length_nil] at lx
      omega
    · subst h1
      refine q _ _ (Same.refl _) ?_
      show Dt X.K H (.ref p) (.tuple (List.replicate 1 ds).flatten)
      rw [show (List.replicate 1 ds).flatten = ds by simp]
      exact da
    · exact q _ _ (Same.new hz) (Dt.made hz (dtRep ax _))
/-- a[:0], a row -/
def rNoneD (K : PySem.W.Frag) : V → Option Int → Option Int → Hp → VK → Prop := fun x lo hi H Q => ∃ (t : Bool) (a : PyData) (n : Nat), Row t a n ∧ Dt K H x a ∧ n ≤ 2000 ∧ lo = none ∧ hi = some 0 ∧ ∀ v H', Same H H' → Dt K H' v (noneD a) → Q v H'
theorem sl_noneD : SlR X (rNoneD X.K) := by
  intro pins s σ H x v vl vu lo hi sl Q I rx hs pl pu h
  obtain ⟨t, a, n, ha, da, hn, rfl, rfl, q⟩ := h
  cases ha with
  | txt e l =>
    cases da.str_inv
    exact sl_str pins s σ H _ v vl vu _ _ sl Q I rx hs pl pu ⟨_, rfl, by rw [e]; exact Nat.le_trans hn (by decide), q _ _ (Same.refl _) (.str _)⟩
  | @tup ds _ e l =>
    obtain ⟨p, xs, rfl, hq, ax⟩ := da.tuple_inv
    have lx := ax.length
    refine sl_tupA pins s σ H _ v vl vu _ _ sl Q I rx hs pl pu ⟨p, xs, rfl, hq, fun hw => ?_, fun _ z hz => ?_⟩
    · have h0 : ds.length = 0 := by
        have := hw.2
        rw [show (some (0 : Int)) = some ((0 : Nat) : Int) from rfl, HT.sIx_nat] at this
        omega
      have := List.eq_nil_of_length_eq_zero h0
      subst this
      exact q _ _ (Same.refl _) da
    · refine q _ _ (Same.new hz) (Dt.made hz ?_)
      have : cutV xs none (some 0) = [] := by
        apply List.eq_nil_of_length_eq_zero
        unfold cutV
        rw [List.length_take, show (some (0 : Int)) = some ((0 : Nat) : Int) from rfl, HT.sIx_nat]
        omega
      rw [this]
      exact .nil
/-- len(a), a row -/
def rLenD (K : PySem.W.Frag) : List V → Hp → VK → Prop := fun vs H Q => ∃ (v : V) (t : Bool) (a : PyData) (n : Nat), vs = [v] ∧ Row t a n ∧ Dt K H v a ∧ n ≤ 2000 ∧ Q (.int (n : Int)) H
theorem call_lenD' : CallR X (.builtin "len") (rLenD X.K) := by
  intro pins s σ H xs us Q I r h
  obtain ⟨v, t, a, n, rfl, ha, da, hn, q⟩ := h
  cases ha with
  | txt e l =>
    cases da.str_inv
    exact call_len pins s σ H _ us Q I r ⟨_, n, rfl, ⟨by rw [e]; exact Nat.le_trans hn (by decide), e.symm⟩, q⟩
  | @tup ds _ e l =>
    obtain ⟨p, ys, rfl, hq, ax⟩ := da.tuple_inv
    exact call_len pins s σ H _ us Q I r ⟨_, n, rfl, .inr ⟨_, hq, by rw [ax.length, e]⟩, q⟩
end
end LK

set_option Elab.async false
set_option linter.all false
set_option maxRecDepth 100000
set_option maxHeartbeats 4000000
set_option exponentiation.threshold 3000
/-! Letters, digits, underscores; texts of the top. -/
namespace LK
open PySem PySem.Spec PyProof.Rows L2 SX
def isD (c : Nat) : Bool := decide (48 ≤ c) && decide (c ≤ 57)
def isL (c : Nat) : Bool := (decide (65 ≤ c) && decide (c ≤ 90)) || (decide (97 ≤ c) && decide (c ≤ 122)) || c == 95
def isW (c : Nat) : Bool := isD c || isL c
theorem isW_lt {c : Nat} (h : isW c = true) : c < 128 := by
  simp [isW, isD, isL] at h; omega
theorem uni_alpha : ∀ c < 128, Unicode.isAlpha c = (isL c && c != 95) := by decide +kernel
theorem uni_digit : ∀ c < 128, Unicode.isDigit c = isD c := by decide +kernel
theorem uni_alnum : ∀ c < 128, Unicode.isAlnum c = (isW c && c != 95) := by decide +kernel
theorem alpha1 {c : Nat} (h : c < 128) : Txt.isalpha (S [c]) = (isL c && c != 95) := by
  show (decide ((S [c]).length > 0) && (S [c]).cps.all Unicode.isAlpha) = _
  rw [S_len]; simp [S, uni_alpha c h]
theorem digit1 {c : Nat} (h : c < 128) : Txt.isdigit (S [c]) = isD c := by
  show (decide ((S [c]).length > 0) && (S [c]).cps.all Unicode.isDigit) = _
  rw [S_len]; simp [S, uni_digit c h]
theorem alnum1 {c : Nat} (h : c < 128) : Txt.isalnum (S [c]) = (isW c && c != 95) := by
  show (decide ((S [c]).length > 0) && (S [c]).cps.all Unicode.isAlnum) = _
  rw [S_len]; simp [S, uni_alnum c h]
theorem digitS {a : List Nat} (h : ∀ c ∈ a, c < 128) (hne : a ≠ []) : Txt.isdigit (S a) = a.all isD := by
  show (decide ((S a).length > 0) && (S a).cps.all Unicode.isDigit) = _
  have : 0 < a.length := List.length_pos_iff.mpr hne
  rw [S_len, decide_eq_true this, Bool.true_and]
  show a.toArray.all Unicode.isDigit = _
  rw [List.all_toArray]
  apply Bool.eq_iff_iff.mpr
  rw [List.all_eq_true, List.all_eq_true]
  exact ⟨fun g c hc => uni_digit c (h c hc) ▸ g c hc, fun g c hc => (uni_digit c (h c hc)).symm ▸ g c hc⟩
/-! texts of the top -/
def GStr (mg : Str → Option Value) (x : Str) (z : Str) : Prop := ∃ t, mg x = some (.str z t)
def HasStr (K : PySem.W.Frag) (x : Str) (p : Str → Prop) : Prop := ∃ (z : Str) (t : Tok), PySem.W.nsIn K mainGlobals x = some (some (.str z t)) ∧ p z
theorem HasStr.mk' {K : PySem.W.Frag} {x : Str} {p : Str → Prop} {z : Str} {t : Tok} (a : PySem.W.nsIn K mainGlobals x = some (some (.str z t))) (b : p z) : HasStr K x p := ⟨z, t, a, b⟩
theorem HasStr.g {K : PySem.W.Frag} {mg : Str → Option Value} {h : Heap} {x : Str} {p : Str → Prop} (i : HasStr K x p) (X : K.In h) (G : h.Ns mainGlobals mg) : ∃ z, GStr mg x z ∧ p z := by
  obtain ⟨z, t, e, hp⟩ := i
  exact ⟨z, ⟨t, PySem.W.mg_of X G e⟩, hp⟩
theorem pe_globS {X : Cx} {x z : Str} {pos : Pos} (h : GStr X.mg x z) (hg : Gl X x) (hd : (x == ("__debug__" : Str)) = false := by decide) : PE X (.Name x pos) (tC (.str z)) := by
  obtain ⟨t, e⟩ := h
  exact pe_glob hg e ⟨t, rfl⟩ hd
theorem split1 {a : List Nat} {c : Nat} (h : c ∉ a) (hc : c < 256) : Txt.split (S a) (S [c]) = [S a] := by
  rw [split_S (by simp) (by simpa using hc)]
  have := SX.spl_join (c := c) (sep := []) (parts := [a]) (by simp) (by simpa using h)
  have e : TL.joinL [c] [a] = a := by simp [TL.joinL]
  rw [e] at this
  rw [this]; rfl
theorem lstrip1 {a : List Nat} {b : List Nat} (h : ∀ c, a.head? = some c → c ∉ b) : Txt.lstripChars (S a) (S b) = S a := by
  have e1 : (S a).cps.toList.takeWhile (S b).cps.contains = [] := tw0 a fun c hc => by
    have := h c hc
    show b.toArray.contains c = false
    rw [List.contains_toArray]
    simpa using this
  have e0 : stripLo (S b).cps.contains true (S a) = 0 := by
    unfold stripLo
    rw [if_pos rfl, e1] <;> rfl
  have e3 : stripHi (S b).cps.contains false (S a) 0 = (S a).length := by
    unfold stripHi
    rw [if_neg Bool.false_ne_true]
  unfold Txt.lstripChars Txt.stripBy stripSame
  rw [e0, e3]
  exact if_pos (by simp)
/-! while, its test's reading made monotone -/
def tUp (c : TT) : TT := fun σ H Q => ∃ P : Bool → Hp → Prop, c σ H P ∧ ∀ b H1, P b H1 → Q b H1
theorem pt_up {X : Cx} {e : Expr} {c : TT} (h : PT X e c) : PT X e (tUp c) :=
  ⟨fun pins s σ H Q I ⟨P, hP, k⟩ => thn (h.run pins s σ H P I hP) fun b s1 ⟨H1, I1, q⟩ => ⟨H1, I1, k _ _ q⟩⟩
theorem while_up {c : TT} {tb : TS} {D : Ends} {σ : L2.St} {H : Hp} (Pv : L2.St → Hp → Prop) (μ : L2.St → Hp → Nat) (h0 : Pv σ H)
    (hs : ∀ σ H, Pv σ H → c σ H fun b H1 => if b = true then tb { D with nx := fun σ' H' => Pv σ' H' ∧ μ σ' H' < μ σ H, ct := fun σ' H' => Pv σ' H' ∧ μ σ' H' < μ σ H, bk := D.nx } σ H1 else D.nx σ H1) : tWhile (tUp c) tb D σ H :=
  while_by Pv μ h0 (fun σ H p => ⟨_, hs σ H p, fun _ _ h => h⟩) (fun σ H Q Q' hq ⟨P, hP, k⟩ => ⟨P, hP, fun b H1 h => hq b H1 (k b H1 h)⟩)
theorem nl_S : ("\n" : Str) = S [10] := by decide +kernel
theorem us_S : ("_" : Str) = S [95] := by decide +kernel
theorem sp_S : (" " : Str) = S [32] := by decide +kernel
theorem hash_S : ("#" : Str) = S [35] := by decide +kernel
theorem sign_eq {c d : Nat} : decide (V.str ⟨#[c]⟩ = V.str (S [d])) = decide (c = d) := by
  by_cases h : c = d
  · subst h; rw [decide_eq_true rfl, decide_eq_true rfl]
  · rw [decide_eq_false h, decide_eq_false]
    intro e
    have := S_inj (a := [c]) (b := [d]) (V.str.inj e)
    exact h (by simpa using this)
theorem str_eq {a b : List Nat} : decide (V.str (S a) = V.str (S b)) = decide (a = b) := by
  by_cases h : a = b
  · subst h; rw [decide_eq_true rfl, decide_eq_true rfl]
  · rw [decide_eq_false h, decide_eq_false]
    intro e
    exact h (S_inj (V.str.inj e))
theorem starts1 {c d : Nat} {r : List Nat} : Txt.startswith (S (c :: r)) (S [d]) = decide (c = d) := by
  show (decide (0 + (S [d]).length ≤ (S (c :: r)).length) && ((c :: r).toArray.extract 0 (0 + (S [d]).length) == [d].toArray)) = _
  rw [S_len, S_len]
  have e : (c :: r).toArray.extract 0 (0 + [d].length) = #[c] := by simp
  rw [e]
  by_cases h : c = d
  · subst h; simp
  · simp [h]
theorem at_S {a : List Nat} {j c : Nat} (h : a[j]? = some c) : atI (S a).cps.toList (j : Int) = some c := atI_nat h
theorem cut_all {a : List Nat} : cutS (S a) (some 0) (some ((a.length : Nat) : Int)) = S a := by
  unfold cutS
  rw [S_len, show (some (0 : Int)) = some ((0 : Nat) : Int) from rfl, HT.sIx_nat, HT.sIx_nat]
  show (⟨((a.drop (min 0 a.length)).take (min a.length a.length - min 0 a.length)).toArray⟩ : Str) = ⟨a.toArray⟩
  rw [Nat.zero_min, List.drop_zero, Nat.min_self, Nat.sub_zero, List.take_length]
/-! a promise at a higher level -/
theorem FnG.mono {P : Program} {w : World} {K : PySem.W.Frag} {mg : Str → Option Value} {base : Heap} {CX : CXT} {j k : Nat} {f : Addr} {fd : FuncData} {ps : List Str} {sp : Sp} (F : FnG P w K mg base CX j f fd ps sp) (h : j ≤ k) : FnG P w K mg base CX k f fd ps sp :=
  ⟨F.len, fun A outer s H args us vs Q E hr => F.run A outer s H args us vs Q E (hr.mono h)⟩
theorem Use.mono {P : Program} {w : World} {K : PySem.W.Frag} {mg : Str → Option Value} {base : Heap} {CX : CXT} {x : Str} {j k : Nat} {ps : List Str} {sp : Sp} (U : Use P w K mg base CX x j ps sp) (h : j ≤ k) : Use P w K mg base CX x k ps sp := by
  obtain ⟨f, fd, ok, r⟩ := U.ex
  exact ⟨f, fd, ok.mono h, r⟩
/-! the signs that a program may hold -/
def okC (c : Nat) : Bool := c == 10 || (decide (32 ≤ c) && decide (c ≤ 126) && c != 37)
theorem okC_lt {c : Nat} (h : okC c = true) : c < 128 := by
  simp [okC] at h; omega
theorem lstrip_sp (a : List Nat) : Txt.lstripChars (S a) (S [32]) = S (a.dropWhile (· == 32)) := by
  have e1 : (S a).cps.toList.takeWhile (S [32]).cps.contains = a.takeWhile (· == 32) := by
    show a.takeWhile _ = _
    congr 1
    funext c
    show #[32].contains c = _
    simp [Array.contains, BEq.comm]
  have el : (a.takeWhile (· == 32)).length ≤ a.length := (List.takeWhile_prefix _).length_le
  have ed : a.drop (a.takeWhile (· == 32)).length = a.dropWhile (· == 32) := by
    have h := List.takeWhile_append_dropWhile (p := (· == 32)) (l := a)
    have : (a.takeWhile (· == 32) ++ a.dropWhile (· == 32)).drop (a.takeWhile (· == 32)).length = a.dropWhile (· == 32) := List.drop_left
    rwa [h] at this
  have e0 : stripLo (S [32]).cps.contains true (S a) = (a.takeWhile (· == 32)).length := by
    unfold stripLo
    rw [if_pos rfl, e1] <;> rfl
  have e3 : stripHi (S [32]).cps.contains false (S a) (a.takeWhile (· == 32)).length = (S a).length := by
    unfold stripHi
    rw [if_neg Bool.false_ne_true]
  unfold Txt.lstripChars Txt.stripBy stripSame stripped
  rw [e0, e3]
  split
  · rename_i h
    simp at h
    have : (a.takeWhile (· == 32)).length = 0 := by simpa using h
    rw [this, List.drop_zero] at ed
    rw [← ed]
  · show (⟨a.toArray.extract (a.takeWhile (· == 32)).length (S a).length⟩ : Str) = _
    rw [S_len, ← ed]
    congr 1
    apply Array.toList_inj.mp
    simp only [Array.toList_extract, List.extract_eq_drop_take]
    exact List.take_of_length_le (by rw [List.length_drop]; omega)
/-- z[i:j] by codes -/
theorem cut_S {a : List Nat} {i j : Nat} (hi : i ≤ a.length) (hj : j ≤ a.length) : cutS (S a) (some ((i : Nat) : Int)) (some ((j : Nat) : Int)) = S ((a.drop i).take (j - i)) := by
  unfold cutS
  rw [S_len, HT.sIx_nat, HT.sIx_nat, Nat.min_eq_left hi, Nat.min_eq_left hj]
/-- a line: so many spaces, and perhaps a word -/
def lnT (s : Nat) (w : List Nat) : List Nat := List.replicate s 32 ++ w
theorem lnT_len (s : Nat) (w : List Nat) : (lnT s w).length = s + w.length := by simp [lnT]
theorem lnT_sp {s : Nat} {w : List Nat} {i : Nat} (h : i < s) : (lnT s w)[i]? = some 32 := by
  unfold lnT
  rw [List.getElem?_append_left (by simpa using h), List.getElem?_replicate, if_pos h]
theorem lnT_w {s : Nat} {w : List Nat} {i : Nat} : (lnT s w)[s + i]? = w[i]? := by
  unfold lnT
  rw [List.getElem?_append_right (by simp), List.length_replicate, Nat.add_sub_cancel_left]
theorem lnT_drop (s : Nat) (w : List Nat) : (lnT s w).drop s = w := by
  unfold lnT
  rw [List.drop_append_of_le_length (by simp)]
  simp
end LK

set_option Elab.async false
set_option linter.all false
set_option maxRecDepth 100000
set_option maxHeartbeats 4000000
set_option exponentiation.threshold 3000
/-! What several laws share: boxes and lists beside changes of other objects. -/
namespace LK
open PySem PySem.Spec PyProof.Rows L2
section
variable {K : PySem.W.Frag}
theorem BoxAt.ne_new {H : Hp} {p dl b : Addr} (B : BoxAt H p dl) (h : H b = none) : b ≠ p ∧ b ≠ dl := by
  obtain ⟨xs, g⟩ := B.at_
  obtain ⟨ys, g2⟩ := B.dg
  exact ⟨fun e => (by subst e; rw [h] at g; cases g), fun e => (by subst e; rw [h] at g2; cases g2)⟩
theorem BoxAt.kp {H H' : Hp} {p dl : Addr} (B : BoxAt H p dl) (h : ∀ b o, b = p ∨ b = dl → H b = some o → H' b = some o) : BoxAt H' p dl := by
  obtain ⟨ds, k, a, b, c, d⟩ := B
  exact ⟨ds, k, h _ _ (.inl rfl) a, b, h _ _ (.inr rfl) c, d⟩
theorem BoxAt.keep' {H H' : Hp} {p dl l : Addr} (B : BoxAt H p dl) (k : Keep l H H') (h1 : l ≠ p) (h2 : l ≠ dl) : BoxAt H' p dl :=
  B.kp fun b o hb e => k b o e (by
    rcases hb with rfl | rfl
    · exact Ne.symm h1
    · exact Ne.symm h2)
theorem BoxAt.keep2 {H H' : Hp} {p dl l m : Addr} (B : BoxAt H p dl) (k : ∀ b o, H b = some o → b ≠ l → b ≠ m → H' b = some o) (h1 : l ≠ p) (h2 : l ≠ dl) (h3 : m ≠ p) (h4 : m ≠ dl) : BoxAt H' p dl :=
  B.kp fun b o hb e => by
    rcases hb with rfl | rfl
    · exact k _ _ e (Ne.symm h1) (Ne.symm h3)
    · exact k _ _ e (Ne.symm h2) (Ne.symm h4)
theorem KeepT.ins {p C dx : Addr} {H : Hp} {o : HO} {fs : List (Str × V)} (hp : H p = some (.ins C dx fs)) : KeepT K H (L2.upd H p o) := fun a xs h => by
  rcases h with (h | ⟨o', h⟩) | h
  · exact .inl (.inl (by rw [upd_ne (ne_of h hp (by intro z; cases z))]; exact h))
  · exact .inl (.inr ⟨o', by rw [upd_ne (ne_of h hp (by intro z; cases z))]; exact h⟩)
  · exact .inr h
theorem listAt_ins {p C dx l : Addr} {H : Hp} {o : HO} {fs : List (Str × V)} {ds : List PyData} (h : ListAt K H l ds) (hp : H p = some (.ins C dx fs)) : ListAt K (upd H p o) l ds := by
  obtain ⟨xs, e, a⟩ := h
  exact ⟨xs, by rw [upd_ne (ne_of e hp (by intro z; cases z))]; exact e, DtAll.keepT (KeepT.ins hp) a⟩
theorem Low.zero : Low "" := fun c hc => by
  have e : ("" : Str).cps.toList = [] := by decide +kernel
  rw [e] at hc; cases hc
theorem DtAll.take {H : Hp} : ∀ (n : Nat) {vs : List V} {ds : List PyData}, DtAll K H vs ds → DtAll K H (vs.take n) (ds.take n)
  | 0, _, _, _ => .nil
  | _ + 1, _, _, .nil => .nil
  | n + 1, _, _, .cons h a => .cons h (DtAll.take n a)
theorem len_start0 : (startD []).length = 17 := by decide
theorem sm_start0 : ∀ d ∈ startD [], Sm d 5 150000 := fun d hd => sm_start (hs := []) (L := 0) (by simp) (by simp) d hd
theorem sm_heap {ds : List PyData} (h : ds.length ≤ 30) (sm : ∀ d ∈ ds, Sm d 5 150000) : ShowOk (.list ds) := (Sm.lst ((SmAll.many sm).mem (m := 30) (M := 4500000) h (by omega))).show (by decide) (by decide)
theorem ListAt.dp {H : Hp} {l : Addr} {ds : List PyData} (h : ListAt K H l ds) : Dp K H (.ref l) (.list ds) := let ⟨_, e, a⟩ := h; .lst (SqL.of e) a.dp
end
theorem FnG.or {P : Program} {w : World} {K : PySem.W.Frag} {mg : Str → Option Value} {base : Heap} {CX : CXT} {k : Nat} {f : Addr} {fd : FuncData} {ps : List Str} {sp sp' : Sp} (A : FnG P w K mg base CX k f fd ps sp) (B : FnG P w K mg base CX k f fd ps sp') :
    FnG P w K mg base CX k f fd ps (fun vs H Q E => sp vs H Q E ∨ sp' vs H Q E) where
  len := fun vs H Q E h => h.elim (A.len vs H Q E) (B.len vs H Q E)
  run := fun A' outer s H args us vs Q E hr hg he hb hv h => h.elim (A.run A' outer s H args us vs Q E hr hg he hb hv) (B.run A' outer s H args us vs Q E hr hg he hb hv)
/-- start_heap of a list of names -/
def spStartL (K : PySem.W.Frag) : Sp := fun vs H Q _ => ∃ (t : Addr) (hs : List Str), vs = [.ref t] ∧ SqL K H t (hs.map V.str) ∧ hs.length ≤ 1000 ∧
  ∀ (p : Addr) (H' : Hp), H p = none → Same H H' → ListAt K H' p (startD hs) → Q (.ref p) H'
def spStart2 (K : PySem.W.Frag) : Sp := fun vs H Q E => spStart K vs H Q E ∨ spStartL K vs H Q E
theorem ip_fdiv {X : Cx} : PIp X .FloorDiv (rI CDiv fun i j => .int (i / j)) := fun pins s σ H x y v u Q I r1 r2 h => iop_fdiv pins s σ H x y v u Q I r1 r2 h
theorem none_back0 {p np : Addr} {H H' : Hp} (K1 : Keep p H H') (B : ∃ xs, H' p = some (.lst xs)) (h : H' np = none) : H np = none := by
  cases e : H np with
  | none => rfl
  | some o =>
    by_cases ep : np = p
    · subst ep
      obtain ⟨xs, g⟩ := B
      rw [g] at h; cases h
    · rw [K1 _ _ e ep] at h; cases h
end LK

set_option Elab.async false
set_option linter.all false
set_option maxRecDepth 100000
set_option maxHeartbeats 4000000
/-! An own exception class over ValueError (its bases may be own ones) whose __init__ says super().__init__(..) first. -/
namespace SupX
open PySem PySem.Spec PyProof.Rows L2 NdefX
/-- what the written part says of the class at C, its __init__ at fI (a def that closes over __class__), in the program P -/
structure SupC (P : Program) (K : PySem.W.Frag) (C fI cc : Addr) (F : NF) : Prop where
  oex : OexC K C
  fn : ∃ oc od doc pm ctv osl, K.lookup fI = some ⟨oc, od, .func (F.fd doc pm ctv), osl⟩
  cl : F.cl = [(("__class__" : Str), cc)]
  cd : PySem.W.codeIn K (.ref F.c) F.qual = true
  code : ∃ ccl cdd vs ccs file tf, K.lookup F.c = some ⟨ccl, cdd, .fields vs, ccs⟩ ∧ vs[2]? = some (.str file tf) ∧ ((P.main.file : Str) == file) = true
  top : (P.main.scope.names.lookup ("super" : Str)).isSome = false
  cell : ∃ cl cld csl, K.lookup cc = some ⟨cl, cld, .cell (some (.ref C)), csl⟩
  own : PySem.W.mroIn K C (.ref C) = some true
  isB : PySem.W.subIn K (.ref C) (.type "ValueError") = some true
  sup : PySem.W.ks_superIn K C C "__init__" = some (some (.builtin "ValueError.__init__"))
  opq : PySem.W.nsIn K cStatics "thirdparty.any" = some none
  glob : PySem.W.nsIn K mainGlobals "super" = some none
/-- super().__init__(..), then the rest -/
def tSup (C : Addr) (ta : TA) (tr : TS) : TS := fun D σ H => ta σ H fun ws H1 => ws.length ≤ 1000 ∧ ∃ a, σ[0]? = some (some (.ref a)) ∧ H1 a = some (exo a C none) ∧ tr D σ H1
section
variable {P : Program} {w : World} {K : PySem.W.Frag} {mg : Str → Option Value} {base : Heap} {N ps : List Str} {F : NF} {fI C cc : Addr} {k : Nat} {sp : Sp} {e : Expr} {es : List Expr} {rest : List Stmt} {p0 p1 pa pc pe : Pos} {self : Str} {ar : Arg}
theorem sup_ok (T : SupC P K C fI cc F) (S : NScope N (self :: ps) ["__class__"] F.scope) (len : ∀ vs H Q E, sp vs H Q E → vs.length = (self :: ps).length)
    (hself : ∀ vs H Q E, sp vs H Q E → ∃ a ws, vs = .ref a :: ws ∧ H a = some (exo a C none))
    (hbd : F.body = .Expr (.Call (.Attribute (.Call (.Name "super" p0) [] [] p1) "__init__" pa) (e :: es) [] pc) pe :: rest) (hpar : (F.params.posonlyargs ++ F.params.args).head? = some ar) (har : ar.arg = self)
    (hks : F.scope.names.lookup ("super" : Str) = some .globalImplicit) (hkc : F.scope.names.lookup ("__class__" : Str) = some .free) (hka : F.scope.names.lookup self = some .local)
    (he : ∀ env : Env, starEach (e :: es) env = (false, eval e env) :: starEach es env) (hpl : ∀ env : Env, (backTo pc (starEach es env)).any (·.1) = false)
    (hev : ∀ env : Env, ∃ pl : Sem Bool, eval (.Call (.Attribute (.Call (.Name "super" p0) [] [] p1) "__init__" pa) (e :: es) [] pc) env = (do
      let ov ← attributeBase (.Call (.Name "super" p0) [] [] p1) "__init__" env (eval (.Call (.Name "super" p0) [] [] p1) env)
      standAt pa.atName
      let (f, first) ← holding [ov] (getMethod ov "__init__" pl)
      callWith pc f first (backTo pc (starEach (e :: es) env)) []))
    (body : ∀ (A : Around) (outer : List Env) (s : Shared) (H : Hp) (vs : List V) (Q : VK) (E : XK), Room k (A.deeper (envF F fI s.heap.objs.size)) → sp vs H Q E →
      ∃ ta tr, PA (ncx CX0 P w K mg base N F fI A outer s H E) (e :: es) ta ∧ PSs (ncx CX0 P w K mg base N F fI A outer s H E) rest tr ∧ tSup C ta tr { nx := fun _ H' => Q .non H', rt := Q } (startF N vs [none]) H) :
    ∀ fd, (∃ oc od osl, K.lookup fI = some ⟨oc, od, .func fd, osl⟩) → FnOk P w K mg base CX0 (k + 1) fI fd (self :: ps) sp := by
  rintro fd ⟨oc', od', osl', lk'⟩
  obtain ⟨oc, od, doc, pm, ctv, osl, lk⟩ := T.fn
  have efd : fd = F.fd doc pm ctv := by
    rw [lk] at lk'
    have := Option.some.inj lk'
    injection this with _ _ h _
    injection h with h
    exact h.symm
  subst efd
  refine ⟨len, fun A outer s H args us vs Q E hr e0 hb r hsp => ?_⟩
  have inn : K.In s.heap := e0.mod.kin.keeps fun b o e => (e0.bs b o e).1
  have lim : s.heap.NoLimit := e0.mod.nolimit.keeps fun b o e => (e0.bs b o e).1
  obtain ⟨a, ws, rfl, ha⟩ := hself _ _ _ _ hsp
  refine ks_codeAny_call_defAt (fd := F.fd doc pm ctv) (body := F.body) (binds := (self :: ps).zip us) hr.depth (inn _ _ lk) rfl lim (PySem.W.codeRec_of inn T.cd) rfl hb S.nocell
    (fun ⟨n, _⟩ hx => S.par n (List.of_mem_zip hx).1) (fun h₁ hns kp => ?_) S.co S.gen S.kind
  obtain ⟨cl, cld, csl, hcell⟩ := T.cell
  have cellS : s.heap.IsCell cc (some (.ref C)) := ⟨_, inn _ _ hcell, rfl⟩
  have ec : ∀ y c, F.cl.lookup y = some c → y = "__class__" ∧ c = cc := fun y c h => by
    rw [T.cl] at h
    by_cases hy : y = ("__class__" : Str)
    · subst hy
      simp [List.lookup] at h
      exact ⟨rfl, h.symm⟩
    · have : (y == ("__class__" : Str)) = false := beq_eq_false_iff_ne.mpr hy
      simp [List.lookup, this] at h
  have lc : F.cl.lookup ("__class__" : Str) = some cc := by rw [T.cl]; simp [List.lookup]
  obtain ⟨oB, hoB⟩ : ∃ o, base.get? cc = some o := ⟨_, e0.mod.kin _ _ hcell⟩
  have Cs : CellsAt F.cl ["__class__"] [none] s.heap H := by
    refine ⟨rfl, fun y c h => ?_, fun x y c h1 h2 => ?_, fun i y h => ?_⟩
    · obtain ⟨_, rfl⟩ := ec y c h
      exact ⟨(e0.bs _ _ hoB).2, _, cellS⟩
    · rw [(ec x c h1).1, (ec y c h2).1]
    · match i, h with
      | 0, h =>
        obtain rfl := Option.some.inj h
        exact ⟨cc, lc, fun v hv => by simp at hv⟩
      | i + 1, h => simp at h
  obtain ⟨ta, tr, hta, htr, hq⟩ := body A outer s H _ Q E (hr.deeper _) hsp
  have I : Inv (ncx CX0 P w K mg base N F fI A outer s H E) [] (startF N (.ref a :: ws) [none]) H { s with heap := h₁, toks := s.toks + ((self :: ps).zip us).length } := inv_startN S hr.hd e0 (len _ _ _ _ hsp) r Cs hns kp
  show PySem.wpAt (model P w) (A.deeper (envF F fI s.heap.objs.size)) (.func F.body (envF F fI s.heap.objs.size)) (execs F.body (envF F fI s.heap.objs.size)) _ _ _
  generalize s.toks + ((self :: ps).zip us).length = tk at I
  rw [show execs F.body = execs (.Expr (.Call (.Attribute (.Call (.Name "super" p0) [] [] p1) "__init__" pa) (e :: es) [] pc) pe :: rest) from by rw [hbd]]
  refine ks_wpAt_execs_cons ?_
  refine ks_wpAt_Expr_any ?_ (by unfold interactive; rw [show (envF F fI s.heap.objs.size).scope.kind = .function from S.kind]; rfl)
  obtain ⟨pl, hev⟩ := hev (envF F fI s.heap.objs.size)
  refine ks_wpAt_MethodCall ?_ hev
  obtain ⟨ccl, cdd, vs', ccs, file, tf, hcode, hvs, hfile⟩ := T.code
  have X1 : K.In h₁ := inn.keeps kp
  refine ks_wpAt_super_base (env := envF F fI s.heap.objs.size) hks hkc rfl rfl (X1 _ _ lk) rfl hpar rfl (X1 _ _ hcode) rfl hvs hfile T.top ?_
  obtain ⟨mb, hmb, hboot⟩ := e0.mod.blt
  have kB : ∀ b o, base.get? b = some o → h₁.get? b = some o := fun b o e => kp b o (e0.bs b o e).1
  refine PySem.W.ks_loadName_global S.kind hks (PySem.Calls.loadGlobal_builtin (env := envF F fI s.heap.objs.size) (e0.mod.glob.keeps kB) (PySem.W.mg_none_of e0.mod.kin e0.mod.glob T.glob) (hmb.keeps kB) (hboot _ (by decide +kernel)) ⟨rfl, ?_⟩)
  refine wpAny_loadName_free S.kind hkc lc ⟨_, X1 _ _ hcell, rfl⟩ ?_
  -- self
  have ndp : (self :: ps).Nodup := by
    have h : ((self :: ps) ++ [("__class__" : Str)]).Nodup := by rw [← S.pre]; exact S.nd.sublist (List.take_sublist _ _)
    exact (List.nodup_append.mp h).1
  obtain ⟨us', rfl⟩ : ∃ us', us = .ref a :: us' := by
    cases r with
    | cons r1 r2 => exact ⟨_, by rw [show _ = Value.ref a from r1]⟩
  rw [har]
  refine wpAny_loadName_local S.kind hka hns (zip_look (i := 0) (x := self) (u := .ref a) ndp rfl rfl) ?_
  -- super(__class__, self)
  obtain ⟨nm, q, NN, bs, bm, sn, sub, ab, col, dd, k0, k1, k2, k3, k5, hC, hbm⟩ := T.oex.cls
  have hcl : PySem.W.clsIn K C = some { name := nm, bases := bs, mro := .ref C :: bm, ns := NN, qualname := q, hasDict := true, slotNames := sn, subclasses := sub, abstract := ab, collection := col, hasDel := false } := by unfold PySem.W.clsIn; rw [hC] <;> rfl
  obtain ⟨t1, hoa⟩ := exo_at I.hok ha
  obtain ⟨hh0, g, dr, tk0, os⟩ := s
  dsimp only at *
  refine ks_wpAny_isType_cls (X1 _ _ hC) rfl ⟨rfl, ?_⟩
  refine ks_wpAny_call_super (X1 _ _ hC) rfl hoa rfl (fun c e => by cases e) (PySem.W.looks_mroIn X1 T.own) (fun h2 e2 k2' => ?_)
  have X2 : K.In h2 := X1.keeps k2'
  have IA : PySem.W.InstAt h2 a _ C none := ⟨k2' _ _ hoa, rfl, rfl, trivial⟩
  have hm := T.sup
  unfold PySem.W.ks_superIn at hm
  rw [hcl] at hm
  refine PySem.W.kxs_getMethod PySem.W.kxs_ValueError e2 (PySem.W.looks_opaque X2 T.opq) (l₀ := .ref C :: bm) (fun A Q E s k q => wpAny_bind ((PySem.W.looks_clsIn X2 hcl) A _ E s k (wpAny_pure q))) rfl X2 hm (IA.type.andThen (PySem.W.looks_subIn X2 T.isB)) (PySem.W.ks_ne X2 IA hcl) (by decide) ?_
  -- the wrapper, called
  have I1 : Inv (ncx CX0 P w K mg base N F fI A outer ⟨hh0, g, dr, tk0, os⟩ H E) [(h2.objs.size, PySem.W.kxs_mw "ValueError.__init__" a)] (startF N (.ref a :: ws) [none]) H ⟨h2.push (PySem.W.kxs_mw "ValueError.__init__" a), g, dr, tk + 1, os⟩ :=
    ClX.pin_new (t' := tk + 1) I (fun b o e => Heap.get?_push_of_some _ (k2' _ _ e)) (Nat.le_of_lt (Heap.lt_size e2)) (Heap.get?_push_at rfl rfl) (fun v e => by cases e)
  have He := he (envF F fI hh0.objs.size)
  rw [He]
  refine PySem.W.kxs_callWith (i := "ValueError.__init__") (x := a) (by show (false || (backTo pc (starEach es (envF F fI hh0.objs.size))).any (·.1)) = false; rw [hpl]; rfl) ?_
  refine PySem.Calls.evalArgs_plain ?_
  have hrun := hta.run pc _ _ _ _ _ I1 hq
  change wpAny _ _ (spliced (backTo pc (starEach (e :: es) (envF F fI hh0.objs.size)))) _ _ _ at hrun
  rw [He] at hrun
  refine thn hrun fun vs s1 ⟨ws', H1, I2, r2, hz, a', ha', hb', q⟩ => ?_
  obtain rfl : a = a' := by
    have e : (startF N (.ref a :: ws) [none])[0]? = some (some (V.ref a)) := rfl
    rw [e] at ha'
    exact V.ref.inj (Option.some.inj (Option.some.inj ha'))
  have hu := ClX.pin_at I2
  refine ⟨hu, ?_⟩
  obtain ⟨t2, ho2⟩ := exo_at I2.hok hb'
  have hlen : vs.length ≤ sizeLine := by
    rw [← Paired.length r2, sizeLine_eq]
    omega
  obtain ⟨h3, g3, d3, t3, os3⟩ := s1
  have X3 : K.In h3 := I2.kIn
  dsimp only at *
  refine wpAny_call (codeAny_of_tree ?_)
  show wpAny _ _ (callAny (.ref h2.objs.size) ⟨[] ++ vs, []⟩) _ _ _
  rw [List.nil_append]
  simp only [callAny]
  refine wpAny_bind (wpAny_load hu ?_)
  simp only [PySem.W.kxs_mw, show (Value.type "method-wrapper" == Value.type "method" || Value.type "method-wrapper" == Value.type "builtin_function_or_method" || Value.type "method-wrapper" == Value.type "method-wrapper") = true by decide, if_true]
  refine PySem.W.KFB.if_so (by decide) ?_
  refine wpAny_bind (PySem.W.check_bound_init PySem.F.excBase_ValueError.toExcCallFacts (X3 _ _ hC) ho2 rfl ?_)
  refine wpAny_bind (wpAny_pure (wpAny_pure ?_))
  refine ⟨plainId_quiet PySem.F.excBase_ValueError.init.plain _, codeAny_builtin PySem.F.excBase_ValueError.initEntry ?_⟩
  refine PySem.W.exc_init_tree (cls := .ref C) (t0 := t2) (dv := none) (c2 := .none) (c3 := .none) (b4 := .bool false) ho2 hlen fun h4 k4 e4 _ => ?_
  have J := I2.write (t' := t3) (x := a) (e := a) (o := exo a C none) (by rw [hb']; exact True.intro) (.inl rfl) k4 ⟨_, e4⟩ (exo_ok e4)
  have eu : upd H1 a (exo a C none) = H1 := by
    funext b
    by_cases hb : b = a
    · rw [hb, upd_same, hb']
    · rw [upd_ne hb]
  rw [eu] at J
  have J := ClX.unpin J
  refine wpAt_of_wpAny (wpAny_mono (htr.run [] _ _ _ _ J q) (fun fl s' hs => ?_) fun _ _ z => z)
  have fin : ∀ {σ' : L2.St} {H' : Hp} {v : V} {u : Value}, Inv (ncx CX0 P w K mg base N F fI A outer ⟨hh0, g, dr, tk0, os⟩ H E) [] σ' H' s' → L2.RelV v u → Q v H' → CE outer P w H ⟨hh0, g, dr, tk0, os⟩ Q u s' :=
    fun {σ' H' v u} J rv q => ⟨v, H', J.os, J.bare, J.base, J.hok, rv, q⟩
  cases fl with
  | ret u =>
    obtain ⟨v, σ', H', J, rv, q⟩ := hs
    exact fin J rv q
  | next =>
    obtain ⟨σ', H', J, q⟩ := hs
    exact fin (v := V.non) (u := Value.none) J rfl q
  | brk =>
    obtain ⟨_, _, _, q⟩ := hs
    exact False.elim q
  | cont =>
    obtain ⟨_, _, _, q⟩ := hs
    exact False.elim q
end
end SupX

set_option Elab.async false
set_option linter.all false
set_option maxRecDepth 100000
set_option maxHeartbeats 4000000
/-! Own exceptions in the layer: isinstance of a caught one that has a dict; raise C(line, reason); defs that raise. -/
namespace LK
open PySem PySem.Spec PyProof.Rows L2 NdefX SupX
section
variable {K : PySem.W.Frag} {x D : Addr} {ox : Obj}
theorem kitx_excD (C : ExcC K D) : PySem.W.KitX K (.ref x) (.ref D) (fun h => ∃ od, PySem.W.InstAt h x ox D od) where
  ty := fun _ _ _ ⟨_, I⟩ => I.type
  it := fun _ _ X _ => by
    obtain ⟨cdD, hcD, _⟩ := PySem.W.any_some C.hd
    unfold PySem.W.clsIn at hcD
    split at hcD
    · rename_i c' d' cd' sl' ho
      intro A' Q' E' s' k q
      unfold isType loadHead
      exact wpAny_bind (wpAny_loadPart (k _ _ (X _ _ ho)) (wpAny_pure q))
    · cases hcD
  ne := fun h tp dd its n sl X htp => by
    obtain ⟨cdD, hcD, _⟩ := PySem.W.any_some C.hd
    refine Bool.eq_false_iff.mpr fun q => ?_
    have e : D = tp := Value.ref.inj (beq_iff_eq.mp q)
    subst e
    unfold PySem.W.clsIn at hcD
    split at hcD
    · rename_i c' d' cd' sl' ho
      have z := (X _ _ ho).symm.trans htp
      cases z
    · cases hcD
  ca := fun X ⟨od, I⟩ k => PySem.W.kx_classE X I C.hg C.hk C.hs (PySem.W.findObj_dataE (by obtain ⟨cd, hc, _⟩ := PySem.W.any_some C.hd; rw [hc]; rfl) C.ha C.hn C.ht) C.hm k
end
/-- isinstance(e, c), e the exception that the suite holds, its dict at dd -/
def rIsD (K : PySem.W.Frag) (D a dd : Addr) : List V → Hp → VK → Prop := fun xs H Q => ∃ (c : V) (cv : Value) (b : Bool) (fs : List (Str × V)), xs = [.ref a, c] ∧ (∀ u, RelV c u → u = cv) ∧ PySem.W.kitOne K (.ref D) cv = some b ∧ H dd = some (.xd fs) ∧ Q (.bl b) H
theorem call_isD {X : Cx} {a D dd : Addr} {oe : Obj} {pn : List (Addr × Obj)} (C : ExcC X.K D) (hz : Zc (.ref D) (some dd) oe) (hf : ∃ vs, oe.data = .fields vs) : CallR (X.suite a ((a, oe) :: pn)) (.builtin "isinstance") (rIsD X.K D a dd) := by
  intro pins s σ H xs us Q I r h
  obtain ⟨c, cv, b, fs, rfl, hcv, e, hd, q⟩ := h
  cases r with
  | cons rx rr =>
    cases rr with
    | cons rt rr =>
      cases rr
      cases rx
      have ec := hcv _ rt
      subst ec
      obtain ⟨hget, _⟩ := I.pin (a, oe) (List.mem_append.mpr (.inl List.mem_cons_self))
      obtain ⟨vs, hv⟩ := hf
      have hx : ObjOk X.prog X.w H s.heap dd (.xd fs) := I.hok dd _ hd
      obtain ⟨mA, hns, hr⟩ := hx
      obtain ⟨od, ho, hl⟩ := lookIn_ns hns
      have J : PySem.W.InstAt s.heap a oe D (some od) := ⟨hget, hz.1, by unfold PySem.W.notCls; rw [hv] <;> rfl, by rw [hz.2]; exact ho⟩
      exact PySem.W.kia_one (kitx_excD C) I.kIn ⟨_, J⟩ e (fun z => nomatch z) fun tk => ⟨.bl b, H, I.kept (t' := tk) fun _ _ z => z, rfl, q⟩
/-! ### the class Fault -/
/-- what its __init__ leaves -/
def spFault (K : PySem.W.Frag) (C : Addr) : Sp := fun vs H Q _ => ∃ (a : Addr) (n : Int) (r : Str), vs = [.ref a, .int n, .str r] ∧ H a = some (exo a C none) ∧ n.natAbs < 2 ^ 100 ∧ r.length ≤ 1000 ∧
  ∀ d H', H d = none → H' a = some (exo a C (some d)) → H' d = some (exd d [("reason", .str r), ("line", .int n)]) → (∀ b, b ≠ a → b ≠ d → H' b = H b) → Q .non H'
/-- the class stands at C, its base at B: what a raise and an except ask -/
structure UseF (P : Program) (w : World) (K : PySem.W.Frag) (mg : Str → Option Value) (base : Heap) (C B : Addr) : Prop where
  oex : OexC K C
  xf : XfC K C
  isc : ExcC K C
  mC : mg "Fault" = some (.ref C)
  mB : mg "HoldError" = some (.ref B)
  line : PySem.W.findIn K (.ref C) "line" = some none
  reason : PySem.W.findIn K (.ref C) "reason" = some none
  exm : PySem.W.exmOne K (.ref C) (.ref B) = some true
  ve : PySem.W.kitOne K (.ref C) (.type "ValueError") = some true
  ini : ∃ (fI : Addr) (fd : FuncData), PySem.W.findIn K (.ref C) "__init__" = some (some (.ref fI)) ∧ PySem.W.typeIn K (.ref fI) = some (.type "function") ∧ FnOk P w K mg base CX0 1 fI fd ["self", "line", "reason"] (spFault K C) ∧ Binds K fd ["self", "line", "reason"] []
def faultD (n : Int) (r : Str) : HO := .xd [("reason", .str r), ("line", .int n)]
/-- raise Fault(line, reason) -/
def tRaiseF (C : Addr) (ta : TA) (W : WX) : TS := fun _ σ H => ta σ H fun vs H1 => ∃ (n : Int) (r : Str), vs = [.int n, .str r] ∧ n.natAbs < 2 ^ 100 ∧ r.length ≤ 1000 ∧ ∀ d, H1 d = none → W (.ref C) (some d) σ (upd H1 d (faultD n r))
section
variable {X : Cx} {C B : Addr} {W : WX} {e1 : Expr} {es : List Expr} {ta : TA} {p pos pos2 : Pos}
theorem pa_up (h : PA X es ta) : PA X es (fun σ H Q => ∃ P : List V → Hp → Prop, ta σ H P ∧ ∀ vs H1, P vs H1 → Q vs H1) :=
  ⟨fun pos pins s σ H Q I ⟨P, hP, k⟩ => thn (h.run pos pins s σ H P I hP) fun us s1 ⟨vs, H1, I1, r, q⟩ => ⟨vs, H1, I1, r, k vs H1 q⟩⟩
theorem ps_raiseF (U : UseF X.prog X.w X.K X.mg X.base C B) (hc : X.calm = true) (tk : Takes X W) (hr : Room 2 X.A) (hg : Gl X "Fault") (ha : PA X (e1 :: es) ta)
    (he : starEach (e1 :: es) X.env = (false, eval e1 X.env) :: starEach es X.env := by rfl) (hpl : (backTo pos (starEach es X.env)).any (·.1) = false := by rfl) :
    PS X (.Raise (some (.Call (.Name "Fault" p) (e1 :: es) [] pos)) none pos2) (tRaiseF C ta W) := by
  obtain ⟨fI, fd, i1, i2, ok, hb⟩ := U.ini
  have R := ps_raise (pos := pos2) hc tk (pmk_oex (p := p) (pos := pos) U.oex i1 i2 ok hr hb .nil pass0 hg U.mC (pa_up ha) (by decide) he hpl)
  refine ⟨fun pins s σ H D I h => R.run pins s σ H D I ⟨_, h, ?_⟩⟩
  rintro vs H1 ⟨n, r, rfl, hn, hr, k⟩
  refine ⟨show 2 ≤ 1000 by decide, fun a ha1 => ⟨a, n, r, rfl, upd_same, hn, hr, fun d H2 hd ha2 hd2 keep => ?_⟩⟩
  have hda : d ≠ a := fun e => by
    subst e
    rw [upd_same] at hd
    cases hd
  rw [upd_ne hda] at hd
  refine ⟨rfl, d, _, ha2, hd2, hd, ?_⟩
  have e : upd (del H2 a) d (.xd [("reason", .str r), ("line", .int n)]) = upd H1 d (faultD n r) := by
    funext b
    by_cases hb : b = d
    · subst hb
      rw [upd_same, upd_same]; rfl
    · rw [upd_ne hb, upd_ne hb]
      by_cases hba : b = a
      · subst hba
        rw [del_same, ha1]
      · rw [del_ne hba, keep b hba hb, upd_ne hba]
  rw [e]
  exact k d hd
end
/-! ### the call of a def that may raise -/
section
variable {X : Cx} {CX : CXT} {k : Nat} {f : Addr} {fd : FuncData} {ps : List Str} {sp : Sp} {x : Str} {p pos : Pos} {e : Expr} {es : List Expr} {t : TA}
theorem run_fnSG {pins : List (Addr × Obj)} {σ : L2.St} {H : Hp} {s : Shared} {Q : VK} {us : List Value} {vs : List V} {E : L2.St → XK} (F : FnG X.prog X.w X.K X.mg X.base CX k f fd ps sp) (hr : Room k X.A) (hg : X.A.guards = some []) (hb : Binds X.K fd ps [])
    (hx : PassesAt CX X σ (E σ)) (I : Inv X pins σ H s) (r : Vals vs us) (h : sp vs H Q (E σ)) : wpAny (model X.prog X.w) X.A (call (.ref f) us) (EP X pins σ Q) X.xe s := by
  have hl : (us ++ []).length = ps.length := by rw [List.append_nil, ← r.length, F.len _ _ _ _ h]
  have hbs := hb s us I.kIn hl
  rw [List.append_nil] at hbs
  refine wpAny_call (codeAny_mono (F.run X.A X.stack s H ⟨us, []⟩ us vs Q _ hr hg I.env0 hbs r h) fun res s' hq => ?_)
  match res, hq with
  | .error e, hq => exact hx pins H s e s' I hq
  | .ok (.ret u), hq => exact I.after hq
  | .ok .next, hq => exact hq.elim
  | .ok .brk, hq => exact hq.elim
  | .ok .cont, hq => exact hq.elim
def tUseS (sp : Sp) (E : L2.St → XK) (t : TA) : TE := fun σ H Q => t σ H fun vs H1 => sp vs H1 Q (E σ)
/-- in a try -/
theorem pe_useS {E : L2.St → XK} (U : Use X.prog X.w X.K X.mg X.base CX x k ps sp) (hx : ∀ σ, PassesAt CX X σ (E σ)) (hr : Room k X.A) (gd : X.A.guards = some []) (hg : Gl X x) (ha : PA X (e :: es) t) (hdb : (x == ("__debug__" : Str)) = false := by decide)
    (he : starEach (e :: es) X.env = (false, eval e X.env) :: starEach es X.env := by rfl) (hpl : (backTo pos (starEach es X.env)).any (·.1) = false := by rfl) : PE X (.Call (.Name x p) (e :: es) [] pos) (tUseS sp E t) := by
  obtain ⟨f, fd, ok, hm, kp, hb⟩ := U.ex
  refine ⟨fun pins s σ H Q I h => wpAny_Call_Name_kw (ld_glob I hg hm ?_ hdb)⟩
  exact PySem.W.callWith_K (h₀ := X.base) I.ok.mod.kin kp (thn (ha.run pos pins s σ H _ I h) fun us s1 ⟨vs, H1, I1, r, q⟩ => ⟨I1.kIn, run_fnSG ok hr gd hb (hx _) I1 r q⟩) he hpl
/-- in a def that lets out what the callee lets out -/
theorem pe_useR {E : XK} (U : Use X.prog X.w X.K X.mg X.base (L2.CX X.prog X.w) x k ps sp) (tk : Takes X fun cls d _ H => E cls d H) (hr : Room k X.A) (gd : X.A.guards = some []) (hg : Gl X x) (ha : PA X (e :: es) t) (hdb : (x == ("__debug__" : Str)) = false := by decide)
    (he : starEach (e :: es) X.env = (false, eval e X.env) :: starEach es X.env := by rfl) (hpl : (backTo pos (starEach es X.env)).any (·.1) = false := by rfl) : PE X (.Call (.Name x p) (e :: es) [] pos) (tUse sp E t) :=
  pe_useX U (passes_call tk fun _ _ _ _ h => h) hr gd hg ha hdb he hpl
end
/-! ### Fault's __init__ -/
section
variable {P : Program} {w : World} {K : PySem.W.Frag} {mg : Str → Option Value} {base : Heap} {F : NF} {fI C cc : Addr} {p0 p1 pa pc pe q1 q2 q3 q4 q5 q6 q7 a1 a2 a3 a4 b1 b2 b3 b4 : Pos} {k1 k2 : Nat} {ar : Arg}
theorem fault_ini (T : SupC P K C fI cc F) (hl : PySem.W.findIn K (.ref C) "line" = some none) (hr : PySem.W.findIn K (.ref C) "reason" = some none)
    (S : NScope ["self", "line", "reason", "__class__"] ["self", "line", "reason"] ["__class__"] F.scope)
    (hbd : F.body = [.Expr (.Call (.Attribute (.Call (.Name "super" p0) [] [] p1) "__init__" pa) [.JoinedStr [.Constant (.str "line ") k1 q1, .FormattedValue (.Name "line" q2) (-1) none q3, .Constant (.str ": ") k2 q4, .FormattedValue (.Name "reason" q5) (-1) none q6] q7] [] pc) pe,
      .Assign [.Attribute (.Name "self" a1) "line" a2] (.Name "line" a3) a4, .Assign [.Attribute (.Name "self" b1) "reason" b2] (.Name "reason" b3) b4])
    (hpar : (F.params.posonlyargs ++ F.params.args).head? = some ar) (har : ar.arg = "self") (hks : F.scope.names.lookup ("super" : Str) = some .globalImplicit)
    (hev : ∀ env : Env, ∃ pl : Sem Bool, eval (.Call (.Attribute (.Call (.Name "super" p0) [] [] p1) "__init__" pa) [.JoinedStr [.Constant (.str "line ") k1 q1, .FormattedValue (.Name "line" q2) (-1) none q3, .Constant (.str ": ") k2 q4, .FormattedValue (.Name "reason" q5) (-1) none q6] q7] [] pc) env = (do
      let ov ← attributeBase (.Call (.Name "super" p0) [] [] p1) "__init__" env (eval (.Call (.Name "super" p0) [] [] p1) env)
      standAt pa.atName
      let (f, first) ← holding [ov] (getMethod ov "__init__" pl)
      callWith pc f first (backTo pc (starEach [.JoinedStr [.Constant (.str "line ") k1 q1, .FormattedValue (.Name "line" q2) (-1) none q3, .Constant (.str ": ") k2 q4, .FormattedValue (.Name "reason" q5) (-1) none q6] q7] env)) [])) :
    ∀ fd, (∃ oc od osl, K.lookup fI = some ⟨oc, od, .func fd, osl⟩) → FnOk P w K mg base CX0 1 fI fd ["self", "line", "reason"] (spFault K C) := by
  have v0 : F.scope.names.lookup ("self" : Str) = some .local := S.par _ (by simp)
  have v1 : F.scope.names.lookup ("line" : Str) = some .local := S.par _ (by simp)
  have v2 : F.scope.names.lookup ("reason" : Str) = some .local := S.par _ (by simp)
  refine sup_ok (k := 0) T S (fun vs H Q E h => ?_) (fun vs H Q E h => ?_) hbd hpar har hks (S.frk _ (by simp)) v0 (fun _ => rfl) (fun _ => rfl) hev fun A outer s H vs Q E hroom h => ?_
  · obtain ⟨a, n, r, rfl, _⟩ := h
    rfl
  · obtain ⟨a, n, r, rfl, ha, _⟩ := h
    exact ⟨a, _, rfl, ha⟩
  · obtain ⟨a, n, r, rfl, ha, hn, hz, k⟩ := h
    refine ⟨_, _, pa_cons (pe_joined (.cons pe_str (.cons (pe_fmt (pe_var (i := 1) rfl (.inl v1))) (.cons pe_str (.cons (pe_fmt (pe_var (i := 2) rfl (.inl v2))) .nil))))) pa_nil,
      pss_cons (ps_ost (pe_var (i := 0) rfl (.inl v0)) (pe_var (i := 1) rfl (.inl v1))) (pss_one (ps_ost (pe_var (i := 0) rfl (.inl v0)) (pe_var (i := 2) rfl (.inl v2)))), ?_⟩
    have hln : (Str.ofString (toString n)).length ≤ 2000 := by
      have hl : n.natAbs.log2 < 1900 := Nat.lt_of_lt_of_le (PySem.Flt.log2_lt_of (k := 100) (by decide) hn) (by decide)
      have e := int_text_length_le (k := 1900) (by decide) hl
      rw [PySem.ofString_length]; omega
    have l1 : (Str.empty ++ ("line " : Str)).length = 5 := by decide +kernel
    have l2 : (": " : Str).length = 2 := by decide +kernel
    refine ⟨_, rfl, by rw [l1]; decide, ?_⟩
    refine ⟨_, rfl, .inr ⟨n, rfl, Nat.lt_of_lt_of_le (PySem.Flt.log2_lt_of (k := 100) (by decide) hn) (by decide), _, rfl, ?_, ?_⟩⟩
    · rw [strLen_append, l1]
      exact Nat.le_trans (show 5 + _ ≤ 3000 by omega) (by decide)
    refine ⟨_, rfl, ?_, ?_⟩
    · rw [strLen_append, strLen_append, l1, l2]
      exact Nat.le_trans (show _ ≤ 3000 by omega) (by decide)
    refine ⟨_, rfl, .inl ⟨r, rfl, Nat.le_trans hz (by decide), _, rfl, ?_, ?_⟩⟩
    · rw [strLen_append, strLen_append, strLen_append, l1, l2]
      exact Nat.le_trans (show _ ≤ 5000 by omega) (by decide)
    refine ⟨show 1 ≤ 1000 by decide, a, rfl, ha, ?_⟩
    refine ⟨_, rfl, _, rfl, a, C, rfl, T.oex, hl, .inl ⟨ha, fun d hd hda => ?_⟩⟩
    refine ⟨_, rfl, _, rfl, a, C, rfl, T.oex, hr, .inr ⟨d, [("line", .int n)], upd_same, by rw [upd_ne hda, upd_same], (show 1 ≤ 900 by decide), ?_⟩⟩
    have hd2 : d ≠ a := hda
    refine k d _ hd (by rw [upd_ne (Ne.symm hd2), upd_same]) upd_same fun b hb hbd => ?_
    rw [upd_ne hbd, upd_ne hb, upd_ne hbd]
end
theorem kit_ve {K : PySem.W.Frag} {C : Addr} (h : PySem.W.subIn K (.ref C) (.type "ValueError") = some true) : PySem.W.kitOne K (.ref C) (.type "ValueError") = some true := by
  unfold PySem.W.kitOne PySem.W.kitCls
  rw [if_neg (fun e => by cases (beq_iff_eq.mp e))]
  show (if PySem.W.kitMeta "ValueError" = true then _ else _) = _
  rw [if_pos (by decide +kernel)]
  exact h
def rIsV (K : PySem.W.Frag) (C a : Addr) (cls : Value) (d : Option Addr) : List V → Hp → VK → Prop := fun xs H Q => cls = .ref C ∧ ∃ dd, d = some dd ∧ rIsD K C a dd xs H Q
theorem call_isV {X : Cx} {a C : Addr} {oe : Obj} {cls : Value} {d : Option Addr} {pn : List (Addr × Obj)} (T : ExcC X.K C) (hz : Zc cls d oe) (hf : ∃ vs, oe.data = .fields vs) : CallR (X.suite a ((a, oe) :: pn)) (.builtin "isinstance") (rIsV X.K C a cls d) := by
  intro pins s σ H xs us Q I r h
  obtain ⟨rfl, dd, rfl, q⟩ := h
  exact call_isD T hz hf pins s σ H xs us Q I r q
/-! ### from the top's facts -/
abbrev nfF (st : Stmt) (cc cda : Addr) : NF := ⟨"__init__", "Fault.__init__", defArgs st, defBody st, defScope st, [(("__class__" : Str), cc)], cda⟩
structure FaultK (P : Program) (K : PySem.W.Frag) (st : Stmt) (C B fI cc cda : Addr) : Prop where
  gC : PySem.W.nsIn K mainGlobals "Fault" = some (some (.ref C))
  gB : PySem.W.nsIn K mainGlobals "HoldError" = some (some (.ref B))
  sup : SupC P K C fI cc (nfF st cc cda)
  xf : XfC K C
  isc : ExcC K C
  line : PySem.W.findIn K (.ref C) "line" = some none
  reason : PySem.W.findIn K (.ref C) "reason" = some none
  exm : PySem.W.exmOne K (.ref C) (.ref B) = some true
  ini : PySem.W.findIn K (.ref C) "__init__" = some (some (.ref fI))
  ity : PySem.W.typeIn K (.ref fI) = some (.type "function")
def HasFault (P : Program) (K : PySem.W.Frag) (st : Stmt) : Prop := ∃ C B fI cc cda, FaultK P K st C B fI cc cda
section
variable {P : Program} {K : PySem.W.Frag} {st : Stmt} {C B fI cc cda : Addr} {nm q : Str} {N : Addr} {bs bm : List Value} {sn : List Str} {sub : List Value} {ab : Bool} {col : Option Bool} {dd : Option Addr} {k0 k1 k2 k3 k5 : Option Value}
  {oc : Value} {od : Option Addr} {doc pm ctv : Value} {osl : Array (Option Value)} {ccl : Value} {cdd : Option Addr} {vs : Array Value} {ccs : Array (Option Value)} {file : Str} {tf : Tok} {xcl : Value} {xld : Option Addr} {xsl : Array (Option Value)}
theorem HasFault.mk' (a1 : PySem.W.nsIn K mainGlobals "Fault" = some (some (.ref C))) (a2 : PySem.W.nsIn K mainGlobals "HoldError" = some (some (.ref B)))
    (a3 : K.lookup C = some (excClassObj nm q C N bs bm true sn sub ab col dd k0 k1 k2 k3 k5 "ValueError.__new__")) (a4 : PySem.HandSPX.refsVE bm = true)
    (a5 : PySem.W.findIn K (.ref C) "__setattr__" = some (some (.builtin "object.__setattr__"))) (a6 : PySem.W.subIn K (.ref C) (.type "BaseException") = some true) (a7 : PySem.W.typeIn K (.ref C) = some (.type "type")) (a8 : PySem.W.keepIn K (.ref C) = true)
    (b1 : PySem.W.findIn K (.ref C) "__init__" = some (some (.ref fI))) (b2 : PySem.W.typeIn K (.ref fI) = some (.type "function"))
    (b3 : K.lookup fI = some ⟨oc, od, .func ((nfF st cc cda).fd doc pm ctv), osl⟩) (b4 : PySem.W.codeIn K (.ref cda) "Fault.__init__" = true)
    (b5 : K.lookup cda = some ⟨ccl, cdd, .fields vs, ccs⟩) (b6 : vs[2]? = some (.str file tf)) (b7 : ((P.main.file : Str) == file) = true) (b8 : (P.main.scope.names.lookup ("super" : Str)).isSome = false)
    (c1 : K.lookup cc = some ⟨xcl, xld, .cell (some (.ref C)), xsl⟩) (c2 : PySem.W.mroIn K C (.ref C) = some true) (c3 : PySem.W.subIn K (.ref C) (.type "ValueError") = some true)
    (c4 : PySem.W.ks_superIn K C C "__init__" = some (some (.builtin "ValueError.__init__"))) (c5 : PySem.W.nsIn K cStatics "thirdparty.any" = some none) (c6 : PySem.W.nsIn K mainGlobals "super" = some none)
    (d1 : PySem.W.findIn K (.ref C) "__getattribute__" = some (some (.builtin "BaseException.__getattribute__"))) (d2 : PySem.W.findIn K (.ref C) "__getattr__" = some none) (d3 : PySem.W.hasDictIn K C = true)
    (d4 : PySem.W.findIn K (.ref C) "__class__" = some (some (.builtin "object.__class__"))) (d5 : PySem.W.specialIn K (.builtin "object.__class__") "__get__" = some (some (.builtin "getset_descriptor.__get__")))
    (d6 : PySem.W.takesIn K (.builtin "object.__class__") = some true) (d7 : PySem.W.mroIn K C (.type "object") = some true)
    (e1 : PySem.W.findIn K (.ref C) "line" = some none) (e2 : PySem.W.findIn K (.ref C) "reason" = some none) (e3 : PySem.W.subIn K (.ref B) (.type "BaseException") = some true) (e4 : PySem.W.hasDictIn K B = true) (e5 : PySem.W.typeIn K (.ref B) = some (.type "type")) (e6 : PySem.W.subIn K (.ref C) (.ref B) = some true) : HasFault P K st :=
  ⟨C, B, fI, cc, cda, a1, a2, ⟨⟨⟨nm, q, N, bs, bm, sn, sub, ab, col, dd, k0, k1, k2, k3, k5, a3, a4⟩, a5, a6, a7, a8⟩, ⟨oc, od, doc, pm, ctv, osl, b3⟩, rfl, b4, ⟨ccl, cdd, vs, ccs, file, tf, b5, b6, b7⟩, b8, ⟨xcl, xld, xsl, c1⟩, c2, c3, c4, c5, c6⟩,
    ⟨d1, d2, a6, d3⟩, ⟨d1, d2, a6, d3, d4, d5, d6, d7⟩, e1, e2, PySem.W.exm_ref e3 e4 e5 e6, b1, b2⟩
end
section
variable {P : Program} {w : World} {K : PySem.W.Frag} {mg : Str → Option Value} {base h : Heap} {st : Stmt} {p0 p1 pa pc pe q1 q2 q3 q4 q5 q6 q7 a1 a2 a3 a4 b1 b2 b3 b4 : Pos} {k1 k2 : Nat} {ar : Arg}
theorem mk_useF (f : HasFault P K st) (X : K.In h) (G : h.Ns mainGlobals mg)
    (S : NScope ["self", "line", "reason", "__class__"] ["self", "line", "reason"] ["__class__"] (defScope st))
    (hbd : defBody st = [.Expr (.Call (.Attribute (.Call (.Name "super" p0) [] [] p1) "__init__" pa) [.JoinedStr [.Constant (.str "line ") k1 q1, .FormattedValue (.Name "line" q2) (-1) none q3, .Constant (.str ": ") k2 q4, .FormattedValue (.Name "reason" q5) (-1) none q6] q7] [] pc) pe,
      .Assign [.Attribute (.Name "self" a1) "line" a2] (.Name "line" a3) a4, .Assign [.Attribute (.Name "self" b1) "reason" b2] (.Name "reason" b3) b4])
    (hpar : ((defArgs st).posonlyargs ++ (defArgs st).args).head? = some ar) (har : ar.arg = "self") (hks : (defScope st).names.lookup ("super" : Str) = some .globalImplicit)
    (hev : ∀ env : Env, ∃ pl : Sem Bool, eval (.Call (.Attribute (.Call (.Name "super" p0) [] [] p1) "__init__" pa) [.JoinedStr [.Constant (.str "line ") k1 q1, .FormattedValue (.Name "line" q2) (-1) none q3, .Constant (.str ": ") k2 q4, .FormattedValue (.Name "reason" q5) (-1) none q6] q7] [] pc) env = (do
      let ov ← attributeBase (.Call (.Name "super" p0) [] [] p1) "__init__" env (eval (.Call (.Name "super" p0) [] [] p1) env)
      standAt pa.atName
      let (f, first) ← holding [ov] (getMethod ov "__init__" pl)
      callWith pc f first (backTo pc (starEach [.JoinedStr [.Constant (.str "line ") k1 q1, .FormattedValue (.Name "line" q2) (-1) none q3, .Constant (.str ": ") k2 q4, .FormattedValue (.Name "reason" q5) (-1) none q6] q7] env)) []))
    (hb : ∀ (cc cda : Addr) (doc pm ctv : Value) (us : List Value), us.length = 3 → bindArgs ((nfF st cc cda).fd doc pm ctv) ⟨us, []⟩ = pure ((["self", "line", "reason"] : List Str).zip us)) :
    ∃ C B, UseF P w K mg base C B := by
  obtain ⟨C, B, fI, cc, cda, f⟩ := f
  obtain ⟨oc, od, doc, pm, ctv, osl, lk⟩ := f.sup.fn
  exact ⟨C, B, f.sup.oex, f.xf, f.isc, PySem.W.mg_of X G f.gC, PySem.W.mg_of X G f.gB, f.line, f.reason, f.exm, kit_ve f.sup.isB, fI, _, f.ini, f.ity, fault_ini f.sup f.line f.reason S hbd hpar har hks hev _ ⟨oc, od, osl, lk⟩, .all (hb cc cda doc pm ctv)⟩
end
end LK

set_option Elab.async false
set_option linter.all false
set_option maxRecDepth 100000
set_option maxHeartbeats 4000000
/-! dicts of the top: what a literal dict of the program gives, read where it stands. -/
namespace LK
open PySem PySem.Spec PyProof.Rows L2
/-- at a lies a dict of the top with these entries -/
def KDct (P : Program) (w : World) (K : PySem.W.Frag) (a : Addr) (kvs : List (Key × V)) : Prop := (a == sysModules) = false ∧ ∃ vs, KV kvs vs ∧ ∀ h : Heap, K.In h → h.DictOf (mixKind P w) a vs
def tDGetK (P : Program) (w : World) (K : PySem.W.Frag) (td ty : TE) : TE := fun σ H Q => td σ H fun x H1 => ty σ H1 fun y H2 => ∃ a kvs k v, x = .ref a ∧ KDct P w K a kvs ∧ y = kV k ∧ valV kvs k = some v ∧ Q v H2
def tDInK (P : Program) (w : World) (K : PySem.W.Frag) (ty td : TE) : TE := fun σ H Q => ty σ H fun y H1 => td σ H1 fun x H2 => ∃ a kvs k, x = .ref a ∧ KDct P w K a kvs ∧ y = kV k ∧ Q (.bl (valV kvs k).isSome) H2
section
variable {X : Cx} {o i : Expr} {pos : Pos} {td ty : TE}
theorem pe_dgetK (ho : PE X o td) (hi : PE X i ty) (hs : NoSl i) : PE X (.Subscript o i pos) (tDGetK X.prog X.w X.K td ty) := by
  refine ⟨fun pins s σ H Q I h => ?_⟩
  refine subD_of PySem.F.slot_dict_getitem.lookup hs (thn (ho.run pins s σ H _ I h) fun u s1 ⟨x, H1, I1, rx, q1⟩ => thn (hi.run pins s1 σ H1 _ I1 q1) fun iv s2 ⟨y, H2, I2, ry, a, kvs, k, v, ex, ⟨hsys, vs, rel, dd⟩, ey, l, q2⟩ => ?_)
  subst ex ey
  obtain rfl : u = Value.ref a := rx
  have dd := dd _ I2.kIn
  refine ⟨dd.typeIs, ?_⟩
  obtain ⟨w', hw, rw'⟩ := RelO.some_of (v := v) (o := valueAt vs k) (by rw [← l]; exact rel.val k)
  exact wpAny_getItem_of (kV_is ry) dd.mapOf hw ⟨v, H2, I2.tok _, rw', q2⟩
theorem pc_dinK (hi : PE X i ty) (ho : PE X o td) : PC X .In i o (tDInK X.prog X.w X.K ty td) := by
  refine ⟨fun pins s σ H Q I h => ?_⟩
  refine thn (hi.run pins s σ H _ I h) fun iv s1 ⟨y, H1, I1, ry, q1⟩ => thn (ho.run pins s1 σ H1 _ I1 q1) fun u s2 ⟨x, H2, I2, rx, a, kvs, k, ex, ⟨hsys, vs, rel, dd⟩, ey, q2⟩ => ?_
  subst ex ey
  obtain rfl : u = Value.ref a := rx
  have dd := dd _ I2.kIn
  refine wpAny_in_of (kV_is ry) hsys dd.mapOf ?_
  rw [← (rel.val k).isSome_eq]
  exact ⟨.bl _, H2, I2.tok _, rfl, q2⟩
end
/-! its fact from the top -/
def HasDct (P : Program) (w : World) (K : PySem.W.Frag) (x : Str) (kvs : List (Key × V)) : Prop := ∃ a, PySem.W.nsIn K mainGlobals x = some (some (.ref a)) ∧ KDct P w K a kvs
structure UseD (P : Program) (w : World) (K : PySem.W.Frag) (mg : Str → Option Value) (x : Str) (kvs : List (Key × V)) : Prop where
  ex : ∃ a, mg x = some (.ref a) ∧ KDct P w K a kvs
/-- entries whose keys and values are texts -/
inductive DEnt (w : World) : List DictEntry → List (Str × Str) → Prop
  | nil : DEnt w [] []
  | cons {e : DictEntry} {es : List DictEntry} {k v : Str} {ps : List (Str × Str)} {t t' : Tok} : e.key = .str k t → e.hash = hashStr w k → e.val = .str v t' → DEnt w es ps → DEnt w (e :: es) ((k, v) :: ps)
def txtKV (ps : List (Str × Str)) : List (Key × V) := ps.map fun p => (.inr p.1, .str p.2)
theorem DEnt.pairs {P : Program} {w : World} : ∀ {es : List DictEntry} {ps : List (Str × Str)}, DEnt w es ps → ∃ vs : List (Key × Value), KV (txtKV ps) vs ∧ PySem.Pairs (mixKind P w) es vs ∧ vs.map (·.1) = ps.map (fun p => (Sum.inr p.1 : Key)) ∧ ∀ e ∈ es, ∃ k, (mixKind P w).is k e.key = true ∧ e.hash = (mixKind P w).hash k
  | _, _, .nil => ⟨[], .nil, .nil, rfl, fun _ h => by cases h⟩
  | _, _, .cons (k := k) (v := v) (t := t) (t' := t') hk hh hv r => by
    obtain ⟨vs, a, b, c, d⟩ := DEnt.pairs (P := P) r
    refine ⟨(.inr k, .str v t') :: vs, .cons ⟨rfl, ⟨_, rfl⟩⟩ a, .cons (by rw [hk]; exact mixKind_str P w k t) hv b, by rw [List.map_cons, c]; rfl, fun e he => ?_⟩
    rcases List.mem_cons.mp he with rfl | he
    · exact ⟨.inr k, by rw [hk]; exact mixKind_str P w k t, hh⟩
    · exact d e he
theorem nodup_inr : ∀ {xs : List Str}, xs.Nodup → (xs.map (Sum.inr : Str → Key)).Nodup
  | [], _ => .nil
  | x :: r, h => by
    obtain ⟨h1, h2⟩ := List.nodup_cons.mp h
    refine List.nodup_cons.mpr ⟨fun hm => ?_, nodup_inr h2⟩
    obtain ⟨y, hy, e⟩ := List.mem_map.mp hm
    exact h1 (Sum.inr.inj e ▸ hy)
theorem HasDct.mk' {P : Program} {w : World} {K : PySem.W.Frag} {x : Str} {ps : List (Str × Str)} {a : Addr} {es : Array DictEntry} {ep : Nat} (h : PySem.W.nsIn K mainGlobals x = some (some (.ref a)))
    (b : K.lookup a = some { cls := .type "dict", data := .dict es ep }) (hs : (a == sysModules) = false) (c : DEnt w es.toList ps) (nd : (ps.map (·.1)).Nodup) : HasDct P w K x (txtKV ps) := by
  obtain ⟨vs, v1, v2, v3, v4⟩ := DEnt.pairs (P := P) c
  refine ⟨a, h, hs, vs, v1, fun hh hK => ⟨_, es, ep, hK a _ b, ⟨rfl, rfl, rfl⟩, rfl, fun e he => v4 e (Array.mem_toList_iff.mpr he), v2, ?_⟩⟩
  rw [v3]
  have : ps.map (fun p => (Sum.inr p.1 : Key)) = (ps.map (·.1)).map Sum.inr := by rw [List.map_map]; rfl
  rw [this]
  exact nodup_inr nd
theorem HasDct.g {P : Program} {w : World} {K : PySem.W.Frag} {mg : Str → Option Value} {h : Heap} {x : Str} {kvs : List (Key × V)} (D : HasDct P w K x kvs) (X : K.In h) (G : h.Ns mainGlobals mg) : UseD P w K mg x kvs := by
  obtain ⟨a, e, k⟩ := D
  exact ⟨a, PySem.W.mg_of X G e, k⟩
end LK

set_option Elab.async false
set_option linter.all false
set_option maxRecDepth 100000
set_option maxHeartbeats 4000000
/-! Defs whose body replaces signs (a token is out when it begins); not in, of a dict of the top. -/
namespace LK
open PySem PySem.Spec PyProof.Rows L2 SX
section
variable {P : Program} {w : World} {K : PySem.W.Frag} {mg : Str → Option Value} {base : Heap} {CX : CXT}
theorem okT {x qual : Str} {st : Stmt} {f : Addr} {fd : FuncData} {N ps : List Str} {k : Nat} {sp : Sp} (F : Fun K x qual st f fd) (S : FnScope N ps (defScope st)) (hnc : ∀ y ∈ (defScope st).names, y.2 ≠ .cell) (hps : 1 ≤ ps.length)
    (len : ∀ vs H Q E, sp vs H Q E → vs.length = ps.length)
    (body : ∀ (cdv : Value) (A : Around) (outer : List Env) (s : Shared) (H : Hp) (vs : List V) (Q : VK) (E : XK), Room k (A.deeper (envOfC qual (defScope st) s.heap.objs.size f cdv)) → sp vs H Q E →
      ∃ t, PSsT (cxOf CX P w K mg base N qual (defScope st) f cdv A outer s H E) (defBody st) t ∧ t { nx := fun _ H' => Q .non H', rt := Q } (start N vs) H) :
    FnG P w K mg base CX (k + 1) f fd ps sp := by
  obtain ⟨oc, od, kV, doc, pm, an, cdv, ct, osl, rfl, lk, hcd⟩ := F.ex
  have G := fn_ofT (CX := CX) (P := P) (w := w) (mg := mg) (base := base) lk hcd S hnc hps len (body cdv)
  exact ⟨len, fun A outer s H args us vs Q E hr _ e0 hb r hs => G.run A outer s H args us vs Q E hr e0 hb r hs⟩
end
section
variable {X : Cx}
theorem pst_set {i : Nat} {x : Str} {e : Expr} {te : TE} {pos pos' : Pos} (hN : X.N.Nodup) (hi : X.N[i]? = some x) (hx : Loc X.env.scope x) (he : PET X e te) (hs : swapsWith e (some (.Name x pos')) pos.line X.env = pure false := by rfl)
    (hf : X.fn x = true ∨ X.env.scope.names.lookup x = some .local := by first | exact .inl rfl | exact .inr rfl) : PST X (.Assign [.Name x pos'] e pos) (tAsg te (gName i)) := by
  intro pins s σ H D h0 I h
  exact wpAny_Assign_Name (thn (he pins s σ H _ h0 I h) fun v s1 ⟨y, H1, I1, r1, q1⟩ => store_ok I1 hN hi hx r1 (fun s2 I2 => ⟨_, H1, I2, q1⟩) hf) hs
def tNotInK (P : Program) (w : World) (K : PySem.W.Frag) (ty td : TE) : TE := fun σ H Q => ty σ H fun y H1 => td σ H1 fun x H2 => ∃ a kvs k, x = .ref a ∧ KDct P w K a kvs ∧ y = kV k ∧ Q (.bl (!(valV kvs k).isSome)) H2
theorem pc_dnotinK {o i : Expr} {td ty : TE} (hi : PE X i ty) (ho : PE X o td) : PC X .NotIn i o (tNotInK X.prog X.w X.K ty td) := by
  refine ⟨fun pins s σ H Q I h => ?_⟩
  refine thn (hi.run pins s σ H _ I h) fun iv s1 ⟨y, H1, I1, ry, q1⟩ => thn (ho.run pins s1 σ H1 _ I1 q1) fun u s2 ⟨x, H2, I2, rx, a, kvs, k, ex, ⟨low, vs, rel, dd⟩, ey, q2⟩ => ?_
  subst ex ey
  obtain rfl : u = Value.ref a := rx
  refine wpAny_notIn_of (kV_is ry) low (dd _ I2.kIn).mapOf ?_
  rw [← (rel.val k).isSome_eq]
  exact ⟨.bl _, H2, I2.tok _, rfl, q2⟩
end
/-- each c of a text by z -/
theorem replace_S (a z : List Nat) (c : Nat) : Txt.replace (S a) (S [c]) (S z) = S (a.flatMap fun x => if x = c then z else [x]) := by
  refine TL.ext_tl ?_
  refine (StrLaws.replace_list (x := S a) (y := S [c]) (z := S z) (by rw [S_len]; exact Nat.le_refl _)).trans ?_
  show StrLaws.replL [c] z a = _
  have go : ∀ l : List Nat, StrLaws.replL [c] z l = l.flatMap fun x => if x = c then z else [x] := fun l => by
    induction l with
    | nil => exact StrLaws.replL_nil
    | cons d r ih =>
      rw [List.flatMap_cons]
      by_cases e : d = c
      · subst e
        rw [StrLaws.replL_hit (by simp) (by simp), if_pos rfl]
        exact congrArg (z ++ ·) ih
      · rw [StrLaws.replL_miss (by simpa using e), if_neg e, ih]
        rfl
  exact go a
end LK

set_option Elab.async false
set_option linter.all false
set_option maxRecDepth 100000
set_option maxHeartbeats 4000000
set_option exponentiation.threshold 3000
namespace K00
open PySem PySem.Spec PyProof.Rows LK NdefX SupX SX
open L2 hiding spCell
def sgns : List (List Nat) := [[47, 47, 61], [47, 47], [60, 61], [62, 61], [61, 61], [33, 61], [43, 61], [45, 61], [42, 61], [43], [45], [42], [60], [62], [61], [40], [41], [91], [93], [123], [125], [44], [58], [46]]
def kwords : List Str := ["False", "None", "True", "and", "as", "break", "class", "continue", "def", "del", "elif", "else", "except", "finally", "for", "global", "if", "in", "is", "mod", "nonlocal", "not", "or", "pass", "raise", "return", "try", "while", "yield"]
def top (i : Nat) : Stmt := PySem.Challenge.pw_pyhold_k00_splits_lines.main.body.getD i (.Pass ⟨0, 0, 0, 0⟩)
structure Txt (K : PySem.W.Frag) (mg : Str → Option Value) : Prop where
  c_MOST_CHARACTERS : GInt mg "MOST_CHARACTERS" 20000
  c_MOST_IN_TEXT : GInt mg "MOST_IN_TEXT" 200
  c_MOST_BRACKETS : GInt mg "MOST_BRACKETS" 20
  c_INTEGER_END : GInt mg "INTEGER_END" (2 ^ 256)
  c_MOST_IN_NAME : GInt mg "MOST_IN_NAME" 30
  c_MOST_DIGITS : GInt mg "MOST_DIGITS" 78
  c_SIGNS : GTup K mg "SIGNS" (sgns.map fun z => V.str (S z))
  c_KEYWORDS : GTup K mg "KEYWORDS" (kwords.map V.str)
  c_CHARACTERS : ∃ z, GStr mg "CHARACTERS" z ∧ ∀ c < 128, okC c = true → c ∈ z.cps.toList
  b_len : mg "len" = none
  b_int : mg "int" = none
  b_range : mg "range" = none
  b_enumerate : mg "enumerate" = none
  b_isinstance : mg "isinstance" = none
  b_list : mg "list" = none
  b_tuple : mg "tuple" = none
  b_bool : mg "bool" = none
  b_ValueError : mg "ValueError" = none
  b_str : mg "str" = none
abbrev s_law_cell : Stmt := top 28
abbrev N_law_cell : List Str := ["script", "k"]
abbrev P_law_cell : List Str := ["script", "k"]
theorem sc_law_cell : FnScope N_law_cell P_law_cell (defScope s_law_cell) := ⟨rfl, rfl, rfl, by decide +kernel, rfl, by decide +kernel, by decide +kernel⟩
abbrev s_law_digits : Stmt := top 29
abbrev N_law_digits : List Str := ["script", "first", "last", "digits", "k", "cell", "turn", "seed"]
abbrev P_law_digits : List Str := ["script", "first", "last"]
theorem sc_law_digits : FnScope N_law_digits P_law_digits (defScope s_law_digits) := ⟨rfl, rfl, rfl, by decide +kernel, rfl, by decide +kernel, by decide +kernel⟩
abbrev s_law_draw : Stmt := top 30
abbrev N_law_draw : List Str := ["box", "many", "at"]
abbrev P_law_draw : List Str := ["box", "many"]
theorem sc_law_draw : FnScope N_law_draw P_law_draw (defScope s_law_draw) := ⟨rfl, rfl, rfl, by decide +kernel, rfl, by decide +kernel, by decide +kernel⟩
section
variable {P : Program} {w : World} {K : PySem.W.Frag} {mg : Str → Option Value} {base : Heap}
theorem ok_draw {f : Addr} {fd : FuncData} (F : Fun K "_law_draw" "_law_draw" s_law_draw f fd) (T : Txt K mg) : FnG P w K mg base CX0 1 f fd P_law_draw (spDraw K) := by
  refine okG0 F sc_law_draw (fun vs H Q E h => ?_) fun cdv A outer s H vs Q E hr hg h => ?_
  · obtain ⟨p, dl, m, rfl, _⟩ := h
    rfl
  · obtain ⟨p, dl, m, rfl, B, hm, k⟩ := h
    obtain ⟨ds, n, hp, hn, hd, hl, hds⟩ := id B
    refine ⟨_, (pss_cons (ps_set (i := 2) sc_law_draw.nd rfl (Or.inl rfl) (pe_ix ix_list (pv 0) pe_int (fun _ _ => rfl)))
  (pss_cons (ps_asg (pe_op op_add (pv 2) pe_int) (pg_sub (pv 0) pe_int set_list))
  (pss_cons (ps_if (pt_cmpR op_lt (pv 2) (pe_callB call_len (by rfl) T.b_len PySem.boot_len (pa_cons (pe_ix ix_list (pv 0) pe_int (fun _ _ => rfl)) pa_nil)) (nomark _))
   (pss_one (ps_ret (pe_op op_mod (pe_callTy call_int1 (by rfl) T.b_int (by decide +kernel) (pa_cons (pe_ix ix_list (pe_ix ix_list (pv 0) pe_int (fun _ _ => rfl)) (pv 2) (fun _ _ => rfl)) pa_nil)) (pv 1))))
   pss_nil)
  (pss_one (ps_ret pe_int))))), ?_⟩
    -- at = box[1]; box[1] = at + 1
    refine ⟨_, rfl, p, _, _, _, rfl, rfl, SqL.of hp, rfl, ?_⟩
    refine ⟨_, rfl, _, _, rfl, rfl, _, rfl, p, _, _, _, rfl, rfl, hp, rfl, ?_⟩
    have npd : dl ≠ p := by
      intro e
      subst e
      rw [hp] at hd
      have e := HO.lst.inj (Option.some.inj hd)
      cases ds with
      | nil => cases e
      | cons d ds => cases (List.cons.inj e).1
    have B' : BoxAt (upd H p (.lst [.ref dl, .int (n + 1)])) p dl := ⟨ds, n + 1, upd_same, by omega, by rw [upd_ne npd]; exact hd, hl, hds⟩
    have kp : Keep p H (upd H p (.lst [.ref dl, .int (n + 1)])) := fun b o e hb => by rw [upd_ne hb]; exact e
    have hd' : upd H p (.lst [.ref dl, .int (n + 1)]) dl = some (.lst (ds.map V.int)) := by rw [upd_ne npd]; exact hd
    -- if at < len(box[0])
    refine ⟨_, rfl, _, rfl, p, _, _, _, rfl, rfl, SqL.of upd_same, rfl, _, _, rfl, .inl ⟨_, SqL.of hd', rfl⟩, ?_⟩
    refine ⟨_, _, rfl, rfl, _, rfl, ?_⟩
    refine ite2 (fun c => ?_) fun c => ?_
    · have c1 : n < (ds.length : Int) := by simpa using c
      have c2 : n.toNat < ds.length := by omega
      have mem := hds _ (List.getElem_mem c2)
      refine ⟨_, rfl, p, _, _, _, rfl, rfl, SqL.of upd_same, rfl, _, rfl, dl, _, _, .int ds[n.toNat], rfl, rfl, SqL.of hd', ?_, .inl ⟨_, rfl, ?_⟩⟩
      · have e : n = ((n.toNat : Nat) : Int) := by omega
        exact at_of e (by simp [c2])
      · refine ⟨_, rfl, _, _, rfl, rfl, hm, ?_⟩
        exact k _ _ (Int.emod_nonneg _ (by omega)) (Int.emod_lt_of_pos _ hm) B' kp
    · exact k 0 _ (Int.le_refl 0) hm B' kp
theorem ok_cell {f : Addr} {fd : FuncData} (F : Fun K "_law_cell" "_law_cell" s_law_cell f fd) (T : Txt K mg) : FnG P w K mg base CX0 1 f fd P_law_cell (spCell K) := by
  refine okG0 F sc_law_cell (fun vs H Q E h => ?_) fun cdv A outer s H vs Q E hr hg h => ?_
  · obtain ⟨a, ns, i, rfl, _⟩ := h
    rfl
  · obtain ⟨a, ns, i, rfl, hs, hi, k⟩ := h
    refine ⟨_, (pss_cons (ps_if (pt_cmpR op_lt (pv 1) (pe_callB call_len (by rfl) T.b_len PySem.boot_len (pa_cons (pv 0) pa_nil)) (nomark _))
   (pss_one (ps_ret (pe_ix ix_list (pv 0) (pv 1) (fun _ _ => rfl))))
   pss_nil)
  (pss_one (ps_ret pe_int))), ?_⟩
    refine ⟨_, rfl, _, rfl, _, _, rfl, .inl ⟨_, hs, rfl⟩, _, _, rfl, rfl, _, rfl, ?_⟩
    refine ite3 (fun c => ?_) fun _ => k 0
    have c1 : i < (ns.length : Int) := by simpa using c
    have c2 : i.toNat < ns.length := by omega
    exact ⟨_, rfl, _, rfl, a, _, _, .int ns[i.toNat], rfl, rfl, hs, at_of (show i = ((i.toNat : Nat) : Int) by omega) (by simp [c2]), k _⟩
theorem ok_digits {f : Addr} {fd : FuncData} (F : Fun K "_law_digits" "_law_digits" s_law_digits f fd) (T : Txt K mg) (U_law_cell : Use P w K mg base CX0 "_law_cell" 1 P_law_cell (spCell K)) : FnG P w K mg base CX0 2 f fd P_law_digits (spDigits K) := by
  refine okG0 F sc_law_digits (fun vs H Q E h => ?_) fun cdv A outer s H vs Q E hr hg h => ?_
  · obtain ⟨a, ns, lo, hi, rfl, _⟩ := h
    rfl
  · obtain ⟨a, ns, lo, hi, rfl, hs, hlo, hhi, k⟩ := h
    refine ⟨_, (pss_cons (ps_set (i := 3) sc_law_digits.nd rfl (Or.inl rfl) (pe_lst pa_nil))
  (pss_cons (ps_for PassesOwn.never rfl (pi_range2 (by rfl) T.b_range (pa_cons (pv 1) (pa_cons (pv 2) pa_nil))) (pg_name (i := 4) sc_law_digits.nd rfl (Or.inl rfl))
   (pss_cons (ps_set (i := 5) sc_law_digits.nd rfl (Or.inl rfl) (pe_use U_law_cell (hr.mono (by decide)) hg rfl (pa_cons (pv 0) (pa_cons (pv 4) pa_nil))))
  (C8.pss_cut (ps_if (pt_cmpR op_lt (pv 5) pe_int (nomark _))
   (pss_one (ps_set (i := 5) sc_law_digits.nd rfl (Or.inl rfl) (pe_op op_sub pe_int (pe_op op_mul pe_int (pv 5)))))
   pss_nil)
  (pss_one (ps_if (pt_cmpR op_ge (pv 5) (pe_op op_pow pe_int pe_int) (nomark _))
   (pss_one (ps_for PassesOwn.never rfl (pi_range1 (by rfl) T.b_range (pa_cons pe_int pa_nil)) (pg_name (i := 6) sc_law_digits.nd rfl (Or.inl rfl))
   (pss_one (ps_if (pt_cmpR op_gt (pv 5) pe_int (nomark _))
   (pss_cons (ps_expr (pe_bm PySem.F.plainAttrs_list PySem.F.slot_list_append PySem.F.type_list_append mt_append (pv 3) (pa_cons (pe_op op_mod (pe_callTy call_int1 (by rfl) T.b_int (by decide +kernel) (pa_cons (pv 5) pa_nil)) pe_int) pa_nil)))
  (pss_one (ps_set (i := 5) sc_law_digits.nd rfl (Or.inl rfl) (pe_op op_fdiv (pv 5) pe_int))))
   pss_nil))))
   (pss_cons (ps_set (i := 7) sc_law_digits.nd rfl (Or.inl rfl) (pe_op op_mod (pe_callTy call_int1 (by rfl) T.b_int (by decide +kernel) (pa_cons (pe_op op_add (pe_op op_add (pe_op op_mul (pv 5) pe_int) (pe_op op_mul (pv 4) pe_int)) pe_int) pa_nil)) pe_int))
  (pss_one (ps_for PassesOwn.never rfl (pi_range1 (by rfl) T.b_range (pa_cons pe_int pa_nil)) (pg_name (i := 6) sc_law_digits.nd rfl (Or.inl rfl))
   (pss_cons (ps_set (i := 7) sc_law_digits.nd rfl (Or.inl rfl) (pe_op op_mod (pe_callTy call_int1 (by rfl) T.b_int (by decide +kernel) (pa_cons (pe_op op_add (pe_op op_add (pe_op op_mul (pv 7) pe_int) (pe_op op_mul pe_int (pv 6))) pe_int) pa_nil)) pe_int))
  (pss_one (ps_expr (pe_bm PySem.F.plainAttrs_list PySem.F.slot_list_append PySem.F.type_list_append mt_append (pv 3) (pa_cons (pe_op op_mod (pe_callTy call_int1 (by rfl) T.b_int (by decide +kernel) (pa_cons (pe_op op_fdiv (pv 7) pe_int) pa_nil)) pe_int) pa_nil)))))))))))))
  (pss_one (ps_ret (pv 3))))), ?_⟩
    refine ⟨by decide, fun dl nd => ?_⟩
    have sz : (4000 : Nat) < sizeLine := by decide
    -- for k in range(first, last)
    refine ⟨_, rfl, _, rfl, _, _, rfl, ⟨by omega, by omega, by omega, by omega⟩, ?_⟩
    refine for_range (lo := (lo : Int)) (n := ((hi : Int) - (lo : Int)).toNat) (fun i σ H1 => ∃ x5 x6 x7 x4, σ = [some (.ref a), some (.int lo), some (.int hi), some (.ref dl), x4, x5, x6, x7] ∧ DigAt H H1 dl (60 * i)) ?_ ?_ ?_
    · exact ⟨none, none, none, none, rfl, [], upd_same, by simp, by simp, Same.new nd⟩
    · rintro i σ H1 hi' ⟨x5, x6, x7, x4, rfl, D⟩
      have S1 : Same H H1 := let ⟨_, _, _, _, z⟩ := D; z
      -- cell = _law_cell(script, k)
      refine ⟨_, rfl, _, rfl, a, ns, _, rfl, S1.seq hs, by omega, fun cell => ?_⟩
      -- if cell < 0: cell = 1 - 2 * cell
      refine ⟨fun σ H2 => ∃ c : Int, σ = [some (.ref a), some (.int lo), some (.int hi), some (.ref dl), some (.int ((lo : Int) + i)), some (.int c), x6, x7] ∧ H2 = H1, ?_, ?_⟩
      · refine ⟨_, rfl, _, _, rfl, rfl, _, rfl, ?_⟩
        refine ite3 (fun _ => ?_) fun _ => ⟨cell, rfl, rfl⟩
        exact ⟨_, rfl, _, _, rfl, rfl, .inl ⟨by decide, by decide⟩, _, _, rfl, rfl, _, rfl, rfl⟩
      · rintro _ _ ⟨c, rfl, rfl⟩
        -- if cell >= 10 ** 18
        refine ⟨_, rfl, _, _, rfl, rfl, ⟨by decide, by decide, by decide⟩, _, _, rfl, rfl, _, rfl, ?_⟩
        refine ite3 (fun hc => ?_) fun hc => ?_
        · refine ⟨_, rfl, by decide, by decide, ?_⟩
          refine for_range (lo := 0) (n := 60) (fun j σ H1 => ∃ (c : Int) (y6 : Option V), σ = [some (.ref a), some (.int lo), some (.int hi), some (.ref dl), some (.int ((lo : Int) + i)), some (.int c), y6, x7] ∧ DigAt H H1 dl (60 * i + j)) ⟨c, x6, rfl, D⟩ ?_ ?_
          · rintro j σ H2 hj ⟨c, y6, rfl, D2⟩
            obtain ⟨ds, hd, hl, _⟩ := id D2
            refine ⟨_, rfl, _, _, rfl, rfl, _, rfl, ?_⟩
            refine ite3 (fun hp => ?_) fun _ => ⟨c, _, rfl, D2.mono (by omega)⟩
            have hp : 0 < c := by simpa using hp
            refine ⟨_, rfl, .inl ⟨rfl, _, SqL.of hd⟩, _, rfl, .inl ⟨_, rfl, _, _, rfl, rfl, (by show (0 : Int) < 1000; decide), dl, _, _, rfl, rfl, hd, (by simp; omega), ?_⟩⟩
            refine ⟨_, rfl, _, _, rfl, rfl, ⟨by decide, by decide⟩, ?_⟩
            exact ⟨_, _, rfl, D2.add hd nd (Int.emod_nonneg _ (by decide)) (Int.emod_lt_of_pos _ (by decide))⟩
          · rintro σ H2 ⟨c, y6, rfl, D2⟩
            exact ⟨_, _, _, _, rfl, D2.mono (by omega)⟩
        · refine ⟨_, rfl, _, _, rfl, rfl, .inr ⟨by decide, by decide⟩, _, rfl, _, _, rfl, rfl, .inr ⟨by decide, by decide⟩, _, _, rfl, rfl, _, _, rfl, rfl, .inl ⟨_, rfl, _, _, rfl, rfl, (by show (0 : Int) < 2147483647; decide), ?_⟩⟩
          refine ⟨_, rfl, by decide, by decide, ?_⟩
          refine for_range (lo := 0) (n := 12) (fun j σ H1 => ∃ (sd : Int) (y6 : Option V), σ = [some (.ref a), some (.int lo), some (.int hi), some (.ref dl), some (.int ((lo : Int) + i)), some (.int c), y6, some (.int sd)] ∧ DigAt H H1 dl (60 * i + j)) ⟨_, x6, rfl, D⟩ ?_ ?_
          · rintro j σ H2 hj ⟨sd, y6, rfl, D2⟩
            obtain ⟨ds, hd, hl, _⟩ := id D2
            refine ⟨_, rfl, _, _, rfl, rfl, .inr ⟨by decide, by decide⟩, _, rfl, _, _, rfl, rfl, .inl ⟨by decide, by decide⟩, _, _, rfl, rfl, _, _, rfl, rfl, .inl ⟨_, rfl, _, _, rfl, rfl, (by show (0 : Int) < 2147483647; decide), ?_⟩⟩
            refine ⟨_, rfl, .inl ⟨rfl, _, SqL.of hd⟩, _, rfl, _, _, rfl, rfl, ⟨by decide, by decide⟩, .inl ⟨_, rfl, _, _, rfl, rfl, (by show (0 : Int) < 1000; decide), dl, _, _, rfl, rfl, hd, (by simp; omega), ?_⟩⟩
            exact ⟨_, _, rfl, D2.add hd nd (Int.emod_nonneg _ (by decide)) (Int.emod_lt_of_pos _ (by decide))⟩
          · rintro σ H2 ⟨sd, y6, rfl, D2⟩
            exact ⟨_, _, _, _, rfl, D2.mono (by omega)⟩
    · rintro σ H1 ⟨x5, x6, x7, x4, rfl, D⟩
      exact ⟨_, rfl, k dl H1 nd (D.mono (by omega))⟩
end

abbrev s_check_characters : Stmt := top 16
abbrev N_check_characters : List Str := ["text", "line", "character"]
abbrev P_check_characters : List Str := ["text"]
theorem sc_check_characters : FnScope N_check_characters P_check_characters (defScope s_check_characters) := ⟨rfl, rfl, rfl, by decide +kernel, rfl, by decide +kernel, by decide +kernel⟩
abbrev s_word_end : Stmt := top 20
abbrev N_word_end : List Str := ["line", "at"]
abbrev P_word_end : List Str := ["line", "at"]
theorem sc_word_end : FnScope N_word_end P_word_end (defScope s_word_end) := ⟨rfl, rfl, rfl, by decide +kernel, rfl, by decide +kernel, by decide +kernel⟩
abbrev s_is_blank : Stmt := top 17
abbrev N_is_blank : List Str := ["line", "words"]
abbrev P_is_blank : List Str := ["line"]
theorem sc_is_blank : FnScope N_is_blank P_is_blank (defScope s_is_blank) := ⟨rfl, rfl, rfl, by decide +kernel, rfl, by decide +kernel, by decide +kernel⟩
abbrev s_add_indents : Stmt := top 18
abbrev N_add_indents : List Str := ["line", "number", "indents", "tokens", "spaces"]
abbrev P_add_indents : List Str := ["line", "number", "indents", "tokens"]
theorem sc_add_indents : FnScope N_add_indents P_add_indents (defScope s_add_indents) := ⟨rfl, rfl, rfl, by decide +kernel, rfl, by decide +kernel, by decide +kernel⟩
section
variable {P : Program} {w : World} {K : PySem.W.Frag} {mg : Str → Option Value} {base : Heap}
/-- texts of allowed signs -/
def spCheck : Sp := fun vs H Q _ => ∃ a, vs = [.str (S a)] ∧ a.length ≤ 20000 ∧ (∀ c ∈ a, okC c = true) ∧ Q .non H
theorem ok_check {f : Addr} {fd : FuncData} (F : Fun K "_check_characters" "_check_characters" s_check_characters f fd) (T : Txt K mg) : FnG P w K mg base CX0 1 f fd P_check_characters spCheck := by
  refine okG0 F sc_check_characters (fun vs H Q E h => ?_) fun cdv A outer s H vs Q E hr hg h => ?_
  · obtain ⟨a, rfl, _⟩ := h
    rfl
  · obtain ⟨a, rfl, hl, hw, k⟩ := h
    obtain ⟨z, gz, hz⟩ := T.c_CHARACTERS
    refine ⟨_, (pss_cons (ps_if (pt_cmpR op_gt (pe_callB call_len (by rfl) T.b_len PySem.boot_len (pa_cons (pv 0) pa_nil)) (pe_globI T.c_MOST_CHARACTERS (by rfl)) (nomark _))
   pss_never
   pss_nil)
  (pss_cons (ps_set (i := 1) sc_check_characters.nd rfl (Or.inl rfl) pe_int)
  (pss_one (ps_for PassesOwn.never rfl (pi_str (pv 0)) (pg_name (i := 2) sc_check_characters.nd rfl (Or.inl rfl))
   (pss_cons (ps_if (pt_cmpR op_notIn_sign (pv 2) (pe_globS gz (by rfl)) (by rfl))
   pss_never
   pss_nil)
  (pss_one (ps_if (pt_cmpR op_eq (pv 2) pe_str (nomark _))
   (pss_one (ps_aug (i := 1) sc_check_characters.nd rfl (Or.inl rfl) pe_int ip_add))
   pss_nil))))))), ?_⟩
    have hs : (S a).length ≤ sizeLine := by rw [S_len]; exact Nat.le_trans hl (by decide)
    refine ⟨_, rfl, _, _, rfl, ⟨hs, rfl⟩, _, _, rfl, rfl, _, rfl, iteFb (decide_eq_false (by rw [S_len]; omega)) ?_⟩
    refine ⟨_, rfl, _, rfl, ?_⟩
    refine for_it walk_str (fun i σ H1 => ∃ (n : Int) (x2 : Option V), σ = [some (.str (S a)), some (.int n), x2] ∧ H1 = H) ⟨1, none, rfl, rfl⟩ (fun _ _ _ _ _ => trivial) ?_ ?_
    · rintro i v σ H1 H2 hi ⟨n, x2, rfl, rfl⟩ ⟨rfl, c, hc, rfl⟩
      have hm : c ∈ a := List.mem_of_getElem? (by simpa [S] using hc)
      have ho := hw c hm
      refine ⟨_, rfl, c, z, rfl, rfl, _, rfl, iteFb (by rw [decide_eq_true (hz c (okC_lt ho) ho)]; rfl) ?_⟩
      refine ⟨_, rfl, rfl, _, rfl, ?_⟩
      refine ite3 (fun _ => ?_) fun _ => ⟨n, _, rfl, rfl⟩
      exact ⟨_, rfl, _, _, rfl, rfl, _, _, rfl, rfl⟩
    · rintro σ H1 ⟨n, x2, rfl, rfl⟩
      exact k
/-- the end of the word that begins at i -/
def spWordEnd : Sp := fun vs H Q _ => ∃ (a : List Nat) (i : Nat), vs = [.str (S a), .int (i : Nat)] ∧ i ≤ a.length ∧ a.length ≤ 20000 ∧ (∀ c ∈ a, c < 128) ∧
  ∀ j : Nat, i ≤ j → j ≤ a.length → (∀ t, i ≤ t → t < j → ∀ c, a[t]? = some c → isW c = true) → (∀ c, a[j]? = some c → isW c = false) → Q (.int (j : Nat)) H
theorem ok_wordend {f : Addr} {fd : FuncData} (F : Fun K "_word_end" "_word_end" s_word_end f fd) (T : Txt K mg) : FnG P w K mg base CX0 1 f fd P_word_end spWordEnd := by
  refine okG0 F sc_word_end (fun vs H Q E h => ?_) fun cdv A outer s H vs Q E hr hg h => ?_
  · obtain ⟨a, i, rfl, _⟩ := h
    rfl
  · obtain ⟨a, i, rfl, hi, hl, hw, k⟩ := h
    refine ⟨_, (pss_cons (ps_while PassesOwn.never (pt_up (PW.pt (pw_and (pt_cmpR op_lt (pv 1) (pe_callB call_len (by rfl) T.b_len PySem.boot_len (pa_cons (pv 0) pa_nil)) (nomark _)) (pw_and1 (PW.pt (pw_or (pt_val (pe_bm0 PySem.F.plainAttrs_str PySem.F.slot_str_isalnum PySem.F.type_str_isalnum mt_isalnum (pe_ix ix_str (pv 0) (pv 1) (fun _ _ => rfl)))) (pw_or1 (pt_cmpR op_eq (pe_ix ix_str (pv 0) (pv 1) (fun _ _ => rfl)) pe_str (nomark _)))))))))
   (pss_one (ps_aug (i := 1) sc_word_end.nd rfl (Or.inl rfl) pe_int ip_add)))
  (pss_one (ps_ret (pv 1)))), ?_⟩
    have hz : (S a).length ≤ sizeLine := by rw [S_len]; exact Nat.le_trans hl (by decide)
    refine while_up (fun σ H1 => ∃ j : Nat, σ = [some (.str (S a)), some (.int j)] ∧ i ≤ j ∧ j ≤ a.length ∧ (∀ t, i ≤ t → t < j → ∀ c, a[t]? = some c → isW c = true) ∧ H1 = H)
      (fun (σ : L2.St) (_ : Hp) => match σ[1]? with | some (some (V.int j)) => (a.length - j).toNat | _ => 0) ⟨i, rfl, Nat.le_refl _, hi, fun t h1 h2 => by omega, rfl⟩ ?_
    rintro σ H1 ⟨j, rfl, hij, hj, hall, rfl⟩
    refine ⟨_, rfl, _, rfl, _, _, rfl, ⟨hz, rfl⟩, _, _, rfl, rfl, _, rfl, ?_⟩
    refine ite3 (fun c => ?_) fun c => ?_
    · have c := of_decide_eq_true c
      rw [S_len] at c
      have hj : j < a.length := by omega
      have hc : a[j]? = some a[j] := List.getElem?_eq_getElem hj
      have hlt := hw _ (List.getElem_mem hj)
      generalize a[j] = x at hc hlt
      have next : isW x = true → ∀ t, i ≤ t → t < j + 1 → ∀ c, a[t]? = some c → isW c = true := fun hx t h1 h2 c hc' => by
        by_cases e : t = j
        · subst e
          rw [hc] at hc'
          exact Option.some.inj hc' ▸ hx
        · exact hall t h1 (by omega) c hc'
      refine ⟨_, rfl, _, rfl, S a, _, x, rfl, rfl, hz, at_S hc, rfl, _, rfl, rfl, trivial, ?_⟩
      have ea : Txt.isalnum ⟨#[x]⟩ = (isW x && x != 95) := alnum1 hlt
      rw [ea]
      by_cases h95 : x = 95
      · subst h95
        refine ⟨_, rfl, iteFb (by decide) ?_⟩
        refine ⟨_, rfl, _, rfl, S a, _, 95, rfl, rfl, hz, at_S hc, rfl, _, rfl, iteTb (by rw [us_S, sign_eq]; exact decide_eq_true rfl) ?_⟩
        exact ⟨_, rfl, _, _, rfl, rfl, ⟨j + 1, rfl, by omega, hj, next (by decide), rfl⟩, by simp; omega⟩
      · rw [bne_iff_ne.mpr h95, Bool.and_true]
        cases hx : isW x with
        | true => exact ⟨_, rfl, iteTb rfl ⟨_, rfl, _, _, rfl, rfl, ⟨j + 1, rfl, by omega, hj, next hx, rfl⟩, by simp; omega⟩⟩
        | false =>
          refine ⟨_, rfl, iteFb rfl ?_⟩
          refine ⟨_, rfl, _, rfl, S a, _, x, rfl, rfl, hz, at_S hc, rfl, _, rfl, iteFb (by rw [us_S, sign_eq]; exact decide_eq_false h95) ?_⟩
          exact ⟨_, rfl, k j hij (by omega) hall fun c hc' => by rw [hc] at hc'; exact Option.some.inj hc' ▸ hx⟩
    · have c := of_decide_eq_false c
      rw [S_len] at c
      exact ⟨_, rfl, k j hij hj hall fun c hc' => by rw [List.getElem?_eq_none (by omega)] at hc'; cases hc'⟩
/-- nothing, or a comment -/
def blankB (a : List Nat) : Bool := match a.dropWhile (· == 32) with
  | [] => true
  | c :: _ => decide (c = 35)
def spBlank : Sp := fun vs H Q _ => ∃ a, vs = [.str (S a)] ∧ a.length ≤ 20000 ∧ Q (.bl (blankB a)) H
theorem ok_blank {f : Addr} {fd : FuncData} (F : Fun K "_is_blank" "_is_blank" s_is_blank f fd) (T : Txt K mg) : FnG P w K mg base CX0 1 f fd P_is_blank spBlank := by
  refine okG0 F sc_is_blank (fun vs H Q E h => ?_) fun cdv A outer s H vs Q E hr hg h => ?_
  · obtain ⟨a, rfl, _⟩ := h
    rfl
  · obtain ⟨a, rfl, hl, k⟩ := h
    refine ⟨_, (pss_cons (ps_set (i := 1) sc_is_blank.nd rfl (Or.inl rfl) (pe_bm PySem.F.plainAttrs_str PySem.F.slot_str_lstrip PySem.F.type_str_lstrip mt_lstripChars (pv 0) (pa_cons pe_str pa_nil)))
  (pss_one (ps_ret (pe_or (pe_cmpR op_eq (pv 1) pe_str (nomark _)) (pe_one (pe_bm PySem.F.plainAttrs_str PySem.F.slot_str_startswith PySem.F.type_str_startswith mt_startswith (pv 1) (pa_cons pe_str pa_nil))))))), ?_⟩
    have e0 : Txt.lstripChars (S a) " " = S (a.dropWhile (· == 32)) := by rw [sp_S]; exact lstrip_sp a
    refine ⟨_, rfl, rfl, _, _, rfl, rfl, by rw [S_len]; exact Nat.le_trans hl (by decide), ?_⟩
    rw [e0]
    unfold blankB at k
    cases hd : a.dropWhile (· == 32) with
    | nil =>
      rw [hd] at k
      exact ⟨_, rfl, rfl, _, rfl, iteTb (decide_eq_true rfl) k⟩
    | cons c r =>
      rw [hd] at k
      refine ⟨_, rfl, rfl, _, rfl, iteFb (decide_eq_false fun e => ?_) ?_⟩
      · have : c :: r = [] := S_inj (b := []) (V.str.inj e)
        cases this
      · refine ⟨_, rfl, rfl, _, _, rfl, rfl, ?_⟩
        rw [hash_S, starts1]
        exact k
/-- the spaces ahead -/
def spaces (a : List Nat) : Nat := a.length - (a.dropWhile (· == 32)).length
def indT (m : Int) : PyData := .tuple [.str "indent", .str "", .int m]
def dedT (m : Int) : PyData := .tuple [.str "dedent", .str "", .int m]
/-- what the heap keeps beside the two lists -/
def Keep2 (p q : Addr) (H H' : Hp) : Prop := ∀ b o, H b = some o → b ≠ p → b ≠ q → H' b = some o
def AtIn (K : PySem.W.Frag) (ip tp : Addr) (xs : List Int) (ds : List PyData) (H0 H : Hp) : Prop := H ip = some (.lst (xs.map V.int)) ∧ ListAt K H tp ds ∧ Keep2 ip tp H0 H
def spIndents (K : PySem.W.Frag) (C : Addr) : Sp := fun vs H Q E => ∃ (a : List Nat) (m : Int) (ip tp : Addr) (xs : List Int) (ds : List PyData), vs = [.str (S a), .int m, .ref ip, .ref tp] ∧ a.length ≤ 20000 ∧ m.natAbs < 2 ^ 60 ∧ ip ≠ tp ∧ AtIn K ip tp xs ds H H ∧
  xs.length ≤ 20000 ∧ ds.length ≤ 100000 ∧ xs[0]? = some 0 ∧
  (∀ (k : Nat) (t : Int), xs[k]? = some t → k + 1 = xs.length → t < (spaces a : Nat) → ∀ H', AtIn K ip tp (xs ++ [(spaces a : Int)]) (ds ++ [indT m]) H H' → Q .non H') ∧
  (∀ (k : Nat) (t : Int), xs[k]? = some t → (∀ i u, k < i → xs[i]? = some u → ((spaces a : Nat) : Int) < u) → ¬ ((spaces a : Nat) : Int) < t → (k + 1 = xs.length → ¬ t < ((spaces a : Nat) : Int)) →
    ∀ H', AtIn K ip tp (xs.take (k + 1)) (ds ++ List.replicate (xs.length - (k + 1)) (dedT m)) H H' →
      (t = ((spaces a : Nat) : Int) → Q .non H') ∧ (t ≠ ((spaces a : Nat) : Int) → ∀ d, H' d = none → E (.ref C) (some d) (upd H' d (faultD m "unmatched indentation"))))
theorem ok_indents {C B : Addr} {f : Addr} {fd : FuncData} (F : Fun K "_add_indents" "_add_indents" s_add_indents f fd) (T : Txt K mg) (U_Fault : UseF P w K mg base C B) : FnG P w K mg base (L2.CX P w) 3 f fd P_add_indents (spIndents K C) := by
  refine okG F sc_add_indents (fun vs H Q E h => ?_) fun cdv A outer s H vs Q E hr hg h => ?_
  · obtain ⟨a, m, ip, tp, xs, ds, rfl, _⟩ := h
    rfl
  · obtain ⟨a, m, ip, tp, xs, ds, rfl, hl, hm, nit, ⟨hi, L, _⟩, hxl, hdl, h0, kI, kD⟩ := h
    refine ⟨_, (pss_cons (ps_set (i := 4) sc_add_indents.nd rfl (Or.inl rfl) (pe_op op_sub (pe_callB call_len (by rfl) T.b_len PySem.boot_len (pa_cons (pv 0) pa_nil)) (pe_callB call_len (by rfl) T.b_len PySem.boot_len (pa_cons (pe_bm PySem.F.plainAttrs_str PySem.F.slot_str_lstrip PySem.F.type_str_lstrip mt_lstripChars (pv 0) (pa_cons pe_str pa_nil)) pa_nil))))
  (C8.pss_cut (ps_if (pt_cmpR op_gt (pv 4) (pe_ix ix_list (pv 2) (pe_un un_neg pe_int) (fun _ _ => rfl)) (nomark _))
   (pss_cons (ps_expr (pe_bm PySem.F.plainAttrs_list PySem.F.slot_list_append PySem.F.type_list_append mt_append (pv 2) (pa_cons (pv 4) pa_nil)))
  (pss_one (ps_expr (pe_bm PySem.F.plainAttrs_list PySem.F.slot_list_append PySem.F.type_list_append mt_append (pv 3) (pa_cons (pe_tup (pa_cons pe_str (pa_cons pe_str (pa_cons (pv 1) pa_nil)))) pa_nil)))))
   pss_nil)
  (pss_cons (ps_while (passes_of rfl) (pt_up (pt_cmpR op_lt (pv 4) (pe_ix ix_list (pv 2) (pe_un un_neg pe_int) (fun _ _ => rfl)) (nomark _)))
   (pss_cons (ps_expr (pe_bm0 PySem.F.plainAttrs_list PySem.F.slot_list_pop PySem.F.type_list_pop mt_pop (pv 2)))
  (pss_one (ps_expr (pe_bm PySem.F.plainAttrs_list PySem.F.slot_list_append PySem.F.type_list_append mt_append (pv 3) (pa_cons (pe_tup (pa_cons pe_str (pa_cons pe_str (pa_cons (pv 1) pa_nil)))) pa_nil))))))
  (pss_one (ps_if (pt_cmpR op_ne (pv 4) (pe_ix ix_list (pv 2) (pe_un un_neg pe_int) (fun _ _ => rfl)) (nomark _))
   (pss_one (ps_raiseF U_Fault rfl (takes_of rfl rfl rfl rfl) (hr.mono (by decide)) rfl (pa_cons (pv 1) (pa_cons pe_str pa_nil))))
   pss_nil))))), ?_⟩
    have hz : (S a).length ≤ sizeLine := by rw [S_len]; exact Nat.le_trans hl (by decide)
    have e0 : Txt.lstripChars (S a) " " = S (a.dropWhile (· == 32)) := by rw [sp_S]; exact lstrip_sp a
    have hdw : (a.dropWhile (· == 32)).length ≤ a.length := (List.dropWhile_suffix _).length_le
    refine ⟨_, rfl, _, _, rfl, ⟨hz, rfl⟩, ?_⟩
    refine ⟨_, rfl, rfl, _, _, rfl, rfl, hz, ?_⟩
    rw [e0]
    refine ⟨_, _, rfl, ⟨by rw [S_len]; exact Nat.le_trans (Nat.le_trans hdw hl) (by decide), rfl⟩, _, _, rfl, rfl, ?_⟩
    have e1 : (((S a).length : Nat) : Int) - (((S (a.dropWhile (· == 32))).length : Nat) : Int) = ((spaces a : Nat) : Int) := by
      rw [S_len, S_len]; unfold spaces; omega
    dsimp only
    rw [e1]
    have hpos : 0 < xs.length := by
      cases xs with
      | nil => simp at h0
      | cons => simp
    have top : ∀ (ys : List Int), 0 < ys.length → ∃ t, ys[ys.length - 1]? = some t ∧ atI (ys.map V.int) (-1) = some (.int t) := fun ys hy => by
      rcases List.eq_nil_or_concat ys with rfl | ⟨zs, t, rfl⟩
      · simp at hy
      · refine ⟨t, by simp, ?_⟩
        rw [List.concat_eq_append, List.map_append]
        exact atI_last _ _
    have tokApp : ∀ (x : Str) (ys : List Int) (es : List PyData) (H1 : Hp), AtIn K ip tp ys es H H1 → ∀ u, H1 u = none → ∀ zs, H1 tp = some (.lst zs) → AtIn K ip tp ys (es ++ [.tuple [.str x, .str "", .int m]]) H (upd (upd H1 u (.tup [.str x, .str "", .int m])) tp (.lst (zs ++ [.ref u]))) := fun x ys es H1 hA u hu zs hzs => by
      obtain ⟨g1, g2, g3⟩ := hA
      have S1 := Same.new (o := .tup [.str x, .str "", .int m]) hu
      refine ⟨?_, listAt_app (listAt_mono g2 S1) (S1 _ _ hzs) (Dt.made hu (.cons (.str _) (.cons (.str _) (.cons (.int _) .nil)))), fun b o hb n1 n2 => ?_⟩
      · rw [upd_ne nit]; exact S1 _ _ g1
      · rw [upd_ne n2]; exact S1 _ _ (g3 b o hb n1 n2)
    have idxSet : ∀ (ys ws : List Int) (es : List PyData) (H1 : Hp), AtIn K ip tp ys es H H1 → AtIn K ip tp ws es H (upd H1 ip (.lst (ws.map V.int))) := fun ys ws es H1 hA => by
      obtain ⟨g1, g2, g3⟩ := hA
      refine ⟨upd_same, listAt_upd g2 (Ne.symm nit) g1, fun b o hb n1 n2 => ?_⟩
      rw [upd_ne n1]; exact g3 b o hb n1 n2
    obtain ⟨t, ht, hat⟩ := top xs hpos
    have A0 : AtIn K ip tp xs ds H H := ⟨hi, L, fun b o hb _ _ => hb⟩
    refine ⟨fun σ H1 => σ = [some (.str (S a)), some (.int m), some (.ref ip), some (.ref tp), some (.int (spaces a : Nat))] ∧ ((t < (spaces a : Nat) ∧ AtIn K ip tp (xs ++ [(spaces a : Int)]) (ds ++ [indT m]) H H1) ∨ (¬ t < (spaces a : Nat) ∧ H1 = H)), ?_, ?_⟩
    · refine ⟨_, rfl, _, rfl, _, rfl, ip, _, _, _, rfl, rfl, SqL.of hi, hat, _, _, rfl, rfl, _, rfl, ?_⟩
      refine ite3 (fun c => ?_) fun c => ⟨rfl, .inr ⟨of_decide_eq_false c, rfl⟩⟩
      have c := of_decide_eq_true c
      refine ⟨_, rfl, .inl ⟨rfl, _, SqL.of hi⟩, _, rfl, ip, _, _, rfl, rfl, hi, by rw [List.length_map]; exact Nat.lt_of_le_of_lt hxl (by decide), ?_⟩
      have A1 := idxSet xs (xs ++ [(spaces a : Int)]) ds H A0
      rw [List.map_append] at A1
      have A1 : AtIn K ip tp (xs ++ [(spaces a : Int)]) ds H (upd H ip (.lst (xs.map V.int ++ [V.int (spaces a : Nat)]))) := A1
      generalize upd H ip _ = H1 at A1
      obtain ⟨zs, ez, az⟩ := id A1.2.1
      have lz := az.length
      refine ⟨_, rfl, .inl ⟨rfl, _, SqL.of ez⟩, _, rfl, sz_3, fun u hu => ⟨tp, _, _, rfl, rfl, Same.new hu _ _ ez, Nat.lt_of_le_of_lt (show zs.length ≤ 100000 by omega) (by decide), ?_⟩⟩
      exact ⟨rfl, .inl ⟨c, tokApp "indent" _ _ _ A1 u hu zs ez⟩⟩
    rintro _ H1 ⟨rfl, hS⟩
    rcases hS with ⟨c, A1⟩ | ⟨c, rfl⟩
    · have hat1 : atI ((xs ++ [(spaces a : Int)]).map V.int) (-1) = some (.int (spaces a : Nat)) := by rw [List.map_append]; exact atI_last _ _
      refine while_up (fun σ H2 => σ = [some (.str (S a)), some (.int m), some (.ref ip), some (.ref tp), some (.int (spaces a : Nat))] ∧ H2 = H1) (fun _ _ => 0) ⟨rfl, rfl⟩ ?_
      rintro σ H2 ⟨rfl, rfl⟩
      refine ⟨_, rfl, _, rfl, _, rfl, ip, _, _, _, rfl, rfl, SqL.of A1.1, hat1, _, _, rfl, rfl, _, rfl, iteFb (decide_eq_false (by omega)) ?_⟩
      refine ⟨_, rfl, _, rfl, _, rfl, ip, _, _, _, rfl, rfl, SqL.of A1.1, hat1, rfl, _, rfl, iteFb (by rw [decide_eq_true rfl]; rfl) ?_⟩
      exact kI _ t ht (by omega) c _ A1
    · refine while_up (fun σ H2 => σ = [some (.str (S a)), some (.int m), some (.ref ip), some (.ref tp), some (.int (spaces a : Nat))] ∧ ∃ k, k + 1 ≤ xs.length ∧ (∀ i u, k < i → xs[i]? = some u → ((spaces a : Nat) : Int) < u) ∧ AtIn K ip tp (xs.take (k + 1)) (ds ++ List.replicate (xs.length - (k + 1)) (dedT m)) H1 H2)
        (fun (_ : L2.St) (H2 : Hp) => match H2 ip with | some (.lst ys) => ys.length | _ => 0) ⟨rfl, xs.length - 1, by omega, fun i u hi' hu => ?_, ?_⟩ ?_
      · rw [List.getElem?_eq_none (by omega)] at hu; cases hu
      · rw [show xs.length - 1 + 1 = xs.length by omega, List.take_length, Nat.sub_self, List.replicate_zero, List.append_nil]
        exact A0
      rintro σ H2 ⟨rfl, k, hk, hall, A2⟩
      have hkx : xs[k]? = some xs[k] := List.getElem?_eq_getElem (by omega)
      generalize xs[k] = u at hkx
      have htk : xs.take (k + 1) = xs.take k ++ [u] := by
        rw [List.take_add_one, hkx]; rfl
      have hat2 : atI ((xs.take (k + 1)).map V.int) (-1) = some (.int u) := by rw [htk, List.map_append]; exact atI_last _ _
      have hlen : (xs.take (k + 1)).length = k + 1 := by rw [List.length_take]; omega
      refine ⟨_, rfl, _, rfl, _, rfl, ip, _, _, _, rfl, rfl, SqL.of A2.1, hat2, _, _, rfl, rfl, _, rfl, ?_⟩
      refine ite3 (fun c2 => ?_) fun c2 => ?_
      · have c2 := of_decide_eq_true c2
        obtain ⟨j, rfl⟩ : ∃ j, k = j + 1 := by
          cases k with
          | zero => rw [h0] at hkx; have := Option.some.inj hkx; omega
          | succ j => exact ⟨j, rfl⟩
        have hlast : ((xs.take (j + 1 + 1)).map V.int)[((xs.take (j + 1 + 1)).map V.int).length - 1]? = some (V.int u) := by
          have hlt : (xs.take (j + 1)).length = j + 1 := by rw [List.length_take]; omega
          have hget : (xs.take (j + 1 + 1))[j + 1]? = some u := by rw [htk, List.getElem?_append_right (by omega), hlt, Nat.sub_self]; rfl
          rw [List.length_map, hlen, List.getElem?_map, show j + 1 + 1 - 1 = j + 1 from rfl, hget]
          rfl
        refine ⟨_, rfl, .inl ⟨rfl, _, SqL.of A2.1⟩, ip, _, _, rfl, rfl, A2.1, hlast, ?_⟩
        have ed : ((xs.take (j + 1 + 1)).map V.int).dropLast = (xs.take (j + 1)).map V.int := by rw [htk, List.map_append]; simp
        rw [ed]
        have A3 : AtIn K ip tp (xs.take (j + 1)) (ds ++ List.replicate (xs.length - (j + 1 + 1)) (dedT m)) H1 (upd H2 ip (.lst ((xs.take (j + 1)).map V.int))) := idxSet _ _ _ _ A2
        have hH2 := A2.1
        generalize upd H2 ip _ = H3 at A3
        obtain ⟨zs, ez, az⟩ := id A3.2.1
        have lz := az.length
        rw [List.length_append, List.length_replicate] at lz
        refine ⟨_, rfl, .inl ⟨rfl, _, SqL.of ez⟩, _, rfl, sz_3, fun u2 hu2 => ⟨tp, _, _, rfl, rfl, Same.new hu2 _ _ ez, Nat.lt_of_le_of_lt (show zs.length ≤ 120000 by omega) (by decide), ?_⟩⟩
        have A4 := tokApp "dedent" _ _ _ A3 u2 hu2 zs ez
        have er : ds ++ List.replicate (xs.length - (j + 1 + 1)) (dedT m) ++ [PyData.tuple [.str "dedent", .str "", .int m]] = ds ++ List.replicate (xs.length - (j + 1)) (dedT m) := by
          rw [List.append_assoc, show xs.length - (j + 1) = (xs.length - (j + 1 + 1)) + 1 by omega, List.replicate_succ']
          rfl
        rw [er] at A4
        refine ⟨⟨rfl, j, by omega, fun i u' hi' hu' => ?_, A4⟩, ?_⟩
        · by_cases e : i = j + 1
          · subst e; rw [hkx] at hu'; exact Option.some.inj hu' ▸ c2
          · exact hall i u' (by omega) hu'
        · rw [A4.1, hH2]
          simp only [List.length_map, List.length_take]
          omega
      · have c2 := of_decide_eq_false c2
        obtain ⟨g1, g2⟩ := kD k u hkx hall c2 (fun e => by
          have : t = u := by
            rw [show xs.length - 1 = k by omega] at ht
            rw [hkx] at ht
            exact (Option.some.inj ht).symm
          rw [← this]; exact c) H2 A2
        refine ⟨_, rfl, _, rfl, _, rfl, ip, _, _, _, rfl, rfl, SqL.of A2.1, hat2, rfl, _, rfl, ?_⟩
        refine ite3 (fun c3 => ?_) fun c3 => ?_
        · have ne : u ≠ ((spaces a : Nat) : Int) := fun e => by
            subst e
            rw [decide_eq_true rfl] at c3
            cases c3
          exact ⟨_, rfl, m, _, rfl, by omega, by decide +kernel, fun d hd => g2 ne d hd⟩
        · refine g1 ?_
          have c3 : decide (V.int ((spaces a : Nat) : Int) = V.int u) = true := by simpa using c3
          exact (V.int.inj (of_decide_eq_true c3)).symm
end

abbrev s_add_text : Stmt := top 23
abbrev N_add_text : List Str := ["line", "at", "number", "tokens", "quote", "characters"]
abbrev P_add_text : List Str := ["line", "at", "number", "tokens"]
theorem sc_add_text : FnScope N_add_text P_add_text (defScope s_add_text) := ⟨rfl, rfl, rfl, by decide +kernel, rfl, by decide +kernel, by decide +kernel⟩
abbrev s_escaped : Stmt := top 24
abbrev N_escaped : List Str := ["line", "at", "number"]
abbrev P_escaped : List Str := ["line", "at", "number"]
theorem sc_escaped : FnScope N_escaped P_escaped (defScope s_escaped) := ⟨rfl, rfl, rfl, by decide +kernel, rfl, by decide +kernel, by decide +kernel⟩
section
variable {P : Program} {w : World} {K : PySem.W.Frag} {mg : Str → Option Value} {base : Heap}
/-! a text between quotes -/
def escOf (e : Nat) : Option Nat := if e = 92 then some 92 else if e = 34 then some 34 else if e = 39 then some 39 else if e = 110 then some 10 else none
inductive TR
  | done (acc rest : List Nat)
  | bad (w : Str)
def scan (q : Nat) : List Nat → List Nat → TR
  | [], _ => .bad "text not closed"
  | c :: r, acc => if c = q then .done acc r else if c = 92 then
      (match r with
      | [] => .bad "text not closed"
      | e :: r' => match escOf e with
        | some x => scan q r' (acc ++ [x])
        | none => .bad "invalid escape")
    else scan q r (acc ++ [c])
theorem scan_q {q : Nat} {r acc : List Nat} : scan q (q :: r) acc = .done acc r := by rw [scan.eq_def]; exact if_pos rfl
theorem scan_c {q c : Nat} {r acc : List Nat} (h : c ≠ q) (h2 : c ≠ 92) : scan q (c :: r) acc = scan q r (acc ++ [c]) := by
  rw [scan.eq_def]
  show (if c = q then _ else if c = 92 then _ else _) = _
  rw [if_neg h, if_neg h2]
theorem scan_e {q e : Nat} {r acc : List Nat} (h : 92 ≠ q) : scan q (92 :: e :: r) acc = match escOf e with
    | some x => scan q r (acc ++ [x])
    | none => .bad "invalid escape" := by
  rw [scan.eq_def]
  show (if 92 = q then _ else if 92 = 92 then _ else _) = _
  rw [if_neg h, if_pos rfl]
theorem scan_e0 {q : Nat} {acc : List Nat} (h : 92 ≠ q) : scan q [92] acc = .bad "text not closed" := by
  rw [scan.eq_def]
  show (if 92 = q then _ else if 92 = 92 then _ else _) = _
  rw [if_neg h, if_pos rfl]
theorem bs_S : ("\\" : Str) = S [92] := by decide +kernel
theorem dq_S : ("\"" : Str) = S [34] := by decide +kernel
theorem sq_S : ("'" : Str) = S [39] := by decide +kernel
theorem n_S : ("n" : Str) = S [110] := by decide +kernel
theorem esc_val (e : Nat) : valV (txtKV [("\\", "\\"), ("\"", "\""), ("'", "'"), ("n", "\n")]) (.inr (S [e])) = (escOf e).map fun x => .str (S [x]) := by
  rw [bs_S, dq_S, sq_S, n_S, nl_S]
  have ne : ∀ {c : Nat}, e ≠ c → ¬ (Sum.inr (S [c]) : Key) = .inr (S [e]) := fun h h2 => h (by have := S_inj (Sum.inr.inj h2); simpa using this.symm)
  unfold escOf txtKV
  by_cases h1 : e = 92
  · subst h1; exact valV_pos rfl
  refine (valV_neg (p := ((Sum.inr (S [92]) : Key), _)) (ne h1)).trans ?_
  rw [if_neg h1]
  by_cases h2 : e = 34
  · subst h2; exact valV_pos rfl
  refine (valV_neg (p := ((Sum.inr (S [34]) : Key), _)) (ne h2)).trans ?_
  rw [if_neg h2]
  by_cases h3 : e = 39
  · subst h3; exact valV_pos rfl
  refine (valV_neg (p := ((Sum.inr (S [39]) : Key), _)) (ne h3)).trans ?_
  rw [if_neg h3]
  by_cases h4 : e = 110
  · subst h4; exact valV_pos rfl
  refine (valV_neg (p := ((Sum.inr (S [110]) : Key), _)) (ne h4)).trans ?_
  rw [if_neg h4]
  rfl
/-- what a raised fault at line m leaves -/
def BadAt (C : Addr) (H : Hp) (E : XK) (m : Int) (r : Str) : Prop := ∀ d H', H d = none → Same H H' → H' d = some (faultD m r) → E (.ref C) (some d) H'
theorem BadAt.mono {C : Addr} {H H1 : Hp} {E : XK} {m : Int} {r : Str} (h : BadAt C H E m r) (S1 : Same H H1) : BadAt C H1 E m r := fun d H' hd S2 e => h d H' (by
  cases e1 : H d with
  | none => rfl
  | some o => rw [S1 _ _ e1] at hd; cases hd) (S1.trans S2) e
theorem BadAt.now {C : Addr} {H : Hp} {E : XK} {m : Int} {r : Str} (h : BadAt C H E m r) : ∀ d, H d = none → E (.ref C) (some d) (upd H d (faultD m r)) := fun d hd => h d _ hd (Same.new hd) upd_same
def PutsE (C : Addr) (H : Hp) (Q : VK) (E : XK) (m : Int) : Option Nat → Prop
  | none => BadAt C H E m "text not closed"
  | some e => match escOf e with
    | some x => Q (.str (S [x])) H
    | none => BadAt C H E m "invalid escape"
def spEsc (C : Addr) : Sp := fun vs H Q E => ∃ (a : List Nat) (j : Nat) (m : Int), vs = [.str (S a), .int (j : Nat), .int m] ∧ j ≤ a.length ∧ a.length ≤ 20000 ∧ m.natAbs < 2 ^ 60 ∧ PutsE C H Q E m a[j]?
theorem ok_escaped {C B : Addr} {f : Addr} {fd : FuncData} (F : Fun K "_escaped" "_escaped" s_escaped f fd) (T : Txt K mg) (U_Fault : UseF P w K mg base C B) (U_ESCAPES : UseD P w K mg "ESCAPES" (txtKV [("\\", "\\"), ("\"", "\""), ("'", "'"), ("n", "\n")])) :
    FnG P w K mg base (L2.CX P w) 3 f fd P_escaped (spEsc C) := by
  refine okG F sc_escaped (fun vs H Q E h => ?_) fun cdv A outer s H vs Q E hr hg h => ?_
  · obtain ⟨a, j, m, rfl, _⟩ := h
    rfl
  · obtain ⟨a, j, m, rfl, hj, hal, hm, k⟩ := h
    obtain ⟨aD_ESCAPES, gD_ESCAPES, kD⟩ := U_ESCAPES.ex
    refine ⟨_, (pss_cons (ps_if (pt_cmpR op_eq (pv 1) (pe_callB call_len (by rfl) T.b_len PySem.boot_len (pa_cons (pv 0) pa_nil)) (nomark _))
   (pss_one (ps_raiseF U_Fault rfl (takes_of rfl rfl rfl rfl) (hr.mono (by decide)) rfl (pa_cons (pv 2) (pa_cons pe_str pa_nil))))
   pss_nil)
  (pss_cons (ps_if (pt_cmp (pc_dnotinK (pe_ix ix_str (pv 0) (pv 1) (fun _ _ => rfl)) (pe_glob (v := .ref aD_ESCAPES) (by rfl) gD_ESCAPES rfl)))
   (pss_one (ps_raiseF U_Fault rfl (takes_of rfl rfl rfl rfl) (hr.mono (by decide)) rfl (pa_cons (pv 2) (pa_cons pe_str pa_nil))))
   pss_nil)
  (pss_one (ps_ret (pe_dgetK (pe_glob (v := .ref aD_ESCAPES) (by rfl) gD_ESCAPES rfl) (pe_ix ix_str (pv 0) (pv 1) (fun _ _ => rfl)) (fun _ _ => rfl)))))), ?_⟩
    have hz : (S a).length ≤ sizeLine := by rw [S_len]; exact Nat.le_trans hal (by decide)
    have hm2 : m.natAbs < 2 ^ 100 := Nat.lt_of_lt_of_le hm (by decide)
    refine ⟨_, rfl, _, rfl, _, _, rfl, ⟨hz, rfl⟩, rfl, _, rfl, ?_⟩
    by_cases e : j = a.length
    · rw [e, List.getElem?_eq_none (Nat.le_refl _)] at k
      refine iteTb (by rw [S_len, e]; exact decide_eq_true rfl) ?_
      exact ⟨_, rfl, m, _, rfl, hm2, by decide +kernel, BadAt.now k⟩
    · have hlt : j < a.length := by omega
      have hc : a[j]? = some a[j] := List.getElem?_eq_getElem hlt
      generalize a[j] = c at hc
      rw [hc] at k
      refine iteFb (by rw [S_len]; exact decide_eq_false fun h => e (by have := V.int.inj h; omega)) ?_
      refine ⟨_, rfl, _, rfl, S a, _, c, rfl, rfl, hz, at_S hc, aD_ESCAPES, _, .inr (S [c]), rfl, kD, rfl, _, rfl, ?_⟩
      have ev := esc_val c
      have k : (match escOf c with | some x => Q (.str (S [x])) H | none => BadAt C H E m "invalid escape") := k
      cases ex : escOf c with
      | none =>
        rw [ex] at ev k
        refine iteTb (by rw [ev]; rfl) ?_
        exact ⟨_, rfl, m, _, rfl, hm2, by decide +kernel, BadAt.now k⟩
      | some x =>
        rw [ex] at ev k
        refine iteFb (by rw [ev]; rfl) ?_
        exact ⟨_, rfl, _, rfl, S a, _, c, rfl, rfl, hz, at_S hc, aD_ESCAPES, _, .inr (S [c]), _, rfl, kD, rfl, ev, k⟩
/-! _add_text -/
def textT (acc : List Nat) (m : Int) : PyData := .tuple [.str "text", .str (S acc), .int m]
def isQ (q : Nat) : Prop := q = 34 ∨ q = 39
theorem isQ.ne {q : Nat} (h : isQ q) : 92 ≠ q ∧ q ≠ 32 ∧ q ≠ 35 ∧ q ≠ 95 ∧ q < 128 ∧ isW q = false ∧ q ≠ 10 := by
  rcases h with rfl | rfl <;> decide
def chV (cs : List Nat) : List V := (cs.map fun c => (⟨#[c]⟩ : Str)).map V.str
theorem chV_app (a b : List Nat) : chV (a ++ b) = chV a ++ chV b := by unfold chV; rw [List.map_append, List.map_append]
theorem chV_len (a : List Nat) : (chV a).length = a.length := by unfold chV; simp
theorem one_len : ∀ cs : List Nat, ((cs.map fun c => (⟨#[c]⟩ : Str)).map (·.length)).sum = cs.length
  | [] => rfl
  | c :: r => by rw [List.map_cons, List.map_cons, List.sum_cons, one_len r]; simp [Str.length]; omega
theorem joinL_one : ∀ cs : List Nat, TL.joinL [] (cs.map fun c => [c]) = cs
  | [] => rfl
  | [c] => rfl
  | c :: d :: r => by
    show [c] ++ ([] ++ TL.joinL [] ((d :: r).map fun c => [c])) = c :: d :: r
    rw [joinL_one (d :: r)]; rfl
theorem join_S1 (cs : List Nat) : Txt.join "" (cs.map fun c => (⟨#[c]⟩ : Str)) = S cs := by
  have e : (cs.map fun c => (⟨#[c]⟩ : Str)) = (cs.map fun c => [c]).map S := by rw [List.map_map]; rfl
  rw [e, show ("" : Str) = S [] by decide +kernel, join_S, joinL_one]
def PutsT (K : PySem.W.Frag) (C : Addr) (tp : Addr) (m : Int) (ds : List PyData) (n : Nat) (H : Hp) (Q : VK) (E : XK) : TR → Prop
  | .bad w => BadAt C H E m w
  | .done acc rest => if 200 < acc.length then BadAt C H E m "text too long" else ∀ H', ListAt K H' tp (ds ++ [textT acc m]) → Keep tp H H' → Q (.int ((n - rest.length : Nat) : Int)) H'
def spText (K : PySem.W.Frag) (C : Addr) : Sp := fun vs H Q E => ∃ (a : List Nat) (i q : Nat) (m : Int) (tp : Addr) (ds : List PyData), vs = [.str (S a), .int (i : Nat), .int m, .ref tp] ∧ a.length ≤ 20000 ∧ a[i]? = some q ∧ isQ q ∧ (∀ c ∈ a, c < 128) ∧
  ListAt K H tp ds ∧ ds.length ≤ 90000 ∧ m.natAbs < 2 ^ 60 ∧ PutsT K C tp m ds a.length H Q E (scan q (a.drop (i + 1)) [])
theorem ok_addtext {C B : Addr} {f : Addr} {fd : FuncData} (F : Fun K "_add_text" "_add_text" s_add_text f fd) (T : Txt K mg) (U_escaped : Use P w K mg base (L2.CX P w) "_escaped" 3 P_escaped (spEsc C)) (U_Fault : UseF P w K mg base C B) :
    FnG P w K mg base (L2.CX P w) 4 f fd P_add_text (spText K C) := by
  refine okG F sc_add_text (fun vs H Q E h => ?_) fun cdv A outer s H vs Q E hr hg h => ?_
  · obtain ⟨a, i, q, m, tp, ds, rfl, _⟩ := h
    rfl
  · obtain ⟨a, i, q, m, tp, ds, rfl, hal, hq, iq, hlt, L, hdl, hm, k⟩ := h
    refine ⟨_, (pss_cons (ps_set (i := 4) sc_add_text.nd rfl (Or.inl rfl) (pe_ix ix_str (pv 0) (pv 1) (fun _ _ => rfl)))
  (pss_cons (ps_set (i := 5) sc_add_text.nd rfl (Or.inl rfl) (pe_lst pa_nil))
  (pss_cons (ps_aug (i := 1) sc_add_text.nd rfl (Or.inl rfl) pe_int ip_add)
  (pss_cons (ps_while (passes_of rfl) (pt_up (PW.pt (pw_and (pt_cmpR op_lt (pv 1) (pe_callB call_len (by rfl) T.b_len PySem.boot_len (pa_cons (pv 0) pa_nil)) (nomark _)) (pw_and1 (pt_cmpR op_ne (pe_ix ix_str (pv 0) (pv 1) (fun _ _ => rfl)) (pv 4) (nomark _))))))
   (pss_cons (ps_if (pt_cmpR op_eq (pe_ix ix_str (pv 0) (pv 1) (fun _ _ => rfl)) pe_str (nomark _))
   (pss_cons (ps_aug (i := 1) sc_add_text.nd rfl (Or.inl rfl) pe_int ip_add)
  (pss_one (ps_expr (pe_bm PySem.F.plainAttrs_list PySem.F.slot_list_append PySem.F.type_list_append mt_append (pv 5) (pa_cons (pe_useR U_escaped (takes_of rfl rfl rfl rfl) (hr.mono (by decide)) hg rfl (pa_cons (pv 0) (pa_cons (pv 1) (pa_cons (pv 2) pa_nil)))) pa_nil)))))
   (pss_one (ps_expr (pe_bm PySem.F.plainAttrs_list PySem.F.slot_list_append PySem.F.type_list_append mt_append (pv 5) (pa_cons (pe_ix ix_str (pv 0) (pv 1) (fun _ _ => rfl)) pa_nil)))))
  (pss_one (ps_aug (i := 1) sc_add_text.nd rfl (Or.inl rfl) pe_int ip_add))))
  (pss_cons (ps_if (pt_cmpR op_eq (pv 1) (pe_callB call_len (by rfl) T.b_len PySem.boot_len (pa_cons (pv 0) pa_nil)) (nomark _))
   (pss_one (ps_raiseF U_Fault rfl (takes_of rfl rfl rfl rfl) (hr.mono (by decide)) rfl (pa_cons (pv 2) (pa_cons pe_str pa_nil))))
   pss_nil)
  (pss_cons (ps_if (pt_cmpR op_gt (pe_callB call_len (by rfl) T.b_len PySem.boot_len (pa_cons (pv 5) pa_nil)) (pe_globI T.c_MOST_IN_TEXT (by rfl)) (nomark _))
   (pss_one (ps_raiseF U_Fault rfl (takes_of rfl rfl rfl rfl) (hr.mono (by decide)) rfl (pa_cons (pv 2) (pa_cons pe_str pa_nil))))
   pss_nil)
  (pss_cons (ps_expr (pe_bm PySem.F.plainAttrs_list PySem.F.slot_list_append PySem.F.type_list_append mt_append (pv 3) (pa_cons (pe_tup (pa_cons pe_str (pa_cons (pe_bm PySem.F.plainAttrs_str PySem.F.slot_str_join PySem.F.type_str_join mt_join pe_str (pa_cons (pv 5) pa_nil)) (pa_cons (pv 2) pa_nil)))) pa_nil)))
  (pss_one (ps_ret (pe_op op_add (pv 1) pe_int)))))))))), ?_⟩
    have hz : (S a).length ≤ sizeLine := by rw [S_len]; exact Nat.le_trans hal (by decide)
    have hm2 : m.natAbs < 2 ^ 100 := Nat.lt_of_lt_of_le hm (by decide)
    have hia : i < a.length := (List.getElem?_eq_some_iff.mp hq).1
    obtain ⟨q92, _⟩ := iq.ne
    obtain ⟨zs, ez, az⟩ := id L
    have lz := az.length
    refine ⟨_, rfl, _, rfl, S a, _, q, rfl, rfl, hz, at_S hq, ?_⟩
    refine ⟨sz_0, fun cp hcp => ?_⟩
    have ntc : tp ≠ cp := ne_of_none ez hcp
    have S1 : Same H (upd H cp (.lst [])) := Same.new hcp
    refine ⟨_, rfl, _, _, rfl, rfl, ?_⟩
    refine while_up (fun σ H1 => ∃ (j : Nat) (acc : List Nat), σ = [some (.str (S a)), some (.int j), some (.int m), some (.ref tp), some (.str (S [q])), some (.ref cp)] ∧ j ≤ a.length ∧ acc.length ≤ j ∧ H1 cp = some (.lst (chV acc)) ∧ Same H H1 ∧ scan q (a.drop (i + 1)) [] = scan q (a.drop j) acc)
      (fun (σ : L2.St) (_ : Hp) => match σ[1]? with | some (some (V.int j)) => (a.length - j).toNat | _ => 0) ⟨i + 1, [], rfl, hia, by simp, upd_same, S1, rfl⟩ ?_
    rintro σ H1 ⟨j, acc, rfl, hj, hac, ec, S2, hscan⟩
    have appd : ∀ x : Nat, Same H (upd H1 cp (.lst (chV acc ++ [.str (S [x])]))) ∧ (upd H1 cp (.lst (chV acc ++ [.str (S [x])]))) cp = some (.lst (chV (acc ++ [x]))) := fun x => ⟨fun b o hb => by rw [upd_ne (ne_of_none hb hcp)]; exact S2 b o hb, by rw [upd_same, chV_app]; rfl⟩
    refine ⟨_, rfl, _, rfl, _, _, rfl, ⟨hz, rfl⟩, _, _, rfl, rfl, _, rfl, ?_⟩
    refine ite3 (fun c => ?_) fun c => ?_
    · have c := of_decide_eq_true c
      rw [S_len] at c
      have hj : j < a.length := by omega
      have hc : a[j]? = some a[j] := List.getElem?_eq_getElem hj
      have hdr := List.drop_eq_getElem_cons hj
      generalize a[j] = x at hc hdr
      rw [hdr] at hscan
      by_cases hxq : x = q
      · refine ⟨_, rfl, _, rfl, S a, _, x, rfl, rfl, hz, at_S hc, _, rfl, rfl, _, rfl, iteFb (by rw [sign_eq, decide_eq_true hxq]; rfl) ?_⟩
        subst hxq
        rw [scan_q] at hscan
        rw [hscan] at k
        have hdl2 : (a.drop (j + 1)).length = a.length - (j + 1) := List.length_drop
        refine ⟨_, rfl, _, rfl, _, _, rfl, ⟨hz, rfl⟩, rfl, _, rfl, iteFb (by rw [S_len]; exact decide_eq_false fun h => (by have := V.int.inj h; omega)) ?_⟩
        refine ⟨_, rfl, _, _, rfl, .inl ⟨_, SqL.of ec, rfl⟩, _, _, rfl, rfl, _, rfl, ?_⟩
        have k : (if 200 < acc.length then BadAt C H E m "text too long" else ∀ H', ListAt K H' tp (ds ++ [textT acc m]) → Keep tp H H' → Q (.int ((a.length - (a.drop (j + 1)).length : Nat) : Int)) H') := k
        rw [chV_len]
        by_cases h2 : 200 < acc.length
        · rw [if_pos h2] at k
          refine iteTb (decide_eq_true (by omega)) ?_
          exact ⟨_, rfl, m, _, rfl, hm2, by decide +kernel, (k.mono S2).now⟩
        · rw [if_neg h2] at k
          refine iteFb (decide_eq_false (by omega)) ?_
          have ez2 := S2 _ _ ez
          refine ⟨_, rfl, .inl ⟨rfl, _, SqL.of ez2⟩, rfl, _, rfl, _, cp, _, rfl, rfl, .inl (SqL.of ec), ?_, _, rfl, sz_3, fun u hu => ⟨tp, _, _, rfl, rfl, Same.new hu _ _ ez2, Nat.lt_of_le_of_lt (show zs.length ≤ 90000 by omega) (by decide), ?_⟩⟩
          · rw [one_len, List.length_map, show ("" : Str).length = 0 by decide +kernel]; omega
          rw [join_S1]
          have S3 := Same.new (o := .tup [.str "text", .str (S acc), .int m]) hu
          have en : a.length - (a.drop (j + 1)).length = j + 1 := by omega
          rw [en] at k
          refine ⟨_, rfl, _, _, rfl, rfl, ?_⟩
          have k := k _ (listAt_app (listAt_mono (listAt_mono L S2) S3) (S3 _ _ ez2) (Dt.made hu (.cons (.str _) (.cons (.str _) (.cons (.int _) .nil))))) fun b o hb ne => by rw [upd_ne ne]; exact S3 _ _ (S2 _ _ hb)
          exact k
      · refine ⟨_, rfl, _, rfl, S a, _, x, rfl, rfl, hz, at_S hc, _, rfl, rfl, _, rfl, iteTb (by rw [sign_eq, decide_eq_false hxq]; rfl) ?_⟩
        by_cases h92 : x = 92
        · subst h92
          refine ⟨_, rfl, _, rfl, S a, _, 92, rfl, rfl, hz, at_S hc, rfl, _, rfl, iteTb (by rw [bs_S, sign_eq]; exact decide_eq_true rfl) ?_⟩
          refine ⟨_, rfl, _, _, rfl, rfl, ?_⟩
          refine ⟨_, rfl, .inl ⟨rfl, _, SqL.of ec⟩, _, rfl, _, rfl, _, rfl, a, j + 1, m, rfl, hj, hal, hm, ?_⟩
          by_cases hj2 : j + 1 = a.length
          · rw [hj2, List.drop_length, scan_e0 q92] at hscan
            rw [hscan] at k
            rw [hj2, List.getElem?_eq_none (Nat.le_refl _)]
            exact BadAt.mono k S2
          · have hj3 : j + 1 < a.length := by omega
            have hc2 : a[j + 1]? = some a[j + 1] := List.getElem?_eq_getElem hj3
            have hdr2 := List.drop_eq_getElem_cons hj3
            generalize a[j + 1] = e at hc2 hdr2
            rw [hdr2, scan_e q92] at hscan
            rw [hc2]
            show (match escOf e with | some x => _ | none => BadAt C H1 E m "invalid escape")
            cases hx : escOf e with
            | none =>
              rw [hx] at hscan
              rw [hscan] at k
              exact BadAt.mono k S2
            | some y =>
              rw [hx] at hscan
              obtain ⟨a1, a2⟩ := appd y
              refine ⟨cp, _, _, rfl, rfl, ec, by rw [chV_len]; exact Nat.lt_of_le_of_lt (show acc.length ≤ 20000 by omega) (by decide), ?_⟩
              exact ⟨_, rfl, _, _, rfl, rfl, ⟨j + 1 + 1, acc ++ [y], rfl, by omega, by simp; omega, a2, a1, hscan⟩, by simp; omega⟩
        · rw [scan_c hxq h92] at hscan
          refine ⟨_, rfl, _, rfl, S a, _, x, rfl, rfl, hz, at_S hc, rfl, _, rfl, iteFb (by rw [bs_S, sign_eq]; exact decide_eq_false h92) ?_⟩
          obtain ⟨a1, a2⟩ := appd x
          refine ⟨_, rfl, .inl ⟨rfl, _, SqL.of ec⟩, _, rfl, _, rfl, S a, _, x, rfl, rfl, hz, at_S hc, cp, _, _, rfl, rfl, ec, by rw [chV_len]; exact Nat.lt_of_le_of_lt (show acc.length ≤ 20000 by omega) (by decide), ?_⟩
          exact ⟨_, rfl, _, _, rfl, rfl, ⟨j + 1, acc ++ [x], rfl, by omega, by simp; omega, a2, a1, hscan⟩, by simp; omega⟩
    · have c := of_decide_eq_false c
      rw [S_len] at c
      obtain rfl : j = a.length := by omega
      rw [List.drop_length] at hscan
      rw [hscan] at k
      refine ⟨_, rfl, _, rfl, _, _, rfl, ⟨hz, rfl⟩, rfl, _, rfl, iteTb (by rw [S_len]; exact decide_eq_true rfl) ?_⟩
      exact ⟨_, rfl, m, _, rfl, hm2, by decide +kernel, (BadAt.mono (show BadAt C H E m "text not closed" from k) S2).now⟩
end

abbrev s_split : Stmt := top 15
abbrev N_split : List Str := ["text", "tokens", "indents", "brackets", "lines", "at", "line", "_", "opened"]
abbrev P_split : List Str := ["text"]
theorem sc_split : FnScope N_split P_split (defScope s_split) := ⟨rfl, rfl, rfl, by decide +kernel, rfl, by decide +kernel, by decide +kernel⟩
abbrev s_add_line : Stmt := top 19
abbrev N_add_line : List Str := ["line", "number", "brackets", "tokens", "at"]
abbrev P_add_line : List Str := ["line", "number", "brackets", "tokens"]
theorem sc_add_line : FnScope N_add_line P_add_line (defScope s_add_line) := ⟨rfl, rfl, rfl, by decide +kernel, rfl, by decide +kernel, by decide +kernel⟩
abbrev s_add_word : Stmt := top 21
abbrev N_add_word : List Str := ["line", "at", "number", "tokens", "end", "word"]
abbrev P_add_word : List Str := ["line", "at", "number", "tokens"]
theorem sc_add_word : FnScope N_add_word P_add_word (defScope s_add_word) := ⟨rfl, rfl, rfl, by decide +kernel, rfl, by decide +kernel, by decide +kernel⟩
abbrev s_add_integer : Stmt := top 22
abbrev N_add_integer : List Str := ["line", "at", "number", "tokens", "end", "digits"]
abbrev P_add_integer : List Str := ["line", "at", "number", "tokens"]
theorem sc_add_integer : FnScope N_add_integer P_add_integer (defScope s_add_integer) := ⟨rfl, rfl, rfl, by decide +kernel, rfl, by decide +kernel, by decide +kernel⟩
abbrev s_add_sign : Stmt := top 25
abbrev N_add_sign : List Str := ["line", "at", "number", "brackets", "tokens", "sign"]
abbrev P_add_sign : List Str := ["line", "at", "number", "brackets", "tokens"]
theorem sc_add_sign : FnScope N_add_sign P_add_sign (defScope s_add_sign) := ⟨rfl, rfl, rfl, by decide +kernel, rfl, by decide +kernel, by decide +kernel⟩
abbrev s_follow_brackets : Stmt := top 26
abbrev N_follow_brackets : List Str := ["sign", "number", "brackets"]
abbrev P_follow_brackets : List Str := ["sign", "number", "brackets"]
theorem sc_follow_brackets : FnScope N_follow_brackets P_follow_brackets (defScope s_follow_brackets) := ⟨rfl, rfl, rfl, by decide +kernel, rfl, by decide +kernel, by decide +kernel⟩
section
variable {P : Program} {w : World} {K : PySem.W.Frag} {mg : Str → Option Value} {base : Heap}
/-! valid texts: words, integers, texts and signs, read one behind the other -/
theorem cut_mid {a : List Nat} {i j : Nat} (h : i ≤ j) (h2 : j ≤ a.length) : cutS (S a) (some (i : Int)) (some (j : Int)) = S ((a.drop i).take (j - i)) := by
  unfold cutS
  rw [S_len, HT.sIx_nat, HT.sIx_nat]
  show (⟨((a.drop (min i a.length)).take (min j a.length - min i a.length)).toArray⟩ : Str) = _
  rw [Nat.min_eq_left h2, Nat.min_eq_left (show i ≤ a.length by omega)]
def kwB (a : List Nat) : Bool := inV (V.str (S a)) (kwords.map V.str)
def valI (a : List Nat) : Int := ((NumText.digitsVal a : Nat) : Int)
/-- the word of a that begins at i ends at j -/
structure WordAt (a : List Nat) (i j : Nat) (b : List Nat) : Prop where
  lt : i < j
  le : j ≤ a.length
  eq : b = (a.drop i).take (j - i)
  w : ∀ c ∈ b, isW c = true
  nd : ∀ c, a[j]? = some c → isW c = false
theorem WordAt.all {a b : List Nat} {i j : Nat} (h : WordAt a i j b) : ∀ t, i ≤ t → t < j → ∀ c, a[t]? = some c → isW c = true := fun t h1 h2 c hc => by
  refine h.w c ?_
  rw [h.eq]
  refine List.mem_of_getElem? (i := t - i) ?_
  rw [List.getElem?_take, if_pos (by omega), List.getElem?_drop, show i + (t - i) = t by omega]
  exact hc
theorem WordAt.len {a b : List Nat} {i j : Nat} (h : WordAt a i j b) : b.length = j - i := by
  rw [h.eq, List.length_take, List.length_drop]
  have := h.le
  omega
/-- a token d is put behind the tokens ds -/
def AddTok (K : PySem.W.Frag) (tp : Addr) (H : Hp) (Q : Hp → Prop) (ds : List PyData) (d : PyData) : Prop := ListAt K H tp ds ∧ ds.length ≤ 90000 ∧ ∀ H', ListAt K H' tp (ds ++ [d]) → Keep tp H H' → Q H'
theorem AddTok.put {tp u : Addr} {H : Hp} {Q : Hp → Prop} {ds : List PyData} {ts : List V} {es : List PyData} {zs : List V} (h : AddTok K tp H Q ds (.tuple es)) (hu : H u = none) (ht : DtAll K H ts es) (ez : H tp = some (.lst zs)) :
    Q (upd (upd H u (.tup ts)) tp (.lst (zs ++ [.ref u]))) := by
  have S1 := Same.new (o := .tup ts) hu
  exact h.2.2 _ (listAt_app (listAt_mono h.1 S1) (S1 _ _ ez) (Dt.made hu ht)) fun b o hb ne => by rw [upd_ne ne]; exact S1 _ _ hb
theorem AddTok.ez {tp : Addr} {H : Hp} {Q : Hp → Prop} {ds : List PyData} {d : PyData} (h : AddTok K tp H Q ds d) : ∃ zs, H tp = some (.lst zs) ∧ zs.length < sizeLine := by
  obtain ⟨⟨zs, ez, az⟩, hl, _⟩ := h
  have lz := az.length
  exact ⟨zs, ez, Nat.lt_of_le_of_lt (show zs.length ≤ 90000 by omega) (by decide)⟩
def wordD (b : List Nat) (m : Int) : PyData := .tuple [.str (if kwB b = true then "word" else "name"), .str (S b), .int m]
def spWord (K : PySem.W.Frag) : Sp := fun vs H Q _ => ∃ (a : List Nat) (i j : Nat) (b : List Nat) (m : Int) (tp : Addr) (ds : List PyData), vs = [.str (S a), .int (i : Nat), .int m, .ref tp] ∧ a.length ≤ 20000 ∧ (∀ c ∈ a, c < 128) ∧ WordAt a i j b ∧
  (kwB b = true ∨ b.length ≤ 30) ∧ AddTok K tp H (Q (.int (j : Nat))) ds (wordD b m)
theorem ok_addword {C B : Addr} {f : Addr} {fd : FuncData} (F : Fun K "_add_word" "_add_word" s_add_word f fd) (T : Txt K mg) (U_word_end : Use P w K mg base CX0 "_word_end" 1 P_word_end spWordEnd) (U_Fault : UseF P w K mg base C B) :
    FnG P w K mg base (L2.CX P w) 3 f fd P_add_word (spWord K) := by
  refine okG F sc_add_word (fun vs H Q E h => ?_) fun cdv A outer s H vs Q E hr hg h => ?_
  · obtain ⟨a, i, j, b, m, tp, ds, rfl, _⟩ := h
    rfl
  · obtain ⟨a, i, j, b, m, tp, ds, rfl, hal, hw, W, hb, k⟩ := h
    refine ⟨_, (pss_cons (ps_set (i := 4) sc_add_word.nd rfl (Or.inl rfl) (pe_use U_word_end (hr.mono (by decide)) hg rfl (pa_cons (pv 0) (pa_cons (pv 1) pa_nil))))
  (pss_cons (ps_set (i := 5) sc_add_word.nd rfl (Or.inl rfl) (pe_slice sl_str (pv 0) (po_some (pv 1)) (po_some (pv 4))))
  (pss_cons (ps_if (pt_cmpR op_in_seq (pv 5) (pe_globT T.c_KEYWORDS (by rfl)) (by rfl))
   (pss_one (ps_expr (pe_bm PySem.F.plainAttrs_list PySem.F.slot_list_append PySem.F.type_list_append mt_append (pv 3) (pa_cons (pe_tup (pa_cons pe_str (pa_cons (pv 5) (pa_cons (pv 2) pa_nil)))) pa_nil))))
   (pss_one (ps_if (pt_cmpR op_gt (pe_callB call_len (by rfl) T.b_len PySem.boot_len (pa_cons (pv 5) pa_nil)) (pe_globI T.c_MOST_IN_NAME (by rfl)) (nomark _))
   (pss_one (ps_raiseF U_Fault rfl (takes_of rfl rfl rfl rfl) (hr.mono (by decide)) rfl (pa_cons (pv 2) (pa_cons pe_str pa_nil))))
   (pss_one (ps_expr (pe_bm PySem.F.plainAttrs_list PySem.F.slot_list_append PySem.F.type_list_append mt_append (pv 3) (pa_cons (pe_tup (pa_cons pe_str (pa_cons (pv 5) (pa_cons (pv 2) pa_nil)))) pa_nil)))))))
  (pss_one (ps_ret (pv 4)))))), ?_⟩
    have hz : (S a).length ≤ sizeLine := by rw [S_len]; exact Nat.le_trans hal (by decide)
    have hi := W.lt
    have hj := W.le
    refine ⟨_, rfl, _, rfl, a, i, rfl, by omega, hal, hw, fun j' h1 h2 h3 h4 => ?_⟩
    obtain rfl : j' = j := by
      by_cases e : j' < j
      · have hc : a[j']? = some a[j'] := List.getElem?_eq_getElem (by omega)
        have h5 := W.all j' h1 e _ hc
        rw [h4 _ hc] at h5
        cases h5
      · by_cases e2 : j < j'
        · have hc : a[j]? = some a[j] := List.getElem?_eq_getElem (by omega)
          have h5 := h3 j (by omega) e2 _ hc
          rw [W.nd _ hc] at h5
          cases h5
        · omega
    refine ⟨_, rfl, _, rfl, _, rfl, _, rfl, _, rfl, _, rfl, hz, ?_⟩
    rw [cut_mid (by omega) hj, ← W.eq]
    obtain ⟨zs, ez, lz⟩ := k.ez
    unfold wordD at k
    refine ⟨_, rfl, fun ak kk => ⟨ak, _, rfl, .inr (kk.sq _), rfl, by decide +kernel, ?_⟩⟩
    dsimp only
    refine ⟨_, rfl, ?_⟩
    refine ite3 (fun c => ?_) fun c => ?_
    · rw [if_pos (show kwB b = true from c)] at k
      refine ⟨_, rfl, .inl ⟨rfl, _, SqL.of ez⟩, _, rfl, _, rfl, sz_3, fun u hu => ⟨tp, _, _, rfl, rfl, Same.new hu _ _ ez, lz, ?_⟩⟩
      exact ⟨_, rfl, k.put hu (.cons (.str _) (.cons (.str _) (.cons (.int _) .nil))) ez⟩
    · have nk : ¬ kwB b = true := by rw [show kwB b = false from c]; exact Bool.false_ne_true
      rw [if_neg nk] at k
      refine ⟨_, rfl, _, _, rfl, ⟨by rw [S_len, W.len]; exact Nat.le_trans (show _ ≤ 20000 by omega) (by decide), rfl⟩, _, _, rfl, rfl, _, rfl, iteFb (decide_eq_false (by rw [S_len]; have := hb.resolve_left nk; omega)) ?_⟩
      refine ⟨_, rfl, .inl ⟨rfl, _, SqL.of ez⟩, _, rfl, _, rfl, sz_3, fun u hu => ⟨tp, _, _, rfl, rfl, Same.new hu _ _ ez, lz, ?_⟩⟩
      exact ⟨_, rfl, k.put hu (.cons (.str _) (.cons (.str _) (.cons (.int _) .nil))) ez⟩
end
section
variable {P : Program} {w : World} {K : PySem.W.Frag} {mg : Str → Option Value} {base : Heap}
def intD (b : List Nat) (m : Int) : PyData := .tuple [.str "int", .int (valI b), .int m]
structure IntOk (b : List Nat) : Prop where
  ne : b ≠ []
  dg : b.all isD = true
  no : ¬ (1 < b.length ∧ b.head? = some 48)
  len : b.length ≤ 78
  lt : valI b < 2 ^ 256
def spInt (K : PySem.W.Frag) : Sp := fun vs H Q _ => ∃ (a : List Nat) (i j : Nat) (b : List Nat) (m : Int) (tp : Addr) (ds : List PyData), vs = [.str (S a), .int (i : Nat), .int m, .ref tp] ∧ a.length ≤ 20000 ∧ (∀ c ∈ a, c < 128) ∧ WordAt a i j b ∧
  IntOk b ∧ AddTok K tp H (Q (.int (j : Nat))) ds (intD b m)
theorem WordAt.end_ {a b : List Nat} {i j j' : Nat} (W : WordAt a i j b) (h1 : i ≤ j') (h2 : j' ≤ a.length) (h3 : ∀ t, i ≤ t → t < j' → ∀ c, a[t]? = some c → isW c = true) (h4 : ∀ c, a[j']? = some c → isW c = false) : j' = j := by
  have hi := W.lt
  have hj := W.le
  by_cases e : j' < j
  · have hc : a[j']? = some a[j'] := List.getElem?_eq_getElem (by omega)
    have h5 := W.all j' h1 e _ hc
    rw [h4 _ hc] at h5
    cases h5
  · by_cases e2 : j < j'
    · have hc : a[j]? = some a[j] := List.getElem?_eq_getElem (by omega)
      have h5 := h3 j (by omega) e2 _ hc
      rw [W.nd _ hc] at h5
      cases h5
    · omega
theorem ok_addint {C B : Addr} {f : Addr} {fd : FuncData} (F : Fun K "_add_integer" "_add_integer" s_add_integer f fd) (T : Txt K mg) (U_word_end : Use P w K mg base CX0 "_word_end" 1 P_word_end spWordEnd) (U_Fault : UseF P w K mg base C B) :
    FnG P w K mg base (L2.CX P w) 3 f fd P_add_integer (spInt K) := by
  refine okG F sc_add_integer (fun vs H Q E h => ?_) fun cdv A outer s H vs Q E hr hg h => ?_
  · obtain ⟨a, i, j, b, m, tp, ds, rfl, _⟩ := h
    rfl
  · obtain ⟨a, i, j, b, m, tp, ds, rfl, hal, hw, W, hb, k⟩ := h
    refine ⟨_, (pss_cons (ps_set (i := 4) sc_add_integer.nd rfl (Or.inl rfl) (pe_use U_word_end (hr.mono (by decide)) hg rfl (pa_cons (pv 0) (pa_cons (pv 1) pa_nil))))
  (pss_cons (ps_set (i := 5) sc_add_integer.nd rfl (Or.inl rfl) (pe_slice sl_str (pv 0) (po_some (pv 1)) (po_some (pv 4))))
  (C8.pss_cut (ps_if (PW.pt (pw_or (pt_not (pt_val (pe_bm0 PySem.F.plainAttrs_str PySem.F.slot_str_isdigit PySem.F.type_str_isdigit mt_isdigit (pv 5)))) (pw_or1 (PW.pt (pw_and (pt_cmpR op_gt (pe_callB call_len (by rfl) T.b_len PySem.boot_len (pa_cons (pv 5) pa_nil)) pe_int (nomark _)) (pw_and1 (pt_cmpR op_eq (pe_ix ix_str (pv 5) pe_int (fun _ _ => rfl)) pe_str (nomark _))))))))
   pss_never
   pss_nil)
  (pss_cons (ps_if (PW.pt (pw_or (pt_cmpR op_gt (pe_callB call_len (by rfl) T.b_len PySem.boot_len (pa_cons (pv 5) pa_nil)) (pe_globI T.c_MOST_DIGITS (by rfl)) (nomark _)) (pw_or1 (pt_cmpR op_ge (pe_callTy call_int_str (by rfl) T.b_int (by decide +kernel) (pa_cons (pv 5) pa_nil)) (pe_globI T.c_INTEGER_END (by rfl)) (nomark _)))))
   pss_never
   pss_nil)
  (pss_cons (ps_expr (pe_bm PySem.F.plainAttrs_list PySem.F.slot_list_append PySem.F.type_list_append mt_append (pv 3) (pa_cons (pe_tup (pa_cons pe_str (pa_cons (pe_callTy call_int_str (by rfl) T.b_int (by decide +kernel) (pa_cons (pv 5) pa_nil)) (pa_cons (pv 2) pa_nil)))) pa_nil)))
  (pss_one (ps_ret (pv 4)))))))), ?_⟩
    have hz : (S a).length ≤ sizeLine := by rw [S_len]; exact Nat.le_trans hal (by decide)
    have hi := W.lt
    have hj := W.le
    refine ⟨_, rfl, _, rfl, a, i, rfl, by omega, hal, hw, fun j' h1 h2 h3 h4 => ?_⟩
    obtain rfl := W.end_ h1 h2 h3 h4
    refine ⟨_, rfl, _, rfl, _, rfl, _, rfl, _, rfl, _, rfl, hz, ?_⟩
    rw [cut_mid (by omega) hj, ← W.eq]
    obtain ⟨zs, ez, lz⟩ := k.ez
    have hbl := hb.len
    have hzb : (S b).length ≤ sizeLine := by rw [S_len]; exact Nat.le_trans hbl (by decide)
    have ed : Txt.isdigit (S b) = b.all isD := digitS (fun c hc => isW_lt (W.w c hc)) hb.ne
    have pv : PySem.intText? (S b) = some (valI b) := int_S hb.dg hb.ne (by omega)
    obtain ⟨c, r, eb⟩ := List.exists_cons_of_ne_nil hb.ne
    refine ⟨fun σ H1 => σ = [some (.str (S a)), some (.int (i : Nat)), some (.int m), some (.ref tp), some (.int (j' : Nat)), some (.str (S b))] ∧ H1 = H, ?_, ?_⟩
    · refine ⟨_, rfl, rfl, _, rfl, rfl, trivial, ⟨_, rfl, ?_⟩⟩
      rw [ed, hb.dg]
      refine iteFb rfl ?_
      refine ⟨_, rfl, _, _, rfl, ⟨hzb, rfl⟩, _, _, rfl, rfl, _, rfl, ?_⟩
      by_cases c1 : 1 < b.length
      · refine iteTb (decide_eq_true (by rw [S_len]; omega)) ?_
        refine ⟨_, rfl, S b, _, c, rfl, rfl, hzb, at_S (j := 0) (by rw [eb]; rfl), rfl, _, rfl, ?_⟩
        rw [show ("0" : Str) = S [48] by decide +kernel, sign_eq]
        exact iteFb (decide_eq_false fun e => hb.no ⟨c1, by rw [eb, e]; rfl⟩) ⟨rfl, rfl⟩
      · exact iteFb (decide_eq_false (by rw [S_len]; omega)) ⟨rfl, rfl⟩
    rintro _ _ ⟨rfl, e0⟩
    subst e0
    refine ⟨_, rfl, _, _, rfl, ⟨hzb, rfl⟩, _, _, rfl, rfl, _, rfl, iteFb (decide_eq_false (by rw [S_len]; omega)) ⟨_, rfl, S b, valI b, rfl, pv, by rw [S_len]; omega, _, _, rfl, rfl, _, rfl, iteFb (decide_eq_false (by have := hb.lt; omega)) ?_⟩⟩
    refine ⟨_, rfl, .inl ⟨rfl, _, SqL.of ez⟩, _, rfl, S b, valI b, rfl, pv, by rw [S_len]; omega, _, rfl, sz_3, fun u hu => ⟨tp, _, _, rfl, rfl, Same.new hu _ _ ez, lz, ?_⟩⟩
    exact ⟨_, rfl, k.put hu (.cons (.str _) (.cons (.int _) (.cons (.int _) .nil))) ez⟩
/-! signs and brackets -/
abbrev St := List (Nat × Int)
def opens (c : Nat) : Bool := c == 40 || c == 91 || c == 123
def openOf (c : Nat) : Nat := if c = 41 then 40 else if c = 93 then 91 else 123
def isBr (c : Nat) : Bool := c == 40 || c == 91 || c == 123 || c == 41 || c == 93 || c == 125
def brD (p : Nat × Int) : PyData := .tuple [.str (S [p.1]), .int p.2]
/-- what a sign does to the brackets that are open -/
inductive Fol : List Nat → Int → St → St → Prop
  | opn {c : Nat} {m : Int} {st : St} : opens c = true → st.length < 20 → Fol [c] m st (st ++ [(c, m)])
  | cls {c : Nat} {m : Int} {st : St} {p : Nat × Int} : isBr c = true → opens c = false → p.1 = openOf c → Fol [c] m (st ++ [p]) st
  | oth {z : List Nat} {m : Int} {st : St} : z ∈ sgns → (∀ c, z = [c] → isBr c = false) → Fol z m st st
def signD (z : List Nat) (m : Int) : PyData := .tuple [.str "sign", .str (S z), .int m]
def spFollow (K : PySem.W.Frag) : Sp := fun vs H Q _ => ∃ (z : List Nat) (m : Int) (bp : Addr) (st st' : St), vs = [.str (S z), .int m, .ref bp] ∧ Fol z m st st' ∧ ListAt K H bp (st.map brD) ∧ st.length ≤ 20 ∧ (∀ H', ListAt K H' bp (st'.map brD) → Keep bp H H' → Q .non H')
theorem dtAll_init {H : Hp} : ∀ {xs : List V} {v : V} {ds : List PyData} {d : PyData}, DtAll K H (xs ++ [v]) (ds ++ [d]) → xs.length = ds.length → DtAll K H xs ds
  | [], _, [], _, _, _ => .nil
  | x :: xs, _, e :: ds, _, h, hl => by
    cases h with
    | cons h1 h2 => exact .cons h1 (dtAll_init h2 (by simpa using hl))
  | [], _, _ :: _, _, _, hl => by simp at hl
  | _ :: _, _, [], _, _, hl => by simp at hl
theorem br_cases {c : Nat} (h : isBr c = true) : c = 40 ∨ c = 91 ∨ c = 123 ∨ c = 41 ∨ c = 93 ∨ c = 125 := by
  simp [isBr] at h; omega
theorem open_cases {c : Nat} (h : opens c = true) : c = 40 ∨ c = 91 ∨ c = 123 := by
  simp [opens] at h; omega
theorem br_oth : ∀ z ∈ sgns, (z.length = 1 ∧ (z.head?.any isBr) = true) ∨ (inV (.str (S z)) [.str "(", .str "[", .str "{"] = false ∧ valV (txtKV [(")", "("), ("]", "["), ("}", "{")]) (.inr (S z)) = none) := by decide +kernel
theorem ok_follow {C B : Addr} {f : Addr} {fd : FuncData} (F : Fun K "_follow_brackets" "_follow_brackets" s_follow_brackets f fd) (T : Txt K mg) (U_Fault : UseF P w K mg base C B) (U_OPENED_BY : UseD P w K mg "OPENED_BY" (txtKV [(")", "("), ("]", "["), ("}", "{")])) :
    FnG P w K mg base (L2.CX P w) 3 f fd P_follow_brackets (spFollow K) := by
  refine okG F sc_follow_brackets (fun vs H Q E h => ?_) fun cdv A outer s H vs Q E hr hg h => ?_
  · obtain ⟨z, m, bp, st, st', rfl, _⟩ := h
    rfl
  · obtain ⟨z, m, bp, st, st', rfl, hF, L, hl, k⟩ := h
    obtain ⟨aD_OPENED_BY, gD_OPENED_BY, kD⟩ := U_OPENED_BY.ex
    refine ⟨_, (pss_one (ps_if (pt_cmpR op_in_seq (pv 0) (pe_tup (pa_cons pe_str (pa_cons pe_str (pa_cons pe_str pa_nil)))) (by rfl))
   (pss_cons (ps_if (pt_cmpR op_eq (pe_callB call_len (by rfl) T.b_len PySem.boot_len (pa_cons (pv 2) pa_nil)) (pe_globI T.c_MOST_BRACKETS (by rfl)) (nomark _))
   (pss_one (ps_raiseF U_Fault rfl (takes_of rfl rfl rfl rfl) (hr.mono (by decide)) rfl (pa_cons (pv 1) (pa_cons pe_str pa_nil))))
   pss_nil)
  (pss_one (ps_expr (pe_bm PySem.F.plainAttrs_list PySem.F.slot_list_append PySem.F.type_list_append mt_append (pv 2) (pa_cons (pe_tup (pa_cons (pv 0) (pa_cons (pv 1) pa_nil))) pa_nil)))))
   (pss_one (ps_if (pt_cmp (pc_dinK (pv 0) (pe_glob (v := .ref aD_OPENED_BY) (by rfl) gD_OPENED_BY rfl)))
   (pss_cons (ps_if (PW.pt (pw_or (pt_not (pt_truth (pv 2) (by intro _; rfl))) (pw_or1 (pt_cmpR op_ne (pe_ix ix_tup (pe_ix ix_list (pv 2) (pe_un un_neg pe_int) (fun _ _ => rfl)) pe_int (fun _ _ => rfl)) (pe_dgetK (pe_glob (v := .ref aD_OPENED_BY) (by rfl) gD_OPENED_BY rfl) (pv 0) (fun _ _ => rfl)) (nomark _)))))
   (pss_one (ps_raiseF U_Fault rfl (takes_of rfl rfl rfl rfl) (hr.mono (by decide)) rfl (pa_cons (pv 1) (pa_cons pe_str pa_nil))))
   pss_nil)
  (pss_one (ps_expr (pe_bm0 PySem.F.plainAttrs_list PySem.F.slot_list_pop PySem.F.type_list_pop mt_pop (pv 2)))))
   pss_nil)))), ?_⟩
    obtain ⟨zs, ez, az⟩ := id L
    have lz := az.length
    rw [List.length_map] at lz
    refine ⟨_, rfl, sz_3, fun u hu => ⟨u, _, rfl, .inr (SqT.of upd_same), rfl, rfl, _, rfl, ?_⟩⟩
    have S1 := Same.new (o := .tup [.str "(", .str "[", .str "{"]) hu
    have ez1 := S1 _ _ ez
    have L1 := listAt_mono L S1
    rw [if_neg Bool.false_ne_true]
    generalize upd H u _ = H1 at S1 ez1 L1
    cases hF with
    | @opn c _ _ ho h20 =>
      refine iteTb (by rcases open_cases ho with rfl | rfl | rfl <;> decide +kernel) ?_
      refine ⟨_, rfl, _, _, rfl, .inl ⟨_, SqL.of ez1, rfl⟩, rfl, _, rfl, iteFb (decide_eq_false fun h => by have := V.int.inj h; omega) ?_⟩
      refine ⟨_, rfl, .inl ⟨rfl, _, SqL.of ez1⟩, _, rfl, _, rfl, sz_2, fun u2 hu2 => ⟨bp, _, _, rfl, rfl, Same.new hu2 _ _ ez1, Nat.lt_of_le_of_lt (show zs.length ≤ 20 by omega) (by decide), ?_⟩⟩
      have S2 := Same.new (o := .tup [.str (S [c]), .int m]) hu2
      refine k _ ?_ fun b o hb ne => by rw [upd_ne ne]; exact S2 _ _ (S1 _ _ hb)
      rw [List.map_append]
      exact listAt_app (listAt_mono L1 S2) (S2 _ _ ez1) (Dt.made hu2 (.cons (.str _) (.cons (.int _) .nil)))
    | oth hz hnb =>
      have ho := br_oth z hz
      rcases ho with ⟨h1, h2⟩ | ⟨h1, h2⟩
      · exfalso
        match z, h1, h2 with
        | [c], _, h2 => have := hnb c rfl; simp at h2; rw [this] at h2; cases h2
      refine iteFb h1 ?_
      refine ⟨_, rfl, aD_OPENED_BY, _, .inr (S z), rfl, kD, rfl, _, rfl, ?_⟩
      rw [h2]
      exact iteFb rfl (k _ L1 (Same.keep S1))
    | @cls c _ _ p hb hno hp =>
      refine iteFb (by rcases br_cases hb with rfl | rfl | rfl | rfl | rfl | rfl <;> first | exact absurd hno (by decide) | decide +kernel) ?_
      have hk : ∃ v : Str, valV (txtKV [(")", "("), ("]", "["), ("}", "{")]) (.inr (S [c])) = some (.str v) ∧ v = S [openOf c] := by
        rcases br_cases hb with rfl | rfl | rfl | rfl | rfl | rfl
        · exact absurd hno (by decide)
        · exact absurd hno (by decide)
        · exact absurd hno (by decide)
        · exact ⟨"(", by decide +kernel, by decide +kernel⟩
        · exact ⟨"[", by decide +kernel, by decide +kernel⟩
        · exact ⟨"{", by decide +kernel, by decide +kernel⟩
      obtain ⟨v, hv, rfl⟩ := hk
      refine ⟨_, rfl, aD_OPENED_BY, _, .inr (S [c]), rfl, kD, rfl, _, rfl, ?_⟩
      rw [hv]
      refine iteTb rfl ?_
      refine ⟨_, rfl, _, .inl ⟨_, SqL.of ez1, rfl⟩, ?_⟩
      obtain ⟨zs1, ez1', az1⟩ := id L1
      rw [ez1] at ez1'
      obtain rfl := HO.lst.inj (Option.some.inj ez1')
      rw [List.length_append, List.length_singleton] at lz
      obtain ⟨ws, v, rfl⟩ : ∃ ws v, zs = ws ++ [v] := by
        rcases List.eq_nil_or_concat zs with rfl | ⟨ws, v, rfl⟩
        · simp at lz
        · exact ⟨ws, v, List.concat_eq_append⟩
      rw [List.length_append, List.length_singleton] at lz
      obtain ⟨y, hy, dy⟩ := az1.get (i := st'.length) (show ((st' ++ [p]).map brD)[st'.length]? = some (brD p) by rw [List.map_append, List.getElem?_append_right (by simp)]; simp)
      rw [List.getElem?_append_right (by omega), show st'.length - ws.length = 0 by omega] at hy
      obtain rfl := Option.some.inj hy
      obtain ⟨q, x, rfl, hq, hx⟩ := Dt.pair dy
      cases hx.int_inv
      have hem : (!!(ws ++ [V.ref q]).isEmpty) = false := by simp
      rw [hem]
      refine iteFb rfl ?_
      refine ⟨_, rfl, _, rfl, bp, _, _, _, rfl, rfl, SqL.of ez1, atI_last _ _, q, _, _, _, rfl, rfl, hq, at0, _, rfl, aD_OPENED_BY, _, .inr (S [c]), _, rfl, kD, rfl, hv, rfl, _, rfl, ?_⟩
      rw [str_eq]
      refine iteFb (by rw [decide_eq_true (by rw [hp])]; rfl) ?_
      refine ⟨_, rfl, .inl ⟨rfl, _, SqL.of ez1⟩, bp, _, _, rfl, rfl, ez1, (show (ws ++ [V.ref q])[(ws ++ [V.ref q]).length - 1]? = some (V.ref q) by simp), ?_⟩
      rw [List.dropLast_concat]
      refine k _ ⟨ws, upd_same, ?_⟩ fun b o hb ne => by rw [upd_ne ne]; exact S1 _ _ hb
      refine DtAll.keepT (KeepT.upd ez1) ?_
      rw [List.map_append] at az1
      exact dtAll_init az1 (by rw [List.length_map]; omega)
/-! a sign at a place -/
def SignAt (a : List Nat) (i : Nat) (z : List Nat) : Prop := ∃ jz : Nat, sgns[jz]? = some z ∧ (a.drop i).take z.length = z ∧ ∀ j, j < jz → ∀ y, sgns[j]? = some y → (a.drop i).take y.length ≠ y
theorem starts3 {a z : List Nat} {i : Nat} (hi : i ≤ a.length) : Txt.startswith3 (S a) (S z) (i : Nat) = decide (z = (a.drop i).take z.length) := by
  have e0 : fromIndex (S a).length (i : Nat) = i := by
    unfold fromIndex
    rw [if_neg (by omega)]
    omega
  show (decide (fromIndex (S a).length (i : Nat) + (S z).length ≤ (S a).length) && (a.toArray.extract (fromIndex (S a).length (i : Nat)) (fromIndex (S a).length (i : Nat) + (S z).length) == z.toArray)) = _
  rw [e0, S_len, S_len]
  have e1 : a.toArray.extract i (i + z.length) = ((a.drop i).take z.length).toArray := by
    rw [List.extract_toArray]
    show ((a.drop i).take (i + z.length - i)).toArray = _
    rw [show i + z.length - i = z.length by omega]
  rw [e1]
  by_cases h : z = (a.drop i).take z.length
  · have hl : i + z.length ≤ a.length := by
      have := congrArg List.length h
      rw [List.length_take, List.length_drop] at this
      omega
    rw [decide_eq_true h, decide_eq_true hl, ← h]; simp
  · rw [decide_eq_false h]
    have : ((a.drop i).take z.length).toArray ≠ z.toArray := fun e => h (by simpa using congrArg Array.toList e.symm)
    simp [this]
    exact fun _ e => h e.symm
/-- the lists of brackets and of tokens behind something -/
structure Two (K : PySem.W.Frag) (H0 H : Hp) (bp tp : Addr) (st : St) (ds : List PyData) : Prop where
  br : ListAt K H bp (st.map brD)
  tk : ListAt K H tp ds
  kp : Keep2 bp tp H0 H
theorem Two.refl {H0 H : Hp} {bp tp : Addr} {st : St} {ds : List PyData} (h : Two K H0 H bp tp st ds) : Two K H H bp tp st ds := ⟨h.br, h.tk, fun _ _ h _ _ => h⟩
theorem Two.trans {H0 H1 H2 : Hp} {bp tp : Addr} {st st' : St} {ds ds' : List PyData} (h : Two K H0 H1 bp tp st ds) (g : Two K H1 H2 bp tp st' ds') : Two K H0 H2 bp tp st' ds' := ⟨g.br, g.tk, fun b o e n1 n2 => g.kp b o (h.kp b o e n1 n2) n1 n2⟩
theorem Two.tok {H0 H : Hp} {bp tp : Addr} {st : St} {ds : List PyData} (h : Two K H0 H bp tp st ds) (ne : bp ≠ tp) {u : Addr} (hu : H u = none) {ts : List V} {es : List PyData} (ht : DtAll K H ts es) {zs : List V} (ez : H tp = some (.lst zs)) :
    Two K H0 (upd (upd H u (.tup ts)) tp (.lst (zs ++ [.ref u]))) bp tp st (ds ++ [.tuple es]) := by
  have S1 := Same.new (o := .tup ts) hu
  exact ⟨listAt_upd (listAt_mono h.br S1) ne (S1 _ _ ez), listAt_app (listAt_mono h.tk S1) (S1 _ _ ez) (Dt.made hu ht), fun b o hb n1 n2 => by rw [upd_ne n2]; exact S1 _ _ (h.kp b o hb n1 n2)⟩
theorem Two.same {H0 H H' : Hp} {bp tp : Addr} {st : St} {ds : List PyData} (h : Two K H0 H bp tp st ds) (e : Same H H') : Two K H0 H' bp tp st ds := ⟨listAt_mono h.br e, listAt_mono h.tk e, fun b o hb n1 n2 => e _ _ (h.kp b o hb n1 n2)⟩
theorem none_two {H0 H : Hp} {bp tp d : Addr} {st : St} {ds : List PyData} (h : Two K H0 H bp tp st ds) (hd : H d = none) : H0 d = none := by
  obtain ⟨x1, e1, _⟩ := h.br
  obtain ⟨x2, e2, _⟩ := h.tk
  have n1 : d ≠ bp := fun e => by subst e; rw [hd] at e1; cases e1
  have n2 : d ≠ tp := fun e => by subst e; rw [hd] at e2; cases e2
  cases e : H0 d with
  | none => rfl
  | some o => rw [h.kp _ _ e n1 n2] at hd; cases hd
/-- the tokens alone have changed -/
theorem Two.tks {H0 H H' : Hp} {bp tp : Addr} {st : St} {ds ds' : List PyData} (h : Two K H0 H bp tp st ds) (ne : bp ≠ tp) (L : ListAt K H' tp ds') (k : Keep tp H H') : Two K H0 H' bp tp st ds' := by
  obtain ⟨zs, ez, _⟩ := h.tk
  exact ⟨listAt_keep h.br k ne ⟨zs, ez⟩, L, fun b o hb n1 n2 => k _ _ (h.kp b o hb n1 n2) n2⟩
def spSign (K : PySem.W.Frag) : Sp := fun vs H Q _ => ∃ (a : List Nat) (i : Nat) (z : List Nat) (m : Int) (bp tp : Addr) (st st' : St) (ds : List PyData), vs = [.str (S a), .int (i : Nat), .int m, .ref bp, .ref tp] ∧ a.length ≤ 20000 ∧ i ≤ a.length ∧ SignAt a i z ∧ Fol z m st st' ∧ bp ≠ tp ∧
  Two K H H bp tp st ds ∧ st.length ≤ 20 ∧ ds.length ≤ 90000 ∧ ∀ H', Two K H H' bp tp st' (ds ++ [signD z m]) → Q (.int ((i + z.length : Nat) : Int)) H'
theorem ok_addsign {C B : Addr} {f : Addr} {fd : FuncData} (F : Fun K "_add_sign" "_add_sign" s_add_sign f fd) (T : Txt K mg) (U_follow_brackets : Use P w K mg base (L2.CX P w) "_follow_brackets" 3 P_follow_brackets (spFollow K)) (U_Fault : UseF P w K mg base C B) :
    FnG P w K mg base (L2.CX P w) 4 f fd P_add_sign (spSign K) := by
  refine okG F sc_add_sign (fun vs H Q E h => ?_) fun cdv A outer s H vs Q E hr hg h => ?_
  · obtain ⟨a, i, z, m, bp, tp, st, st', ds, rfl, _⟩ := h
    rfl
  · obtain ⟨a, i, z, m, bp, tp, st, st', ds, rfl, hal, hia, ⟨jz, hjz, hpre, hno⟩, hF, ne, W, hsl, hdl, k⟩ := h
    refine ⟨_, (pss_cons (ps_for (passes_of rfl) rfl (pi_tup (pe_globT T.c_SIGNS (by rfl))) (pg_name (i := 5) sc_add_sign.nd rfl (Or.inl rfl))
   (pss_one (ps_if (pt_val (pe_bm PySem.F.plainAttrs_str PySem.F.slot_str_startswith PySem.F.type_str_startswith mt_startswith3 (pv 0) (pa_cons (pv 5) (pa_cons (pv 1) pa_nil))))
   (pss_cons (ps_expr (pe_useR U_follow_brackets (takes_of rfl rfl rfl rfl) (hr.mono (by decide)) hg rfl (pa_cons (pv 5) (pa_cons (pv 2) (pa_cons (pv 3) pa_nil)))))
  (pss_cons (ps_expr (pe_bm PySem.F.plainAttrs_list PySem.F.slot_list_append PySem.F.type_list_append mt_append (pv 4) (pa_cons (pe_tup (pa_cons pe_str (pa_cons (pv 5) (pa_cons (pv 2) pa_nil)))) pa_nil)))
  (pss_one (ps_ret (pe_op op_add (pv 1) (pe_callB call_len (by rfl) T.b_len PySem.boot_len (pa_cons (pv 5) pa_nil)))))))
   pss_nil)))
  pss_never), ?_⟩
    have hz : (S a).length ≤ sizeLine := by rw [S_len]; exact Nat.le_trans hal (by decide)
    have hjl : jz < sgns.length := (List.getElem?_eq_some_iff.mp hjz).1
    refine fun ak kk => ⟨ak, rfl, ⟨_, kk.sq _⟩, ?_⟩
    refine for_tup (xs := sgns.map fun z => V.str (S z)) (fun t σ H1 => ∃ x5, σ = [some (.str (S a)), some (.int (i : Nat)), some (.int m), some (.ref bp), some (.ref tp), x5] ∧ H1 = H ∧ t ≤ jz) ⟨none, rfl, rfl, Nat.zero_le _⟩ ?_ ?_ ?_
    · rintro t σ H1 _ ⟨x5, rfl, rfl, _⟩
      exact kk.sq _
    · rintro t y σ H1 hy ⟨x5, rfl, rfl, hall⟩
      rw [List.getElem?_map] at hy
      obtain ⟨y, hys, rfl⟩ := Option.map_eq_some_iff.mp hy
      refine ⟨_, rfl, rfl, _, rfl, _, rfl, _, _, _, rfl, rfl, ?_⟩
      rw [starts3 hia]
      by_cases e : t = jz
      · subst e
        rw [hjz] at hys
        obtain rfl := Option.some.inj hys
        refine ⟨_, rfl, iteTb (decide_eq_true hpre.symm) ?_⟩
        refine ⟨_, rfl, _, rfl, _, rfl, z, m, bp, st, st', rfl, hF, W.br, hsl, fun H' L' K' => ?_⟩
        have hbl : ∃ xs, H1 bp = some (.lst xs) := let ⟨xs, e, _⟩ := W.br; ⟨xs, e⟩
        have W' : Two K H1 H' bp tp st' ds := ⟨L', listAt_keep W.tk K' (Ne.symm ne) hbl, fun b o hb n1 _ => K' b o hb n1⟩
        obtain ⟨zs, ez, az⟩ := id W'.tk
        have lz := az.length
        refine ⟨_, rfl, .inl ⟨rfl, _, SqL.of ez⟩, _, rfl, _, rfl, sz_3, fun u hu => ⟨tp, _, _, rfl, rfl, Same.new hu _ _ ez, Nat.lt_of_le_of_lt (show zs.length ≤ 100000 by omega) (by decide), ?_⟩⟩
        have W2 := W'.tok ne hu (ts := [.str "sign", .str (S z), .int m]) (.cons (.str _) (.cons (.str _) (.cons (.int _) .nil))) ez
        have hzl : z.length ≤ a.length := by
          have := congrArg List.length hpre
          rw [List.length_take, List.length_drop] at this
          omega
        refine ⟨_, rfl, _, rfl, _, _, rfl, ⟨by rw [S_len]; exact Nat.le_trans (show _ ≤ 20000 by omega) (by decide), rfl⟩, _, _, rfl, rfl, ?_⟩
        have k := k _ W2
        rw [S_len]
        exact k
      · refine ⟨_, rfl, iteFb (decide_eq_false fun h => hno t (by omega) y hys h.symm) ?_⟩
        exact ⟨_, rfl, rfl, by omega⟩
    · rintro σ H1 ⟨x5, rfl, rfl, hall⟩
      exfalso
      rw [List.length_map] at hall
      omega
/-! a line -/
def signC (c : Nat) : Bool := !(isW c) && c != 32 && c != 35 && c != 34 && c != 39 && decide (c < 128)
inductive Tok1 (a : List Nat) (m : Int) (i : Nat) : Nat → St → St → PyData → Prop
  | word {j c : Nat} {b : List Nat} {st : St} : a[i]? = some c → isL c = true → WordAt a i j b → (kwB b = true ∨ b.length ≤ 30) → Tok1 a m i j st st (wordD b m)
  | int {j c : Nat} {b : List Nat} {st : St} : a[i]? = some c → isD c = true → WordAt a i j b → IntOk b → Tok1 a m i j st st (intD b m)
  | text {q : Nat} {acc rest : List Nat} {st : St} : a[i]? = some q → isQ q → scan q (a.drop (i + 1)) [] = .done acc rest → ¬ 200 < acc.length → Tok1 a m i (a.length - rest.length) st st (textT acc m)
  | sign {c : Nat} {z : List Nat} {st st' : St} : a[i]? = some c → signC c = true → SignAt a i z → Fol z m st st' → Tok1 a m i (i + z.length) st st' (signD z m)
inductive Lex (a : List Nat) (m : Int) : Nat → St → List PyData → St → List PyData → Prop
  | fin {i : Nat} {st : St} {ds : List PyData} : (a.length ≤ i ∨ a[i]? = some 35) → Lex a m i st ds st ds
  | sp {i : Nat} {st st' : St} {ds ds' : List PyData} : a[i]? = some 32 → Lex a m (i + 1) st ds st' ds' → Lex a m i st ds st' ds'
  | tok {i j : Nat} {st st1 st' : St} {d : PyData} {ds ds' : List PyData} : Tok1 a m i j st st1 d → i < j → j ≤ a.length → Lex a m j st1 (ds ++ [d]) st' ds' → Lex a m i st ds st' ds'
theorem Lex.len {a : List Nat} {m : Int} {i : Nat} {st st' : St} {ds ds' : List PyData} (h : Lex a m i st ds st' ds') : ds.length ≤ ds'.length := by
  induction h with
  | fin => exact Nat.le_refl _
  | sp _ _ ih => exact ih
  | tok _ _ _ _ ih => rw [List.length_append] at ih; omega
theorem Fol.len {z : List Nat} {m : Int} {st st' : St} (h : Fol z m st st') (hl : st.length ≤ 20) : st'.length ≤ 20 := by
  cases h with
  | opn _ h => rw [List.length_append, List.length_singleton]; omega
  | cls => rw [List.length_append] at hl; omega
  | oth => exact hl
theorem Tok1.len {a : List Nat} {m : Int} {i j : Nat} {st st' : St} {d : PyData} (h : Tok1 a m i j st st' d) (hl : st.length ≤ 20) : st'.length ≤ 20 := by
  cases h with
  | word => exact hl
  | int => exact hl
  | text => exact hl
  | sign _ _ _ h => exact h.len hl
theorem inV_S {c : Nat} (ys : List Nat) : inV (.str (S [c])) (ys.map fun d => V.str (S [d])) = decide (c ∈ ys) := by
  unfold inV
  induction ys with
  | nil => rfl
  | cons y r ih =>
    rw [List.map_cons, List.any_cons, ih]
    have : eqV (.str (S [y])) (.str (S [c])) = decide (y = c) := by
      show (S [y] == S [c]) = _
      by_cases e : y = c
      · subst e; simp
      · have : S [y] ≠ S [c] := fun h => e (by have := S_inj h; simpa using this)
        simp [e, this]
    rw [this]
    by_cases e : y = c
    · subst e; simp
    · have : c ≠ y := fun h => e h.symm
      simp [e, this]
def spLine (K : PySem.W.Frag) : Sp := fun vs H Q _ => ∃ (a : List Nat) (m : Int) (bp tp : Addr) (st st' : St) (ds ds' : List PyData), vs = [.str (S a), .int m, .ref bp, .ref tp] ∧ a.length ≤ 20000 ∧ (∀ c ∈ a, c < 128) ∧ bp ≠ tp ∧ m.natAbs < 2 ^ 60 ∧
  Two K H H bp tp st ds ∧ st.length ≤ 20 ∧ Lex a m 0 st ds st' ds' ∧ ds'.length ≤ 90000 ∧ ∀ H', Two K H H' bp tp st' ds' → Q .non H'
theorem isL_isW {c : Nat} (h : isL c = true) : isW c = true := by unfold isW; rw [h, Bool.or_true]
theorem isD_isW {c : Nat} (h : isD c = true) : isW c = true := by unfold isW; rw [h, Bool.true_or]
theorem isD_notL {c : Nat} (h : isD c = true) : isL c = false ∧ c ≠ 95 := by
  simp [isD] at h
  refine ⟨?_, by omega⟩
  simp [isL]
  omega
theorem ok_addline {C : Addr} {f : Addr} {fd : FuncData} (F : Fun K "_add_line" "_add_line" s_add_line f fd) (T : Txt K mg) (U_add_word : Use P w K mg base (L2.CX P w) "_add_word" 3 P_add_word (spWord K)) (U_add_integer : Use P w K mg base (L2.CX P w) "_add_integer" 3 P_add_integer (spInt K))
    (U_add_text : Use P w K mg base (L2.CX P w) "_add_text" 4 P_add_text (spText K C)) (U_add_sign : Use P w K mg base (L2.CX P w) "_add_sign" 4 P_add_sign (spSign K)) :
    FnG P w K mg base (L2.CX P w) 5 f fd P_add_line (spLine K) := by
  refine okG F sc_add_line (fun vs H Q E h => ?_) fun cdv A outer s H vs Q E hr hg h => ?_
  · obtain ⟨a, m, bp, tp, st, st', ds, ds', rfl, _⟩ := h
    rfl
  · obtain ⟨a, m, bp, tp, st, st', ds, ds', rfl, hal, hlt, ne, hm, W, hsl, hX, hdl, k⟩ := h
    refine ⟨_, (pss_cons (ps_set (i := 4) sc_add_line.nd rfl (Or.inl rfl) pe_int)
  (pss_one (ps_while (passes_of rfl) (pt_up (PW.pt (pw_and (pt_cmpR op_lt (pv 4) (pe_callB call_len (by rfl) T.b_len PySem.boot_len (pa_cons (pv 0) pa_nil)) (nomark _)) (pw_and1 (pt_cmpR op_ne (pe_ix ix_str (pv 0) (pv 4) (fun _ _ => rfl)) pe_str (nomark _))))))
   (pss_one (ps_if (pt_cmpR op_eq (pe_ix ix_str (pv 0) (pv 4) (fun _ _ => rfl)) pe_str (nomark _))
   (pss_one (ps_aug (i := 4) sc_add_line.nd rfl (Or.inl rfl) pe_int ip_add))
   (pss_one (ps_if (PW.pt (pw_or (pt_val (pe_bm0 PySem.F.plainAttrs_str PySem.F.slot_str_isalpha PySem.F.type_str_isalpha mt_isalpha (pe_ix ix_str (pv 0) (pv 4) (fun _ _ => rfl)))) (pw_or1 (pt_cmpR op_eq (pe_ix ix_str (pv 0) (pv 4) (fun _ _ => rfl)) pe_str (nomark _)))))
   (pss_one (ps_set (i := 4) sc_add_line.nd rfl (Or.inl rfl) (pe_useR U_add_word (takes_of rfl rfl rfl rfl) (hr.mono (by decide)) hg rfl (pa_cons (pv 0) (pa_cons (pv 4) (pa_cons (pv 1) (pa_cons (pv 3) pa_nil)))))))
   (pss_one (ps_if (pt_val (pe_bm0 PySem.F.plainAttrs_str PySem.F.slot_str_isdigit PySem.F.type_str_isdigit mt_isdigit (pe_ix ix_str (pv 0) (pv 4) (fun _ _ => rfl))))
   (pss_one (ps_set (i := 4) sc_add_line.nd rfl (Or.inl rfl) (pe_useR U_add_integer (takes_of rfl rfl rfl rfl) (hr.mono (by decide)) hg rfl (pa_cons (pv 0) (pa_cons (pv 4) (pa_cons (pv 1) (pa_cons (pv 3) pa_nil)))))))
   (pss_one (ps_if (pt_cmpR op_in_seq (pe_ix ix_str (pv 0) (pv 4) (fun _ _ => rfl)) (pe_tup (pa_cons pe_str (pa_cons pe_str pa_nil))) (by rfl))
   (pss_one (ps_set (i := 4) sc_add_line.nd rfl (Or.inl rfl) (pe_useR U_add_text (takes_of rfl rfl rfl rfl) (hr.mono (by decide)) hg rfl (pa_cons (pv 0) (pa_cons (pv 4) (pa_cons (pv 1) (pa_cons (pv 3) pa_nil)))))))
   (pss_one (ps_set (i := 4) sc_add_line.nd rfl (Or.inl rfl) (pe_useR U_add_sign (takes_of rfl rfl rfl rfl) (hr.mono (by decide)) hg rfl (pa_cons (pv 0) (pa_cons (pv 4) (pa_cons (pv 1) (pa_cons (pv 2) (pa_cons (pv 3) pa_nil))))))))))))))))))), ?_⟩
    have hz : (S a).length ≤ sizeLine := by rw [S_len]; exact Nat.le_trans hal (by decide)
    refine while_up (fun σ H1 => ∃ (j : Nat) (st1 : St) (ds1 : List PyData), σ = [some (.str (S a)), some (.int m), some (.ref bp), some (.ref tp), some (.int (j : Nat))] ∧ j ≤ a.length ∧ Two K H H1 bp tp st1 ds1 ∧ st1.length ≤ 20 ∧ Lex a m j st1 ds1 st' ds')
      (fun (σ : L2.St) (_ : Hp) => match σ[4]? with | some (some (V.int j)) => (a.length - j).toNat | _ => 0) ⟨0, st, ds, rfl, Nat.zero_le _, W, hsl, hX⟩ ?_
    rintro σ H1 ⟨j, st1, ds1, rfl, hj, W1, hsl1, hX1⟩
    have hd1 := hX1.len
    refine ⟨_, rfl, _, rfl, _, _, rfl, ⟨hz, rfl⟩, _, _, rfl, rfl, _, rfl, ?_⟩
    refine ite3 (fun c => ?_) fun c => ?_
    · have c := of_decide_eq_true c
      rw [S_len] at c
      have hj : j < a.length := by omega
      obtain ⟨x, hc⟩ : ∃ x, a[j]? = some x := ⟨_, List.getElem?_eq_getElem hj⟩
      have hx128 := hlt x (List.mem_of_getElem? hc)
      cases hX1 with
      | fin hf =>
        obtain rfl : x = 35 := by
          rcases hf with hf | hf
          · omega
          · rw [hc] at hf; exact Option.some.inj hf
        refine ⟨_, rfl, _, rfl, S a, _, 35, rfl, rfl, hz, at_S hc, rfl, _, rfl, iteFb (by rw [hash_S, sign_eq, decide_eq_true rfl]; rfl) ?_⟩
        exact k _ W1
      | sp h32 hr =>
        obtain rfl : x = 32 := by rw [hc] at h32; exact Option.some.inj h32
        refine ⟨_, rfl, _, rfl, S a, _, 32, rfl, rfl, hz, at_S hc, rfl, _, rfl, iteTb (by rw [hash_S, sign_eq, decide_eq_false (by decide)]; rfl) ?_⟩
        refine ⟨_, rfl, _, rfl, S a, _, 32, rfl, rfl, hz, at_S hc, rfl, _, rfl, iteTb (by rw [sp_S, sign_eq]; exact decide_eq_true rfl) ?_⟩
        exact ⟨_, rfl, _, _, rfl, rfl, ⟨j + 1, st1, ds1, rfl, by omega, W1, hsl1, hr⟩, by simp; omega⟩
      | @tok _ j' _ st2 _ d _ _ ht hjj hj' hr =>
        have hsl2 := ht.len hsl1
        have hd2 := hr.len
        rw [List.length_append, List.length_singleton] at hd2
        have hne : x ≠ 35 ∧ x ≠ 32 := by
          cases ht with
          | word h1 h2 =>
            obtain rfl := Option.some.inj (hc.symm.trans h1)
            exact ⟨fun e => by subst e; exact absurd h2 (by decide), fun e => by subst e; exact absurd h2 (by decide)⟩
          | int h1 h2 =>
            obtain rfl := Option.some.inj (hc.symm.trans h1)
            exact ⟨fun e => by subst e; exact absurd h2 (by decide), fun e => by subst e; exact absurd h2 (by decide)⟩
          | text h1 h2 =>
            obtain rfl := Option.some.inj (hc.symm.trans h1)
            exact ⟨h2.ne.2.2.1, h2.ne.2.1⟩
          | sign h1 h2 =>
            obtain rfl := Option.some.inj (hc.symm.trans h1)
            exact ⟨fun e => by subst e; exact absurd h2 (by decide), fun e => by subst e; exact absurd h2 (by decide)⟩
        refine ⟨_, rfl, _, rfl, S a, _, x, rfl, rfl, hz, at_S hc, rfl, _, rfl, iteTb (by rw [hash_S, sign_eq, decide_eq_false hne.1]; rfl) ?_⟩
        refine ⟨_, rfl, _, rfl, S a, _, x, rfl, rfl, hz, at_S hc, rfl, _, rfl, iteFb (by rw [sp_S, sign_eq, decide_eq_false hne.2]) ?_⟩
        refine ⟨_, rfl, _, rfl, S a, _, x, rfl, rfl, hz, at_S hc, rfl, _, rfl, rfl, trivial, ?_⟩
        have ea : Txt.isalpha ⟨#[x]⟩ = (isL x && x != 95) := alpha1 (c := x) hx128
        have ed : Txt.isdigit ⟨#[x]⟩ = isD x := digit1 (c := x) hx128
        have go : ∀ H', ListAt K H' tp (ds1 ++ [d]) → Keep tp H1 H' → st2 = st1 → ∃ (j : Nat) (st1 : St) (ds1 : List PyData), ([some (.str (S a)), some (.int m), some (.ref bp), some (.ref tp), some (.int (j' : Nat))] : L2.St) = [some (.str (S a)), some (.int m), some (.ref bp), some (.ref tp), some (.int (j : Nat))] ∧ j ≤ a.length ∧ Two K H H' bp tp st1 ds1 ∧ st1.length ≤ 20 ∧ Lex a m j st1 ds1 st' ds' :=
          fun H' L' K' e => ⟨j', st1, ds1 ++ [d], rfl, hj', W1.tks ne L' K', hsl1, e ▸ hr⟩
        rw [ea]
        cases ht with
        | @word _ _ b _ h1 h2 h3 h4 =>
          obtain rfl := Option.some.inj (hc.symm.trans h1)
          by_cases h95 : x = 95
          · refine ⟨_, rfl, iteFb (by rw [h95]; decide) ?_⟩
            refine ⟨_, rfl, _, rfl, S a, _, x, rfl, rfl, hz, at_S hc, rfl, _, rfl, iteTb (by rw [us_S, sign_eq]; exact decide_eq_true h95) ?_⟩
            exact ⟨_, rfl, _, rfl, _, rfl, _, rfl, a, j, j', b, m, tp, ds1, rfl, hal, hlt, h3, h4, ⟨W1.tk, by omega, fun H' L' K' => ⟨go H' L' K' rfl, by simp; omega⟩⟩⟩
          · refine ⟨_, rfl, iteTb (by rw [h2, bne_iff_ne.mpr h95]; rfl) ?_⟩
            exact ⟨_, rfl, _, rfl, _, rfl, _, rfl, a, j, j', b, m, tp, ds1, rfl, hal, hlt, h3, h4, ⟨W1.tk, by omega, fun H' L' K' => ⟨go H' L' K' rfl, by simp; omega⟩⟩⟩
        | @int _ _ b _ h1 h2 h3 h4 =>
          obtain rfl := Option.some.inj (hc.symm.trans h1)
          obtain ⟨n1, n2⟩ := isD_notL h2
          refine ⟨_, rfl, iteFb (by rw [n1]; rfl) ?_⟩
          refine ⟨_, rfl, _, rfl, S a, _, x, rfl, rfl, hz, at_S hc, rfl, _, rfl, iteFb (by rw [us_S, sign_eq, decide_eq_false n2]) ?_⟩
          refine ⟨_, rfl, _, rfl, S a, _, x, rfl, rfl, hz, at_S hc, rfl, _, rfl, rfl, trivial, ?_⟩
          rw [ed]
          refine ⟨_, rfl, iteTb h2 ?_⟩
          exact ⟨_, rfl, _, rfl, _, rfl, _, rfl, a, j, j', b, m, tp, ds1, rfl, hal, hlt, h3, h4, ⟨W1.tk, by omega, fun H' L' K' => ⟨go H' L' K' rfl, by simp; omega⟩⟩⟩
        | @text _ acc rest _ h1 h2 h3 h4 =>
          obtain rfl := Option.some.inj (hc.symm.trans h1)
          obtain ⟨q92, x2, x1, x3, x6, x7, _⟩ := h2.ne
          have n1 : isL x = false := by simp [isW] at x7; exact x7.2
          have n2 : isD x = false := by simp [isW] at x7; exact x7.1
          refine ⟨_, rfl, iteFb (by rw [n1]; rfl) ?_⟩
          refine ⟨_, rfl, _, rfl, S a, _, x, rfl, rfl, hz, at_S hc, rfl, _, rfl, iteFb (by rw [us_S, sign_eq, decide_eq_false x3]) ?_⟩
          refine ⟨_, rfl, _, rfl, S a, _, x, rfl, rfl, hz, at_S hc, rfl, _, rfl, rfl, trivial, ?_⟩
          rw [ed, n2]
          refine ⟨_, rfl, iteFb rfl ?_⟩
          refine ⟨_, rfl, _, rfl, S a, _, x, rfl, rfl, hz, at_S hc, sz_2, fun u hu => ⟨u, _, rfl, .inr (SqT.of upd_same), rfl, rfl, _, rfl, iteTb ?_ ?_⟩⟩
          · have e3 : [V.str "\"", V.str "'"] = [34, 39].map fun d => V.str (S [d]) := by
              rw [show ("\"" : Str) = S [34] by decide +kernel, show ("'" : Str) = S [39] by decide +kernel]
              rfl
            rw [if_neg Bool.false_ne_true, e3]
            exact (inV_S (c := x) [34, 39]).trans (decide_eq_true (by rcases h2 with rfl | rfl <;> simp))
          have S2 := Same.new (o := .tup [.str "\"", .str "'"]) hu
          refine ⟨_, rfl, _, rfl, _, rfl, _, rfl, a, j, x, m, tp, ds1, rfl, hal, hc, h2, hlt, listAt_mono W1.tk S2, by omega, hm, ?_⟩
          rw [h3]
          show (if 200 < acc.length then _ else _)
          rw [if_neg h4]
          exact fun H' L' K' => ⟨go H' L' (fun b o hb ne => K' _ _ (S2 _ _ hb) ne) rfl, by simp; omega⟩
        | @sign _ z _ _ h1 h2 h3 h4 =>
          obtain rfl := Option.some.inj (hc.symm.trans h1)
          obtain ⟨x7, x3, x4, x5⟩ : isW x = false ∧ x ≠ 95 ∧ x ≠ 34 ∧ x ≠ 39 := by
            simp [signC] at h2
            refine ⟨h2.1.1.1.1.1, fun e => ?_, h2.1.1.2, h2.1.2⟩
            subst e
            exact absurd h2.1.1.1.1.1 (by decide)
          have n1 : isL x = false := by simp [isW] at x7; exact x7.2
          have n2 : isD x = false := by simp [isW] at x7; exact x7.1
          refine ⟨_, rfl, iteFb (by rw [n1]; rfl) ?_⟩
          refine ⟨_, rfl, _, rfl, S a, _, x, rfl, rfl, hz, at_S hc, rfl, _, rfl, iteFb (by rw [us_S, sign_eq, decide_eq_false x3]) ?_⟩
          refine ⟨_, rfl, _, rfl, S a, _, x, rfl, rfl, hz, at_S hc, rfl, _, rfl, rfl, trivial, ?_⟩
          rw [ed, n2]
          refine ⟨_, rfl, iteFb rfl ?_⟩
          refine ⟨_, rfl, _, rfl, S a, _, x, rfl, rfl, hz, at_S hc, sz_2, fun u hu => ⟨u, _, rfl, .inr (SqT.of upd_same), rfl, rfl, _, rfl, iteFb ?_ ?_⟩⟩
          · have e3 : [V.str "\"", V.str "'"] = [34, 39].map fun d => V.str (S [d]) := by
              rw [show ("\"" : Str) = S [34] by decide +kernel, show ("'" : Str) = S [39] by decide +kernel]
              rfl
            rw [if_neg Bool.false_ne_true, e3]
            exact (inV_S (c := x) [34, 39]).trans (decide_eq_false (by simp [x4, x5]))
          have S2 := Same.new (o := .tup [.str "\"", .str "'"]) hu
          have W2 := W1.same S2
          generalize upd H1 u _ = H2 at W2 S2
          refine ⟨_, rfl, _, rfl, _, rfl, _, rfl, _, rfl, a, j, z, m, bp, tp, st1, st2, ds1, rfl, hal, by omega, h3, h4, ne, W2.refl, hsl1, by omega, fun H' W3 => ?_⟩
          exact ⟨⟨_, st2, ds1 ++ [signD z m], rfl, hj', W2.trans W3, hsl2, hr⟩, by simp; omega⟩
    · have c := of_decide_eq_false c
      rw [S_len] at c
      cases hX1 with
      | fin => exact k _ W1
      | sp h32 => have := (List.getElem?_eq_some_iff.mp h32).1; omega
      | tok ht hjj hj' => omega
theorem Lex.stl {a : List Nat} {m : Int} {i : Nat} {st st' : St} {ds ds' : List PyData} (h : Lex a m i st ds st' ds') (hl : st.length ≤ 20) : st'.length ≤ 20 := by
  induction h with
  | fin => exact hl
  | sp _ _ ih => exact ih hl
  | tok ht _ _ _ ih => exact ih (ht.len hl)
theorem cut_tail (x : V) (xs : List V) : cutV (x :: xs) (some 1) none = xs := by
  unfold cutV
  rw [show (some (1 : Int)) = some ((1 : Nat) : Int) from rfl, HT.sIx_nat, HT.sIx_none, Nat.min_eq_left (by simp)]
  simp
/-! the lines of a text -/
def nlT (m : Int) : PyData := .tuple [.str "newline", .str "", .int m]
def endT (m : Int) : PyData := .tuple [.str "end", .str "", .int m]
def nlIf (st : St) (ds : List PyData) (m : Int) : List PyData := if st = [] then ds ++ [nlT m] else ds
inductive Ind (s : Nat) (m : Int) : List Int → List PyData → List Int → List PyData → Prop
  | inn {xs : List Int} {ds : List PyData} {t : Int} : xs.getLast? = some t → t < (s : Int) → Ind s m xs ds (xs ++ [(s : Int)]) (ds ++ [indT m])
  | out {xs : List Int} {ds : List PyData} {k : Nat} : xs[k]? = some (s : Int) → (∀ i u, k < i → xs[i]? = some u → (s : Int) < u) → Ind s m xs ds (xs.take (k + 1)) (ds ++ List.replicate (xs.length - (k + 1)) (dedT m))
inductive Lns : List (List Nat) → Nat → St → List Int → List PyData → List Int → List PyData → Prop
  | nil {n : Nat} {xs : List Int} {ds : List PyData} : Lns [] n [] xs ds xs ds
  | blank {l : List Nat} {r : List (List Nat)} {n : Nat} {xs xs' : List Int} {ds ds' : List PyData} : blankB l = true → Lns r (n + 1) [] xs ds xs' ds' → Lns (l :: r) n [] xs ds xs' ds'
  | out {l : List Nat} {r : List (List Nat)} {n : Nat} {st2 : St} {xs xs1 xs' : List Int} {ds ds1 ds2 ds' : List PyData} : blankB l = false → Ind (spaces l) ((n : Int) + 1) xs ds xs1 ds1 → Lex l ((n : Int) + 1) 0 [] ds1 st2 ds2 → Lns r (n + 1) st2 xs1 (nlIf st2 ds2 ((n : Int) + 1)) xs' ds' → Lns (l :: r) n [] xs ds xs' ds'
  | inn {l : List Nat} {r : List (List Nat)} {n : Nat} {st st2 : St} {xs xs' : List Int} {ds ds2 ds' : List PyData} : st ≠ [] → Lex l ((n : Int) + 1) 0 st ds st2 ds2 → Lns r (n + 1) st2 xs (nlIf st2 ds2 ((n : Int) + 1)) xs' ds' → Lns (l :: r) n st xs ds xs' ds'
theorem nlIf_len (st : St) (ds : List PyData) (m : Int) : ds.length ≤ (nlIf st ds m).length := by
  unfold nlIf
  split
  · simp
  · exact Nat.le_refl _
theorem Ind.len {s : Nat} {m : Int} {xs xs1 : List Int} {ds ds1 : List PyData} (h : Ind s m xs ds xs1 ds1) : ds.length ≤ ds1.length ∧ xs1.length ≤ xs.length + 1 ∧ (xs[0]? = some 0 → xs1[0]? = some 0) := by
  cases h with
  | inn h1 h2 =>
    refine ⟨by simp, by simp, fun h0 => ?_⟩
    rw [List.getElem?_append_left (List.getElem?_eq_some_iff.mp h0).1]
    exact h0
  | out h1 h2 =>
    refine ⟨by simp, by rw [List.length_take]; omega, fun h0 => ?_⟩
    rw [List.getElem?_take, if_pos (by omega)]
    exact h0
theorem Lns.len {Ls : List (List Nat)} {n : Nat} {st : St} {xs xs' : List Int} {ds ds' : List PyData} (h : Lns Ls n st xs ds xs' ds') : ds.length ≤ ds'.length := by
  induction h with
  | nil => exact Nat.le_refl _
  | blank _ _ ih => exact ih
  | out _ h1 h2 _ ih => exact Nat.le_trans h1.len.1 (Nat.le_trans h2.len (Nat.le_trans (nlIf_len _ _ _) ih))
  | inn _ h2 _ ih => exact Nat.le_trans h2.len (Nat.le_trans (nlIf_len _ _ _) ih)
structure LsOk (Ls : List (List Nat)) : Prop where
  ne : Ls ≠ []
  no : ∀ p ∈ Ls, 10 ∉ p
  w : ∀ c ∈ TL.joinL [10] Ls, okC c = true
  ln : ∀ l ∈ Ls, l.length ≤ 20000 ∧ ∀ c ∈ l, c < 128
  tot : (TL.joinL [10] Ls).length ≤ 20000
  len : Ls.length ≤ 10000
def spSplitV (K : PySem.W.Frag) : Sp := fun vs H Q _ => ∃ (Ls : List (List Nat)) (xs : List Int) (ds : List PyData), vs = [.str (S (TL.joinL [10] Ls))] ∧ LsOk Ls ∧ Lns Ls 0 [] [0] [] xs ds ∧ ds.length ≤ 70000 ∧
  ∀ tp H', H tp = none → Same H H' → ListAt K H' tp (ds ++ List.replicate (xs.length - 1) (dedT (Ls.length : Nat)) ++ [endT (Ls.length : Nat)]) → Q (.ref tp) H'
/-- brackets, indents, tokens -/
structure Thr (K : PySem.W.Frag) (H0 H : Hp) (bp ip tp : Addr) (st : St) (xs : List Int) (ds : List PyData) : Prop where
  br : ListAt K H bp (st.map brD)
  ix : H ip = some (.lst (xs.map V.int))
  tk : ListAt K H tp ds
  kp : ∀ b o, H0 b = some o → b ≠ bp → b ≠ ip → b ≠ tp → H b = some o
theorem Thr.same {H0 H H' : Hp} {bp ip tp : Addr} {st : St} {xs : List Int} {ds : List PyData} (h : Thr K H0 H bp ip tp st xs ds) (e : Same H H') : Thr K H0 H' bp ip tp st xs ds := ⟨listAt_mono h.br e, e _ _ h.ix, listAt_mono h.tk e, fun b o hb n1 n2 n3 => e _ _ (h.kp b o hb n1 n2 n3)⟩
theorem ok_split {C B : Addr} {f : Addr} {fd : FuncData} (F : Fun K "split" "split" s_split f fd) (T : Txt K mg) (U_check_characters : Use P w K mg base CX0 "_check_characters" 1 P_check_characters spCheck) (U_is_blank : Use P w K mg base CX0 "_is_blank" 1 P_is_blank spBlank)
    (U_add_indents : Use P w K mg base (L2.CX P w) "_add_indents" 3 P_add_indents (spIndents K C)) (U_add_line : Use P w K mg base (L2.CX P w) "_add_line" 5 P_add_line (spLine K)) (U_Fault : UseF P w K mg base C B) : FnG P w K mg base (L2.CX P w) 6 f fd P_split (spSplitV K) := by
  refine okG F sc_split (fun vs H Q E h => ?_) fun cdv A outer s H vs Q E hr hg h => ?_
  · obtain ⟨Ls, xs, ds, rfl, _⟩ := h
    rfl
  · obtain ⟨Ls, xsF, dsF, rfl, ok, hLs, hdF, k⟩ := h
    refine ⟨_, (pss_cons (ps_expr (pe_use U_check_characters (hr.mono (by decide)) hg rfl (pa_cons (pv 0) pa_nil)))
  (pss_cons (ps_set (i := 1) sc_split.nd rfl (Or.inl rfl) (pe_lst pa_nil))
  (pss_cons (ps_set (i := 2) sc_split.nd rfl (Or.inl rfl) (pe_lst (pa_cons pe_int pa_nil)))
  (pss_cons (ps_set (i := 3) sc_split.nd rfl (Or.inl rfl) (pe_lst pa_nil))
  (pss_cons (ps_set (i := 4) sc_split.nd rfl (Or.inl rfl) (pe_bm PySem.F.plainAttrs_str PySem.F.slot_str_split PySem.F.type_str_split mt_split (pv 0) (pa_cons pe_str pa_nil)))
  (pss_cons (ps_for (passes_of rfl) rfl (pi_enum (by rfl) T.b_enumerate (pa_cons (pv 4) pa_nil)) (pg_tup (by rfl) (pgs_cons (pg_name (i := 5) sc_split.nd rfl (Or.inl rfl)) (pgs_cons (pg_name (i := 6) sc_split.nd rfl (Or.inl rfl)) pgs_nil)))
   (C8.pss_cut (ps_if (pt_not (pt_truth (pv 3) (by intro _; rfl)))
   (pss_cons (ps_if (pt_val (pe_use U_is_blank (hr.mono (by decide)) hg rfl (pa_cons (pv 6) pa_nil)))
   (pss_one ps_continue)
   pss_nil)
  (pss_one (ps_expr (pe_useR U_add_indents (takes_of rfl rfl rfl rfl) (hr.mono (by decide)) hg rfl (pa_cons (pv 6) (pa_cons (pe_op op_add (pv 5) pe_int) (pa_cons (pv 2) (pa_cons (pv 1) pa_nil))))))))
   pss_nil)
  (pss_cons (ps_expr (pe_useR U_add_line (takes_of rfl rfl rfl rfl) (hr.mono (by decide)) hg rfl (pa_cons (pv 6) (pa_cons (pe_op op_add (pv 5) pe_int) (pa_cons (pv 3) (pa_cons (pv 1) pa_nil))))))
  (pss_one (ps_if (pt_not (pt_truth (pv 3) (by intro _; rfl)))
   (pss_one (ps_expr (pe_bm PySem.F.plainAttrs_list PySem.F.slot_list_append PySem.F.type_list_append mt_append (pv 1) (pa_cons (pe_tup (pa_cons pe_str (pa_cons pe_str (pa_cons (pe_op op_add (pv 5) pe_int) pa_nil)))) pa_nil))))
   pss_nil)))))
  (pss_cons (ps_if (pt_truth (pv 3) (by intro _; rfl))
   pss_never
   pss_nil)
  (pss_cons (ps_for (passes_of rfl) rfl (pi_list (pe_slice sl_list (pv 2) (po_some pe_int) po_none)) (pg_name (i := 7) sc_split.nd rfl (Or.inl rfl))
   (pss_one (ps_expr (pe_bm PySem.F.plainAttrs_list PySem.F.slot_list_append PySem.F.type_list_append mt_append (pv 1) (pa_cons (pe_tup (pa_cons pe_str (pa_cons pe_str (pa_cons (pe_callB call_len (by rfl) T.b_len PySem.boot_len (pa_cons (pv 4) pa_nil)) pa_nil)))) pa_nil)))))
  (pss_cons (ps_expr (pe_bm PySem.F.plainAttrs_list PySem.F.slot_list_append PySem.F.type_list_append mt_append (pv 1) (pa_cons (pe_tup (pa_cons pe_str (pa_cons pe_str (pa_cons (pe_callB call_len (by rfl) T.b_len PySem.boot_len (pa_cons (pv 4) pa_nil)) pa_nil)))) pa_nil)))
  (pss_one (ps_ret (pv 1)))))))))))), ?_⟩
    have hJ := ok.tot
    have hlen := ok.len
    refine ⟨_, rfl, _, rfl, by omega, ok.w, ?_⟩
    refine ⟨sz_0, fun tp htp => ⟨sz_1, fun ip hip => ⟨sz_0, fun bp hbp => ?_⟩⟩⟩
    have e0 : Txt.split (S (TL.joinL [10] Ls)) "\n" = Ls.map S := by
      rw [nl_S, split_S (by simp) (by decide), SX.spl_join (c := 10) (sep := []) ok.ne ok.no]
    refine ⟨_, rfl, rfl, _, _, rfl, rfl, by decide +kernel, by rw [S_len]; exact Nat.le_trans (show _ ≤ 30000 by omega) (by decide), fun lp hlp => ?_⟩
    rw [e0]
    have nti : tp ≠ ip := ne_of_none upd_same hip
    have ntb : tp ≠ bp := ne_of_none (show (upd (upd H tp (.lst [])) ip (.lst [.int 0])) tp = some (.lst []) by rw [upd_ne nti, upd_same]) hbp
    have nib : ip ≠ bp := ne_of_none upd_same hbp
    have S1 := ((Same.new (o := .lst []) htp).trans (Same.new (o := .lst [.int 0]) hip)).trans (Same.new (o := .lst []) hbp)
    have et : (upd (upd (upd H tp (.lst [])) ip (.lst [.int 0])) bp (.lst [])) tp = some (.lst []) := by rw [upd_ne ntb, upd_ne nti, upd_same]
    have ei : (upd (upd (upd H tp (.lst [])) ip (.lst [.int 0])) bp (.lst [])) ip = some (.lst [.int 0]) := by rw [upd_ne nib, upd_same]
    have eb : (upd (upd (upd H tp (.lst [])) ip (.lst [.int 0])) bp (.lst [])) bp = some (.lst []) := upd_same
    have S2 := Same.new (o := .lst ((Ls.map S).map V.str)) hlp
    have nlt : lp ≠ tp := fun e => by subst e; rw [hlp] at et; cases et
    have nli : lp ≠ ip := fun e => by subst e; rw [hlp] at ei; cases ei
    have nlb : lp ≠ bp := fun e => by subst e; rw [hlp] at eb; cases eb
    have et := S2 _ _ et
    have ei := S2 _ _ ei
    have eb := S2 _ _ eb
    have el := upd_same (H := upd (upd (upd H tp (.lst [])) ip (.lst [.int 0])) bp (.lst [])) (a := lp) (o := HO.lst ((Ls.map S).map V.str))
    have S4 := S1.trans S2
    have back : ∀ {H1 H2 : Hp} {b : Addr}, Same H1 H2 → H2 b = none → H1 b = none := fun {H1 H2 b} S h => by
      cases e : H1 b with
      | none => rfl
      | some o => rw [S _ _ e] at h; cases h
    have hipH : H ip = none := back (Same.new (o := .lst []) htp) hip
    have hbpH : H bp = none := back ((Same.new (o := .lst []) htp).trans (Same.new (o := .lst [.int 0]) hip)) hbp
    clear S1 S2
    generalize upd (upd (upd (upd H tp (.lst [])) ip (.lst [.int 0])) bp (.lst [])) lp _ = H4 at et ei eb el S4
    have W4 : Thr K H4 H4 bp ip tp [] [0] [] := ⟨⟨[], eb, .nil⟩, ei, ⟨[], et, .nil⟩, fun _ _ h _ _ _ => h⟩
    have keepH : ∀ st xs ds H', Thr K H4 H' bp ip tp st xs ds → Same H H' := fun st xs ds H' W b o hb => W.kp b o (S4 b o hb) (ne_of_none hb hbpH) (ne_of_none hb hipH) (ne_of_none hb htp)
    have llen : ((Ls.map S).map V.str).length = Ls.length := by simp
    have ntp : bp ≠ tp := Ne.symm ntb
    refine ⟨_, rfl, lp, _, rfl, SqL.of el, ?_⟩
    refine for_it (walk_enum (xs := (Ls.map S).map V.str)) (fun i σ H5 => ∃ (st : St) (xs : List Int) (ds : List PyData) (x5 x6 : Option V), σ = [some (.str (S (TL.joinL [10] Ls))), some (.ref tp), some (.ref ip), some (.ref bp), some (.ref lp), x5, x6, none, none] ∧
      Lns (Ls.drop i) i st xs ds xsF dsF ∧ Thr K H4 H5 bp ip tp st xs ds ∧ st.length ≤ 20 ∧ xs.length ≤ i + 1 ∧ xs[0]? = some 0)
      ⟨[], [0], [], none, none, rfl, hLs, W4, by simp, by simp, rfl⟩ ?_ ?_ ?_
    · rintro i σ H5 hi ⟨st, xs, ds, x5, x6, rfl, _, W5, _⟩
      exact SqL.of (W5.kp _ _ el nlb nli nlt)
    · rintro i x σ H5 H6 hi ⟨st, xs, ds, x5, x6, rfl, hrun, W5, hst, hxs, hx0⟩ ⟨u, y1, y2, rfl, hu, rfl, e1, e2⟩
      rw [llen] at hi
      obtain rfl := Option.some.inj e1
      have hLi : Ls[i]? = some Ls[i] := List.getElem?_eq_getElem hi
      have hdrop : Ls.drop i = Ls[i] :: Ls.drop (i + 1) := List.drop_eq_getElem_cons hi
      obtain ⟨hll, hlw⟩ := ok.ln _ (List.getElem_mem hi)
      generalize Ls[i] = l at hLi hdrop hll hlw
      have e2 : y2 = V.str (S l) := by
        have e2 : ((Ls.map S).map V.str)[i]? = some y2 := e2
        rw [List.getElem?_map, List.getElem?_map, hLi] at e2
        exact (Option.some.inj e2).symm
      subst e2
      rw [hdrop] at hrun
      have hdl := hrun.len
      have W6 : Thr K H4 (upd H5 u (.tup [.int (i : Nat), .str (S l)])) bp ip tp st xs ds := W5.same (Same.new hu)
      refine ⟨u, _, rfl, SqT.of upd_same, rfl, _, _, rfl, _, _, rfl, rfl, ?_⟩
      generalize upd H5 u _ = H6 at W6
      have hib : (((i : Nat) : Int) + 1).natAbs < 2 ^ 60 := Nat.lt_of_le_of_lt (show _ ≤ 20000 by omega) (by decide)
      obtain ⟨zb, ezb, azb⟩ := id W6.br
      have lzb := azb.length
      rw [List.length_map] at lzb
      refine ⟨fun σ H7 => σ = [some (.str (S (TL.joinL [10] Ls))), some (.ref tp), some (.ref ip), some (.ref bp), some (.ref lp), some (.int (i : Nat)), some (.str (S l)), none, none] ∧ ∃ xs1 ds1 st2 ds2, Thr K H4 H7 bp ip tp st xs1 ds1 ∧ Lex l ((i : Int) + 1) 0 st ds1 st2 ds2 ∧
        Lns (Ls.drop (i + 1)) (i + 1) st2 xs1 (nlIf st2 ds2 ((i : Int) + 1)) xsF dsF ∧ xs1.length ≤ i + 1 + 1 ∧ xs1[0]? = some 0, ?_, ?_⟩
      · refine ⟨_, rfl, _, .inl ⟨_, SqL.of ezb, rfl⟩, ?_⟩
        cases hrun with
        | blank hbl hr =>
          obtain rfl : zb = [] := List.length_eq_zero_iff.mp (by simpa using lzb)
          refine iteTb rfl ?_
          refine ⟨_, rfl, l, rfl, hll, ⟨_, rfl, ?_⟩⟩
          rw [hbl]
          refine iteTb rfl ?_
          exact ⟨[], xs, ds, _, _, rfl, hr, W6, by simp, by omega, hx0⟩
        | @out _ _ _ st2 _ xs1 _ _ ds1 ds2 _ hbl hI hX hr =>
          obtain rfl : zb = [] := List.length_eq_zero_iff.mp (by simpa using lzb)
          refine iteTb rfl ?_
          refine ⟨_, rfl, l, rfl, hll, ⟨_, rfl, ?_⟩⟩
          rw [hbl]
          refine iteFb rfl ?_
          obtain ⟨i1, i2, i3⟩ := hI.len
          have fin : ∀ H7, AtIn K ip tp xs1 ds1 H6 H7 → Thr K H4 H7 bp ip tp [] xs1 ds1 := fun H7 A7 => ⟨⟨[], A7.2.2 _ _ ezb (Ne.symm nib) ntp, .nil⟩, A7.1, A7.2.1, fun b o hb n1 n2 n3 => A7.2.2 b o (W6.kp b o hb n1 n2 n3) n2 n3⟩
          refine ⟨_, rfl, _, rfl, _, _, rfl, rfl, _, rfl, _, rfl, l, _, ip, tp, xs, ds, rfl, hll, hib, Ne.symm nti, ⟨W6.ix, W6.tk, fun _ _ h _ _ => h⟩, by omega, by omega, hx0, fun kk t hk he hlt H7 A7 => ?_, fun kk t hk hall hn hlast H7 A7 => ?_⟩
          · cases hI with
            | inn h1 h2 => exact ⟨rfl, _, _, st2, ds2, fin H7 A7, hX, hr, by omega, i3 hx0⟩
            | @out k0 h1 h2 =>
              exfalso
              by_cases e : k0 = kk
              · subst e
                rw [h1] at hk
                have := Option.some.inj hk
                omega
              · have h3 := (List.getElem?_eq_some_iff.mp h1).1
                have := h2 kk t (by omega) hk
                omega
          · cases hI with
            | @inn t0 h1 h2 =>
              exfalso
              have hl0 : xs[xs.length - 1]? = some t0 := by rw [← List.getLast?_eq_getElem?]; exact h1
              have h3 := (List.getElem?_eq_some_iff.mp hk).1
              by_cases e : kk + 1 = xs.length
              · have : t = t0 := by
                  rw [show kk = xs.length - 1 by omega, hl0] at hk
                  exact (Option.some.inj hk).symm
                exact hlast e (this ▸ h2)
              · have := hall (xs.length - 1) t0 (by omega) hl0
                omega
            | @out k0 h1 h2 =>
              have hk0 : k0 = kk := by
                by_cases e : k0 < kk
                · have := h2 kk t e hk; omega
                · by_cases e2 : kk < k0
                  · have := hall k0 _ e2 h1; omega
                  · omega
              subst hk0
              have ht : t = ((spaces l : Nat) : Int) := by rw [h1] at hk; exact (Option.some.inj hk).symm
              exact ⟨fun _ => ⟨rfl, _, _, st2, ds2, fin H7 A7, hX, hr, by omega, i3 hx0⟩, fun hne => absurd ht hne⟩
        | @inn _ _ _ _ st2 _ _ _ ds2 _ hne hX hr =>
          refine iteFb ?_ ?_
          · cases zb with
            | nil => exact absurd (List.length_eq_zero_iff.mp (by simpa using lzb.symm)) hne
            | cons => rfl
          · exact ⟨rfl, xs, ds, st2, ds2, W6, hX, hr, by omega, hx0⟩
      · rintro _ H7 ⟨rfl, xs1, ds1, st2, ds2, W7, hX, hr, hx1, hx2⟩
        have hl2 := nlIf_len st2 ds2 ((i : Int) + 1)
        have hl3 := hr.len
        refine ⟨_, rfl, _, rfl, _, _, rfl, rfl, _, rfl, _, rfl, l, _, bp, tp, st, st2, ds1, ds2, rfl, hll, hlw, ntp, hib, ⟨W7.br, W7.tk, fun _ _ h _ _ => h⟩, hst, hX, by omega, fun H8 W8' => ?_⟩
        have W8 : Thr K H4 H8 bp ip tp st2 xs1 ds2 := ⟨W8'.br, W8'.kp _ _ W7.ix nib (Ne.symm nti), W8'.tk, fun b o hb n1 n2 n3 => W8'.kp b o (W7.kp b o hb n1 n2 n3) n1 n3⟩
        have hst2 := hX.stl hst
        obtain ⟨zc, ezc, azc⟩ := id W8.br
        have lzc := azc.length
        rw [List.length_map] at lzc
        refine ⟨_, rfl, _, .inl ⟨_, SqL.of ezc, rfl⟩, ?_⟩
        cases st2 with
        | cons q st3 =>
          obtain ⟨z1, z2, rfl⟩ : ∃ z1 z2, zc = z1 :: z2 := by
            cases zc with
            | nil => simp at lzc
            | cons a b => exact ⟨a, b, rfl⟩
          exact iteFb rfl ⟨q :: st3, xs1, ds2, _, _, rfl, hr, W8, hst2, hx1, hx2⟩
        | nil =>
          obtain rfl : zc = [] := List.length_eq_zero_iff.mp (by simpa using lzc)
          refine iteTb rfl ?_
          obtain ⟨zs, ez, az⟩ := id W8.tk
          have lz := az.length
          refine ⟨_, rfl, .inl ⟨rfl, _, SqL.of ez⟩, _, rfl, _, _, rfl, rfl, sz_3, fun u2 hu2 => ⟨tp, _, _, rfl, rfl, Same.new hu2 _ _ ez, Nat.lt_of_le_of_lt (show zs.length ≤ 200000 by omega) (by decide), ?_⟩⟩
          have S9 := Same.new (o := .tup [.str "newline", .str "", .int ((i : Nat) + 1)]) hu2
          have W9 := W8.same S9
          refine ⟨[], xs1, ds2 ++ [nlT ((i : Nat) + 1)], _, _, rfl, hr, ⟨⟨[], ?_, .nil⟩, ?_, listAt_app W9.tk (S9 _ _ ez) (Dt.made hu2 (.cons (.str _) (.cons (.str _) (.cons (.int _) .nil)))), fun b o hb n1 n2 n3 => ?_⟩, by simp, hx1, hx2⟩
          · rw [upd_ne ntp]; exact S9 _ _ ezc
          · rw [upd_ne (Ne.symm nti)]; exact W9.ix
          · rw [upd_ne n3]; exact W9.kp b o hb n1 n2 n3
    · rintro σ H5 ⟨st, xs, ds, x5, x6, rfl, hrun, W5, hst, hxs, hx0⟩
      rw [llen] at hrun
      rw [List.drop_length] at hrun
      cases hrun
      obtain ⟨zb, ezb, azb⟩ := id W5.br
      obtain rfl : zb = [] := List.length_eq_zero_iff.mp (by have := azb.length; simpa using this)
      refine ⟨_, rfl, _, .inl ⟨_, SqL.of ezb, rfl⟩, ?_⟩
      refine iteFb rfl ?_
      obtain ⟨ys, rfl⟩ : ∃ ys, xsF = 0 :: ys := by
        cases xsF with
        | nil => simp at hx0
        | cons a b => exact ⟨b, by rw [Option.some.inj (show some a = some 0 from hx0)]⟩
      have el5 := W5.kp _ _ el nlb nli nlt
      have ys20 : ys.length ≤ 10000 := by rw [List.length_cons, llen] at hxs; omega
      refine ⟨_, rfl, _, rfl, ip, _, rfl, SqL.of W5.ix, fun z hz2 => ⟨z, rfl, ⟨_, SqL.of upd_same⟩, ?_⟩⟩
      have hcs : cutV ((0 :: ys : List Int).map V.int) (some 1) none = ys.map V.int := cut_tail _ _
      rw [hcs]
      have S6 := Same.new (o := .lst (ys.map V.int)) hz2
      have ez6 := upd_same (H := H5) (a := z) (o := HO.lst (ys.map V.int))
      have W6 := W5.same S6
      have el6 := S6 _ _ el5
      have nzt : z ≠ tp := fun e => by subst e; obtain ⟨zs, ez, _⟩ := W5.tk; rw [hz2] at ez; cases ez
      generalize upd H5 z _ = H6 at S6 ez6 W6 el6
      refine for_list (xs := ys.map V.int) (fun i σ H7 => ∃ x7, σ = [some (.str (S (TL.joinL [10] Ls))), some (.ref tp), some (.ref ip), some (.ref bp), some (.ref lp), x5, x6, x7, none] ∧ ListAt K H7 tp (dsF ++ List.replicate i (dedT (Ls.length : Nat))) ∧ Keep tp H6 H7) ⟨none, rfl, by simpa using W6.tk, fun _ _ h _ => h⟩ ?_ ?_ ?_
      · rintro i σ H7 _ ⟨x7, rfl, L7, K7⟩
        exact SqL.of (K7 _ _ ez6 nzt)
      · rintro i y σ H7 hy ⟨x7, rfl, L7, K7⟩
        have hi : i < ys.length := by have := (List.getElem?_eq_some_iff.mp hy).1; simpa using this
        obtain ⟨zs, ez, az⟩ := id L7
        have lz := az.length
        rw [List.length_append, List.length_replicate] at lz
        have el7 := K7 _ _ el6 nlt
        refine ⟨_, rfl, .inl ⟨rfl, _, SqL.of ez⟩, _, rfl, _, _, rfl, .inl ⟨_, SqL.of el7, rfl⟩, sz_3, fun u2 hu2 => ⟨tp, _, _, rfl, rfl, Same.new hu2 _ _ ez, Nat.lt_of_le_of_lt (show zs.length ≤ 200000 by omega) (by decide), ?_⟩⟩
        have S9 := Same.new (o := .tup [.str "dedent", .str "", .int (((Ls.map S).map V.str).length : Nat)]) hu2
        refine ⟨_, rfl, ?_, fun b o hb ne => by rw [upd_ne ne]; exact S9 _ _ (K7 b o hb ne)⟩
        have L9 := listAt_app (listAt_mono L7 S9) (S9 _ _ ez) (Dt.made hu2 (.cons (.str "dedent") (.cons (.str "") (.cons (.int (((Ls.map S).map V.str).length : Nat)) .nil))))
        rw [List.append_assoc, llen, show [PyData.tuple [.str "dedent", .str "", .int (Ls.length : Nat)]] = [dedT (Ls.length : Nat)] from rfl, ← List.replicate_succ'] at L9
        rw [llen]
        exact L9
      · rintro σ H7 ⟨x7, rfl, L7, K7⟩
        rw [List.length_map] at L7
        obtain ⟨zs, ez, az⟩ := id L7
        have lz := az.length
        rw [List.length_append, List.length_replicate] at lz
        have el7 := K7 _ _ el6 nlt
        refine ⟨_, rfl, .inl ⟨rfl, _, SqL.of ez⟩, _, rfl, _, _, rfl, .inl ⟨_, SqL.of el7, rfl⟩, sz_3, fun u2 hu2 => ⟨tp, _, _, rfl, rfl, Same.new hu2 _ _ ez, Nat.lt_of_le_of_lt (show zs.length ≤ 200000 by omega) (by decide), ?_⟩⟩
        have S9 := Same.new (o := .tup [.str "end", .str "", .int (((Ls.map S).map V.str).length : Nat)]) hu2
        have L9 := listAt_app (listAt_mono L7 S9) (S9 _ _ ez) (Dt.made hu2 (.cons (.str "end") (.cons (.str "") (.cons (.int (((Ls.map S).map V.str).length : Nat)) .nil))))
        refine ⟨_, rfl, k tp _ htp (fun b o hb => ?_) ?_⟩
        · rw [upd_ne (ne_of_none hb htp)]
          exact S9 _ _ (K7 _ _ (keepH _ _ _ _ W6 b o hb) (ne_of_none hb htp))
        · rw [llen] at L9 ⊢
          exact L9
end

abbrev s_law_same_token : Stmt := top 31
abbrev N_law_same_token : List Str := ["actual", "due"]
abbrev P_law_same_token : List Str := ["actual", "due"]
theorem sc_law_same_token : FnScope N_law_same_token P_law_same_token (defScope s_law_same_token) := ⟨rfl, rfl, rfl, by decide +kernel, rfl, by decide +kernel, by decide +kernel⟩
abbrev s_law_same_tokens : Stmt := top 32
abbrev N_law_same_tokens : List Str := ["actual", "due", "k"]
abbrev P_law_same_tokens : List Str := ["actual", "due"]
theorem sc_law_same_tokens : FnScope N_law_same_tokens P_law_same_tokens (defScope s_law_same_tokens) := ⟨rfl, rfl, rfl, by decide +kernel, rfl, by decide +kernel, by decide +kernel⟩
section
variable {P : Program} {w : World} {K : PySem.W.Frag} {mg : Str → Option Value} {base : Heap}
/-- a token: a word, a text or an int, a line -/
inductive TokD : PyData → Prop
  | str (k z : Str) (n : Int) : SeqAt.shaped (.str z) = true → TokD (.tuple [.str k, .str z, .int n])
  | int (k : Str) (i n : Int) : TokD (.tuple [.str k, .int i, .int n])
def spSameTok (K : PySem.W.Frag) : Sp := fun vs H Q _ => ∃ (v u : V) (d : PyData), vs = [v, u] ∧ Dt K H v d ∧ Dt K H u d ∧ TokD d ∧ Q (.bl true) H
theorem ok_sametok {f : Addr} {fd : FuncData} (F : Fun K "_law_same_token" "_law_same_token" s_law_same_token f fd) (T : Txt K mg) : FnG P w K mg base CX0 1 f fd P_law_same_token (spSameTok K) := by
  refine okG0 F sc_law_same_token (fun vs H Q E h => ?_) fun cdv A outer s H vs Q E hr hg h => ?_
  · obtain ⟨v, u, d, rfl, _⟩ := h
    rfl
  · obtain ⟨v, u, d, rfl, hv, hu, ht, k⟩ := h
    refine ⟨_, (pss_cons (ps_if (PW.pt (pw_or (pt_not (pt_val (pe_callB call_isi (by rfl) T.b_isinstance (by decide +kernel) (pa_cons (pv 0) (pa_cons (pe_bltn (v := .ty "tuple") (by rfl) T.b_tuple (by decide +kernel) rfl) pa_nil))))) (pw_or (pt_cmpR op_ne (pe_callB call_len (by rfl) T.b_len PySem.boot_len (pa_cons (pv 0) pa_nil)) pe_int (nomark _)) (pw_or1 (pt_not (pt_val (pe_callB call_isi (by rfl) T.b_isinstance (by decide +kernel) (pa_cons (pe_ix ix_tup (pv 0) pe_int (fun _ _ => rfl)) (pa_cons (pe_bltn (v := .ty "int") (by rfl) T.b_int (by decide +kernel) rfl) pa_nil)))))))))
   (pss_one (ps_ret pe_bl))
   pss_nil)
  (pss_cons (ps_if (PW.pt (pw_or (pt_val (pe_callB call_isi (by rfl) T.b_isinstance (by decide +kernel) (pa_cons (pe_ix ix_tup (pv 0) pe_int (fun _ _ => rfl)) (pa_cons (pe_bltn (v := .ty "bool") (by rfl) T.b_bool (by decide +kernel) rfl) pa_nil)))) (pw_or1 (pt_val (pe_callB call_isi (by rfl) T.b_isinstance (by decide +kernel) (pa_cons (pe_ix ix_tup (pv 0) pe_int (fun _ _ => rfl)) (pa_cons (pe_bltn (v := .ty "bool") (by rfl) T.b_bool (by decide +kernel) rfl) pa_nil)))))))
   (pss_one (ps_ret pe_bl))
   pss_nil)
  (pss_one (ps_ret (pe_and (pe_cmpR op_eq (pe_ix ix_tup (pv 0) pe_int (fun _ _ => rfl)) (pe_ix ix_tup (pv 1) pe_int (fun _ _ => rfl)) (nomark _)) (pe_and (pe_cmpR (op_eqD hr.units) (pe_ix ix_tup (pv 0) pe_int (fun _ _ => rfl)) (pe_ix ix_tup (pv 1) pe_int (fun _ _ => rfl)) (nomark _)) (pe_one (pe_cmpR op_eq (pe_ix ix_tup (pv 0) pe_int (fun _ _ => rfl)) (pe_ix ix_tup (pv 1) pe_int (fun _ _ => rfl)) (nomark _))))))))), ?_⟩
    cases ht with
    | str kd z n hz =>
      obtain ⟨q, x, y, rfl, hq, h1, h2⟩ := hv.triple
      obtain ⟨q', x', y', rfl, hq', h1', h2'⟩ := hu.triple
      cases h1.str_inv; cases h2.int_inv; cases h1'.str_inv; cases h2'.int_inv
      refine ⟨_, rfl, _, _, _, _, true, rfl, .ty _, SqT.tyX hq, if_pos (beq_self_eq_true _), ⟨_, rfl, iteFb rfl ?_⟩⟩
      refine ⟨_, rfl, _, _, rfl, .inr ⟨_, hq, rfl⟩, rfl, _, rfl, iteFb (by rw [decide_eq_true (show V.int ((([V.str kd, V.str z, V.int n] : List V).length : Nat) : Int) = V.int 3 from rfl)]; rfl) ?_⟩
      refine ⟨_, rfl, q, _, _, _, rfl, rfl, hq, at2, _, _, _, _, true, rfl, .ty _, .base (.int n), if_pos (beq_self_eq_true _), ⟨_, rfl, iteFb rfl ?_⟩⟩
      refine ⟨_, rfl, q, _, _, _, rfl, rfl, hq, at1, _, _, _, _, false, rfl, .ty _, .base (.str z), kit_ty (by decide +kernel), ⟨_, rfl, iteFb rfl ?_⟩⟩
      refine ⟨_, rfl, q, _, _, _, rfl, rfl, hq, at2, _, _, _, _, false, rfl, .ty _, .base (.int n), kit_ty (by decide +kernel), ⟨_, rfl, iteFb rfl ?_⟩⟩
      refine ⟨_, rfl, q, _, _, _, rfl, rfl, hq, at0, _, rfl, q', _, _, _, rfl, rfl, hq', at0, rfl, _, rfl, iteTb (decide_eq_true rfl) ?_⟩
      refine ⟨_, rfl, q, _, _, _, rfl, rfl, hq, at1, _, rfl, q', _, _, _, rfl, rfl, hq', at1, _, _, .str z, .str z, hz, hz, _, rfl, iteTb (by simp [PyData.eqv]) ?_⟩
      refine ⟨_, rfl, q, _, _, _, rfl, rfl, hq, at2, _, rfl, q', _, _, _, rfl, rfl, hq', at2, rfl, ?_⟩
      rw [decide_eq_true rfl]
      exact k
    | int kd i n =>
      obtain ⟨q, x, y, rfl, hq, h1, h2⟩ := hv.triple
      obtain ⟨q', x', y', rfl, hq', h1', h2'⟩ := hu.triple
      cases h1.int_inv; cases h2.int_inv; cases h1'.int_inv; cases h2'.int_inv
      refine ⟨_, rfl, _, _, _, _, true, rfl, .ty _, SqT.tyX hq, if_pos (beq_self_eq_true _), ⟨_, rfl, iteFb rfl ?_⟩⟩
      refine ⟨_, rfl, _, _, rfl, .inr ⟨_, hq, rfl⟩, rfl, _, rfl, iteFb (by rw [decide_eq_true (show V.int ((([V.str kd, V.int i, V.int n] : List V).length : Nat) : Int) = V.int 3 from rfl)]; rfl) ?_⟩
      refine ⟨_, rfl, q, _, _, _, rfl, rfl, hq, at2, _, _, _, _, true, rfl, .ty _, .base (.int n), if_pos (beq_self_eq_true _), ⟨_, rfl, iteFb rfl ?_⟩⟩
      refine ⟨_, rfl, q, _, _, _, rfl, rfl, hq, at1, _, _, _, _, false, rfl, .ty _, .base (.int i), kit_ty (by decide +kernel), ⟨_, rfl, iteFb rfl ?_⟩⟩
      refine ⟨_, rfl, q, _, _, _, rfl, rfl, hq, at2, _, _, _, _, false, rfl, .ty _, .base (.int n), kit_ty (by decide +kernel), ⟨_, rfl, iteFb rfl ?_⟩⟩
      refine ⟨_, rfl, q, _, _, _, rfl, rfl, hq, at0, _, rfl, q', _, _, _, rfl, rfl, hq', at0, rfl, _, rfl, iteTb (decide_eq_true rfl) ?_⟩
      refine ⟨_, rfl, q, _, _, _, rfl, rfl, hq, at1, _, rfl, q', _, _, _, rfl, rfl, hq', at1, _, _, .int i, .int i, rfl, rfl, _, rfl, iteTb (by simp [PyData.eqv]) ?_⟩
      refine ⟨_, rfl, q, _, _, _, rfl, rfl, hq, at2, _, rfl, q', _, _, _, rfl, rfl, hq', at2, rfl, ?_⟩
      rw [decide_eq_true rfl]
      exact k
def spSameToks (K : PySem.W.Frag) : Sp := fun vs H Q _ => ∃ (p q : Addr) (ds : List PyData), vs = [.ref p, .ref q] ∧ ListAt K H p ds ∧ ListAt K H q ds ∧ ds.length ≤ 10000 ∧ (∀ d ∈ ds, TokD d) ∧ Q (.bl true) H
theorem ok_sametoks {f : Addr} {fd : FuncData} (F : Fun K "_law_same_tokens" "_law_same_tokens" s_law_same_tokens f fd) (T : Txt K mg) (U_law_same_token : Use P w K mg base CX0 "_law_same_token" 1 P_law_same_token (spSameTok K)) : FnG P w K mg base CX0 2 f fd P_law_same_tokens (spSameToks K) := by
  refine okG0 F sc_law_same_tokens (fun vs H Q E h => ?_) fun cdv A outer s H vs Q E hr hg h => ?_
  · obtain ⟨p, q, ds, rfl, _⟩ := h
    rfl
  · obtain ⟨p, q, ds, rfl, ⟨xs, hx, ax⟩, ⟨ys, hy, ay⟩, hl, ht, k⟩ := h
    refine ⟨_, (pss_cons (ps_if (PW.pt (pw_or (pt_not (pt_val (pe_callB call_isi (by rfl) T.b_isinstance (by decide +kernel) (pa_cons (pv 0) (pa_cons (pe_bltn (v := .ty "list") (by rfl) T.b_list (by decide +kernel) rfl) pa_nil))))) (pw_or1 (pt_cmpR op_ne (pe_callB call_len (by rfl) T.b_len PySem.boot_len (pa_cons (pv 0) pa_nil)) (pe_callB call_len (by rfl) T.b_len PySem.boot_len (pa_cons (pv 1) pa_nil)) (nomark _)))))
   (pss_one (ps_ret pe_bl))
   pss_nil)
  (pss_cons (ps_for PassesOwn.never rfl (pi_range1 (by rfl) T.b_range (pa_cons (pe_callB call_len (by rfl) T.b_len PySem.boot_len (pa_cons (pv 1) pa_nil)) pa_nil)) (pg_name (i := 2) sc_law_same_tokens.nd rfl (Or.inl rfl))
   (pss_one (ps_if (pt_not (pt_val (pe_use U_law_same_token (hr.mono (by decide)) hg rfl (pa_cons (pe_ix ix_list (pv 0) (pv 2) (fun _ _ => rfl)) (pa_cons (pe_ix ix_list (pv 1) (pv 2) (fun _ _ => rfl)) pa_nil)))))
   (pss_one (ps_ret pe_bl))
   pss_nil)))
  (pss_one (ps_ret pe_bl)))), ?_⟩
    have lx := ax.length
    have ly := ay.length
    refine ⟨_, rfl, _, _, _, _, true, rfl, .ty _, .base (.lst hx), if_pos (beq_self_eq_true _), ⟨_, rfl, iteFb rfl ?_⟩⟩
    refine ⟨_, rfl, _, _, rfl, .inl ⟨_, SqL.of hx, rfl⟩, _, rfl, _, _, rfl, .inl ⟨_, SqL.of hy, rfl⟩, rfl, _, rfl, iteFb (by rw [lx, ly, decide_eq_true rfl]; rfl) ?_⟩
    refine ⟨_, rfl, _, _, rfl, .inl ⟨_, SqL.of hy, rfl⟩, _, rfl, by omega, by omega, ?_⟩
    have en : ((ys.length : Nat) : Int).toNat = ds.length := by omega
    rw [en]
    refine for_range (lo := 0) (n := ds.length) (fun i σ H1 => ∃ x2, σ = [some (.ref p), some (.ref q), x2] ∧ H1 = H) ⟨none, rfl, rfl⟩ ?_ ?_
    · rintro i σ H1 hi ⟨x2, rfl, rfl⟩
      have hd : ds[i]? = some ds[i] := List.getElem?_eq_getElem hi
      obtain ⟨v, hv, dv⟩ := ax.get hd
      obtain ⟨u, hu, du⟩ := ay.get hd
      have ev : atI xs (0 + (i : Int)) = some v := by rw [Int.zero_add]; exact atI_nat hv
      have eu : atI ys (0 + (i : Int)) = some u := by rw [Int.zero_add]; exact atI_nat hu
      refine ⟨_, rfl, _, rfl, p, _, _, _, rfl, rfl, SqL.of hx, ev, _, rfl, _, rfl, q, _, _, _, rfl, rfl, SqL.of hy, eu, v, u, _, rfl, dv, du, ht _ (List.getElem_mem hi), ⟨true, rfl, iteFb rfl ⟨_, rfl, rfl⟩⟩⟩
    · rintro σ H1 ⟨x2, rfl, rfl⟩
      exact k
end

abbrev s_law_word : Stmt := top 33
abbrev N_law_word : List Str := ["box", "signs", "word", "k"]
abbrev P_law_word : List Str := ["box"]
theorem sc_law_word : FnScope N_law_word P_law_word (defScope s_law_word) := ⟨rfl, rfl, rfl, by decide +kernel, rfl, by decide +kernel, by decide +kernel⟩
abbrev s_law_token : Stmt := top 34
abbrev N_law_token : List Str := ["box", "kind", "words", "word", "number", "signs", "text", "k", "sign"]
abbrev P_law_token : List Str := ["box"]
theorem sc_law_token : FnScope N_law_token P_law_token (defScope s_law_token) := ⟨rfl, rfl, rfl, by decide +kernel, rfl, by decide +kernel, by decide +kernel⟩
abbrev s_law_row : Stmt := top 35
abbrev N_law_row : List Str := ["box", "tokens", "line", "first", "text", "before", "k", "token", "spaces"]
abbrev P_law_row : List Str := ["box", "tokens", "line", "first"]
theorem sc_law_row : FnScope N_law_row P_law_row (defScope s_law_row) := ⟨rfl, rfl, rfl, by decide +kernel, rfl, by decide +kernel, by decide +kernel⟩
abbrev s_law : Stmt := top 36
abbrev N_law : List Str := ["script", "box", "lines", "tokens", "inside", "many", "k", "line", "kind", "first", "text"]
abbrev P_law : List Str := ["script"]
theorem sc_law : FnScope N_law P_law (defScope s_law) := ⟨rfl, rfl, rfl, by decide +kernel, rfl, by decide +kernel, by decide +kernel⟩
abbrev s_Fault___init__ : Stmt := inClass (top 4) 0
section
variable {P : Program} {w : World} {K : PySem.W.Frag} {mg : Str → Option Value} {base : Heap}
/-! what a row of tokens is read as -/
/-- what may stand behind a sign (true), behind another token (false), behind a space (none) -/
def nextOk (post : List Nat) : Option Bool → Prop
  | none => True
  | some true => ∀ c, post.head? = some c → c ≠ 61
  | some false => ∀ c, post.head? = some c → isW c = false
/-- t is read as the token d wherever it stands -/
def LexT (t : List Nat) (sg : Bool) (d : Int → PyData) : Prop := ∀ (pre post : List Nat) (m : Int) (st : St), nextOk post (some sg) → Tok1 (pre ++ (t ++ post)) m pre.length (pre.length + t.length) st st (d m)
theorem at_pre {pre t post : List Nat} {c : Nat} (h : t.head? = some c) : (pre ++ (t ++ post))[pre.length]? = some c := by
  rw [List.getElem?_append_right (Nat.le_refl _), Nat.sub_self]
  cases t with
  | nil => cases h
  | cons x r => exact h
theorem wordAt_pre {pre t post : List Nat} (hne : t ≠ []) (hw : ∀ c ∈ t, isW c = true) (hp : nextOk post (some false)) : WordAt (pre ++ (t ++ post)) pre.length (pre.length + t.length) t := by
  have h0 : 0 < t.length := List.length_pos_iff.mpr hne
  refine ⟨by omega, by simp, ?_, hw, fun c hc => hp c ?_⟩
  · rw [List.drop_left, show pre.length + t.length - pre.length = t.length by omega, List.take_left]
  · rw [List.getElem?_append_right (by omega), List.getElem?_append_right (by omega), show pre.length + t.length - pre.length - t.length = 0 by omega] at hc
    rw [List.head?_eq_getElem?]
    exact hc
theorem lexT_word {t : List Nat} {c : Nat} (h : t.head? = some c) (hc : isL c = true) (hw : ∀ c ∈ t, isW c = true) (hk : kwB t = true ∨ t.length ≤ 30) : LexT t false (wordD t) := fun pre post m st hp =>
  .word (at_pre h) hc (wordAt_pre (fun e => by rw [e] at h; cases h) hw hp) hk
theorem lexT_int {t : List Nat} {c : Nat} (h : t.head? = some c) (hc : isD c = true) (hi : IntOk t) : LexT t false (intD t) := fun pre post m st hp =>
  .int (at_pre h) hc (wordAt_pre hi.ne (fun d hd => isD_isW (List.all_eq_true.mp hi.dg d hd)) hp) hi
theorem scan_plain {q : Nat} : ∀ (body : List Nat), (∀ c ∈ body, c ≠ q ∧ c ≠ 92) → ∀ rest acc, scan q (body ++ q :: rest) acc = .done (acc ++ body) rest
  | [], _, rest, acc => by rw [List.append_nil]; exact scan_q
  | c :: r, h, rest, acc => by
    have hc := h c (by simp)
    refine (scan_c hc.1 hc.2).trans ?_
    have ih := scan_plain r (fun d hd => h d (List.mem_cons_of_mem _ hd)) rest (acc ++ [c])
    rw [List.append_assoc] at ih
    exact ih
theorem lexT_text {body : List Nat} (h : ∀ c ∈ body, c ≠ 34 ∧ c ≠ 92) (hl : body.length ≤ 200) : LexT (34 :: body ++ [34]) false (textT body) := fun pre post m st hp => by
  have e1 : (pre ++ ((34 :: body ++ [34]) ++ post)).drop (pre.length + 1) = body ++ 34 :: post := by
    rw [← List.drop_drop, List.drop_left]
    simp
  have ht := Tok1.text (a := pre ++ ((34 :: body ++ [34]) ++ post)) (m := m) (i := pre.length) (st := st) (q := 34) (acc := body) (rest := post) (at_pre rfl) (.inl rfl) (by rw [e1]; exact scan_plain body h post []) (by omega)
  have e2 : (pre ++ ((34 :: body ++ [34]) ++ post)).length - post.length = pre.length + (34 :: body ++ [34]).length := by simp; omega
  rw [e2] at ht
  exact ht
/-- the signs that are no brackets -/
def plainS : List (List Nat) := [[47, 47, 61], [47, 47], [60, 61], [62, 61], [61, 61], [33, 61], [43, 61], [45, 61], [42, 61], [43], [45], [42], [60], [62], [61], [44], [58], [46]]
def signTab (z : List Nat) : Bool := (List.range 24).any fun jz => sgns[jz]? == some z && (List.range jz).all fun j => match sgns[j]? with
  | some y => (decide (y.length ≤ z.length) && z.take y.length != y) || (decide (z.length < y.length) && (y.take z.length != z || y[z.length]? == some 61))
  | none => true
theorem signTab_all : ∀ z ∈ sgns, signTab z = true ∧ z.head?.any signC = true := by decide +kernel
theorem signAt_pre {pre z post : List Nat} (hz : z ∈ sgns) (hp : nextOk post (some true)) : SignAt (pre ++ (z ++ post)) pre.length z := by
  obtain ⟨h, _⟩ := signTab_all z hz
  unfold signTab at h
  obtain ⟨jz, _, h⟩ := List.any_eq_true.mp h
  rw [Bool.and_eq_true] at h
  obtain ⟨h1, h2⟩ := h
  have h1 : sgns[jz]? = some z := eq_of_beq h1
  refine ⟨jz, h1, by rw [List.drop_left, List.take_left], fun j hj y hy e => ?_⟩
  rw [List.drop_left] at e
  have h3 := List.all_eq_true.mp h2 j (List.mem_range.mpr hj)
  rw [hy] at h3
  have h3 : ((decide (y.length ≤ z.length) && z.take y.length != y) || (decide (z.length < y.length) && (y.take z.length != z || y[z.length]? == some 61))) = true := h3
  rw [Bool.or_eq_true, Bool.and_eq_true, Bool.and_eq_true, Bool.or_eq_true] at h3
  rcases h3 with ⟨a1, a2⟩ | ⟨a1, a2⟩
  · have a1 := of_decide_eq_true a1
    rw [List.take_append_of_le_length a1] at e
    exact absurd e (by simpa using a2)
  · have a1 := of_decide_eq_true a1
    have e2 : y.take z.length = z := by
      rw [← e, List.take_take, Nat.min_eq_left (by omega), List.take_left]
    rcases a2 with a2 | a2
    · exact absurd e2 (by simpa using a2)
    · have a2 : y[z.length]? = some 61 := eq_of_beq a2
      rw [← e, List.getElem?_take, if_pos a1, List.getElem?_append_right (Nat.le_refl _), Nat.sub_self, ← List.head?_eq_getElem?] at a2
      exact hp 61 a2 rfl
theorem sgn_head {z : List Nat} (hz : z ∈ sgns) : ∃ c, z.head? = some c ∧ signC c = true := by
  obtain ⟨_, h⟩ := signTab_all z hz
  cases e : z.head? with
  | none => rw [e] at h; cases h
  | some c => rw [e] at h; exact ⟨c, rfl, h⟩
theorem tok1_sign {z : List Nat} {st st' : St} {m : Int} (pre post : List Nat) (hz : z ∈ sgns) (hF : Fol z m st st') (hp : nextOk post (some true)) : Tok1 (pre ++ (z ++ post)) m pre.length (pre.length + z.length) st st' (signD z m) := by
  obtain ⟨c, h1, h2⟩ := sgn_head hz
  exact .sign (at_pre h1) h2 (signAt_pre hz hp) hF
theorem plain_sub : ∀ z ∈ plainS, z ∈ sgns ∧ (z.length = 1 → z.head?.any isBr = false) := by decide +kernel
theorem lexT_sign {z : List Nat} (hz : z ∈ plainS) : LexT z true (signD z) := fun pre post m st hp => by
  obtain ⟨h1, h2⟩ := plain_sub z hz
  refine tok1_sign pre post h1 (.oth h1 fun c e => ?_) hp
  subst e
  simpa using h2 rfl
/-- a row: read from its beginning, it puts the tokens ts behind those that are there -/
def RowOk (m : Int) (a : List Nat) (sg : Option Bool) (st0 st : St) (ts : List PyData) : Prop :=
  ∀ post, nextOk post sg → ∀ ds st' ds', Lex (a ++ post) m a.length st (ds ++ ts) st' ds' → Lex (a ++ post) m 0 st0 ds st' ds'
theorem RowOk.nil {m : Int} {sg : Option Bool} {st : St} : RowOk m [] sg st st [] := fun post _ ds st' ds' h => by
  rw [List.append_nil] at h
  exact h
theorem RowOk.sp1 {m : Int} {a : List Nat} {sg : Option Bool} {st0 st : St} {ts : List PyData} (h : RowOk m a sg st0 st ts) : RowOk m (a ++ [32]) none st0 st ts := fun post _ ds st' ds' hx => by
  rw [List.append_assoc] at hx ⊢
  refine h ([32] ++ post) ?_ ds st' ds' (.sp (at_pre (t := [32]) rfl) ?_)
  · cases sg with
    | none => trivial
    | some b => cases b with
      | true => intro c hc; obtain rfl := Option.some.inj hc; decide
      | false => intro c hc; obtain rfl := Option.some.inj hc; decide
  · rw [List.length_append] at hx
    exact hx
theorem RowOk.sps {m : Int} {st0 st : St} {ts : List PyData} : ∀ (k : Nat) {a : List Nat} {sg : Option Bool}, RowOk m a sg st0 st ts → RowOk m (a ++ List.replicate k 32) (if k = 0 then sg else none) st0 st ts
  | 0, a, sg, h => by simpa using h
  | k + 1, a, sg, h => by
    have h2 := RowOk.sps k h.sp1
    have e : a ++ List.replicate (k + 1) 32 = a ++ [32] ++ List.replicate k 32 := by rw [List.replicate_succ, List.append_assoc]; rfl
    rw [e, if_neg (by omega)]
    have : (if k = 0 then none else none : Option Bool) = none := by split <;> rfl
    rw [this] at h2
    exact h2
theorem RowOk.put {m : Int} {a t : List Nat} {sg : Option Bool} {sgt : Bool} {st0 st st1 : St} {ts : List PyData} {d : PyData} (h : RowOk m a sg st0 st ts) (hne : t ≠ []) (hn : ∀ post, nextOk (t ++ post) sg) (ht : ∀ post, nextOk post (some sgt) → Tok1 (a ++ (t ++ post)) m a.length (a.length + t.length) st st1 d) :
    RowOk m (a ++ t) (some sgt) st0 st1 (ts ++ [d]) := fun post hp ds st' ds' hx => by
  rw [List.append_assoc] at hx ⊢
  have h0 : 0 < t.length := List.length_pos_iff.mpr hne
  refine h (t ++ post) (hn post) ds st' ds' (.tok (ht post hp) (by omega) (by simp) ?_)
  rw [List.append_assoc]
  rw [List.length_append] at hx
  exact hx
theorem RowOk.tok {m : Int} {a t : List Nat} {sg : Option Bool} {sgt : Bool} {st0 st : St} {ts : List PyData} {d : Int → PyData} (h : RowOk m a sg st0 st ts) (hne : t ≠ []) (hn : ∀ post, nextOk (t ++ post) sg) (ht : LexT t sgt d) : RowOk m (a ++ t) (some sgt) st0 st (ts ++ [d m]) :=
  h.put hne hn fun post hp => ht a post m st hp
/-- the end of a row, perhaps with a comment -/
theorem RowOk.fin {m : Int} {a post : List Nat} {sg : Option Bool} {st0 st : St} {ts ds : List PyData} (h : RowOk m a sg st0 st ts) (hp : post = [] ∨ ∃ k r, post = List.replicate (k + 1) 32 ++ 35 :: r) : Lex (a ++ post) m 0 st0 ds st (ds ++ ts) := by
  rcases hp with rfl | ⟨k, r, rfl⟩
  · refine h [] ?_ ds st _ (.fin (.inl (by simp)))
    cases sg with
    | none => trivial
    | some b => cases b <;> (intro c hc; cases hc)
  · have h2 := h.sps (k + 1)
    rw [if_neg (by omega)] at h2
    have e := at_pre (pre := a ++ List.replicate (k + 1) 32) (t := 35 :: r) (post := []) (c := 35) rfl
    rw [List.append_nil] at e
    have := h2 (35 :: r) trivial ds st _ (.fin (.inr e))
    rw [List.append_assoc] at this
    exact this
/-- the digits of a number -/
theorem numL_head (n : Nat) (h : 1 ≤ n) : (TL.numL n).head? ≠ some 48 := by
  induction n using Nat.strongRecOn with
  | _ n ih =>
    by_cases h10 : n < 10
    · rw [TL.numL_lt h10]
      intro e
      have := Option.some.inj e
      omega
    · rw [TL.numL_step (by omega)]
      have := ih (n / 10) (by omega) (by omega)
      cases e : TL.numL (n / 10) with
      | nil => exact absurd e (TL.numL_ne _)
      | cons c r => rw [e] at this; exact this
theorem int_numL {n : Nat} (h : n < 10 ^ 30) : IntOk (TL.numL n) ∧ valI (TL.numL n) = n := by
  have hv : valI (TL.numL n) = n := by unfold valI; rw [TL.numL_val]
  have hl := TL.numL_len (n := n) (k := 30) (by decide) h
  refine ⟨⟨TL.numL_ne n, List.all_eq_true.mpr fun c hc => ?_, fun ⟨h1, h2⟩ => ?_, by omega, ?_⟩, hv⟩
  · have := TL.numL_digits n c hc
    unfold isD
    rw [Bool.and_eq_true]
    exact ⟨decide_eq_true this.1, decide_eq_true this.2⟩
  · by_cases h0 : n < 1
    · obtain rfl : n = 0 := by omega
      rw [TL.numL_lt (by omega)] at h1
      simp at h1
    · exact numL_head n (by omega) h2
  · rw [hv]
    exact Int.lt_of_lt_of_le (Int.ofNat_lt.mpr h) (by decide +kernel)
end
section
variable {P : Program} {w : World} {K : PySem.W.Frag} {mg : Str → Option Value} {base : Heap}
theorem FnG.calm {k : Nat} {f : Addr} {fd : FuncData} {ps : List Str} {sp : Sp} (F : FnG P w K mg base (L2.CX P w) k f fd ps sp) (hE : ∀ vs H Q E E', sp vs H Q E → sp vs H Q E') : FnG P w K mg base CX0 k f fd ps sp :=
  ⟨F.len, fun A outer s H args us vs Q E hr hg he hb hv hs => PySem.codeAny_mono (F.run A outer s H args us vs Q E0 hr hg he hb hv (hE _ _ _ _ _ hs)) fun r s' h => by
    cases r with
    | ok fl => cases fl <;> exact h
    | error e =>
      obtain ⟨a, B, H', cls, d, _, _, _, _, _, _, _, hh⟩ := h
      exact hh.elim⟩
theorem ok_split0 {C B : Addr} {f : Addr} {fd : FuncData} (F : Fun K "split" "split" s_split f fd) (T : Txt K mg) (U_check_characters : Use P w K mg base CX0 "_check_characters" 1 P_check_characters spCheck) (U_is_blank : Use P w K mg base CX0 "_is_blank" 1 P_is_blank spBlank)
    (U_add_indents : Use P w K mg base (L2.CX P w) "_add_indents" 3 P_add_indents (spIndents K C)) (U_add_line : Use P w K mg base (L2.CX P w) "_add_line" 5 P_add_line (spLine K)) (U_Fault : UseF P w K mg base C B) : FnG P w K mg base CX0 6 f fd P_split (spSplitV K) :=
  K00.FnG.calm (ok_split F T U_check_characters U_is_blank U_add_indents U_add_line U_Fault) fun _ _ _ _ _ h => h
/-! the law's tokens -/
theorem kw_us (r : List Nat) : kwB (95 :: r) = false := by
  have e : kwords = (kwords.map fun z => z.cps.toList).map S := by decide +kernel
  have h : ∀ z ∈ kwords.map (fun z => z.cps.toList), z.head? ≠ some 95 := by decide +kernel
  unfold kwB
  rw [e]
  generalize kwords.map (fun z => z.cps.toList) = ks at h
  unfold inV
  induction ks with
  | nil => rfl
  | cons y ys ih =>
    rw [List.map_cons, List.map_cons, List.any_cons, ih fun z hz => h z (List.mem_cons_of_mem _ hz), Bool.or_false]
    show (S y == S (95 :: r)) = false
    rw [S_beq_eq]
    exact decide_eq_false fun e2 => h y (by simp) (by rw [e2]; rfl)
def spWordL (K : PySem.W.Frag) : Sp := fun vs H Q _ => ∃ (p dl : Addr), vs = [.ref p] ∧ BoxAt H p dl ∧ ∀ (r : List Nat) H', (∀ c ∈ r, isW c = true) → r.length ≤ 29 → BoxAt H' p dl → Keep p H H' → Q (.str (S (95 :: r))) H'
theorem ok_word {f : Addr} {fd : FuncData} (F : Fun K "_law_word" "_law_word" s_law_word f fd) (T : Txt K mg) (U_law_draw : Use P w K mg base CX0 "_law_draw" 1 P_law_draw (spDraw K)) : FnG P w K mg base CX0 2 f fd P_law_word (spWordL K) := by
  refine okG0 F sc_law_word (fun vs H Q E h => ?_) fun cdv A outer s H vs Q E hr hg h => ?_
  · obtain ⟨p, dl, rfl, _⟩ := h
    rfl
  · obtain ⟨p, dl, rfl, B, k⟩ := h
    refine ⟨_, (pss_cons (ps_set (i := 1) sc_law_word.nd rfl (Or.inl rfl) pe_str)
  (pss_cons (ps_set (i := 2) sc_law_word.nd rfl (Or.inl rfl) pe_str)
  (pss_cons (ps_for PassesOwn.never rfl (pi_range1 (by rfl) T.b_range (pa_cons (pe_use U_law_draw (hr.mono (by decide)) hg rfl (pa_cons (pv 0) (pa_cons pe_int pa_nil))) pa_nil)) (pg_name (i := 3) sc_law_word.nd rfl (Or.inl rfl))
   (pss_one (ps_set (i := 2) sc_law_word.nd rfl (Or.inl rfl) (pe_op op_add_str (pv 2) (pe_ix ix_str (pv 1) (pe_use U_law_draw (hr.mono (by decide)) hg rfl (pa_cons (pv 0) (pa_cons pe_int pa_nil))) (fun _ _ => rfl))))))
  (pss_one (ps_ret (pv 2)))))), ?_⟩
    have eS : ("abcdefghijklmnopqrstuvwxyzABCDEFGHIJKLMNOPQRSTUVWXYZ0123456789" : Str).cps.toList.length = 62 := by decide +kernel
    have hS : ∀ c ∈ ("abcdefghijklmnopqrstuvwxyzABCDEFGHIJKLMNOPQRSTUVWXYZ0123456789" : Str).cps.toList, isW c = true := by decide +kernel
    have hz : ("abcdefghijklmnopqrstuvwxyzABCDEFGHIJKLMNOPQRSTUVWXYZ0123456789" : Str).length ≤ sizeLine := by decide +kernel
    refine ⟨_, rfl, p, dl, 29, rfl, B, by decide, fun r H1 r0 r1 B1 K1 => ?_⟩
    obtain ⟨n, rfl⟩ := Int.eq_ofNat_of_zero_le r0
    refine ⟨_, rfl, by omega, by omega, ?_⟩
    rw [show ((n : Nat) : Int).toNat = n from Int.toNat_natCast _]
    refine for_range (lo := 0) (n := n) (fun i σ H5 => ∃ (tx : Str) (b : List Nat) (x3 : Option V), σ = [some (.ref p), some (.str "abcdefghijklmnopqrstuvwxyzABCDEFGHIJKLMNOPQRSTUVWXYZ0123456789"), some (.str tx), x3] ∧ tx = S (95 :: b) ∧ b.length = i ∧ (∀ c ∈ b, isW c = true) ∧ BoxAt H5 p dl ∧ Keep p H H5) ⟨_, [], none, rfl, us_S, rfl, by simp, B1, K1⟩ ?_ ?_
    · rintro i σ H5 hi ⟨_, b, x3, rfl, rfl, hb, hbw, B5, K5⟩
      refine ⟨_, rfl, _, rfl, _, rfl, p, dl, 62, rfl, B5, by decide, fun r H6 q0 q1 B6 K6 => ?_⟩
      obtain ⟨j, rfl⟩ := Int.eq_ofNat_of_zero_le q0
      have hc : ("abcdefghijklmnopqrstuvwxyzABCDEFGHIJKLMNOPQRSTUVWXYZ0123456789" : Str).cps.toList[j]? = some _ := List.getElem?_eq_getElem (by rw [eS]; omega)
      have hcm := hS _ (List.mem_of_getElem? hc)
      refine ⟨_, _, _, rfl, rfl, hz, atI_nat hc, _, _, rfl, rfl, ?_, _, _, _, rfl, S_cat (95 :: b) [_], by simp [hb], fun d hd => ?_, B6, K5.trans K6⟩
      · rw [S_len]; exact Nat.le_trans (show _ ≤ 100 by simp [Str.length]; omega) (by decide)
      · rcases List.mem_append.mp hd with hd | hd
        · exact hbw d hd
        · rw [List.mem_singleton.mp hd]; exact hcm
    · rintro σ H5 ⟨_, b, x3, rfl, rfl, hb, hbw, B5, K5⟩
      exact ⟨_, rfl, k b H5 hbw (by omega) B5 K5⟩
/-- what the law's token is -/
structure TkOk (t : List Nat) (kd : Str) (v : V) (sg : Bool) (d : Int → PyData) : Prop where
  lex : LexT t sg d
  ne : t ≠ []
  hd : ∀ c, t.head? = some c → (if sg = true then isW c = false else c ≠ 61) ∧ c ≠ 32 ∧ c ≠ 35
  w : ∀ c ∈ t, okC c = true ∧ c ≠ 10
  len : t.length ≤ 60
  kds : decide (kd = "sign") = sg
  kne : kd ≠ ""
  val : (∃ z, v = .str z ∧ (∀ m, d m = .tuple [.str kd, .str z, .int m]) ∧ SeqAt.shaped (.str z) = true) ∨ (∃ i, v = .int i ∧ ∀ m, d m = .tuple [.str kd, .int i, .int m])
theorem shapedS {a : List Nat} (h : ∀ c ∈ a, c < 128) : SeqAt.shaped (.str (S a)) = true := by
  unfold SeqAt.shaped
  rw [PyData.canLay0, PyData.depth]
  have : PyData.strOk (S a) = true := Array.all_eq_true_iff_forall_mem.mpr fun c hc => by
    have := h c (by simpa [S] using hc)
    exact decide_eq_true (by omega)
  rw [this]; rfl
theorem isW_ok {c : Nat} (h : isW c = true) : okC c = true ∧ c ≠ 10 ∧ c ≠ 61 ∧ c ≠ 32 ∧ c ≠ 35 := by
  have := isW_lt h
  revert h
  have : ∀ c < 128, isW c = true → okC c = true ∧ c ≠ 10 ∧ c ≠ 61 ∧ c ≠ 32 ∧ c ≠ 35 := by decide +kernel
  exact this c (by omega)
theorem tk_word {t : List Nat} {c : Nat} {kd : Str} (h : t.head? = some c) (hc : isL c = true) (hw : ∀ c ∈ t, isW c = true) (hl : t.length ≤ 30) (hk : kd = (if kwB t = true then ("word" : Str) else ("name" : Str))) : TkOk t kd (.str (S t)) false (wordD t) := by
  refine ⟨lexT_word h hc hw (.inr hl), (fun e => by rw [e] at h; cases h), fun d hd => ?_, fun d hd => ⟨(isW_ok (hw d hd)).1, (isW_ok (hw d hd)).2.1⟩, by omega, ?_, ?_, .inl ⟨_, rfl, fun m => by rw [hk]; rfl, shapedS fun d hd => isW_lt (hw d hd)⟩⟩
  · rw [h] at hd
    obtain rfl := Option.some.inj hd
    obtain ⟨_, _, h3, h4, h5⟩ := isW_ok (isL_isW hc)
    exact ⟨by rw [if_neg Bool.false_ne_true]; exact h3, h4, h5⟩
  · rw [hk]; split <;> decide +kernel
  · rw [hk]; split <;> decide +kernel
theorem tk_int {n : Nat} (h : n < 10 ^ 30) : TkOk (TL.numL n) "int" (.int (n : Int)) false (intD (TL.numL n)) := by
  obtain ⟨h1, h2⟩ := int_numL h
  have hd : ∀ c ∈ TL.numL n, isD c = true := fun c hc => List.all_eq_true.mp h1.dg c hc
  obtain ⟨c, r, e⟩ := List.exists_cons_of_ne_nil h1.ne
  have hc0 : (TL.numL n).head? = some c := by rw [e]; rfl
  have hcD := hd c (by rw [e]; simp)
  have hlen := TL.numL_len (n := n) (k := 30) (by decide) h
  refine ⟨lexT_int hc0 hcD h1, h1.ne, fun d hd2 => ?_, fun d hd2 => ⟨(isW_ok (isD_isW (hd d hd2))).1, (isW_ok (isD_isW (hd d hd2))).2.1⟩, by omega, by decide +kernel, by decide +kernel, .inr ⟨_, rfl, fun m => by unfold intD; rw [h2]⟩⟩
  rw [hc0] at hd2
  obtain rfl := Option.some.inj hd2
  obtain ⟨_, _, h3, h4, h5⟩ := isW_ok (isD_isW hcD)
  exact ⟨by rw [if_neg Bool.false_ne_true]; exact h3, h4, h5⟩
theorem tk_text {b : List Nat} (h : ∀ c ∈ b, (c ≠ 34 ∧ c ≠ 92) ∧ okC c = true ∧ c ≠ 10) (hl : b.length ≤ 50) : TkOk (34 :: b ++ [34]) "text" (.str (S b)) false (textT b) := by
  refine ⟨lexT_text (fun c hc => (h c hc).1) (by omega), by simp, fun d hd => ?_, fun d hd => ?_, by simp; omega, by decide +kernel, by decide +kernel, .inl ⟨_, rfl, fun m => rfl, shapedS fun d hd => okC_lt (h d hd).2.1⟩⟩
  · obtain rfl := Option.some.inj (show some 34 = some d from hd)
    exact ⟨by rw [if_neg Bool.false_ne_true]; decide, by decide, by decide⟩
  · rw [List.cons_append] at hd
    rcases List.mem_cons.mp hd with rfl | hd
    · decide
    rcases List.mem_append.mp hd with hd | hd
    · exact (h d hd).2
    · rw [List.mem_singleton.mp hd]; decide
theorem plain_ok : ∀ z ∈ plainS, z ≠ [] ∧ (∀ c ∈ z, okC c = true ∧ c ≠ 10) ∧ z.length ≤ 3 ∧ (z.head?.all fun c => !(isW c) && c != 32 && c != 35) = true := by decide +kernel
theorem tk_sign {z : List Nat} (hz : z ∈ plainS) : TkOk z "sign" (.str (S z)) true (signD z) := by
  obtain ⟨h1, h2, h3, h4⟩ := plain_ok z hz
  refine ⟨lexT_sign hz, h1, fun d hd => ?_, h2, by omega, by decide +kernel, by decide +kernel, .inl ⟨_, rfl, fun m => rfl, shapedS fun d hd => okC_lt (h2 d hd).1⟩⟩
  rw [hd] at h4
  simp at h4
  exact ⟨by rw [if_pos rfl]; exact h4.1.1, h4.1.2, h4.2⟩
def plainL : List (List Nat) := [[47, 47, 61], [47, 47], [60, 61], [62, 61], [61, 61], [33, 61], [43, 61], [45, 61], [42, 61], [43], [45], [42], [60], [62], [61], [44], [58], [46]]
theorem plainL_eq : [V.str "//=", .str "//", .str "<=", .str ">=", .str "==", .str "!=", .str "+=", .str "-=", .str "*=", .str "+", .str "-", .str "*", .str "<", .str ">", .str "=", .str ",", .str ":", .str "."] = plainL.map fun z => V.str (S z) := by decide +kernel
theorem plainL_in : ∀ z ∈ plainL, z ∈ plainS := by decide
def kw9 : List (List Nat) := (["if", "None", "mod", "yield", "nonlocal", "as", "is", "finally", "del"] : List Str).map fun z => z.cps.toList
theorem kw9_eq : [V.str "if", .str "None", .str "mod", .str "yield", .str "nonlocal", .str "as", .str "is", .str "finally", .str "del"] = kw9.map fun z => V.str (S z) := by decide +kernel
theorem kw9_all : ∀ t ∈ kw9, t.head?.any isL = true ∧ t.all isW = true ∧ decide (t.length ≤ 30) = true ∧ kwB t = true := by decide +kernel
theorem kw9_ok (j : Nat) (h : j < 9) : ∃ t, kw9[j]? = some t ∧ t.head?.any isL = true ∧ t.all isW = true ∧ decide (t.length ≤ 30) = true ∧ kwB t = true :=
  ⟨_, List.getElem?_eq_getElem (show j < kw9.length from h), kw9_all _ (List.getElem_mem _)⟩
def spTok (K : PySem.W.Frag) : Sp := fun vs H Q _ => ∃ (p dl : Addr), vs = [.ref p] ∧ BoxAt H p dl ∧ ∀ t kd v sg d u H', TkOk t kd v sg d → H' u = some (.lst [.str (S t), .str kd, v]) → BoxAt H' p dl → Keep p H H' → Q (.ref u) H'
theorem ok_token {f : Addr} {fd : FuncData} (F : Fun K "_law_token" "_law_token" s_law_token f fd) (T : Txt K mg) (U_law_draw : Use P w K mg base CX0 "_law_draw" 1 P_law_draw (spDraw K)) (U_law_word : Use P w K mg base CX0 "_law_word" 2 P_law_word (spWordL K)) : FnG P w K mg base CX0 3 f fd P_law_token (spTok K) := by
  refine okG0 F sc_law_token (fun vs H Q E h => ?_) fun cdv A outer s H vs Q E hr hg h => ?_
  · obtain ⟨p, dl, rfl, _⟩ := h
    rfl
  · obtain ⟨p, dl, rfl, B, k⟩ := h
    refine ⟨_, (pss_cons (ps_set (i := 1) sc_law_token.nd rfl (Or.inl rfl) (pe_use U_law_draw (hr.mono (by decide)) hg rfl (pa_cons (pv 0) (pa_cons pe_int pa_nil))))
  (pss_cons (ps_if (pt_cmpR op_eq (pv 1) pe_int (nomark _))
   (pss_cons (ps_set (i := 2) sc_law_token.nd rfl (Or.inl rfl) (pe_lst (pa_cons pe_str (pa_cons pe_str (pa_cons pe_str (pa_cons pe_str (pa_cons pe_str (pa_cons pe_str (pa_cons pe_str (pa_cons pe_str (pa_cons pe_str pa_nil)))))))))))
  (pss_cons (ps_set (i := 3) sc_law_token.nd rfl (Or.inl rfl) (pe_ix ix_list (pv 2) (pe_use U_law_draw (hr.mono (by decide)) hg rfl (pa_cons (pv 0) (pa_cons (pe_callB call_len (by rfl) T.b_len PySem.boot_len (pa_cons (pv 2) pa_nil)) pa_nil))) (fun _ _ => rfl)))
  (pss_one (ps_ret (pe_lst (pa_cons (pv 3) (pa_cons pe_str (pa_cons (pv 3) pa_nil))))))))
   pss_nil)
  (pss_cons (ps_if (pt_cmpR op_eq (pv 1) pe_int (nomark _))
   (pss_cons (ps_set (i := 4) sc_law_token.nd rfl (Or.inl rfl) (pe_op op_add (pe_op op_mulW (pe_op op_mulW (pe_use U_law_draw (hr.mono (by decide)) hg rfl (pa_cons (pv 0) (pa_cons pe_int pa_nil))) (pe_op op_pow pe_int pe_int)) (pe_use U_law_draw (hr.mono (by decide)) hg rfl (pa_cons (pv 0) (pa_cons pe_int pa_nil)))) (pe_use U_law_draw (hr.mono (by decide)) hg rfl (pa_cons (pv 0) (pa_cons pe_int pa_nil)))))
  (pss_one (ps_ret (pe_lst (pa_cons (pe_callTy call_str_int (by rfl) T.b_str (by decide +kernel) (pa_cons (pv 4) pa_nil)) (pa_cons pe_str (pa_cons (pv 4) pa_nil)))))))
   pss_nil)
  (pss_cons (ps_if (pt_cmpR op_eq (pv 1) pe_int (nomark _))
   (pss_cons (ps_set (i := 5) sc_law_token.nd rfl (Or.inl rfl) pe_str)
  (pss_cons (ps_set (i := 6) sc_law_token.nd rfl (Or.inl rfl) pe_str)
  (pss_cons (ps_for PassesOwn.never rfl (pi_range1 (by rfl) T.b_range (pa_cons (pe_use U_law_draw (hr.mono (by decide)) hg rfl (pa_cons (pv 0) (pa_cons pe_int pa_nil))) pa_nil)) (pg_name (i := 7) sc_law_token.nd rfl (Or.inl rfl))
   (pss_one (ps_set (i := 6) sc_law_token.nd rfl (Or.inl rfl) (pe_op op_add_str (pv 6) (pe_ix ix_str (pv 5) (pe_use U_law_draw (hr.mono (by decide)) hg rfl (pa_cons (pv 0) (pa_cons (pe_callB call_len (by rfl) T.b_len PySem.boot_len (pa_cons (pv 5) pa_nil)) pa_nil))) (fun _ _ => rfl))))))
  (pss_one (ps_ret (pe_lst (pa_cons (pe_op op_add_str (pe_op op_add_str pe_str (pv 6)) pe_str) (pa_cons pe_str (pa_cons (pv 6) pa_nil)))))))))
   pss_nil)
  (pss_cons (ps_if (pt_cmpR op_lt (pv 1) pe_int (nomark _))
   (pss_cons (ps_set (i := 3) sc_law_token.nd rfl (Or.inl rfl) (pe_use U_law_word (hr.mono (by decide)) hg rfl (pa_cons (pv 0) pa_nil)))
  (pss_one (ps_ret (pe_lst (pa_cons (pv 3) (pa_cons pe_str (pa_cons (pv 3) pa_nil)))))))
   pss_nil)
  (pss_cons (ps_set (i := 5) sc_law_token.nd rfl (Or.inl rfl) (pe_lst (pa_cons pe_str (pa_cons pe_str (pa_cons pe_str (pa_cons pe_str (pa_cons pe_str (pa_cons pe_str (pa_cons pe_str (pa_cons pe_str (pa_cons pe_str (pa_cons pe_str (pa_cons pe_str (pa_cons pe_str (pa_cons pe_str (pa_cons pe_str (pa_cons pe_str (pa_cons pe_str (pa_cons pe_str (pa_cons pe_str pa_nil))))))))))))))))))))
  (pss_cons (ps_set (i := 8) sc_law_token.nd rfl (Or.inl rfl) (pe_ix ix_list (pv 5) (pe_use U_law_draw (hr.mono (by decide)) hg rfl (pa_cons (pv 0) (pa_cons (pe_callB call_len (by rfl) T.b_len PySem.boot_len (pa_cons (pv 5) pa_nil)) pa_nil))) (fun _ _ => rfl)))
  (pss_one (ps_ret (pe_lst (pa_cons (pv 8) (pa_cons pe_str (pa_cons (pv 8) pa_nil))))))))))))), ?_⟩
    refine ⟨_, rfl, p, dl, 6, rfl, B, by decide, fun r H1 r0 r1 B1 K1 => ?_⟩
    refine ⟨_, rfl, rfl, _, rfl, ?_⟩
    refine ite3 (fun _ => ?_) fun _ => ?_
    · refine ⟨by decide, fun u hu => ?_⟩
      have B2 := B1.same (Same.new (o := .lst (kw9.map fun z => V.str (S z))) hu)
      have eu := upd_same (H := H1) (a := u) (o := HO.lst (kw9.map fun z => V.str (S z)))
      have S2 := Same.new (o := .lst (kw9.map fun z => V.str (S z))) hu
      obtain ⟨hup, hud⟩ := B1.ne_new hu
      rw [kw9_eq]
      generalize upd H1 u _ = H2 at B2 eu S2
      refine ⟨_, rfl, _, rfl, _, rfl, _, _, rfl, .inl ⟨_, SqL.of eu, rfl⟩, p, dl, 9, by rw [List.length_map]; rfl, B2, by decide, fun r H3 q0 q1 B3 K3 => ?_⟩
      obtain ⟨j, rfl⟩ := Int.eq_ofNat_of_zero_le q0
      obtain ⟨t, ht, t1, t2, t3, t4⟩ := kw9_ok j (by omega)
      obtain ⟨c, hc1, hc2⟩ : ∃ c, t.head? = some c ∧ isL c = true := by
        cases e : t.head? with
        | none => rw [e] at t1; cases t1
        | some c => rw [e] at t1; exact ⟨c, rfl, t1⟩
      refine ⟨u, _, _, _, rfl, rfl, SqL.of (K3 _ _ eu hup), atI_nat (show (kw9.map fun z => V.str (S z))[j]? = some (V.str (S t)) by rw [List.getElem?_map, ht]; rfl), ?_⟩
      refine ⟨_, rfl, _, rfl, sz_3, fun u2 hu2 => ?_⟩
      exact k t "word" _ false _ u2 _ (tk_word hc1 hc2 (List.all_eq_true.mp t2) (of_decide_eq_true t3) (by rw [if_pos t4])) upd_same (B3.same (Same.new hu2)) fun b o hb ne => Same.new hu2 _ _ (K3 _ _ (S2 _ _ (K1 _ _ hb ne)) ne)
    refine ⟨_, rfl, rfl, _, rfl, ?_⟩
    refine ite3 (fun _ => ?_) fun _ => ?_
    · refine ⟨_, rfl, p, dl, 1000, rfl, B1, by decide, fun r1 H2 q0 q1 B2 K2 => ?_⟩
      obtain ⟨d1, rfl⟩ := Int.eq_ofNat_of_zero_le q0
      refine ⟨_, _, rfl, rfl, ⟨by decide, by decide, by decide⟩, ?_⟩
      refine ⟨_, _, rfl, rfl, ?_, _, rfl, p, dl, 2, rfl, B2, by decide, fun r2 H3 q2 q3 B3 K3 => ?_⟩
      · have e20 : (10 : Int) ^ (20 : Int).toNat = ((100000000000000000000 : Nat) : Int) := by decide +kernel
        exact wide_mul (a := 10) (b := 70) (show d1 < 2 ^ 10 by omega) (by decide +kernel) (by decide) (by decide) (by decide)
      obtain ⟨d2, rfl⟩ := Int.eq_ofNat_of_zero_le q2
      refine ⟨_, _, rfl, rfl, ?_, _, rfl, p, dl, 1000, rfl, B3, by decide, fun r3 H4 q4 q5 B4 K4 => ?_⟩
      · have e20 : (10 : Int) ^ (20 : Int).toNat = ((100000000000000000000 : Nat) : Int) := by decide +kernel
        rw [e20, ← Int.natCast_mul]
        exact wide_mul (a := 90) (b := 10) (show d1 * 100000000000000000000 < 2 ^ 90 from Nat.lt_of_lt_of_le (show _ < 1000000000000000000000000 by omega) (by decide +kernel)) (show d2 < 2 ^ 10 by omega) (by decide) (by decide) (by decide)
      obtain ⟨d3, rfl⟩ := Int.eq_ofNat_of_zero_le q4
      refine ⟨_, _, rfl, rfl, ?_⟩
      have e20 : (10 : Int) ^ (20 : Int).toNat = ((100000000000000000000 : Nat) : Int) := by decide +kernel
      have en : (d1 : Int) * 10 ^ (20 : Int).toNat * (d2 : Int) + (d3 : Int) = ((d1 * 100000000000000000000 * d2 + d3 : Nat) : Int) := by
        rw [e20, Int.natCast_add, Int.natCast_mul, Int.natCast_mul]
      have hn : d1 * 100000000000000000000 * d2 + d3 < 1000000000000000000000000000000 := by
        have h1 : d1 * 100000000000000000000 * d2 ≤ d1 * 100000000000000000000 * 1 := Nat.mul_le_mul_left _ (by omega)
        omega
      dsimp only
      rw [en]
      generalize d1 * 100000000000000000000 * d2 + d3 = n at hn
      have hn : n < 10 ^ 30 := Nat.lt_of_lt_of_le hn (by decide +kernel)
      refine ⟨_, rfl, _, rfl, ?_, _, rfl, sz_3, fun u2 hu2 => ?_⟩
      · exact Nat.lt_trans (PySem.Flt.log2_lt_of (k := 100) (by decide) (show n < 2 ^ 100 from Nat.lt_of_lt_of_le hn (by decide +kernel))) (by decide)
      have es : Str.ofString (toString ((n : Nat) : Int)) = S (TL.numL n) := TL.ext_tl (TL.tl_num n)
      rw [es]
      exact k _ "int" _ false _ u2 _ (tk_int hn) upd_same (B4.same (Same.new hu2)) fun b o hb ne => Same.new hu2 _ _ (K4 _ _ (K3 _ _ (K2 _ _ (K1 _ _ hb ne) ne) ne) ne)
    refine ⟨_, rfl, rfl, _, rfl, ?_⟩
    refine ite3 (fun _ => ?_) fun _ => ?_
    · have eS : (" abc#:;()'[]{}=!?.,+-*/&~^|$@_<>" : Str).cps.toList.length = 32 := by decide +kernel
      have eS2 : (" abc#:;()'[]{}=!?.,+-*/&~^|$@_<>" : Str).length = 32 := by decide +kernel
      have hS : ∀ c ∈ (" abc#:;()'[]{}=!?.,+-*/&~^|$@_<>" : Str).cps.toList, (c ≠ 34 ∧ c ≠ 92) ∧ okC c = true ∧ c ≠ 10 := by decide +kernel
      refine ⟨_, rfl, p, dl, 12, rfl, B1, by decide, fun r H2 r0 r1 B2 K2 => ?_⟩
      obtain ⟨n, rfl⟩ := Int.eq_ofNat_of_zero_le r0
      refine ⟨_, rfl, by omega, by omega, ?_⟩
      rw [show ((n : Nat) : Int).toNat = n from Int.toNat_natCast _]
      refine for_range (lo := 0) (n := n) (fun i σ H5 => ∃ (tx : Str) (b : List Nat) (x7 : Option V) (v1 : Option V), σ = [some (.ref p), v1, none, none, none, some (.str " abc#:;()'[]{}=!?.,+-*/&~^|$@_<>"), some (.str tx), x7, none] ∧ tx = S b ∧ b.length = i ∧ (∀ c ∈ b, (c ≠ 34 ∧ c ≠ 92) ∧ okC c = true ∧ c ≠ 10) ∧ BoxAt H5 p dl ∧ Keep p H H5) ⟨_, [], none, _, rfl, by decide +kernel, rfl, by simp, B2, K1.trans K2⟩ ?_ ?_
      · rintro i σ H5 hi ⟨_, b, x7, v1, rfl, rfl, hb, hbw, B5, K5⟩
        refine ⟨_, rfl, _, rfl, _, rfl, _, rfl, _, _, rfl, ⟨by rw [eS2]; decide, rfl⟩, p, dl, 32, by rw [eS2]; rfl, B5, by decide, fun r H6 q0 q1 B6 K6 => ?_⟩
        obtain ⟨j, rfl⟩ := Int.eq_ofNat_of_zero_le q0
        have hc : (" abc#:;()'[]{}=!?.,+-*/&~^|$@_<>" : Str).cps.toList[j]? = some _ := List.getElem?_eq_getElem (by rw [eS]; omega)
        have hcm := hS _ (List.mem_of_getElem? hc)
        refine ⟨_, _, _, rfl, rfl, by rw [eS2]; decide, atI_nat hc, _, _, rfl, rfl, ?_, _, _, _, _, rfl, S_cat b [_], by simp [hb], fun d hd => ?_, B6, K5.trans K6⟩
        · rw [S_len]; exact Nat.le_trans (show _ ≤ 100 by simp [Str.length]; omega) (by decide)
        · rcases List.mem_append.mp hd with hd | hd
          · exact hbw d hd
          · rw [List.mem_singleton.mp hd]; exact hcm
      · rintro σ H5 ⟨_, b, x7, v1, rfl, rfl, hb, hbw, B5, K5⟩
        refine ⟨_, rfl, _, _, rfl, rfl, ?_, _, _, rfl, rfl, ?_, _, rfl, sz_3, fun u2 hu2 => ?_⟩
        · show ("\"" : Str).length + (S b).length ≤ sizeLine
          rw [show ("\"" : Str).length = 1 by decide +kernel, S_len]; exact Nat.le_trans (show _ ≤ 100 by omega) (by decide)
        · rw [show ("\"" : Str) = S [34] by decide +kernel, S_cat, S_len, S_len]; exact Nat.le_trans (show _ ≤ 100 by simp; omega) (by decide)
        rw [show ("\"" : Str) = S [34] by decide +kernel, S_cat, S_cat]
        exact k _ "text" _ false _ u2 _ (tk_text hbw (by omega)) upd_same (B5.same (Same.new hu2)) fun b o hb ne => Same.new hu2 _ _ (K5 _ _ hb ne)
    refine ⟨_, rfl, _, _, rfl, rfl, _, rfl, ?_⟩
    refine ite3 (fun _ => ?_) fun _ => ?_
    · refine ⟨_, rfl, p, dl, rfl, B1, fun r H3 hw hl B3 K3 => ?_⟩
      refine ⟨_, rfl, _, rfl, sz_3, fun u2 hu2 => ?_⟩
      exact k (95 :: r) "name" _ false _ u2 _ (tk_word (c := 95) rfl (by decide) (fun c hc => by
        rcases List.mem_cons.mp hc with rfl | hc
        · decide
        · exact hw c hc) (by simp; omega) (by rw [kw_us, if_neg Bool.false_ne_true])) upd_same (B3.same (Same.new hu2)) fun b o hb ne => Same.new hu2 _ _ (K3 _ _ (K1 _ _ hb ne) ne)
    refine ⟨by decide, fun u hu => ?_⟩
    have B2 := B1.same (Same.new (o := .lst (plainL.map fun z => V.str (S z))) hu)
    have eu := upd_same (H := H1) (a := u) (o := HO.lst (plainL.map fun z => V.str (S z)))
    have S2 := Same.new (o := .lst (plainL.map fun z => V.str (S z))) hu
    obtain ⟨hup, hud⟩ := B1.ne_new hu
    rw [plainL_eq]
    generalize upd H1 u _ = H2 at B2 eu S2
    refine ⟨_, rfl, _, rfl, _, rfl, _, _, rfl, .inl ⟨_, SqL.of eu, rfl⟩, p, dl, 18, by rw [List.length_map]; rfl, B2, by decide, fun r H3 q0 q1 B3 K3 => ?_⟩
    obtain ⟨j, rfl⟩ := Int.eq_ofNat_of_zero_le q0
    have ht : plainL[j]? = some _ := List.getElem?_eq_getElem (show j < plainL.length from by have : plainL.length = 18 := rfl; omega)
    have hm := plainL_in _ (List.mem_of_getElem? ht)
    refine ⟨u, _, _, _, rfl, rfl, SqL.of (K3 _ _ eu hup), atI_nat (show (plainL.map fun z => V.str (S z))[j]? = some (V.str (S _)) by rw [List.getElem?_map, ht]; rfl), ?_⟩
    refine ⟨_, rfl, _, rfl, sz_3, fun u2 hu2 => ?_⟩
    exact k _ "sign" _ true _ u2 _ (tk_sign hm) upd_same (B3.same (Same.new hu2)) fun b o hb ne => Same.new hu2 _ _ (K3 _ _ (S2 _ _ (K1 _ _ hb ne)) ne)
/-! a row -/
def HeadOk (a : List Nat) : Prop := ∃ c, a.head? = some c ∧ c ≠ 32 ∧ c ≠ 35
theorem rep_sp (k : Nat) : repS " " (k : Int) = S (List.replicate k 32) := by
  have e : repC ("\x20" : Str).cps.toList (k : Int) = List.replicate k 32 := by
    rw [show ("\x20" : Str).cps.toList = [32] by decide +kernel]
    unfold repC
    rw [Int.toNat_natCast]
    induction k with
    | zero => rfl
    | succ k ih => rw [List.replicate_succ, List.flatten_cons, ih, List.replicate_succ]; rfl
  show (⟨(repC ("\x20" : Str).cps.toList (k : Int)).toArray⟩ : Str) = _
  rw [e]
theorem rep_len (k : Nat) : (repS " " (k : Int)).length = k := by rw [rep_sp, S_len, List.length_replicate]
theorem rep_01 (z : List Nat) (b : Bool) : repS (S z) (if b = true then 1 else 0) = S (if b = true then z else []) := by
  cases b <;> (unfold repS repC; simp)
theorem rep_rep (k : Nat) (b : Bool) : repS (repS " " (k : Int)) (if b = true then 1 else 0) = S (List.replicate (if b = true then k else 0) 32) := by
  rw [rep_sp, rep_01]
  cases b <;> rfl
def spRow (K : PySem.W.Frag) : Sp := fun vs H Q _ => ∃ (p dl tp : Addr) (m : Int) (f0 : List Nat) (st0 st : St) (ts0 ds : List PyData), vs = [.ref p, .ref tp, .int m, .str (S f0)] ∧ BoxAt H p dl ∧ tp ≠ p ∧ tp ≠ dl ∧ ListAt K H tp ds ∧ ds.length ≤ 5000 ∧ f0.length ≤ 20 ∧ (∀ c ∈ f0, okC c = true ∧ c ≠ 10) ∧
  RowOk m f0 none st0 st ts0 ∧ ∀ (a : List Nat) (ts : List PyData) (sg : Option Bool) H', RowOk m a sg st0 st (ts0 ++ ts) → (f0 = [] → HeadOk a) → (∀ c ∈ a, okC c = true ∧ c ≠ 10) → a.length ≤ 650 → ts.length ≤ 9 → (∀ d ∈ ts, TokD d) → ListAt K H' tp (ds ++ ts) → BoxAt H' p dl → Keep2 p tp H H' → Q (.str (S a)) H'
theorem ok_row {f : Addr} {fd : FuncData} (F : Fun K "_law_row" "_law_row" s_law_row f fd) (T : Txt K mg) (U_law_draw : Use P w K mg base CX0 "_law_draw" 1 P_law_draw (spDraw K)) (U_law_token : Use P w K mg base CX0 "_law_token" 3 P_law_token (spTok K)) : FnG P w K mg base CX0 4 f fd P_law_row (spRow K) := by
  refine okG0 F sc_law_row (fun vs H Q E h => ?_) fun cdv A outer s H vs Q E hr hg h => ?_
  · obtain ⟨p, dl, tp, m, f0, st0, st, ts0, ds, rfl, _⟩ := h
    rfl
  · obtain ⟨p, dl, tp, m, f0, st0, st, ts0, ds, rfl, B, ntp, ntd, L, hdl, hfl, hfw, hR, k⟩ := h
    refine ⟨_, (pss_cons (ps_set (i := 4) sc_law_row.nd rfl (Or.inl rfl) (pv 3))
  (pss_cons (ps_set (i := 5) sc_law_row.nd rfl (Or.inl rfl) pe_str)
  (pss_cons (ps_for PassesOwn.never rfl (pi_range1 (by rfl) T.b_range (pa_cons (pe_op op_add pe_int (pe_use U_law_draw (hr.mono (by decide)) hg rfl (pa_cons (pv 0) (pa_cons pe_int pa_nil)))) pa_nil)) (pg_name (i := 6) sc_law_row.nd rfl (Or.inl rfl))
   (pss_cons (ps_set (i := 7) sc_law_row.nd rfl (Or.inl rfl) (pe_use U_law_token (hr.mono (by decide)) hg rfl (pa_cons (pv 0) pa_nil)))
  (pss_cons (ps_set (i := 8) sc_law_row.nd rfl (Or.inl rfl) (pe_use U_law_draw (hr.mono (by decide)) hg rfl (pa_cons (pv 0) (pa_cons pe_int pa_nil))))
  (C8.pss_cut (ps_if (PW.pt (pw_and (pt_cmpR op_eq (pv 8) pe_int (nomark _)) (pw_and (pt_cmpR op_eq (pe_cmpR op_eq (pv 5) pe_str (nomark _)) (pe_cmpR op_eq (pe_ix ix_list (pv 7) pe_int (fun _ _ => rfl)) pe_str (nomark _)) (nomark _)) (pw_and1 (pt_cmpR op_ne (pv 5) pe_str (nomark _))))))
   (pss_one (ps_set (i := 8) sc_law_row.nd rfl (Or.inl rfl) pe_int))
   pss_nil)
  (pss_cons (ps_set (i := 4) sc_law_row.nd rfl (Or.inl rfl) (pe_op op_add_str (pe_op op_add_str (pv 4) (pe_op op_rep_str (pe_op op_rep_str pe_str (pv 8)) (pe_callTy call_int1 (by rfl) T.b_int (by decide +kernel) (pa_cons (pe_or (pe_cmpR op_ne (pv 5) pe_str (nomark _)) (pe_one (pe_cmpR op_ne (pv 3) pe_str (nomark _)))) pa_nil)))) (pe_ix ix_list (pv 7) pe_int (fun _ _ => rfl))))
  (pss_cons (ps_set (i := 5) sc_law_row.nd rfl (Or.inl rfl) (pe_ix ix_list (pv 7) pe_int (fun _ _ => rfl)))
  (pss_one (ps_expr (pe_bm PySem.F.plainAttrs_list PySem.F.slot_list_append PySem.F.type_list_append mt_append (pv 1) (pa_cons (pe_tup (pa_cons (pe_ix ix_list (pv 7) pe_int (fun _ _ => rfl)) (pa_cons (pe_ix ix_list (pv 7) pe_int (fun _ _ => rfl)) (pa_cons (pv 2) pa_nil)))) pa_nil))))))))))
  (pss_one (ps_ret (pv 4)))))), ?_⟩
    refine ⟨_, rfl, ?_⟩
    refine ⟨_, rfl, p, dl, 9, rfl, B, by decide, fun r H1 r0 r1 B1 K1 => ?_⟩
    obtain ⟨n, hn⟩ : ∃ n : Nat, 1 + r = (n : Int) := ⟨(1 + r).toNat, by omega⟩
    refine ⟨_, _, rfl, rfl, (n : Int), by dsimp only; rw [hn], by omega, by omega, ?_⟩
    rw [show ((n : Nat) : Int).toNat = n from Int.toNat_natCast _]
    refine for_range (lo := 0) (n := n) (fun i σ H5 => ∃ (tx bf : Str) (a : List Nat) (ts : List PyData) (sg : Option Bool) (x6 x7 x8 : Option V), σ = [some (.ref p), some (.ref tp), some (.int m), some (.str (S f0)), some (.str tx), some (.str bf), x6, x7, x8] ∧ tx = S a ∧
      RowOk m a sg st0 st (ts0 ++ ts) ∧ ((sg = none ∧ bf = "") ∨ (∃ b, sg = some b ∧ bf ≠ "" ∧ decide (bf = "sign") = b)) ∧ ListAt K H5 tp (ds ++ ts) ∧ BoxAt H5 p dl ∧ Keep2 p tp H H5 ∧ a.length ≤ f0.length + 70 * i ∧ (∀ c ∈ a, okC c = true ∧ c ≠ 10) ∧ ts.length = i ∧ (∀ d ∈ ts, TokD d) ∧
      (bf = "" → a = f0 ∧ i = 0) ∧ (f0 = [] → bf ≠ "" → HeadOk a)) ⟨_, _, f0, [], none, none, none, none, rfl, rfl, by rw [List.append_nil]; exact hR, .inl ⟨rfl, rfl⟩, ?_, B1, ?_, by omega, hfw, rfl, by simp, fun _ => ⟨rfl, rfl⟩, fun _ h => absurd rfl h⟩ ?_ ?_
    · rw [List.append_nil]; exact listAt_keep L K1 ntp (let ⟨_, _, h, _⟩ := B; ⟨_, h⟩)
    · exact fun b o hb n1 _ => K1 b o hb n1
    · rintro i σ H5 hi ⟨_, bf, a, ts, sg, x6, x7, x8, rfl, rfl, hRow, hbf, L5, B5, K5, hal, haw, htl, htD, hb0, hHd⟩
      refine ⟨_, rfl, p, dl, rfl, B5, fun t kd v sgt d u H6 hT hu B6 K6 => ?_⟩
      refine ⟨_, rfl, p, dl, 4, rfl, B6, by decide, fun s H7 s0 s1 B7 K7 => ?_⟩
      obtain ⟨s, rfl⟩ := Int.eq_ofNat_of_zero_le s0
      have hup : u ≠ p := fun e => by
        obtain ⟨_, _, h, _⟩ := B6
        rw [← e, hu] at h
        cases h
      have hu7 := K7 _ _ hu hup
      refine ⟨fun σ H8 => ∃ s' : Nat, σ = [some (.ref p), some (.ref tp), some (.int m), some (.str (S f0)), some (.str (S a)), some (.str bf), some (.int (0 + (i : Int))), some (.ref u), some (.int s')] ∧ H8 = H7 ∧ s' ≤ 3 ∧ (s' = 0 → bf = "" ∨ decide (bf = "sign") ≠ sgt), ?_, ?_⟩
      · have ev : ∀ x y : Str, decide (V.str x = V.str y) = decide (x = y) := fun x y => decide_eq_decide.mpr ⟨V.str.inj, congrArg V.str⟩
        refine ⟨_, rfl, rfl, _, rfl, ?_⟩
        refine ite3 (fun c => ?_) fun c => ?_
        · refine ⟨_, rfl, rfl, _, rfl, u, _, _, _, rfl, rfl, SqL.of hu7, at1, rfl, rfl, _, rfl, ?_⟩
          rw [ev, ev]
          refine ite3 (fun c2 => ?_) fun c2 => ?_
          · refine ⟨_, rfl, rfl, _, rfl, ?_⟩
            rw [ev]
            by_cases e : bf = ""
            · exact iteFb (by rw [decide_eq_true e]; rfl) ⟨s, rfl, rfl, by omega, fun _ => .inl e⟩
            · exact iteTb (by rw [decide_eq_false e]; rfl) ⟨1, rfl, rfl, by omega, fun h => by omega⟩
          · refine ⟨s, rfl, rfl, by omega, fun _ => .inr fun e => ?_⟩
            have c2 := of_decide_eq_false c2
            exact c2 (by rw [e, hT.kds])
        · refine ⟨s, rfl, rfl, by omega, fun h => ?_⟩
          have c := of_decide_eq_false c
          exact absurd (congrArg V.int (by omega)) c
      rintro _ H8 ⟨s', rfl, e8, hs3, hs0⟩
      have e8 := e8.symm
      subst e8
      have hin : i < 9 := by omega
      have ht60 := hT.len
      have hb5 : ∃ xs, H5 p = some (.lst xs) := let ⟨_, _, h, _⟩ := B5; ⟨_, h⟩
      have hb6 : ∃ xs, H6 p = some (.lst xs) := let ⟨_, _, h, _⟩ := B6; ⟨_, h⟩
      have L7 : ListAt K H7 tp (ds ++ ts) := listAt_keep (listAt_keep L5 K6 ntp hb5) K7 ntp hb6
      obtain ⟨zs, ez, az⟩ := id L7
      have lz := az.length
      rw [List.length_append] at lz
      have mk : ∀ g, (bf ≠ "" → g = s') → (bf = "" → f0 = [] → g = 0) → g ≤ 3 → RowOk m (a ++ List.replicate g 32 ++ t) (some sgt) st0 st (ts0 ++ (ts ++ [d m])) ∧ (f0 = [] → HeadOk (a ++ List.replicate g 32 ++ t)) ∧ (∀ c ∈ a ++ List.replicate g 32 ++ t, okC c = true ∧ c ≠ 10) ∧ (a ++ List.replicate g 32 ++ t).length ≤ f0.length + 70 * (i + 1) := fun g h1 h2 h3 => by
        refine ⟨?_, fun ef => ?_, fun c hc => ?_, by simp; omega⟩
        · have hr3 := (hRow.sps g).tok hT.ne (fun post => ?_) hT.lex
          · rw [List.append_assoc ts0] at hr3
            exact hr3
          · by_cases g0 : g = 0
            · rw [if_pos g0]
              rcases hbf with ⟨rfl, _⟩ | ⟨b, rfl, hb1, hb2⟩
              · trivial
              · have hth : ∀ c, (t ++ post).head? = some c → t.head? = some c := fun c hc => by
                  obtain ⟨x, r, rfl⟩ := List.exists_cons_of_ne_nil hT.ne
                  exact hc
                rcases hs0 (by rw [← h1 hb1]; exact g0) with e | e
                · exact absurd e hb1
                · rw [hb2] at e
                  cases b with
                  | true =>
                    cases sgt with
                    | true => exact absurd rfl e
                    | false => exact fun c hc => by have := (hT.hd c (hth c hc)).1; rw [if_neg Bool.false_ne_true] at this; exact this
                  | false =>
                    cases sgt with
                    | false => exact absurd rfl e
                    | true => exact fun c hc => by have := (hT.hd c (hth c hc)).1; rw [if_pos rfl] at this; exact this
            · rw [if_neg g0]; trivial
        · by_cases eb : bf = ""
          · obtain ⟨ea, _⟩ := hb0 eb
            rw [h2 eb ef, ea, ef]
            obtain ⟨x, r, rfl⟩ := List.exists_cons_of_ne_nil hT.ne
            obtain ⟨_, h4, h5⟩ := hT.hd x rfl
            exact ⟨x, rfl, h4, h5⟩
          · obtain ⟨c, hc, h4⟩ := hHd ef eb
            refine ⟨c, ?_, h4⟩
            cases a with
            | nil => cases hc
            | cons x r => exact hc
        · rcases List.mem_append.mp hc with hc | hc
          · rcases List.mem_append.mp hc with hc | hc
            · exact haw c hc
            · rw [List.eq_of_mem_replicate hc]; decide
          · exact hT.w c hc
      have fL : ∀ u2, H7 u2 = none → ListAt K (upd (upd H7 u2 (.tup [.str kd, v, .int m])) tp (.lst (zs ++ [.ref u2]))) tp (ds ++ (ts ++ [d m])) := fun u2 hu2 => by
        have S9 := Same.new (o := .tup [.str kd, v, .int m]) hu2
        rw [← List.append_assoc]
        rcases hT.val with ⟨z, rfl, hd, _⟩ | ⟨z, rfl, hd⟩
        · rw [hd m]; exact listAt_app (listAt_mono L7 S9) (S9 _ _ ez) (Dt.made hu2 (.cons (.str _) (.cons (.str _) (.cons (.int _) .nil))))
        · rw [hd m]; exact listAt_app (listAt_mono L7 S9) (S9 _ _ ez) (Dt.made hu2 (.cons (.str _) (.cons (.int _) (.cons (.int _) .nil))))
      have fB : ∀ u2, H7 u2 = none → BoxAt (upd (upd H7 u2 (.tup [.str kd, v, .int m])) tp (.lst (zs ++ [.ref u2]))) p dl := fun u2 hu2 => (B7.same (Same.new hu2)).upd ntp ntd
      have fK : ∀ u2, H7 u2 = none → Keep2 p tp H (upd (upd H7 u2 (.tup [.str kd, v, .int m])) tp (.lst (zs ++ [.ref u2]))) := fun u2 hu2 b o hb n1 n2 => by rw [upd_ne n2]; exact Same.new hu2 _ _ (K7 _ _ (K6 _ _ (K5 b o hb n1 n2) n1) n1)
      have fD : ∀ x ∈ ts ++ [d m], TokD x := fun x hx => by
        rcases List.mem_append.mp hx with hx | hx
        · exact htD x hx
        · rw [List.mem_singleton.mp hx]
          rcases hT.val with ⟨z, _, hd, hs⟩ | ⟨z, _, hd⟩
          · rw [hd m]; exact .str _ _ _ hs
          · rw [hd m]; exact .int _ _ _
      refine ⟨_, rfl, _, rfl, _, _, rfl, rfl, by omega, by omega, ?_, ?_⟩
      · rw [show (" " : Str).length = 1 by decide +kernel]; simp; omega
      refine ⟨_, rfl, rfl, _, rfl, ?_⟩
      by_cases eb : bf = ""
      · refine iteFb (by rw [decide_eq_true (congrArg V.str eb)]; rfl) ?_
        by_cases ef : f0 = []
        · refine ⟨_, rfl, rfl, .inr ⟨false, ?_, ?_⟩⟩
          · rw [ef, show S [] = ("" : Str) by decide +kernel, decide_eq_true rfl]; rfl
          refine ⟨_, _, rfl, rfl, by decide, by decide, ?_, ?_⟩
          · rw [rep_len]; simp <;> omega
          rw [rep_rep]
          obtain ⟨m1, m2, m3, m4⟩ := mk (0) (fun e => absurd eb e) (fun _ _ => rfl) (by omega)
          refine ⟨_, _, rfl, rfl, ?_, _, rfl, u, _, _, _, rfl, rfl, SqL.of hu7, at0, _, _, rfl, rfl, ?_, ?_⟩
          · rw [S_len, S_len]; exact Nat.le_trans (show _ ≤ 2000 by simp; omega) (by decide)
          · rw [S_cat, S_len, S_len]; exact Nat.le_trans (show _ ≤ 2000 by simp; omega) (by decide)
          rw [S_cat, S_cat]
          refine ⟨_, rfl, u, _, _, _, rfl, rfl, SqL.of hu7, at1, ?_⟩
          refine ⟨_, rfl, .inl ⟨rfl, _, SqL.of ez⟩, _, rfl, u, _, _, _, rfl, rfl, SqL.of hu7, at1, _, rfl, u, _, _, _, rfl, rfl, SqL.of hu7, at2, _, rfl, sz_3, fun u2 hu2 => ⟨tp, _, _, rfl, rfl, Same.new hu2 _ _ ez, Nat.lt_of_le_of_lt (show zs.length ≤ 6000 by omega) (by decide), ?_⟩⟩
          exact ⟨_, kd, a ++ List.replicate (0) 32 ++ t, ts ++ [d m], some sgt, _, _, _, rfl, rfl, m1, .inr ⟨sgt, rfl, hT.kne, hT.kds⟩, fL u2 hu2, fB u2 hu2, fK u2 hu2, by omega, m3, by simp [htl], fD, fun e => absurd e hT.kne, fun e1 _ => m2 e1⟩
        · refine ⟨_, rfl, rfl, .inr ⟨true, ?_, ?_⟩⟩
          · rw [decide_eq_false fun h => ef (S_inj (b := []) ((V.str.inj h).trans (by decide +kernel)))]; rfl
          refine ⟨_, _, rfl, rfl, by decide, by decide, ?_, ?_⟩
          · rw [rep_len]; simp <;> omega
          rw [rep_rep]
          obtain ⟨m1, m2, m3, m4⟩ := mk (s') (fun e => absurd eb e) (fun _ e => absurd e ef) (by omega)
          refine ⟨_, _, rfl, rfl, ?_, _, rfl, u, _, _, _, rfl, rfl, SqL.of hu7, at0, _, _, rfl, rfl, ?_, ?_⟩
          · rw [S_len, S_len]; exact Nat.le_trans (show _ ≤ 2000 by simp; omega) (by decide)
          · rw [S_cat, S_len, S_len]; exact Nat.le_trans (show _ ≤ 2000 by simp; omega) (by decide)
          rw [S_cat, S_cat]
          refine ⟨_, rfl, u, _, _, _, rfl, rfl, SqL.of hu7, at1, ?_⟩
          refine ⟨_, rfl, .inl ⟨rfl, _, SqL.of ez⟩, _, rfl, u, _, _, _, rfl, rfl, SqL.of hu7, at1, _, rfl, u, _, _, _, rfl, rfl, SqL.of hu7, at2, _, rfl, sz_3, fun u2 hu2 => ⟨tp, _, _, rfl, rfl, Same.new hu2 _ _ ez, Nat.lt_of_le_of_lt (show zs.length ≤ 6000 by omega) (by decide), ?_⟩⟩
          exact ⟨_, kd, a ++ List.replicate (s') 32 ++ t, ts ++ [d m], some sgt, _, _, _, rfl, rfl, m1, .inr ⟨sgt, rfl, hT.kne, hT.kds⟩, fL u2 hu2, fB u2 hu2, fK u2 hu2, by omega, m3, by simp [htl], fD, fun e => absurd e hT.kne, fun e1 _ => m2 e1⟩
      · refine iteTb (by rw [decide_eq_false fun h => eb (V.str.inj h)]; rfl) (.inr ⟨true, rfl, ?_⟩)
        refine ⟨_, _, rfl, rfl, by decide, by decide, ?_, ?_⟩
        · rw [rep_len]; simp <;> omega
        rw [rep_rep]
        obtain ⟨m1, m2, m3, m4⟩ := mk (s') (fun _ => rfl) (fun e => absurd e eb) (by omega)
        refine ⟨_, _, rfl, rfl, ?_, _, rfl, u, _, _, _, rfl, rfl, SqL.of hu7, at0, _, _, rfl, rfl, ?_, ?_⟩
        · rw [S_len, S_len]; exact Nat.le_trans (show _ ≤ 2000 by simp; omega) (by decide)
        · rw [S_cat, S_len, S_len]; exact Nat.le_trans (show _ ≤ 2000 by simp; omega) (by decide)
        rw [S_cat, S_cat]
        refine ⟨_, rfl, u, _, _, _, rfl, rfl, SqL.of hu7, at1, ?_⟩
        refine ⟨_, rfl, .inl ⟨rfl, _, SqL.of ez⟩, _, rfl, u, _, _, _, rfl, rfl, SqL.of hu7, at1, _, rfl, u, _, _, _, rfl, rfl, SqL.of hu7, at2, _, rfl, sz_3, fun u2 hu2 => ⟨tp, _, _, rfl, rfl, Same.new hu2 _ _ ez, Nat.lt_of_le_of_lt (show zs.length ≤ 6000 by omega) (by decide), ?_⟩⟩
        exact ⟨_, kd, a ++ List.replicate (s') 32 ++ t, ts ++ [d m], some sgt, _, _, _, rfl, rfl, m1, .inr ⟨sgt, rfl, hT.kne, hT.kds⟩, fL u2 hu2, fB u2 hu2, fK u2 hu2, by omega, m3, by simp [htl], fD, fun e => absurd e hT.kne, fun e1 _ => m2 e1⟩
    · rintro σ H5 ⟨_, bf, a, ts, sg, x6, x7, x8, rfl, rfl, hRow, hbf, L5, B5, K5, hal, haw, htl, htD, hb0, hHd⟩
      have hbn : bf ≠ "" := fun e => by obtain ⟨_, h⟩ := hb0 e; omega
      exact ⟨_, rfl, k a ts sg H5 hRow (fun e => hHd e hbn) haw (by omega) (by omega) htD L5 B5 K5⟩
/-! the lines so far -/
/-- the lines Ls lead from nothing to open brackets st and tokens ts, whatever stands behind them -/
def LsTo (Ls : List (List Nat)) (st : St) (ts : List PyData) : Prop := ∀ rest xs' ds', Lns rest Ls.length st [0] ts xs' ds' → Lns (Ls ++ rest) 0 [] [0] [] xs' ds'
theorem LsTo.nil : LsTo [] [] [] := fun rest xs' ds' h => h
theorem LsTo.fin {Ls : List (List Nat)} {ts : List PyData} (h : LsTo Ls [] ts) : Lns Ls 0 [] [0] [] [0] ts := by
  have := h [] [0] ts .nil
  rwa [List.append_nil] at this
theorem LsTo.step {Ls : List (List Nat)} {st st2 : St} {ts ts2 : List PyData} {l : List Nat} (h : LsTo Ls st ts) (g : ∀ rest xs' ds', Lns rest (Ls.length + 1) st2 [0] ts2 xs' ds' → Lns (l :: rest) Ls.length st [0] ts xs' ds') : LsTo (Ls ++ [l]) st2 ts2 := fun rest xs' ds' hr => by
  rw [List.append_assoc]
  refine h ([l] ++ rest) xs' ds' (g rest xs' ds' ?_)
  rw [List.length_append, List.length_singleton] at hr
  exact hr
/-- a blank line, or a comment -/
theorem LsTo.blank {Ls : List (List Nat)} {st : St} {ts : List PyData} {k : Nat} {post : List Nat} (h : LsTo Ls st ts) (hp : post = [] ∨ ∃ r, post = 35 :: r) : LsTo (Ls ++ [List.replicate k 32 ++ post]) st ts := by
  have hdw : ∀ n : Nat, (List.replicate n 32 ++ post).dropWhile (· == 32) = post := fun n => by
    induction n with
    | zero => rcases hp with rfl | ⟨r, rfl⟩ <;> rfl
    | succ n ih => rw [List.replicate_succ, List.cons_append, List.dropWhile_cons_of_pos (by rfl), ih]
  have hb : blankB (List.replicate k 32 ++ post) = true := by
    unfold blankB
    rw [hdw]
    rcases hp with rfl | ⟨r, rfl⟩ <;> rfl
  have hx : ∀ m ds, Lex (List.replicate k 32 ++ post) m 0 st ds st ds := fun m ds => by
    have h1 := (RowOk.nil (m := m) (sg := none) (st := st)).sps k
    rw [List.nil_append] at h1
    have hn : nextOk post (if k = 0 then none else none : Option Bool) := by split <;> trivial
    refine h1 post hn ds st ds ?_
    rw [List.append_nil]
    refine .fin ?_
    rcases hp with rfl | ⟨r, rfl⟩
    · exact .inl (by simp)
    · refine .inr ?_
      have e := at_pre (pre := List.replicate k 32) (t := 35 :: r) (post := []) (c := 35) rfl
      rw [List.append_nil] at e
      exact e
  refine h.step fun rest xs' ds' hr => ?_
  cases st with
  | nil => exact .blank hb hr
  | cons q r =>
    refine .inn (by simp) (hx _ ts) ?_
    unfold nlIf
    rw [if_neg (by simp)]
    exact hr
theorem head_blank {l : List Nat} (h : HeadOk l) : blankB l = false ∧ spaces l = 0 := by
  obtain ⟨c, hc, h1, h2⟩ := h
  cases l with
  | nil => cases hc
  | cons x r =>
    obtain rfl := Option.some.inj hc
    have e : (x :: r).dropWhile (· == 32) = x :: r := List.dropWhile_cons_of_neg (by simpa using h1)
    refine ⟨?_, ?_⟩
    · unfold blankB
      rw [e]
      exact decide_eq_false h2
    · unfold spaces
      rw [e, Nat.sub_self]
/-- a line that is read -/
theorem LsTo.row {Ls : List (List Nat)} {st st2 : St} {ts tr : List PyData} {l : List Nat} (h : LsTo Ls st ts) (hx : ∀ ds, Lex l ((Ls.length : Int) + 1) 0 st ds st2 (ds ++ tr)) (hh : st = [] → HeadOk l) : LsTo (Ls ++ [l]) st2 (nlIf st2 (ts ++ tr) ((Ls.length : Int) + 1)) := by
  refine h.step fun rest xs' ds' hr => ?_
  cases st with
  | nil =>
    obtain ⟨h1, h2⟩ := head_blank (hh rfl)
    have hI : Ind (spaces l) ((Ls.length : Int) + 1) [0] ts [0] ts := by
      have := Ind.out (s := spaces l) (m := (Ls.length : Int) + 1) (xs := [0]) (ds := ts) (k := 0) (by rw [h2]; rfl) (fun i u hi hu => by
        cases i with
        | zero => omega
        | succ i => cases hu)
      simpa using this
    exact .out h1 hI (hx ts) hr
  | cons q r => exact .inn (by simp) (hx ts) hr
/-- `)` is read whatever stands behind it -/
theorem tok1_close {m : Int} (pre post : List Nat) {n : Int} : Tok1 (pre ++ ([41] ++ post)) m pre.length (pre.length + 1) [(40, n)] [] (signD [41] m) := by
  have hs : SignAt (pre ++ ([41] ++ post)) pre.length [41] := by
    refine ⟨16, rfl, by rw [List.drop_left]; rfl, fun j hj y hy e => ?_⟩
    rw [List.drop_left] at e
    have h0 : ∀ j < 16, ∀ y, sgns[j]? = some y → y.head? ≠ some 41 ∧ y ≠ [] := by decide
    obtain ⟨h1, h2⟩ := h0 j hj y hy
    obtain ⟨c, r, rfl⟩ := List.exists_cons_of_ne_nil h2
    have e : ([41] ++ post).take (r.length + 1) = c :: r := e
    rw [List.singleton_append, List.take_succ_cons] at e
    exact h1 (by rw [← (List.cons.inj e).1]; rfl)
  exact .sign (z := [41]) (at_pre rfl) (by decide) hs (Fol.cls (st := []) (p := (40, n)) rfl rfl rfl)
theorem row_close {m n : Int} (k : Nat) : RowOk m (List.replicate k 32 ++ [41]) none [(40, n)] [] [signD [41] m] := fun post _ ds st' ds' hx => by
  rw [List.append_assoc] at hx ⊢
  have h1 := (RowOk.nil (m := m) (sg := none) (st := [(40, n)])).sps k
  rw [List.nil_append] at h1
  have hn : nextOk ([41] ++ post) (if k = 0 then none else none : Option Bool) := by split <;> trivial
  refine h1 ([41] ++ post) hn ds st' ds' (.tok (tok1_close _ _) (by omega) (by simp) ?_)
  rw [List.append_nil]
  rw [List.length_append, List.length_singleton] at hx
  exact hx
/-- ` (` at the end of a row -/
theorem RowOk.open_ {m : Int} {a : List Nat} {sg : Option Bool} {st0 : St} {ts : List PyData} (h : RowOk m a sg st0 [] ts) : RowOk m (a ++ [32] ++ [40]) (some true) st0 [(40, m)] (ts ++ [signD [40] m]) :=
  h.sp1.put (by simp) (fun _ => trivial) fun post hp => tok1_sign _ post (by decide) (Fol.opn (st := []) rfl (by decide)) hp
/-! the law -/
def spLaw (K : PySem.W.Frag) : Sp := fun vs H Q _ => ∃ (a : Addr) (ns : List Int), vs = [.ref a] ∧ SqL K H a (ns.map V.int) ∧ ns.length ≤ 63 ∧ ∀ H', Q (.bl true) H'
structure W0 (K : PySem.W.Frag) (H : Hp) (p dl lp tp : Addr) (Ls : List (List Nat)) (ts : List PyData) : Prop where
  bx : BoxAt H p dl
  ln : H lp = some (.lst (Ls.map fun l => V.str (S l)))
  tk : ListAt K H tp ts
  n1 : lp ≠ p
  n2 : lp ≠ dl
  n3 : tp ≠ p
  n4 : tp ≠ dl
  n5 : tp ≠ lp
theorem W0.keep {K : PySem.W.Frag} {H H' : Hp} {p dl lp tp : Addr} {Ls : List (List Nat)} {ts : List PyData} (h : W0 K H p dl lp tp Ls ts) (k : Keep p H H') (B : BoxAt H' p dl) : W0 K H' p dl lp tp Ls ts :=
  ⟨B, k _ _ h.ln h.n1, listAt_keep h.tk k h.n3 h.bx.at_, h.n1, h.n2, h.n3, h.n4, h.n5⟩
theorem W0.same {K : PySem.W.Frag} {H H' : Hp} {p dl lp tp : Addr} {Ls : List (List Nat)} {ts : List PyData} (h : W0 K H p dl lp tp Ls ts) (k : Same H H') : W0 K H' p dl lp tp Ls ts :=
  ⟨h.bx.same k, k _ _ h.ln, listAt_mono h.tk k, h.n1, h.n2, h.n3, h.n4, h.n5⟩
theorem W0.tok {K : PySem.W.Frag} {H : Hp} {p dl lp tp u : Addr} {Ls : List (List Nat)} {ts : List PyData} {zs : List V} {s z : Str} {n : Int} (h : W0 K H p dl lp tp Ls ts) (hu : H u = none) (ez : H tp = some (.lst zs)) :
    W0 K (upd (upd H u (.tup [.str s, .str z, .int n])) tp (.lst (zs ++ [.ref u]))) p dl lp tp Ls (ts ++ [.tuple [.str s, .str z, .int n]]) := by
  have S9 := Same.new (o := .tup [.str s, .str z, .int n]) hu
  exact ⟨(h.bx.same S9).upd h.n3 h.n4, by rw [upd_ne h.n5.symm]; exact S9 _ _ h.ln, listAt_app (listAt_mono h.tk S9) (S9 _ _ ez) (Dt.made hu (.cons (.str _) (.cons (.str _) (.cons (.int _) .nil)))), h.n1, h.n2, h.n3, h.n4, h.n5⟩
theorem W0.line {K : PySem.W.Frag} {H : Hp} {p dl lp tp : Addr} {Ls : List (List Nat)} {ts : List PyData} {l : List Nat} {z : Str} (h : W0 K H p dl lp tp Ls ts) (hz : z = S l) :
    W0 K (upd H lp (.lst ((Ls.map fun l => V.str (S l)) ++ [.str z]))) p dl lp tp (Ls ++ [l]) ts :=
  ⟨h.bx.upd h.n1 h.n2, by rw [upd_same, hz, List.map_append]; rfl, listAt_upd h.tk h.n5 h.ln, h.n1, h.n2, h.n3, h.n4, h.n5⟩
structure Ok (Ls : List (List Nat)) (ts : List PyData) (n : Nat) : Prop where
  len : Ls.length = n
  tl : ts.length ≤ 13 * n
  ok : ∀ l ∈ Ls, l.length ≤ 665 ∧ ∀ c ∈ l, okC c = true ∧ c ≠ 10
  td : ∀ d ∈ ts, TokD d
theorem Ok.line {Ls : List (List Nat)} {ts ts' : List PyData} {n : Nat} {l : List Nat} (h : Ok Ls ts n) (h1 : l.length ≤ 665) (h2 : ∀ c ∈ l, okC c = true ∧ c ≠ 10) (h3 : ts'.length ≤ ts.length + 13) (h4 : ∀ d ∈ ts', TokD d) : Ok (Ls ++ [l]) ts' (n + 1) :=
  ⟨by rw [List.length_append, h.len]; rfl, by have := h.tl; omega, fun x hx => by
    rcases List.mem_append.mp hx with hx | hx
    · exact h.ok x hx
    · rw [List.mem_singleton.mp hx]; exact ⟨h1, h2⟩, h4⟩
def stB (b : Bool) (st : St) : Prop := (b = false ∧ st = []) ∨ (b = true ∧ ∃ m, st = [(40, m)])
def cmA : List Nat := ("# if ( ' 007" : Str).cps.toList
def cmB : List Nat := ("  # ) 'a" : Str).cps.toList
theorem cmA_S : ("# if ( ' 007" : Str) = S cmA := by unfold cmA S; rfl
theorem cmB_S : ("  # ) 'a" : Str) = S cmB := by unfold cmB S; rfl
theorem cmA_e : cmA = 35 :: cmA.tail := by decide +kernel
theorem cmB_e : cmB = List.replicate (1 + 1) 32 ++ 35 :: cmB.tail.tail.tail := by decide +kernel
theorem cmA_ok : ∀ c ∈ cmA, okC c = true ∧ c ≠ 10 := by decide +kernel
theorem cmB_ok : ∀ c ∈ cmB, okC c = true ∧ c ≠ 10 := by decide +kernel
theorem emp_S : ("" : Str) = S [] := by decide +kernel
theorem cl_S : (")" : Str) = S [41] := by decide +kernel
theorem op_S : (" (" : Str) = S [32, 40] := by decide +kernel
theorem op1_S : ("(" : Str) = S [40] := by decide +kernel
theorem joinL_mem {sep : List Nat} {c : Nat} : ∀ {ps : List (List Nat)}, c ∈ TL.joinL sep ps → c ∈ sep ∨ ∃ p ∈ ps, c ∈ p
  | [], h => by simp [TL.joinL] at h
  | [p], h => .inr ⟨p, by simp, by simpa [TL.joinL] using h⟩
  | p :: q :: r, h => by
    have h : c ∈ p ++ (sep ++ TL.joinL sep (q :: r)) := by simpa [TL.joinL] using h
    rcases List.mem_append.mp h with h | h
    · exact .inr ⟨p, by simp, h⟩
    rcases List.mem_append.mp h with h | h
    · exact .inl h
    · rcases joinL_mem h with h | ⟨x, hx, hc⟩
      · exact .inl h
      · exact .inr ⟨x, List.mem_cons_of_mem _ hx, hc⟩
theorem joinL_len {N : Nat} : ∀ {ps : List (List Nat)}, (∀ p ∈ ps, p.length ≤ N) → (TL.joinL [10] ps).length ≤ (N + 1) * ps.length
  | [], _ => by simp [TL.joinL]
  | [p], h => by
    have := h p (by simp)
    simp [TL.joinL]; omega
  | p :: q :: r, h => by
    have h1 := h p (by simp)
    have h2 := joinL_len (N := N) (ps := q :: r) fun x hx => h x (List.mem_cons_of_mem _ hx)
    have e : (TL.joinL [10] (p :: q :: r)).length = p.length + (1 + (TL.joinL [10] (q :: r)).length) := by simp [TL.joinL]; omega
    rw [e, List.length_cons, Nat.mul_succ]; omega
theorem Ok.ls {Ls : List (List Nat)} {ts : List PyData} {n : Nat} (h : Ok Ls ts n) (h0 : 0 < n) (hn : n ≤ 28) : LsOk Ls := by
  have hl := h.len
  refine ⟨fun e => by rw [e] at hl; simp at hl; omega, fun p hp hc => (h.ok p hp).2 10 hc |>.2 rfl, fun c hc => ?_, fun l hl => ⟨by have := (h.ok l hl).1; omega, fun c hc => ?_⟩, ?_, by omega⟩
  · rcases joinL_mem hc with hc | ⟨p, hp, hc⟩
    · rw [List.mem_singleton.mp hc]; decide
    · exact ((h.ok p hp).2 c hc).1
  · exact okC_lt ((h.ok l hl).2 c hc).1
  · have := joinL_len (N := 665) (ps := Ls) fun p hp => (h.ok p hp).1
    rw [hl] at this
    omega
theorem ok_law {f : Addr} {fd : FuncData} (F : Fun K "law" "law" s_law f fd) (T : Txt K mg) (U_law_digits : Use P w K mg base CX0 "_law_digits" 2 P_law_digits (spDigits K)) (U_law_draw : Use P w K mg base CX0 "_law_draw" 1 P_law_draw (spDraw K)) (U_law_row : Use P w K mg base CX0 "_law_row" 4 P_law_row (spRow K))
    (U_split : Use P w K mg base CX0 "split" 6 P_split (spSplitV K)) (U_law_same_tokens : Use P w K mg base CX0 "_law_same_tokens" 2 P_law_same_tokens (spSameToks K)) : FnG P w K mg base CX0 8 f fd P_law (spLaw K) := by
  refine okG0 F sc_law (fun vs H Q E h => ?_) fun cdv A outer s H vs Q E hr hg h => ?_
  · obtain ⟨a, ns, rfl, _⟩ := h
    rfl
  · obtain ⟨a, ns, rfl, hs, hn, k⟩ := h
    refine ⟨_, (pss_cons (ps_set (i := 1) sc_law.nd rfl (Or.inl rfl) (pe_lst (pa_cons (pe_use U_law_digits (hr.mono (by decide)) hg rfl (pa_cons (pv 0) (pa_cons pe_int (pa_cons pe_int pa_nil)))) (pa_cons pe_int pa_nil))))
  (pss_cons (ps_set (i := 2) sc_law.nd rfl (Or.inl rfl) (pe_lst pa_nil))
  (pss_cons (ps_set (i := 3) sc_law.nd rfl (Or.inl rfl) (pe_lst pa_nil))
  (pss_cons (ps_set (i := 4) sc_law.nd rfl (Or.inl rfl) pe_bl)
  (pss_cons (ps_set (i := 5) sc_law.nd rfl (Or.inl rfl) (pe_op op_add pe_int (pe_use U_law_draw (hr.mono (by decide)) hg rfl (pa_cons (pv 1) (pa_cons pe_int pa_nil)))))
  (pss_cons (ps_for PassesOwn.never rfl (pi_range1 (by rfl) T.b_range (pa_cons (pv 5) pa_nil)) (pg_name (i := 6) sc_law.nd rfl (Or.inl rfl))
   (pss_cons (ps_set (i := 7) sc_law.nd rfl (Or.inl rfl) (pe_op op_add (pe_callB call_len (by rfl) T.b_len PySem.boot_len (pa_cons (pv 2) pa_nil)) pe_int))
  (pss_cons (ps_set (i := 8) sc_law.nd rfl (Or.inl rfl) (pe_use U_law_draw (hr.mono (by decide)) hg rfl (pa_cons (pv 1) (pa_cons pe_int pa_nil))))
  (pss_one (ps_if (pt_cmpR op_lt (pv 8) pe_int (nomark _))
   (pss_one (ps_expr (pe_bm PySem.F.plainAttrs_list PySem.F.slot_list_append PySem.F.type_list_append mt_append (pv 2) (pa_cons (pe_op op_add_str (pe_op op_rep_str pe_str (pe_use U_law_draw (hr.mono (by decide)) hg rfl (pa_cons (pv 1) (pa_cons pe_int pa_nil)))) (pe_ix ix_list (pe_lst (pa_cons pe_str (pa_cons pe_str pa_nil))) (pv 8) (fun _ _ => rfl))) pa_nil))))
   (pss_cons (ps_set (i := 9) sc_law.nd rfl (Or.inl rfl) pe_str)
  (C8.pss_cut (ps_if (PW.pt (pw_and (pt_val (pv 4)) (pw_and1 (pt_cmpR op_eq (pe_use U_law_draw (hr.mono (by decide)) hg rfl (pa_cons (pv 1) (pa_cons pe_int pa_nil))) pe_int (nomark _)))))
   (pss_cons (ps_set (i := 9) sc_law.nd rfl (Or.inl rfl) (pe_op op_add_str (pe_op op_rep_str pe_str (pe_use U_law_draw (hr.mono (by decide)) hg rfl (pa_cons (pv 1) (pa_cons pe_int pa_nil)))) pe_str))
  (pss_cons (ps_expr (pe_bm PySem.F.plainAttrs_list PySem.F.slot_list_append PySem.F.type_list_append mt_append (pv 3) (pa_cons (pe_tup (pa_cons pe_str (pa_cons pe_str (pa_cons (pv 7) pa_nil)))) pa_nil)))
  (pss_one (ps_set (i := 4) sc_law.nd rfl (Or.inl rfl) pe_bl))))
   pss_nil)
  (pss_cons (ps_set (i := 10) sc_law.nd rfl (Or.inl rfl) (pe_use U_law_row (hr.mono (by decide)) hg rfl (pa_cons (pv 1) (pa_cons (pv 3) (pa_cons (pv 7) (pa_cons (pv 9) pa_nil))))))
  (C8.pss_cut (ps_if (PW.pt (pw_and (pt_not (pt_val (pv 4))) (pw_and1 (pt_cmpR op_eq (pe_use U_law_draw (hr.mono (by decide)) hg rfl (pa_cons (pv 1) (pa_cons pe_int pa_nil))) pe_int (nomark _)))))
   (pss_cons (ps_set (i := 10) sc_law.nd rfl (Or.inl rfl) (pe_op op_add_str (pv 10) pe_str))
  (pss_cons (ps_expr (pe_bm PySem.F.plainAttrs_list PySem.F.slot_list_append PySem.F.type_list_append mt_append (pv 3) (pa_cons (pe_tup (pa_cons pe_str (pa_cons pe_str (pa_cons (pv 7) pa_nil)))) pa_nil)))
  (pss_one (ps_set (i := 4) sc_law.nd rfl (Or.inl rfl) pe_bl))))
   pss_nil)
  (C8.pss_cut (ps_if (pt_not (pt_val (pv 4)))
   (pss_one (ps_expr (pe_bm PySem.F.plainAttrs_list PySem.F.slot_list_append PySem.F.type_list_append mt_append (pv 3) (pa_cons (pe_tup (pa_cons pe_str (pa_cons pe_str (pa_cons (pv 7) pa_nil)))) pa_nil))))
   pss_nil)
  (C8.pss_cut (ps_if (pt_cmpR op_eq (pe_use U_law_draw (hr.mono (by decide)) hg rfl (pa_cons (pv 1) (pa_cons pe_int pa_nil))) pe_int (nomark _))
   (pss_one (ps_set (i := 10) sc_law.nd rfl (Or.inl rfl) (pe_op op_add_str (pv 10) pe_str)))
   pss_nil)
  (pss_one (ps_expr (pe_bm PySem.F.plainAttrs_list PySem.F.slot_list_append PySem.F.type_list_append mt_append (pv 2) (pa_cons (pv 10) pa_nil)))))))))))))))
  (C8.pss_cut (ps_if (pt_val (pv 4))
   (pss_cons (ps_expr (pe_bm PySem.F.plainAttrs_list PySem.F.slot_list_append PySem.F.type_list_append mt_append (pv 2) (pa_cons pe_str pa_nil)))
  (pss_cons (ps_expr (pe_bm PySem.F.plainAttrs_list PySem.F.slot_list_append PySem.F.type_list_append mt_append (pv 3) (pa_cons (pe_tup (pa_cons pe_str (pa_cons pe_str (pa_cons (pe_callB call_len (by rfl) T.b_len PySem.boot_len (pa_cons (pv 2) pa_nil)) pa_nil)))) pa_nil)))
  (pss_one (ps_expr (pe_bm PySem.F.plainAttrs_list PySem.F.slot_list_append PySem.F.type_list_append mt_append (pv 3) (pa_cons (pe_tup (pa_cons pe_str (pa_cons pe_str (pa_cons (pe_callB call_len (by rfl) T.b_len PySem.boot_len (pa_cons (pv 2) pa_nil)) pa_nil)))) pa_nil))))))
   pss_nil)
  (C8.pss_cut (ps_if (pt_cmpR op_eq (pe_use U_law_draw (hr.mono (by decide)) hg rfl (pa_cons (pv 1) (pa_cons pe_int pa_nil))) pe_int (nomark _))
   (pss_one (ps_expr (pe_bm PySem.F.plainAttrs_list PySem.F.slot_list_append PySem.F.type_list_append mt_append (pv 2) (pa_cons pe_str pa_nil))))
   pss_nil)
  (pss_cons (ps_expr (pe_bm PySem.F.plainAttrs_list PySem.F.slot_list_append PySem.F.type_list_append mt_append (pv 3) (pa_cons (pe_tup (pa_cons pe_str (pa_cons pe_str (pa_cons (pe_callB call_len (by rfl) T.b_len PySem.boot_len (pa_cons (pv 2) pa_nil)) pa_nil)))) pa_nil)))
  (pss_cons (ps_set (i := 9) sc_law.nd rfl (Or.inl rfl) (pe_use U_split (hr.mono (by decide)) hg rfl (pa_cons (pe_bm PySem.F.plainAttrs_str PySem.F.slot_str_join PySem.F.type_str_join mt_join pe_str (pa_cons (pv 2) pa_nil)) pa_nil)))
  (pss_cons (ps_if (pt_not (pt_val (pe_use U_law_same_tokens (hr.mono (by decide)) hg rfl (pa_cons (pv 9) (pa_cons (pv 3) pa_nil)))))
   (pss_one (ps_ret pe_bl))
   pss_nil)
  (pss_cons (ps_expr (pe_bm PySem.F.plainAttrs_list PySem.F.slot_list_append PySem.F.type_list_append mt_append (pv 9) (pa_cons (pe_tup (pa_cons pe_str (pa_cons pe_str (pa_cons pe_int pa_nil)))) pa_nil)))
  (pss_cons (ps_asg (pe_tup (pa_cons pe_str (pa_cons pe_str (pa_cons pe_int pa_nil)))) (pg_sub (pv 9) pe_int set_list))
  (pss_one (ps_ret (pe_use U_law_same_tokens (hr.mono (by decide)) hg rfl (pa_cons (pe_use U_split (hr.mono (by decide)) hg rfl (pa_cons (pe_bm PySem.F.plainAttrs_str PySem.F.slot_str_join PySem.F.type_str_join mt_join pe_str (pa_cons (pv 2) pa_nil)) pa_nil)) (pa_cons (pv 3) pa_nil)))))))))))))))))), ?_⟩
    refine ⟨_, rfl, a, ns, 0, 63, rfl, hs, by decide, by decide, fun dl H1 nd D => ?_⟩
    obtain ⟨ds, hd, hl, hds, S1⟩ := D
    refine ⟨sz_2, fun p hp => ?_⟩
    have B0 : BoxAt (upd H1 p (.lst [.ref dl, .int 0])) p dl := ⟨ds, 0, upd_same, by decide, by rw [upd_ne (ne_of_none hd hp)]; exact hd, hl, hds⟩
    generalize upd H1 p (.lst [.ref dl, .int 0]) = H2 at B0
    refine ⟨sz_0, fun lp hlp => ⟨sz_0, fun tp htp => ?_⟩⟩
    have X0 : W0 K (upd (upd H2 lp (.lst [])) tp (.lst [])) p dl lp tp [] [] := by
      obtain ⟨a1, a2⟩ := B0.ne_new hlp
      have B1 := B0.same (Same.new (o := .lst []) hlp)
      obtain ⟨a3, a4⟩ := B1.ne_new htp
      have a5 : tp ≠ lp := fun e => by subst e; rw [upd_same] at htp; cases htp
      exact ⟨B1.same (Same.new htp), by rw [upd_ne a5.symm]; exact upd_same, ⟨[], upd_same, .nil⟩, a1, a2, a3, a4, a5⟩
    generalize upd (upd H2 lp (.lst [])) tp (.lst []) = H3 at X0
    refine ⟨_, rfl, p, dl, 25, rfl, X0.bx, by decide, fun r H4 r0 r1 B4 K4 => ?_⟩
    have X4 := X0.keep K4 B4
    obtain ⟨n, hn⟩ : ∃ n : Nat, 1 + r = (n : Int) := ⟨(1 + r).toNat, by omega⟩
    refine ⟨_, _, rfl, rfl, ?_⟩
    dsimp only
    rw [hn]
    refine ⟨_, rfl, _, rfl, by omega, by omega, ?_⟩
    rw [show ((n : Nat) : Int).toNat = n from Int.toNat_natCast _]
    refine for_range (lo := 0) (n := n) (fun i σ H5 => ∃ (b : Bool) (Ls : List (List Nat)) (ts : List PyData) (st : St) (x6 x7 x8 x9 x10 : Option V), σ = [some (.ref a), some (.ref p), some (.ref lp), some (.ref tp), some (.bl b), some (.int n), x6, x7, x8, x9, x10] ∧
      W0 K H5 p dl lp tp Ls ts ∧ LsTo Ls st ts ∧ stB b st ∧ Ok Ls ts i) ⟨false, [], [], [], none, none, none, none, none, rfl, X4, .nil, .inl ⟨rfl, rfl⟩, ⟨rfl, by simp, by simp, by simp⟩⟩ ?_ ?_
    · rintro i σ H5 hi ⟨b, Ls, ts, st, x6, x7, x8, x9, x10, rfl, X5, hTo, hsb, hOk⟩
      have hLl := hOk.len
      have hTl := hOk.tl
      refine ⟨_, rfl, _, _, rfl, .inl ⟨_, SqL.of X5.ln, rfl⟩, _, _, rfl, rfl, ?_⟩
      dsimp only
      rw [show (((Ls.map fun l => V.str (S l)).length : Nat) : Int) + 1 = (Ls.length : Int) + 1 by rw [List.length_map]]
      refine ⟨_, rfl, p, dl, 8, rfl, X5.bx, by decide, fun kd H6 k0 k1 B6 K6 => ?_⟩
      have X6 := X5.keep K6 B6
      refine ⟨_, rfl, _, _, rfl, rfl, _, rfl, ?_⟩
      refine ite3 (fun c => ?_) fun c => ?_
      · have c := of_decide_eq_true c
        refine ⟨_, rfl, .inl ⟨rfl, _, SqL.of X6.ln⟩, _, rfl, p, dl, 9, rfl, X6.bx, by decide, fun s H7 s0 s1 B7 K7 => ?_⟩
        have X7 := X6.keep K7 B7
        obtain ⟨s, rfl⟩ := Int.eq_ofNat_of_zero_le s0
        refine ⟨_, _, rfl, rfl, by omega, by omega, ?_, ?_⟩
        · rw [show (" " : Str).length = 1 by decide +kernel]; simp; omega
        rw [rep_sp]
        refine ⟨sz_2, fun u hu => ?_⟩
        have X8 := X7.same (Same.new (o := .lst [.str "", .str "# if ( ' 007"]) hu)
        obtain rfl | rfl : kd = 0 ∨ kd = 1 := by omega
        · refine ⟨_, rfl, u, _, _, .str "", rfl, rfl, SqL.of upd_same, at0, _, _, rfl, rfl, ?_, lp, _, _, rfl, rfl, X8.ln, ?_, ?_⟩
          · rw [S_len, List.length_replicate, show ("" : Str).length = 0 by decide +kernel]; exact Nat.le_trans (show _ ≤ 100 by omega) (by decide)
          · rw [List.length_map]; exact Nat.lt_of_le_of_lt (show _ ≤ 100 by omega) (by decide)
          have X9 := X8.line (l := List.replicate s 32 ++ []) (z := S (List.replicate s 32) ++ "") (by rw [emp_S, S_cat])
          refine ⟨b, _, ts, st, _, _, _, _, _, rfl, X9, hTo.blank (.inl rfl), hsb, hOk.line (by simp; omega) (fun c hc => ?_) (by omega) hOk.td⟩
          rw [List.append_nil] at hc
          rw [List.eq_of_mem_replicate hc]; decide
        · refine ⟨_, rfl, u, _, _, .str "# if ( ' 007", rfl, rfl, SqL.of upd_same, at1, _, _, rfl, rfl, ?_, lp, _, _, rfl, rfl, X8.ln, ?_, ?_⟩
          · rw [S_len, List.length_replicate, show ("# if ( ' 007" : Str).length = 12 by decide +kernel]; exact Nat.le_trans (show _ ≤ 100 by omega) (by decide)
          · rw [List.length_map]; exact Nat.lt_of_le_of_lt (show _ ≤ 100 by omega) (by decide)
          have X9 := X8.line (l := List.replicate s 32 ++ cmA) (z := S (List.replicate s 32) ++ "# if ( ' 007") (by rw [cmA_S, S_cat])
          refine ⟨b, _, ts, st, _, _, _, _, _, rfl, X9, hTo.blank (.inr ⟨_, cmA_e⟩), hsb, hOk.line ?_ (fun c hc => ?_) (by omega) hOk.td⟩
          · rw [List.length_append, List.length_replicate, show cmA.length = 12 by decide +kernel]; omega
          rcases List.mem_append.mp hc with hc | hc
          · rw [List.eq_of_mem_replicate hc]; decide
          · exact cmA_ok c hc
      · have c := of_decide_eq_false c
        generalize hm : (Ls.length : Int) + 1 = m
        refine ⟨fun σ H7 => ∃ (b' : Bool) (f0 : List Nat) (st0 : St) (ts0 : List PyData), σ = [some (.ref a), some (.ref p), some (.ref lp), some (.ref tp), some (.bl b'), some (.int n), some (.int (0 + (i : Int))), some (.int m), some (.int kd), some (.str (S f0)), x10] ∧
          W0 K H7 p dl lp tp Ls (ts ++ ts0) ∧ RowOk m f0 none st st0 ts0 ∧ stB b' st0 ∧ f0.length ≤ 10 ∧ ts0.length ≤ 1 ∧ (∀ c ∈ f0, okC c = true ∧ c ≠ 10) ∧ (∀ d ∈ ts0, TokD d) ∧ (st = [] → f0 = []), ?_, ?_⟩
        · refine ⟨_, rfl, b, rfl, ?_⟩
          have none_ : ∀ H7, W0 K H7 p dl lp tp Ls ts → ∃ (b' : Bool) (f0 : List Nat) (st0 : St) (ts0 : List PyData), ([some (.ref a), some (.ref p), some (.ref lp), some (.ref tp), some (.bl b), some (.int n), some (.int (0 + (i : Int))), some (.int m), some (.int kd), some (.str ""), x10] : L2.St) = [some (.ref a), some (.ref p), some (.ref lp), some (.ref tp), some (.bl b'), some (.int n), some (.int (0 + (i : Int))), some (.int m), some (.int kd), some (.str (S f0)), x10] ∧
              W0 K H7 p dl lp tp Ls (ts ++ ts0) ∧ RowOk m f0 none st st0 ts0 ∧ stB b' st0 ∧ f0.length ≤ 10 ∧ ts0.length ≤ 1 ∧ (∀ c ∈ f0, okC c = true ∧ c ≠ 10) ∧ (∀ d ∈ ts0, TokD d) ∧ (st = [] → f0 = []) := fun H7 X7 =>
            ⟨b, [], st, [], by rw [emp_S], by rw [List.append_nil]; exact X7, .nil, hsb, by simp, by simp, by simp, by simp, fun _ => rfl⟩
          cases b with
          | false => exact iteFb rfl (none_ _ X6)
          | true =>
            refine iteTb rfl ?_
            refine ⟨_, rfl, p, dl, 2, rfl, X6.bx, by decide, fun q H7 q0 q1 B7 K7 => ?_⟩
            have X7 := X6.keep K7 B7
            refine ⟨rfl, _, rfl, ?_⟩
            refine ite3 (fun _ => ?_) fun _ => none_ _ X7
            refine ⟨_, rfl, p, dl, 9, rfl, X7.bx, by decide, fun s H8 s0 s1 B8 K8 => ?_⟩
            have X8 := X7.keep K8 B8
            obtain ⟨s, rfl⟩ := Int.eq_ofNat_of_zero_le s0
            refine ⟨_, _, rfl, rfl, by omega, by omega, ?_, ?_⟩
            · rw [show (" " : Str).length = 1 by decide +kernel]; simp; omega
            rw [rep_sp, cl_S]
            refine ⟨_, _, rfl, rfl, ?_, ?_⟩
            · rw [S_len, List.length_replicate, S_len]; exact Nat.le_trans (show _ ≤ 100 by simp; omega) (by decide)
            rw [S_cat]
            obtain ⟨zs, ez, az⟩ := id X8.tk
            have lz := az.length
            refine ⟨_, rfl, .inl ⟨rfl, _, SqL.of ez⟩, _, rfl, sz_3, fun u hu => ⟨tp, _, _, rfl, rfl, Same.new hu _ _ ez, Nat.lt_of_le_of_lt (show zs.length ≤ 10000 by omega) (by decide), ?_⟩⟩
            obtain ⟨_, h⟩ | ⟨_, mo, rfl⟩ := hsb
            · cases ‹true = false›
            refine ⟨false, _, [], _, rfl, X8.tok hu ez, row_close s, .inl ⟨rfl, rfl⟩, by simp; omega, by simp, fun c hc => ?_, fun d hd => ?_, fun h => by cases h⟩
            · rcases List.mem_append.mp hc with hc | hc
              · rw [List.eq_of_mem_replicate hc]; decide
              · rw [List.mem_singleton.mp hc]; decide
            · rw [List.mem_singleton.mp hd]; exact .str _ _ _ (by decide +kernel)
        rintro _ H7 ⟨b', f0, st0, ts0, rfl, X7, hR0, hsb0, hf0, ht0, hf0w, ht0d, hst0⟩
        refine ⟨_, rfl, _, rfl, _, rfl, _, rfl, p, dl, tp, m, f0, st, st0, ts0, ts ++ ts0, rfl, X7.bx, X7.n3, X7.n4, X7.tk, by rw [List.length_append]; omega, by omega, hf0w, hR0, fun l tr sg H8 hRow hHd hlw hll htl htd L8 B8 K8 => ?_⟩
        have X8 : W0 K H8 p dl lp tp Ls (ts ++ (ts0 ++ tr)) := ⟨B8, K8 _ _ X7.ln X7.n1 X7.n5.symm, by rw [← List.append_assoc]; exact L8, X7.n1, X7.n2, X7.n3, X7.n4, X7.n5⟩
        have hHd' : st = [] → HeadOk l := fun e => hHd (hst0 e)
        have htd' : ∀ d ∈ ts0 ++ tr, TokD d := fun d hd => (List.mem_append.mp hd).elim (ht0d d) (htd d)
        have htl' : (ts0 ++ tr).length ≤ 10 := by rw [List.length_append]; omega
        generalize ts0 ++ tr = tr at X8 hRow htd' htl'
        clear htd htl L8 hR0 ht0d
        refine ⟨fun σ H9 => ∃ (b2 : Bool) (l2 : List Nat) (st2 : St) (tr2 : List PyData) (sg2 : Option Bool), σ = [some (.ref a), some (.ref p), some (.ref lp), some (.ref tp), some (.bl b2), some (.int n), some (.int (0 + (i : Int))), some (.int m), some (.int kd), some (.str (S f0)), some (.str (S l2))] ∧
          W0 K H9 p dl lp tp Ls (ts ++ tr2) ∧ RowOk m l2 sg2 st st2 tr2 ∧ stB b2 st2 ∧ l2.length ≤ 652 ∧ tr2.length ≤ 11 ∧ (∀ c ∈ l2, okC c = true ∧ c ≠ 10) ∧ (∀ d ∈ tr2, TokD d) ∧ (st = [] → HeadOk l2), ?_, ?_⟩
        · refine ⟨_, rfl, b', rfl, ?_⟩
          have none_ : ∀ H7, W0 K H7 p dl lp tp Ls (ts ++ tr) → ∃ (b2 : Bool) (l2 : List Nat) (st2 : St) (tr2 : List PyData) (sg2 : Option Bool), ([some (.ref a), some (.ref p), some (.ref lp), some (.ref tp), some (.bl b'), some (.int n), some (.int (0 + (i : Int))), some (.int m), some (.int kd), some (.str (S f0)), some (.str (S l))] : L2.St) = [some (.ref a), some (.ref p), some (.ref lp), some (.ref tp), some (.bl b2), some (.int n), some (.int (0 + (i : Int))), some (.int m), some (.int kd), some (.str (S f0)), some (.str (S l2))] ∧
              W0 K H7 p dl lp tp Ls (ts ++ tr2) ∧ RowOk m l2 sg2 st st2 tr2 ∧ stB b2 st2 ∧ l2.length ≤ 652 ∧ tr2.length ≤ 11 ∧ (∀ c ∈ l2, okC c = true ∧ c ≠ 10) ∧ (∀ d ∈ tr2, TokD d) ∧ (st = [] → HeadOk l2) := fun H7 X7 =>
            ⟨b', l, st0, tr, sg, rfl, X7, hRow, hsb0, by omega, by omega, hlw, htd', hHd'⟩
          cases b' with
          | true => exact iteFb rfl (none_ _ X8)
          | false =>
            refine iteTb rfl ?_
            refine ⟨_, rfl, p, dl, 4, rfl, X8.bx, by decide, fun q H9 q0 q1 B9 K9 => ?_⟩
            have X9 := X8.keep K9 B9
            refine ⟨rfl, _, rfl, ?_⟩
            refine ite3 (fun _ => ?_) fun _ => none_ _ X9
            rw [op_S]
            refine ⟨_, rfl, _, _, rfl, rfl, ?_, ?_⟩
            · rw [S_len, S_len]; exact Nat.le_trans (show _ ≤ 700 by simp; omega) (by decide)
            rw [S_cat]
            obtain ⟨zs, ez, az⟩ := id X9.tk
            have lz := az.length
            rw [List.length_append] at lz
            refine ⟨_, rfl, .inl ⟨rfl, _, SqL.of ez⟩, _, rfl, sz_3, fun u hu => ⟨tp, _, _, rfl, rfl, Same.new hu _ _ ez, Nat.lt_of_le_of_lt (show zs.length ≤ 10000 by omega) (by decide), ?_⟩⟩
            obtain ⟨_, rfl⟩ | ⟨h, _⟩ := hsb0
            rotate_left
            · cases h
            have hO := hRow.open_
            rw [List.append_assoc] at hO
            have X10 := X9.tok (s := "sign") (z := "(") (n := m) hu ez
            rw [List.append_assoc] at X10
            refine ⟨true, _, _, _, _, rfl, X10, hO, .inr ⟨rfl, _, rfl⟩, by simp; omega, by simp; omega, fun c hc => ?_, fun d hd => ?_, fun e => ?_⟩
            · rcases List.mem_append.mp hc with hc | hc
              · exact hlw c hc
              · simp at hc
                rcases hc with rfl | rfl <;> decide
            · rcases List.mem_append.mp hd with hd | hd
              · exact htd' d hd
              · rw [List.mem_singleton.mp hd]; exact .str _ _ _ (by decide +kernel)
            · obtain ⟨c, hc, h4⟩ := hHd' e
              refine ⟨c, ?_, h4⟩
              cases l with
              | nil => cases hc
              | cons x r => exact hc
        rintro _ H9 ⟨b2, l2, st2, tr2, sg2, rfl, X9, hRow2, hsb2, hl2, htr2, hl2w, htr2d, hHd2⟩
        refine ⟨fun σ H10 => σ = [some (.ref a), some (.ref p), some (.ref lp), some (.ref tp), some (.bl b2), some (.int n), some (.int (0 + (i : Int))), some (.int m), some (.int kd), some (.str (S f0)), some (.str (S l2))] ∧
          W0 K H10 p dl lp tp Ls (nlIf st2 (ts ++ tr2) m), ?_, ?_⟩
        · refine ⟨_, rfl, b2, rfl, ?_⟩
          unfold nlIf
          obtain ⟨rfl, rfl⟩ | ⟨rfl, mo, rfl⟩ := id hsb2
          · refine iteTb rfl ?_
            obtain ⟨zs, ez, az⟩ := id X9.tk
            have lz := az.length
            rw [List.length_append] at lz
            refine ⟨_, rfl, .inl ⟨rfl, _, SqL.of ez⟩, _, rfl, sz_3, fun u hu => ⟨tp, _, _, rfl, rfl, Same.new hu _ _ ez, Nat.lt_of_le_of_lt (show zs.length ≤ 10000 by omega) (by decide), ?_⟩⟩
            rw [if_pos rfl]
            exact ⟨rfl, X9.tok hu ez⟩
          · refine iteFb rfl ?_
            rw [if_neg (by simp)]
            exact ⟨rfl, X9⟩
        rintro _ H10 ⟨rfl, X10⟩
        refine ⟨fun σ H11 => ∃ post, σ = [some (.ref a), some (.ref p), some (.ref lp), some (.ref tp), some (.bl b2), some (.int n), some (.int (0 + (i : Int))), some (.int m), some (.int kd), some (.str (S f0)), some (.str (S (l2 ++ post)))] ∧
          W0 K H11 p dl lp tp Ls (nlIf st2 (ts ++ tr2) m) ∧ (post = [] ∨ ∃ k r, post = List.replicate (k + 1) 32 ++ 35 :: r) ∧ post.length ≤ 8 ∧ ∀ c ∈ post, okC c = true ∧ c ≠ 10, ?_, ?_⟩
        · refine ⟨_, rfl, p, dl, 4, rfl, X10.bx, by decide, fun q H11 q0 q1 B11 K11 => ?_⟩
          have X11 := X10.keep K11 B11
          refine ⟨rfl, _, rfl, ?_⟩
          refine ite3 (fun _ => ?_) fun _ => ⟨[], by rw [List.append_nil], X11, .inl rfl, by simp, by simp⟩
          rw [cmB_S]
          refine ⟨_, rfl, _, _, rfl, rfl, ?_, ?_⟩
          · rw [S_len, S_len, show cmB.length = 8 by decide +kernel]; exact Nat.le_trans (show _ ≤ 700 by omega) (by decide)
          rw [S_cat]
          exact ⟨cmB, rfl, X11, .inr ⟨_, _, cmB_e⟩, by decide +kernel, cmB_ok⟩
        rintro _ H11 ⟨post, rfl, X11, hpost, hpl, hpw⟩
        refine ⟨_, rfl, .inl ⟨rfl, _, SqL.of X11.ln⟩, _, rfl, lp, _, _, rfl, rfl, X11.ln, ?_, ?_⟩
        · rw [List.length_map]; exact Nat.lt_of_le_of_lt (show _ ≤ 100 by omega) (by decide)
        have X12 := X11.line (l := l2 ++ post) (z := S (l2 ++ post)) rfl
        have hHd3 : st = [] → HeadOk (l2 ++ post) := fun e => by
          obtain ⟨c, hc, h4⟩ := hHd2 e
          refine ⟨c, ?_, h4⟩
          cases l2 with
          | nil => cases hc
          | cons x r => exact hc
        have hnl : (nlIf st2 (ts ++ tr2) m).length ≤ ts.length + 13 ∧ ∀ d ∈ nlIf st2 (ts ++ tr2) m, TokD d := by
          unfold nlIf
          have h1 : ∀ d ∈ ts ++ tr2, TokD d := fun d hd => (List.mem_append.mp hd).elim (hOk.td d) (htr2d d)
          split
          · refine ⟨by simp; omega, fun d hd => ?_⟩
            rcases List.mem_append.mp hd with hd | hd
            · exact h1 d hd
            · rw [List.mem_singleton.mp hd]; exact .str _ _ _ (by decide +kernel)
          · exact ⟨by simp; omega, h1⟩
        refine ⟨b2, _, _, st2, _, _, _, _, _, rfl, X12, ?_, hsb2, hOk.line (by simp; omega) (fun c hc => (List.mem_append.mp hc).elim (hl2w c) (hpw c)) hnl.1 hnl.2⟩
        have := hTo.row (fun ds => hm ▸ hRow2.fin (ds := ds) hpost) hHd3
        rw [hm] at this
        exact this
    · rintro σ H5 ⟨b, Ls, ts, st, x6, x7, x8, x9, x10, rfl, X5, hTo, hsb, hOk⟩
      have hLl := hOk.len
      have hTl := hOk.tl
      refine ⟨fun σ H6 => ∃ (b : Bool) (n' : Nat) (Ls : List (List Nat)) (ts : List PyData), σ = [some (.ref a), some (.ref p), some (.ref lp), some (.ref tp), some (.bl b), some (.int n), x6, x7, x8, x9, x10] ∧
        W0 K H6 p dl lp tp Ls ts ∧ LsTo Ls [] ts ∧ Ok Ls ts n' ∧ 1 ≤ n' ∧ n' ≤ 26, ?_, ?_⟩
      · refine ⟨_, rfl, b, rfl, ?_⟩
        obtain ⟨rfl, rfl⟩ | ⟨rfl, mo, rfl⟩ := hsb
        · exact iteFb rfl ⟨false, n, Ls, ts, rfl, X5, hTo, hOk, by omega, by omega⟩
        · refine iteTb rfl ?_
          refine ⟨_, rfl, .inl ⟨rfl, _, SqL.of X5.ln⟩, lp, _, _, rfl, rfl, X5.ln, ?_, ?_⟩
          · rw [List.length_map]; exact Nat.lt_of_le_of_lt (show _ ≤ 100 by omega) (by decide)
          have X6 := X5.line (l := [41]) (z := ")") cl_S
          generalize upd H5 lp _ = H6 at X6
          obtain ⟨zs, ez, az⟩ := id X6.tk
          have lz := az.length
          refine ⟨_, rfl, .inl ⟨rfl, _, SqL.of ez⟩, _, rfl, _, _, rfl, .inl ⟨_, SqL.of X6.ln, rfl⟩, sz_3, fun u hu => ⟨tp, _, _, rfl, rfl, Same.new hu _ _ ez, Nat.lt_of_le_of_lt (show zs.length ≤ 10000 by omega) (by decide), ?_⟩⟩
          dsimp only
          rw [show (((List.map (fun l => V.str (S l)) (Ls ++ [[41]])).length : Nat) : Int) = (Ls.length : Int) + 1 by rw [List.length_map, List.length_append]; rfl]
          have X7 := X6.tok (s := "sign") (z := ")") (n := (Ls.length : Int) + 1) hu ez
          generalize upd (upd H6 u _) tp _ = H7 at X7
          obtain ⟨zs, ez, az⟩ := id X7.tk
          have lz := az.length
          rw [List.length_append, List.length_singleton] at lz
          refine ⟨_, rfl, .inl ⟨rfl, _, SqL.of ez⟩, _, rfl, _, _, rfl, .inl ⟨_, SqL.of X7.ln, rfl⟩, sz_3, fun u hu => ⟨tp, _, _, rfl, rfl, Same.new hu _ _ ez, Nat.lt_of_le_of_lt (show zs.length ≤ 10000 by omega) (by decide), ?_⟩⟩
          dsimp only
          rw [show (((List.map (fun l => V.str (S l)) (Ls ++ [[41]])).length : Nat) : Int) = (Ls.length : Int) + 1 by rw [List.length_map, List.length_append]; rfl]
          have X8 := X7.tok (s := "newline") (z := "") (n := (Ls.length : Int) + 1) hu ez
          have hTo2 := hTo.row (l := [41]) (tr := [signD [41] ((Ls.length : Int) + 1)]) (st2 := []) (fun ds => by
            have := (row_close (m := (Ls.length : Int) + 1) (n := mo) 0).fin (ds := ds) (post := []) (.inl rfl)
            exact this) (fun e => by cases e)
          refine ⟨true, n + 1, _, _, rfl, X8, hTo2, hOk.line (by simp) (by decide) (by simp) (fun d hd => ?_), by omega, by omega⟩
          simp only [List.mem_append, List.mem_singleton] at hd
          rcases hd with (hd | hd) | hd
          · exact hOk.td d hd
          · rw [hd]; exact .str _ _ _ (by decide +kernel)
          · rw [hd]; exact .str _ _ _ (by decide +kernel)
      clear hOk hTo hsb X5 hLl hTl
      rintro _ H6 ⟨b, n', Ls, ts, rfl, X6, hTo, hOk, hn1, hn2⟩
      have hLl := hOk.len
      have hTl := hOk.tl
      refine ⟨fun σ H7 => ∃ (n' : Nat) (Ls : List (List Nat)), σ = [some (.ref a), some (.ref p), some (.ref lp), some (.ref tp), some (.bl b), some (.int n), x6, x7, x8, x9, x10] ∧
        W0 K H7 p dl lp tp Ls ts ∧ LsTo Ls [] ts ∧ Ok Ls ts n' ∧ 1 ≤ n' ∧ n' ≤ 27, ?_, ?_⟩
      · refine ⟨_, rfl, p, dl, 2, rfl, X6.bx, by decide, fun q H7 q0 q1 B7 K7 => ?_⟩
        have X7 := X6.keep K7 B7
        refine ⟨rfl, _, rfl, ?_⟩
        refine ite3 (fun _ => ?_) fun _ => ⟨n', Ls, rfl, X7, hTo, hOk, by omega, by omega⟩
        refine ⟨_, rfl, .inl ⟨rfl, _, SqL.of X7.ln⟩, lp, _, _, rfl, rfl, X7.ln, ?_, ?_⟩
        · rw [List.length_map]; exact Nat.lt_of_le_of_lt (show _ ≤ 100 by omega) (by decide)
        exact ⟨n' + 1, _, rfl, X7.line (l := []) (z := "") emp_S, hTo.blank (k := 0) (post := []) (.inl rfl), hOk.line (by simp) (by simp) (by omega) hOk.td, by omega, by omega⟩
      clear hOk hTo X6 hLl hTl hn1 hn2
      rintro _ H7 ⟨n', Ls, rfl, X7, hTo, hOk, hn1, hn2⟩
      have hLl := hOk.len
      have hTl := hOk.tl
      obtain ⟨zs, ez, az⟩ := id X7.tk
      have lz := az.length
      refine ⟨_, rfl, .inl ⟨rfl, _, SqL.of ez⟩, _, rfl, _, _, rfl, .inl ⟨_, SqL.of X7.ln, rfl⟩, sz_3, fun u hu => ⟨tp, _, _, rfl, rfl, Same.new hu _ _ ez, Nat.lt_of_le_of_lt (show zs.length ≤ 10000 by omega) (by decide), ?_⟩⟩
      dsimp only
      rw [show (((Ls.map fun l => V.str (S l)).length : Nat) : Int) = (Ls.length : Int) by rw [List.length_map]]
      have X8 := X7.tok (s := "end") (z := "") (n := (Ls.length : Int)) hu ez
      generalize upd (upd H7 u _) tp _ = H8 at X8
      have hD : ∀ d ∈ ts ++ [endT (Ls.length : Nat)], TokD d := fun d hd => by
        rcases List.mem_append.mp hd with hd | hd
        · exact hOk.td d hd
        · rw [List.mem_singleton.mp hd]; exact .str _ _ _ (by decide +kernel)
      have hz : (Ls.map fun l => V.str (S l)) = ((Ls.map S).map V.str) := by rw [List.map_map]; rfl
      have eN : ts ++ List.replicate ([(0 : Int)].length - 1) (dedT (Ls.length : Nat)) ++ [endT (Ls.length : Nat)] = ts ++ [endT (Ls.length : Nat)] := by simp
      have hsp : ∀ l ∈ Ls, l.length ≤ 665 := fun l hl => (hOk.ok l hl).1
      have hjl : ∀ (ps : List (List Nat)), (∀ p ∈ ps, p.length ≤ 665) → ((ps.map S).map fun x => x.length).sum ≤ 665 * ps.length := fun ps h => by
        induction ps with
        | nil => exact Nat.le_refl _
        | cons q r ih =>
          have h1 := h q (by simp)
          have h2 := ih fun x hx => h x (List.mem_cons_of_mem _ hx)
          rw [List.map_cons, List.map_cons, List.sum_cons, List.length_cons, Nat.mul_succ, S_len]
          omega
      have hJ : ((Ls.map S).map fun x => x.length).sum + (Ls.map S).length * ("\n" : Str).length ≤ sizeLine := by
        have := hjl Ls hsp
        rw [List.length_map, show ("\n" : Str).length = 1 by decide +kernel]
        exact Nat.le_trans (show _ ≤ 20000 by omega) (by decide)
      refine ⟨rfl, _, rfl, _, lp, _, rfl, rfl, .inl (hz ▸ SqL.of X8.ln), ?_, ?_⟩
      · exact hJ
      rw [nl_S, join_S]
      refine ⟨Ls, [0], ts, rfl, hOk.ls (by omega) (by omega), hTo.fin, by omega, fun fp H9 hfp S9 L9 => ?_⟩
      rw [eN] at L9
      have hfp8 : fp ≠ lp ∧ fp ≠ tp ∧ fp ≠ p ∧ fp ≠ dl := by
        obtain ⟨zs8, ez8, _⟩ := X8.tk
        obtain ⟨a1, a2⟩ := X8.bx.ne_new hfp
        exact ⟨(ne_of_none X8.ln hfp).symm, (ne_of_none ez8 hfp).symm, a1, a2⟩
      have X9 := X8.same S9
      have hDl : (ts ++ [endT (Ls.length : Nat)]).length ≤ 10000 := by simp; omega
      refine ⟨_, rfl, _, rfl, fp, tp, _, rfl, L9, X9.tk, hDl, hD, ⟨true, rfl, iteFb rfl ?_⟩⟩
      obtain ⟨ys, ey, ay⟩ := id L9
      have ly := ay.length
      refine ⟨_, rfl, .inl ⟨rfl, _, SqL.of ey⟩, sz_3, fun u2 hu2 => ⟨fp, _, _, rfl, rfl, Same.new hu2 _ _ ey, Nat.lt_of_le_of_lt (show ys.length ≤ 10000 by omega) (by decide), ?_⟩⟩
      have X10 : W0 K (upd (upd H9 u2 (.tup [.str "end", .str "", .int 0])) fp (.lst (ys ++ [.ref u2]))) p dl lp tp Ls (ts ++ [endT (Ls.length : Nat)]) := by
        have Y := X9.same (Same.new (o := .tup [.str "end", .str "", .int 0]) hu2)
        have ey2 := Same.new (o := .tup [.str "end", .str "", .int 0]) hu2 _ _ ey
        exact ⟨Y.bx.upd hfp8.2.2.1 hfp8.2.2.2, by rw [upd_ne hfp8.1.symm]; exact Y.ln, listAt_upd Y.tk hfp8.2.1.symm ey2, Y.n1, Y.n2, Y.n3, Y.n4, Y.n5⟩
      have eq10 : upd (upd H9 u2 (.tup [.str "end", .str "", .int 0])) fp (.lst (ys ++ [.ref u2])) fp = some (.lst (ys ++ [.ref u2])) := upd_same
      generalize upd (upd H9 u2 _) fp _ = H10 at X10 eq10
      refine ⟨sz_3, fun u3 hu3 => ?_⟩
      have S11 := Same.new (o := .tup [.str "name", .str "spoilt", .int 1]) hu3
      have X11 := X10.same S11
      have eq11 := S11 _ _ eq10
      generalize upd H10 u3 _ = H11 at X11 eq11 S11
      obtain ⟨y0, yr, rfl⟩ : ∃ y0 yr, ys = y0 :: yr := by
        cases ys with
        | nil => simp at ly
        | cons y0 yr => exact ⟨_, _, rfl⟩
      refine ⟨_, rfl, fp, _, _, 0, rfl, rfl, eq11, by unfold ixN; rw [if_pos (by omega), if_pos (by simp; omega)]; rfl, ?_⟩
      have X12 : W0 K (upd H11 fp (.lst (.ref u3 :: (yr ++ [.ref u2])))) p dl lp tp Ls (ts ++ [endT (Ls.length : Nat)]) :=
        ⟨X11.bx.upd hfp8.2.2.1 hfp8.2.2.2, by rw [upd_ne hfp8.1.symm]; exact X11.ln, listAt_upd X11.tk hfp8.2.1.symm eq11, X11.n1, X11.n2, X11.n3, X11.n4, X11.n5⟩
      refine ⟨rfl, _, rfl, _, lp, _, rfl, rfl, .inl (hz ▸ SqL.of X12.ln), hJ, ?_⟩
      rw [join_S]
      refine ⟨Ls, [0], ts, rfl, hOk.ls (by omega) (by omega), hTo.fin, by omega, fun fp2 H13 hfp2 S13 L13 => ?_⟩
      rw [eN] at L13
      exact ⟨_, rfl, fp2, tp, _, rfl, L13, (X12.same S13).tk, hDl, hD, k _⟩
end
theorem walk_mk {l : PySem.W.OpenLaw} {w : World} {K : PySem.W.Frag} {h : Heap} {mg : Str → Option Value} {fa : Addr} (X : K.In h) (G : h.Ns mainGlobals mg) (hfa : mg "law" = some (.ref fa))
    (f0 : HasFn K "_law_cell" s_law_cell)
    (f1 : HasFn K "_law_digits" s_law_digits)
    (f2 : HasFn K "_law_draw" s_law_draw)
    (f3 : HasFn K "_law_word" s_law_word)
    (f4 : HasFn K "_law_token" s_law_token)
    (f5 : HasFn K "_law_row" s_law_row)
    (f6 : HasFn K "_check_characters" s_check_characters)
    (f7 : HasFn K "_is_blank" s_is_blank)
    (f8 : HasFn K "_add_indents" s_add_indents)
    (f9 : HasFn K "_word_end" s_word_end)
    (f10 : HasFn K "_add_word" s_add_word)
    (f11 : HasFn K "_add_integer" s_add_integer)
    (f12 : HasFn K "_escaped" s_escaped)
    (f13 : HasFn K "_add_text" s_add_text)
    (f14 : HasFn K "_follow_brackets" s_follow_brackets)
    (f15 : HasFn K "_add_sign" s_add_sign)
    (f16 : HasFn K "_add_line" s_add_line)
    (f17 : HasFn K "split" s_split)
    (f18 : HasFn K "_law_same_token" s_law_same_token)
    (f19 : HasFn K "_law_same_tokens" s_law_same_tokens)
    (f20 : HasFn K "law" s_law)
    (c0 : HasInt K "MOST_CHARACTERS" 20000)
    (c1 : HasInt K "MOST_IN_TEXT" 200)
    (c2 : HasInt K "MOST_BRACKETS" 20)
    (c3 : HasInt K "INTEGER_END" (2 ^ 256))
    (c4 : HasInt K "MOST_IN_NAME" 30)
    (c5 : HasInt K "MOST_DIGITS" 78)
    (c6 : HasTup K "SIGNS" (sgns.map fun z => V.str (S z)))
    (c7 : HasTup K "KEYWORDS" (kwords.map V.str))
    (c8 : HasStr K "CHARACTERS" fun z => ∀ c < 128, okC c = true → c ∈ z.cps.toList)
    (b_len : PySem.W.nsIn K mainGlobals "len" = some none)
    (b_int : PySem.W.nsIn K mainGlobals "int" = some none)
    (b_range : PySem.W.nsIn K mainGlobals "range" = some none)
    (b_enumerate : PySem.W.nsIn K mainGlobals "enumerate" = some none)
    (b_isinstance : PySem.W.nsIn K mainGlobals "isinstance" = some none)
    (b_list : PySem.W.nsIn K mainGlobals "list" = some none)
    (b_tuple : PySem.W.nsIn K mainGlobals "tuple" = some none)
    (b_bool : PySem.W.nsIn K mainGlobals "bool" = some none)
    (b_ValueError : PySem.W.nsIn K mainGlobals "ValueError" = some none)
    (b_str : PySem.W.nsIn K mainGlobals "str" = some none)
    (d_ESCAPES : HasDct l.prog w K "ESCAPES" (txtKV [("\\", "\\"), ("\"", "\""), ("'", "'"), ("n", "\n")]))
    (d_OPENED_BY : HasDct l.prog w K "OPENED_BY" (txtKV [(")", "("), ("]", "["), ("}", "{")]))
    (flt : HasFault l.prog K s_Fault___init__) :
    ∃ fd : FuncData, (∀ (s : Shared) (v : Value), BindsTo s fd ⟨[v], []⟩ [("script", v)]) ∧ ∀ base : Heap, K.In base → base.Ns mainGlobals mg → FnG l.prog w K mg base CX0 8 fa fd ["script"] (spLaw K) := by
  have T : Txt K mg := ⟨c0.g X G, c1.g X G, c2.g X G, c3.g X G, c4.g X G, c5.g X G, c6.g X G, c7.g X G, c8.g X G, PySem.W.mg_none_of X G b_len, PySem.W.mg_none_of X G b_int, PySem.W.mg_none_of X G b_range, PySem.W.mg_none_of X G b_enumerate, PySem.W.mg_none_of X G b_isinstance, PySem.W.mg_none_of X G b_list, PySem.W.mg_none_of X G b_tuple, PySem.W.mg_none_of X G b_bool, PySem.W.mg_none_of X G b_ValueError, PySem.W.mg_none_of X G b_str⟩
  refine law_use f20 X G hfa (fun _ _ _ _ _ _ _ => rfl) fun base X' G' fd F => ?_
  have U_ESCAPES : UseD l.prog w K mg "ESCAPES" _ := d_ESCAPES.g X G
  have U_OPENED_BY : UseD l.prog w K mg "OPENED_BY" _ := d_OPENED_BY.g X G
  obtain ⟨C, B, U_Fault⟩ := mk_useF (P := l.prog) (w := w) (mg := mg) (base := base) flt X G (nscope_by (by decide +kernel)) rfl rfl rfl rfl (fun env => ⟨_, rfl⟩) (fun _ _ _ _ _ us hl => match us, hl with | [_, _, _], _ => rfl)
  have U_law_cell := mk_use (P := l.prog) (w := w) (mg := mg) (base := base) f0 X G (fun _ _ _ _ _ _ us hl => match us, hl with | [_, _], _ => rfl) fun f fd F => ok_cell F T 
  have U_law_digits := mk_use (P := l.prog) (w := w) (mg := mg) (base := base) f1 X G (fun _ _ _ _ _ _ us hl => match us, hl with | [_, _, _], _ => rfl) fun f fd F => ok_digits F T U_law_cell
  have U_law_draw := mk_use (P := l.prog) (w := w) (mg := mg) (base := base) f2 X G (fun _ _ _ _ _ _ us hl => match us, hl with | [_, _], _ => rfl) fun f fd F => ok_draw F T 
  have U_law_word := mk_use (P := l.prog) (w := w) (mg := mg) (base := base) f3 X G (fun _ _ _ _ _ _ us hl => match us, hl with | [_], _ => rfl) fun f fd F => ok_word F T U_law_draw
  have U_law_token := mk_use (P := l.prog) (w := w) (mg := mg) (base := base) f4 X G (fun _ _ _ _ _ _ us hl => match us, hl with | [_], _ => rfl) fun f fd F => ok_token F T U_law_draw U_law_word
  have U_law_row := mk_use (P := l.prog) (w := w) (mg := mg) (base := base) f5 X G (fun _ _ _ _ _ _ us hl => match us, hl with | [_, _, _, _], _ => rfl) fun f fd F => ok_row F T U_law_draw U_law_token
  have U_check_characters := mk_use (P := l.prog) (w := w) (mg := mg) (base := base) f6 X G (fun _ _ _ _ _ _ us hl => match us, hl with | [_], _ => rfl) fun f fd F => ok_check F T 
  have U_is_blank := mk_use (P := l.prog) (w := w) (mg := mg) (base := base) f7 X G (fun _ _ _ _ _ _ us hl => match us, hl with | [_], _ => rfl) fun f fd F => ok_blank F T 
  have U_add_indents := mk_use (P := l.prog) (w := w) (mg := mg) (base := base) f8 X G (fun _ _ _ _ _ _ us hl => match us, hl with | [_, _, _, _], _ => rfl) fun f fd F => ok_indents F T U_Fault
  have U_word_end := mk_use (P := l.prog) (w := w) (mg := mg) (base := base) f9 X G (fun _ _ _ _ _ _ us hl => match us, hl with | [_, _], _ => rfl) fun f fd F => ok_wordend F T 
  have U_add_word := mk_use (P := l.prog) (w := w) (mg := mg) (base := base) f10 X G (fun _ _ _ _ _ _ us hl => match us, hl with | [_, _, _, _], _ => rfl) fun f fd F => ok_addword F T U_word_end U_Fault
  have U_add_integer := mk_use (P := l.prog) (w := w) (mg := mg) (base := base) f11 X G (fun _ _ _ _ _ _ us hl => match us, hl with | [_, _, _, _], _ => rfl) fun f fd F => ok_addint F T U_word_end U_Fault
  have U_escaped := mk_use (P := l.prog) (w := w) (mg := mg) (base := base) f12 X G (fun _ _ _ _ _ _ us hl => match us, hl with | [_, _, _], _ => rfl) fun f fd F => ok_escaped F T U_Fault U_ESCAPES
  have U_add_text := mk_use (P := l.prog) (w := w) (mg := mg) (base := base) f13 X G (fun _ _ _ _ _ _ us hl => match us, hl with | [_, _, _, _], _ => rfl) fun f fd F => ok_addtext F T U_escaped U_Fault
  have U_follow_brackets := mk_use (P := l.prog) (w := w) (mg := mg) (base := base) f14 X G (fun _ _ _ _ _ _ us hl => match us, hl with | [_, _, _], _ => rfl) fun f fd F => ok_follow F T U_Fault U_OPENED_BY
  have U_add_sign := mk_use (P := l.prog) (w := w) (mg := mg) (base := base) f15 X G (fun _ _ _ _ _ _ us hl => match us, hl with | [_, _, _, _, _], _ => rfl) fun f fd F => ok_addsign F T U_follow_brackets U_Fault
  have U_add_line := mk_use (P := l.prog) (w := w) (mg := mg) (base := base) f16 X G (fun _ _ _ _ _ _ us hl => match us, hl with | [_, _, _, _], _ => rfl) fun f fd F => ok_addline F T U_add_word U_add_integer U_add_text U_add_sign
  have U_split := mk_use (P := l.prog) (w := w) (mg := mg) (base := base) f17 X G (fun _ _ _ _ _ _ us hl => match us, hl with | [_], _ => rfl) fun f fd F => ok_split0 F T U_check_characters U_is_blank U_add_indents U_add_line U_Fault
  have U_law_same_token := mk_use (P := l.prog) (w := w) (mg := mg) (base := base) f18 X G (fun _ _ _ _ _ _ us hl => match us, hl with | [_, _], _ => rfl) fun f fd F => ok_sametok F T 
  have U_law_same_tokens := mk_use (P := l.prog) (w := w) (mg := mg) (base := base) f19 X G (fun _ _ _ _ _ _ us hl => match us, hl with | [_, _], _ => rfl) fun f fd F => ok_sametoks F T U_law_same_token
  exact ok_law F T U_law_digits U_law_draw U_law_row U_split U_law_same_tokens
end K00
open PySem PySem.W PyProof.Rows
set_option maxRecDepth 100000 in
set_option maxHeartbeats 0 in
theorem PySem.Challenge.cw_pyhold_k00_splits_lines_holds : PySem.Challenge.rw_pyhold_k00_splits_lines.Holds := by
  w_on; o_law; k_head; (case hw => w_witness2)
  k_fill
  refine LK.walkG (l := PySem.Challenge.rw_pyhold_k00_splits_lines) (n := 63) (k := 8) (x := "script") (CX := L2.CX0) (sp := K00.spLaw) rfl (by decide) rfl ⟨rfl, by decide, by decide⟩ (fun w h Y => PySem.W.kIn_of Y) ?F (fun K H a ns hl _ hS => ⟨a, ns, rfl, hS, hl, fun _ => rfl⟩) (fun _ _ _ _ z => z)
  case F =>
    intro w mg fa h KX G hmg
    refine' K00.walk_mk KX G hmg ?f0 ?f1 ?f2 ?f3 ?f4 ?f5 ?f6 ?f7 ?f8 ?f9 ?f10 ?f11 ?f12 ?f13 ?f14 ?f15 ?f16 ?f17 ?f18 ?f19 ?f20 ?c0 ?c1 ?c2 ?c3 ?c4 ?c5 ?c6 ?c7 ?c8 ?b_len ?b_int ?b_range ?b_enumerate ?b_isinstance ?b_list ?b_tuple ?b_bool ?b_ValueError ?b_str ?d_ESCAPES ?d_OPENED_BY ?flt
    case f0 => refine' LK.HasFn.mk' ?a ?b ?c ?d; (case a => k_is); (case b => k_is); (case c => k_is); (case d => k_is)
    case f1 => refine' LK.HasFn.mk' ?a ?b ?c ?d; (case a => k_is); (case b => k_is); (case c => k_is); (case d => k_is)
    case f2 => refine' LK.HasFn.mk' ?a ?b ?c ?d; (case a => k_is); (case b => k_is); (case c => k_is); (case d => k_is)
    case f3 => refine' LK.HasFn.mk' ?a ?b ?c ?d; (case a => k_is); (case b => k_is); (case c => k_is); (case d => k_is)
    case f4 => refine' LK.HasFn.mk' ?a ?b ?c ?d; (case a => k_is); (case b => k_is); (case c => k_is); (case d => k_is)
    case f5 => refine' LK.HasFn.mk' ?a ?b ?c ?d; (case a => k_is); (case b => k_is); (case c => k_is); (case d => k_is)
    case f6 => refine' LK.HasFn.mk' ?a ?b ?c ?d; (case a => k_is); (case b => k_is); (case c => k_is); (case d => k_is)
    case f7 => refine' LK.HasFn.mk' ?a ?b ?c ?d; (case a => k_is); (case b => k_is); (case c => k_is); (case d => k_is)
    case f8 => refine' LK.HasFn.mk' ?a ?b ?c ?d; (case a => k_is); (case b => k_is); (case c => k_is); (case d => k_is)
    case f9 => refine' LK.HasFn.mk' ?a ?b ?c ?d; (case a => k_is); (case b => k_is); (case c => k_is); (case d => k_is)
    case f10 => refine' LK.HasFn.mk' ?a ?b ?c ?d; (case a => k_is); (case b => k_is); (case c => k_is); (case d => k_is)
    case f11 => refine' LK.HasFn.mk' ?a ?b ?c ?d; (case a => k_is); (case b => k_is); (case c => k_is); (case d => k_is)
    case f12 => refine' LK.HasFn.mk' ?a ?b ?c ?d; (case a => k_is); (case b => k_is); (case c => k_is); (case d => k_is)
    case f13 => refine' LK.HasFn.mk' ?a ?b ?c ?d; (case a => k_is); (case b => k_is); (case c => k_is); (case d => k_is)
    case f14 => refine' LK.HasFn.mk' ?a ?b ?c ?d; (case a => k_is); (case b => k_is); (case c => k_is); (case d => k_is)
    case f15 => refine' LK.HasFn.mk' ?a ?b ?c ?d; (case a => k_is); (case b => k_is); (case c => k_is); (case d => k_is)
    case f16 => refine' LK.HasFn.mk' ?a ?b ?c ?d; (case a => k_is); (case b => k_is); (case c => k_is); (case d => k_is)
    case f17 => refine' LK.HasFn.mk' ?a ?b ?c ?d; (case a => k_is); (case b => k_is); (case c => k_is); (case d => k_is)
    case f18 => refine' LK.HasFn.mk' ?a ?b ?c ?d; (case a => k_is); (case b => k_is); (case c => k_is); (case d => k_is)
    case f19 => refine' LK.HasFn.mk' ?a ?b ?c ?d; (case a => k_is); (case b => k_is); (case c => k_is); (case d => k_is)
    case f20 => refine' LK.HasFn.mk' ?a ?b ?c ?d; (case a => k_is); (case b => k_is); (case c => k_is); (case d => k_is)
    case c0 => refine' LK.HasInt.mk' ?a ?b; (case a => k_is); (case b => decide +kernel)
    case c1 => refine' LK.HasInt.mk' ?a ?b; (case a => k_is); (case b => decide +kernel)
    case c2 => refine' LK.HasInt.mk' ?a ?b; (case a => k_is); (case b => decide +kernel)
    case c3 => refine' LK.HasInt.mk' ?a ?b; (case a => k_is); (case b => decide +kernel)
    case c4 => refine' LK.HasInt.mk' ?a ?b; (case a => k_is); (case b => decide +kernel)
    case c5 => refine' LK.HasInt.mk' ?a ?b; (case a => k_is); (case b => decide +kernel)
    case c6 => refine' LK.HasTup.mk' ?a ?b ?c ?d; (case a => k_is); (case b => k_is); (case c => decide); (case d => repeat (first | exact .nil | refine .cons ⟨_, rfl⟩ ?_))
    case c7 => refine' LK.HasTup.mk' ?a ?b ?c ?d; (case a => k_is); (case b => k_is); (case c => decide); (case d => repeat (first | exact .nil | refine .cons ⟨_, rfl⟩ ?_))
    case c8 => refine' LK.HasStr.mk' ?a ?b; (case a => k_is); (case b => decide +kernel)
    case b_len => k_is
    case b_int => k_is
    case b_range => k_is
    case b_enumerate => k_is
    case b_isinstance => k_is
    case b_list => k_is
    case b_tuple => k_is
    case b_bool => k_is
    case b_ValueError => k_is
    case b_str => k_is
    case d_ESCAPES => refine' LK.HasDct.mk' ?a ?b ?c ?d ?e; (case a => k_is); (case b => k_is); (case c => rfl); (case d => repeat (first | exact .nil | refine .cons rfl rfl rfl ?_)); (case e => decide +kernel)
    case d_OPENED_BY => refine' LK.HasDct.mk' ?a ?b ?c ?d ?e; (case a => k_is); (case b => k_is); (case c => rfl); (case d => repeat (first | exact .nil | refine .cons rfl rfl rfl ?_)); (case e => decide +kernel)
    case flt => refine' LK.HasFault.mk' ?a1 ?a2 ?a3 ?a4 ?a5 ?a6 ?a7 ?a8 ?b1 ?b2 ?b3 ?b4 ?b5 ?b6 ?b7 ?b8 ?c1 ?c2 ?c3 ?c4 ?c5 ?c6 ?d1 ?d2 ?d3 ?d4 ?d5 ?d6 ?d7 ?e1 ?e2 ?e3 ?e4 ?e5 ?e6; (case a1 => k_is); (case a2 => k_is); (case a3 => k_is); (case a4 => decide +kernel); (case a5 => k_is); (case a6 => k_is); (case a7 => k_is); (case a8 => k_is); (case b1 => k_is); (case b2 => k_is); (case b3 => k_is); (case b4 => k_is); (case b5 => k_is); (case b6 => rfl); (case b7 => decide +kernel); (case b8 => decide +kernel); (case c1 => k_is); (case c2 => k_is); (case c3 => k_is); (case c4 => ks_is); (case c5 => k_is); (case c6 => k_is); (case d1 => k_is); (case d2 => k_is); (case d3 => k_is); (case d4 => k_is); (case d5 => k_is); (case d6 => k_is); (case d7 => k_is); (case e1 => k_is); (case e2 => k_is); (case e3 => k_is); (case e4 => k_is); (case e5 => k_is); (case e6 => k_is)


