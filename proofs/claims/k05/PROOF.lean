import PyProof.Rows.All
import Wide.All
import OpenK.AllK
import Wide.FinOn
import HandS.ForMost
import HandS.Wide
import HandS.WideMore
import HandS.TupAny
import HandS.TupLen
import HandS.Evl
import HandS.Codes
import PyProof.ReprLen
import PyProof.StrLawsRepr
import HandS.Walk
import HandS.Zip
import KE.GoesMore
import HandS.Style
import HandS.TupMul
import PyProof.StrOps2
import HandS.IsInst
import HandS.StrMore
import HandS.ExcInit
import HandS.Nested
import HandS.ClsMeth
import HandS.FStr
import KE.KExcSuper
import HandS.ExcField
import HandS.ExcIs
import HandS.ExcOwn
import HandS.WordsExc
import KE.KExcIs
import HandS.Dict
import HandS.Replace
import HandS.ReplaceDef
import HandS.ReplaceLit
import HandS.ReplaceList
import HandS.Conv
import KE.KDictList
import HandS.Iter
import HandS.MapJoin
import KE.GoesZip
import HandS.TryOnly
import KE.RegKSuper
import PySem.Challenge.RW_pyhold_k05_strengths
set_option Elab.async false
set_option linter.all false
set_option maxRecDepth 100000
set_option maxHeartbeats 4000000
/-! A layer of one's own over the hand layer: defs by name, data, the helpers that the laws share. -/
namespace LK
open PySem PySem.Spec PyProof.Rows L2

/-! ### a def's promise where nothing is being shown (repr asks who is) -/
structure FnG (P : Program) (w : World) (K : PySem.W.Frag) (mg : Str → Option Value) (base : Heap) (CX : CXT) (k : Nat) (f : Addr) (fd : FuncData) (ps : List Str) (sp : Sp) : Prop where
  len : ∀ vs H Q E, sp vs H Q E → vs.length = ps.length
  run : ∀ (A : Around) (outer : List Env) (s : Shared) (H : Hp) (args : Args) (us : List Value) (vs : List V) (Q : VK) (E : XK), Room k A → A.guards = some [] →
    Env0 P w K mg base A outer s H → BindsTo s fd args (ps.zip us) → Vals vs us → sp vs H Q E → codeAny (model P w) A (.call (.ref f) args) (CR CX outer P w H s Q E) s
section
variable {P : Program} {w : World} {K : PySem.W.Frag} {mg : Str → Option Value} {base : Heap} {CX : CXT}
theorem FnG.imp {k : Nat} {f : Addr} {fd : FuncData} {ps : List Str} {sp sp' : Sp} (F : FnG P w K mg base CX k f fd ps sp) (h : ∀ vs H Q E, sp' vs H Q E → sp vs H Q E) : FnG P w K mg base CX k f fd ps sp' where
  len := fun vs H Q E q => F.len vs H Q E (h vs H Q E q)
  run := fun A outer s H args us vs Q E hr hg he hb hv hs => F.run A outer s H args us vs Q E hr hg he hb hv (h vs H Q E hs)
/-- the rule for a def: its body as a term of rules, and the reading of that term -/
theorem okG {x qual : Str} {st : Stmt} {f : Addr} {fd : FuncData} {N ps : List Str} {k : Nat} {sp : Sp} (F : Fun K x qual st f fd) (S : FnScope N ps (defScope st)) (len : ∀ vs H Q E, sp vs H Q E → vs.length = ps.length)
    (body : ∀ (cdv : Value) (A : Around) (outer : List Env) (s : Shared) (H : Hp) (vs : List V) (Q : VK) (E : XK), Room k (A.deeper (envOfC qual (defScope st) s.heap.objs.size f cdv)) →
      (A.deeper (envOfC qual (defScope st) s.heap.objs.size f cdv)).guards = some [] → sp vs H Q E →
      ∃ t, PSs (cxOf CX P w K mg base N qual (defScope st) f cdv A outer s H E) (defBody st) t ∧ t { nx := fun _ H' => Q .non H', rt := Q } (start N vs) H) :
    FnG P w K mg base CX (k + 1) f fd ps sp := by
  obtain ⟨oc, od, kV, doc, pm, an, cdv, ct, osl, rfl, lk, hcd⟩ := F.ex
  refine ⟨len, fun A outer s H args us vs Q E hr hgd e0 hb r hsp => ?_⟩
  have inn : K.In s.heap := e0.mod.kin.keeps fun b o e => (e0.bs b o e).1
  refine codeAny_call_function hr.depth (inn _ _ lk) rfl S.co S.gen rfl (PySem.W.codeRec_of inn hcd) (hb _ _ _ _ ?_)
  refine wpAny_newFunctionEnv_cells S.kind (fun y hy => ?_) fun env he s1 made => ?_
  · obtain ⟨n, v⟩ := y
    exact (S.par n (List.of_mem_zip hy).1).elim .inl fun q => .inr ⟨q, PySem.W.cellsFrom_some _ _ _ (.inl q)⟩
  · subst he
    have lim : s.heap.NoLimit := e0.mod.nolimit.keeps fun b o e => (e0.bs b o e).1
    refine ⟨lim.keeps made.toInCall.keep, codeAny_func ?_⟩
    obtain ⟨t, ht, hq⟩ := body cdv A outer s H vs Q E (hr.deeper _) hgd hsp
    refine wpAny_mono (ht.run [] s1 (start N vs) H _ (inv_start S hr.hd e0 (len _ _ _ _ hsp) r made) hq) (fun fl s' hs => ?_) fun e s' hs => hs
    cases fl with
    | ret u => exact let ⟨v, _, H', J, rv, q⟩ := hs; ⟨v, H', J.os, J.bare, J.base, J.hok, rv, q⟩
    | next => exact let ⟨_, H', J, q⟩ := hs; ⟨V.non, H', J.os, J.bare, J.base, J.hok, rfl, q⟩
    | brk => exact let ⟨_, _, _, q⟩ := hs; q.elim
    | cont => exact let ⟨_, _, _, q⟩ := hs; q.elim
/-- .. whose body lets no exception out -/
theorem okG0 {x qual : Str} {st : Stmt} {f : Addr} {fd : FuncData} {N ps : List Str} {k : Nat} {sp : Sp} (F : Fun K x qual st f fd) (S : FnScope N ps (defScope st)) (len : ∀ vs H Q E, sp vs H Q E → vs.length = ps.length)
    (body : ∀ (cdv : Value) (A : Around) (outer : List Env) (s : Shared) (H : Hp) (vs : List V) (Q : VK) (E : XK), Room k (A.deeper (envOfC qual (defScope st) s.heap.objs.size f cdv)) →
      (A.deeper (envOfC qual (defScope st) s.heap.objs.size f cdv)).guards = some [] → sp vs H Q E →
      ∃ t, PSs (cxOf CX0 P w K mg base N qual (defScope st) f cdv A outer s H E).nox (defBody st) t ∧ t { nx := fun _ H' => Q .non H', rt := Q } (start N vs) H) :
    FnG P w K mg base CX0 (k + 1) f fd ps sp :=
  okG F S len fun cdv A outer s H vs Q E hr hg hs => let ⟨t, ht, q⟩ := body cdv A outer s H vs Q E hr hg hs; ⟨t, ht.nox, q⟩
end
section
variable {X : Cx} {CX : CXT} {k : Nat} {f : Addr} {fd : FuncData} {ps : List Str} {sp : Sp} {E : XK} {x : Str} {p pos : Pos} {e : Expr} {es : List Expr} {t : TA}
theorem run_fnG {pins : List (Addr × Obj)} {σ : L2.St} {H : Hp} {s : Shared} {Q : VK} {us : List Value} {vs : List V} (F : FnG X.prog X.w X.K X.mg X.base CX k f fd ps sp) (hr : Room k X.A) (hg : X.A.guards = some []) (hb : Binds X.K fd ps [])
    (hx : Passes CX X E) (I : Inv X pins σ H s) (r : Vals vs us) (h : sp vs H Q E) : wpAny (model X.prog X.w) X.A (call (.ref f) us) (EP X pins σ Q) X.xe s := by
  have hl : (us ++ []).length = ps.length := by rw [List.append_nil, ← r.length, F.len _ _ _ _ h]
  have hbs := hb s us I.kIn hl
  rw [List.append_nil] at hbs
  refine wpAny_call (codeAny_mono (F.run X.A X.stack s H ⟨us, []⟩ us vs Q E hr hg I.env0 hbs r h) fun res s' hq => ?_)
  match res, hq with
  | .error e, hq => exact hx pins σ H s e s' I hq
  | .ok (.ret u), hq => exact I.after hq
  | .ok .next, hq => exact hq.elim
  | .ok .brk, hq => exact hq.elim
  | .ok .cont, hq => exact hq.elim
end

/-! ### defs of the text, by name -/
/-- what the top has left of the def x, whose statement is st -/
def HasFn (K : PySem.W.Frag) (x : Str) (st : Stmt) : Prop := ∃ (f : Addr) (oc : Value) (od an : Option Addr) (kV doc pm cdv ct : Value) (osl : Array (Option Value)),
  PySem.W.nsIn K mainGlobals x = some (some (.ref f)) ∧ K.lookup f = some ⟨oc, od, .func (PySem.W.fnOf x x (defArgs st) (defBody st) (defScope st) .none kV doc pm an cdv ct), osl⟩ ∧
  PySem.W.codeIn K cdv x = true ∧ PySem.W.keepIn K (.ref f) = true
/-- the def x may be called: its promise sp, by level k -/
structure Use (P : Program) (w : World) (K : PySem.W.Frag) (mg : Str → Option Value) (base : Heap) (CX : CXT) (x : Str) (k : Nat) (ps : List Str) (sp : Sp) : Prop where
  ex : ∃ (f : Addr) (fd : FuncData), FnG P w K mg base CX k f fd ps sp ∧ mg x = some (.ref f) ∧ PySem.W.keepIn K (.ref f) = true ∧ Binds K fd ps []
section
variable {P : Program} {w : World} {K : PySem.W.Frag} {mg : Str → Option Value} {base h : Heap} {CX : CXT}
theorem mk_use {x : Str} {st : Stmt} {k : Nat} {ps : List Str} {sp : Sp} (F : HasFn K x st) (X : K.In h) (G : h.Ns mainGlobals mg)
    (hb : ∀ (kV doc pm : Value) (an : Option Addr) (cdv ct : Value) (us : List Value), us.length = ps.length → bindArgs (PySem.W.fnOf x x (defArgs st) (defBody st) (defScope st) .none kV doc pm an cdv ct) ⟨us, []⟩ = pure (ps.zip us))
    (ok : ∀ (f : Addr) (fd : FuncData), Fun K x x st f fd → FnG P w K mg base CX k f fd ps sp) : Use P w K mg base CX x k ps sp := by
  obtain ⟨f, oc, od, an, kV, doc, pm, cdv, ct, osl, e, l, c, kp⟩ := F
  have Fn := fun_mk (st := st) l c kp
  exact ⟨f, _, ok f _ Fn, PySem.W.mg_of X G e, kp, Fn.binds hb⟩
theorem Use.imp {x : Str} {k : Nat} {ps : List Str} {sp sp' : Sp} (U : Use P w K mg base CX x k ps sp) (h : ∀ vs H Q E, sp' vs H Q E → sp vs H Q E) : Use P w K mg base CX x k ps sp' := by
  obtain ⟨f, fd, ok, r⟩ := U.ex
  exact ⟨f, fd, ok.imp h, r⟩
end
section
variable {X : Cx} {CX : CXT} {E : XK} {k : Nat} {x : Str} {ps : List Str} {sp : Sp} {p pos : Pos} {e : Expr} {es : List Expr} {t : TA}
theorem pe_useX (U : Use X.prog X.w X.K X.mg X.base CX x k ps sp) (hx : Passes CX X E) (hr : Room k X.A) (gd : X.A.guards = some []) (hg : Gl X x) (ha : PA X (e :: es) t) (hdb : (x == ("__debug__" : Str)) = false := by decide)
    (he : starEach (e :: es) X.env = (false, eval e X.env) :: starEach es X.env := by rfl) (hpl : (backTo pos (starEach es X.env)).any (·.1) = false := by rfl) : PE X (.Call (.Name x p) (e :: es) [] pos) (fun σ H Q => t σ H fun vs H1 => sp vs H1 Q E) := by
  obtain ⟨f, fd, ok, hm, kp, hb⟩ := U.ex
  refine ⟨fun pins s σ H Q I h => wpAny_Call_Name_kw (ld_glob I hg hm ?_ hdb)⟩
  exact PySem.W.callWith_K (h₀ := X.base) I.ok.mod.kin kp (thn (ha.run pos pins s σ H _ I h) fun us s1 ⟨vs, H1, I1, r, q⟩ => ⟨I1.kIn, run_fnG ok hr gd hb hx I1 r q⟩) he hpl
def tUse (sp : Sp) (E : XK) (t : TA) : TE := fun σ H Q => t σ H fun vs H1 => sp vs H1 Q E
theorem pe_use (U : Use X.prog X.w X.K X.mg X.base CX0 x k ps sp) (hr : Room k X.A) (gd : X.A.guards = some []) (hg : Gl X x) (ha : PA X (e :: es) t) (hdb : (x == ("__debug__" : Str)) = false := by decide)
    (he : starEach (e :: es) X.env = (false, eval e X.env) :: starEach es X.env := by rfl) (hpl : (backTo pos (starEach es X.env)).any (·.1) = false := by rfl) : PE X (.Call (.Name x p) (e :: es) [] pos) (tUse sp E0 t) := pe_useX U pass0 hr gd hg ha hdb he hpl
theorem pe_use0 (U : Use X.prog X.w X.K X.mg X.base CX0 x k ps sp) (hr : Room k X.A) (gd : X.A.guards = some []) (hg : Gl X x) (hdb : (x == ("__debug__" : Str)) = false := by decide) : PE X (.Call (.Name x p) [] [] pos) (tUse sp E0 tNil) := by
  obtain ⟨f, fd, ok, hm, kp, hb⟩ := U.ex
  exact ⟨fun pins s σ H Q I h => wpAny_Call_Name_kw (ld_glob I hg hm (PySem.W.callWith_K0 I.kIn kp (run_fnG (us := []) ok hr gd hb pass0 I .nil h)) hdb)⟩
end

/-! ### what stays -/
theorem Same.new {H : Hp} {p : Addr} {o : HO} (h : H p = none) : Same H (upd H p o) := fun b u e => by
  rw [upd_ne (ne_of_none e h)]; exact e
theorem Same.rd {H H' : Hp} {a : Addr} {u : HO} (e : Same H H') (h : Rd H a u) : Rd H' a u := by
  rcases h with h | ⟨o, h⟩
  · exact .inl (e _ _ h)
  · exact .inr ⟨o, e _ _ h⟩
theorem Same.tupl {K : PySem.W.Frag} {H H' : Hp} {a : Addr} {xs : List V} (e : Same H H') (h : SqT K H a xs) : SqT K H' a xs := by
  rcases h with h | h
  · exact .inl (Same.rd e h)
  · exact .inr h
theorem SqT.mono {K : PySem.W.Frag} {H H' : Hp} {a : Addr} {xs : List V} (h : SqT K H a xs) (e : Same H H') : SqT K H' a xs := Same.tupl e h
theorem SqL.mono {K : PySem.W.Frag} {H H' : Hp} {a : Addr} {xs : List V} (h : SqL K H a xs) (e : Same H H') : SqL K H' a xs := e.seq h

/-! ### data: none, bools, ints, texts, tuples (and lists that stand still) -/
mutual
theorem Dp.mono {K : PySem.W.Frag} {H H' : Hp} (e : Same H H') : ∀ {v : V} {d : PyData}, Dp K H v d → Dp K H' v d
  | _, _, .non => .non
  | _, _, .bl b => .bl b
  | _, _, .int i => .int i
  | _, _, .str x => .str x
  | _, _, .lst h a => .lst (e.seq h) (DpAll.mono e a)
  | _, _, .tup h a => .tup (Same.tupl e h) (DpAll.mono e a)
theorem DpAll.mono {K : PySem.W.Frag} {H H' : Hp} (e : Same H H') : ∀ {vs : List V} {ds : List PyData}, DpAll K H vs ds → DpAll K H' vs ds
  | _, _, .nil => .nil
  | _, _, .cons h a => .cons (Dp.mono e h) (DpAll.mono e a)
end
/-- a tuple just made -/
theorem Dp.made {K : PySem.W.Frag} {H : Hp} {p : Addr} {xs : List V} {ds : List PyData} (hp : H p = none) (h : DpAll K H xs ds) : Dp K (upd H p (.tup xs)) (.ref p) (.tuple ds) :=
  .tup (SqT.of upd_same) (DpAll.mono (Same.new hp) h)
theorem DpAll.length {K : PySem.W.Frag} {H : Hp} : ∀ {vs : List V} {ds : List PyData}, DpAll K H vs ds → vs.length = ds.length
  | _, _, .nil => rfl
  | _, _, .cons _ t => by simp [DpAll.length t]
theorem DpAll.app {K : PySem.W.Frag} {H : Hp} : ∀ {vs ws : List V} {ds es : List PyData}, DpAll K H vs ds → DpAll K H ws es → DpAll K H (vs ++ ws) (ds ++ es)
  | _, _, _, _, .nil, t => t
  | _, _, _, _, .cons h a, t => .cons h (DpAll.app a t)

/-! ### repr of data -/
mutual
theorem Dp.noDict {K : PySem.W.Frag} {H : Hp} : ∀ {v : V} {d : PyData}, Dp K H v d → d.hasDict = false
  | _, _, .non => rfl
  | _, _, .bl _ => rfl
  | _, _, .int _ => rfl
  | _, _, .str _ => rfl
  | _, _, .lst _ a => by simp only [PyData.hasDict]; exact DpAll.noDict a
  | _, _, .tup _ a => by simp only [PyData.hasDict]; exact DpAll.noDict a
theorem DpAll.noDict {K : PySem.W.Frag} {H : Hp} : ∀ {vs : List V} {ds : List PyData}, DpAll K H vs ds → PyData.hasDictAll ds = false
  | _, _, .nil => rfl
  | _, _, .cons h a => by simp only [PyData.hasDictAll, Dp.noDict h, DpAll.noDict a, Bool.or_self]
end
/-- what repr asks of data -/
structure ShowOk (d : PyData) : Prop where
  ok : d.showable = true
  dp : d.depth ≤ 60
  sz : d.shown.length ≤ sizeLine
def rRepr (K : PySem.W.Frag) : List V → Hp → VK → Prop := fun xs H Q => ∃ v d, xs = [v] ∧ Dp K H v d ∧ ShowOk d ∧ Q (.str d.shown) H
section
variable {X : Cx}
theorem call_repr_data (hg : X.A.guards = some []) (hu : X.A.units + 64 < cLine) : CallR X (.builtin "repr") (rRepr X.K) := by
  intro pins s σ H xs us Q I r h
  obtain ⟨v, d, rfl, hd, ⟨hs, hdp, hsz⟩, q⟩ := h
  obtain ⟨u, rfl, rv⟩ := vals1 r
  obtain ⟨as, rr⟩ := Dp.reads I d v u hd rv
  have nd := Dp.noDict hd
  cases d with
  | none => cases rr; exact PySem.P.repr_of_none ⟨.str _, H, I.tok _, ⟨_, rfl⟩, q⟩
  | bool b => cases rr; exact PySem.P.repr_of_bool ⟨.str _, H, I.tok _, ⟨_, rfl⟩, by simpa [PyData.shown] using q⟩
  | int i => cases rr; exact PySem.P.repr_of_int (of_decide_eq_true (by simpa [PyData.showable] using hs)) ⟨.str _, H, I.tok _, ⟨_, rfl⟩, by simpa [PyData.shown] using q⟩
  | str x => cases rr; exact PySem.P.repr_of_str (hsz := by simpa [PyData.shown] using hsz) ⟨.str _, H, I.tok _, ⟨_, rfl⟩, by simpa [PyData.shown] using q⟩
  | list ds =>
    obtain ⟨a, rfl⟩ := PyProof.Rows.isRef_of_reads rr rfl
    exact repr_of_reads' rr hs (PyData.noDict_hsm nd) hg (by omega) (fun _ _ e => e) (fun h' u tk hk => ⟨.str _, H, I.kept hk, ⟨_, rfl⟩, q⟩) hsz
  | tuple ds =>
    obtain ⟨a, rfl⟩ := PyProof.Rows.isRef_of_reads rr rfl
    exact repr_of_reads' rr hs (PyData.noDict_hsm nd) hg (by omega) (fun _ _ e => e) (fun h' u tk hk => ⟨.str _, H, I.kept hk, ⟨_, rfl⟩, q⟩) hsz
  | dict kv => cases hd
end

/-! ### the law's own call -/
/-- the heap behind the top, seen with the script at a locked, or with nothing tracked -/
theorem law_callG {P : Program} {w : World} {K : PySem.W.Frag} {mg mb : Str → Option Value} {CX : CXT} {k : Nat} {fa a : Addr} {fd : FuncData} {x : Str} {sp : Sp} {s₁ : Shared} {vs : List Value} {ns : List Int}
    (inn : K.In s₁.heap) (hns : s₁.heap.Ns mainGlobals mg) (hb : s₁.heap.Ns builtinsNs mb) (hbb : ∀ x : Str, x ≠ "__name__" → mb x = bootBuiltins x) (hlim : s₁.heap.NoLimit) (hgens : s₁.gens = #[])
    (ha : s₁.heap.get? a = some { cls := .type "list", data := .seq vs.toArray }) (hi : IntsAre vs ns) (hl : ns.length ≤ sizeLine) (hr : Room k callerA)
    (F : ∀ base : Heap, K.In base → base.Ns mainGlobals mg → FnG P w K mg base CX k fa fd [x] sp) (hbind : ∀ (s : Shared) (u : Value), BindsTo s fd ⟨[u], []⟩ [(x, u)])
    (hsp : ∀ H : Hp, Only H → SqL K H a (ns.map V.int) → sp [.ref a] H (fun v _ => v = .bl true) fun _ _ _ => False)
    (hCX : ∀ H e s', CX [] H s₁ (fun _ _ _ => False) e s' → False) :
    codeAny (model P w) callerA (.call (.ref fa) ⟨[.ref a], []⟩) (fun r s' => r = .ok (.ret (.bool true)) ∧ OldK s₁.heap s'.heap ∧ s'.os = s₁.os ∧ AllBare s'.gens) s₁ := by
  have rv := vals_ints hi
  have run : ∀ H : Hp, Only H → SqL K H a (ns.map V.int) → HOk P w H s₁.heap → (∀ b u, H b = some u → b = a ∧ K.lookup a = none) →
      codeAny (model P w) callerA (.call (.ref fa) ⟨[.ref a], []⟩) (fun r s' => r = .ok (.ret (.bool true)) ∧ OldK s₁.heap s'.heap ∧ s'.os = s₁.os ∧ AllBare s'.gens) s₁ := by
    intro H only hS hok at_a
    -- what is no list stays in the base
    have free : ∀ {b : Addr} {o : Obj}, s₁.heap.get? b = some o → (∀ its n, o.data ≠ .seq its n) → H b = none := fun {b o} e hd => by
      cases q : H b with
      | none => rfl
      | some u =>
        obtain ⟨rfl, _⟩ := at_a b u q
        rw [ha] at e; cases e
        exact absurd rfl (hd _ _)
    have names : ∀ {b : Addr} {m : Str → Option Value}, s₁.heap.Ns b m → (hidT s₁.heap H).Ns b m := fun {b m} hn => by
      obtain ⟨o, es, ep, e, d, r⟩ := hn
      exact ⟨o, es, ep, hidT_get e (free e fun its n z => by rw [d] at z; cases z), d, r⟩
    have inb : K.In (hidT s₁.heap H) := fun b o e => by
      refine hidT_get (inn b o e) ?_
      cases q : H b with
      | none => rfl
      | some u =>
        obtain ⟨rfl, hk⟩ := at_a b u q
        rw [e] at hk; cases hk
    have md : Mod K mg (hidT s₁.heap H) := by
      obtain ⟨mc, h1, h2⟩ := hlim
      exact ⟨inb, names hns, ⟨mb, names hb, hbb⟩, ⟨mc, names h1, h2⟩⟩
    have none_in : ∀ b : Addr, b ∉ ([] : List Addr) := fun b z => nomatch z
    have e0 : Env0 P w K mg (hidT s₁.heap H) callerA [] s₁ H := ⟨rfl, md, fun b o e => of_hidT e, Nat.le_of_eq (hidT_size _ _), trivial, fun b z => absurd z (none_in b), hok, .of_eq hgens⟩
    refine codeAny_mono ((F _ inb (names hns)).run callerA [] s₁ H ⟨[.ref a], []⟩ [.ref a] [.ref a] _ _ hr rfl e0 (hbind s₁ (.ref a)) (.cons rfl .nil) (hsp H only hS)) fun r s' h => ?_
    match r, h with
    | .error e, h => exact (hCX H e s' h).elim
    | .ok .next, h => exact False.elim h
    | .ok .brk, h => exact False.elim h
    | .ok .cont, h => exact False.elim h
    | .ok (.ret u), h =>
      obtain ⟨v, H', os, bare, un, hok', r', q⟩ := h
      obtain rfl : v = V.bl true := q
      obtain rfl : u = Value.bool true := r'
      refine ⟨rfl, OldK.of_keep fun b o e => ?_, os, bare⟩
      cases q : H b with
      | none => exact un.keep b o e q (none_in b) (none_in b)
      | some u =>
        rcases only b with z | ⟨ob, xs, z⟩
        · rw [q] at z; cases z
        · have e1 : s₁.heap.get? b = some ob := (hok b _ z).1
          rw [e] at e1; cases e1
          exact (hok' b _ (un.frzs b o _ z)).1
  cases hk : K.lookup a with
  | some o =>
    have e := inn a o hk
    rw [ha] at e; cases e
    have sz : vs.toArray.size ≤ sizeLine := by rw [List.size_toArray, hi.length]; exact hl
    exact run (fun _ => none) (fun _ => .inl rfl) (.inr ⟨_, vs.toArray, _, hk, rfl, rfl, rfl, sz, by simpa using rv⟩) (fun b u z => nomatch (show (none : Option HO) = some u from z)) fun b u z => nomatch (show (none : Option HO) = some u from z)
  | none =>
    let u0 : HO := .frz { cls := .type "list", data := .seq vs.toArray } (.lst (ns.map V.int))
    have at1 : ∀ b u, upd (fun _ => none) a u0 b = some u → b = a ∧ u = u0 := fun b u z => by
      by_cases hb : b = a
      · subst hb; rw [upd_same] at z; exact ⟨rfl, (Option.some.inj z).symm⟩
      · rw [upd_ne hb] at z; cases z
    refine run (upd (fun _ => none) a u0) (fun b => ?_) (.inl (.inr ⟨_, upd_same⟩)) (fun b u z => ?_) fun b u z => ⟨(at1 b u z).1, hk⟩
    · by_cases hb : b = a
      · subst hb; exact .inr ⟨_, _, upd_same⟩
      · exact .inl (by rw [upd_ne hb])
    · obtain ⟨rfl, rfl⟩ := at1 b u z
      exact ⟨ha, by rw [List.length_map]; exact hl, vs, _, rv, ha⟩
theorem walkG {l : PySem.W.OpenLaw} {n k : Nat} {q : Program} {loose : List Str} {XP : (Str → Option Value) → Heap → Prop} {YP : World → Heap → Prop} {d : DefRec} {K : Params → PySem.W.Frag} {CX : CXT} {sp : PySem.W.Frag → Sp} {x : Str}
    (hn : l.most = some n) (hn2 : n ≤ sizeLine) (hdf : d.params.defaults = []) (hr : Room k callerA)
    (hY : ∀ (w : World) (h : Heap), YP w h → (K w.params).In h)
    (F : ∀ (w : World) (mg : Str → Option Value) (fa : Addr) (h : Heap), (K w.params).In h → h.Ns mainGlobals mg → mg d.name = some (.ref fa) →
      ∃ fd : FuncData, (∀ (s : Shared) (u : Value), BindsTo s fd ⟨[u], []⟩ [(x, u)]) ∧
        ∀ base : Heap, (K w.params).In base → base.Ns mainGlobals mg → FnG l.prog w (K w.params) mg base CX k fa fd [x] (sp (K w.params)))
    (hsp : ∀ (K : PySem.W.Frag) (H : Hp) (a : Addr) (ns : List Int), ns.length ≤ n → Only H → SqL K H a (ns.map V.int) → sp K [.ref a] H (fun v _ => v = .bl true) fun _ _ _ => False)
    (hCX : ∀ (H : Hp) (s : Shared) (e : Value) (s' : Shared), CX [] H s (fun _ _ _ => False) e s' → False) :
    PySem.W.WalkO q loose XP YP l.row.toRowW d [] (fun f vs => PySem.call f vs) :=
  Att.attach_call hn hdf fun w s₀ s₁ mg mb fa o pm cd doc a vs ns G Y ho hd hcd hmg hobj hints hlen hg =>
    let ⟨fd, hb, hF⟩ := F w mg fa _ (hY w _ Y) G.T.g hmg
    law_callG (hY w _ Y) G.T.g G.T.b G.T.builtins G.T.nolimit hg hobj hints (Nat.le_trans hlen hn2) hr hF hb (fun H hO hS => hsp (K w.params) H a ns hlen hO hS) fun H e s' => hCX H s₁ e s'
/-- from the top's facts: the law's def and its arguments -/
theorem law_use {P : Program} {w : World} {K : PySem.W.Frag} {mg : Str → Option Value} {h : Heap} {CX : CXT} {k : Nat} {fa : Addr} {st : Stmt} {x : Str} {sp : Sp} (L : HasFn K "law" st) (X : K.In h) (G : h.Ns mainGlobals mg) (hfa : mg "law" = some (.ref fa))
    (hb : ∀ (kV doc pm : Value) (an : Option Addr) (cdv ct v : Value), bindArgs (PySem.W.fnOf "law" "law" (defArgs st) (defBody st) (defScope st) .none kV doc pm an cdv ct) ⟨[v], []⟩ = pure [(x, v)])
    (ok : ∀ base : Heap, K.In base → base.Ns mainGlobals mg → ∀ fd, Fun K "law" "law" st fa fd → FnG P w K mg base CX k fa fd [x] sp) :
    ∃ fd : FuncData, (∀ (s : Shared) (v : Value), BindsTo s fd ⟨[v], []⟩ [(x, v)]) ∧ ∀ base : Heap, K.In base → base.Ns mainGlobals mg → FnG P w K mg base CX k fa fd [x] sp := by
  obtain ⟨f, oc, od, an, kV, doc, pm, cdv, ct, osl, e, l, c, kp⟩ := L
  have z := hfa.symm.trans (PySem.W.mg_of X G e)
  cases z
  have Fn := fun_mk (st := st) l c kp
  exact ⟨_, fun s v => .of_eq (hb ..), fun base h1 h2 => ok base h1 h2 _ Fn⟩

/-! ### tests whose answer is known -/
theorem iteFb {c : Bool} {A B : Prop} (h : c = false) (b : B) : if c = true then A else B := by rw [h]; exact iteF b
theorem iteTb {c : Bool} {A B : Prop} (h : c = true) (a : A) : if c = true then A else B := by rw [h]; exact iteT a
theorem ite3 {c : Bool} {A B : Prop} (h1 : c = true → A) (h2 : c = false → B) : if c = true then A else B := by
  cases c with
  | true => exact iteT (h1 rfl)
  | false => exact iteF (h2 rfl)

/-! ### constants of the top -/
def HasInt (K : PySem.W.Frag) (x : Str) (n : Int) : Prop := ∃ (t : Tok) (m : Int), PySem.W.nsIn K mainGlobals x = some (some (.int m t)) ∧ m = n
def KTup (K : PySem.W.Frag) (a : Addr) (xs : List V) : Prop := ∃ (od : Option Addr) (its : Array Value) (n : Nat) (sl : Array (Option Value)), K.lookup a = some ⟨.type "tuple", od, .seq its n, sl⟩ ∧ its.size ≤ sizeLine ∧ Vals xs its.toList
def HasTup (K : PySem.W.Frag) (x : Str) (xs : List V) : Prop := ∃ a, PySem.W.nsIn K mainGlobals x = some (some (.ref a)) ∧ KTup K a xs
theorem KTup.sq {K : PySem.W.Frag} {a : Addr} {xs : List V} (h : KTup K a xs) (H : Hp) : SqT K H a xs := by
  obtain ⟨od, its, n, sl, e, z, v⟩ := h
  exact .inr ⟨_, its, n, e, rfl, rfl, z, v⟩
/-- the module's names, as the defs see them -/
def GInt (mg : Str → Option Value) (x : Str) (n : Int) : Prop := ∃ t, mg x = some (.int n t)
def GTup (K : PySem.W.Frag) (mg : Str → Option Value) (x : Str) (xs : List V) : Prop := ∃ a, mg x = some (.ref a) ∧ KTup K a xs
theorem HasInt.g {K : PySem.W.Frag} {mg : Str → Option Value} {h : Heap} {x : Str} {n : Int} (i : HasInt K x n) (X : K.In h) (G : h.Ns mainGlobals mg) : GInt mg x n := by
  obtain ⟨t, m, e, rfl⟩ := i
  exact ⟨t, PySem.W.mg_of X G e⟩
theorem HasTup.g {K : PySem.W.Frag} {mg : Str → Option Value} {h : Heap} {x : Str} {xs : List V} (i : HasTup K x xs) (X : K.In h) (G : h.Ns mainGlobals mg) : GTup K mg x xs := by
  obtain ⟨a, e, k⟩ := i
  exact ⟨a, PySem.W.mg_of X G e, k⟩
section
variable {X : Cx} {x : Str} {pos : Pos}
theorem pe_globI {n : Int} (h : GInt X.mg x n) (hg : Gl X x) (hd : (x == ("__debug__" : Str)) = false := by decide) : PE X (.Name x pos) (tC (.int n)) := by
  obtain ⟨t, e⟩ := h
  exact pe_glob hg e ⟨t, rfl⟩ hd
/-- a tuple of the top: it is read as xs, wherever it stands -/
def tGT (K : PySem.W.Frag) (xs : List V) : TE := fun _ H Q => ∀ a, KTup K a xs → Q (.ref a) H
theorem pe_globT {xs : List V} (h : GTup X.K X.mg x xs) (hg : Gl X x) (hd : (x == ("__debug__" : Str)) = false := by decide) : PE X (.Name x pos) (tGT X.K xs) := by
  obtain ⟨a, e, k⟩ := h
  exact ⟨fun pins s σ H Q I q => (pe_glob (v := .ref a) hg e rfl hd).run pins s σ H Q I (q a k)⟩
end

/-! ### // by any divisor but 0 -/
def CDivX (_ j : Int) : Prop := j ≠ 0 ∧ j.natAbs.log2 < 9000
theorem op_fdivX {X : Cx} : OpR X (binaryOp .FloorDiv) (rI CDivX fun i j => .int (i.fdiv j)) := opI fun _ _ _ _ _ _ _ hc q => floordiv_int hc.1 q (.inl (PyProof.noPylong_of_log2 hc.2))
theorem fdiv_le_pos (i : Int) {j : Int} (hj : 0 < j) : (i.fdiv j).natAbs ≤ i.natAbs + 1 := by
  have e := Int.mul_fdiv_add_fmod i j
  have h0 := Int.fmod_nonneg_of_pos i hj
  have h1 := Int.fmod_lt_of_pos i hj
  have a : (i.fdiv j).natAbs ≤ (j * i.fdiv j).natAbs := by
    rw [Int.natAbs_mul]; exact Nat.le_mul_of_pos_left _ (by omega)
  by_cases hi : 0 ≤ i
  · have : 0 ≤ i.fdiv j := Int.fdiv_nonneg hi (by omega)
    have : 0 ≤ j * i.fdiv j := Int.mul_nonneg (by omega) this
    omega
  · have q : i.fdiv j ≤ -1 := by
      by_cases z : 0 ≤ i.fdiv j
      · have := Int.mul_nonneg (show 0 ≤ j by omega) z
        omega
      · omega
    have r : -1 + i ≤ i.fdiv j := by
      have : i.fdiv j * (j - 1) ≤ (-1) * (j - 1) := Int.mul_le_mul_of_nonneg_right q (by omega)
      have e2 : j * i.fdiv j = i.fdiv j * (j - 1) + i.fdiv j := by rw [Int.mul_sub, Int.mul_one, Int.mul_comm]; omega
      omega
    omega
theorem fdiv_le (i j : Int) : (i.fdiv j).natAbs ≤ i.natAbs + 1 := by
  by_cases h : 0 < j
  · exact fdiv_le_pos i h
  · by_cases h2 : j = 0
    · subst h2; rw [Int.fdiv_zero]; omega
    · have e : i.fdiv j = (-i).fdiv (-j) := by rw [Int.neg_fdiv_neg]
      have := fdiv_le_pos (-i) (show 0 < -j by omega)
      rw [e]; omega

/-! ### how long a shown thing is at most -/
structure Sm (d : PyData) (dp N : Nat) : Prop where
  ok : d.showable = true
  dp : d.depth ≤ dp
  sz : d.shown.length ≤ N
structure SmAll (ds : List PyData) (dp n N : Nat) : Prop where
  ok : PyData.showableAll ds = true
  dp : PyData.depthAll ds ≤ dp
  len : ds.length ≤ n
  sz : ((PyData.shownAll ds).map (·.length)).sum ≤ N
theorem Sm.show {d : PyData} {dp N : Nat} (h : Sm d dp N) (h1 : dp ≤ 60) (h2 : N ≤ sizeLine) : ShowOk d := ⟨h.ok, Nat.le_trans h.dp h1, Nat.le_trans h.sz h2⟩
theorem Sm.mono {d : PyData} {dp N dp' N' : Nat} (h : Sm d dp N) (h1 : dp ≤ dp') (h2 : N ≤ N') : Sm d dp' N' := ⟨h.ok, Nat.le_trans h.dp h1, Nat.le_trans h.sz h2⟩
theorem shownAll_length : ∀ ds : List PyData, (PyData.shownAll ds).length = ds.length
  | [] => rfl
  | d :: ds => by simp [PyData.shownAll, shownAll_length ds]
theorem Sm.int {i : Int} (h : i.natAbs < 2 ^ 1900) : Sm (.int i) 0 2000 := by
  have hl : i.natAbs.log2 < 1900 := PySem.Flt.log2_lt_of (by decide) h
  refine ⟨?_, Nat.le_refl 0, ?_⟩
  · simp only [PyData.showable, decide_eq_true_eq]; omega
  · have e := int_text_length_le (k := 1900) (by decide) hl
    show (Str.ofString (toString i)).length ≤ 2000
    rw [PySem.ofString_length]; omega
theorem Sm.bool (b : Bool) : Sm (.bool b) 0 10 := ⟨rfl, Nat.le_refl 0, by cases b <;> decide +kernel⟩
theorem Sm.none : Sm .none 0 10 := ⟨rfl, Nat.le_refl 0, by decide +kernel⟩
theorem Sm.str {x : Str} {n : Nat} (h : x.length ≤ n) (hc : ∀ c ∈ x.cps.toList, c < 16 ^ 8) : Sm (.str x) 0 (10 * n + 2) := ⟨rfl, Nat.le_refl 0, by
  have e := PySem.StrLaws.reprText_len x hc
  show (reprText x).length ≤ _
  omega⟩
theorem SmAll.nil : SmAll [] 0 0 0 := ⟨rfl, Nat.le_refl 0, Nat.le_refl 0, Nat.le_refl 0⟩
theorem SmAll.cons {d : PyData} {ds : List PyData} {dp dp' n N M : Nat} (h : Sm d dp N) (t : SmAll ds dp' n M) : SmAll (d :: ds) (max dp dp') (n + 1) (N + M) := by
  have h1 := h.dp
  have h2 := t.dp
  refine ⟨by simp [PyData.showableAll, h.ok, t.ok], ?_, by have := t.len; simp; omega, ?_⟩
  · simp only [PyData.depthAll]; omega
  · have := h.sz
    have := t.sz
    simp only [PyData.shownAll, List.map_cons, List.sum_cons]; omega
theorem Sm.tup {ds : List PyData} {dp n N : Nat} (h : SmAll ds dp n N) : Sm (.tuple ds) (dp + 1) (N + 2 * n + 3) := by
  refine ⟨by simpa [PyData.showable] using h.ok, by simp only [PyData.depth]; have := h.dp; omega, ?_⟩
  have e := tupleText_len_le (PyData.shownAll ds)
  have := h.sz
  have := h.len
  rw [shownAll_length] at e
  show (tupleText (PyData.shownAll ds)).length ≤ _
  omega
theorem Sm.lst {ds : List PyData} {dp n N : Nat} (h : SmAll ds dp n N) : Sm (.list ds) (dp + 1) (N + 2 * n + 3) := by
  refine ⟨by simpa [PyData.showable] using h.ok, by simp only [PyData.depth]; have := h.dp; omega, ?_⟩
  have e := listText_len_le (PyData.shownAll ds)
  have := h.sz
  have := h.len
  rw [shownAll_length] at e
  show (listText (PyData.shownAll ds)).length ≤ _
  omega
theorem SmAll.many {dp N : Nat} : ∀ {ds : List PyData}, (∀ d ∈ ds, Sm d dp N) → SmAll ds dp ds.length (N * ds.length)
  | [], _ => ⟨rfl, Nat.zero_le _, Nat.le_refl 0, Nat.zero_le _⟩
  | d :: ds, h => by
    have t := SmAll.cons (h d (by simp)) (SmAll.many (fun e he => h e (List.mem_cons_of_mem _ he)))
    rw [Nat.max_self] at t
    refine ⟨t.ok, t.dp, t.len, Nat.le_trans t.sz ?_⟩
    rw [List.length_cons, Nat.mul_succ]; omega
theorem sz_0 : (0 : Nat) ≤ sizeLine := by decide
theorem sz_1 : (1 : Nat) ≤ sizeLine := by decide
theorem sz_2 : (2 : Nat) ≤ sizeLine := by decide
theorem sz_3 : (3 : Nat) ≤ sizeLine := by decide
theorem sz_4 : (4 : Nat) ≤ sizeLine := by decide
theorem sz_5 : (5 : Nat) ≤ sizeLine := by decide
/-! ### the ends: each premise a fact that k_is finds -/
theorem HasFn.mk' {K : PySem.W.Frag} {x : Str} {st : Stmt} {f : Addr} {oc : Value} {od an : Option Addr} {kV doc pm cdv ct : Value} {osl : Array (Option Value)} (a : PySem.W.nsIn K mainGlobals x = some (some (.ref f)))
    (b : K.lookup f = some ⟨oc, od, .func (PySem.W.fnOf x x (defArgs st) (defBody st) (defScope st) .none kV doc pm an cdv ct), osl⟩) (c : PySem.W.codeIn K cdv x = true) (d : PySem.W.keepIn K (.ref f) = true) : HasFn K x st :=
  ⟨f, oc, od, an, kV, doc, pm, cdv, ct, osl, a, b, c, d⟩
theorem HasInt.mk' {K : PySem.W.Frag} {x : Str} {n m : Int} {t : Tok} (a : PySem.W.nsIn K mainGlobals x = some (some (.int m t))) (e : m = n) : HasInt K x n := ⟨t, m, a, e⟩
theorem HasTup.mk' {K : PySem.W.Frag} {x : Str} {xs : List V} {a : Addr} {od : Option Addr} {its : Array Value} {n : Nat} {sl : Array (Option Value)} (h : PySem.W.nsIn K mainGlobals x = some (some (.ref a)))
    (b : K.lookup a = some ⟨.type "tuple", od, .seq its n, sl⟩) (z : its.size ≤ sizeLine) (v : Vals xs its.toList) : HasTup K x xs := ⟨a, h, od, its, n, sl, b, z, v⟩
/-! ### what the laws' helpers promise -/
/-! the digits and the place -/
def BoxAt (H : Hp) (p dl : Addr) : Prop := ∃ (ds : List Int) (k : Int), H p = some (.lst [.ref dl, .int k]) ∧ 0 ≤ k ∧ H dl = some (.lst (ds.map V.int)) ∧ ds.length ≤ 4000 ∧ ∀ d ∈ ds, 0 ≤ d ∧ d < 1000
theorem BoxAt.at_ {H : Hp} {p dl : Addr} (h : BoxAt H p dl) : ∃ xs, H p = some (.lst xs) := let ⟨_, _, a, _⟩ := h; ⟨_, a⟩
theorem BoxAt.dg {H : Hp} {p dl : Addr} (h : BoxAt H p dl) : ∃ xs, H dl = some (.lst xs) := let ⟨_, _, _, _, c, _⟩ := h; ⟨_, c⟩
def Keep (p : Addr) (H H' : Hp) : Prop := ∀ b o, H b = some o → b ≠ p → H' b = some o
def spDraw (K : PySem.W.Frag) : Sp := fun vs H Q _ => ∃ (p dl : Addr) (m : Int), vs = [.ref p, .int m] ∧ BoxAt H p dl ∧ 0 < m ∧ ∀ r H', 0 ≤ r → r < m → BoxAt H' p dl → Keep p H H' → Q (.int r) H'
def spCell (K : PySem.W.Frag) : Sp := fun vs H Q _ => ∃ (a : Addr) (ns : List Int) (i : Int), vs = [.ref a, .int i] ∧ SqL K H a (ns.map V.int) ∧ 0 ≤ i ∧ ∀ r, Q (.int r) H
def DigAt (H0 H : Hp) (dl : Addr) (n : Nat) : Prop := ∃ ds : List Int, H dl = some (.lst (ds.map V.int)) ∧ ds.length ≤ n ∧ (∀ d ∈ ds, 0 ≤ d ∧ d < 1000) ∧ Same H0 H
theorem DigAt.mono {H0 H : Hp} {dl : Addr} {n m : Nat} (h : DigAt H0 H dl n) (l : n ≤ m) : DigAt H0 H dl m := let ⟨ds, a, b, c, d⟩ := h; ⟨ds, a, by omega, c, d⟩
theorem DigAt.add {H0 H : Hp} {dl : Addr} {n : Nat} {r : Int} {xs : List V} (h : DigAt H0 H dl n) (hx : H dl = some (.lst xs)) (nd : H0 dl = none) (h0 : 0 ≤ r) (h1 : r < 1000) : DigAt H0 (upd H dl (.lst (xs ++ [.int r]))) dl (n + 1) := by
  obtain ⟨ds, a, b, c, d⟩ := h
  rw [hx] at a
  obtain rfl := HO.lst.inj (Option.some.inj a)
  refine ⟨ds ++ [r], by rw [upd_same, List.map_append]; rfl, by simp; omega, fun z hz => ?_, fun q o e => by rw [upd_ne (ne_of_none e nd)]; exact d q o e⟩
  rcases List.mem_append.mp hz with hz | hz
  · exact c z hz
  · have : z = r := by simpa using hz
    omega
def spDigits (K : PySem.W.Frag) : Sp := fun vs H Q _ => ∃ (a : Addr) (ns : List Int) (lo hi : Nat), vs = [.ref a, .int lo, .int hi] ∧ SqL K H a (ns.map V.int) ∧ lo ≤ hi ∧ hi ≤ 64 ∧
  ∀ (p : Addr) (H' : Hp), H p = none → DigAt H H' p 4000 → Q (.ref p) H'
def spBound : Sp := fun vs H Q _ => vs = [] ∧ Q (.int (2 ^ 256)) H
theorem Keep.trans {p : Addr} {H H1 H2 : Hp} (a : Keep p H H1) (b : Keep p H1 H2) : Keep p H H2 := fun c o h ne => b c o (a c o h ne) ne
theorem Keep.refl (p : Addr) (H : Hp) : Keep p H H := fun _ _ h _ => h
def Sgn (z : Int) : Prop := z = 1 ∨ z = -1
theorem Sgn.mul {z n : Int} (h : Sgn z) : (z * n).natAbs = n.natAbs := by
  rcases h with rfl | rfl <;> omega
theorem Sgn.wide {z n : Int} (h : Sgn z) (hn : n.natAbs < 2 ^ 300) : CMulW z n := wide_mul (a := 2) (b := 300) (by rcases h with rfl | rfl <;> decide) hn (by decide) (by decide) (by decide)
def spNumber (K : PySem.W.Frag) : Sp := fun vs H Q _ => ∃ (p dl : Addr), vs = [.ref p] ∧ BoxAt H p dl ∧ ∀ (n : Int) H', n.natAbs < 2 ^ 260 → BoxAt H' p dl → Keep p H H' → Q (.int n) H'
def spSame (K : PySem.W.Frag) : Sp := fun vs H Q _ => ∃ (x y : V) (d : PyData), vs = [x, y] ∧ Dp K H x d ∧ Dp K H y d ∧ ShowOk d ∧ Q (.bl true) H
theorem Same.keep {p : Addr} {H H' : Hp} (e : Same H H') : Keep p H H' := fun b o h _ => e b o h
theorem BoxAt.same {p dl : Addr} {H H' : Hp} (h : BoxAt H p dl) (e : Same H H') : BoxAt H' p dl := by
  obtain ⟨ds, k, a, b, c, d⟩ := h
  exact ⟨ds, k, e _ _ a, b, e _ _ c, d⟩
theorem BoxAt.upd {p dl l : Addr} {H : Hp} {o : HO} (h : BoxAt H p dl) (h1 : l ≠ p) (h2 : l ≠ dl) : BoxAt (L2.upd H l o) p dl := by
  obtain ⟨ds, k, a, b, c, d⟩ := h
  exact ⟨ds, k, by rw [upd_ne (Ne.symm h1)]; exact a, b, by rw [upd_ne (Ne.symm h2)]; exact c, d⟩
theorem strOk (s : Str) (h : s.cps.toList.all (fun c => decide (c < 16 ^ 8)) = true) : ∀ c ∈ s.cps.toList, c < 16 ^ 8 := fun c hc => of_decide_eq_true (List.all_eq_true.mp h c hc)

/-! ### data without lists: what no change of a list can reach -/
mutual
inductive Dt (K : PySem.W.Frag) (H : Hp) : V → PyData → Prop
  | non : Dt K H .non .none
  | bl (b : Bool) : Dt K H (.bl b) (.bool b)
  | int (i : Int) : Dt K H (.int i) (.int i)
  | str (x : Str) : Dt K H (.str x) (.str x)
  | tup {a : Addr} {xs : List V} {ds : List PyData} : SqT K H a xs → DtAll K H xs ds → Dt K H (.ref a) (.tuple ds)
inductive DtAll (K : PySem.W.Frag) (H : Hp) : List V → List PyData → Prop
  | nil : DtAll K H [] []
  | cons {v : V} {vs : List V} {d : PyData} {ds : List PyData} : Dt K H v d → DtAll K H vs ds → DtAll K H (v :: vs) (d :: ds)
end
mutual
theorem Dt.dp {K : PySem.W.Frag} {H : Hp} : ∀ {v : V} {d : PyData}, Dt K H v d → Dp K H v d
  | _, _, .non => .non
  | _, _, .bl b => .bl b
  | _, _, .int i => .int i
  | _, _, .str x => .str x
  | _, _, .tup h a => .tup h (DtAll.dp a)
theorem DtAll.dp {K : PySem.W.Frag} {H : Hp} : ∀ {vs : List V} {ds : List PyData}, DtAll K H vs ds → DpAll K H vs ds
  | _, _, .nil => .nil
  | _, _, .cons h a => .cons (Dt.dp h) (DtAll.dp a)
end
/-- every tuple that H reads H' reads as well -/
def KeepT (K : PySem.W.Frag) (H H' : Hp) : Prop := ∀ a xs, SqT K H a xs → SqT K H' a xs
mutual
theorem Dt.keepT {K : PySem.W.Frag} {H H' : Hp} (e : KeepT K H H') : ∀ {v : V} {d : PyData}, Dt K H v d → Dt K H' v d
  | _, _, .non => .non
  | _, _, .bl b => .bl b
  | _, _, .int i => .int i
  | _, _, .str x => .str x
  | _, _, .tup h a => .tup (e _ _ h) (DtAll.keepT e a)
theorem DtAll.keepT {K : PySem.W.Frag} {H H' : Hp} (e : KeepT K H H') : ∀ {vs : List V} {ds : List PyData}, DtAll K H vs ds → DtAll K H' vs ds
  | _, _, .nil => .nil
  | _, _, .cons h a => .cons (Dt.keepT e h) (DtAll.keepT e a)
end
theorem KeepT.refl (K : PySem.W.Frag) (H : Hp) : KeepT K H H := fun _ _ h => h
theorem KeepT.trans {K : PySem.W.Frag} {H H1 H2 : Hp} (a : KeepT K H H1) (b : KeepT K H1 H2) : KeepT K H H2 := fun c xs h => b c xs (a c xs h)
theorem Same.keepT {K : PySem.W.Frag} {H H' : Hp} (e : Same H H') : KeepT K H H' := fun _ _ h => Same.tupl e h
theorem Keep.keepT {K : PySem.W.Frag} {p : Addr} {H H' : Hp} (e : Keep p H H') (hp : ∃ xs, H p = some (.lst xs)) : KeepT K H H' := fun a xs h => by
  obtain ⟨ys, hp⟩ := hp
  rcases h with (h | ⟨o, h⟩) | h
  · exact .inl (.inl (e _ _ h (ne_of h hp (by intro z; cases z))))
  · exact .inl (.inr ⟨o, e _ _ h (ne_of h hp (by intro z; cases z))⟩)
  · exact .inr h
theorem KeepT.upd {K : PySem.W.Frag} {p : Addr} {H : Hp} {o : HO} {xs : List V} (hp : H p = some (.lst xs)) : KeepT K H (upd H p o) :=
  Keep.keepT (p := p) (fun b u e hb => by rw [upd_ne hb]; exact e) ⟨xs, hp⟩
theorem Dt.mono {K : PySem.W.Frag} {H H' : Hp} {v : V} {d : PyData} (e : Same H H') (h : Dt K H v d) : Dt K H' v d := h.keepT (Same.keepT e)
theorem DtAll.mono {K : PySem.W.Frag} {H H' : Hp} {v : List V} {d : List PyData} (e : Same H H') (h : DtAll K H v d) : DtAll K H' v d := h.keepT (Same.keepT e)
theorem Dt.made {K : PySem.W.Frag} {H : Hp} {p : Addr} {xs : List V} {ds : List PyData} (hp : H p = none) (h : DtAll K H xs ds) : Dt K (L2.upd H p (.tup xs)) (.ref p) (.tuple ds) := .tup (SqT.of upd_same) (DtAll.mono (Same.new hp) h)
theorem DtAll.length {K : PySem.W.Frag} {H : Hp} {vs : List V} {ds : List PyData} (h : DtAll K H vs ds) : vs.length = ds.length := LK.DpAll.length h.dp
theorem DtAll.app {K : PySem.W.Frag} {H : Hp} : ∀ {vs ws : List V} {ds es : List PyData}, DtAll K H vs ds → DtAll K H ws es → DtAll K H (vs ++ ws) (ds ++ es)
  | _, _, _, _, .nil, t => t
  | _, _, _, _, .cons h a, t => .cons h (DtAll.app a t)
theorem DtAll.get {K : PySem.W.Frag} {H : Hp} : ∀ {vs : List V} {ds : List PyData} {i : Nat} {d : PyData}, DtAll K H vs ds → ds[i]? = some d → ∃ v, vs[i]? = some v ∧ Dt K H v d
  | _, _, 0, _, .cons h _, e => ⟨_, rfl, Option.some.inj e ▸ h⟩
  | _, _, i + 1, _, .cons _ a, e => DtAll.get (i := i) a e
theorem DtAll.getV {K : PySem.W.Frag} {H : Hp} : ∀ {vs : List V} {ds : List PyData} {i : Nat} {v : V}, DtAll K H vs ds → vs[i]? = some v → ∃ d, ds[i]? = some d ∧ Dt K H v d
  | _, _, 0, _, .cons h _, e => ⟨_, rfl, Option.some.inj e ▸ h⟩
  | _, _, i + 1, _, .cons _ a, e => DtAll.getV (i := i) a e
theorem Dt.tuple_inv {K : PySem.W.Frag} {H : Hp} {v : V} {ds : List PyData} (h : Dt K H v (.tuple ds)) : ∃ a xs, v = .ref a ∧ SqT K H a xs ∧ DtAll K H xs ds := by
  cases h with
  | tup h a => exact ⟨_, _, rfl, h, a⟩
theorem DtAll.cons_inv {K : PySem.W.Frag} {H : Hp} {vs : List V} {d : PyData} {ds : List PyData} (h : DtAll K H vs (d :: ds)) : ∃ v ws, vs = v :: ws ∧ Dt K H v d ∧ DtAll K H ws ds := by
  cases h with
  | cons h a => exact ⟨_, _, rfl, h, a⟩
theorem DtAll.nil_inv {K : PySem.W.Frag} {H : Hp} {vs : List V} (h : DtAll K H vs []) : vs = [] := by cases h; rfl
theorem Dt.int_inv {K : PySem.W.Frag} {H : Hp} {v : V} {i : Int} (h : Dt K H v (.int i)) : v = .int i := by cases h; rfl
theorem Dt.str_inv {K : PySem.W.Frag} {H : Hp} {v : V} {x : Str} (h : Dt K H v (.str x)) : v = .str x := by cases h; rfl
theorem Dt.bool_inv {K : PySem.W.Frag} {H : Hp} {v : V} {b : Bool} (h : Dt K H v (.bool b)) : v = .bl b := by cases h; rfl
theorem dtStrs {K : PySem.W.Frag} {H : Hp} : ∀ xs : List Str, DtAll K H (xs.map V.str) (xs.map PyData.str)
  | [] => .nil
  | x :: xs => .cons (.str x) (dtStrs xs)
end LK

set_option Elab.async false
set_option linter.all false
set_option maxRecDepth 100000
set_option maxHeartbeats 4000000
/-! enumerate of a tuple. -/
namespace LK
open PySem PySem.Spec PyProof.Rows L2
open AutoSeq1 (wpAny_loadPart')
open Sem (wp)
def enumObj (it : Addr) : Obj := { cls := .type "enumerate", data := .fields #[.none, .bool false, .ref it, rawInt 0, .none, .none] }
def tupIt (t : Addr) : Obj := { cls := .type "tuple_iterator", data := .fields #[.ref t, .int 0 0] }
theorem meets_enumT (t : Addr) (items : Array Value) (n : Nat) (dct : Option Addr) (sl : Array (Option Value)) :
    Meets (Builtin.«enumerate.__new__» ⟨[.type "enumerate", .ref t], []⟩) (fun _ R s => s.heap.get? t = some { cls := .type "tuple", dict := dct, data := .seq items n, slots := sl } ∧
      R (.ok (.ret (.ref (s.heap.push (tupIt t)).objs.size))) { s with heap := (s.heap.push (tupIt t)).push (enumObj s.heap.objs.size) }) :=
  .of_wp fun prog w A R s h => by
    obtain ⟨hp, g, d, tk, os⟩ := s
    obtain ⟨hl, h⟩ := h
    have hsub := sub_enumerate
    have hT : Heap.IsTuple (Shared.heap ⟨hp, g, d, tk, os⟩) t items := ⟨_, hl, rfl, n, rfl⟩
    wp_walk using wpAny_loadPart' hl
    refine wpAny_stack_any fun st => wpAny_pure ?_
    split
    · rename_i c _ _ _ _ _
      cases (c == Value.type "enumerate") <;> (wp_walk using wpAny_loadPart' hl, wpAny_pyIter_tuple hT; exact ⟨_, rfl, h⟩)
    · wp_walk using wpAny_loadPart' hl, wpAny_pyIter_tuple hT
      exact ⟨_, rfl, h⟩
section
variable {prog : Program} {w : World} {A : Around} {E : Value → Shared → Prop} {s : Shared}
theorem call_enumT {t : Addr} {items : Array Value} {Q : Value → Shared → Prop} (hT : s.heap.IsTuple t items)
    (h : ∀ h', IsEnum h' (s.heap.objs.size + 1) s.heap.objs.size 0 .none → h'.IsTupleIter s.heap.objs.size t 0 → (∀ b o, s.heap.get? b = some o → h'.get? b = some o) → Q (.ref (s.heap.objs.size + 1)) { s with heap := h' }) :
    wpAny (model prog w) A (call (.type "enumerate") [.ref t]) Q E s := by
  obtain ⟨⟨c, dct, dt, sl⟩, hl, hc, n, hd⟩ := hT
  obtain rfl : c = .type "tuple" := hc
  obtain rfl : dt = .seq items n := hd
  refine callType_new F.called_enumerate (by decide) (F.typeCall_enumerate_1 _) (F.newCall_enumerate_1 _) (fun obj => F.args_object_init_2 obj _) F.entry_enumerate_new (meets_enumT t items n dct sl) ⟨hl, ?_⟩
  have hz : (s.heap.push (tupIt t)).objs.size = s.heap.objs.size + 1 := Heap.size_push ..
  have he : IsEnum ((s.heap.push (tupIt t)).push (enumObj s.heap.objs.size)) (s.heap.objs.size + 1) s.heap.objs.size 0 .none := by
    have q := Heap.get?_push_size (s.heap.push (tupIt t)) (o := enumObj s.heap.objs.size) rfl
    rw [hz] at q
    exact q
  show _ ∧ _
  rw [hz]
  exact ⟨⟨_, he, rfl⟩, h _ he (Heap.get?_push_of_some _ (Heap.get?_push_size _ rfl) |> fun q => ⟨_, q, rfl, rfl⟩) fun b o x => Heap.get?_push_of_some _ (Heap.get?_push_of_some _ x)⟩
end
/-- the tuple at a, each item in a new pair with its place -/
def IteT (K : PySem.W.Frag) (a : Addr) : It where
  go := fun i H => ∃ (xs : List V) (x : V), SqT K H a xs ∧ xs[i]? = some x
  yld := fun i H v H' => ∃ T x, v = .ref T ∧ H T = none ∧ H' = upd H T (.tup [.int (i : Nat), x]) ∧ ∀ xs, SqT K H a xs → xs[i]? = some x
  stop := fun i H => ∃ xs : List V, SqT K H a xs ∧ xs.length = i
theorem turn_enumT {P : Program} {w : World} {K : PySem.W.Frag} {elts : List Expr} {kk : Nat} {tpos : Pos} (a e it : Addr) :
    Turn P w K (.Tuple elts kk tpos) (IteT K a) [e, it] e (fun i h => (∃ old, IsEnum h e it ((i : Nat) : Int) old) ∧ h.IsTupleIter it a i ∧ e ≠ it) where
  mem := List.mem_cons_self
  obj := fun i h st b hb => by
    obtain ⟨⟨old, he⟩, ⟨o, ho, hc, hd⟩, _⟩ := st
    have hb : b = e ∨ b = it := by simpa using hb
    rcases hb with rfl | rfl
    · exact ⟨_, he, fun v q => nomatch q⟩
    · exact ⟨o, ho, fun v q => by rw [hd] at q; cases q⟩
  keep := fun i h h' st k => by
    obtain ⟨⟨old, he⟩, hi, hne⟩ := st
    exact ⟨⟨old, k e (by simp) _ he⟩, hi.at fun o q => k it (by simp) o q, hne⟩
  item := by
    intro X hP hw hK hc i pins s σ H E I hf st hg
    subst hP hw hK
    obtain ⟨⟨old, he⟩, hit, hne⟩ := st
    obtain ⟨xs, x, hq, hx⟩ := hg
    obtain ⟨its, rv, p, hz⟩ := I.tuple hq
    obtain ⟨u, hu, ru⟩ := rv.get hx
    have hel : e < s.heap.objs.size := Heap.lt_size he
    have hil : it < s.heap.objs.size := by obtain ⟨_, q, _⟩ := hit; exact Heap.lt_size q
    have hat : a ≠ it := by
      intro z
      subst z
      obtain ⟨o, q1, c1, _⟩ := hit
      obtain ⟨o', q2, c2, _⟩ := p
      rw [q1] at q2; cases q2
      exact absurd (Value.type.inj (c1.symm.trans c2)) (by decide)
    have D := Draws.tuple (prog := X.prog) (w := X.w) (A := X.A.in1) (I.ok.hd hc) it a hat its.toArray
    have Dst : (fun i (h : Heap) => h.IsTupleIter it a i ∧ h.IsTuple a its.toArray) i s.heap := ⟨hit, p⟩
    have eat : e ≠ a := by
      intro z
      subst z
      obtain ⟨o', q2, c2, _⟩ := p
      rw [he] at q2; cases q2
      exact absurd (Value.type.inj c2) (by decide)
    have hi : i < its.toArray.size := by
      have := (List.getElem?_eq_some_iff.mp hu).1
      simpa using this
    refine wpAny_pyNext_enum_itemD D he Dst hi hne (by simp [hne, eat]) fun v h' tk hv ho hst hT hsz hk => ?_
    obtain rfl : v = u := by
      have hv : its.toArray[i]? = some v := hv
      rw [show its.toArray[i]? = some u by simpa using hu] at hv
      exact (Option.some.inj hv).symm
    refine ⟨_, rfl, wpAny_letOwnedTupleGo_enum (s := { s with heap := h', toks := tk + 1 }) ho fun h'' he' sb => ?_⟩
    have hT2 := (sb.2 _ (Nat.ne_of_gt hel)).trans hT
    have new : ObjOk X.prog X.w (upd H s.heap.objs.size (.tup [.int (i : Nat), x])) h'' s.heap.objs.size (.tup [.int (i : Nat), x]) :=
      ⟨by show 2 ≤ sizeLine; decide, [.int i tk, v], .cons ⟨_, rfl⟩ (.cons ru .nil), ⟨_, hT2, rfl, _, rfl⟩⟩
    have I1 : Inv X pins σ (upd H s.heap.objs.size (.tup [.int (i : Nat), x])) { s with heap := h'', toks := tk + 1 } :=
      I.turnedNew (ch := [e, it]) (fun b ob hb q => (sb.2 b (fun z => hb (by simp [z]))).trans (hk b ob (fun z => hb (by simp [z])) (fun z => hb (by simp [z])) q)) hf (Nat.le_refl _) new
    refine ⟨.ref s.heap.objs.size, _, I1, rfl, ⟨_, x, rfl, I.hok.fresh (Nat.le_refl _), rfl, fun ys hy => by rw [I.tuple_inj hy hq]; exact hx⟩, ⟨⟨v, ?_⟩, hst.1.at fun o q => (sb.2 it (Ne.symm hne)).trans q, hne⟩, fun b hb => ?_⟩
    · rw [show ((i + 1 : Nat) : Int) = (i : Int) + 1 by omega]
      exact he'
    · have hb' : b < s.heap.objs.size := by
        have z : b = e ∨ b = it := by simpa using hb
        rcases z with rfl | rfl <;> assumption
      rw [upd_ne (Nat.ne_of_lt hb')]
      exact (hf b hb).1
  done := by
    intro X hP hw hK hc i pins s σ H E I hf st hg
    subst hP hw hK
    obtain ⟨⟨old, he⟩, hit, hne⟩ := st
    obtain ⟨xs, hq, hx⟩ := hg
    obtain ⟨its, rv, p, hz⟩ := I.tuple hq
    obtain ⟨f0, f1, f2, f3, f4, f5⟩ := hf it (by simp)
    have hl := rv.length
    have hat : a ≠ it := by
      intro z
      subst z
      obtain ⟨o, q1, c1, _⟩ := hit
      obtain ⟨o', q2, c2, _⟩ := p
      rw [q1] at q2; cases q2
      exact absurd (Value.type.inj (c1.symm.trans c2)) (by decide)
    have D := Draws.tuple (prog := X.prog) (w := X.w) (A := X.A.in1) (I.ok.hd hc) it a hat its.toArray
    have hn : i = its.toArray.size := by simp; omega
    subst hn
    exact wpAny_pyNext_enum_endD D he ⟨hit, p⟩ fun h' eb => ⟨rfl, I.turned (t' := s.toks) (fun b o hb q => eb b o hb q) f0 f1 f3 f4 f5⟩
  self := fun A i s Q E st h => let ⟨⟨_, he⟩, _⟩ := st; wpAny_pyIter_enum he h
def iEnumT (K : PySem.W.Frag) (ta : TA) : TI := fun σ H R => ta σ H fun vs H1 => ∃ a xs, vs = [.ref a] ∧ SqT K H1 a xs ∧ R (IteT K a) H1
theorem pi_enumT {X : Cx} {e : Expr} {ta : TA} {p pos tpos : Pos} {elts : List Expr} {kk : Nat} (hg : Gl X "enumerate") (hm : X.mg "enumerate" = none) (ha : PA X [e] ta) (hs : starEach [e] X.env = [(false, eval e X.env)] := by rfl) :
    PI X (.Tuple elts kk tpos) (.Call (.Name "enumerate" p) [e] [] pos) (iEnumT X.K ta) := by
  refine ⟨fun pins s σ H R I h => ?_⟩
  refine Call_ (ld_blt I hg hm boot_enumerate (PyProof.Rows.callWith_type1 (thn (ha.run pos pins s σ H _ I h) fun us s1 ⟨vs, H1, I1, r1, q1⟩ => ?_) hs rfl))
  obtain ⟨a, xs, rfl, hq, q⟩ := q1
  cases r1 with
  | cons r rr =>
    cases rr
    cases r
    obtain ⟨its, rv, p', hz⟩ := I1.tuple hq
    refine call_enumT (show s1.heap.IsTuple a its.toArray from p') fun h' he hit hk => wpAny_pyIter_enum he ?_
    refine ⟨s1.heap.objs.size + 1, [s1.heap.objs.size + 1, s1.heap.objs.size], _, _, H1, rfl, I1.kept (t' := s1.toks) hk, turn_enumT a (s1.heap.objs.size + 1) s1.heap.objs.size, ⟨⟨.none, he⟩, hit, Nat.succ_ne_self _⟩, fun b hb => ?_, q⟩
    have hle : s1.heap.objs.size ≤ b := by
      have z : b = s1.heap.objs.size + 1 ∨ b = s1.heap.objs.size := by simpa using hb
      rcases z with rfl | rfl <;> omega
    exact I1.fpOk hle (I1.hok.fresh hle)
theorem walk_enumT {K : PySem.W.Frag} {a : Addr} {xs : List V} : Walk (IteT K a) xs.length (fun H => SqT K H a xs) (YPair (fun i => some (.int (i : Nat))) (fun i => xs[i]?)) := by
  refine ⟨fun i _ hi q => ⟨xs, xs[i], q, by simp [hi]⟩, fun _ q => ⟨xs, q, rfl⟩, fun i H v H' _ q y => ?_⟩
  obtain ⟨T, x, h1, h2, h3, h4⟩ := y
  exact ⟨T, .int (i : Nat), x, h1, h2, h3, rfl, h4 xs q⟩

/-! ### comprehensions whose items are data -/
theorem tYes_of {σ : L2.St} {H : Hp} {P R : Hp → Prop} (h : P H) : tYes σ H fun b H3 => if b = true then P H3 else R H3 := by
  show (if true = true then P H else R H)
  rw [if_pos rfl]
  exact h
/-- each turn gives data and leaves what stood; no test -/
theorem lc_dt {K : PySem.W.Frag} {J : It} {n : Nat} {G : Hp → Prop} {Y : Nat → Hp → V → Hp → Prop} (w : Walk J n G Y) {g : TG} {te : TE} {vs : List Nat} {σ : L2.St} {H : Hp} {D : Addr} {Qd : Hp → Prop} (hD : H D = none) (ds : List PyData) (hn : ds.length = n) (hz : n < sizeLine)
    (hG : ∀ H', Same H H' → G H')
    (hs : ∀ i x H1 H2 d (Nx : V → Hp → Prop), i < n → ds[i]? = some d → Same H H1 → (∃ acc, H1 D = some (.lst acc)) → Y i H1 x H2 → (∀ y H5, Same H1 H5 → Dt K H5 y d → Nx y H5) →
      g x (wipe σ vs) H2 fun σ2 H3 => wipe σ2 vs = wipe σ vs ∧ te σ2 H3 Nx)
    (hd : ∀ H' acc, Same H H' → H' D = some (.lst acc) → DtAll K H' acc ds → Qd H')
    (mono : ∀ x σ H Q Q', (∀ σ' H', Q σ' H' → Q' σ' H') → g x σ H Q → g x σ H Q') :
    ∃ W : Nat → Nat → Hp → Prop, (∃ m, W 0 m (upd H D (.lst []))) ∧ ∀ i m H, W i m H →
      (J.stop i H ∧ Qd H) ∨ (J.go i H ∧ ∃ Nx : Hp → Prop, (∀ H', Nx H' → ∃ m', m' < m ∧ W (i + 1) m' H') ∧ ∀ x H', J.yld i H x H' → g x (wipe σ vs) H' fun σ2 H2 => wipe σ2 vs = wipe σ vs ∧ tYes σ2 H2 fun b H3 =>
        if b = true then te σ2 H3 fun y H4 => ∃ acc, H4 D = some (.lst acc) ∧ acc.length < sizeLine ∧ Nx (upd H4 D (.lst (acc ++ [y]))) else Nx H3) := by
  refine lc_it w (fun i H' => ∃ acc, H' D = some (.lst acc) ∧ DtAll K H' acc (ds.take i) ∧ Same H H') ⟨[], upd_same, .nil, Same.new hD⟩ (fun i H' _ h => let ⟨_, _, _, s⟩ := h; hG H' s) (fun i x H1 H2 hi h y => ?_) fun H' h => ?_
  · obtain ⟨acc, a1, a2, a3⟩ := h
    have hi' : i < ds.length := by omega
    have hg := hs i x H1 H2 ds[i] (fun y H4 => ∃ acc, H4 D = some (.lst acc) ∧ acc.length < sizeLine ∧ ∃ acc', upd H4 D (.lst (acc ++ [y])) D = some (.lst acc') ∧ DtAll K (upd H4 D (.lst (acc ++ [y]))) acc' (ds.take (i + 1)) ∧ Same H (upd H4 D (.lst (acc ++ [y]))))
      hi (List.getElem?_eq_getElem hi') a3 ⟨acc, a1⟩ y fun y H5 s hy => ?_
    · exact mono _ _ _ _ _ (fun σ2 H3 q => ⟨q.1, tYes_of q.2⟩) hg
    · have b1 := s _ _ a1
      have kt : KeepT K H5 (upd H5 D (.lst (acc ++ [y]))) := KeepT.upd b1
      refine ⟨acc, b1, ?_, _, upd_same, ?_, fun b o e => ?_⟩
      · rw [a2.length, List.length_take]; omega
      · rw [List.take_succ, List.getElem?_eq_getElem hi']
        exact DtAll.app (DtAll.keepT (KeepT.trans (Same.keepT s) kt) a2) (.cons (Dt.keepT kt hy) .nil)
      · rw [upd_ne (ne_of_none e hD)]
        exact s _ _ (a3 _ _ e)
  · obtain ⟨acc, a1, a2, a3⟩ := h
    rw [← hn, List.take_length] at a2
    exact hd H' acc a3 a1 a2
theorem mono_name {i : Nat} : ∀ x (σ : L2.St) (H : Hp) (Q Q' : L2.St → Hp → Prop), (∀ σ' H', Q σ' H' → Q' σ' H') → gName i x σ H Q → gName i x σ H Q' := fun _ _ _ _ _ h q => h _ _ q
theorem mono_tup2 {K : PySem.W.Frag} {i j n : Nat} : ∀ x (σ : L2.St) (H : Hp) (Q Q' : L2.St → Hp → Prop), (∀ σ' H', Q σ' H' → Q' σ' H') → gTup K n (gCons (gName i) (gCons (gName j) gNil)) x σ H Q → gTup K n (gCons (gName i) (gCons (gName j) gNil)) x σ H Q' := by
  rintro x σ H Q Q' h ⟨a, xs, e1, e2, e3, v, r, e4, v', r', e5, e6, q⟩
  exact ⟨a, xs, e1, e2, e3, v, r, e4, v', r', e5, e6, h _ _ q⟩
end LK

set_option Elab.async false
set_option linter.all false
set_option maxRecDepth 100000
set_option maxHeartbeats 4000000
set_option exponentiation.threshold 3000
/-! More rules: text * int, two rules at one place, what == says of data. -/
namespace LK
open PySem PySem.Spec PyProof.Rows L2
theorem at_of' {α : Type} {xs : List α} {z : Int} {j : Nat} {v : α} (e : z = (j : Int)) (h : xs[j]? = some v) : atI xs z = some v := by
  rw [e]
  exact atI_nat h
/-- z repeated k times, by its codes -/
def repC (z : List Nat) (k : Int) : List Nat := (List.replicate k.toNat z).flatten
def repS (z : Str) (k : Int) : Str := ⟨(repC z.cps.toList k).toArray⟩
theorem repC_length (z : List Nat) (k : Int) : (repC z k).length = k.toNat * z.length := by simp [repC]
theorem foldl_arr (z : Array Nat) : ∀ (n : Nat) (acc : Array Nat), (List.replicate n z).foldl (· ++ ·) acc = acc ++ (List.replicate n z.toList).flatten.toArray
  | 0, acc => by simp
  | n + 1, acc => by
    rw [List.replicate_succ, List.foldl_cons, foldl_arr z n, List.replicate_succ, List.flatten_cons]
    apply Array.ext'
    simp
def rRepS : R2 := fun x y H Q => ∃ (z : Str) (k : Int), x = .str z ∧ y = .int k ∧ -1000000000000 ≤ k ∧ k < 1000000000000 ∧ z.length * k.toNat ≤ 1000000 ∧ Q (.str (repS z k)) H
theorem repS_arr (z : Str) (k : Int) : (⟨(List.replicate k.toNat z.cps).foldl (· ++ ·) #[]⟩ : Str) = repS z k := by
  rw [foldl_arr]
  simp [repS, repC]
theorem op_rep_str {X : Cx} : OpR X (binaryOp .Mult) rRepS := by
  intro pins s σ H x y v u Q I rx ry h
  obtain ⟨z, k, rfl, rfl, h1, h2, h3, q⟩ := h
  obtain ⟨t, rfl⟩ := rx
  obtain ⟨t', rfl⟩ := ry
  have szl : (1000000 : Nat) ≤ sizeLine := by decide
  have e1 : ¬ k < 1 → k = (k.toNat : Int) := fun h => by omega
  refine PySem.P.mul_str ?_ (fun hk hz => ?_) (fun hk hz => ?_) ?_
  · rw [decide_eq_false (by omega), decide_eq_false (by omega)]; rfl
  · have e0 : z.length ≠ 0 := fun e => by rw [e] at hz; simp at hz
    have hd : (9223372036854775807 : Int) / k ≥ 1000000 := by
      apply Int.le_ediv_of_mul_le (by omega)
      have hlen : k.toNat ≤ 1000000 := Nat.le_trans (Nat.le_mul_of_pos_left _ (by omega)) h3
      omega
    have hl : z.length ≤ 1000000 := Nat.le_trans (Nat.le_mul_of_pos_right _ (by omega)) h3
    show ¬ ((z.length : Int) > 9223372036854775807 / k)
    omega
  · unfold Builtin.Str.tooLong
    simp
    omega
  · split
    · rename_i hk
      have e : repS z k = Str.empty := by
        have : k.toNat = 0 := by omega
        simp [repS, repC, this]; rfl
      refine ⟨by decide, .str _, H, I.tok _, ⟨_, rfl⟩, ?_⟩
      rw [← e]; exact q
    · rename_i hk
      split
      · rename_i hz
        have e : repS z k = z := by
          rcases Bool.or_eq_true_iff.mp hz with h | h
          · have : k = 1 := by simpa using h
            subst this
            simp [repS, repC]
          · have : z.cps.toList = [] := by
              have : z.cps.size = 0 := by simpa [Str.length] using h
              exact List.eq_nil_of_length_eq_zero (by simpa using this)
            have e2 : (List.replicate k.toNat ([] : List Nat)).flatten = [] := by simp
            unfold repS repC
            rw [this, e2]
            cases z with
            | mk c =>
              have : c = #[] := Array.toList_inj.mp (by simpa using this)
              subst this; rfl
        refine ⟨.str _, H, I, ⟨t, rfl⟩, ?_⟩
        rw [← e]; exact q
      · rw [repS_arr]
        refine ⟨?_, .str _, H, I.tok _, ⟨_, rfl⟩, q⟩
        show (repC z.cps.toList k).toArray.size ≤ sizeLine
        rw [List.size_toArray, repC_length]
        have : z.cps.toList.length = z.length := by simp [Str.length]
        rw [this, Nat.mul_comm]; omega
/-! ### the objects at the beginning -/
def clsNames : List Str := ["Exception", "ArithmeticError", "ZeroDivisionError", "OverflowError", "LookupError", "IndexError", "KeyError", "NameError", "AttributeError", "TypeError", "ValueError", "StopIteration", "RuntimeError", "RecursionError", "MemoryError", "HostError"]
def clsBases : List Int := [-1, 1, 2, 2, 1, 5, 5, 1, 1, 1, 1, 1, 1, 13, 1, 1]
def builtNames : List Str := ["print", "len", "range", "repr", "str", "int", "list", "tuple", "dict", "iter", "next", "isinstance", "abs"]
def clsVar (i : Nat) (n : Str) : PyData := .tuple [.str n, .tuple [.str "ref", .int ((i : Int) + 1)]]
def nameVar (k n : Str) : PyData := .tuple [.str n, .tuple [.str k, .str n]]
def clsObj (n : Str) (b : Int) : PyData := .tuple [.str "class", .str n, .int b, .tuple []]
def clsVars : List PyData := clsNames.mapIdx clsVar
def startVars (hs : List Str) : List PyData := clsVars ++ builtNames.map (nameVar "built") ++ hs.map (nameVar "host")
def startD (hs : List Str) : List PyData := .tuple [.str "scope", .tuple (startVars hs), .tuple [], .tuple [], .int (-1), .bool false] :: List.zipWith clsObj clsNames clsBases
/-- a list at p, of the data ds -/
def ListAt (K : PySem.W.Frag) (H : Hp) (p : Addr) (ds : List PyData) : Prop := ∃ xs, H p = some (.lst xs) ∧ DtAll K H xs ds
def spStart (K : PySem.W.Frag) : Sp := fun vs H Q _ => ∃ (t : Addr) (hs : List Str), vs = [.ref t] ∧ SqT K H t (hs.map V.str) ∧ hs.length ≤ 1000 ∧
  ∀ (p : Addr) (H' : Hp), H p = none → Same H H' → ListAt K H' p (startD hs) → Q (.ref p) H'
theorem at0 {α : Type} {x : α} {ws : List α} : atI (x :: ws) 0 = some x := at_of' (j := 0) rfl rfl
theorem at1 {α : Type} {x y : α} {ws : List α} : atI (x :: y :: ws) 1 = some y := at_of' (j := 1) rfl rfl
theorem at2 {α : Type} {x y z : α} {ws : List α} : atI (x :: y :: z :: ws) 2 = some z := at_of' (j := 2) rfl rfl
/-- a written pair, triple as it is read -/
theorem Dt.head {K : PySem.W.Frag} {H : Hp} {v : V} {z : Str} {rest : List PyData} (h : Dt K H v (.tuple (.str z :: rest))) : ∃ a ws, v = .ref a ∧ SqT K H a (.str z :: ws) ∧ DtAll K H ws rest := by
  obtain ⟨q, xs, rfl, hs, ha⟩ := h.tuple_inv
  obtain ⟨x, ws, rfl, h1, hw⟩ := ha.cons_inv
  cases h1.str_inv
  exact ⟨q, ws, rfl, hs, hw⟩
theorem Dt.pair {K : PySem.W.Frag} {H : Hp} {v : V} {z : Str} {d : PyData} (h : Dt K H v (.tuple [.str z, d])) : ∃ a x, v = .ref a ∧ SqT K H a [.str z, x] ∧ Dt K H x d := by
  obtain ⟨a, ws, rfl, hs, hw⟩ := h.head
  obtain ⟨x, ws', rfl, h1, hn⟩ := hw.cons_inv
  cases hn.nil_inv
  exact ⟨a, x, rfl, hs, h1⟩
theorem Dt.triple {K : PySem.W.Frag} {H : Hp} {v : V} {z : Str} {d e : PyData} (h : Dt K H v (.tuple [.str z, d, e])) : ∃ a x y, v = .ref a ∧ SqT K H a [.str z, x, y] ∧ Dt K H x d ∧ Dt K H y e := by
  obtain ⟨a, ws, rfl, hs, hw⟩ := h.head
  obtain ⟨x, ws', rfl, h1, hn⟩ := hw.cons_inv
  obtain ⟨y, ws'', rfl, h2, hn2⟩ := hn.cons_inv
  cases hn2.nil_inv
  exact ⟨a, x, y, rfl, hs, h1, h2⟩
theorem listAt_mono {K : PySem.W.Frag} {H H' : Hp} {p : Addr} {ds : List PyData} (h : ListAt K H p ds) (e : Same H H') : ListAt K H' p ds := by
  obtain ⟨xs, hx, ax⟩ := h
  exact ⟨xs, e _ _ hx, DtAll.mono e ax⟩
theorem eqv_nil (ds : List PyData) : PyData.eqv (.tuple ds) (.tuple []) = ds.isEmpty := by
  cases ds <;> simp [PyData.eqv, PyData.eqvAll]
theorem listAt_upd {K : PySem.W.Frag} {H : Hp} {l l' : Addr} {ds : List PyData} {xs : List V} {o : HO} (h : ListAt K H l ds) (ne : l ≠ l') (hl : H l' = some (.lst xs)) : ListAt K (upd H l' o) l ds := by
  obtain ⟨ys, hy, ay⟩ := h
  exact ⟨ys, by rw [upd_ne ne]; exact hy, DtAll.keepT (KeepT.upd hl) ay⟩
theorem listAt_app {K : PySem.W.Frag} {H : Hp} {l : Addr} {ds : List PyData} {xs : List V} {v : V} {d : PyData} (h : ListAt K H l ds) (hl : H l = some (.lst xs)) (hd : Dt K H v d) : ListAt K (upd H l (.lst (xs ++ [v]))) l (ds ++ [d]) := by
  obtain ⟨ys, hy, ay⟩ := h
  rw [hl] at hy
  obtain rfl := HO.lst.inj (Option.some.inj hy)
  exact ⟨_, upd_same, DtAll.app (DtAll.keepT (KeepT.upd hl) ay) (.cons (Dt.keepT (KeepT.upd hl) hd) .nil)⟩
theorem listAt_keep {K : PySem.W.Frag} {H H' : Hp} {l p : Addr} {ds : List PyData} (h : ListAt K H l ds) (e : Keep p H H') (ne : l ≠ p) (hp : ∃ xs, H p = some (.lst xs)) : ListAt K H' l ds := by
  obtain ⟨ys, hy, ay⟩ := h
  exact ⟨ys, e _ _ hy ne, DtAll.keepT (Keep.keepT e hp) ay⟩
theorem listAt_made {K : PySem.W.Frag} {H : Hp} {l : Addr} {xs : List V} {ds : List PyData} (hl : H l = none) (h : DtAll K H xs ds) : ListAt K (upd H l (.lst xs)) l ds := ⟨xs, upd_same, DtAll.mono (Same.new hl) h⟩
/-! how long the objects at the beginning are, shown -/
def shortS (n : Str) : Bool := decide (n.length ≤ 40) && n.cps.toList.all (fun c => decide (c < 16 ^ 8))
theorem Sm.short {n : Str} (h : shortS n = true) : Sm (.str n) 0 500 := by
  obtain ⟨h1, h2⟩ := Bool.and_eq_true_iff.mp h
  exact (Sm.str (of_decide_eq_true h1) (strOk n h2)).mono (by decide) (by decide)
theorem cls_short : ∀ n ∈ clsNames, shortS n = true := by decide +kernel
theorem built_short : ∀ n ∈ builtNames, shortS n = true := by decide +kernel
theorem Sm.nm {k n : Str} (hk : shortS k = true) (hn : shortS n = true) : Sm (nameVar k n) 3 4000 :=
  (Sm.tup (.cons (Sm.short hn) (.cons (Sm.tup (.cons (Sm.short hk) (.cons (Sm.short hn) .nil))) .nil))).mono (by decide) (by decide)
theorem Sm.cv {i : Nat} {n : Str} (hi : i < 1000) (hn : shortS n = true) : Sm (clsVar i n) 3 4000 :=
  (Sm.tup (.cons (Sm.short hn) (.cons (Sm.tup (.cons (Sm.short (n := "ref") (by decide +kernel)) (.cons (Sm.int (Nat.lt_of_lt_of_le (show ((i : Int) + 1).natAbs < 2 ^ 20 by omega) (Nat.pow_le_pow_right (by decide) (by decide)))) .nil))) .nil))).mono (by decide) (by decide)
theorem Sm.co {b : Int} {n : Str} (hb : b.natAbs < 1000) (hn : shortS n = true) : Sm (clsObj n b) 3 4000 :=
  (Sm.tup (.cons (Sm.short (n := "class") (by decide +kernel)) (.cons (Sm.short hn) (.cons (Sm.int (Nat.lt_of_lt_of_le (show b.natAbs < 2 ^ 20 by omega) (Nat.pow_le_pow_right (by decide) (by decide)))) (.cons (Sm.tup .nil) .nil))))).mono (by decide) (by decide)
theorem SmAll.mem {ds : List PyData} {dp n N m M : Nat} (h : SmAll ds dp n N) (h1 : n ≤ m) (h2 : N ≤ M) : SmAll ds dp m M := ⟨h.ok, h.dp, Nat.le_trans h.len h1, Nat.le_trans h.sz h2⟩
theorem sm_vars {hs : List Str} {L : Nat} (h : ∀ n ∈ hs, shortS n = true) (hl : hs.length ≤ L) : SmAll (startVars hs) 3 (29 + L) (4000 * (29 + L)) := by
  have h1 : ∀ d ∈ startVars hs, Sm d 3 4000 := fun d hd => by
    rcases List.mem_append.mp hd with hd | hd
    · rcases List.mem_append.mp hd with hd | hd
      · obtain ⟨i, hi, rfl⟩ := List.mem_mapIdx.mp hd
        exact Sm.cv (Nat.lt_trans hi (by decide)) (cls_short _ (List.getElem_mem hi))
      · obtain ⟨n, hn, rfl⟩ := List.mem_map.mp hd
        exact Sm.nm (by decide +kernel) (built_short n hn)
    · obtain ⟨n, hn, rfl⟩ := List.mem_map.mp hd
      exact Sm.nm (by decide +kernel) (h n hn)
  have hlen : (startVars hs).length = 29 + hs.length := by
    simp only [startVars, List.length_append, List.length_map]
    have : clsVars.length = 16 := by decide
    have : builtNames.length = 13 := by decide
    omega
  exact (SmAll.many h1).mem (by omega) (by omega)
theorem sm_start {hs : List Str} {L : Nat} (h : ∀ n ∈ hs, shortS n = true) (hl : hs.length ≤ L) : ∀ d ∈ startD hs, Sm d 5 (5000 * (30 + L)) := fun d hd => by
  rcases List.mem_cons.mp hd with rfl | hd
  · exact (Sm.tup (.cons (Sm.short (n := "scope") (by decide +kernel)) (.cons (Sm.tup (sm_vars h hl)) (.cons (Sm.tup .nil) (.cons (Sm.tup .nil) (.cons (Sm.int (by decide)) (.cons (Sm.bool false) .nil))))))).mono (by decide) (by omega)
  · have : ∃ n b, d = clsObj n b ∧ n ∈ clsNames ∧ b.natAbs < 1000 := by
      have key : ∀ q ∈ List.zip clsNames clsBases, q.1 ∈ clsNames ∧ q.2.natAbs < 1000 := by decide +kernel
      rw [← List.map_uncurry_zip_eq_zipWith] at hd
      obtain ⟨q, hq, rfl⟩ := List.mem_map.mp hd
      exact ⟨q.1, q.2, rfl, key q hq⟩
    obtain ⟨n, b, rfl, hn, hb⟩ := this
    exact (Sm.co hb (cls_short n hn)).mono (by decide) (by omega)
theorem start_cls {hs : List Str} {k : Nat} (h1 : 1 ≤ k) (h2 : k ≤ 16) : ∃ rest, (startD hs)[k]? = some (.tuple (.str "class" :: rest)) := by
  obtain ⟨j, rfl⟩ : ∃ j, k = j + 1 := ⟨k - 1, by omega⟩
  have l1 : clsNames.length = 16 := by decide
  have l2 : clsBases.length = 16 := by decide
  refine ⟨[.str clsNames[j]!, .int clsBases[j]!, .tuple []], ?_⟩
  have e1 : clsNames[j]? = some clsNames[j]! := by rw [List.getElem!_eq_getElem?_getD]; rw [List.getElem?_eq_getElem (by omega)]; rfl
  have e2 : clsBases[j]? = some clsBases[j]! := by rw [List.getElem!_eq_getElem?_getD]; rw [List.getElem?_eq_getElem (by omega)]; rfl
  show (List.zipWith clsObj clsNames clsBases)[j]? = _
  rw [List.getElem?_zipWith, e1, e2]
  rfl
end LK

set_option Elab.async false
set_option linter.all false
set_option maxRecDepth 100000
set_option maxHeartbeats 4000000
set_option exponentiation.threshold 3000
/-! tuple * 1; rows: texts or tuples at one place; the type of what is read as a tuple; data equal to itself. -/
namespace LK
open PySem PySem.Spec PyProof.Rows L2
theorem tuple_mul1 (l : Addr) (items : Array Value) (n : Nat) (dd : Option Addr) (sl : Array (Option Value)) (u : Tok) :
    Meets (Builtin.«tuple.__mul__» ⟨[.ref l, .int 1 u], []⟩) (fun _ R s => s.heap.get? l = some { cls := .type "tuple", dict := dd, data := .seq items n, slots := sl } ∧ R (.ok (.ret (Value.ref l))) s) :=
  .of_wp fun prog w A R s h => by
    obtain ⟨hp, g, d, tk, os⟩ := s
    obtain ⟨hl, h⟩ := h
    have f1 := AutoSeq1.idx_int
    have c0 : (decide ((1 : Int) < -(2 ^ 63)) || decide ((1 : Int) ≥ 2 ^ 63)) = false := by decide
    have c1 : (items.isEmpty || (1 : Int) == 1) = true := by simp
    wp_walk using wpAny_loadPart' hl
    exact ⟨_, rfl, h⟩
/-- a tuple times an int from 1 to 1000 -/
def rRepTA (K : PySem.W.Frag) : R2 := fun x y H Q => ∃ l k xs, x = .ref l ∧ y = .int k ∧ SqT K H l xs ∧ xs ≠ [] ∧ 1 ≤ k ∧ k ≤ 1000 ∧ xs.length ≤ 1000 ∧ (k = 1 → Q (.ref l) H) ∧ (k ≠ 1 → ∀ p, H p = none → Q (.ref p) (upd H p (.tup (List.replicate k.toNat xs).flatten)))
section
variable {X : Cx}
theorem op_repTA : OpR X (binaryOp .Mult) (rRepTA X.K) := by
  intro pins s σ H x y v u Q I rx ry h
  obtain ⟨l, k, xs, rfl, rfl, hT, hne, h1, h2, hz, q1, q2⟩ := h
  by_cases hk : k = 1
  · subst hk
    cases rx
    obtain ⟨t, rfl⟩ := ry
    obtain ⟨its, r, ⟨⟨cls, dd, data, sl⟩, ho, hc, n, hd⟩, hs⟩ := I.tuple hT
    simp only at hc hd
    subst hc hd
    refine wpAny_binaryOp_repeat_ref (T := "tuple") (U := "int") (by decide) ⟨_, ho, rfl⟩ (fun s' => typeIs_int s' 1 t) noFill_tuple_mul F.fills_int_mul F.slot_int_rmul repeat_tuple F.slot_int_index.lookup
      (call_meets F.slot_int_rmul (typeIs_int s 1 t) F.entry_int_rmul (F.args_int_rmul_2 _ _) (int_rmul_tuple 1 t l its.toArray n dd sl)
        ⟨ho, rfl, ⟨_, ho, rfl⟩, call_meets F.slot_tuple_mul ⟨_, ho, rfl⟩ F.entry_tuple_mul (F.args_tuple_mul_2 _ _) (tuple_mul1 l its.toArray n dd sl t) ⟨ho, ?_⟩⟩)
    exact ⟨.ref l, H, I, rfl, q1 rfl⟩
  · exact op_repT pins s σ H _ _ v u Q I rx ry ⟨l, k, xs, rfl, rfl, hT, hne, by omega, h2, hz, q2 hk⟩
end
theorem SqT.tyX {K : PySem.W.Frag} {H : Hp} {a : Addr} {xs : List V} (h : SqT K H a xs) : TyX K H (.ref a) (.type "tuple") := by
  rcases h with (h | ⟨o, h⟩) | ⟨o, its, n, e, c, _⟩
  · exact .base (.tup h)
  · exact .fTuple h
  · exact .kTuple e c
/-! ### data equal to itself -/
mutual
theorem eqv_self : ∀ {d : PyData}, d.canLay0 = true → PyData.eqv d d = true
  | .none, _ => by simp [PyData.eqv]
  | .bool _, _ => by simp [PyData.eqv]
  | .int _, _ => by simp [PyData.eqv]
  | .str _, _ => by simp [PyData.eqv]
  | .list xs, h => by rw [PyData.eqv]; exact eqvAll_self (by simpa [PyData.canLay0] using h)
  | .tuple xs, h => by rw [PyData.eqv]; exact eqvAll_self (by simpa [PyData.canLay0] using h)
  | .dict _, h => absurd h (by simp [PyData.canLay0])
theorem eqvAll_self : ∀ {xs : List PyData}, PyData.canLayAll0 xs = true → PyData.eqvAll xs xs = true
  | [], _ => by simp [PyData.eqvAll]
  | x :: xs, h => by
    rw [PyData.canLayAll0, Bool.and_eq_true] at h
    rw [PyData.eqvAll, eqv_self h.1, eqvAll_self h.2]; rfl
end
theorem canLayAll0_of {ds : List PyData} (h : ∀ d ∈ ds, d.canLay0 = true) : PyData.canLayAll0 ds = true := by
  induction ds with
  | nil => rfl
  | cons d ds ih => rw [PyData.canLayAll0, h d (by simp), ih fun e he => h e (List.mem_cons_of_mem _ he)]; rfl
theorem depthAll_of {ds : List PyData} {n : Nat} (h : ∀ d ∈ ds, d.depth ≤ n) : PyData.depthAll ds ≤ n := by
  induction ds with
  | nil => exact Nat.zero_le _
  | cons d ds ih => rw [PyData.depthAll]; exact Nat.max_le.mpr ⟨h d (by simp), ih fun e he => h e (List.mem_cons_of_mem _ he)⟩
/-! ### rows: a text, or a tuple of small ints -/
def Item (d : PyData) : Prop := ∃ i : Int, d = .tuple [.str "int", .int i] ∧ 0 ≤ i ∧ i < 11
def Low (z : Str) : Prop := ∀ c ∈ z.cps.toList, c < 128
inductive Row : Bool → PyData → Nat → Prop
  | txt {z : Str} {n : Nat} : z.length = n → Low z → Row true (.str z) n
  | tup {ds : List PyData} {n : Nat} : ds.length = n → (∀ d ∈ ds, Item d) → Row false (.tuple ds) n
def catD : PyData → PyData → PyData
  | .str a, .str b => .str (a ++ b)
  | .tuple a, .tuple b => .tuple (a ++ b)
  | a, _ => a
def repD (d : PyData) (k : Int) : PyData := match d with
  | .str a => .str (repS a k)
  | .tuple a => .tuple (List.replicate k.toNat a).flatten
  | a => a
def noneD : PyData → PyData
  | .str a => .str (cutS a none (some 0))
  | .tuple _ => .tuple []
  | a => a
theorem len_app (a b : Str) : (a ++ b).length = a.length + b.length := strLen_append a b
theorem len_rep (z : Str) (k : Int) : (repS z k).length = z.length * k.toNat := by
  show (repC z.cps.toList k).toArray.size = _
  rw [List.size_toArray, repC_length, Nat.mul_comm]
  simp [Str.length]
theorem Low.app {a b : Str} (h : Low a) (g : Low b) : Low (a ++ b) := by
  intro c hc
  have e : (a ++ b).cps.toList = a.cps.toList ++ b.cps.toList := by
    show (a.cps ++ b.cps).toList = _
    simp
  rw [e] at hc
  rcases List.mem_append.mp hc with hc | hc
  · exact h c hc
  · exact g c hc
theorem Low.rep {a : Str} (h : Low a) (k : Int) : Low (repS a k) := by
  intro c hc
  have hc : c ∈ (List.replicate k.toNat a.cps.toList).flatten := by simpa [repS, repC] using hc
  obtain ⟨l, hl, hcl⟩ := List.mem_flatten.mp hc
  exact h c (List.eq_of_mem_replicate hl ▸ hcl)
theorem Low.cut {a : Str} (h : Low a) (lo hi : Option Int) : Low (cutS a lo hi) := by
  intro c hc
  have hc : c ∈ (a.cps.toList.drop (HT.sIx a.length 0 lo)).take (HT.sIx a.length a.length hi - HT.sIx a.length 0 lo) := hc
  exact h c (List.mem_of_mem_drop (List.mem_of_mem_take hc))
theorem cut_to (a : Str) (m : Nat) : (cutS a none (some (m : Int))).length ≤ m := by
  show ((a.cps.toList.drop (HT.sIx a.length 0 none)).take (HT.sIx a.length a.length (some (m : Int)) - HT.sIx a.length 0 none)).toArray.size ≤ m
  rw [List.size_toArray, List.length_take, HT.sIx_nat]
  omega
theorem Row.cat {t : Bool} {a b : PyData} {n m : Nat} (h : Row t a n) (g : Row t b m) : Row t (catD a b) (n + m) := by
  cases h with
  | txt e l =>
    cases g with
    | txt e2 l2 => exact .txt (by rw [len_app, e, e2]) (l.app l2)
  | tup e l =>
    cases g with
    | tup e2 l2 => exact .tup (by rw [List.length_append, e, e2]) fun d hd => (List.mem_append.mp hd).elim (l d) (l2 d)
theorem Row.rep {t : Bool} {a : PyData} {n : Nat} (h : Row t a n) (k : Int) : Row t (repD a k) (n * k.toNat) := by
  cases h with
  | txt e l => exact .txt (by rw [len_rep, e]) (l.rep k)
  | tup e l =>
    refine .tup (by rw [PyProof.Rows.lm_len_rep_flat, e, Nat.mul_comm]) fun d hd => ?_
    obtain ⟨x, hx, hdx⟩ := List.mem_flatten.mp hd
    exact l d (List.eq_of_mem_replicate hx ▸ hdx)
theorem Row.none {t : Bool} {a : PyData} {n : Nat} (h : Row t a n) : Row t (noneD a) 0 := by
  cases h with
  | @txt z _ e l => exact .txt (Nat.le_zero.mp (cut_to z 0)) (l.cut _ _)
  | tup e l => exact .tup rfl fun d hd => by cases hd
theorem Item.sm {d : PyData} (h : Item d) : Sm d 1 3000 := by
  obtain ⟨i, rfl, h0, h1⟩ := h
  exact (Sm.tup (.cons (Sm.short (n := "int") (by decide +kernel)) (.cons (Sm.int (Nat.lt_of_lt_of_le (show i.natAbs < 2 ^ 20 by omega) (Nat.pow_le_pow_right (by decide) (by decide)))) .nil))).mono (by decide) (by decide)
theorem Row.sm {t : Bool} {d : PyData} {n : Nat} (h : Row t d n) (hn : n ≤ 1000) : Sm d 2 3100000 := by
  cases h with
  | txt e l => exact (Sm.str (n := 1000) (by omega) fun c hc => Nat.lt_of_lt_of_le (l c hc) (by decide)).mono (by decide) (by decide)
  | tup e l => exact (Sm.tup ((SmAll.many fun d hd => (l d hd).sm).mem (m := 1000) (M := 3000000) (by omega) (by omega))).mono (by decide) (by decide)
theorem Row.lay {t : Bool} {d : PyData} {n : Nat} (h : Row t d n) : d.canLay0 = true := by
  cases h with
  | @txt z _ e l =>
    rw [PyData.canLay0]
    exact Array.all_eq_true_iff_forall_mem.mpr fun c hc => by
      have := l c (Array.mem_toList_iff.mpr hc)
      exact decide_eq_true (by omega)
  | tup e l =>
    rw [PyData.canLay0]
    exact canLayAll0_of fun d hd => by obtain ⟨i, rfl, _⟩ := l d hd; simp only [PyData.canLay0, PyData.canLayAll0, Bool.and_true]; decide +kernel
section
variable {X : Cx}
/-- a + b, two rows -/
def rCatD (K : PySem.W.Frag) : R2 := fun x y H Q => ∃ (t : Bool) (a b : PyData) (n m : Nat), Row t a n ∧ Row t b m ∧ Dt K H x a ∧ Dt K H y b ∧ n + m ≤ 2000 ∧ ∀ v H', Same H H' → Dt K H' v (catD a b) → Q v H'
theorem op_catD : OpR X (binaryOp .Add) (rCatD X.K) := by
  intro pins s σ H x y v u Q I rx ry h
  obtain ⟨t, a, b, n, m, ha, hb, da, db, hz, q⟩ := h
  cases ha with
  | txt e l =>
    cases hb with
    | txt e2 l2 =>
      cases da.str_inv; cases db.str_inv
      exact op_add_str pins s σ H _ _ v u Q I rx ry ⟨_, _, rfl, rfl, by rw [e, e2]; exact Nat.le_trans hz (by decide), q _ _ (Same.refl _) (.str _)⟩
  | @tup ds _ e l =>
    cases hb with
    | @tup es _ e2 l2 =>
      obtain ⟨p, xs, rfl, hs, ax⟩ := da.tuple_inv
      obtain ⟨p2, ys, rfl, hs2, ay⟩ := db.tuple_inv
      have lx := ax.length
      have ly := ay.length
      refine op_catA pins s σ H _ _ v u Q I rx ry ⟨p, p2, xs, ys, rfl, rfl, hs, hs2, by rw [lx, ly, e, e2]; exact Nat.le_trans hz (by decide), fun h0 => ?_, fun _ h0 => ?_, fun _ _ z hz => ?_⟩
      · subst h0
        have : ds = [] := List.eq_nil_of_length_eq_zero (by rw [← lx]; rfl)
        subst this
        exact q _ _ (Same.refl _) db
      · subst h0
        have : es = [] := List.eq_nil_of_length_eq_zero (by rw [← ly]; rfl)
        subst this
        refine q _ _ (Same.refl _) ?_
        show Dt X.K H (.ref p) (.tuple (ds ++ []))
        rw [List.append_nil]; exact da
      · exact q _ _ (Same.new hz) (Dt.made hz (DtAll.app ax ay))
/-- a * k, a row and an int -/
def rRepD (K : PySem.W.Frag) : R2 := fun x y H Q => ∃ (t : Bool) (a : PyData) (n : Nat) (k : Int), Row t a n ∧ Dt K H x a ∧ y = .int k ∧ 1 ≤ n ∧ 1 ≤ k ∧ n * k ≤ 1000 ∧ ∀ v H', Same H H' → Dt K H' v (repD a k) → Q v H'
theorem dtRep {K : PySem.W.Frag} {H : Hp} {xs : List V} {ds : List PyData} (h : DtAll K H xs ds) : ∀ m : Nat, DtAll K H (List.replicate m xs).flatten (List.replicate m ds).flatten
  | 0 => .nil
  | m + 1 => by
    rw [List.replicate_succ, List.flatten_cons, List.replicate_succ, List.flatten_cons]
    exact DtAll.app h (dtRep h m)
theorem op_repD : OpR X (binaryOp .Mult) (rRepD X.K) := by
  intro pins s σ H x y v u Q I rx ry h
  obtain ⟨t, a, n, k, ha, da, rfl, hn, hk, hz, q⟩ := h
  have k1 : k ≤ 1000 := by
    have : 1 * k ≤ n * k := Int.mul_le_mul_of_nonneg_right (by omega) (by omega)
    omega
  have n1 : n ≤ 1000 := by
    have : (n : Int) * 1 ≤ n * k := Int.mul_le_mul_of_nonneg_left hk (by omega)
    omega
  cases ha with
  | txt e l =>
    cases da.str_inv
    refine op_rep_str pins s σ H _ _ v u Q I rx ry ⟨_, k, rfl, rfl, by omega, by omega, ?_, q _ _ (Same.refl _) (.str _)⟩
    rw [e]
    exact Nat.le_trans (Nat.mul_le_mul n1 (show k.toNat ≤ 1000 by omega)) (by decide)
  | @tup ds _ e l =>
    obtain ⟨p, xs, rfl, hs, ax⟩ := da.tuple_inv
    have lx := ax.length
    refine op_repTA pins s σ H _ _ v u Q I rx ry ⟨p, k, xs, rfl, rfl, hs, fun z => ?_, hk, k1, by omega, fun h1 => ?_, fun h1 z hz => ?_⟩
    · subst z
      rw [List.length_nil] at lx
      omega
    · subst h1
      refine q _ _ (Same.refl _) ?_
      show Dt X.K H (.ref p) (.tuple (List.replicate 1 ds).flatten)
      rw [show (List.replicate 1 ds).flatten = ds by simp]
      exact da
    · exact q _ _ (Same.new hz) (Dt.made hz (dtRep ax _))
/-- a[:0], a row -/
def rNoneD (K : PySem.W.Frag) : V → Option Int → Option Int → Hp → VK → Prop := fun x lo hi H Q => ∃ (t : Bool) (a : PyData) (n : Nat), Row t a n ∧ Dt K H x a ∧ n ≤ 2000 ∧ lo = none ∧ hi = some 0 ∧ ∀ v H', Same H H' → Dt K H' v (noneD a) → Q v H'
theorem sl_noneD : SlR X (rNoneD X.K) := by
  intro pins s σ H x v vl vu lo hi sl Q I rx hs pl pu h
  obtain ⟨t, a, n, ha, da, hn, rfl, rfl, q⟩ := h
  cases ha with
  | txt e l =>
    cases da.str_inv
    exact sl_str pins s σ H _ v vl vu _ _ sl Q I rx hs pl pu ⟨_, rfl, by rw [e]; exact Nat.le_trans hn (by decide), q _ _ (Same.refl _) (.str _)⟩
  | @tup ds _ e l =>
    obtain ⟨p, xs, rfl, hq, ax⟩ := da.tuple_inv
    have lx := ax.length
    refine sl_tupA pins s σ H _ v vl vu _ _ sl Q I rx hs pl pu ⟨p, xs, rfl, hq, fun hw => ?_, fun _ z hz => ?_⟩
    · have h0 : ds.length = 0 := by
        have := hw.2
        rw [show (some (0 : Int)) = some ((0 : Nat) : Int) from rfl, HT.sIx_nat] at this
        omega
      have := List.eq_nil_of_length_eq_zero h0
      subst this
      exact q _ _ (Same.refl _) da
    · refine q _ _ (Same.new hz) (Dt.made hz ?_)
      have : cutV xs none (some 0) = [] := by
        apply List.eq_nil_of_length_eq_zero
        unfold cutV
        rw [List.length_take, show (some (0 : Int)) = some ((0 : Nat) : Int) from rfl, HT.sIx_nat]
        omega
      rw [this]
      exact .nil
/-- len(a), a row -/
def rLenD (K : PySem.W.Frag) : List V → Hp → VK → Prop := fun vs H Q => ∃ (v : V) (t : Bool) (a : PyData) (n : Nat), vs = [v] ∧ Row t a n ∧ Dt K H v a ∧ n ≤ 2000 ∧ Q (.int (n : Int)) H
theorem call_lenD' : CallR X (.builtin "len") (rLenD X.K) := by
  intro pins s σ H xs us Q I r h
  obtain ⟨v, t, a, n, rfl, ha, da, hn, q⟩ := h
  cases ha with
  | txt e l =>
    cases da.str_inv
    exact call_len pins s σ H _ us Q I r ⟨_, n, rfl, ⟨by rw [e]; exact Nat.le_trans hn (by decide), e.symm⟩, q⟩
  | @tup ds _ e l =>
    obtain ⟨p, ys, rfl, hq, ax⟩ := da.tuple_inv
    exact call_len pins s σ H _ us Q I r ⟨_, n, rfl, .inr ⟨_, hq, by rw [ax.length, e]⟩, q⟩
end
end LK

set_option Elab.async false
set_option linter.all false
set_option maxRecDepth 100000
set_option maxHeartbeats 4000000
set_option exponentiation.threshold 3000
/-! Letters, digits, underscores; texts of the top. -/
namespace LK
open PySem PySem.Spec PyProof.Rows L2 SX
def isD (c : Nat) : Bool := decide (48 ≤ c) && decide (c ≤ 57)
def isL (c : Nat) : Bool := (decide (65 ≤ c) && decide (c ≤ 90)) || (decide (97 ≤ c) && decide (c ≤ 122)) || c == 95
def isW (c : Nat) : Bool := isD c || isL c
theorem isW_lt {c : Nat} (h : isW c = true) : c < 128 := by
  simp [isW, isD, isL] at h; omega
theorem uni_alpha : ∀ c < 128, Unicode.isAlpha c = (isL c && c != 95) := by decide +kernel
theorem uni_digit : ∀ c < 128, Unicode.isDigit c = isD c := by decide +kernel
theorem uni_alnum : ∀ c < 128, Unicode.isAlnum c = (isW c && c != 95) := by decide +kernel
theorem alpha1 {c : Nat} (h : c < 128) : Txt.isalpha (S [c]) = (isL c && c != 95) := by
  show (decide ((S [c]).length > 0) && (S [c]).cps.all Unicode.isAlpha) = _
  rw [S_len]; simp [S, uni_alpha c h]
theorem digit1 {c : Nat} (h : c < 128) : Txt.isdigit (S [c]) = isD c := by
  show (decide ((S [c]).length > 0) && (S [c]).cps.all Unicode.isDigit) = _
  rw [S_len]; simp [S, uni_digit c h]
theorem alnum1 {c : Nat} (h : c < 128) : Txt.isalnum (S [c]) = (isW c && c != 95) := by
  show (decide ((S [c]).length > 0) && (S [c]).cps.all Unicode.isAlnum) = _
  rw [S_len]; simp [S, uni_alnum c h]
theorem digitS {a : List Nat} (h : ∀ c ∈ a, c < 128) (hne : a ≠ []) : Txt.isdigit (S a) = a.all isD := by
  show (decide ((S a).length > 0) && (S a).cps.all Unicode.isDigit) = _
  have : 0 < a.length := List.length_pos_iff.mpr hne
  rw [S_len, decide_eq_true this, Bool.true_and]
  show a.toArray.all Unicode.isDigit = _
  rw [List.all_toArray]
  apply Bool.eq_iff_iff.mpr
  rw [List.all_eq_true, List.all_eq_true]
  exact ⟨fun g c hc => uni_digit c (h c hc) ▸ g c hc, fun g c hc => (uni_digit c (h c hc)).symm ▸ g c hc⟩
/-! texts of the top -/
def GStr (mg : Str → Option Value) (x : Str) (z : Str) : Prop := ∃ t, mg x = some (.str z t)
def HasStr (K : PySem.W.Frag) (x : Str) (p : Str → Prop) : Prop := ∃ (z : Str) (t : Tok), PySem.W.nsIn K mainGlobals x = some (some (.str z t)) ∧ p z
theorem HasStr.mk' {K : PySem.W.Frag} {x : Str} {p : Str → Prop} {z : Str} {t : Tok} (a : PySem.W.nsIn K mainGlobals x = some (some (.str z t))) (b : p z) : HasStr K x p := ⟨z, t, a, b⟩
theorem HasStr.g {K : PySem.W.Frag} {mg : Str → Option Value} {h : Heap} {x : Str} {p : Str → Prop} (i : HasStr K x p) (X : K.In h) (G : h.Ns mainGlobals mg) : ∃ z, GStr mg x z ∧ p z := by
  obtain ⟨z, t, e, hp⟩ := i
  exact ⟨z, ⟨t, PySem.W.mg_of X G e⟩, hp⟩
theorem pe_globS {X : Cx} {x z : Str} {pos : Pos} (h : GStr X.mg x z) (hg : Gl X x) (hd : (x == ("__debug__" : Str)) = false := by decide) : PE X (.Name x pos) (tC (.str z)) := by
  obtain ⟨t, e⟩ := h
  exact pe_glob hg e ⟨t, rfl⟩ hd
theorem split1 {a : List Nat} {c : Nat} (h : c ∉ a) (hc : c < 256) : Txt.split (S a) (S [c]) = [S a] := by
  rw [split_S (by simp) (by simpa using hc)]
  have := SX.spl_join (c := c) (sep := []) (parts := [a]) (by simp) (by simpa using h)
  have e : TL.joinL [c] [a] = a := by simp [TL.joinL]
  rw [e] at this
  rw [this]; rfl
theorem lstrip1 {a : List Nat} {b : List Nat} (h : ∀ c, a.head? = some c → c ∉ b) : Txt.lstripChars (S a) (S b) = S a := by
  have e1 : (S a).cps.toList.takeWhile (S b).cps.contains = [] := tw0 a fun c hc => by
    have := h c hc
    show b.toArray.contains c = false
    rw [List.contains_toArray]
    simpa using this
  have e0 : stripLo (S b).cps.contains true (S a) = 0 := by
    unfold stripLo
    rw [if_pos rfl, e1] <;> rfl
  have e3 : stripHi (S b).cps.contains false (S a) 0 = (S a).length := by
    unfold stripHi
    rw [if_neg Bool.false_ne_true]
  unfold Txt.lstripChars Txt.stripBy stripSame
  rw [e0, e3]
  exact if_pos (by simp)
/-! while, its test's reading made monotone -/
def tUp (c : TT) : TT := fun σ H Q => ∃ P : Bool → Hp → Prop, c σ H P ∧ ∀ b H1, P b H1 → Q b H1
theorem pt_up {X : Cx} {e : Expr} {c : TT} (h : PT X e c) : PT X e (tUp c) :=
  ⟨fun pins s σ H Q I ⟨P, hP, k⟩ => thn (h.run pins s σ H P I hP) fun b s1 ⟨H1, I1, q⟩ => ⟨H1, I1, k _ _ q⟩⟩
theorem while_up {c : TT} {tb : TS} {D : Ends} {σ : L2.St} {H : Hp} (Pv : L2.St → Hp → Prop) (μ : L2.St → Hp → Nat) (h0 : Pv σ H)
    (hs : ∀ σ H, Pv σ H → c σ H fun b H1 => if b = true then tb { D with nx := fun σ' H' => Pv σ' H' ∧ μ σ' H' < μ σ H, ct := fun σ' H' => Pv σ' H' ∧ μ σ' H' < μ σ H, bk := D.nx } σ H1 else D.nx σ H1) : tWhile (tUp c) tb D σ H :=
  while_by Pv μ h0 (fun σ H p => ⟨_, hs σ H p, fun _ _ h => h⟩) (fun σ H Q Q' hq ⟨P, hP, k⟩ => ⟨P, hP, fun b H1 h => hq b H1 (k b H1 h)⟩)
theorem nl_S : ("\n" : Str) = S [10] := by decide +kernel
theorem us_S : ("_" : Str) = S [95] := by decide +kernel
theorem sp_S : (" " : Str) = S [32] := by decide +kernel
theorem hash_S : ("#" : Str) = S [35] := by decide +kernel
theorem sign_eq {c d : Nat} : decide (V.str ⟨#[c]⟩ = V.str (S [d])) = decide (c = d) := by
  by_cases h : c = d
  · subst h; rw [decide_eq_true rfl, decide_eq_true rfl]
  · rw [decide_eq_false h, decide_eq_false]
    intro e
    have := S_inj (a := [c]) (b := [d]) (V.str.inj e)
    exact h (by simpa using this)
theorem str_eq {a b : List Nat} : decide (V.str (S a) = V.str (S b)) = decide (a = b) := by
  by_cases h : a = b
  · subst h; rw [decide_eq_true rfl, decide_eq_true rfl]
  · rw [decide_eq_false h, decide_eq_false]
    intro e
    exact h (S_inj (V.str.inj e))
theorem starts1 {c d : Nat} {r : List Nat} : Txt.startswith (S (c :: r)) (S [d]) = decide (c = d) := by
  show (decide (0 + (S [d]).length ≤ (S (c :: r)).length) && ((c :: r).toArray.extract 0 (0 + (S [d]).length) == [d].toArray)) = _
  rw [S_len, S_len]
  have e : (c :: r).toArray.extract 0 (0 + [d].length) = #[c] := by simp
  rw [e]
  by_cases h : c = d
  · subst h; simp
  · simp [h]
theorem at_S {a : List Nat} {j c : Nat} (h : a[j]? = some c) : atI (S a).cps.toList (j : Int) = some c := atI_nat h
theorem cut_all {a : List Nat} : cutS (S a) (some 0) (some ((a.length : Nat) : Int)) = S a := by
  unfold cutS
  rw [S_len, show (some (0 : Int)) = some ((0 : Nat) : Int) from rfl, HT.sIx_nat, HT.sIx_nat]
  show (⟨((a.drop (min 0 a.length)).take (min a.length a.length - min 0 a.length)).toArray⟩ : Str) = ⟨a.toArray⟩
  rw [Nat.zero_min, List.drop_zero, Nat.min_self, Nat.sub_zero, List.take_length]
/-! a promise at a higher level -/
theorem FnG.mono {P : Program} {w : World} {K : PySem.W.Frag} {mg : Str → Option Value} {base : Heap} {CX : CXT} {j k : Nat} {f : Addr} {fd : FuncData} {ps : List Str} {sp : Sp} (F : FnG P w K mg base CX j f fd ps sp) (h : j ≤ k) : FnG P w K mg base CX k f fd ps sp :=
  ⟨F.len, fun A outer s H args us vs Q E hr => F.run A outer s H args us vs Q E (hr.mono h)⟩
theorem Use.mono {P : Program} {w : World} {K : PySem.W.Frag} {mg : Str → Option Value} {base : Heap} {CX : CXT} {x : Str} {j k : Nat} {ps : List Str} {sp : Sp} (U : Use P w K mg base CX x j ps sp) (h : j ≤ k) : Use P w K mg base CX x k ps sp := by
  obtain ⟨f, fd, ok, r⟩ := U.ex
  exact ⟨f, fd, ok.mono h, r⟩
/-! the signs that a program may hold -/
def okC (c : Nat) : Bool := c == 10 || (decide (32 ≤ c) && decide (c ≤ 126) && c != 37)
theorem okC_lt {c : Nat} (h : okC c = true) : c < 128 := by
  simp [okC] at h; omega
theorem lstrip_sp (a : List Nat) : Txt.lstripChars (S a) (S [32]) = S (a.dropWhile (· == 32)) := by
  have e1 : (S a).cps.toList.takeWhile (S [32]).cps.contains = a.takeWhile (· == 32) := by
    show a.takeWhile _ = _
    congr 1
    funext c
    show #[32].contains c = _
    simp [Array.contains, BEq.comm]
  have el : (a.takeWhile (· == 32)).length ≤ a.length := (List.takeWhile_prefix _).length_le
  have ed : a.drop (a.takeWhile (· == 32)).length = a.dropWhile (· == 32) := by
    have h := List.takeWhile_append_dropWhile (p := (· == 32)) (l := a)
    have : (a.takeWhile (· == 32) ++ a.dropWhile (· == 32)).drop (a.takeWhile (· == 32)).length = a.dropWhile (· == 32) := List.drop_left
    rwa [h] at this
  have e0 : stripLo (S [32]).cps.contains true (S a) = (a.takeWhile (· == 32)).length := by
    unfold stripLo
    rw [if_pos rfl, e1] <;> rfl
  have e3 : stripHi (S [32]).cps.contains false (S a) (a.takeWhile (· == 32)).length = (S a).length := by
    unfold stripHi
    rw [if_neg Bool.false_ne_true]
  unfold Txt.lstripChars Txt.stripBy stripSame stripped
  rw [e0, e3]
  split
  · rename_i h
    simp at h
    have : (a.takeWhile (· == 32)).length = 0 := by simpa using h
    rw [this, List.drop_zero] at ed
    rw [← ed]
  · show (⟨a.toArray.extract (a.takeWhile (· == 32)).length (S a).length⟩ : Str) = _
    rw [S_len, ← ed]
    congr 1
    apply Array.toList_inj.mp
    simp only [Array.toList_extract, List.extract_eq_drop_take]
    exact List.take_of_length_le (by rw [List.length_drop]; omega)
/-- z[i:j] by codes -/
theorem cut_S {a : List Nat} {i j : Nat} (hi : i ≤ a.length) (hj : j ≤ a.length) : cutS (S a) (some ((i : Nat) : Int)) (some ((j : Nat) : Int)) = S ((a.drop i).take (j - i)) := by
  unfold cutS
  rw [S_len, HT.sIx_nat, HT.sIx_nat, Nat.min_eq_left hi, Nat.min_eq_left hj]
/-- a line: so many spaces, and perhaps a word -/
def lnT (s : Nat) (w : List Nat) : List Nat := List.replicate s 32 ++ w
theorem lnT_len (s : Nat) (w : List Nat) : (lnT s w).length = s + w.length := by simp [lnT]
theorem lnT_sp {s : Nat} {w : List Nat} {i : Nat} (h : i < s) : (lnT s w)[i]? = some 32 := by
  unfold lnT
  rw [List.getElem?_append_left (by simpa using h), List.getElem?_replicate, if_pos h]
theorem lnT_w {s : Nat} {w : List Nat} {i : Nat} : (lnT s w)[s + i]? = w[i]? := by
  unfold lnT
  rw [List.getElem?_append_right (by simp), List.length_replicate, Nat.add_sub_cancel_left]
theorem lnT_drop (s : Nat) (w : List Nat) : (lnT s w).drop s = w := by
  unfold lnT
  rw [List.drop_append_of_le_length (by simp)]
  simp
/-- a while by an invariant that carries its measure -/
theorem while_upN {c : TT} {tb : TS} {D : Ends} {σ : L2.St} {H : Hp} (W : Nat → L2.St → Hp → Prop) (h0 : ∃ m, W m σ H)
    (hs : ∀ m σ H, W m σ H → c σ H fun b H1 => if b = true then tb { D with nx := fun σ' H' => ∃ m', m' < m ∧ W m' σ' H', ct := fun σ' H' => ∃ m', m' < m ∧ W m' σ' H', bk := D.nx } σ H1 else D.nx σ H1) : tWhile (tUp c) tb D σ H := by
  refine ⟨W, h0, fun m σ H w => ⟨_, hs m σ H w, fun b H1 h => ?_⟩⟩
  cases b with
  | false => exact h
  | true => exact ⟨_, fun σ' H' q => q, h⟩
end LK

set_option Elab.async false
set_option linter.all false
set_option maxRecDepth 100000
set_option maxHeartbeats 4000000
/-! An own exception class over ValueError (its bases may be own ones) whose __init__ says super().__init__(..) first. -/
namespace SupX
open PySem PySem.Spec PyProof.Rows L2 NdefX
/-- what the written part says of the class at C, its __init__ at fI (a def that closes over __class__), in the program P -/
structure SupC (P : Program) (K : PySem.W.Frag) (C fI cc : Addr) (F : NF) : Prop where
  oex : OexC K C
  fn : ∃ oc od doc pm ctv osl, K.lookup fI = some ⟨oc, od, .func (F.fd doc pm ctv), osl⟩
  cl : F.cl = [(("__class__" : Str), cc)]
  cd : PySem.W.codeIn K (.ref F.c) F.qual = true
  code : ∃ ccl cdd vs ccs file tf, K.lookup F.c = some ⟨ccl, cdd, .fields vs, ccs⟩ ∧ vs[2]? = some (.str file tf) ∧ ((P.main.file : Str) == file) = true
  top : (P.main.scope.names.lookup ("super" : Str)).isSome = false
  cell : ∃ cl cld csl, K.lookup cc = some ⟨cl, cld, .cell (some (.ref C)), csl⟩
  own : PySem.W.mroIn K C (.ref C) = some true
  isB : PySem.W.subIn K (.ref C) (.type "ValueError") = some true
  sup : PySem.W.ks_superIn K C C "__init__" = some (some (.builtin "ValueError.__init__"))
  opq : PySem.W.nsIn K cStatics "thirdparty.any" = some none
  glob : PySem.W.nsIn K mainGlobals "super" = some none
/-- super().__init__(..), then the rest -/
def tSup (C : Addr) (ta : TA) (tr : TS) : TS := fun D σ H => ta σ H fun ws H1 => ws.length ≤ 1000 ∧ ∃ a, σ[0]? = some (some (.ref a)) ∧ H1 a = some (exo a C none) ∧ tr D σ H1
section
variable {P : Program} {w : World} {K : PySem.W.Frag} {mg : Str → Option Value} {base : Heap} {N ps : List Str} {F : NF} {fI C cc : Addr} {k : Nat} {sp : Sp} {e : Expr} {es : List Expr} {rest : List Stmt} {p0 p1 pa pc pe : Pos} {self : Str} {ar : Arg}
theorem sup_ok (T : SupC P K C fI cc F) (S : NScope N (self :: ps) ["__class__"] F.scope) (len : ∀ vs H Q E, sp vs H Q E → vs.length = (self :: ps).length)
    (hself : ∀ vs H Q E, sp vs H Q E → ∃ a ws, vs = .ref a :: ws ∧ H a = some (exo a C none))
    (hbd : F.body = .Expr (.Call (.Attribute (.Call (.Name "super" p0) [] [] p1) "__init__" pa) (e :: es) [] pc) pe :: rest) (hpar : (F.params.posonlyargs ++ F.params.args).head? = some ar) (har : ar.arg = self)
    (hks : F.scope.names.lookup ("super" : Str) = some .globalImplicit) (hkc : F.scope.names.lookup ("__class__" : Str) = some .free) (hka : F.scope.names.lookup self = some .local)
    (he : ∀ env : Env, starEach (e :: es) env = (false, eval e env) :: starEach es env) (hpl : ∀ env : Env, (backTo pc (starEach es env)).any (·.1) = false)
    (hev : ∀ env : Env, ∃ pl : Sem Bool, eval (.Call (.Attribute (.Call (.Name "super" p0) [] [] p1) "__init__" pa) (e :: es) [] pc) env = (do
      let ov ← attributeBase (.Call (.Name "super" p0) [] [] p1) "__init__" env (eval (.Call (.Name "super" p0) [] [] p1) env)
      standAt pa.atName
      let (f, first) ← holding [ov] (getMethod ov "__init__" pl)
      callWith pc f first (backTo pc (starEach (e :: es) env)) []))
    (body : ∀ (A : Around) (outer : List Env) (s : Shared) (H : Hp) (vs : List V) (Q : VK) (E : XK), Room k (A.deeper (envF F fI s.heap.objs.size)) → sp vs H Q E →
      ∃ ta tr, PA (ncx CX0 P w K mg base N F fI A outer s H E) (e :: es) ta ∧ PSs (ncx CX0 P w K mg base N F fI A outer s H E) rest tr ∧ tSup C ta tr { nx := fun _ H' => Q .non H', rt := Q } (startF N vs [none]) H) :
    ∀ fd, (∃ oc od osl, K.lookup fI = some ⟨oc, od, .func fd, osl⟩) → FnOk P w K mg base CX0 (k + 1) fI fd (self :: ps) sp := by
  rintro fd ⟨oc', od', osl', lk'⟩
  obtain ⟨oc, od, doc, pm, ctv, osl, lk⟩ := T.fn
  have efd : fd = F.fd doc pm ctv := by
    rw [lk] at lk'
    have := Option.some.inj lk'
    injection this with _ _ h _
    injection h with h
    exact h.symm
  subst efd
  refine ⟨len, fun A outer s H args us vs Q E hr e0 hb r hsp => ?_⟩
  have inn : K.In s.heap := e0.mod.kin.keeps fun b o e => (e0.bs b o e).1
  have lim : s.heap.NoLimit := e0.mod.nolimit.keeps fun b o e => (e0.bs b o e).1
  obtain ⟨a, ws, rfl, ha⟩ := hself _ _ _ _ hsp
  refine ks_codeAny_call_defAt (fd := F.fd doc pm ctv) (body := F.body) (binds := (self :: ps).zip us) hr.depth (inn _ _ lk) rfl lim (PySem.W.codeRec_of inn T.cd) rfl hb S.nocell
    (fun ⟨n, _⟩ hx => S.par n (List.of_mem_zip hx).1) (fun h₁ hns kp => ?_) S.co S.gen S.kind
  obtain ⟨cl, cld, csl, hcell⟩ := T.cell
  have cellS : s.heap.IsCell cc (some (.ref C)) := ⟨_, inn _ _ hcell, rfl⟩
  have ec : ∀ y c, F.cl.lookup y = some c → y = "__class__" ∧ c = cc := fun y c h => by
    rw [T.cl] at h
    by_cases hy : y = ("__class__" : Str)
    · subst hy
      simp [List.lookup] at h
      exact ⟨rfl, h.symm⟩
    · have : (y == ("__class__" : Str)) = false := beq_eq_false_iff_ne.mpr hy
      simp [List.lookup, this] at h
  have lc : F.cl.lookup ("__class__" : Str) = some cc := by rw [T.cl]; simp [List.lookup]
  obtain ⟨oB, hoB⟩ : ∃ o, base.get? cc = some o := ⟨_, e0.mod.kin _ _ hcell⟩
  have Cs : CellsAt F.cl ["__class__"] [none] s.heap H := by
    refine ⟨rfl, fun y c h => ?_, fun x y c h1 h2 => ?_, fun i y h => ?_⟩
    · obtain ⟨_, rfl⟩ := ec y c h
      exact ⟨(e0.bs _ _ hoB).2, _, cellS⟩
    · rw [(ec x c h1).1, (ec y c h2).1]
    · match i, h with
      | 0, h =>
        obtain rfl := Option.some.inj h
        exact ⟨cc, lc, fun v hv => by simp at hv⟩
      | i + 1, h => simp at h
  obtain ⟨ta, tr, hta, htr, hq⟩ := body A outer s H _ Q E (hr.deeper _) hsp
  have I : Inv (ncx CX0 P w K mg base N F fI A outer s H E) [] (startF N (.ref a :: ws) [none]) H { s with heap := h₁, toks := s.toks + ((self :: ps).zip us).length } := inv_startN S hr.hd e0 (len _ _ _ _ hsp) r Cs hns kp
  show PySem.wpAt (model P w) (A.deeper (envF F fI s.heap.objs.size)) (.func F.body (envF F fI s.heap.objs.size)) (execs F.body (envF F fI s.heap.objs.size)) _ _ _
  generalize s.toks + ((self :: ps).zip us).length = tk at I
  rw [show execs F.body = execs (.Expr (.Call (.Attribute (.Call (.Name "super" p0) [] [] p1) "__init__" pa) (e :: es) [] pc) pe :: rest) from by rw [hbd]]
  refine ks_wpAt_execs_cons ?_
  refine ks_wpAt_Expr_any ?_ (by unfold interactive; rw [show (envF F fI s.heap.objs.size).scope.kind = .function from S.kind]; rfl)
  obtain ⟨pl, hev⟩ := hev (envF F fI s.heap.objs.size)
  refine ks_wpAt_MethodCall ?_ hev
  obtain ⟨ccl, cdd, vs', ccs, file, tf, hcode, hvs, hfile⟩ := T.code
  have X1 : K.In h₁ := inn.keeps kp
  refine ks_wpAt_super_base (env := envF F fI s.heap.objs.size) hks hkc rfl rfl (X1 _ _ lk) rfl hpar rfl (X1 _ _ hcode) rfl hvs hfile T.top ?_
  obtain ⟨mb, hmb, hboot⟩ := e0.mod.blt
  have kB : ∀ b o, base.get? b = some o → h₁.get? b = some o := fun b o e => kp b o (e0.bs b o e).1
  refine PySem.W.ks_loadName_global S.kind hks (PySem.Calls.loadGlobal_builtin (env := envF F fI s.heap.objs.size) (e0.mod.glob.keeps kB) (PySem.W.mg_none_of e0.mod.kin e0.mod.glob T.glob) (hmb.keeps kB) (hboot _ (by decide +kernel)) ⟨rfl, ?_⟩)
  refine wpAny_loadName_free S.kind hkc lc ⟨_, X1 _ _ hcell, rfl⟩ ?_
  -- self
  have ndp : (self :: ps).Nodup := by
    have h : ((self :: ps) ++ [("__class__" : Str)]).Nodup := by rw [← S.pre]; exact S.nd.sublist (List.take_sublist _ _)
    exact (List.nodup_append.mp h).1
  obtain ⟨us', rfl⟩ : ∃ us', us = .ref a :: us' := by
    cases r with
    | cons r1 r2 => exact ⟨_, by rw [show _ = Value.ref a from r1]⟩
  rw [har]
  refine wpAny_loadName_local S.kind hka hns (zip_look (i := 0) (x := self) (u := .ref a) ndp rfl rfl) ?_
  -- super(__class__, self)
  obtain ⟨nm, q, NN, bs, bm, sn, sub, ab, col, dd, k0, k1, k2, k3, k5, hC, hbm⟩ := T.oex.cls
  have hcl : PySem.W.clsIn K C = some { name := nm, bases := bs, mro := .ref C :: bm, ns := NN, qualname := q, hasDict := true, slotNames := sn, subclasses := sub, abstract := ab, collection := col, hasDel := false } := by unfold PySem.W.clsIn; rw [hC] <;> rfl
  obtain ⟨t1, hoa⟩ := exo_at I.hok ha
  obtain ⟨hh0, g, dr, tk0, os⟩ := s
  dsimp only at *
  refine ks_wpAny_isType_cls (X1 _ _ hC) rfl ⟨rfl, ?_⟩
  refine ks_wpAny_call_super (X1 _ _ hC) rfl hoa rfl (fun c e => by cases e) (PySem.W.looks_mroIn X1 T.own) (fun h2 e2 k2' => ?_)
  have X2 : K.In h2 := X1.keeps k2'
  have IA : PySem.W.InstAt h2 a _ C none := ⟨k2' _ _ hoa, rfl, rfl, trivial⟩
  have hm := T.sup
  unfold PySem.W.ks_superIn at hm
  rw [hcl] at hm
  refine PySem.W.kxs_getMethod PySem.W.kxs_ValueError e2 (PySem.W.looks_opaque X2 T.opq) (l₀ := .ref C :: bm) (fun A Q E s k q => wpAny_bind ((PySem.W.looks_clsIn X2 hcl) A _ E s k (wpAny_pure q))) rfl X2 hm (IA.type.andThen (PySem.W.looks_subIn X2 T.isB)) (PySem.W.ks_ne X2 IA hcl) (by decide) ?_
  -- the wrapper, called
  have I1 : Inv (ncx CX0 P w K mg base N F fI A outer ⟨hh0, g, dr, tk0, os⟩ H E) [(h2.objs.size, PySem.W.kxs_mw "ValueError.__init__" a)] (startF N (.ref a :: ws) [none]) H ⟨h2.push (PySem.W.kxs_mw "ValueError.__init__" a), g, dr, tk + 1, os⟩ :=
    ClX.pin_new (t' := tk + 1) I (fun b o e => Heap.get?_push_of_some _ (k2' _ _ e)) (Nat.le_of_lt (Heap.lt_size e2)) (Heap.get?_push_at rfl rfl) (fun v e => by cases e)
  have He := he (envF F fI hh0.objs.size)
  rw [He]
  refine PySem.W.kxs_callWith (i := "ValueError.__init__") (x := a) (by show (false || (backTo pc (starEach es (envF F fI hh0.objs.size))).any (·.1)) = false; rw [hpl]; rfl) ?_
  refine PySem.Calls.evalArgs_plain ?_
  have hrun := hta.run pc _ _ _ _ _ I1 hq
  change wpAny _ _ (spliced (backTo pc (starEach (e :: es) (envF F fI hh0.objs.size)))) _ _ _ at hrun
  rw [He] at hrun
  refine thn hrun fun vs s1 ⟨ws', H1, I2, r2, hz, a', ha', hb', q⟩ => ?_
  obtain rfl : a = a' := by
    have e : (startF N (.ref a :: ws) [none])[0]? = some (some (V.ref a)) := rfl
    rw [e] at ha'
    exact V.ref.inj (Option.some.inj (Option.some.inj ha'))
  have hu := ClX.pin_at I2
  refine ⟨hu, ?_⟩
  obtain ⟨t2, ho2⟩ := exo_at I2.hok hb'
  have hlen : vs.length ≤ sizeLine := by
    rw [← Paired.length r2, sizeLine_eq]
    omega
  obtain ⟨h3, g3, d3, t3, os3⟩ := s1
  have X3 : K.In h3 := I2.kIn
  dsimp only at *
  refine wpAny_call (codeAny_of_tree ?_)
  show wpAny _ _ (callAny (.ref h2.objs.size) ⟨[] ++ vs, []⟩) _ _ _
  rw [List.nil_append]
  simp only [callAny]
  refine wpAny_bind (wpAny_load hu ?_)
  simp only [PySem.W.kxs_mw, show (Value.type "method-wrapper" == Value.type "method" || Value.type "method-wrapper" == Value.type "builtin_function_or_method" || Value.type "method-wrapper" == Value.type "method-wrapper") = true by decide, if_true]
  refine PySem.W.KFB.if_so (by decide) ?_
  refine wpAny_bind (PySem.W.check_bound_init PySem.F.excBase_ValueError.toExcCallFacts (X3 _ _ hC) ho2 rfl ?_)
  refine wpAny_bind (wpAny_pure (wpAny_pure ?_))
  refine ⟨plainId_quiet PySem.F.excBase_ValueError.init.plain _, codeAny_builtin PySem.F.excBase_ValueError.initEntry ?_⟩
  refine PySem.W.exc_init_tree (cls := .ref C) (t0 := t2) (dv := none) (c2 := .none) (c3 := .none) (b4 := .bool false) ho2 hlen fun h4 k4 e4 _ => ?_
  have J := I2.write (t' := t3) (x := a) (e := a) (o := exo a C none) (by rw [hb']; exact True.intro) (.inl rfl) k4 ⟨_, e4⟩ (exo_ok e4)
  have eu : upd H1 a (exo a C none) = H1 := by
    funext b
    by_cases hb : b = a
    · rw [hb, upd_same, hb']
    · rw [upd_ne hb]
  rw [eu] at J
  have J := ClX.unpin J
  refine wpAt_of_wpAny (wpAny_mono (htr.run [] _ _ _ _ J q) (fun fl s' hs => ?_) fun _ _ z => z)
  have fin : ∀ {σ' : L2.St} {H' : Hp} {v : V} {u : Value}, Inv (ncx CX0 P w K mg base N F fI A outer ⟨hh0, g, dr, tk0, os⟩ H E) [] σ' H' s' → L2.RelV v u → Q v H' → CE outer P w H ⟨hh0, g, dr, tk0, os⟩ Q u s' :=
    fun {σ' H' v u} J rv q => ⟨v, H', J.os, J.bare, J.base, J.hok, rv, q⟩
  cases fl with
  | ret u =>
    obtain ⟨v, σ', H', J, rv, q⟩ := hs
    exact fin J rv q
  | next =>
    obtain ⟨σ', H', J, q⟩ := hs
    exact fin (v := V.non) (u := Value.none) J rfl q
  | brk =>
    obtain ⟨_, _, _, q⟩ := hs
    exact False.elim q
  | cont =>
    obtain ⟨_, _, _, q⟩ := hs
    exact False.elim q
end
end SupX

set_option Elab.async false
set_option linter.all false
set_option maxRecDepth 100000
set_option maxHeartbeats 4000000
/-! Own exceptions in the layer: isinstance of a caught one that has a dict; raise C(line, reason); defs that raise. -/
namespace LK
open PySem PySem.Spec PyProof.Rows L2 NdefX SupX
section
variable {K : PySem.W.Frag} {x D : Addr} {ox : Obj}
theorem kitx_excD (C : ExcC K D) : PySem.W.KitX K (.ref x) (.ref D) (fun h => ∃ od, PySem.W.InstAt h x ox D od) where
  ty := fun _ _ _ ⟨_, I⟩ => I.type
  it := fun _ _ X _ => by
    obtain ⟨cdD, hcD, _⟩ := PySem.W.any_some C.hd
    unfold PySem.W.clsIn at hcD
    split at hcD
    · rename_i c' d' cd' sl' ho
      intro A' Q' E' s' k q
      unfold isType loadHead
      exact wpAny_bind (wpAny_loadPart (k _ _ (X _ _ ho)) (wpAny_pure q))
    · cases hcD
  ne := fun h tp dd its n sl X htp => by
    obtain ⟨cdD, hcD, _⟩ := PySem.W.any_some C.hd
    refine Bool.eq_false_iff.mpr fun q => ?_
    have e : D = tp := Value.ref.inj (beq_iff_eq.mp q)
    subst e
    unfold PySem.W.clsIn at hcD
    split at hcD
    · rename_i c' d' cd' sl' ho
      have z := (X _ _ ho).symm.trans htp
      cases z
    · cases hcD
  ca := fun X ⟨od, I⟩ k => PySem.W.kx_classE X I C.hg C.hk C.hs (PySem.W.findObj_dataE (by obtain ⟨cd, hc, _⟩ := PySem.W.any_some C.hd; rw [hc]; rfl) C.ha C.hn C.ht) C.hm k
end
/-- isinstance(e, c), e the exception that the suite holds, its dict at dd -/
def rIsD (K : PySem.W.Frag) (D a dd : Addr) : List V → Hp → VK → Prop := fun xs H Q => ∃ (c : V) (cv : Value) (b : Bool) (fs : List (Str × V)), xs = [.ref a, c] ∧ (∀ u, RelV c u → u = cv) ∧ PySem.W.kitOne K (.ref D) cv = some b ∧ H dd = some (.xd fs) ∧ Q (.bl b) H
theorem call_isD {X : Cx} {a D dd : Addr} {oe : Obj} {pn : List (Addr × Obj)} (C : ExcC X.K D) (hz : Zc (.ref D) (some dd) oe) (hf : ∃ vs, oe.data = .fields vs) : CallR (X.suite a ((a, oe) :: pn)) (.builtin "isinstance") (rIsD X.K D a dd) := by
  intro pins s σ H xs us Q I r h
  obtain ⟨c, cv, b, fs, rfl, hcv, e, hd, q⟩ := h
  cases r with
  | cons rx rr =>
    cases rr with
    | cons rt rr =>
      cases rr
      cases rx
      have ec := hcv _ rt
      subst ec
      obtain ⟨hget, _⟩ := I.pin (a, oe) (List.mem_append.mpr (.inl List.mem_cons_self))
      obtain ⟨vs, hv⟩ := hf
      have hx : ObjOk X.prog X.w H s.heap dd (.xd fs) := I.hok dd _ hd
      obtain ⟨mA, hns, hr⟩ := hx
      obtain ⟨od, ho, hl⟩ := lookIn_ns hns
      have J : PySem.W.InstAt s.heap a oe D (some od) := ⟨hget, hz.1, by unfold PySem.W.notCls; rw [hv] <;> rfl, by rw [hz.2]; exact ho⟩
      exact PySem.W.kia_one (kitx_excD C) I.kIn ⟨_, J⟩ e (fun z => nomatch z) fun tk => ⟨.bl b, H, I.kept (t' := tk) fun _ _ z => z, rfl, q⟩
/-! ### the class Fault -/
/-- what its __init__ leaves -/
def spFault (K : PySem.W.Frag) (C : Addr) : Sp := fun vs H Q _ => ∃ (a : Addr) (n : Int) (r : Str), vs = [.ref a, .int n, .str r] ∧ H a = some (exo a C none) ∧ n.natAbs < 2 ^ 100 ∧ r.length ≤ 1000 ∧
  ∀ d H', H d = none → H' a = some (exo a C (some d)) → H' d = some (exd d [("reason", .str r), ("line", .int n)]) → (∀ b, b ≠ a → b ≠ d → H' b = H b) → Q .non H'
/-- the class stands at C, its base at B: what a raise and an except ask -/
structure UseF (P : Program) (w : World) (K : PySem.W.Frag) (mg : Str → Option Value) (base : Heap) (C B : Addr) : Prop where
  oex : OexC K C
  xf : XfC K C
  isc : ExcC K C
  mC : mg "Fault" = some (.ref C)
  mB : mg "HoldError" = some (.ref B)
  line : PySem.W.findIn K (.ref C) "line" = some none
  reason : PySem.W.findIn K (.ref C) "reason" = some none
  exm : PySem.W.exmOne K (.ref C) (.ref B) = some true
  ve : PySem.W.kitOne K (.ref C) (.type "ValueError") = some true
  ini : ∃ (fI : Addr) (fd : FuncData), PySem.W.findIn K (.ref C) "__init__" = some (some (.ref fI)) ∧ PySem.W.typeIn K (.ref fI) = some (.type "function") ∧ FnOk P w K mg base CX0 1 fI fd ["self", "line", "reason"] (spFault K C) ∧ Binds K fd ["self", "line", "reason"] []
def faultD (n : Int) (r : Str) : HO := .xd [("reason", .str r), ("line", .int n)]
/-- raise Fault(line, reason) -/
def tRaiseF (C : Addr) (ta : TA) (W : WX) : TS := fun _ σ H => ta σ H fun vs H1 => ∃ (n : Int) (r : Str), vs = [.int n, .str r] ∧ n.natAbs < 2 ^ 100 ∧ r.length ≤ 1000 ∧ ∀ d, H1 d = none → W (.ref C) (some d) σ (upd H1 d (faultD n r))
section
variable {X : Cx} {C B : Addr} {W : WX} {e1 : Expr} {es : List Expr} {ta : TA} {p pos pos2 : Pos}
theorem pa_up (h : PA X es ta) : PA X es (fun σ H Q => ∃ P : List V → Hp → Prop, ta σ H P ∧ ∀ vs H1, P vs H1 → Q vs H1) :=
  ⟨fun pos pins s σ H Q I ⟨P, hP, k⟩ => thn (h.run pos pins s σ H P I hP) fun us s1 ⟨vs, H1, I1, r, q⟩ => ⟨vs, H1, I1, r, k vs H1 q⟩⟩
theorem ps_raiseF (U : UseF X.prog X.w X.K X.mg X.base C B) (hc : X.calm = true) (tk : Takes X W) (hr : Room 2 X.A) (hg : Gl X "Fault") (ha : PA X (e1 :: es) ta)
    (he : starEach (e1 :: es) X.env = (false, eval e1 X.env) :: starEach es X.env := by rfl) (hpl : (backTo pos (starEach es X.env)).any (·.1) = false := by rfl) :
    PS X (.Raise (some (.Call (.Name "Fault" p) (e1 :: es) [] pos)) none pos2) (tRaiseF C ta W) := by
  obtain ⟨fI, fd, i1, i2, ok, hb⟩ := U.ini
  have R := ps_raise (pos := pos2) hc tk (pmk_oex (p := p) (pos := pos) U.oex i1 i2 ok hr hb .nil pass0 hg U.mC (pa_up ha) (by decide) he hpl)
  refine ⟨fun pins s σ H D I h => R.run pins s σ H D I ⟨_, h, ?_⟩⟩
  rintro vs H1 ⟨n, r, rfl, hn, hr, k⟩
  refine ⟨show 2 ≤ 1000 by decide, fun a ha1 => ⟨a, n, r, rfl, upd_same, hn, hr, fun d H2 hd ha2 hd2 keep => ?_⟩⟩
  have hda : d ≠ a := fun e => by
    subst e
    rw [upd_same] at hd
    cases hd
  rw [upd_ne hda] at hd
  refine ⟨rfl, d, _, ha2, hd2, hd, ?_⟩
  have e : upd (del H2 a) d (.xd [("reason", .str r), ("line", .int n)]) = upd H1 d (faultD n r) := by
    funext b
    by_cases hb : b = d
    · subst hb
      rw [upd_same, upd_same]; rfl
    · rw [upd_ne hb, upd_ne hb]
      by_cases hba : b = a
      · subst hba
        rw [del_same, ha1]
      · rw [del_ne hba, keep b hba hb, upd_ne hba]
  rw [e]
  exact k d hd
end
/-! ### the call of a def that may raise -/
section
variable {X : Cx} {CX : CXT} {k : Nat} {f : Addr} {fd : FuncData} {ps : List Str} {sp : Sp} {x : Str} {p pos : Pos} {e : Expr} {es : List Expr} {t : TA}
theorem run_fnSG {pins : List (Addr × Obj)} {σ : L2.St} {H : Hp} {s : Shared} {Q : VK} {us : List Value} {vs : List V} {E : L2.St → XK} (F : FnG X.prog X.w X.K X.mg X.base CX k f fd ps sp) (hr : Room k X.A) (hg : X.A.guards = some []) (hb : Binds X.K fd ps [])
    (hx : PassesAt CX X σ (E σ)) (I : Inv X pins σ H s) (r : Vals vs us) (h : sp vs H Q (E σ)) : wpAny (model X.prog X.w) X.A (call (.ref f) us) (EP X pins σ Q) X.xe s := by
  have hl : (us ++ []).length = ps.length := by rw [List.append_nil, ← r.length, F.len _ _ _ _ h]
  have hbs := hb s us I.kIn hl
  rw [List.append_nil] at hbs
  refine wpAny_call (codeAny_mono (F.run X.A X.stack s H ⟨us, []⟩ us vs Q _ hr hg I.env0 hbs r h) fun res s' hq => ?_)
  match res, hq with
  | .error e, hq => exact hx pins H s e s' I hq
  | .ok (.ret u), hq => exact I.after hq
  | .ok .next, hq => exact hq.elim
  | .ok .brk, hq => exact hq.elim
  | .ok .cont, hq => exact hq.elim
def tUseS (sp : Sp) (E : L2.St → XK) (t : TA) : TE := fun σ H Q => t σ H fun vs H1 => sp vs H1 Q (E σ)
/-- in a try -/
theorem pe_useS {E : L2.St → XK} (U : Use X.prog X.w X.K X.mg X.base CX x k ps sp) (hx : ∀ σ, PassesAt CX X σ (E σ)) (hr : Room k X.A) (gd : X.A.guards = some []) (hg : Gl X x) (ha : PA X (e :: es) t) (hdb : (x == ("__debug__" : Str)) = false := by decide)
    (he : starEach (e :: es) X.env = (false, eval e X.env) :: starEach es X.env := by rfl) (hpl : (backTo pos (starEach es X.env)).any (·.1) = false := by rfl) : PE X (.Call (.Name x p) (e :: es) [] pos) (tUseS sp E t) := by
  obtain ⟨f, fd, ok, hm, kp, hb⟩ := U.ex
  refine ⟨fun pins s σ H Q I h => wpAny_Call_Name_kw (ld_glob I hg hm ?_ hdb)⟩
  exact PySem.W.callWith_K (h₀ := X.base) I.ok.mod.kin kp (thn (ha.run pos pins s σ H _ I h) fun us s1 ⟨vs, H1, I1, r, q⟩ => ⟨I1.kIn, run_fnSG ok hr gd hb (hx _) I1 r q⟩) he hpl
/-- in a def that lets out what the callee lets out -/
theorem pe_useR {E : XK} (U : Use X.prog X.w X.K X.mg X.base (L2.CX X.prog X.w) x k ps sp) (tk : Takes X fun cls d _ H => E cls d H) (hr : Room k X.A) (gd : X.A.guards = some []) (hg : Gl X x) (ha : PA X (e :: es) t) (hdb : (x == ("__debug__" : Str)) = false := by decide)
    (he : starEach (e :: es) X.env = (false, eval e X.env) :: starEach es X.env := by rfl) (hpl : (backTo pos (starEach es X.env)).any (·.1) = false := by rfl) : PE X (.Call (.Name x p) (e :: es) [] pos) (tUse sp E t) :=
  pe_useX U (passes_call tk fun _ _ _ _ h => h) hr gd hg ha hdb he hpl
end
/-! ### Fault's __init__ -/
section
variable {P : Program} {w : World} {K : PySem.W.Frag} {mg : Str → Option Value} {base : Heap} {F : NF} {fI C cc : Addr} {p0 p1 pa pc pe q1 q2 q3 q4 q5 q6 q7 a1 a2 a3 a4 b1 b2 b3 b4 : Pos} {k1 k2 : Nat} {ar : Arg}
theorem fault_ini (T : SupC P K C fI cc F) (hl : PySem.W.findIn K (.ref C) "line" = some none) (hr : PySem.W.findIn K (.ref C) "reason" = some none)
    (S : NScope ["self", "line", "reason", "__class__"] ["self", "line", "reason"] ["__class__"] F.scope)
    (hbd : F.body = [.Expr (.Call (.Attribute (.Call (.Name "super" p0) [] [] p1) "__init__" pa) [.JoinedStr [.Constant (.str "line ") k1 q1, .FormattedValue (.Name "line" q2) (-1) none q3, .Constant (.str ": ") k2 q4, .FormattedValue (.Name "reason" q5) (-1) none q6] q7] [] pc) pe,
      .Assign [.Attribute (.Name "self" a1) "line" a2] (.Name "line" a3) a4, .Assign [.Attribute (.Name "self" b1) "reason" b2] (.Name "reason" b3) b4])
    (hpar : (F.params.posonlyargs ++ F.params.args).head? = some ar) (har : ar.arg = "self") (hks : F.scope.names.lookup ("super" : Str) = some .globalImplicit)
    (hev : ∀ env : Env, ∃ pl : Sem Bool, eval (.Call (.Attribute (.Call (.Name "super" p0) [] [] p1) "__init__" pa) [.JoinedStr [.Constant (.str "line ") k1 q1, .FormattedValue (.Name "line" q2) (-1) none q3, .Constant (.str ": ") k2 q4, .FormattedValue (.Name "reason" q5) (-1) none q6] q7] [] pc) env = (do
      let ov ← attributeBase (.Call (.Name "super" p0) [] [] p1) "__init__" env (eval (.Call (.Name "super" p0) [] [] p1) env)
      standAt pa.atName
      let (f, first) ← holding [ov] (getMethod ov "__init__" pl)
      callWith pc f first (backTo pc (starEach [.JoinedStr [.Constant (.str "line ") k1 q1, .FormattedValue (.Name "line" q2) (-1) none q3, .Constant (.str ": ") k2 q4, .FormattedValue (.Name "reason" q5) (-1) none q6] q7] env)) [])) :
    ∀ fd, (∃ oc od osl, K.lookup fI = some ⟨oc, od, .func fd, osl⟩) → FnOk P w K mg base CX0 1 fI fd ["self", "line", "reason"] (spFault K C) := by
  have v0 : F.scope.names.lookup ("self" : Str) = some .local := S.par _ (by simp)
  have v1 : F.scope.names.lookup ("line" : Str) = some .local := S.par _ (by simp)
  have v2 : F.scope.names.lookup ("reason" : Str) = some .local := S.par _ (by simp)
  refine sup_ok (k := 0) T S (fun vs H Q E h => ?_) (fun vs H Q E h => ?_) hbd hpar har hks (S.frk _ (by simp)) v0 (fun _ => rfl) (fun _ => rfl) hev fun A outer s H vs Q E hroom h => ?_
  · obtain ⟨a, n, r, rfl, _⟩ := h
    rfl
  · obtain ⟨a, n, r, rfl, ha, _⟩ := h
    exact ⟨a, _, rfl, ha⟩
  · obtain ⟨a, n, r, rfl, ha, hn, hz, k⟩ := h
    refine ⟨_, _, pa_cons (pe_joined (.cons pe_str (.cons (pe_fmt (pe_var (i := 1) rfl (.inl v1))) (.cons pe_str (.cons (pe_fmt (pe_var (i := 2) rfl (.inl v2))) .nil))))) pa_nil,
      pss_cons (ps_ost (pe_var (i := 0) rfl (.inl v0)) (pe_var (i := 1) rfl (.inl v1))) (pss_one (ps_ost (pe_var (i := 0) rfl (.inl v0)) (pe_var (i := 2) rfl (.inl v2)))), ?_⟩
    have hln : (Str.ofString (toString n)).length ≤ 2000 := by
      have hl : n.natAbs.log2 < 1900 := Nat.lt_of_lt_of_le (PySem.Flt.log2_lt_of (k := 100) (by decide) hn) (by decide)
      have e := int_text_length_le (k := 1900) (by decide) hl
      rw [PySem.ofString_length]; omega
    have l1 : (Str.empty ++ ("line " : Str)).length = 5 := by decide +kernel
    have l2 : (": " : Str).length = 2 := by decide +kernel
    refine ⟨_, rfl, by rw [l1]; decide, ?_⟩
    refine ⟨_, rfl, .inr ⟨n, rfl, Nat.lt_of_lt_of_le (PySem.Flt.log2_lt_of (k := 100) (by decide) hn) (by decide), _, rfl, ?_, ?_⟩⟩
    · rw [strLen_append, l1]
      exact Nat.le_trans (show 5 + _ ≤ 3000 by omega) (by decide)
    refine ⟨_, rfl, ?_, ?_⟩
    · rw [strLen_append, strLen_append, l1, l2]
      exact Nat.le_trans (show _ ≤ 3000 by omega) (by decide)
    refine ⟨_, rfl, .inl ⟨r, rfl, Nat.le_trans hz (by decide), _, rfl, ?_, ?_⟩⟩
    · rw [strLen_append, strLen_append, strLen_append, l1, l2]
      exact Nat.le_trans (show _ ≤ 5000 by omega) (by decide)
    refine ⟨show 1 ≤ 1000 by decide, a, rfl, ha, ?_⟩
    refine ⟨_, rfl, _, rfl, a, C, rfl, T.oex, hl, .inl ⟨ha, fun d hd hda => ?_⟩⟩
    refine ⟨_, rfl, _, rfl, a, C, rfl, T.oex, hr, .inr ⟨d, [("line", .int n)], upd_same, by rw [upd_ne hda, upd_same], (show 1 ≤ 900 by decide), ?_⟩⟩
    have hd2 : d ≠ a := hda
    refine k d _ hd (by rw [upd_ne (Ne.symm hd2), upd_same]) upd_same fun b hb hbd => ?_
    rw [upd_ne hbd, upd_ne hb, upd_ne hbd]
end
theorem kit_ve {K : PySem.W.Frag} {C : Addr} (h : PySem.W.subIn K (.ref C) (.type "ValueError") = some true) : PySem.W.kitOne K (.ref C) (.type "ValueError") = some true := by
  unfold PySem.W.kitOne PySem.W.kitCls
  rw [if_neg (fun e => by cases (beq_iff_eq.mp e))]
  show (if PySem.W.kitMeta "ValueError" = true then _ else _) = _
  rw [if_pos (by decide +kernel)]
  exact h
def rIsV (K : PySem.W.Frag) (C a : Addr) (cls : Value) (d : Option Addr) : List V → Hp → VK → Prop := fun xs H Q => cls = .ref C ∧ ∃ dd, d = some dd ∧ rIsD K C a dd xs H Q
theorem call_isV {X : Cx} {a C : Addr} {oe : Obj} {cls : Value} {d : Option Addr} {pn : List (Addr × Obj)} (T : ExcC X.K C) (hz : Zc cls d oe) (hf : ∃ vs, oe.data = .fields vs) : CallR (X.suite a ((a, oe) :: pn)) (.builtin "isinstance") (rIsV X.K C a cls d) := by
  intro pins s σ H xs us Q I r h
  obtain ⟨rfl, dd, rfl, q⟩ := h
  exact call_isD T hz hf pins s σ H xs us Q I r q
/-! ### from the top's facts -/
abbrev nfF (st : Stmt) (cc cda : Addr) : NF := ⟨"__init__", "Fault.__init__", defArgs st, defBody st, defScope st, [(("__class__" : Str), cc)], cda⟩
structure FaultK (P : Program) (K : PySem.W.Frag) (st : Stmt) (C B fI cc cda : Addr) : Prop where
  gC : PySem.W.nsIn K mainGlobals "Fault" = some (some (.ref C))
  gB : PySem.W.nsIn K mainGlobals "HoldError" = some (some (.ref B))
  sup : SupC P K C fI cc (nfF st cc cda)
  xf : XfC K C
  isc : ExcC K C
  line : PySem.W.findIn K (.ref C) "line" = some none
  reason : PySem.W.findIn K (.ref C) "reason" = some none
  exm : PySem.W.exmOne K (.ref C) (.ref B) = some true
  ini : PySem.W.findIn K (.ref C) "__init__" = some (some (.ref fI))
  ity : PySem.W.typeIn K (.ref fI) = some (.type "function")
def HasFault (P : Program) (K : PySem.W.Frag) (st : Stmt) : Prop := ∃ C B fI cc cda, FaultK P K st C B fI cc cda
section
variable {P : Program} {K : PySem.W.Frag} {st : Stmt} {C B fI cc cda : Addr} {nm q : Str} {N : Addr} {bs bm : List Value} {sn : List Str} {sub : List Value} {ab : Bool} {col : Option Bool} {dd : Option Addr} {k0 k1 k2 k3 k5 : Option Value}
  {oc : Value} {od : Option Addr} {doc pm ctv : Value} {osl : Array (Option Value)} {ccl : Value} {cdd : Option Addr} {vs : Array Value} {ccs : Array (Option Value)} {file : Str} {tf : Tok} {xcl : Value} {xld : Option Addr} {xsl : Array (Option Value)}
theorem HasFault.mk' (a1 : PySem.W.nsIn K mainGlobals "Fault" = some (some (.ref C))) (a2 : PySem.W.nsIn K mainGlobals "HoldError" = some (some (.ref B)))
    (a3 : K.lookup C = some (excClassObj nm q C N bs bm true sn sub ab col dd k0 k1 k2 k3 k5 "ValueError.__new__")) (a4 : PySem.HandSPX.refsVE bm = true)
    (a5 : PySem.W.findIn K (.ref C) "__setattr__" = some (some (.builtin "object.__setattr__"))) (a6 : PySem.W.subIn K (.ref C) (.type "BaseException") = some true) (a7 : PySem.W.typeIn K (.ref C) = some (.type "type")) (a8 : PySem.W.keepIn K (.ref C) = true)
    (b1 : PySem.W.findIn K (.ref C) "__init__" = some (some (.ref fI))) (b2 : PySem.W.typeIn K (.ref fI) = some (.type "function"))
    (b3 : K.lookup fI = some ⟨oc, od, .func ((nfF st cc cda).fd doc pm ctv), osl⟩) (b4 : PySem.W.codeIn K (.ref cda) "Fault.__init__" = true)
    (b5 : K.lookup cda = some ⟨ccl, cdd, .fields vs, ccs⟩) (b6 : vs[2]? = some (.str file tf)) (b7 : ((P.main.file : Str) == file) = true) (b8 : (P.main.scope.names.lookup ("super" : Str)).isSome = false)
    (c1 : K.lookup cc = some ⟨xcl, xld, .cell (some (.ref C)), xsl⟩) (c2 : PySem.W.mroIn K C (.ref C) = some true) (c3 : PySem.W.subIn K (.ref C) (.type "ValueError") = some true)
    (c4 : PySem.W.ks_superIn K C C "__init__" = some (some (.builtin "ValueError.__init__"))) (c5 : PySem.W.nsIn K cStatics "thirdparty.any" = some none) (c6 : PySem.W.nsIn K mainGlobals "super" = some none)
    (d1 : PySem.W.findIn K (.ref C) "__getattribute__" = some (some (.builtin "BaseException.__getattribute__"))) (d2 : PySem.W.findIn K (.ref C) "__getattr__" = some none) (d3 : PySem.W.hasDictIn K C = true)
    (d4 : PySem.W.findIn K (.ref C) "__class__" = some (some (.builtin "object.__class__"))) (d5 : PySem.W.specialIn K (.builtin "object.__class__") "__get__" = some (some (.builtin "getset_descriptor.__get__")))
    (d6 : PySem.W.takesIn K (.builtin "object.__class__") = some true) (d7 : PySem.W.mroIn K C (.type "object") = some true)
    (e1 : PySem.W.findIn K (.ref C) "line" = some none) (e2 : PySem.W.findIn K (.ref C) "reason" = some none) (e3 : PySem.W.subIn K (.ref B) (.type "BaseException") = some true) (e4 : PySem.W.hasDictIn K B = true) (e5 : PySem.W.typeIn K (.ref B) = some (.type "type")) (e6 : PySem.W.subIn K (.ref C) (.ref B) = some true) : HasFault P K st :=
  ⟨C, B, fI, cc, cda, a1, a2, ⟨⟨⟨nm, q, N, bs, bm, sn, sub, ab, col, dd, k0, k1, k2, k3, k5, a3, a4⟩, a5, a6, a7, a8⟩, ⟨oc, od, doc, pm, ctv, osl, b3⟩, rfl, b4, ⟨ccl, cdd, vs, ccs, file, tf, b5, b6, b7⟩, b8, ⟨xcl, xld, xsl, c1⟩, c2, c3, c4, c5, c6⟩,
    ⟨d1, d2, a6, d3⟩, ⟨d1, d2, a6, d3, d4, d5, d6, d7⟩, e1, e2, PySem.W.exm_ref e3 e4 e5 e6, b1, b2⟩
end
section
variable {P : Program} {w : World} {K : PySem.W.Frag} {mg : Str → Option Value} {base h : Heap} {st : Stmt} {p0 p1 pa pc pe q1 q2 q3 q4 q5 q6 q7 a1 a2 a3 a4 b1 b2 b3 b4 : Pos} {k1 k2 : Nat} {ar : Arg}
theorem mk_useF (f : HasFault P K st) (X : K.In h) (G : h.Ns mainGlobals mg)
    (S : NScope ["self", "line", "reason", "__class__"] ["self", "line", "reason"] ["__class__"] (defScope st))
    (hbd : defBody st = [.Expr (.Call (.Attribute (.Call (.Name "super" p0) [] [] p1) "__init__" pa) [.JoinedStr [.Constant (.str "line ") k1 q1, .FormattedValue (.Name "line" q2) (-1) none q3, .Constant (.str ": ") k2 q4, .FormattedValue (.Name "reason" q5) (-1) none q6] q7] [] pc) pe,
      .Assign [.Attribute (.Name "self" a1) "line" a2] (.Name "line" a3) a4, .Assign [.Attribute (.Name "self" b1) "reason" b2] (.Name "reason" b3) b4])
    (hpar : ((defArgs st).posonlyargs ++ (defArgs st).args).head? = some ar) (har : ar.arg = "self") (hks : (defScope st).names.lookup ("super" : Str) = some .globalImplicit)
    (hev : ∀ env : Env, ∃ pl : Sem Bool, eval (.Call (.Attribute (.Call (.Name "super" p0) [] [] p1) "__init__" pa) [.JoinedStr [.Constant (.str "line ") k1 q1, .FormattedValue (.Name "line" q2) (-1) none q3, .Constant (.str ": ") k2 q4, .FormattedValue (.Name "reason" q5) (-1) none q6] q7] [] pc) env = (do
      let ov ← attributeBase (.Call (.Name "super" p0) [] [] p1) "__init__" env (eval (.Call (.Name "super" p0) [] [] p1) env)
      standAt pa.atName
      let (f, first) ← holding [ov] (getMethod ov "__init__" pl)
      callWith pc f first (backTo pc (starEach [.JoinedStr [.Constant (.str "line ") k1 q1, .FormattedValue (.Name "line" q2) (-1) none q3, .Constant (.str ": ") k2 q4, .FormattedValue (.Name "reason" q5) (-1) none q6] q7] env)) []))
    (hb : ∀ (cc cda : Addr) (doc pm ctv : Value) (us : List Value), us.length = 3 → bindArgs ((nfF st cc cda).fd doc pm ctv) ⟨us, []⟩ = pure ((["self", "line", "reason"] : List Str).zip us)) :
    ∃ C B, UseF P w K mg base C B := by
  obtain ⟨C, B, fI, cc, cda, f⟩ := f
  obtain ⟨oc, od, doc, pm, ctv, osl, lk⟩ := f.sup.fn
  exact ⟨C, B, f.sup.oex, f.xf, f.isc, PySem.W.mg_of X G f.gC, PySem.W.mg_of X G f.gB, f.line, f.reason, f.exm, kit_ve f.sup.isB, fI, _, f.ini, f.ity, fault_ini f.sup f.line f.reason S hbd hpar har hks hev _ ⟨oc, od, osl, lk⟩, .all (hb cc cda doc pm ctv)⟩
end
end LK

set_option Elab.async false
set_option linter.all false
set_option maxRecDepth 100000
set_option maxHeartbeats 4000000
/-! dicts of the top: what a literal dict of the program gives, read where it stands. -/
namespace LK
open PySem PySem.Spec PyProof.Rows L2
/-- at a lies a dict of the top with these entries -/
def KDct (P : Program) (w : World) (K : PySem.W.Frag) (a : Addr) (kvs : List (Key × V)) : Prop := (a == sysModules) = false ∧ ∃ vs, KV kvs vs ∧ ∀ h : Heap, K.In h → h.DictOf (mixKind P w) a vs
def tDGetK (P : Program) (w : World) (K : PySem.W.Frag) (td ty : TE) : TE := fun σ H Q => td σ H fun x H1 => ty σ H1 fun y H2 => ∃ a kvs k v, x = .ref a ∧ KDct P w K a kvs ∧ y = kV k ∧ valV kvs k = some v ∧ Q v H2
def tDInK (P : Program) (w : World) (K : PySem.W.Frag) (ty td : TE) : TE := fun σ H Q => ty σ H fun y H1 => td σ H1 fun x H2 => ∃ a kvs k, x = .ref a ∧ KDct P w K a kvs ∧ y = kV k ∧ Q (.bl (valV kvs k).isSome) H2
section
variable {X : Cx} {o i : Expr} {pos : Pos} {td ty : TE}
theorem pe_dgetK (ho : PE X o td) (hi : PE X i ty) (hs : NoSl i) : PE X (.Subscript o i pos) (tDGetK X.prog X.w X.K td ty) := by
  refine ⟨fun pins s σ H Q I h => ?_⟩
  refine subD_of PySem.F.slot_dict_getitem.lookup hs (thn (ho.run pins s σ H _ I h) fun u s1 ⟨x, H1, I1, rx, q1⟩ => thn (hi.run pins s1 σ H1 _ I1 q1) fun iv s2 ⟨y, H2, I2, ry, a, kvs, k, v, ex, ⟨hsys, vs, rel, dd⟩, ey, l, q2⟩ => ?_)
  subst ex ey
  obtain rfl : u = Value.ref a := rx
  have dd := dd _ I2.kIn
  refine ⟨dd.typeIs, ?_⟩
  obtain ⟨w', hw, rw'⟩ := RelO.some_of (v := v) (o := valueAt vs k) (by rw [← l]; exact rel.val k)
  exact wpAny_getItem_of (kV_is ry) dd.mapOf hw ⟨v, H2, I2.tok _, rw', q2⟩
theorem pc_dinK (hi : PE X i ty) (ho : PE X o td) : PC X .In i o (tDInK X.prog X.w X.K ty td) := by
  refine ⟨fun pins s σ H Q I h => ?_⟩
  refine thn (hi.run pins s σ H _ I h) fun iv s1 ⟨y, H1, I1, ry, q1⟩ => thn (ho.run pins s1 σ H1 _ I1 q1) fun u s2 ⟨x, H2, I2, rx, a, kvs, k, ex, ⟨hsys, vs, rel, dd⟩, ey, q2⟩ => ?_
  subst ex ey
  obtain rfl : u = Value.ref a := rx
  have dd := dd _ I2.kIn
  refine wpAny_in_of (kV_is ry) hsys dd.mapOf ?_
  rw [← (rel.val k).isSome_eq]
  exact ⟨.bl _, H2, I2.tok _, rfl, q2⟩
end
/-! its fact from the top -/
def HasDct (P : Program) (w : World) (K : PySem.W.Frag) (x : Str) (kvs : List (Key × V)) : Prop := ∃ a, PySem.W.nsIn K mainGlobals x = some (some (.ref a)) ∧ KDct P w K a kvs
structure UseD (P : Program) (w : World) (K : PySem.W.Frag) (mg : Str → Option Value) (x : Str) (kvs : List (Key × V)) : Prop where
  ex : ∃ a, mg x = some (.ref a) ∧ KDct P w K a kvs
/-- entries whose keys and values are texts -/
inductive DEnt (w : World) : List DictEntry → List (Str × Str) → Prop
  | nil : DEnt w [] []
  | cons {e : DictEntry} {es : List DictEntry} {k v : Str} {ps : List (Str × Str)} {t t' : Tok} : e.key = .str k t → e.hash = hashStr w k → e.val = .str v t' → DEnt w es ps → DEnt w (e :: es) ((k, v) :: ps)
def txtKV (ps : List (Str × Str)) : List (Key × V) := ps.map fun p => (.inr p.1, .str p.2)
theorem DEnt.pairs {P : Program} {w : World} : ∀ {es : List DictEntry} {ps : List (Str × Str)}, DEnt w es ps → ∃ vs : List (Key × Value), KV (txtKV ps) vs ∧ PySem.Pairs (mixKind P w) es vs ∧ vs.map (·.1) = ps.map (fun p => (Sum.inr p.1 : Key)) ∧ ∀ e ∈ es, ∃ k, (mixKind P w).is k e.key = true ∧ e.hash = (mixKind P w).hash k
  | _, _, .nil => ⟨[], .nil, .nil, rfl, fun _ h => by cases h⟩
  | _, _, .cons (k := k) (v := v) (t := t) (t' := t') hk hh hv r => by
    obtain ⟨vs, a, b, c, d⟩ := DEnt.pairs (P := P) r
    refine ⟨(.inr k, .str v t') :: vs, .cons ⟨rfl, ⟨_, rfl⟩⟩ a, .cons (by rw [hk]; exact mixKind_str P w k t) hv b, by rw [List.map_cons, c]; rfl, fun e he => ?_⟩
    rcases List.mem_cons.mp he with rfl | he
    · exact ⟨.inr k, by rw [hk]; exact mixKind_str P w k t, hh⟩
    · exact d e he
theorem nodup_inr : ∀ {xs : List Str}, xs.Nodup → (xs.map (Sum.inr : Str → Key)).Nodup
  | [], _ => .nil
  | x :: r, h => by
    obtain ⟨h1, h2⟩ := List.nodup_cons.mp h
    refine List.nodup_cons.mpr ⟨fun hm => ?_, nodup_inr h2⟩
    obtain ⟨y, hy, e⟩ := List.mem_map.mp hm
    exact h1 (Sum.inr.inj e ▸ hy)
theorem HasDct.mk' {P : Program} {w : World} {K : PySem.W.Frag} {x : Str} {ps : List (Str × Str)} {a : Addr} {es : Array DictEntry} {ep : Nat} (h : PySem.W.nsIn K mainGlobals x = some (some (.ref a)))
    (b : K.lookup a = some { cls := .type "dict", data := .dict es ep }) (hs : (a == sysModules) = false) (c : DEnt w es.toList ps) (nd : (ps.map (·.1)).Nodup) : HasDct P w K x (txtKV ps) := by
  obtain ⟨vs, v1, v2, v3, v4⟩ := DEnt.pairs (P := P) c
  refine ⟨a, h, hs, vs, v1, fun hh hK => ⟨_, es, ep, hK a _ b, ⟨rfl, rfl, rfl⟩, rfl, fun e he => v4 e (Array.mem_toList_iff.mpr he), v2, ?_⟩⟩
  rw [v3]
  have : ps.map (fun p => (Sum.inr p.1 : Key)) = (ps.map (·.1)).map Sum.inr := by rw [List.map_map]; rfl
  rw [this]
  exact nodup_inr nd
theorem HasDct.g {P : Program} {w : World} {K : PySem.W.Frag} {mg : Str → Option Value} {h : Heap} {x : Str} {kvs : List (Key × V)} (D : HasDct P w K x kvs) (X : K.In h) (G : h.Ns mainGlobals mg) : UseD P w K mg x kvs := by
  obtain ⟨a, e, k⟩ := D
  exact ⟨a, PySem.W.mg_of X G e, k⟩
end LK

set_option Elab.async false
set_option linter.all false
set_option maxRecDepth 100000
set_option maxHeartbeats 4000000
/-! Defs whose body replaces signs (a token is out when it begins); not in, of a dict of the top. -/
namespace LK
open PySem PySem.Spec PyProof.Rows L2 SX
section
variable {P : Program} {w : World} {K : PySem.W.Frag} {mg : Str → Option Value} {base : Heap} {CX : CXT}
theorem okT {x qual : Str} {st : Stmt} {f : Addr} {fd : FuncData} {N ps : List Str} {k : Nat} {sp : Sp} (F : Fun K x qual st f fd) (S : FnScope N ps (defScope st)) (hnc : ∀ y ∈ (defScope st).names, y.2 ≠ .cell) (hps : 1 ≤ ps.length)
    (len : ∀ vs H Q E, sp vs H Q E → vs.length = ps.length)
    (body : ∀ (cdv : Value) (A : Around) (outer : List Env) (s : Shared) (H : Hp) (vs : List V) (Q : VK) (E : XK), Room k (A.deeper (envOfC qual (defScope st) s.heap.objs.size f cdv)) → sp vs H Q E →
      ∃ t, PSsT (cxOf CX P w K mg base N qual (defScope st) f cdv A outer s H E) (defBody st) t ∧ t { nx := fun _ H' => Q .non H', rt := Q } (start N vs) H) :
    FnG P w K mg base CX (k + 1) f fd ps sp := by
  obtain ⟨oc, od, kV, doc, pm, an, cdv, ct, osl, rfl, lk, hcd⟩ := F.ex
  have G := fn_ofT (CX := CX) (P := P) (w := w) (mg := mg) (base := base) lk hcd S hnc hps len (body cdv)
  exact ⟨len, fun A outer s H args us vs Q E hr _ e0 hb r hs => G.run A outer s H args us vs Q E hr e0 hb r hs⟩
end
section
variable {X : Cx}
theorem pst_set {i : Nat} {x : Str} {e : Expr} {te : TE} {pos pos' : Pos} (hN : X.N.Nodup) (hi : X.N[i]? = some x) (hx : Loc X.env.scope x) (he : PET X e te) (hs : swapsWith e (some (.Name x pos')) pos.line X.env = pure false := by rfl)
    (hf : X.fn x = true ∨ X.env.scope.names.lookup x = some .local := by first | exact .inl rfl | exact .inr rfl) : PST X (.Assign [.Name x pos'] e pos) (tAsg te (gName i)) := by
  intro pins s σ H D h0 I h
  exact wpAny_Assign_Name (thn (he pins s σ H _ h0 I h) fun v s1 ⟨y, H1, I1, r1, q1⟩ => store_ok I1 hN hi hx r1 (fun s2 I2 => ⟨_, H1, I2, q1⟩) hf) hs
def tNotInK (P : Program) (w : World) (K : PySem.W.Frag) (ty td : TE) : TE := fun σ H Q => ty σ H fun y H1 => td σ H1 fun x H2 => ∃ a kvs k, x = .ref a ∧ KDct P w K a kvs ∧ y = kV k ∧ Q (.bl (!(valV kvs k).isSome)) H2
theorem pc_dnotinK {o i : Expr} {td ty : TE} (hi : PE X i ty) (ho : PE X o td) : PC X .NotIn i o (tNotInK X.prog X.w X.K ty td) := by
  refine ⟨fun pins s σ H Q I h => ?_⟩
  refine thn (hi.run pins s σ H _ I h) fun iv s1 ⟨y, H1, I1, ry, q1⟩ => thn (ho.run pins s1 σ H1 _ I1 q1) fun u s2 ⟨x, H2, I2, rx, a, kvs, k, ex, ⟨low, vs, rel, dd⟩, ey, q2⟩ => ?_
  subst ex ey
  obtain rfl : u = Value.ref a := rx
  refine wpAny_notIn_of (kV_is ry) low (dd _ I2.kIn).mapOf ?_
  rw [← (rel.val k).isSome_eq]
  exact ⟨.bl _, H2, I2.tok _, rfl, q2⟩
end
/-- each c of a text by z -/
theorem replace_S (a z : List Nat) (c : Nat) : Txt.replace (S a) (S [c]) (S z) = S (a.flatMap fun x => if x = c then z else [x]) := by
  refine TL.ext_tl ?_
  refine (StrLaws.replace_list (x := S a) (y := S [c]) (z := S z) (by rw [S_len]; exact Nat.le_refl _)).trans ?_
  show StrLaws.replL [c] z a = _
  have go : ∀ l : List Nat, StrLaws.replL [c] z l = l.flatMap fun x => if x = c then z else [x] := fun l => by
    induction l with
    | nil => exact StrLaws.replL_nil
    | cons d r ih =>
      rw [List.flatMap_cons]
      by_cases e : d = c
      · subst e
        rw [StrLaws.replL_hit (by simp) (by simp), if_pos rfl]
        exact congrArg (z ++ ·) ih
      · rw [StrLaws.replL_miss (by simpa using e), if_neg e, ih]
        rfl
  exact go a
end LK

set_option Elab.async false
set_option linter.all false
set_option maxRecDepth 100000
set_option maxHeartbeats 4000000
/-! Classes of one's own in the layer: fields, instances made, methods called. -/
namespace LK
open PySem PySem.Spec PyProof.Rows L2
/-- none of the names stands in the class -/
inductive NoAll (K : PySem.W.Frag) (C : Addr) : List Str → Prop
  | nil : NoAll K C []
  | cons {f : Str} {r : List Str} (h : PySem.W.findIn K (.ref C) f = some none) (t : NoAll K C r) : NoAll K C (f :: r)
theorem NoAll.at {K : PySem.W.Frag} {C : Addr} {f : Str} : ∀ {fs : List Str}, NoAll K C fs → fs.contains f = true → NoAttr K C f
  | _, .nil, h => by cases h
  | g :: r, .cons a t, h => by
    by_cases e : f = g
    · subst e; exact a
    · refine NoAll.at t ?_
      rw [List.contains_cons] at h
      rcases Bool.or_eq_true_iff.mp h with q | q
      · exact absurd (eq_of_beq q) e
      · exact q
/-- the class x as the top leaves it, at C, with the fields fs -/
structure ClsK (K : PySem.W.Frag) (x : Str) (fs : List Str) (C : Addr) : Prop where
  ns : PySem.W.nsIn K mainGlobals x = some (some (.ref C))
  cl : Cls K C
  mks : PySem.W.makesIn K C = true
  kp : PySem.W.keepIn K (.ref C) = true
  no : NoAll K C fs
theorem ClsK.mk' {K : PySem.W.Frag} {x : Str} {fs : List Str} {C : Addr} (a : PySem.W.nsIn K mainGlobals x = some (some (.ref C))) (pg : PySem.W.plainGet K C Str.empty = true) (hd : PySem.W.hasDictIn K C = true) (po : PySem.W.plainOver K C = true)
    (sa : PySem.W.findIn K (.ref C) "__setattr__" = some (some (.builtin "object.__setattr__"))) (mk : PySem.W.makesIn K C = true) (kp : PySem.W.keepIn K (.ref C) = true) (no : NoAll K C fs) : ClsK K x fs C := ⟨a, ⟨pg, hd, po, sa⟩, mk, kp, no⟩
structure UseC (K : PySem.W.Frag) (mg : Str → Option Value) (x : Str) (fs : List Str) (C : Addr) : Prop where
  cl : Cls K C
  no : NoAll K C fs
  mg : mg x = some (.ref C)
theorem ClsK.g {K : PySem.W.Frag} {mg : Str → Option Value} {h : Heap} {x : Str} {fs : List Str} {C : Addr} (k : ClsK K x fs C) (X : K.In h) (G : h.Ns mainGlobals mg) : UseC K mg x fs C := ⟨k.cl, k.no, PySem.W.mg_of X G k.ns⟩
/-- a method as the top leaves it -/
def HasMeth (K : PySem.W.Frag) (C : Addr) (m q : Str) (st : Stmt) : Prop := ∃ (f : Addr) (oc : Value) (od an : Option Addr) (kV doc pm cdv ct : Value) (osl : Array (Option Value)),
  PySem.W.findIn K (.ref C) m = some (some (.ref f)) ∧ PySem.W.isFn K (.ref f) = true ∧ PySem.W.keepIn K (.ref f) = true ∧
  K.lookup f = some ⟨oc, od, .func (PySem.W.fnOf m q (defArgs st) (defBody st) (defScope st) .none kV doc pm an cdv ct), osl⟩ ∧ PySem.W.codeIn K cdv q = true
theorem HasMeth.mk' {K : PySem.W.Frag} {C : Addr} {m q : Str} {st : Stmt} {f : Addr} {oc : Value} {od an : Option Addr} {kV doc pm cdv ct : Value} {osl : Array (Option Value)} (a : PySem.W.findIn K (.ref C) m = some (some (.ref f))) (i : PySem.W.isFn K (.ref f) = true)
    (k : PySem.W.keepIn K (.ref f) = true) (b : K.lookup f = some ⟨oc, od, .func (PySem.W.fnOf m q (defArgs st) (defBody st) (defScope st) .none kV doc pm an cdv ct), osl⟩) (c : PySem.W.codeIn K cdv q = true) : HasMeth K C m q st :=
  ⟨f, oc, od, an, kV, doc, pm, cdv, ct, osl, a, i, k, b, c⟩
/-- a method may be called -/
structure UseM (P : Program) (w : World) (K : PySem.W.Frag) (mg : Str → Option Value) (base : Heap) (CX : CXT) (C : Addr) (m : Str) (k : Nat) (ps : List Str) (sp : Sp) : Prop where
  ex : ∃ (f : Addr) (fd : FuncData), FnG P w K mg base CX k f fd ps sp ∧ Meth K C m f ∧ Binds K fd ps []
/-- an instance may be made -/
structure UseK (P : Program) (w : World) (K : PySem.W.Frag) (mg : Str → Option Value) (base : Heap) (x : Str) (C : Addr) (k : Nat) (ps : List Str) (sp : Sp) : Prop where
  ex : ∃ (f : Addr) (fd : FuncData), FnOk P w K mg base CX0 k f fd ps sp ∧ Mk K C f ∧ Binds K fd ps [] ∧ mg x = some (.ref C)
section
variable {P : Program} {w : World} {K : PySem.W.Frag} {mg : Str → Option Value} {base h : Heap} {CX : CXT} {C : Addr} {m q x : Str} {st : Stmt} {k : Nat} {ps fs : List Str} {sp : Sp}
theorem mk_useM (F : HasMeth K C m q st) (hb : ∀ (kV doc pm : Value) (an : Option Addr) (cdv ct : Value) (us : List Value), us.length = ps.length → bindArgs (PySem.W.fnOf m q (defArgs st) (defBody st) (defScope st) .none kV doc pm an cdv ct) ⟨us, []⟩ = pure (ps.zip us))
    (ok : ∀ (f : Addr) (fd : FuncData), Fun K m q st f fd → FnG P w K mg base CX k f fd ps sp) : UseM P w K mg base CX C m k ps sp := by
  obtain ⟨f, oc, od, an, kV, doc, pm, cdv, ct, osl, a, i, kp, b, c⟩ := F
  have Fn := fun_mk (st := st) b c kp
  exact ⟨f, _, ok f _ Fn, ⟨a, i, kp⟩, Fn.binds hb⟩
theorem mk_useK (k0 : ClsK K x fs C) (F : HasMeth K C "__init__" q st) (X : K.In h) (G : h.Ns mainGlobals mg) (hb : ∀ (kV doc pm : Value) (an : Option Addr) (cdv ct : Value) (us : List Value), us.length = ps.length → bindArgs (PySem.W.fnOf "__init__" q (defArgs st) (defBody st) (defScope st) .none kV doc pm an cdv ct) ⟨us, []⟩ = pure (ps.zip us))
    (ok : ∀ (f : Addr) (fd : FuncData), Fun K "__init__" q st f fd → FnOk P w K mg base CX0 k f fd ps sp) : UseK P w K mg base x C k ps sp := by
  obtain ⟨f, oc, od, an, kV, doc, pm, cdv, ct, osl, a, i, kp, b, c⟩ := F
  have Fn := fun_mk (st := st) b c kp
  exact ⟨f, _, ok f _ Fn, ⟨k0.mks, a, i, k0.kp⟩, Fn.binds hb, PySem.W.mg_of X G k0.ns⟩
theorem UseM.imp {sp' : Sp} (U : UseM P w K mg base CX C m k ps sp) (i : ∀ vs H Q E, sp' vs H Q E → sp vs H Q E) : UseM P w K mg base CX C m k ps sp' := by
  obtain ⟨f, fd, ok, r⟩ := U.ex
  exact ⟨f, fd, ok.imp i, r⟩
end
/-! ### readings -/
def tFd (C : Addr) (ta : TE) (f : Str) : TE := fun σ H Q => ta σ H fun x H1 => ∃ a dx gs v, x = .ref a ∧ H1 a = some (.ins C dx gs) ∧ gs.lookup f = some v ∧ Q v H1
def sFd (C : Addr) (ta tv : TE) (f : Str) : TS := fun D σ H => tv σ H fun y H1 => ta σ H1 fun x H2 => ∃ a dx gs, x = .ref a ∧ H2 a = some (.ins C dx gs) ∧ gs.length < 1000 ∧ D.nx σ (upd H2 a (.ins C dx (putF f y gs)))
def sFdAug (C : Addr) (ta tv : TE) (rd : V → V → Hp → VK → Prop) (f : Str) : TS := fun D σ H => ta σ H fun x H1 => ∃ a dx gs v, x = .ref a ∧ H1 a = some (.ins C dx gs) ∧ gs.lookup f = some v ∧
  tv σ H1 fun y H2 => rd v y H2 fun z H3 => ∃ dx' gs', H3 a = some (.ins C dx' gs') ∧ gs'.length < 1000 ∧ D.nx σ (upd H3 a (.ins C dx' (putF f z gs')))
def tMc (C : Addr) (m : Str) (sp : Sp) (E : XK) (ta : TE) (t : TA) : TE := fun σ H Q => ta σ H fun x H1 => ∃ a dx gs, x = .ref a ∧ H1 a = some (.ins C dx gs) ∧ gs.lookup m = none ∧ t σ H1 fun vs H2 => sp (.ref a :: vs) H2 Q E
def tMk (C : Addr) (sp : Sp) (t : TA) : TE := fun σ H Q => t σ H fun vs H1 => ∀ x dx, H1 x = none → H1 dx = none → dx ≠ x → sp (.ref x :: vs) (upd (upd H1 dx (.own x)) x (.ins C dx [])) (fun v H2 => v = .non ∧ Q (.ref x) H2) E0
section
variable {X : Cx} {CX : CXT} {C : Addr} {x m f : Str} {fs ps : List Str} {k : Nat} {sp : Sp} {o e value : Expr} {es : List Expr} {p pos pos' tpos apos : Pos} {ta tv : TE} {t : TA}
theorem pe_fd (U : UseC X.K X.mg x fs C) (hf : fs.contains f = true) (he : PE X e ta) (hb : attributeBase e f X.env (eval e X.env) = eval e X.env := by rfl) : PE X (.Attribute e f pos) (tFd C ta f) := by
  refine ⟨fun pins s σ H Q I h => ?_⟩
  refine attr_of hb (thn (he.run pins s σ H _ I h) fun u s1 ⟨x, H1, I1, rx, a, dx, fs, v, ex, ea, l, q⟩ => ?_)
  subst ex
  obtain rfl : u = Value.ref a := rx
  exact getattr_ok I1 ea U.cl (U.no.at hf) l fun u' s2 I2 ru => ⟨v, H1, I2, ru, q⟩
theorem ps_fd (U : UseC X.K X.mg x fs C) (hf : fs.contains f = true) (ha : PE X o ta) (hv : PE X value tv) (hs : swapsWith value (some (.Attribute o f pos')) pos.line X.env = pure false := by rfl) : PS X (.Assign [.Attribute o f pos'] value pos) (sFd C ta tv f) := by
  refine ⟨fun pins s σ H D I h => ?_⟩
  refine plainObj_wpAny_Assign_Attribute (thn (hv.run pins s σ H _ I h) fun u s1 ⟨y, H1, I1, ry, q⟩ => thn (ha.run pins s1 σ H1 _ I1 q) fun ov s2 ⟨x, H2, I2, rx, a, dx, fs, ex, ea, l, q2⟩ => ?_) hs
  subst ex
  obtain rfl : ov = Value.ref a := rx
  exact setattr_ok I2 ea U.cl (U.no.at hf) l ry fun s3 I3 => ⟨σ, _, I3, q2⟩
theorem ps_fdaug (U : UseC X.K X.mg x fs C) (hf : fs.contains f = true) {op : Operator} {rd : V → V → Hp → VK → Prop} (ha : PE X o ta) (hv : PE X value tv) (hop : InOp X op rd) : PS X (.AugAssign (.Attribute o f tpos) op value pos) (sFdAug C ta tv rd f) := by
  refine ⟨fun pins s σ H D I h => ?_⟩
  refine wpAny_AugAssign_AttributeAny (thn (ha.run pins s σ H _ I h) fun ov s1 ⟨x, H1, I1, rx, a, dx, fs, v, ex, ea, l, q⟩ => ?_)
  subst ex
  obtain rfl : ov = Value.ref a := rx
  refine getattr_ok I1 ea U.cl (U.no.at hf) l fun u s2 I2 ru => thn (hv.run pins s2 σ H1 _ I2 q) fun w3 s3 ⟨y, H2, I3, ry, q3⟩ => thn (hop pins s3 σ H2 v y u w3 _ I3 ru ry q3) fun w4 s4 ⟨z, H3, I4, rz, dx', fs', ea', l', q4⟩ => ?_
  exact setattr_ok I4 ea' U.cl (U.no.at hf) l' rz fun s5 I5 => ⟨σ, _, I5, q4⟩
/-- o.m(e, ..) -/
theorem pe_mc {E : XK} {pl : Sem Bool} (U : UseC X.K X.mg x fs C) (M : UseM X.prog X.w X.K X.mg X.base CX C m k ps sp) (hx : Passes CX X E) (hr : Room k X.A) (gd : X.A.guards = some []) (he : PE X o ta) (ha : PA X (e :: es) t)
    (hst : starEach (e :: es) X.env = (false, eval e X.env) :: starEach es X.env := by rfl) (hpl : (backTo pos (starEach es X.env)).any (·.1) = false := by rfl)
    (ht : eval (.Call (.Attribute o m apos) (e :: es) [] pos) X.env = (do
      let ov ← eval o X.env
      standAt apos.atName
      let (f, first) ← holding [ov] (getMethod ov m pl)
      callWith pos f first (backTo pos (starEach (e :: es) X.env)) (backToKw pos (keywordEach [] X.env))) := by rfl) :
    PE X (.Call (.Attribute o m apos) (e :: es) [] pos) (tMc C m sp E ta t) := by
  obtain ⟨f, fd, F, hm, hb⟩ := M.ex
  refine ⟨fun pins s σ H Q I h => ?_⟩
  refine PySem.W.methodCall_KW (pl := pl) (thn (he.run pins s σ H _ I h) fun u s1 ⟨x, H1, I1, rx, a, dx, fs, ex, ea, l, q⟩ => ?_) ht
  subst ex
  obtain rfl : u = Value.ref a := rx
  refine getmeth_ok I1 ea U.cl hm l ?_
  refine PySem.W.callWith_K (first := [.ref a]) (h₀ := X.base) I.ok.mod.kin hm.kp (thn (ha.run pos pins s1 σ H1 _ I1 q) fun us s2 ⟨vs, H2, I2, r, q2⟩ => ⟨I2.kIn, ?_⟩) hst hpl
  exact run_fnG (us := .ref a :: us) (vs := .ref a :: vs) F hr gd hb hx I2 (.cons rfl r) q2
/-- o.m() -/
theorem pe_mc0 {E : XK} {pl : Sem Bool} (U : UseC X.K X.mg x fs C) (M : UseM X.prog X.w X.K X.mg X.base CX C m k ps sp) (hx : Passes CX X E) (hr : Room k X.A) (gd : X.A.guards = some []) (he : PE X o ta)
    (ht : eval (.Call (.Attribute o m apos) [] [] pos) X.env = (do
      let ov ← eval o X.env
      standAt apos.atName
      let (f, first) ← holding [ov] (getMethod ov m pl)
      callWith pos f first (backTo pos (starEach [] X.env)) (backToKw pos (keywordEach [] X.env))) := by rfl) :
    PE X (.Call (.Attribute o m apos) [] [] pos) (tMc C m sp E ta tNil) := by
  obtain ⟨f, fd, F, hm, hb⟩ := M.ex
  refine ⟨fun pins s σ H Q I h => ?_⟩
  refine PySem.W.methodCall_KW (pl := pl) (thn (he.run pins s σ H _ I h) fun u s1 ⟨x, H1, I1, rx, a, dx, fs, ex, ea, l, q⟩ => ?_) ht
  subst ex
  obtain rfl : u = Value.ref a := rx
  refine getmeth_ok I1 ea U.cl hm l ?_
  exact PySem.W.callWith_K0 (first := [.ref a]) I1.kIn hm.kp (run_fnG (us := [.ref a]) (vs := [.ref a]) F hr gd hb hx I1 (.cons rfl .nil) q)
/-- C(e, ..) -/
theorem pe_mk (M : UseK X.prog X.w X.K X.mg X.base x C k ps sp) (hr : Room (k + 1) X.A) (hg : Gl X x) (ha : PA X (e :: es) t) (hdb : (x == ("__debug__" : Str)) = false := by decide) (he : starEach (e :: es) X.env = (false, eval e X.env) :: starEach es X.env := by rfl)
    (hpl : (backTo pos (starEach es X.env)).any (·.1) = false := by rfl) : PE X (.Call (.Name x p) (e :: es) [] pos) (tMk C sp t) := by
  obtain ⟨f, fd, F, mk, hb, hm⟩ := M.ex
  have R := pe_make (p := p) (pos := pos) mk F hr hg hm hb .nil pass0 ha hdb he hpl
  refine ⟨fun pins s σ H Q I h => R.run pins s σ H Q I ?_⟩
  have e0 : (tMake C sp [] E0 t : TE) = tMk C sp t := by
    funext σ H Q
    unfold tMake tMk
    simp only [List.append_nil]
  rw [e0]; exact h
end
end LK

set_option Elab.async false
set_option linter.all false
set_option maxRecDepth 100000
set_option maxHeartbeats 4000000
/-! Defs held by names and by dicts of the top: action = D[k]; action(x). The keys and the length of a dict of the top. -/
namespace LK
open PySem PySem.Spec PyProof.Rows L2
/-! ### a def that a local holds -/
def tCallV (X : Cx) (k : Nat) (i : Nat) (t : TA) : TE := fun σ H Q => ∃ (f : Addr) (fd : FuncData) (ps : List Str) (sp : Sp), σ[i]? = some (some (.ref f)) ∧ FnG X.prog X.w X.K X.mg X.base CX0 k f fd ps sp ∧ PySem.W.keepIn X.K (.ref f) = true ∧ Binds X.K fd ps [] ∧
  t σ H fun vs H1 => sp vs H1 Q E0
section
variable {X : Cx} {k i : Nat} {x : Str} {p pos : Pos} {e : Expr} {es : List Expr} {t : TA}
theorem pe_callV (hv : PE X (.Name x p) (tVar i)) (hr : Room k X.A) (gd : X.A.guards = some []) (ha : PA X (e :: es) t)
    (he : starEach (e :: es) X.env = (false, eval e X.env) :: starEach es X.env := by rfl) (hpl : (backTo pos (starEach es X.env)).any (·.1) = false := by rfl) : PE X (.Call (.Name x p) (e :: es) [] pos) (tCallV X k i t) := by
  refine ⟨fun pins s σ H Q I ⟨f, fd, ps, sp, eσ, F, kp, hb, h⟩ => ?_⟩
  refine wpAny_Call_Name_kw (thn (hv.run pins s σ H (fun v H' => v = V.ref f ∧ H' = H) I ⟨_, eσ, rfl, rfl⟩) fun u s1 ⟨v, H', I1, rv, ev, eH⟩ => ?_)
  subst ev eH
  obtain rfl : u = Value.ref f := rv
  exact PySem.W.callWith_K (h₀ := X.base) I1.ok.mod.kin kp (thn (ha.run pos pins s1 σ _ _ I1 h) fun us s2 ⟨vs, H2, I2, r, q⟩ => ⟨I2.kIn, run_fnG F hr gd hb pass0 I2 r q⟩) he hpl
end
/-! ### defs by name and place -/
def HasFnA (K : PySem.W.Frag) (x : Str) (st : Stmt) (f : Addr) : Prop := ∃ (oc : Value) (od an : Option Addr) (kV doc pm cdv ct : Value) (osl : Array (Option Value)),
  PySem.W.nsIn K mainGlobals x = some (some (.ref f)) ∧ K.lookup f = some ⟨oc, od, .func (PySem.W.fnOf x x (defArgs st) (defBody st) (defScope st) .none kV doc pm an cdv ct), osl⟩ ∧
  PySem.W.codeIn K cdv x = true ∧ PySem.W.keepIn K (.ref f) = true
theorem HasFnA.mk' {K : PySem.W.Frag} {x : Str} {st : Stmt} {f : Addr} {oc : Value} {od an : Option Addr} {kV doc pm cdv ct : Value} {osl : Array (Option Value)} (a : PySem.W.nsIn K mainGlobals x = some (some (.ref f)))
    (b : K.lookup f = some ⟨oc, od, .func (PySem.W.fnOf x x (defArgs st) (defBody st) (defScope st) .none kV doc pm an cdv ct), osl⟩) (c : PySem.W.codeIn K cdv x = true) (d : PySem.W.keepIn K (.ref f) = true) : HasFnA K x st f := ⟨oc, od, an, kV, doc, pm, cdv, ct, osl, a, b, c, d⟩
theorem HasFnA.fn {K : PySem.W.Frag} {x : Str} {st : Stmt} {f : Addr} (h : HasFnA K x st f) : HasFn K x st := by
  obtain ⟨oc, od, an, kV, doc, pm, cdv, ct, osl, a, b, c, d⟩ := h
  exact ⟨f, oc, od, an, kV, doc, pm, cdv, ct, osl, a, b, c, d⟩
structure UseA (P : Program) (w : World) (K : PySem.W.Frag) (mg : Str → Option Value) (base : Heap) (x : Str) (k : Nat) (ps : List Str) (sp : Sp) (f : Addr) : Prop where
  ex : ∃ fd : FuncData, FnG P w K mg base CX0 k f fd ps sp ∧ mg x = some (.ref f) ∧ PySem.W.keepIn K (.ref f) = true ∧ Binds K fd ps []
section
variable {P : Program} {w : World} {K : PySem.W.Frag} {mg : Str → Option Value} {base h : Heap}
theorem UseA.use {x : Str} {k : Nat} {ps : List Str} {sp : Sp} {f : Addr} (U : UseA P w K mg base x k ps sp f) : Use P w K mg base CX0 x k ps sp := by
  obtain ⟨fd, r⟩ := U.ex
  exact ⟨f, fd, r⟩
theorem mk_useA {x : Str} {st : Stmt} {k : Nat} {ps : List Str} {sp : Sp} {f : Addr} (F : HasFnA K x st f) (X : K.In h) (G : h.Ns mainGlobals mg)
    (hb : ∀ (kV doc pm : Value) (an : Option Addr) (cdv ct : Value) (us : List Value), us.length = ps.length → bindArgs (PySem.W.fnOf x x (defArgs st) (defBody st) (defScope st) .none kV doc pm an cdv ct) ⟨us, []⟩ = pure (ps.zip us))
    (ok : ∀ (f : Addr) (fd : FuncData), Fun K x x st f fd → FnG P w K mg base CX0 k f fd ps sp) : UseA P w K mg base x k ps sp f := by
  obtain ⟨oc, od, an, kV, doc, pm, cdv, ct, osl, e, l, c, kp⟩ := F
  have Fn := fun_mk (st := st) l c kp
  exact ⟨_, ok f _ Fn, PySem.W.mg_of X G e, kp, Fn.binds hb⟩
end
/-! ### a dict of the top whose values are defs -/
inductive FEnt (w : World) : List DictEntry → List (Str × Addr) → Prop
  | nil : FEnt w [] []
  | cons {e : DictEntry} {es : List DictEntry} {k : Str} {v : Addr} {ps : List (Str × Addr)} {t : Tok} : e.key = .str k t → e.hash = hashStr w k → e.val = .ref v → FEnt w es ps → FEnt w (e :: es) ((k, v) :: ps)
def fnKV (ps : List (Str × Addr)) : List (Key × V) := ps.map fun p => (.inr p.1, .ref p.2)
theorem FEnt.pairs {P : Program} {w : World} : ∀ {es : List DictEntry} {ps : List (Str × Addr)}, FEnt w es ps → ∃ vs : List (Key × Value), KV (fnKV ps) vs ∧ PySem.Pairs (mixKind P w) es vs ∧ vs.map (·.1) = ps.map (fun p => (Sum.inr p.1 : Key)) ∧ ∀ e ∈ es, ∃ k, (mixKind P w).is k e.key = true ∧ e.hash = (mixKind P w).hash k
  | _, _, .nil => ⟨[], .nil, .nil, rfl, fun _ h => by cases h⟩
  | _, _, .cons (k := k) (v := v) (t := t) hk hh hv r => by
    obtain ⟨vs, a, b, c, d⟩ := FEnt.pairs (P := P) r
    refine ⟨(.inr k, .ref v) :: vs, .cons ⟨rfl, rfl⟩ a, .cons (by rw [hk]; exact mixKind_str P w k t) hv b, by rw [List.map_cons, c]; rfl, fun e he => ?_⟩
    rcases List.mem_cons.mp he with rfl | he
    · exact ⟨.inr k, by rw [hk]; exact mixKind_str P w k t, hh⟩
    · exact d e he
theorem HasDct.mkF {P : Program} {w : World} {K : PySem.W.Frag} {x : Str} {ps : List (Str × Addr)} {a : Addr} {es : Array DictEntry} {ep : Nat} (h : PySem.W.nsIn K mainGlobals x = some (some (.ref a)))
    (b : K.lookup a = some { cls := .type "dict", data := .dict es ep }) (hs : (a == sysModules) = false) (c : FEnt w es.toList ps) (nd : (ps.map (·.1)).Nodup) : HasDct P w K x (fnKV ps) := by
  obtain ⟨vs, v1, v2, v3, v4⟩ := FEnt.pairs (P := P) c
  refine ⟨a, h, hs, vs, v1, fun hh hK => ⟨_, es, ep, hK a _ b, ⟨rfl, rfl, rfl⟩, rfl, fun e he => v4 e (Array.mem_toList_iff.mpr he), v2, ?_⟩⟩
  rw [v3]
  have : ps.map (fun p => (Sum.inr p.1 : Key)) = (ps.map (·.1)).map Sum.inr := by rw [List.map_map]; rfl
  rw [this]
  exact nodup_inr nd
/-! ### list(D), len(D) -/
def rListK (P : Program) (w : World) (K : PySem.W.Frag) : List V → Hp → VK → Prop := fun xs H Q => ∃ p kvs, xs = [.ref p] ∧ KDct P w K p kvs ∧ kvs.length ≤ 1000 ∧ ∀ q, H q = none → Q (.ref q) (upd H q (.lst (kvs.map fun kv => kV kv.1)))
theorem call_listK {X : Cx} (hc : X.calm = true) : CallR X (.type "list") (rListK X.prog X.w X.K) := by
  intro pins s σ H xs us Q I r h
  obtain ⟨p, kvs, rfl, ⟨hsys, vs, rel, dd⟩, hz, q⟩ := h
  obtain ⟨u, rfl, rx⟩ := vals1 r
  obtain rfl : u = Value.ref p := rx
  obtain ⟨ep, hat⟩ := (dd _ I.kIn).dictAt
  have hl : kvs.length = vs.length := Paired.length rel
  have hz2 : vs.length ≤ sizeLine := by rw [← hl]; exact Nat.le_trans hz (by decide)
  refine PySem.W.kdl_call (PySem.W.kdl_dict (knd := mixKind X.prog X.w) (kvs := vs) (ep := ep) hsys) (I.ok.hd hc) hat hz2 fun h2 tk acc c kk hS it => ?_
  have ok : ObjOk X.prog X.w (upd H s.heap.objs.size (.lst (kvs.map fun kv => kV kv.1))) h2 s.heap.objs.size (.lst (kvs.map fun kv => kV kv.1)) := by
    refine ⟨by rw [List.length_map, hl]; exact hz2, acc.toList, c, ?_, by rw [Array.toArray_toList]; exact hS⟩
    have el : acc.toList.length = acc.size := by simp
    refine vals_of_at (by rw [List.length_map, el, it.1, hl]) fun j x y h1 h2 => ?_
    obtain ⟨k, z, hkz, hi⟩ := it.2 j y (by rw [← Array.getElem?_toList]; exact h2)
    have e1 : (kvs.map (·.1))[j]? = some k := by
      rw [KV.keys rel, List.getElem?_map, hkz]
      rfl
    have e3 : (kvs.map fun kv => kV kv.1) = (kvs.map (·.1)).map kV := by rw [List.map_map]; rfl
    rw [e3, List.getElem?_map, e1] at h1
    cases h1
    exact keyIs_rel hi
  exact ⟨.ref s.heap.objs.size, _, I.laid kk (Nat.le_refl _) ok, rfl, q _ (I.hok.fresh (Nat.le_refl _))⟩
theorem call_lenDK {X : Cx} : CallR X (.builtin "len") (fun xs H Q => ∃ p kvs, xs = [V.ref p] ∧ KDct X.prog X.w X.K p kvs ∧ kvs.length ≤ 1000 ∧ Q (.int (kvs.length : Nat)) H) := by
  intro pins s σ H xs us Q I r h
  obtain ⟨p, kvs, rfl, ⟨hsys, vs, rel, dd⟩, hz, q⟩ := h
  obtain ⟨u, rfl, rx⟩ := vals1 r
  obtain rfl : u = Value.ref p := rx
  have hl : kvs.length = vs.length := Paired.length rel
  refine call_len_dict hsys (dd _ I.kIn) (by rw [← hl]; omega) ?_
  exact ⟨.int (kvs.length : Nat), H, I.tok _, ⟨_, by rw [hl]⟩, q⟩
end LK

set_option Elab.async false
set_option linter.all false
set_option maxRecDepth 100000
set_option maxHeartbeats 4000000
/-! for k in D, D a dict of the top; dicts of the top whose values are tuples of the top -/
namespace LK
open PySem PySem.Spec PyProof.Rows L2
/-- a dict of the top, its object written out -/
def KDctI (P : Program) (w : World) (K : PySem.W.Frag) (a : Addr) (kvs : List (Key × V)) : Prop := KDct P w K a kvs ∧ ∃ (es : Array DictEntry) (ep : Nat), K.lookup a = some { cls := .type "dict", data := .dict es ep }
def HasDctI (P : Program) (w : World) (K : PySem.W.Frag) (x : Str) (kvs : List (Key × V)) : Prop := ∃ a, PySem.W.nsIn K mainGlobals x = some (some (.ref a)) ∧ KDctI P w K a kvs
structure UseI (P : Program) (w : World) (K : PySem.W.Frag) (mg : Str → Option Value) (x : Str) (kvs : List (Key × V)) : Prop where
  ex : ∃ a, mg x = some (.ref a) ∧ KDctI P w K a kvs
theorem HasDctI.g {P : Program} {w : World} {K : PySem.W.Frag} {mg : Str → Option Value} {h : Heap} {x : Str} {kvs : List (Key × V)} (D : HasDctI P w K x kvs) (X : K.In h) (G : h.Ns mainGlobals mg) : UseI P w K mg x kvs := by
  obtain ⟨a, e, k⟩ := D
  exact ⟨a, PySem.W.mg_of X G e, k⟩
theorem HasDct.i {P : Program} {w : World} {K : PySem.W.Frag} {x : Str} {kvs : List (Key × V)} {a : Addr} {es : Array DictEntry} {ep : Nat} (D : HasDct P w K x kvs) (h : PySem.W.nsIn K mainGlobals x = some (some (.ref a)))
    (b : K.lookup a = some { cls := .type "dict", data := .dict es ep }) : HasDctI P w K x kvs := by
  obtain ⟨a', e, k⟩ := D
  rw [h] at e
  cases e
  exact ⟨a, h, k, es, ep, b⟩
/-- the keys of the dict of the top at a -/
def ItkK (a : Addr) (kvs : List (Key × V)) : It :=
  ⟨fun i _ => i < kvs.length, fun i H x H' => H' = H ∧ ∃ k v, kvs[i]? = some (k, v) ∧ x = kV k, fun i _ => kvs.length ≤ i⟩
theorem KDctI.at {P : Program} {w : World} {K : PySem.W.Frag} {a : Addr} {kvs : List (Key × V)} (D : KDctI P w K a kvs) : ∃ (es : Array DictEntry) (ep : Nat) (vs : List (Key × Value)), (a == sysModules) = false ∧ KV kvs vs ∧
    ∀ h : Heap, K.In h → es.size = kvs.length ∧ h.get? a = some { cls := .type "dict", data := .dict es ep } ∧ h.DictAt (mixKind P w) a vs ep := by
  obtain ⟨⟨hs, vs, rel, dd⟩, es, ep, lk⟩ := D
  refine ⟨es, ep, vs, hs, rel, fun h hK => ?_⟩
  obtain ⟨o, es', ep', ho, hx, hd, r⟩ := dd h hK
  have e := hK a _ lk
  rw [ho] at e
  cases e
  cases hd
  have l1 := r.2.1.length
  have l2 : kvs.length = vs.length := Paired.length rel
  rw [Array.length_toList] at l1
  exact ⟨by omega, ho, _, _, ho, hx, rfl, r⟩
section
variable {P : Program} {w : World} {K : PySem.W.Frag} {tg : Expr} {a : Addr} {es : Array DictEntry} {ep : Nat} {kvs : List (Key × V)} {vs : List (Key × Value)}
theorem turn_keysK (it : Addr) (kv : KV kvs vs) (at_ : ∀ h : Heap, K.In h → es.size = kvs.length ∧ h.get? a = some { cls := .type "dict", data := .dict es ep } ∧ h.DictAt (mixKind P w) a vs ep) :
    Turn P w K tg (ItkK a kvs) [it] it (fun i h => h.IsKeyIter it a i kvs.length ep) where
  mem := by simp
  obj := fun i h st b hb => by
    have e : b = it := by simpa using hb
    subst e
    obtain ⟨oi, e, c, dd⟩ := st
    exact ⟨oi, e, fun v z => by rw [dd] at z; cases z⟩
  keep := fun i h h' st k => st.at fun oi e => k it (by simp) oi e
  item := by
    intro X hP hw hK hc i pins s σ H E I hf st hg
    subst hP hw hK
    obtain ⟨f0, f1, f2, f3, f4, f5⟩ := hf it (by simp)
    obtain ⟨hsz, hgd, hm⟩ := at_ _ I.kIn
    obtain ⟨⟨k, v⟩, hkv⟩ : ∃ p, kvs[i]? = some p := ⟨kvs[i], List.getElem?_eq_getElem hg⟩
    obtain ⟨u, hu, ru⟩ := kv_get kv hkv
    have hl : kvs.length = vs.length := Paired.length kv
    rw [hl] at st
    refine wpAny_pyNext_dict_item st hm hu fun key h' hkey st' sb => ?_
    have I1 : Inv X pins σ H { s with heap := h' } := I.turned (t' := s.toks) (fun b ob hb e => (sb.2 b hb).trans e) f0 f1 f3 f4 f5
    obtain ⟨oi, e, c, dd⟩ := id st'
    refine ⟨key, rfl, go_of (s := { s with heap := h' }) e c dd (by decide) ⟨kV k, H, I1, relV_key (show keyIs k key = true from hkey), ⟨rfl, k, v, hkv, rfl⟩, ?_, fun b hb => (hf b hb).1⟩⟩
    show h'.IsKeyIter it a (i + 1) kvs.length _
    rw [hl]
    exact st'
  done := by
    intro X hP hw hK hc i pins s σ H E I hf st hg
    subst hP hw hK
    obtain ⟨f0, f1, f2, f3, f4, f5⟩ := hf it (by simp)
    obtain ⟨hsz, hgd, hm⟩ := at_ _ I.kIn
    exact next_key_end (I.ok.hd hc) st hgd rfl hsz hg fun h' eb => ⟨rfl, I.turned (t' := s.toks) (fun b ob hb e => eb b ob hb e) f0 f1 f3 f4 f5⟩
  self := fun A i s Q E st h => wpAny_pyIter_keyiter st h
end
def iKeysK (P : Program) (w : World) (K : PySem.W.Frag) (td : TE) : TI := fun σ H R => td σ H fun x H1 => ∃ a kvs, x = .ref a ∧ KDctI P w K a kvs ∧ R (ItkK a kvs) H1
theorem pi_keysK {X : Cx} {tg e : Expr} {td : TE} (he : PE X e td) : PI X tg e (iKeysK X.prog X.w X.K td) := by
  refine ⟨fun pins s σ H R I h => ?_⟩
  refine thn (he.run pins s σ H _ I h) fun u s1 ⟨x, H1, I1, rx, a, kvs, ex, D, q⟩ => ?_
  subst ex
  obtain rfl : u = Value.ref a := rx
  obtain ⟨es, ep, vs, hs, kv, at_⟩ := D.at
  obtain ⟨hsz, hgd, hm⟩ := at_ _ I1.kIn
  refine iter_keys hs hgd ⟨rfl, rfl, rfl⟩ rfl (pi_one (tk := s1.toks) I1 _ (turn_keysK _ kv at_) ⟨_, Heap.get?_push_size _ rfl, rfl, ?_⟩ q)
  rw [hsz] <;> rfl
theorem walk_keysK {a : Addr} {kvs : List (Key × V)} : Walk (ItkK a kvs) kvs.length (fun _ => True) (fun i H x H' => H' = H ∧ ∃ k v, kvs[i]? = some (k, v) ∧ x = kV k) :=
  ⟨fun _ _ hi _ => hi, fun _ _ => Nat.le_refl _, fun _ _ _ _ _ _ y => y⟩
/-! ### dicts of the top whose values are tuples of the top -/
inductive TEnt (w : World) (K : PySem.W.Frag) : List DictEntry → List (Str × List V) → List (Str × Addr) → Prop
  | nil : TEnt w K [] [] []
  | cons {e : DictEntry} {es : List DictEntry} {k : Str} {a : Addr} {xs : List V} {ps : List (Str × List V)} {qs : List (Str × Addr)} {t : Tok} {od : Option Addr} {its : Array Value} {n : Nat} {sl : Array (Option Value)} :
      e.key = .str k t → e.hash = hashStr w k → e.val = .ref a → K.lookup a = some ⟨.type "tuple", od, .seq its n, sl⟩ → its.size ≤ sizeLine → Vals xs its.toList → TEnt w K es ps qs → TEnt w K (e :: es) ((k, xs) :: ps) ((k, a) :: qs)
theorem TEnt.f {w : World} {K : PySem.W.Frag} : ∀ {es : List DictEntry} {ps : List (Str × List V)} {qs : List (Str × Addr)}, TEnt w K es ps qs → FEnt w es qs ∧ ps.map (·.1) = qs.map (·.1) ∧ Paired (fun q p => KTup K q.2 p.2) qs ps
  | _, _, _, .nil => ⟨.nil, rfl, .nil⟩
  | _, _, _, .cons h1 h2 h3 h4 h5 h6 r => by
    obtain ⟨a, b, c⟩ := r.f
    exact ⟨.cons h1 h2 h3 a, by rw [List.map_cons, List.map_cons, b], .cons ⟨_, _, _, _, h4, h5, h6⟩ c⟩
/-- the dict x of the top: each key's value is a tuple of the top -/
def HasTupD (P : Program) (w : World) (K : PySem.W.Frag) (x : Str) (ps : List (Str × List V)) : Prop := ∃ qs : List (Str × Addr), HasDctI P w K x (fnKV qs) ∧ ps.map (·.1) = qs.map (·.1) ∧ Paired (fun q p => KTup K q.2 p.2) qs ps
structure UseT (P : Program) (w : World) (K : PySem.W.Frag) (mg : Str → Option Value) (x : Str) (ps : List (Str × List V)) : Prop where
  ex : ∃ qs : List (Str × Addr), UseI P w K mg x (fnKV qs) ∧ ps.map (·.1) = qs.map (·.1) ∧ Paired (fun q p => KTup K q.2 p.2) qs ps
theorem HasTupD.g {P : Program} {w : World} {K : PySem.W.Frag} {mg : Str → Option Value} {h : Heap} {x : Str} {ps : List (Str × List V)} (D : HasTupD P w K x ps) (X : K.In h) (G : h.Ns mainGlobals mg) : UseT P w K mg x ps := by
  obtain ⟨qs, a, b, c⟩ := D
  exact ⟨qs, a.g X G, b, c⟩
theorem HasTupD.mk' {P : Program} {w : World} {K : PySem.W.Frag} {x : Str} {ps : List (Str × List V)} {qs : List (Str × Addr)} {a : Addr} {es : Array DictEntry} {ep : Nat} (h : PySem.W.nsIn K mainGlobals x = some (some (.ref a)))
    (b : K.lookup a = some { cls := .type "dict", data := .dict es ep }) (hs : (a == sysModules) = false) (c : TEnt w K es.toList ps qs) (nd : (ps.map (·.1)).Nodup) : HasTupD P w K x ps := by
  obtain ⟨c1, c2, c3⟩ := c.f
  exact ⟨qs, (HasDct.mkF (P := P) h b hs c1 (c2 ▸ nd)).i h b, c2, c3⟩
end LK
namespace LK
open PySem PySem.Spec PyProof.Rows L2
/-! a name of the top that is bound to a def of another name -/
def HasFnN (K : PySem.W.Frag) (x y : Str) (st : Stmt) : Prop := ∃ (f : Addr) (oc : Value) (od an : Option Addr) (kV doc pm cdv ct : Value) (osl : Array (Option Value)),
  PySem.W.nsIn K mainGlobals x = some (some (.ref f)) ∧ K.lookup f = some ⟨oc, od, .func (PySem.W.fnOf y y (defArgs st) (defBody st) (defScope st) .none kV doc pm an cdv ct), osl⟩ ∧
  PySem.W.codeIn K cdv y = true ∧ PySem.W.keepIn K (.ref f) = true
theorem HasFnN.mk' {K : PySem.W.Frag} {x y : Str} {st : Stmt} {f : Addr} {oc : Value} {od an : Option Addr} {kV doc pm cdv ct : Value} {osl : Array (Option Value)} (a : PySem.W.nsIn K mainGlobals x = some (some (.ref f)))
    (b : K.lookup f = some ⟨oc, od, .func (PySem.W.fnOf y y (defArgs st) (defBody st) (defScope st) .none kV doc pm an cdv ct), osl⟩) (c : PySem.W.codeIn K cdv y = true) (d : PySem.W.keepIn K (.ref f) = true) : HasFnN K x y st :=
  ⟨f, oc, od, an, kV, doc, pm, cdv, ct, osl, a, b, c, d⟩
theorem HasFn.n {K : PySem.W.Frag} {x : Str} {st : Stmt} (F : HasFn K x st) : HasFnN K x x st := F
section
variable {P : Program} {w : World} {K : PySem.W.Frag} {mg : Str → Option Value} {base h : Heap} {CX : CXT}
theorem mk_useY {x y : Str} {st : Stmt} {k : Nat} {ps : List Str} {sp : Sp} (F : HasFnN K x y st) (X : K.In h) (G : h.Ns mainGlobals mg)
    (hb : ∀ (kV doc pm : Value) (an : Option Addr) (cdv ct : Value) (us : List Value), us.length = ps.length → bindArgs (PySem.W.fnOf y y (defArgs st) (defBody st) (defScope st) .none kV doc pm an cdv ct) ⟨us, []⟩ = pure (ps.zip us))
    (ok : ∀ (f : Addr) (fd : FuncData), Fun K y y st f fd → FnG P w K mg base CX k f fd ps sp) : Use P w K mg base CX x k ps sp := by
  obtain ⟨f, oc, od, an, kV, doc, pm, cdv, ct, osl, e, l, c, kp⟩ := F
  have Fn := fun_mk (st := st) l c kp
  exact ⟨f, _, ok f _ Fn, PySem.W.mg_of X G e, kp, Fn.binds hb⟩
/-- defs that call one another: a promise by depth; at each depth all of them, from the depth before -/
theorem mk_useG {x y : Str} {st : Stmt} {ps : List Str} (sp : Nat → Sp) (k0 kn : Nat) (F : HasFnN K x y st) (X : K.In h) (G : h.Ns mainGlobals mg)
    (hb : ∀ (kV doc pm : Value) (an : Option Addr) (cdv ct : Value) (us : List Value), us.length = ps.length → bindArgs (PySem.W.fnOf y y (defArgs st) (defBody st) (defScope st) .none kV doc pm an cdv ct) ⟨us, []⟩ = pure (ps.zip us))
    (h0 : ∀ vs H Q E, ¬ sp 0 vs H Q E)
    (ok : ∀ (n : Nat), Use P w K mg base CX x (k0 + kn * n) ps (sp n) → ∀ (f : Addr) (fd : FuncData), Fun K y y st f fd → FnG P w K mg base CX (k0 + kn * (n + 1)) f fd ps (sp (n + 1))) : ∀ n, Use P w K mg base CX x (k0 + kn * n) ps (sp n)
  | 0 => by
    obtain ⟨f, oc, od, an, kV, doc, pm, cdv, ct, osl, e, l, c, kp⟩ := F
    have Fn := fun_mk (st := st) l c kp
    exact ⟨f, _, ⟨fun vs H Q E s => absurd s (h0 vs H Q E), fun _ _ _ _ _ _ vs Q E _ _ _ _ _ s => absurd s (h0 _ _ _ _)⟩, PySem.W.mg_of X G e, kp, Fn.binds hb⟩
  | n + 1 => mk_useY F X G hb (ok n (mk_useG sp k0 kn F X G hb h0 ok n))
end
end LK
namespace LK
open PySem PySem.Spec PyProof.Rows L2
/-! a nested tuple of the top, as data -/
def HasDat (K : PySem.W.Frag) (x : Str) (d : PyData) : Prop := ∃ a, PySem.W.nsIn K mainGlobals x = some (some (.ref a)) ∧ ∀ H, Dt K H (.ref a) d
def GDat (K : PySem.W.Frag) (mg : Str → Option Value) (x : Str) (d : PyData) : Prop := ∃ a, mg x = some (.ref a) ∧ ∀ H, Dt K H (.ref a) d
theorem HasDat.g {K : PySem.W.Frag} {mg : Str → Option Value} {h : Heap} {x : Str} {d : PyData} (i : HasDat K x d) (X : K.In h) (G : h.Ns mainGlobals mg) : GDat K mg x d := by
  obtain ⟨a, e, r⟩ := i
  exact ⟨a, PySem.W.mg_of X G e, r⟩
theorem KTup.dt {K : PySem.W.Frag} {a : Addr} {xs : List V} {ds : List PyData} (h : KTup K a xs) (H : Hp) (d : DtAll K H xs ds) : Dt K H (.ref a) (.tuple ds) := .tup (h.sq H) d
theorem HasDat.mk2 {K : PySem.W.Frag} {x s z : Str} {a b : Addr} {od od2 : Option Addr} {its its2 : Array Value} {n n2 : Nat} {sl sl2 : Array (Option Value)} (h : PySem.W.nsIn K mainGlobals x = some (some (.ref a)))
    (h1 : K.lookup a = some ⟨.type "tuple", od, .seq its n, sl⟩) (z1 : its.size ≤ sizeLine) (v1 : Vals [.str s, .ref b] its.toList) (h2 : K.lookup b = some ⟨.type "tuple", od2, .seq its2 n2, sl2⟩) (z2 : its2.size ≤ sizeLine) (v2 : Vals [.str z] its2.toList) :
    HasDat K x (.tuple [.str s, .tuple [.str z]]) :=
  ⟨a, h, fun H => KTup.dt ⟨_, _, _, _, h1, z1, v1⟩ H (.cons (.str _) (.cons (KTup.dt ⟨_, _, _, _, h2, z2, v2⟩ H (.cons (.str _) .nil)) .nil))⟩
def tGD (K : PySem.W.Frag) (d : PyData) : TE := fun _ H Q => ∀ v, (∀ H, Dt K H v d) → Q v H
theorem pe_globD {X : Cx} {x : Str} {pos : Pos} {d : PyData} (h : GDat X.K X.mg x d) (hg : Gl X x) (hd : (x == ("__debug__" : Str)) = false := by decide) : PE X (.Name x pos) (tGD X.K d) := by
  obtain ⟨a, e, r⟩ := h
  exact ⟨fun pins s σ H Q I q => (pe_glob (v := .ref a) hg e rfl hd).run pins s σ H Q I (q (.ref a) r)⟩
end LK

set_option linter.all false
namespace LK
section
open PySem PySem.Spec PyProof.Rows L2
theorem FnG.up {P : Program} {w : World} {K : PySem.W.Frag} {mg : Str → Option Value} {base : Heap} {CX : CXT} {k k' : Nat} {f : Addr} {fd : FuncData} {ps : List Str} {sp : Sp} (F : FnG P w K mg base CX k f fd ps sp) (h : k ≤ k') : FnG P w K mg base CX k' f fd ps sp :=
  ⟨F.len, fun A outer s H args us vs Q E hr => F.run A outer s H args us vs Q E (hr.mono h)⟩
theorem Use.up {P : Program} {w : World} {K : PySem.W.Frag} {mg : Str → Option Value} {base : Heap} {CX : CXT} {k k' : Nat} {x : Str} {ps : List Str} {sp : Sp} (U : Use P w K mg base CX x k ps sp) (h : k ≤ k') : Use P w K mg base CX x k' ps sp := by
  obtain ⟨f, fd, F, r⟩ := U.ex
  exact ⟨f, fd, F.up h, r⟩
theorem HasDctI.mkF' {P : Program} {w : World} {K : PySem.W.Frag} {x : Str} {qs : List (Str × Addr)} {a : Addr} {es : Array DictEntry} {ep : Nat} (h : PySem.W.nsIn K mainGlobals x = some (some (.ref a)))
    (b : K.lookup a = some { cls := .type "dict", data := .dict es ep }) (hs : (a == sysModules) = false) (c : FEnt w es.toList qs) (nd : (qs.map (·.1)).Nodup) : HasDctI P w K x (fnKV qs) :=
  (HasDct.mkF (P := P) h b hs c nd).i h b
end
end LK

set_option Elab.async false
set_option linter.all false
set_option maxRecDepth 100000
set_option maxHeartbeats 4000000
set_option exponentiation.threshold 3000
/-! What several laws share: boxes and lists beside changes of other objects. -/
namespace LK
open PySem PySem.Spec PyProof.Rows L2
section
variable {K : PySem.W.Frag}
theorem BoxAt.ne_new {H : Hp} {p dl b : Addr} (B : BoxAt H p dl) (h : H b = none) : b ≠ p ∧ b ≠ dl := by
  obtain ⟨xs, g⟩ := B.at_
  obtain ⟨ys, g2⟩ := B.dg
  exact ⟨fun e => (by subst e; rw [h] at g; cases g), fun e => (by subst e; rw [h] at g2; cases g2)⟩
theorem BoxAt.kp {H H' : Hp} {p dl : Addr} (B : BoxAt H p dl) (h : ∀ b o, b = p ∨ b = dl → H b = some o → H' b = some o) : BoxAt H' p dl := by
  obtain ⟨ds, k, a, b, c, d⟩ := B
  exact ⟨ds, k, h _ _ (.inl rfl) a, b, h _ _ (.inr rfl) c, d⟩
theorem BoxAt.keep' {H H' : Hp} {p dl l : Addr} (B : BoxAt H p dl) (k : Keep l H H') (h1 : l ≠ p) (h2 : l ≠ dl) : BoxAt H' p dl :=
  B.kp fun b o hb e => k b o e (by
    rcases hb with rfl | rfl
    · exact Ne.symm h1
    · exact Ne.symm h2)
theorem BoxAt.keep2 {H H' : Hp} {p dl l m : Addr} (B : BoxAt H p dl) (k : ∀ b o, H b = some o → b ≠ l → b ≠ m → H' b = some o) (h1 : l ≠ p) (h2 : l ≠ dl) (h3 : m ≠ p) (h4 : m ≠ dl) : BoxAt H' p dl :=
  B.kp fun b o hb e => by
    rcases hb with rfl | rfl
    · exact k _ _ e (Ne.symm h1) (Ne.symm h3)
    · exact k _ _ e (Ne.symm h2) (Ne.symm h4)
theorem KeepT.ins {p C dx : Addr} {H : Hp} {o : HO} {fs : List (Str × V)} (hp : H p = some (.ins C dx fs)) : KeepT K H (L2.upd H p o) := fun a xs h => by
  rcases h with (h | ⟨o', h⟩) | h
  · exact .inl (.inl (by rw [upd_ne (ne_of h hp (by intro z; cases z))]; exact h))
  · exact .inl (.inr ⟨o', by rw [upd_ne (ne_of h hp (by intro z; cases z))]; exact h⟩)
  · exact .inr h
theorem listAt_ins {p C dx l : Addr} {H : Hp} {o : HO} {fs : List (Str × V)} {ds : List PyData} (h : ListAt K H l ds) (hp : H p = some (.ins C dx fs)) : ListAt K (upd H p o) l ds := by
  obtain ⟨xs, e, a⟩ := h
  exact ⟨xs, by rw [upd_ne (ne_of e hp (by intro z; cases z))]; exact e, DtAll.keepT (KeepT.ins hp) a⟩
theorem Low.zero : Low "" := fun c hc => by
  have e : ("" : Str).cps.toList = [] := by decide +kernel
  rw [e] at hc; cases hc
theorem DtAll.take {H : Hp} : ∀ (n : Nat) {vs : List V} {ds : List PyData}, DtAll K H vs ds → DtAll K H (vs.take n) (ds.take n)
  | 0, _, _, _ => .nil
  | _ + 1, _, _, .nil => .nil
  | n + 1, _, _, .cons h a => .cons h (DtAll.take n a)
theorem len_start0 : (startD []).length = 17 := by decide
theorem sm_start0 : ∀ d ∈ startD [], Sm d 5 150000 := fun d hd => sm_start (hs := []) (L := 0) (by simp) (by simp) d hd
theorem sm_heap {ds : List PyData} (h : ds.length ≤ 30) (sm : ∀ d ∈ ds, Sm d 5 150000) : ShowOk (.list ds) := (Sm.lst ((SmAll.many sm).mem (m := 30) (M := 4500000) h (by omega))).show (by decide) (by decide)
theorem ListAt.dp {H : Hp} {l : Addr} {ds : List PyData} (h : ListAt K H l ds) : Dp K H (.ref l) (.list ds) := let ⟨_, e, a⟩ := h; .lst (SqL.of e) a.dp
end
theorem FnG.or {P : Program} {w : World} {K : PySem.W.Frag} {mg : Str → Option Value} {base : Heap} {CX : CXT} {k : Nat} {f : Addr} {fd : FuncData} {ps : List Str} {sp sp' : Sp} (A : FnG P w K mg base CX k f fd ps sp) (B : FnG P w K mg base CX k f fd ps sp') :
    FnG P w K mg base CX k f fd ps (fun vs H Q E => sp vs H Q E ∨ sp' vs H Q E) where
  len := fun vs H Q E h => h.elim (A.len vs H Q E) (B.len vs H Q E)
  run := fun A' outer s H args us vs Q E hr hg he hb hv h => h.elim (A.run A' outer s H args us vs Q E hr hg he hb hv) (B.run A' outer s H args us vs Q E hr hg he hb hv)
/-- start_heap of a list of names -/
def spStartL (K : PySem.W.Frag) : Sp := fun vs H Q _ => ∃ (t : Addr) (hs : List Str), vs = [.ref t] ∧ SqL K H t (hs.map V.str) ∧ hs.length ≤ 1000 ∧
  ∀ (p : Addr) (H' : Hp), H p = none → Same H H' → ListAt K H' p (startD hs) → Q (.ref p) H'
def spStart2 (K : PySem.W.Frag) : Sp := fun vs H Q E => spStart K vs H Q E ∨ spStartL K vs H Q E
theorem ip_fdiv {X : Cx} : PIp X .FloorDiv (rI CDiv fun i j => .int (i / j)) := fun pins s σ H x y v u Q I r1 r2 h => iop_fdiv pins s σ H x y v u Q I r1 r2 h
theorem none_back0 {p np : Addr} {H H' : Hp} (K1 : Keep p H H') (B : ∃ xs, H' p = some (.lst xs)) (h : H' np = none) : H np = none := by
  cases e : H np with
  | none => rfl
  | some o =>
    by_cases ep : np = p
    · subst ep
      obtain ⟨xs, g⟩ := B
      rw [g] at h; cases h
    · rw [K1 _ _ e ep] at h; cases h
end LK

set_option Elab.async false
set_option linter.all false
set_option maxRecDepth 100000
set_option maxHeartbeats 4000000
/-! rows: texts by their codes, tuples of data; cut, joined, their length -/
namespace LK
open PySem PySem.Spec PyProof.Rows L2 SX
inductive RowD where
  | txt (cs : List Nat)
  | tup (ds : List PyData)
namespace RowD
def d : RowD → PyData
  | txt cs => .str (S cs)
  | tup ds => .tuple ds
def len : RowD → Nat
  | txt cs => cs.length
  | tup ds => ds.length
end RowD
/-- xs[lo:hi] -/
def cutG {α : Type} (xs : List α) (lo hi : Option Int) : List α := (xs.drop (HT.sIx xs.length 0 lo)).take (HT.sIx xs.length xs.length hi - HT.sIx xs.length 0 lo)
def RowD.cut (r : RowD) (lo hi : Option Int) : RowD := match r with
  | .txt cs => .txt (cutG cs lo hi)
  | .tup ds => .tup (cutG ds lo hi)
theorem cutG_nat {α : Type} (xs : List α) {i j : Nat} (hi : i ≤ xs.length) (hj : j ≤ xs.length) : cutG xs (some (i : Int)) (some (j : Int)) = (xs.drop i).take (j - i) := by
  unfold cutG
  rw [HT.sIx_nat, HT.sIx_nat, Nat.min_eq_left hi, Nat.min_eq_left hj]
theorem cutG_to {α : Type} (xs : List α) {j : Nat} (hj : j ≤ xs.length) : cutG xs none (some (j : Int)) = xs.take j := by
  unfold cutG
  rw [HT.sIx_none, HT.sIx_nat, Nat.min_eq_left hj, List.drop_zero, Nat.sub_zero]
theorem cutG_from {α : Type} (xs : List α) {j : Nat} (hj : j ≤ xs.length) : cutG xs (some (j : Int)) none = xs.drop j := by
  unfold cutG
  rw [HT.sIx_none, HT.sIx_nat, Nat.min_eq_left hj]
  exact List.take_of_length_le (by rw [List.length_drop]; omega)
theorem DtAll.drop {K : PySem.W.Frag} {H : Hp} : ∀ {vs : List V} {ds : List PyData} (n : Nat), DtAll K H vs ds → DtAll K H (vs.drop n) (ds.drop n)
  | _, _, 0, h => h
  | _, _, _ + 1, .nil => .nil
  | _, _, n + 1, .cons _ t => t.drop n
theorem DtAll.takeN {K : PySem.W.Frag} {H : Hp} : ∀ {vs : List V} {ds : List PyData} (n : Nat), DtAll K H vs ds → DtAll K H (vs.take n) (ds.take n)
  | _, _, 0, _ => by rw [List.take_zero, List.take_zero]; exact .nil
  | _, _, _ + 1, .nil => .nil
  | _, _, n + 1, .cons h t => .cons h (t.takeN n)
theorem DtAll.cutG {K : PySem.W.Frag} {H : Hp} {vs : List V} {ds : List PyData} (h : DtAll K H vs ds) (lo hi : Option Int) : DtAll K H (cutV vs lo hi) (cutG ds lo hi) := by
  unfold cutV LK.cutG
  rw [h.length]
  exact DtAll.takeN _ (h.drop _)
theorem cutS_G (cs : List Nat) (lo hi : Option Int) : cutS (S cs) lo hi = S (cutG cs lo hi) := by
  unfold cutS cutG
  rw [S_len]
section
variable {X : Cx}
def rSlR (K : PySem.W.Frag) : V → Option Int → Option Int → Hp → VK → Prop := fun x lo hi H Q => ∃ r : RowD, Dt K H x r.d ∧ r.len ≤ 2000 ∧ ∀ v H', Same H H' → Dt K H' v (r.cut lo hi).d → Q v H'
theorem sl_row : SlR X (rSlR X.K) := by
  intro pins s σ H x v vl vu lo hi sl Q I rx hs pl pu h
  obtain ⟨r, dr, hn, q⟩ := h
  cases r with
  | txt cs =>
    cases dr.str_inv
    refine sl_str pins s σ H _ v vl vu _ _ sl Q I rx hs pl pu ⟨_, rfl, by rw [S_len]; exact Nat.le_trans hn (by decide), q _ _ (Same.refl _) ?_⟩
    rw [cutS_G]
    exact .str _
  | tup ds =>
    obtain ⟨p, xs, rfl, hq, ax⟩ := dr.tuple_inv
    have lx := ax.length
    refine sl_tupA pins s σ H _ v vl vu _ _ sl Q I rx hs pl pu ⟨p, xs, rfl, hq, fun hw => ?_, fun _ z hz => ?_⟩
    · refine q _ _ (Same.refl _) ?_
      rw [lx] at hw
      show Dt _ _ _ (PyData.tuple (cutG ds lo hi))
      unfold cutG
      rw [hw.1, hw.2, List.drop_zero, Nat.sub_zero, List.take_length]
      exact dr
    · exact q _ _ (Same.new hz) (Dt.made hz (ax.cutG lo hi))
/-- len(a), a row -/
def rLenR (K : PySem.W.Frag) : List V → Hp → VK → Prop := fun vs H Q => ∃ (v : V) (r : RowD), vs = [v] ∧ Dt K H v r.d ∧ r.len ≤ 2000 ∧ Q (.int (r.len : Int)) H
theorem call_lenR : CallR X (.builtin "len") (rLenR X.K) := by
  intro pins s σ H xs us Q I r h
  obtain ⟨v, rw', rfl, da, hn, q⟩ := h
  cases rw' with
  | txt cs =>
    cases da.str_inv
    exact call_len pins s σ H _ us Q I r ⟨_, cs.length, rfl, ⟨by rw [S_len]; exact Nat.le_trans hn (by decide), (S_len _).symm⟩, q⟩
  | tup ds =>
    obtain ⟨p, ys, rfl, hq, ax⟩ := da.tuple_inv
    exact call_len pins s σ H _ us Q I r ⟨_, ds.length, rfl, .inr ⟨_, hq, ax.length.symm⟩, q⟩
/-- x + y, tuples of data -/
def rCatTD (K : PySem.W.Frag) : R2 := fun x y H Q => ∃ ds es : List PyData, Dt K H x (.tuple ds) ∧ Dt K H y (.tuple es) ∧ ds.length + es.length ≤ 2000 ∧ ∀ v H', Same H H' → Dt K H' v (.tuple (ds ++ es)) → Q v H'
theorem op_catTD : OpR X (binaryOp .Add) (rCatTD X.K) := by
  intro pins s σ H x y v u Q I rx ry h
  obtain ⟨ds, es, dx, dy, hz, q⟩ := h
  obtain ⟨a, xs, rfl, ha, ax⟩ := dx.tuple_inv
  obtain ⟨b, ys, rfl, hb, ay⟩ := dy.tuple_inv
  have lx := ax.length
  have ly := ay.length
  refine op_catA pins s σ H _ _ v u Q I rx ry ⟨a, b, xs, ys, rfl, rfl, ha, hb, by rw [lx, ly]; exact Nat.le_trans hz (by decide), fun e => ?_, fun _ e => ?_, fun _ _ p hp => ?_⟩
  · subst e
    cases ax
    exact q _ _ (Same.refl _) dy
  · subst e
    cases ay
    rw [List.append_nil] at q
    exact q _ _ (Same.refl _) dx
  · exact q _ _ (Same.new hp) (Dt.made hp (DtAll.app ax ay))
end
end LK

set_option Elab.async false
set_option linter.all false
set_option maxRecDepth 100000
set_option maxHeartbeats 4000000
/-! x.split(): the words of a text -/
namespace LK
open PySem PySem.Spec PyProof.Rows L2
theorem mt_split0 {X : Cx} : MtR X "str.split" (fun x xs H Q => ∃ z, x = .str z ∧ xs = [] ∧ z.length + 2 ≤ sizeLine ∧ rNewStrs (Txt.words z) H Q) := by
  intro pins s σ H x xs v us Q I ex es hyp
  obtain ⟨z, rfl, rfl, lim, next⟩ := hyp
  obtain ⟨tok, rfl⟩ := ex
  cases es
  have few : (Txt.words z).length ≤ sizeLine := Nat.le_trans (words_le z) (by omega)
  have few2 : (Builtin.Str.spaceWords z (z.length + 1)).length ≤ sizeLine := by
    have w1 := (StrLaws.sw_weight z).1
    have w2 := StrLaws.len_le_wsum (Builtin.Str.spaceWords z (z.length + 1))
    omega
  refine call_meets F.slot_str_split (typeIs_str _ _ _) F.entry_str_split (F.args_str_split_1 _) (meets_str_split_space z tok (by omega) few2) ?_
  cases hb : Builtin.Str.spaceWords z (z.length + 1) == [(0, z.length)]
  · simp only [Bool.false_eq_true, if_false]
    rw [strsFrom_eq]
    exact laid_strs (ys := Txt.words z) I ((numbered_texts _ _).trans (if_neg (ne_true_of_eq_false hb)).symm) few next
  · simp only [if_true]
    exact laid_strs (l := [(z, tok)]) (ys := Txt.words z) (k := s.toks) I (if_pos hb).symm few next
end LK

set_option Elab.async false
set_option linter.all false
set_option maxRecDepth 100000
set_option maxHeartbeats 4000000
/-! zip of a text and a tuple -/
namespace LK
open PySem PySem.Spec PyProof.Rows L2 SX
/-- the signs of x beside the items of the tuple at b, in new pairs -/
def ItzST (K : PySem.W.Frag) (x : Str) (b : Addr) : It where
  go := fun i H => ∃ (ys : List V) (c : Nat) (y : V), SqT K H b ys ∧ x.cps[i]? = some c ∧ ys[i]? = some y
  yld := fun i H v H' => ∃ T c y, v = .ref T ∧ H T = none ∧ H' = upd H T (.tup [.str ⟨#[c]⟩, y]) ∧ x.cps[i]? = some c ∧ ∀ ys, SqT K H b ys → ys[i]? = some y
  stop := fun i H => ∃ ys : List V, SqT K H b ys ∧ i ≤ x.cps.size ∧ i ≤ ys.length ∧ (i = x.cps.size ∨ i = ys.length)
theorem sep_of {z TI TO i1 i2 b : Addr} (D : ZipApart z TI TO i1 i2 b b) : ZipSep2 z TI TO i1 i2 [i1] [i2, b] :=
  ⟨D.TIz, D.TOz, D.TITO, D.TIi1, by simp, by simpa using D.i1z.symm, by simpa using D.TOi1, D.TIi2, by simp, by simp [D.i2z.symm, D.l1z.symm], by simp [D.TOi2, D.l1TO.symm], by simp [D.i12, D.l1i1.symm], by simpa using D.i12.symm⟩
theorem turn_zipST {P : Program} {w : World} {K : PySem.W.Frag} {elts : List Expr} {kk : Nat} {tpos : Pos} {x : Str} {t : Tok} {b z TI TO i1 i2 : Addr} (D : ZipApart z TI TO i1 i2 b b) :
    Turn P w K (.Tuple elts kk tpos) (ItzST K x b) [z, TI, TO, i1, i2] z (fun i h => IsZip h z TI TO .none ∧ IsTupOf2 h TI (.ref i1) (.ref i2) ∧ (∃ u v, IsTupOf2 h TO u v) ∧ h.IsStrIter i1 (strIterType x) x t i ∧ h.IsTupleIter i2 b i) where
  mem := List.mem_cons_self
  obj := fun i h ⟨a1, a2, ⟨u, v, a3⟩, ⟨o1, e1, _, d1⟩, ⟨o2, e2, _, d2⟩⟩ c hc => by
    simp only [List.mem_cons, List.not_mem_nil, or_false] at hc
    rcases hc with rfl | rfl | rfl | rfl | rfl
    · exact ⟨_, a1, fun v q => nomatch q⟩
    · exact ⟨_, a2, fun v q => nomatch q⟩
    · exact ⟨_, a3, fun v q => nomatch q⟩
    · exact ⟨o1, e1, fun v q => by rw [d1] at q; cases q⟩
    · exact ⟨o2, e2, fun v q => by rw [d2] at q; cases q⟩
  keep := fun i h h' ⟨a1, a2, ⟨u, v, a3⟩, a4, a5⟩ k =>
    ⟨k z (by simp) _ a1, k TI (by simp) _ a2, ⟨u, v, k TO (by simp) _ a3⟩, (let ⟨o, e, r⟩ := a4; ⟨o, k i1 (by simp) o e, r⟩), a5.at fun o q => k i2 (by simp) o q⟩
  item := by
    intro X hP hw hK hc i pins s σ H E I hf st hg
    subst hP hw hK
    obtain ⟨a1, a2, ⟨u0, v0, a3⟩, a4, a5⟩ := st
    obtain ⟨ys, c, y, hq, hx, hy⟩ := hg
    obtain ⟨its, rv, p, _⟩ := I.tuple hq
    obtain ⟨u, hu, ru⟩ := rv.get hy
    have hzl : z < s.heap.objs.size := Heap.lt_size a1
    have D1 := Draws.text (prog := X.prog) (w := X.w) (A := X.A.in1) (I.ok.hd hc) i1 x t
    have D2 := Draws.tuple (prog := X.prog) (w := X.w) (A := X.A.in1) (I.ok.hd hc) i2 b D.l1i2 its.toArray
    have l1 : i < x.cps.size := (Array.getElem?_eq_some_iff.mp hx).1
    have l2 : i < its.toArray.size := by
      have := (List.getElem?_eq_some_iff.mp hu).1
      simpa using this
    refine wpAny_pyNext_zipD2_item (sep_of D) D1 D2 a1 a2 a3 a4 ⟨a5, p⟩ l1 l2 fun x1 x2 h' tk p1 p2 b1 b2 b3 b4 b5 b6 hk => ?_
    obtain ⟨c', tc, hc', rfl⟩ := p1
    obtain rfl : c' = c := Option.some.inj (hc'.symm.trans hx)
    obtain rfl : x2 = u := by
      have p2 : its.toArray[i]? = some x2 := p2
      rw [show its.toArray[i]? = some u by simpa using hu] at p2
      exact (Option.some.inj p2).symm
    refine ⟨_, rfl, wpAny_letOwnedTupleGo_zip (s := { s with heap := h', toks := tk }) b1 fun h'' z'' sb => ?_⟩
    have hT2 : h''.get? s.heap.objs.size = _ := (sb.2 _ (Nat.ne_of_gt hzl)).trans b5
    have new : ObjOk X.prog X.w (upd H s.heap.objs.size (.tup [.str ⟨#[c']⟩, y])) h'' s.heap.objs.size (.tup [.str ⟨#[c']⟩, y]) :=
      ⟨by show 2 ≤ sizeLine; decide, [.str ⟨#[c']⟩ tc, x2], .cons ⟨_, rfl⟩ (.cons ru .nil), ⟨_, hT2, rfl, _, rfl⟩⟩
    have I1 : Inv X pins σ (upd H s.heap.objs.size (.tup [.str ⟨#[c']⟩, y])) { s with heap := h'', toks := tk } :=
      I.turnedNew (t' := tk) (ch := [z, TI, TO, i1, i2]) (fun q o hb e => (sb.2 q (fun g => hb (by simp [g]))).trans (hk q o (fun g => hb (by simp [g])) (fun g => hb (by simp [g])) (fun g => hb (by simp [g])) (fun g => hb (by simp [g])) e)) hf (Nat.le_refl _) new
    refine ⟨.ref s.heap.objs.size, _, I1, rfl, ⟨_, c', y, rfl, I.hok.fresh (Nat.le_refl _), rfl, hx, fun l hl => by rw [I.tuple_inj hl hq]; exact hy⟩, ⟨z'', ?_, ⟨_, _, (sb.2 _ D.TOz).trans b2⟩, (let ⟨o, e, r⟩ := b3; ⟨o, (sb.2 _ D.i1z).trans e, r⟩), b4.1.at fun o q => (sb.2 _ D.i2z).trans q⟩, fun q hm => ?_⟩
    · exact (sb.2 _ D.TIz).trans (hk _ _ D.TIz D.TITO D.TIi1 D.TIi2 a2)
    · have hlt : q < s.heap.objs.size := by
        simp only [List.mem_cons, List.not_mem_nil, or_false] at hm
        rcases hm with rfl | rfl | rfl | rfl | rfl
        · exact hzl
        · exact Heap.lt_size a2
        · exact Heap.lt_size a3
        · obtain ⟨_, e, _⟩ := a4; exact Heap.lt_size e
        · obtain ⟨_, e, _⟩ := a5; exact Heap.lt_size e
      rw [upd_ne (Nat.ne_of_lt hlt)]
      exact (hf q hm).1
  done := by
    intro X hP hw hK hc i pins s σ H E I hf st hg
    subst hP hw hK
    obtain ⟨a1, a2, ⟨u0, v0, a3⟩, a4, a5⟩ := st
    obtain ⟨ys, hq, e1, e2, e3⟩ := hg
    obtain ⟨its, rv, p, _⟩ := I.tuple hq
    have hl := rv.length
    have D1 := Draws.text (prog := X.prog) (w := X.w) (A := X.A.in1) (I.ok.hd hc) i1 x t
    have D2 := Draws.tuple (prog := X.prog) (w := X.w) (A := X.A.in1) (I.ok.hd hc) i2 b D.l1i2 its.toArray
    have hz : its.toArray.size = ys.length := by simp; omega
    refine wpAny_pyNext_zipD2_end (sep_of D) D1 D2 a1 a2 a3 a4 ⟨a5, p⟩ e1 (by omega) (by omega) fun h' tk hk => ⟨rfl, ?_⟩
    exact I.turnedL (t' := tk) (ch := [z, TI, TO, i1, i2]) (fun q o hb e => hk q o (fun g => hb (by simp [g])) (fun g => hb (by simp [g])) (fun g => hb (by simp [g])) (fun g => hb (by simp [g])) e) hf
  self := fun A i s Q E st h => wpAny_pyIter_zip st.1 h
def iZipST (K : PySem.W.Frag) (ta : TA) : TI := fun σ H R => ta σ H fun vs H1 => ∃ z b ys, vs = [.str z, .ref b] ∧ SqT K H1 b ys ∧ R (ItzST K z b) H1
theorem pi_zipST {X : Cx} {e e2 : Expr} {ta : TA} {p pos tpos : Pos} {elts : List Expr} {kk : Nat} (hg : Gl X "zip") (hm : X.mg "zip" = none) (ha : PA X [e, e2] ta)
    (hs : starEach [e, e2] X.env = (false, eval e X.env) :: starEach [e2] X.env := by rfl) (hpl : (backTo pos (starEach [e2] X.env)).any (·.1) = false := by rfl) :
    PI X (.Tuple elts kk tpos) (.Call (.Name "zip" p) [e, e2] [] pos) (iZipST X.K ta) := by
  refine ⟨fun pins s σ H R I h => ?_⟩
  refine Call_ (ld_blt I hg hm PyProof.Rows.boot_zip (PyProof.Rows.callWith_type1 (thn (ha.run pos pins s σ H _ I h) fun us s1 ⟨vs, H1, I1, r1, q1⟩ => ?_) hs hpl))
  obtain ⟨z, b, ys, rfl, hq, q⟩ := q1
  obtain ⟨u1, u2, rfl, r1, r2⟩ := vals2 r1
  obtain ⟨t, rfl⟩ := r1
  cases r2
  obtain ⟨its, rv, pt, _⟩ := I1.tuple hq
  obtain ⟨o2, ho2, _⟩ := id pt
  refine zip_begins2 (begins_text z t) (begins_tuple b its.toArray) trivial pt fun h' hz hTI hTO h1 h2 hsz hk => wpAny_pyIter_zip hz ?_
  have hb : b < s1.heap.objs.size := Heap.lt_size ho2
  refine ⟨s1.heap.objs.size + 4, [s1.heap.objs.size + 4, s1.heap.objs.size + 2, s1.heap.objs.size + 3, s1.heap.objs.size, s1.heap.objs.size + 1], _, _, H1, rfl, I1.kept (t' := s1.toks) hk, turn_zipST (x := z) (t := t) (PySem.W.ktu_apart s1.heap.objs.size b b hb hb), ⟨hz, hTI, ⟨_, _, hTO⟩, ⟨_, h1, rfl, rfl⟩, ⟨_, h2, rfl, rfl⟩⟩, fun c hc => ?_, q⟩
  have hle : s1.heap.objs.size ≤ c := by
    simp only [List.mem_cons, List.not_mem_nil, or_false] at hc
    rcases hc with rfl | rfl | rfl | rfl | rfl
    · exact Nat.le_add_right _ _
    · exact Nat.le_add_right _ _
    · exact Nat.le_add_right _ _
    · exact Nat.le_refl _
    · exact Nat.le_add_right _ _
  exact I1.fpOk hle (I1.hok.fresh hle)
/-- walked over a text and a tuple of one length -/
theorem walk_zipST {K : PySem.W.Frag} {z : List Nat} {b : Addr} {ys : List V} (hl : z.length = ys.length) : Walk (ItzST K (S z) b) ys.length (fun H => SqT K H b ys) (YPair (fun i => (z[i]?).map fun c => V.str (S [c])) (fun i => ys[i]?)) := by
  have hz : (S z).cps.size = z.length := by simp [S]
  have hg : ∀ i : Nat, (S z).cps[i]? = z[i]? := fun i => by simp [S]
  refine ⟨fun i _ hi q => ⟨ys, z[i]'(by omega), ys[i], q, by rw [hg]; simp [hl, hi], by simp [hi]⟩, fun _ q => ⟨ys, q, by rw [hz, hl]; exact Nat.le_refl _, Nat.le_refl _, .inr rfl⟩, fun i H v H' _ q y => ?_⟩
  obtain ⟨T, c, y', h1, h2, h3, h4, h5⟩ := y
  exact ⟨T, .str (S [c]), y', h1, h2, h3, (by have hz4 := h4; rw [hg] at hz4; show (z[i]?).map (fun c => V.str (S [c])) = _; rw [hz4]; rfl), h5 ys q⟩
/-- a loop, by its turns -/
theorem walk_gen {J : It} {n : Nat} {G : Hp → Prop} {Y : Nat → Hp → V → Hp → Prop} (w : Walk J n G Y) {F : (Hp → Prop) → V → Hp → Prop} {H0 : Hp} {Qd : Hp → Prop} (Pv : Nat → Hp → Prop) (h0 : Pv 0 H0) (hG : ∀ i H, i ≤ n → Pv i H → G H)
    (hs : ∀ i x H H', i < n → Pv i H → Y i H x H' → F (Pv (i + 1)) x H') (hd : ∀ H, Pv n H → Qd H) :
    ∃ W : Nat → Nat → Hp → Prop, (∃ m, W 0 m H0) ∧ ∀ i m H, W i m H → (J.stop i H ∧ Qd H) ∨ (J.go i H ∧ ∃ Nx : Hp → Prop, (∀ H', Nx H' → ∃ m', m' < m ∧ W (i + 1) m' H') ∧ ∀ x H', J.yld i H x H' → F Nx x H') := by
  refine ⟨fun i m H => m = n - i ∧ i ≤ n ∧ Pv i H, ⟨n, by simp, Nat.zero_le _, h0⟩, ?_⟩
  rintro i m H ⟨rfl, hi, pv⟩
  rcases Nat.lt_or_ge i n with hlt | hge
  · exact .inr ⟨w.goes i H hlt (hG i H hi pv), Pv (i + 1), fun H' pv' => ⟨n - (i + 1), by omega, rfl, hlt, pv'⟩, fun x H' hy => hs i x H H' hlt pv (w.yields i H x H' hlt (hG i H hi pv) hy)⟩
  · have hin : i = n := by omega
    subst hin
    exact .inl ⟨w.stops H (hG i H hi pv), hd H pv⟩
end LK

set_option Elab.async false
set_option linter.all false
set_option maxRecDepth 100000
set_option maxHeartbeats 4000000
set_option exponentiation.threshold 3000
namespace K05
open PySem PySem.Spec PyProof.Rows LK NdefX SupX SX
open L2 hiding spCell
def sgns : List (List Nat) := [[47, 47, 61], [47, 47], [60, 61], [62, 61], [61, 61], [33, 61], [43, 61], [45, 61], [42, 61], [43], [45], [42], [60], [62], [61], [40], [41], [91], [93], [123], [125], [44], [58], [46]]
def kwords : List Str := ["False", "None", "True", "and", "as", "break", "class", "continue", "def", "del", "elif", "else", "except", "finally", "for", "global", "if", "in", "is", "mod", "nonlocal", "not", "or", "pass", "raise", "return", "try", "while", "yield"]
def top (i : Nat) : Stmt := PySem.Challenge.pw_pyhold_k05_strengths.main.body.getD i (.Pass ⟨0, 0, 0, 0⟩)
abbrev s_Fault___init__ : Stmt := inClass (top 2) 0
def begKinds : List Str := ["name", "int", "text"]
def begWords : List Str := ["not", "None", "True", "False"]
def begSigns : List Str := ["-", "(", "[", "{"]
def tg1 (s : Str) (x : PyData) : PyData := .tuple [.str s, x]
def cmps : List Str := ["==", "!=", "<", "<=", ">", ">=", "in"]
def nothingD : PyData := tg1 "const" (.tuple [.str "none"])
def changesL : List (Str × Str) := [("+=", "+"), ("-=", "-"), ("*=", "*"), ("//=", "//")]

structure Txt (K : PySem.W.Frag) (mg : Str → Option Value) : Prop where
  c_MOST_LEVELS : GInt mg "MOST_LEVELS" 20
  c_MOST_PARTS : GInt mg "MOST_PARTS" 200
  c_MOST_CHARACTERS : GInt mg "MOST_CHARACTERS" 20000
  c_MOST_IN_TEXT : GInt mg "MOST_IN_TEXT" 200
  c_MOST_BRACKETS : GInt mg "MOST_BRACKETS" 20
  c_INTEGER_END : GInt mg "INTEGER_END" (2 ^ 256)
  c_MOST_IN_NAME : GInt mg "MOST_IN_NAME" 30
  c_MOST_DIGITS : GInt mg "MOST_DIGITS" 78
  c_MOST_BLOCKS : GInt mg "MOST_BLOCKS" 12
  c_BEGINNINGS : GTup K mg "BEGINNINGS" (begKinds.map V.str)
  c_BEGINNING_WORDS : GTup K mg "BEGINNING_WORDS" (begWords.map V.str)
  c_BEGINNING_SIGNS : GTup K mg "BEGINNING_SIGNS" (begSigns.map V.str)
  c_COMPARISONS : GTup K mg "COMPARISONS" (cmps.map V.str)
  c_CHANGES : GTup K mg "CHANGES" (changesL.map fun p => V.str p.1)
  c_SIGNS : GTup K mg "SIGNS" (sgns.map fun z => V.str (S z))
  c_KEYWORDS : GTup K mg "KEYWORDS" (kwords.map V.str)
  c_NOTHING : GDat K mg "NOTHING" nothingD
  c_CHARACTERS : ∃ z, GStr mg "CHARACTERS" z ∧ ∀ c < 128, okC c = true → c ∈ z.cps.toList
  b_len : mg "len" = none
  b_int : mg "int" = none
  b_range : mg "range" = none
  b_list : mg "list" = none
  b_tuple : mg "tuple" = none
  b_isinstance : mg "isinstance" = none
  b_bool : mg "bool" = none
  b_str : mg "str" = none
  b_enumerate : mg "enumerate" = none
section
variable {P : Program} {w : World} {K : PySem.W.Frag} {mg : Str → Option Value} {base : Heap}
/-! what the parser gives, as functions over the tokens that are left -/
structure Tk where
  k : Str
  v : PyData
  l : Int
def tkD (t : Tk) : PyData := .tuple [.str t.k, t.v, .int t.l]
inductive Res (α : Type)
  | ok (a : α) (r : List Tk)
  | flt (l : Int) (s : Str)
  | bad
abbrev PM (α : Type) := List Tk → Res α
def PM.bind {α β : Type} (m : PM α) (f : α → PM β) : PM β := fun ts => match m ts with
  | .ok a r => f a r
  | .flt l s => .flt l s
  | .bad => .bad
def PM.ret {α : Type} (a : α) : PM α := fun ts => .ok a ts
def PM.flt {α : Type} (l : Int) (s : Str) : PM α := fun _ => .flt l s
def PM.bad {α : Type} : PM α := fun _ => .bad
/-- what is due of an outcome -/
def Out {α : Type} (r : Res α) (ok : α → List Tk → Prop) (fl : Int → Str → Prop) : Prop := match r with
  | .ok a r => ok a r
  | .flt l s => fl l s
  | .bad => False
theorem Out.bind {α β : Type} {m : PM α} {f : α → PM β} {ts : List Tk} {ok : β → List Tk → Prop} {fl : Int → Str → Prop} (h : Out (m.bind f ts) ok fl) : Out (m ts) (fun a r => Out (f a r) ok fl) fl := by
  unfold PM.bind at h
  cases e : m ts with
  | ok a r => rw [e] at h; exact h
  | flt l s => rw [e] at h; exact h
  | bad => rw [e] at h; exact h.elim
theorem Out.mono {α : Type} {r : Res α} {ok ok' : α → List Tk → Prop} {fl fl' : Int → Str → Prop} (h : Out r ok fl) (h1 : ∀ a r, ok a r → ok' a r) (h2 : ∀ l s, fl l s → fl' l s) : Out r ok' fl' := by
  cases r with
  | ok a r => exact h1 _ _ h
  | flt l s => exact h2 _ _ h
  | bad => exact h
def isMark (t : Tk) (w : Str) : Bool := inV (V.str t.k) [V.str "word", V.str "sign"] && (match t.v with | .str z => decide (V.str z = V.str w) | _ => false)
def peekM : PM Tk := fun ts => match ts with | t :: _ => .ok t ts | [] => .bad
def takeM : PM PyData := fun ts => match ts with | t :: r => .ok t.v r | [] => .bad
def seesM (w : Str) : PM Bool := fun ts => match ts with | t :: _ => .ok (isMark t w) ts | [] => .bad
def skipM (w : Str) : PM Bool := fun ts => match ts with | t :: r => if isMark t w = true then .ok true r else .ok false ts | [] => .bad
def badSyntax {α : Type} : PM α := fun ts => match ts with | t :: _ => .flt t.l "invalid syntax" | [] => .bad
def needM (w : Str) : PM Unit := (skipM w).bind fun b => if b = true then .ret () else badSyntax
def takeStrM : PM Str := fun ts => match ts with | t :: r => (match t.v with | .str z => .ok z r | _ => .bad) | [] => .bad
def takeNameM : PM Str := peekM.bind fun t => if decide (V.str t.k = V.str "name") = true then takeStrM else badSyntax
def seesNamedM : PM Bool := fun ts => match ts with | t :: r => if decide (V.str t.k = V.str "name") = true then (match r with | u :: _ => .ok (isMark u "=") ts | [] => .bad) else .ok false ts | [] => .bad
def inTk (t : Tk) (ws : List Str) : Bool := match t.v with
  | .str z => inV (V.str z) (ws.map V.str)
  | _ => false
def beginsM (t : Tk) : Bool := if decide (V.str t.k = V.str "word") = true then inTk t begWords else if decide (V.str t.k = V.str "sign") = true then inTk t begSigns else inV (V.str t.k) (begKinds.map V.str)
def seesExprM : PM Bool := fun ts => match ts with | t :: _ => .ok (beginsM t) ts | [] => .bad
theorem Out.skip {α : Type} {w : Str} {f : Bool → PM α} {ts : List Tk} {ok : α → List Tk → Prop} {fl : Int → Str → Prop} (h : Out ((skipM w).bind f ts) ok fl) : Out (skipM w ts) (fun a r => Out (f a r) ok fl) fun _ _ => False := by
  have h := h.bind
  unfold skipM at h ⊢
  cases ts with
  | nil => exact h
  | cons t r =>
    dsimp only at h ⊢
    cases c : isMark t w with
    | true => rw [c] at h; exact h
    | false => rw [c] at h; exact h
theorem Out.peek {α : Type} {f : Tk → PM α} {t : Tk} {ts : List Tk} {ok : α → List Tk → Prop} {fl : Int → Str → Prop} (h : Out (peekM.bind f (t :: ts)) ok fl) : Out (f t (t :: ts)) ok fl := h
theorem Out.take {α : Type} {f : PyData → PM α} {t : Tk} {ts : List Tk} {ok : α → List Tk → Prop} {fl : Int → Str → Prop} (h : Out (takeM.bind f (t :: ts)) ok fl) : Out (f t.v ts) ok fl := h
theorem Out.sees {α : Type} {f : Bool → PM α} {w : Str} {t : Tk} {ts : List Tk} {ok : α → List Tk → Prop} {fl : Int → Str → Prop} (h : Out ((seesM w).bind f (t :: ts)) ok fl) : Out (f (isMark t w) (t :: ts)) ok fl := h
theorem Out.yes {α : Type} {c : Bool} {A B : PM α} {ts : List Tk} {ok : α → List Tk → Prop} {fl : Int → Str → Prop} (h : Out ((if c = true then A else B) ts) ok fl) (hc : c = true) : Out (A ts) ok fl := by rw [if_pos hc] at h; exact h
theorem Out.no {α : Type} {c : Bool} {A B : PM α} {ts : List Tk} {ok : α → List Tk → Prop} {fl : Int → Str → Prop} (h : Out ((if c = true then A else B) ts) ok fl) (hc : c = false) : Out (B ts) ok fl := by rw [hc, if_neg Bool.false_ne_true] at h; exact h
theorem Out.bad {α : Type} {ts : List Tk} {ok : α → List Tk → Prop} {fl : Int → Str → Prop} (h : Out ((badSyntax : PM α) ts) ok fl) : ∃ t r, ts = t :: r ∧ fl t.l "invalid syntax" := by
  cases ts with
  | nil => exact h.elim
  | cons t r => exact ⟨t, r, rfl, h⟩
/-- what a token may be -/
structure TkOk (t : Tk) : Prop where
  l : t.l.natAbs < 2 ^ 100
  v : (∃ z, t.v = .str z) ∨ ∃ i, t.v = .int i
  m : inV (V.str t.k) [V.str "word", V.str "sign", V.str "name"] = true → ∃ z, t.v = .str z
theorem TkOk.mark {t : Tk} (h : TkOk t) (c : inV (V.str t.k) [V.str "word", V.str "sign"] = true) : ∃ z, t.v = .str z := by
  refine h.m ?_
  unfold inV at c ⊢
  simp only [List.any_cons, List.any_nil, Bool.or_false, Bool.or_eq_true] at c ⊢
  rcases c with c | c
  · exact .inl c
  · exact .inr (.inl c)
def rdF (tl : Addr) (i : Nat) : List (Str × V) := [("tokens", .ref tl), ("place", .int (i : Int))]
theorem rdF_t {tl : Addr} {i : Nat} : (rdF tl i).lookup ("tokens" : Str) = some (.ref tl) := by rfl
theorem rdF_p {tl : Addr} {i : Nat} : (rdF tl i).lookup ("place" : Str) = some (.int (i : Int)) := by rfl
/-- the reader stands before the tokens ts -/
def RdAt (K : PySem.W.Frag) (C tl : Addr) (ts : List Tk) (ra : Addr) (H : Hp) : Prop := ∃ (i : Nat) (dx : Addr) (TS : List Tk) (zs : List V), H ra = some (.ins C dx (rdF tl i)) ∧ TS.drop i = ts ∧ H tl = some (.lst zs) ∧ DtAll K H zs (TS.map tkD) ∧ TS.length ≤ 90000 ∧ ∀ t ∈ TS, TkOk t
theorem keepI {ra C dx : Addr} {fs : List (Str × V)} {H H' : Hp} (e : Keep ra H H') (hp : H ra = some (.ins C dx fs)) : KeepT K H H' := fun a xs h => by
  rcases h with (h | ⟨o, h⟩) | h
  · exact .inl (.inl (e _ _ h (ne_of h hp (by intro z; cases z))))
  · exact .inl (.inr ⟨o, e _ _ h (ne_of h hp (by intro z; cases z))⟩)
  · exact .inr h
theorem RdAt.keepT {C tl ra : Addr} {ts : List Tk} {H H' : Hp} (R : RdAt K C tl ts ra H) (e : Keep ra H H') : KeepT K H H' := by
  obtain ⟨i, dx, TS, zs, h, _⟩ := R
  exact keepI e h
theorem RdAt.same {C tl ra : Addr} {ts : List Tk} {H H' : Hp} (R : RdAt K C tl ts ra H) (e : Same H H') : RdAt K C tl ts ra H' := by
  obtain ⟨i, dx, TS, zs, h1, h2, h3, h4, h5, h6⟩ := R
  exact ⟨i, dx, TS, zs, e _ _ h1, h2, e _ _ h3, h4.mono e, h5, h6⟩
theorem RdAt.upd {C tl ra l : Addr} {ts : List Tk} {H : Hp} {xs ys : List V} (R : RdAt K C tl ts ra H) (hl : H l = some (.lst ys)) (n1 : l ≠ ra) (n2 : l ≠ tl) : RdAt K C tl ts ra (upd H l (.lst xs)) := by
  obtain ⟨i, dx, TS, zs, h1, h2, h3, h4, h5, h6⟩ := R
  exact ⟨i, dx, TS, zs, by rw [upd_ne (Ne.symm n1)]; exact h1, h2, by rw [upd_ne (Ne.symm n2)]; exact h3, h4.keepT (KeepT.upd hl), h5, h6⟩
theorem RdAt.ne {C tl ra l : Addr} {ts : List Tk} {H : Hp} (R : RdAt K C tl ts ra H) (hl : H l = none) : l ≠ ra ∧ l ≠ tl := by
  obtain ⟨i, dx, TS, zs, h1, h2, h3, h4, h5, h6⟩ := R
  exact ⟨(ne_of_none h1 hl).symm, (ne_of_none h3 hl).symm⟩
theorem RdAt.len {C tl ra : Addr} {ts : List Tk} {H : Hp} (R : RdAt K C tl ts ra H) : ts.length ≤ 90000 := by
  obtain ⟨i, dx, TS, zs, h1, h2, h3, h4, h5, h6⟩ := R
  rw [← h2, List.length_drop]
  omega
theorem RdAt.ok {C tl ra : Addr} {ts : List Tk} {H : Hp} (R : RdAt K C tl ts ra H) : ∀ t ∈ ts, TkOk t := by
  obtain ⟨i, dx, TS, zs, h1, h2, h3, h4, h5, h6⟩ := R
  intro t ht
  rw [← h2] at ht
  exact h6 t (List.mem_of_mem_drop ht)
/-- the reader lets a token pass -/
theorem RdAt.step {C tl ra : Addr} {t : Tk} {ts : List Tk} {H : Hp} (R : RdAt K C tl (t :: ts) ra H) : ∃ (i : Nat) (dx : Addr), H ra = some (.ins C dx (rdF tl i)) ∧ ∀ H', Keep ra H H' → H' ra = some (.ins C dx (rdF tl (i + 1))) → RdAt K C tl ts ra H' := by
  have R0 := R
  obtain ⟨i, dx, TS, zs, h1, h2, h3, h4, h5, h6⟩ := R
  refine ⟨i, dx, h1, fun H' k h => ⟨i + 1, dx, TS, zs, h, ?_, k _ _ h3 (ne_of h3 h1 (by intro z; cases z)), h4.keepT (R0.keepT k), h5, h6⟩⟩
  rw [← List.drop_drop, h2]
  rfl
def OkP {α : Type} (K : PySem.W.Frag) (C tl ra : Addr) (g : α → PyData) (H : Hp) (Q : VK) : α → List Tk → Prop := fun a rest => ∀ v H', RdAt K C tl rest ra H' → Keep ra H H' → Dt K H' v (g a) → Q v H'
def FlP (CF ra : Addr) (H : Hp) (E : XK) : Int → Str → Prop := fun l s => ∀ d H', Keep ra H H' → H' d = some (faultD l s) → E (.ref CF) (some d) H'
theorem FlP.keep {CF ra : Addr} {H H1 : Hp} {E : XK} {l : Int} {s : Str} (kp : Keep ra H H1) (h : FlP CF ra H E l s) : FlP CF ra H1 E l s := fun d H' k e => h d H' (kp.trans k) e
theorem OkP.keep {α : Type} {C tl ra : Addr} {g : α → PyData} {H H1 : Hp} {Q : VK} {a : α} {r : List Tk} (kp : Keep ra H H1) (h : OkP K C tl ra g H Q a r) : OkP K C tl ra g H1 Q a r := fun v H' R k d => h v H' R (kp.trans k) d
/-- the promise of a def that reads a tree (or what g makes one of) -/
def spPf {α : Type} (K : PySem.W.Frag) (C CF : Addr) (m : PM α) (g : α → PyData) : Sp := fun vs H Q E => ∃ (ra tl : Addr) (ts : List Tk), vs = [.ref ra] ∧ RdAt K C tl ts ra H ∧ Out (m ts) (OkP K C tl ra g H Q) (FlP CF ra H E)
abbrev spP (K : PySem.W.Frag) (C CF : Addr) (m : PM PyData) : Sp := spPf K C CF m fun d => d
end

section
--SPLIT
end
abbrev s_Reader___init__ : Stmt := inClass (top 51) 0
abbrev N_Reader___init__ : List Str := ["self", "tokens"]
abbrev P_Reader___init__ : List Str := ["self", "tokens"]
theorem sc_Reader___init__ : FnScope N_Reader___init__ P_Reader___init__ (defScope s_Reader___init__) := ⟨rfl, rfl, rfl, by decide +kernel, rfl, by decide +kernel, by decide +kernel⟩
abbrev s_Reader_found_kind : Stmt := inClass (top 51) 1
abbrev N_Reader_found_kind : List Str := ["self"]
abbrev P_Reader_found_kind : List Str := ["self"]
theorem sc_Reader_found_kind : FnScope N_Reader_found_kind P_Reader_found_kind (defScope s_Reader_found_kind) := ⟨rfl, rfl, rfl, by decide +kernel, rfl, by decide +kernel, by decide +kernel⟩
abbrev s_Reader_found_line : Stmt := inClass (top 51) 2
abbrev N_Reader_found_line : List Str := ["self"]
abbrev P_Reader_found_line : List Str := ["self"]
theorem sc_Reader_found_line : FnScope N_Reader_found_line P_Reader_found_line (defScope s_Reader_found_line) := ⟨rfl, rfl, rfl, by decide +kernel, rfl, by decide +kernel, by decide +kernel⟩
abbrev s_Reader__is_mark : Stmt := inClass (top 51) 11
abbrev N_Reader__is_mark : List Str := ["self", "place", "value", "kind", "found", "_"]
abbrev P_Reader__is_mark : List Str := ["self", "place", "value"]
theorem sc_Reader__is_mark : FnScope N_Reader__is_mark P_Reader__is_mark (defScope s_Reader__is_mark) := ⟨rfl, rfl, rfl, by decide +kernel, rfl, by decide +kernel, by decide +kernel⟩
abbrev s_Reader_take : Stmt := inClass (top 51) 3
abbrev N_Reader_take : List Str := ["self", "_", "value"]
abbrev P_Reader_take : List Str := ["self"]
theorem sc_Reader_take : FnScope N_Reader_take P_Reader_take (defScope s_Reader_take) := ⟨rfl, rfl, rfl, by decide +kernel, rfl, by decide +kernel, by decide +kernel⟩
abbrev s_Reader_sees : Stmt := inClass (top 51) 4
abbrev N_Reader_sees : List Str := ["self", "value"]
abbrev P_Reader_sees : List Str := ["self", "value"]
theorem sc_Reader_sees : FnScope N_Reader_sees P_Reader_sees (defScope s_Reader_sees) := ⟨rfl, rfl, rfl, by decide +kernel, rfl, by decide +kernel, by decide +kernel⟩
abbrev s_Reader_skip : Stmt := inClass (top 51) 5
abbrev N_Reader_skip : List Str := ["self", "value"]
abbrev P_Reader_skip : List Str := ["self", "value"]
theorem sc_Reader_skip : FnScope N_Reader_skip P_Reader_skip (defScope s_Reader_skip) := ⟨rfl, rfl, rfl, by decide +kernel, rfl, by decide +kernel, by decide +kernel⟩
abbrev s_Reader_need : Stmt := inClass (top 51) 6
abbrev N_Reader_need : List Str := ["self", "value"]
abbrev P_Reader_need : List Str := ["self", "value"]
theorem sc_Reader_need : FnScope N_Reader_need P_Reader_need (defScope s_Reader_need) := ⟨rfl, rfl, rfl, by decide +kernel, rfl, by decide +kernel, by decide +kernel⟩
abbrev s_Reader_take_name : Stmt := inClass (top 51) 7
abbrev N_Reader_take_name : List Str := ["self"]
abbrev P_Reader_take_name : List Str := ["self"]
theorem sc_Reader_take_name : FnScope N_Reader_take_name P_Reader_take_name (defScope s_Reader_take_name) := ⟨rfl, rfl, rfl, by decide +kernel, rfl, by decide +kernel, by decide +kernel⟩
abbrev s_Reader_end_line : Stmt := inClass (top 51) 8
abbrev N_Reader_end_line : List Str := ["self"]
abbrev P_Reader_end_line : List Str := ["self"]
theorem sc_Reader_end_line : FnScope N_Reader_end_line P_Reader_end_line (defScope s_Reader_end_line) := ⟨rfl, rfl, rfl, by decide +kernel, rfl, by decide +kernel, by decide +kernel⟩
abbrev s_Reader_sees_named : Stmt := inClass (top 51) 9
abbrev N_Reader_sees_named : List Str := ["self"]
abbrev P_Reader_sees_named : List Str := ["self"]
theorem sc_Reader_sees_named : FnScope N_Reader_sees_named P_Reader_sees_named (defScope s_Reader_sees_named) := ⟨rfl, rfl, rfl, by decide +kernel, rfl, by decide +kernel, by decide +kernel⟩
abbrev s_Reader_sees_expression : Stmt := inClass (top 51) 10
abbrev N_Reader_sees_expression : List Str := ["self", "kind", "value", "_"]
abbrev P_Reader_sees_expression : List Str := ["self"]
theorem sc_Reader_sees_expression : FnScope N_Reader_sees_expression P_Reader_sees_expression (defScope s_Reader_sees_expression) := ⟨rfl, rfl, rfl, by decide +kernel, rfl, by decide +kernel, by decide +kernel⟩
section
variable {P : Program} {w : World} {K : PySem.W.Frag} {mg : Str → Option Value} {base : Heap} {C CF CB tl : Addr}
abbrev fRd : List Str := ["tokens", "place"]
/-- the token that the reader stands before -/
theorem RdAt.tok {ra : Addr} {t : Tk} {ts : List Tk} {H : Hp} (R : RdAt K C tl (t :: ts) ra H) : ∃ (i : Nat) (dx : Addr) (zs : List V) (u : Addr) (x : V), H ra = some (.ins C dx (rdF tl i)) ∧ H tl = some (.lst zs) ∧ i < zs.length ∧ zs[i]? = some (.ref u) ∧ SqT K H u [.str t.k, x, .int t.l] ∧ Dt K H x t.v := by
  obtain ⟨i, dx, TS, zs, h1, h2, h3, h4, h5, h6⟩ := R
  have e : TS[i]? = some t := by
    have : (TS.drop i)[0]? = some t := by rw [h2]; rfl
    rw [List.getElem?_drop] at this
    exact this
  obtain ⟨v, hv, dv⟩ := h4.get (i := i) (d := tkD t) (by rw [List.getElem?_map, e]; rfl)
  obtain ⟨u, xs, rfl, sx, ax⟩ := Dt.tuple_inv dv
  obtain ⟨a, r1, rfl, d1, ax⟩ := ax.cons_inv
  obtain ⟨x, r2, rfl, d2, ax⟩ := ax.cons_inv
  obtain ⟨b, r3, rfl, d3, ax⟩ := ax.cons_inv
  obtain rfl := ax.nil_inv
  obtain rfl := d1.str_inv
  obtain rfl := d3.int_inv
  exact ⟨i, dx, zs, u, x, h1, h3, (List.getElem?_eq_some_iff.mp hv).1, hv, sx, d2⟩
def spKind (K : PySem.W.Frag) (C : Addr) : Sp := fun vs H Q _ => ∃ (ra tl : Addr) (t : Tk) (ts : List Tk), vs = [.ref ra] ∧ RdAt K C tl (t :: ts) ra H ∧ Q (.str t.k) H
theorem ok_kind {f : Addr} {fd : FuncData} (F : Fun K "found_kind" "Reader.found_kind" s_Reader_found_kind f fd) (T : Txt K mg) (UC_Reader : UseC K mg "Reader" fRd C) : FnG P w K mg base CX0 1 f fd P_Reader_found_kind (spKind K C) := by
  refine okG0 F sc_Reader_found_kind (fun vs H Q E h => ?_) fun cdv A outer s H vs Q E hr hg h => ?_
  · obtain ⟨ra, tl, t, ts, rfl, _⟩ := h
    rfl
  · obtain ⟨ra, tl, t, ts, rfl, R, k⟩ := h
    refine ⟨_, (pss_one (ps_ret (pe_ix ix_tup (pe_ix ix_list (pe_fd UC_Reader (by decide +kernel) (pv 0)) (pe_fd UC_Reader (by decide +kernel) (pv 0)) (fun _ _ => rfl)) pe_int (fun _ _ => rfl)))), ?_⟩
    obtain ⟨i, dx, zs, u, x, e, et, hi, hz, su, dx'⟩ := R.tok
    refine ⟨_, rfl, ra, dx, _, _, rfl, e, rdF_t, _, rfl, ra, dx, _, _, rfl, e, rdF_p, tl, _, _, _, rfl, rfl, SqL.of et, at_of' (j := i) rfl hz, ?_⟩
    exact ⟨u, _, _, _, rfl, rfl, su, at0, k⟩
def spFLine (K : PySem.W.Frag) (C : Addr) : Sp := fun vs H Q _ => ∃ (ra tl : Addr) (t : Tk) (ts : List Tk), vs = [.ref ra] ∧ RdAt K C tl (t :: ts) ra H ∧ Q (.int t.l) H
theorem ok_line {f : Addr} {fd : FuncData} (F : Fun K "found_line" "Reader.found_line" s_Reader_found_line f fd) (T : Txt K mg) (UC_Reader : UseC K mg "Reader" fRd C) : FnG P w K mg base CX0 1 f fd P_Reader_found_line (spFLine K C) := by
  refine okG0 F sc_Reader_found_line (fun vs H Q E h => ?_) fun cdv A outer s H vs Q E hr hg h => ?_
  · obtain ⟨ra, tl, t, ts, rfl, _⟩ := h
    rfl
  · obtain ⟨ra, tl, t, ts, rfl, R, k⟩ := h
    refine ⟨_, (pss_one (ps_ret (pe_ix ix_tup (pe_ix ix_list (pe_fd UC_Reader (by decide +kernel) (pv 0)) (pe_fd UC_Reader (by decide +kernel) (pv 0)) (fun _ _ => rfl)) pe_int (fun _ _ => rfl)))), ?_⟩
    obtain ⟨i, dx, zs, u, x, e, et, hi, hz, su, dx'⟩ := R.tok
    refine ⟨_, rfl, ra, dx, _, _, rfl, e, rdF_t, _, rfl, ra, dx, _, _, rfl, e, rdF_p, tl, _, _, _, rfl, rfl, SqL.of et, at_of' (j := i) rfl hz, ?_⟩
    exact ⟨u, _, _, _, rfl, rfl, su, at_of' (j := 2) rfl rfl, k⟩
/-- the mark of the token at the place, or the one behind it -/
def spMark (K : PySem.W.Frag) (C : Addr) : Sp := fun vs H Q _ => ∃ (ra tl : Addr) (i dx : Nat) (zs : List V) (j : Nat) (wd : Str) (t : Tk) (u : Addr) (x : V), vs = [.ref ra, .int (j : Int), .str wd] ∧ H ra = some (.ins C dx (rdF tl i)) ∧ H tl = some (.lst zs) ∧ zs[j]? = some (.ref u) ∧
  SqT K H u [.str t.k, x, .int t.l] ∧ Dt K H x t.v ∧ TkOk t ∧ ∀ H', Same H H' → Q (.bl (isMark t wd)) H'
theorem ok_mark {f : Addr} {fd : FuncData} (F : Fun K "_is_mark" "Reader._is_mark" s_Reader__is_mark f fd) (T : Txt K mg) (UC_Reader : UseC K mg "Reader" fRd C) : FnG P w K mg base CX0 1 f fd P_Reader__is_mark (spMark K C) := by
  refine okG0 F sc_Reader__is_mark (fun vs H Q E h => ?_) fun cdv A outer s H vs Q E hr hg h => ?_
  · obtain ⟨ra, tl, i, dx, zs, j, wd, t, u, x, rfl, _⟩ := h
    rfl
  · obtain ⟨ra, tl, i, dx, zs, j, wd, t, u, x, rfl, e, et, hz, su, dv, ok, k⟩ := h
    refine ⟨_, (pss_cons (ps_asg (pe_ix ix_list (pe_fd UC_Reader (by decide +kernel) (pv 0)) (pv 1) (fun _ _ => rfl)) (pg_tup (by rfl) (pgs_cons (pg_name (i := 3) sc_Reader__is_mark.nd rfl (Or.inl rfl)) (pgs_cons (pg_name (i := 4) sc_Reader__is_mark.nd rfl (Or.inl rfl)) (pgs_cons (pg_name (i := 5) sc_Reader__is_mark.nd rfl (Or.inl rfl)) pgs_nil)))))
  (pss_one (ps_ret (pe_and (pe_cmpR op_in_seq (pv 3) (pe_tup (pa_cons pe_str (pa_cons pe_str pa_nil))) (by rfl)) (pe_one (pe_cmpR op_eq (pv 4) (pv 2) (nomark _))))))), ?_⟩
    refine ⟨_, rfl, ra, dx, _, _, rfl, e, rdF_t, _, rfl, tl, _, _, _, rfl, rfl, SqL.of et, at_of' (j := j) rfl hz, ?_⟩
    refine ⟨_, _, rfl, su, rfl, _, _, rfl, _, _, rfl, _, _, rfl, rfl, ?_⟩
    refine ⟨_, rfl, sz_2, fun p hp => ⟨p, _, rfl, .inr (SqT.of upd_same), rfl, rfl, _, rfl, ?_⟩⟩
    have S1 := Same.new (o := .tup [V.str "word", V.str "sign"]) hp
    refine ite3 (fun c => ?_) fun c => ?_
    · obtain ⟨z, hv⟩ := ok.mark c
      have k := k _ S1
      rw [hv] at dv
      obtain rfl := dv.str_inv
      unfold isMark at k
      rw [show inV (V.str t.k) [V.str "word", V.str "sign"] = true from c, hv, Bool.true_and] at k
      exact ⟨_, rfl, _, rfl, rfl, k⟩
    · have k := k _ S1
      unfold isMark at k
      rw [show inV (V.str t.k) [V.str "word", V.str "sign"] = false from c, Bool.false_and] at k
      exact k
def spTake (K : PySem.W.Frag) (C : Addr) : Sp := fun vs H Q _ => ∃ (ra tl : Addr) (t : Tk) (ts : List Tk), vs = [.ref ra] ∧ RdAt K C tl (t :: ts) ra H ∧ ∀ v H', RdAt K C tl ts ra H' → Keep ra H H' → Dt K H' v t.v → Q v H'
theorem ok_take {f : Addr} {fd : FuncData} (F : Fun K "take" "Reader.take" s_Reader_take f fd) (T : Txt K mg) (UC_Reader : UseC K mg "Reader" fRd C) : FnG P w K mg base CX0 1 f fd P_Reader_take (spTake K C) := by
  refine okG0 F sc_Reader_take (fun vs H Q E h => ?_) fun cdv A outer s H vs Q E hr hg h => ?_
  · obtain ⟨ra, tl, t, ts, rfl, _⟩ := h
    rfl
  · obtain ⟨ra, tl, t, ts, rfl, R, k⟩ := h
    refine ⟨_, (pss_cons (ps_asg (pe_ix ix_list (pe_fd UC_Reader (by decide +kernel) (pv 0)) (pe_fd UC_Reader (by decide +kernel) (pv 0)) (fun _ _ => rfl)) (pg_tup (by rfl) (pgs_cons (pg_name (i := 1) sc_Reader_take.nd rfl (Or.inl rfl)) (pgs_cons (pg_name (i := 2) sc_Reader_take.nd rfl (Or.inl rfl)) (pgs_cons (pg_name (i := 1) sc_Reader_take.nd rfl (Or.inl rfl)) pgs_nil)))))
  (pss_cons (ps_fdaug UC_Reader (by decide +kernel) (pv 0) pe_int iop_add)
  (pss_one (ps_ret (pv 2))))), ?_⟩
    obtain ⟨i, dx, zs, u, x, e, et, hi, hz, su, dv⟩ := R.tok
    obtain ⟨i', dx', e', st⟩ := R.step
    rw [e] at e'
    cases e'
    refine ⟨_, rfl, ra, dx, _, _, rfl, e, rdF_t, _, rfl, ra, dx, _, _, rfl, e, rdF_p, tl, _, _, _, rfl, rfl, SqL.of et, at_of' (j := i) rfl hz, ?_⟩
    refine ⟨_, _, rfl, su, rfl, _, _, rfl, _, _, rfl, _, _, rfl, rfl, ?_⟩
    refine ⟨_, rfl, ra, dx, _, _, rfl, e, rdF_p, _, _, rfl, rfl, dx, _, e, Nat.le_of_ble_eq_true rfl, ?_⟩
    have kp : Keep ra H (upd H ra (.ins C dx (rdF tl (i + 1)))) := fun b o h1 h2 => by rw [upd_ne h2]; exact h1
    exact ⟨_, rfl, k x _ (st _ kp upd_same) kp (dv.keepT (R.keepT kp))⟩
def spSees (K : PySem.W.Frag) (C : Addr) : Sp := fun vs H Q _ => ∃ (ra tl : Addr) (t : Tk) (ts : List Tk) (wd : Str), vs = [.ref ra, .str wd] ∧ RdAt K C tl (t :: ts) ra H ∧ ∀ H', Same H H' → Q (.bl (isMark t wd)) H'
theorem ok_sees {f : Addr} {fd : FuncData} (F : Fun K "sees" "Reader.sees" s_Reader_sees f fd) (T : Txt K mg) (UC_Reader : UseC K mg "Reader" fRd C) (U_Reader__is_mark : UseM P w K mg base CX0 C "_is_mark" 1 P_Reader__is_mark (spMark K C)) : FnG P w K mg base CX0 2 f fd P_Reader_sees (spSees K C) := by
  refine okG0 F sc_Reader_sees (fun vs H Q E h => ?_) fun cdv A outer s H vs Q E hr hg h => ?_
  · obtain ⟨ra, tl, t, ts, wd, rfl, _⟩ := h
    rfl
  · obtain ⟨ra, tl, t, ts, wd, rfl, R, k⟩ := h
    refine ⟨_, (pss_one (ps_ret (pe_mc UC_Reader U_Reader__is_mark pass0 (hr.mono (by decide)) hg (pv 0) (pa_cons (pe_fd UC_Reader (by decide +kernel) (pv 0)) (pa_cons (pv 1) pa_nil))))), ?_⟩
    obtain ⟨i, dx, zs, u, x, e, et, hi, hz, su, dv⟩ := R.tok
    exact ⟨_, rfl, ra, dx, _, rfl, e, by rfl, _, rfl, ra, dx, _, _, rfl, e, rdF_p, _, rfl, ra, tl, i, dx, zs, i, wd, t, u, x, rfl, e, et, hz, su, dv, R.ok t (by simp), k⟩
def spSkip (K : PySem.W.Frag) (C : Addr) : Sp := fun vs H Q _ => ∃ (ra tl : Addr) (ts : List Tk) (wd : Str), vs = [.ref ra, .str wd] ∧ RdAt K C tl ts ra H ∧ Out (skipM wd ts) (fun b rest => ∀ H', RdAt K C tl rest ra H' → Keep ra H H' → Q (.bl b) H') fun _ _ => False
theorem ok_skip {f : Addr} {fd : FuncData} (F : Fun K "skip" "Reader.skip" s_Reader_skip f fd) (T : Txt K mg) (UC_Reader : UseC K mg "Reader" fRd C) (U_Reader_sees : UseM P w K mg base CX0 C "sees" 2 P_Reader_sees (spSees K C)) : FnG P w K mg base CX0 3 f fd P_Reader_skip (spSkip K C) := by
  refine okG0 F sc_Reader_skip (fun vs H Q E h => ?_) fun cdv A outer s H vs Q E hr hg h => ?_
  · obtain ⟨ra, tl, ts, wd, rfl, _⟩ := h
    rfl
  · obtain ⟨ra, tl, ts, wd, rfl, R, k⟩ := h
    refine ⟨_, (pss_cons (ps_if (pt_not (pt_val (pe_mc UC_Reader U_Reader_sees pass0 (hr.mono (by decide)) hg (pv 0) (pa_cons (pv 1) pa_nil))))
   (pss_one (ps_ret pe_bl))
   pss_nil)
  (pss_cons (ps_fdaug UC_Reader (by decide +kernel) (pv 0) pe_int iop_add)
  (pss_one (ps_ret pe_bl)))), ?_⟩
    cases ts with
    | nil => exact k.elim
    | cons t ts =>
      obtain ⟨i, dx, zs, u, x, e, et, hi, hz, su, dv⟩ := R.tok
      refine ⟨_, rfl, ra, dx, _, rfl, e, by rfl, _, rfl, ra, tl, t, ts, wd, rfl, R, fun H1 S1 => ?_⟩
      have R1 := R.same S1
      obtain ⟨i', dx', e1, st⟩ := R1.step
      unfold skipM at k
      refine ⟨_, rfl, ?_⟩
      cases c : isMark t wd with
      | false =>
        dsimp only at k
        rw [c] at k
        exact iteTb rfl (k _ R1 (LK.Same.keep S1))
      | true =>
        dsimp only at k
        rw [c] at k
        refine iteFb rfl ?_
        refine ⟨_, rfl, ra, dx', _, _, rfl, e1, rdF_p, _, _, rfl, rfl, dx', _, e1, Nat.le_of_ble_eq_true rfl, ?_⟩
        have kp : Keep ra H1 (upd H1 ra (.ins C dx' (rdF tl (i' + 1)))) := fun b o h1 h2 => by rw [upd_ne h2]; exact h1
        exact k _ (st _ kp upd_same) ((LK.Same.keep S1).trans kp)
theorem flInv (K : PySem.W.Frag) {ra CF : Addr} {H H1 : Hp} {E : XK} {l : Int} {z : Str} (kp : Keep ra H H1) (k : FlP CF ra H E l z) : ∀ d, H1 d = none → E (.ref CF) (some d) (upd H1 d (faultD l z)) := fun d hd =>
  k d _ (kp.trans (LK.Same.keep (Same.new hd))) upd_same
def spNeed (K : PySem.W.Frag) (C CF : Addr) : Sp := fun vs H Q E => ∃ (ra tl : Addr) (ts : List Tk) (wd : Str), vs = [.ref ra, .str wd] ∧ RdAt K C tl ts ra H ∧ Out (needM wd ts) (fun _ rest => ∀ H', RdAt K C tl rest ra H' → Keep ra H H' → Q .non H') (FlP CF ra H E)
theorem lineOk {ra : Addr} {t : Tk} {ts : List Tk} {H : Hp} (R : RdAt K C tl (t :: ts) ra H) : t.l.natAbs < 2 ^ 100 := (R.ok t (by simp)).l
theorem ok_need {f : Addr} {fd : FuncData} (F : Fun K "need" "Reader.need" s_Reader_need f fd) (T : Txt K mg) (UC_Reader : UseC K mg "Reader" fRd C) (U_Reader_skip : UseM P w K mg base CX0 C "skip" 3 P_Reader_skip (spSkip K C)) (U_Reader_found_line : UseM P w K mg base CX0 C "found_line" 1 P_Reader_found_line (spFLine K C)) (U_Fault : UseF P w K mg base CF CB) :
    FnG P w K mg base (L2.CX P w) 4 f fd P_Reader_need (spNeed K C CF) := by
  refine okG F sc_Reader_need (fun vs H Q E h => ?_) fun cdv A outer s H vs Q E hr hg h => ?_
  · obtain ⟨ra, tl, ts, wd, rfl, _⟩ := h
    rfl
  · obtain ⟨ra, tl, ts, wd, rfl, R, k⟩ := h
    refine ⟨_, (pss_one (ps_if (pt_not (pt_val (pe_mc UC_Reader U_Reader_skip pass0 (hr.mono (by decide)) hg (pv 0) (pa_cons (pv 1) pa_nil))))
   (pss_one (ps_raiseF U_Fault rfl (takes_of rfl rfl rfl rfl) (hr.mono (by decide)) rfl (pa_cons (pe_mc0 UC_Reader U_Reader_found_line pass0 (hr.mono (by decide)) hg (pv 0)) (pa_cons pe_str pa_nil))))
   pss_nil)), ?_⟩
    unfold needM at k
    obtain ⟨i, dx, TS, zs, e, _⟩ := id R
    refine ⟨_, rfl, ra, dx, _, rfl, e, by rfl, _, rfl, ra, tl, ts, wd, rfl, R, k.skip.mono (fun b rest k H1 R1 kp => ?_) fun _ _ h => h⟩
    · refine ⟨_, rfl, ?_⟩
      cases b with
      | true => exact iteFb rfl (k _ R1 kp)
      | false =>
        refine iteTb rfl ?_
        cases rest with
        | nil => exact k.elim
        | cons t ts =>
          obtain ⟨i, dx, TS, zs, e, _⟩ := id R1
          refine ⟨_, rfl, ra, dx, _, rfl, e, by rfl, ra, tl, t, ts, rfl, R1, ?_⟩
          exact ⟨_, _, rfl, lineOk R1, by decide +kernel, flInv K kp k⟩
def spTakeName (K : PySem.W.Frag) (C CF : Addr) : Sp := spPf K C CF takeNameM PyData.str
theorem ok_takename {f : Addr} {fd : FuncData} (F : Fun K "take_name" "Reader.take_name" s_Reader_take_name f fd) (T : Txt K mg) (UC_Reader : UseC K mg "Reader" fRd C) (U_Reader_found_kind : UseM P w K mg base CX0 C "found_kind" 1 P_Reader_found_kind (spKind K C)) (U_Reader_found_line : UseM P w K mg base CX0 C "found_line" 1 P_Reader_found_line (spFLine K C))
    (U_Reader_take : UseM P w K mg base CX0 C "take" 1 P_Reader_take (spTake K C)) (U_Fault : UseF P w K mg base CF CB) : FnG P w K mg base (L2.CX P w) 4 f fd P_Reader_take_name (spTakeName K C CF) := by
  refine okG F sc_Reader_take_name (fun vs H Q E h => ?_) fun cdv A outer s H vs Q E hr hg h => ?_
  · obtain ⟨ra, tl, ts, rfl, _⟩ := h
    rfl
  · obtain ⟨ra, tl, ts, rfl, R, k⟩ := h
    refine ⟨_, (pss_cons (ps_if (pt_cmpR op_ne (pe_mc0 UC_Reader U_Reader_found_kind pass0 (hr.mono (by decide)) hg (pv 0)) pe_str (nomark _))
   (pss_one (ps_raiseF U_Fault rfl (takes_of rfl rfl rfl rfl) (hr.mono (by decide)) rfl (pa_cons (pe_mc0 UC_Reader U_Reader_found_line pass0 (hr.mono (by decide)) hg (pv 0)) (pa_cons pe_str pa_nil))))
   pss_nil)
  (pss_one (ps_ret (pe_mc0 UC_Reader U_Reader_take pass0 (hr.mono (by decide)) hg (pv 0))))), ?_⟩
    unfold takeNameM at k
    cases ts with
    | nil => exact k.elim
    | cons t ts =>
      obtain ⟨i, dx, TS, zs, e, _⟩ := id R
      refine ⟨_, rfl, ra, dx, _, rfl, e, by rfl, ra, tl, t, ts, rfl, R, rfl, _, rfl, ?_⟩
      have k := k.peek
      cases c : decide (V.str t.k = V.str "name") with
      | true =>
        have k := k.yes c
        refine iteFb rfl ?_
        obtain ⟨z, hz⟩ := (R.ok t (by simp)).m (by rw [of_decide_eq_true c]; decide +kernel)
        unfold takeStrM at k
        dsimp only at k
        rw [hz] at k
        exact ⟨_, rfl, ra, dx, _, rfl, e, by rfl, ra, tl, t, ts, rfl, R, fun v H' R' kp dv => k v H' R' kp (by rw [hz] at dv; exact dv)⟩
      | false =>
        have k := k.no c
        refine iteTb rfl ?_
        refine ⟨_, rfl, ra, dx, _, rfl, e, by rfl, ra, tl, t, ts, rfl, R, ?_⟩
        exact ⟨_, _, rfl, lineOk R, by decide +kernel, flInv K (Keep.refl _ _) k⟩
def endLineM : PM Unit := peekM.bind fun t => if decide (V.str t.k = V.str "newline") = true then takeM.bind fun _ => .ret () else badSyntax
def spEndLine (K : PySem.W.Frag) (C CF : Addr) : Sp := fun vs H Q E => ∃ (ra tl : Addr) (ts : List Tk), vs = [.ref ra] ∧ RdAt K C tl ts ra H ∧ Out (endLineM ts) (fun _ rest => ∀ H', RdAt K C tl rest ra H' → Keep ra H H' → Q .non H') (FlP CF ra H E)
theorem ok_endline {f : Addr} {fd : FuncData} (F : Fun K "end_line" "Reader.end_line" s_Reader_end_line f fd) (T : Txt K mg) (UC_Reader : UseC K mg "Reader" fRd C) (U_Reader_found_kind : UseM P w K mg base CX0 C "found_kind" 1 P_Reader_found_kind (spKind K C)) (U_Reader_found_line : UseM P w K mg base CX0 C "found_line" 1 P_Reader_found_line (spFLine K C))
    (U_Fault : UseF P w K mg base CF CB) : FnG P w K mg base (L2.CX P w) 4 f fd P_Reader_end_line (spEndLine K C CF) := by
  refine okG F sc_Reader_end_line (fun vs H Q E h => ?_) fun cdv A outer s H vs Q E hr hg h => ?_
  · obtain ⟨ra, tl, ts, rfl, _⟩ := h
    rfl
  · obtain ⟨ra, tl, ts, rfl, R, k⟩ := h
    refine ⟨_, (pss_cons (ps_if (pt_cmpR op_ne (pe_mc0 UC_Reader U_Reader_found_kind pass0 (hr.mono (by decide)) hg (pv 0)) pe_str (nomark _))
   (pss_one (ps_raiseF U_Fault rfl (takes_of rfl rfl rfl rfl) (hr.mono (by decide)) rfl (pa_cons (pe_mc0 UC_Reader U_Reader_found_line pass0 (hr.mono (by decide)) hg (pv 0)) (pa_cons pe_str pa_nil))))
   pss_nil)
  (pss_one (ps_fdaug UC_Reader (by decide +kernel) (pv 0) pe_int iop_add))), ?_⟩
    unfold endLineM at k
    cases ts with
    | nil => exact k.elim
    | cons t ts =>
      obtain ⟨i, dx, TS, zs, e, _⟩ := id R
      refine ⟨_, rfl, ra, dx, _, rfl, e, by rfl, ra, tl, t, ts, rfl, R, rfl, _, rfl, ?_⟩
      have k := k.peek
      cases c : decide (V.str t.k = V.str "newline") with
      | true =>
        have k := (k.yes c).take
        refine iteFb rfl ?_
        obtain ⟨i', dx', e1, st⟩ := R.step
        refine ⟨_, rfl, ra, dx', _, _, rfl, e1, rdF_p, _, _, rfl, rfl, dx', _, e1, Nat.le_of_ble_eq_true rfl, ?_⟩
        have kp : Keep ra H (upd H ra (.ins C dx' (rdF tl (i' + 1)))) := fun b o h1 h2 => by rw [upd_ne h2]; exact h1
        exact k _ (st _ kp upd_same) kp
      | false =>
        have k := k.no c
        refine iteTb rfl ?_
        refine ⟨_, rfl, ra, dx, _, rfl, e, by rfl, ra, tl, t, ts, rfl, R, ?_⟩
        exact ⟨_, _, rfl, lineOk R, by decide +kernel, flInv K (Keep.refl _ _) k⟩
def spSeesNamed (K : PySem.W.Frag) (C : Addr) : Sp := fun vs H Q _ => ∃ (ra tl : Addr) (ts : List Tk), vs = [.ref ra] ∧ RdAt K C tl ts ra H ∧ Out (seesNamedM ts) (fun b _ => ∀ H', Same H H' → Q (.bl b) H') fun _ _ => False
theorem RdAt.tok2 {ra : Addr} {t t2 : Tk} {ts : List Tk} {H : Hp} (R : RdAt K C tl (t :: t2 :: ts) ra H) : ∃ (i : Nat) (dx : Addr) (zs : List V) (u : Addr) (x : V), H ra = some (.ins C dx (rdF tl i)) ∧ H tl = some (.lst zs) ∧ zs[i + 1]? = some (.ref u) ∧ SqT K H u [.str t2.k, x, .int t2.l] ∧ Dt K H x t2.v := by
  obtain ⟨i, dx, TS, zs, h1, h2, h3, h4, h5, h6⟩ := R
  have e : TS[i + 1]? = some t2 := by
    have : (TS.drop i)[1]? = some t2 := by rw [h2]; rfl
    rw [List.getElem?_drop] at this
    exact this
  obtain ⟨v, hv, dv⟩ := h4.get (i := i + 1) (d := tkD t2) (by rw [List.getElem?_map, e]; rfl)
  obtain ⟨u, xs, rfl, sx, ax⟩ := Dt.tuple_inv dv
  obtain ⟨a, r1, rfl, d1, ax⟩ := ax.cons_inv
  obtain ⟨x, r2, rfl, d2, ax⟩ := ax.cons_inv
  obtain ⟨b, r3, rfl, d3, ax⟩ := ax.cons_inv
  obtain rfl := ax.nil_inv
  obtain rfl := d1.str_inv
  obtain rfl := d3.int_inv
  exact ⟨i, dx, zs, u, x, h1, h3, hv, sx, d2⟩
theorem ok_seesnamed {f : Addr} {fd : FuncData} (F : Fun K "sees_named" "Reader.sees_named" s_Reader_sees_named f fd) (T : Txt K mg) (UC_Reader : UseC K mg "Reader" fRd C) (U_Reader_found_kind : UseM P w K mg base CX0 C "found_kind" 1 P_Reader_found_kind (spKind K C)) (U_Reader__is_mark : UseM P w K mg base CX0 C "_is_mark" 1 P_Reader__is_mark (spMark K C)) :
    FnG P w K mg base CX0 2 f fd P_Reader_sees_named (spSeesNamed K C) := by
  refine okG0 F sc_Reader_sees_named (fun vs H Q E h => ?_) fun cdv A outer s H vs Q E hr hg h => ?_
  · obtain ⟨ra, tl, ts, rfl, _⟩ := h
    rfl
  · obtain ⟨ra, tl, ts, rfl, R, k⟩ := h
    refine ⟨_, (pss_one (ps_ret (pe_and (pe_cmpR op_eq (pe_mc0 UC_Reader U_Reader_found_kind pass0 (hr.mono (by decide)) hg (pv 0)) pe_str (nomark _)) (pe_one (pe_mc UC_Reader U_Reader__is_mark pass0 (hr.mono (by decide)) hg (pv 0) (pa_cons (pe_op op_add (pe_fd UC_Reader (by decide +kernel) (pv 0)) pe_int) (pa_cons pe_str pa_nil))))))), ?_⟩
    cases ts with
    | nil => exact k.elim
    | cons t ts =>
      obtain ⟨i, dx, TS, zs, e, _⟩ := id R
      unfold seesNamedM at k
      dsimp only at k
      refine ⟨_, rfl, ra, dx, _, rfl, e, by rfl, ra, tl, t, ts, rfl, R, rfl, _, rfl, ?_⟩
      cases c : decide (V.str t.k = V.str "name") with
      | false =>
        rw [c] at k
        exact iteFb rfl (k _ (Same.refl _))
      | true =>
        rw [c] at k
        refine iteTb rfl ?_
        cases ts with
        | nil => exact k.elim
        | cons t2 ts =>
          obtain ⟨i, dx, zs, u, x, e, et, hz, su, dv⟩ := R.tok2
          exact ⟨_, rfl, ra, dx, _, rfl, e, by rfl, _, rfl, ra, dx, _, _, rfl, e, rdF_p, _, _, rfl, rfl, ra, tl, i, dx, zs, i + 1, "=", t2, u, x, rfl, e, et, hz, su, dv, R.ok t2 (by simp), k⟩
def spSeesExpr (K : PySem.W.Frag) (C : Addr) : Sp := fun vs H Q _ => ∃ (ra tl : Addr) (ts : List Tk), vs = [.ref ra] ∧ RdAt K C tl ts ra H ∧ Out (seesExprM ts) (fun b _ => ∀ H', Same H H' → Q (.bl b) H') fun _ _ => False
theorem ok_seesexpr {f : Addr} {fd : FuncData} (F : Fun K "sees_expression" "Reader.sees_expression" s_Reader_sees_expression f fd) (T : Txt K mg) (UC_Reader : UseC K mg "Reader" fRd C) :
    FnG P w K mg base CX0 1 f fd P_Reader_sees_expression (spSeesExpr K C) := by
  refine okG0 F sc_Reader_sees_expression (fun vs H Q E h => ?_) fun cdv A outer s H vs Q E hr hg h => ?_
  · obtain ⟨ra, tl, ts, rfl, _⟩ := h
    rfl
  · obtain ⟨ra, tl, ts, rfl, R, k⟩ := h
    refine ⟨_, (pss_cons (ps_asg (pe_ix ix_list (pe_fd UC_Reader (by decide +kernel) (pv 0)) (pe_fd UC_Reader (by decide +kernel) (pv 0)) (fun _ _ => rfl)) (pg_tup (by rfl) (pgs_cons (pg_name (i := 1) sc_Reader_sees_expression.nd rfl (Or.inl rfl)) (pgs_cons (pg_name (i := 2) sc_Reader_sees_expression.nd rfl (Or.inl rfl)) (pgs_cons (pg_name (i := 3) sc_Reader_sees_expression.nd rfl (Or.inl rfl)) pgs_nil)))))
  (pss_cons (ps_if (pt_cmpR op_eq (pv 1) pe_str (nomark _))
   (pss_one (ps_ret (pe_cmpR op_in_seq (pv 2) (pe_globT T.c_BEGINNING_WORDS (by rfl)) (by rfl))))
   pss_nil)
  (pss_cons (ps_if (pt_cmpR op_eq (pv 1) pe_str (nomark _))
   (pss_one (ps_ret (pe_cmpR op_in_seq (pv 2) (pe_globT T.c_BEGINNING_SIGNS (by rfl)) (by rfl))))
   pss_nil)
  (pss_one (ps_ret (pe_cmpR op_in_seq (pv 1) (pe_globT T.c_BEGINNINGS (by rfl)) (by rfl))))))), ?_⟩
    cases ts with
    | nil => exact k.elim
    | cons t ts =>
      obtain ⟨i, dx, zs, u, x, e, et, hi, hz, su, dv⟩ := R.tok
      unfold seesExprM beginsM at k
      dsimp only [Out] at k
      refine ⟨_, rfl, ra, dx, _, _, rfl, e, rdF_t, _, rfl, ra, dx, _, _, rfl, e, rdF_p, tl, _, _, _, rfl, rfl, SqL.of et, at_of' (j := i) rfl hz, ?_⟩
      refine ⟨_, _, rfl, su, rfl, _, _, rfl, _, _, rfl, _, _, rfl, rfl, ?_⟩
      have hm : ∀ z : Str, decide (V.str t.k = V.str z) = true → inV (V.str z) [V.str "word", V.str "sign"] = true → ∃ y, t.v = .str y := fun z h1 h2 => (R.ok t (by simp)).mark (by rw [of_decide_eq_true h1]; exact h2)
      refine ⟨_, rfl, rfl, _, rfl, ?_⟩
      refine ite3 (fun c => ?_) fun c => ?_
      · rw [if_pos c] at k
        obtain ⟨y, hy⟩ := hm _ c (by decide +kernel)
        unfold inTk at k
        rw [hy] at dv k
        obtain rfl := dv.str_inv
        exact ⟨_, rfl, fun ak kk => ⟨ak, _, rfl, .inr (kk.sq _), rfl, by decide +kernel, k _ (Same.refl _)⟩⟩
      rw [c, if_neg Bool.false_ne_true] at k
      refine ⟨_, rfl, rfl, _, rfl, ?_⟩
      refine ite3 (fun c => ?_) fun c => ?_
      · rw [if_pos c] at k
        obtain ⟨y, hy⟩ := hm _ c (by decide +kernel)
        unfold inTk at k
        rw [hy] at dv k
        obtain rfl := dv.str_inv
        exact ⟨_, rfl, fun ak kk => ⟨ak, _, rfl, .inr (kk.sq _), rfl, by decide +kernel, k _ (Same.refl _)⟩⟩
      rw [c, if_neg Bool.false_ne_true] at k
      exact ⟨_, rfl, fun ak kk => ⟨ak, _, rfl, .inr (kk.sq _), rfl, by decide +kernel, k _ (Same.refl _)⟩⟩
/-! the calls of these, read -/
section
variable {ra : Addr} {t : Tk} {ts : List Tk} {H : Hp} {σ : L2.St} {Q : VK} {E : XK} {wd : Str}
theorem rd_kind (R : RdAt K C tl (t :: ts) ra H) (hσ : σ[0]? = some (some (.ref ra))) (k : Q (.str t.k) H) : tMc C "found_kind" (spKind K C) E (tVar 0) tNil σ H Q := by
  obtain ⟨i, dx, TS, zs, e, _⟩ := id R
  exact ⟨_, hσ, ra, dx, _, rfl, e, by rfl, ra, tl, t, ts, rfl, R, k⟩
theorem rd_line (R : RdAt K C tl (t :: ts) ra H) (hσ : σ[0]? = some (some (.ref ra))) (k : Q (.int t.l) H) : tMc C "found_line" (spFLine K C) E (tVar 0) tNil σ H Q := by
  obtain ⟨i, dx, TS, zs, e, _⟩ := id R
  exact ⟨_, hσ, ra, dx, _, rfl, e, by rfl, ra, tl, t, ts, rfl, R, k⟩
theorem rd_take (R : RdAt K C tl (t :: ts) ra H) (hσ : σ[0]? = some (some (.ref ra))) (k : ∀ v H', RdAt K C tl ts ra H' → Keep ra H H' → Dt K H' v t.v → Q v H') : tMc C "take" (spTake K C) E (tVar 0) tNil σ H Q := by
  obtain ⟨i, dx, TS, zs, e, _⟩ := id R
  exact ⟨_, hσ, ra, dx, _, rfl, e, by rfl, ra, tl, t, ts, rfl, R, k⟩
theorem rd_sees (R : RdAt K C tl (t :: ts) ra H) (hσ : σ[0]? = some (some (.ref ra))) (k : ∀ H', Same H H' → Q (.bl (isMark t wd)) H') : tMc C "sees" (spSees K C) E (tVar 0) (tCons (tC (V.str wd)) tNil) σ H Q := by
  obtain ⟨i, dx, TS, zs, e, _⟩ := id R
  exact ⟨_, hσ, ra, dx, _, rfl, e, by rfl, ra, tl, t, ts, wd, rfl, R, k⟩
theorem rd_skip (R : RdAt K C tl ts ra H) (hσ : σ[0]? = some (some (.ref ra))) (k : Out (skipM wd ts) (fun b rest => ∀ H', RdAt K C tl rest ra H' → Keep ra H H' → Q (.bl b) H') fun _ _ => False) : tMc C "skip" (spSkip K C) E (tVar 0) (tCons (tC (V.str wd)) tNil) σ H Q := by
  obtain ⟨i, dx, TS, zs, e, _⟩ := id R
  exact ⟨_, hσ, ra, dx, _, rfl, e, by rfl, ra, tl, ts, wd, rfl, R, k⟩
theorem rd_skipV {j : Nat} (R : RdAt K C tl ts ra H) (hσ : σ[0]? = some (some (.ref ra))) (hj : σ[j]? = some (some (.str wd))) (k : Out (skipM wd ts) (fun b rest => ∀ H', RdAt K C tl rest ra H' → Keep ra H H' → Q (.bl b) H') fun _ _ => False) : tMc C "skip" (spSkip K C) E (tVar 0) (tCons (tVar j) tNil) σ H Q := by
  obtain ⟨i, dx, TS, zs, e, _⟩ := id R
  exact ⟨_, hσ, ra, dx, _, rfl, e, by rfl, _, hj, ra, tl, ts, wd, rfl, R, k⟩
theorem rd_need (R : RdAt K C tl ts ra H) (hσ : σ[0]? = some (some (.ref ra))) (k : Out (needM wd ts) (fun _ rest => ∀ H', RdAt K C tl rest ra H' → Keep ra H H' → Q .non H') (FlP CF ra H E)) : tMc C "need" (spNeed K C CF) E (tVar 0) (tCons (tC (V.str wd)) tNil) σ H Q := by
  obtain ⟨i, dx, TS, zs, e, _⟩ := id R
  exact ⟨_, hσ, ra, dx, _, rfl, e, by rfl, ra, tl, ts, wd, rfl, R, k⟩
theorem rd_takename (R : RdAt K C tl ts ra H) (hσ : σ[0]? = some (some (.ref ra))) (k : Out (takeNameM ts) (OkP K C tl ra PyData.str H Q) (FlP CF ra H E)) : tMc C "take_name" (spTakeName K C CF) E (tVar 0) tNil σ H Q := by
  obtain ⟨i, dx, TS, zs, e, _⟩ := id R
  exact ⟨_, hσ, ra, dx, _, rfl, e, by rfl, ra, tl, ts, rfl, R, k⟩
theorem rd_endline (R : RdAt K C tl ts ra H) (hσ : σ[0]? = some (some (.ref ra))) (k : Out (endLineM ts) (fun _ rest => ∀ H', RdAt K C tl rest ra H' → Keep ra H H' → Q .non H') (FlP CF ra H E)) : tMc C "end_line" (spEndLine K C CF) E (tVar 0) tNil σ H Q := by
  obtain ⟨i, dx, TS, zs, e, _⟩ := id R
  exact ⟨_, hσ, ra, dx, _, rfl, e, by rfl, ra, tl, ts, rfl, R, k⟩
theorem rd_seesnamed (R : RdAt K C tl ts ra H) (hσ : σ[0]? = some (some (.ref ra))) (k : Out (seesNamedM ts) (fun b _ => ∀ H', Same H H' → Q (.bl b) H') fun _ _ => False) : tMc C "sees_named" (spSeesNamed K C) E (tVar 0) tNil σ H Q := by
  obtain ⟨i, dx, TS, zs, e, _⟩ := id R
  exact ⟨_, hσ, ra, dx, _, rfl, e, by rfl, ra, tl, ts, rfl, R, k⟩
theorem rd_seesexpr (R : RdAt K C tl ts ra H) (hσ : σ[0]? = some (some (.ref ra))) (k : Out (seesExprM ts) (fun b _ => ∀ H', Same H H' → Q (.bl b) H') fun _ _ => False) : tMc C "sees_expression" (spSeesExpr K C) E (tVar 0) tNil σ H Q := by
  obtain ⟨i, dx, TS, zs, e, _⟩ := id R
  exact ⟨_, hσ, ra, dx, _, rfl, e, by rfl, ra, tl, ts, rfl, R, k⟩
theorem Out.sees' {α : Type} {f : Bool → PM α} {w : Str} {ts : List Tk} {ok : α → List Tk → Prop} {fl : Int → Str → Prop} (h : Out ((seesM w).bind f ts) ok fl) : ∃ t r, ts = t :: r ∧ Out (f (isMark t w) ts) ok fl := by
  cases ts with
  | nil => exact h.elim
  | cons t r => exact ⟨t, r, rfl, h⟩
theorem Out.peek' {α : Type} {f : Tk → PM α} {ts : List Tk} {ok : α → List Tk → Prop} {fl : Int → Str → Prop} (h : Out (peekM.bind f ts) ok fl) : ∃ t r, ts = t :: r ∧ Out (f t ts) ok fl := by
  cases ts with
  | nil => exact h.elim
  | cons t r => exact ⟨t, r, rfl, h⟩
theorem Out.seesExpr {α : Type} {f : Bool → PM α} {ts : List Tk} {ok : α → List Tk → Prop} {fl : Int → Str → Prop} (h : Out (seesExprM.bind f ts) ok fl) : Out (seesExprM ts) (fun b r => r = ts ∧ Out (f b ts) ok fl) fun _ _ => False := by
  cases ts with
  | nil => exact h.elim
  | cons t r => exact ⟨rfl, h⟩
theorem Out.seesNamed {α : Type} {f : Bool → PM α} {ts : List Tk} {ok : α → List Tk → Prop} {fl : Int → Str → Prop} (h : Out (seesNamedM.bind f ts) ok fl) : Out (seesNamedM ts) (fun b r => r = ts ∧ Out (f b ts) ok fl) fun _ _ => False := by
  cases ts with
  | nil => exact h.elim
  | cons t r =>
    have h := h.bind
    unfold seesNamedM at h ⊢
    dsimp only at h ⊢
    cases c : decide (V.str t.k = V.str "name") with
    | false => rw [c] at h; exact ⟨rfl, h⟩
    | true =>
      rw [c] at h
      cases r with
      | nil => exact h.elim
      | cons u r => exact ⟨rfl, h⟩
end
end

section
--SPLIT
end
section
/-! the expressions, as functions over the tokens that are left; ch reads an expression within brackets -/
def tg2 (s : Str) (x y : PyData) : PyData := .tuple [.str s, x, y]
def tg3 (s : Str) (x y z : PyData) : PyData := .tuple [.str s, x, y, z]
def consts : List (Str × List PyData) := [("None", [.str "none"]), ("True", [.str "bool", .bool true]), ("False", [.str "bool", .bool false])]
def rowLoop (ch : PM PyData) : Nat → List PyData → Bool → PM (List PyData × Bool)
  | 0, _, _ => .bad
  | n + 1, ds, comma => (skipM ",").bind fun b => if b = true then seesExprM.bind fun e => if e = true then ch.bind fun d => rowLoop ch n (ds ++ [d]) true else .ret (ds, true) else .ret (ds, comma)
def rowPartsM (ch : PM PyData) : PM (List PyData × Bool) := ch.bind fun d => fun ts => rowLoop ch (ts.length + 1) [d] false ts
def rowM (ch : PM PyData) : PM PyData := (rowPartsM ch).bind fun p => if p.2 = true then .ret (tg1 "tuple" (.tuple p.1)) else match p.1 with | d :: _ => .ret d | [] => .bad
def bracketedM (ch : PM PyData) : PM PyData := (skipM ")").bind fun b => if b = true then .ret (tg1 "tuple" (.tuple [])) else (rowM ch).bind fun t => (needM ")").bind fun _ => .ret t
def listM (ch : PM PyData) : PM PyData := (skipM "]").bind fun b => if b = true then .ret (tg1 "list" (.tuple [])) else (rowPartsM ch).bind fun p => (needM "]").bind fun _ => .ret (tg1 "list" (.tuple p.1))
def commaM (w : Str) : PM Unit := (seesM w).bind fun b => if (!b) = true then needM "," else .ret ()
def dictLoop (ch : PM PyData) : Nat → List PyData → PM PyData
  | 0, _ => .bad
  | n + 1, ds => (skipM "}").bind fun b => if (!b) = true then ch.bind fun k => (needM ":").bind fun _ => ch.bind fun x => (commaM "}").bind fun _ => dictLoop ch n (ds ++ [.tuple [k, x]]) else .ret (tg1 "dict" (.tuple ds))
def dictM (ch : PM PyData) : PM PyData := fun ts => dictLoop ch (ts.length + 1) [] ts
def nameIn (x : Str) (named : List (Str × PyData)) : Bool := inV (V.str x) (named.map fun p => V.str p.1)
def namedArgM (ch : PM PyData) (named : List (Str × PyData)) : PM (Str × PyData) := peekM.bind fun t => takeNameM.bind fun x => if nameIn x named = true then .flt t.l "argument name twice" else (needM "=").bind fun _ => ch.bind fun v => .ret (x, v)
def argLoop (ch : PM PyData) : Nat → List PyData → List (Str × PyData) → PM (List PyData × List (Str × PyData))
  | 0, _, _ => .bad
  | n + 1, args, named => (skipM ")").bind fun b => if (!b) = true then seesNamedM.bind fun s => if s = true then (namedArgM ch named).bind fun p => (commaM ")").bind fun _ => argLoop ch n args (named ++ [p])
      else if (!named.isEmpty) = true then peekM.bind fun t => .flt t.l "argument behind a named one" else ch.bind fun d => (commaM ")").bind fun _ => argLoop ch n (args ++ [d]) named
      else .ret (args, named)
def argumentsM (ch : PM PyData) : PM (List PyData × List (Str × PyData)) := fun ts => argLoop ch (ts.length + 1) [] [] ts
def prD (p : Str × PyData) : PyData := .tuple [.str p.1, p.2]
def indexedM (ch : PM PyData) (tree : PyData) : PM PyData :=
  let rest (low : PyData) : PM PyData := (needM ":").bind fun _ => (seesM "]").bind fun c => if (!c) = true then ch.bind fun high => (needM "]").bind fun _ => .ret (tg3 "part" tree low high) else (needM "]").bind fun _ => .ret (tg3 "part" tree low nothingD)
  (seesM ":").bind fun b => if (!b) = true then ch.bind fun low => (skipM "]").bind fun c => if c = true then .ret (tg2 "item" tree low) else rest low else rest nothingD
def atomB (ch : PM PyData) : PM PyData := (skipM "(").bind fun b => if b = true then bracketedM ch else (skipM "[").bind fun b => if b = true then listM ch else (skipM "{").bind fun b => if b = true then dictM ch else badSyntax
def atomC (ch : PM PyData) : List (Str × List PyData) → PM PyData
  | [] => atomB ch
  | p :: r => (skipM p.1).bind fun b => if b = true then .ret (tg1 "const" (.tuple p.2)) else atomC ch r
def atomM (ch : PM PyData) : PM PyData := peekM.bind fun t => if decide (V.str t.k = V.str "name") = true then takeM.bind fun x => .ret (tg1 "name" x)
  else if inV (V.str t.k) [V.str "int", V.str "text"] = true then takeM.bind fun x => .ret (tg1 "const" (.tuple [.str t.k, x])) else atomC ch consts
def primLoop (ch : PM PyData) : Nat → PyData → PM PyData
  | 0, _ => .bad
  | n + 1, t => (skipM ".").bind fun b => if b = true then takeNameM.bind fun x => primLoop ch n (tg2 "attr" t (.str x)) else (skipM "(").bind fun b => if b = true then (argumentsM ch).bind fun p => primLoop ch n (tg3 "call" t (.tuple p.1) (.tuple (p.2.map prD)))
      else (skipM "[").bind fun b => if b = true then (indexedM ch t).bind fun u => primLoop ch n u else .ret t
def primaryM (ch : PM PyData) : PM PyData := (atomM ch).bind fun t => fun ts => primLoop ch (ts.length + 1) t ts
def minusM (ch : PM PyData) : PM PyData := (skipM "-").bind fun b => if b = true then (primaryM ch).bind fun t => .ret (tg1 "neg" t) else primaryM ch
def opLoop (ops : List Str) (nx : PM PyData) : Nat → PyData → PM PyData
  | 0, _ => .bad
  | n + 1, t => peekM.bind fun tk => if (ops.any fun o => isMark tk o) = true then takeM.bind fun op => nx.bind fun u => opLoop ops nx n (tg3 "bin" op t u) else .ret t
def termM (ch : PM PyData) : PM PyData := (minusM ch).bind fun t => fun ts => opLoop ["*", "//", "mod"] (minusM ch) (ts.length + 1) t ts
def sumM (ch : PM PyData) : PM PyData := (termM ch).bind fun t => fun ts => opLoop ["+", "-"] (termM ch) (ts.length + 1) t ts
def cmpL : List Str → PM Str
  | [] => (skipM "not").bind fun b => if b = true then (needM "in").bind fun _ => .ret "notin" else (skipM "is").bind fun b => if b = true then (skipM "not").bind fun c => .ret (if c = true then "isnot" else "is") else .ret ""
  | s :: r => (skipM s).bind fun b => if b = true then .ret s else cmpL r
def comparingM : PM Str := cmpL cmps
def cmpLoop (nx : PM PyData) : Nat → List PyData → Str → PM (List PyData)
  | 0, _, _ => .bad
  | n + 1, ps, op => if (!decide (V.str op = V.str "")) = true then nx.bind fun u => comparingM.bind fun op2 => cmpLoop nx n (ps ++ [.tuple [.str op, u]]) op2 else .ret ps
def comparisonM (ch : PM PyData) : PM PyData := (sumM ch).bind fun f => comparingM.bind fun op => PM.bind (fun ts => cmpLoop (sumM ch) (ts.length + 2) [] op ts) fun ps => if ps.isEmpty = true then .ret f else .ret (tg2 "compare" f (.tuple ps))
def negationM (ch : PM PyData) : PM PyData := (skipM "not").bind fun b => if b = true then (comparisonM ch).bind fun t => .ret (tg1 "not" t) else comparisonM ch
def boolLoop (w : Str) (nx : PM PyData) : Nat → PyData → PM PyData
  | 0, _ => .bad
  | n + 1, t => (skipM w).bind fun b => if b = true then nx.bind fun u => boolLoop w nx n (tg2 w t u) else .ret t
def bothM (ch : PM PyData) : PM PyData := (negationM ch).bind fun t => fun ts => boolLoop "and" (negationM ch) (ts.length + 1) t ts
def eitherM (ch : PM PyData) : PM PyData := (bothM ch).bind fun t => fun ts => boolLoop "or" (bothM ch) (ts.length + 1) t ts
def choiceF (ch : PM PyData) : PM PyData := (eitherM ch).bind fun yes => (skipM "if").bind fun b => if b = true then (eitherM ch).bind fun test => (needM "else").bind fun _ => (eitherM ch).bind fun no => .ret (tg3 "choice" test yes no) else .ret yes
/-- .. up to n brackets within one another -/
def choiceN : Nat → PM PyData
  | 0 => .bad
  | n + 1 => choiceF (choiceN n)
end

abbrev s_row_parts : Stmt := top 20
abbrev N_row_parts : List Str := ["reader", "made", "has_comma"]
abbrev P_row_parts : List Str := ["reader"]
theorem sc_row_parts : FnScope N_row_parts P_row_parts (defScope s_row_parts) := ⟨rfl, rfl, rfl, by decide +kernel, rfl, by decide +kernel, by decide +kernel⟩
abbrev s_row : Stmt := top 14
abbrev N_row : List Str := ["reader", "made", "has_comma"]
abbrev P_row : List Str := ["reader"]
theorem sc_row : FnScope N_row P_row (defScope s_row) := ⟨rfl, rfl, rfl, by decide +kernel, rfl, by decide +kernel, by decide +kernel⟩
abbrev s_bracketed : Stmt := top 30
abbrev N_bracketed : List Str := ["reader", "tree"]
abbrev P_bracketed : List Str := ["reader"]
theorem sc_bracketed : FnScope N_bracketed P_bracketed (defScope s_bracketed) := ⟨rfl, rfl, rfl, by decide +kernel, rfl, by decide +kernel, by decide +kernel⟩
abbrev s_list : Stmt := top 31
abbrev N_list : List Str := ["reader", "made", "_"]
abbrev P_list : List Str := ["reader"]
theorem sc_list : FnScope N_list P_list (defScope s_list) := ⟨rfl, rfl, rfl, by decide +kernel, rfl, by decide +kernel, by decide +kernel⟩
abbrev s_dict : Stmt := top 32
abbrev N_dict : List Str := ["reader", "pairs", "key"]
abbrev P_dict : List Str := ["reader"]
theorem sc_dict : FnScope N_dict P_dict (defScope s_dict) := ⟨rfl, rfl, rfl, by decide +kernel, rfl, by decide +kernel, by decide +kernel⟩
abbrev s_named_argument : Stmt := top 34
abbrev N_named_argument : List Str := ["reader", "earlier", "line", "name", "other", "_"]
abbrev P_named_argument : List Str := ["reader", "earlier"]
theorem sc_named_argument : FnScope N_named_argument P_named_argument (defScope s_named_argument) := ⟨rfl, rfl, rfl, by decide +kernel, rfl, by decide +kernel, by decide +kernel⟩
abbrev s_arguments : Stmt := top 33
abbrev N_arguments : List Str := ["reader", "args", "named"]
abbrev P_arguments : List Str := ["reader"]
theorem sc_arguments : FnScope N_arguments P_arguments (defScope s_arguments) := ⟨rfl, rfl, rfl, by decide +kernel, rfl, by decide +kernel, by decide +kernel⟩
abbrev s_indexed : Stmt := top 35
abbrev N_indexed : List Str := ["reader", "tree", "low", "high"]
abbrev P_indexed : List Str := ["reader", "tree"]
theorem sc_indexed : FnScope N_indexed P_indexed (defScope s_indexed) := ⟨rfl, rfl, rfl, by decide +kernel, rfl, by decide +kernel, by decide +kernel⟩
abbrev s_atom : Stmt := top 29
abbrev N_atom : List Str := ["reader", "kind", "word"]
abbrev P_atom : List Str := ["reader"]
theorem sc_atom : FnScope N_atom P_atom (defScope s_atom) := ⟨rfl, rfl, rfl, by decide +kernel, rfl, by decide +kernel, by decide +kernel⟩
abbrev s_primary : Stmt := top 16
abbrev N_primary : List Str := ["reader", "tree", "args", "named"]
abbrev P_primary : List Str := ["reader"]
theorem sc_primary : FnScope N_primary P_primary (defScope s_primary) := ⟨rfl, rfl, rfl, by decide +kernel, rfl, by decide +kernel, by decide +kernel⟩
abbrev s_minus : Stmt := top 28
abbrev N_minus : List Str := ["reader"]
abbrev P_minus : List Str := ["reader"]
theorem sc_minus : FnScope N_minus P_minus (defScope s_minus) := ⟨rfl, rfl, rfl, by decide +kernel, rfl, by decide +kernel, by decide +kernel⟩
abbrev s_term : Stmt := top 27
abbrev N_term : List Str := ["reader", "tree", "op"]
abbrev P_term : List Str := ["reader"]
theorem sc_term : FnScope N_term P_term (defScope s_term) := ⟨rfl, rfl, rfl, by decide +kernel, rfl, by decide +kernel, by decide +kernel⟩
abbrev s_sum : Stmt := top 26
abbrev N_sum : List Str := ["reader", "tree", "op"]
abbrev P_sum : List Str := ["reader"]
theorem sc_sum : FnScope N_sum P_sum (defScope s_sum) := ⟨rfl, rfl, rfl, by decide +kernel, rfl, by decide +kernel, by decide +kernel⟩
abbrev s_comparing : Stmt := top 25
abbrev N_comparing : List Str := ["reader", "sign"]
abbrev P_comparing : List Str := ["reader"]
theorem sc_comparing : FnScope N_comparing P_comparing (defScope s_comparing) := ⟨rfl, rfl, rfl, by decide +kernel, rfl, by decide +kernel, by decide +kernel⟩
abbrev s_comparison : Stmt := top 24
abbrev N_comparison : List Str := ["reader", "first", "pairs", "op"]
abbrev P_comparison : List Str := ["reader"]
theorem sc_comparison : FnScope N_comparison P_comparison (defScope s_comparison) := ⟨rfl, rfl, rfl, by decide +kernel, rfl, by decide +kernel, by decide +kernel⟩
abbrev s_negation : Stmt := top 23
abbrev N_negation : List Str := ["reader"]
abbrev P_negation : List Str := ["reader"]
theorem sc_negation : FnScope N_negation P_negation (defScope s_negation) := ⟨rfl, rfl, rfl, by decide +kernel, rfl, by decide +kernel, by decide +kernel⟩
abbrev s_both : Stmt := top 22
abbrev N_both : List Str := ["reader", "tree"]
abbrev P_both : List Str := ["reader"]
theorem sc_both : FnScope N_both P_both (defScope s_both) := ⟨rfl, rfl, rfl, by decide +kernel, rfl, by decide +kernel, by decide +kernel⟩
abbrev s_either : Stmt := top 21
abbrev N_either : List Str := ["reader", "tree"]
abbrev P_either : List Str := ["reader"]
theorem sc_either : FnScope N_either P_either (defScope s_either) := ⟨rfl, rfl, rfl, by decide +kernel, rfl, by decide +kernel, by decide +kernel⟩
abbrev s_choice : Stmt := top 15
abbrev N_choice : List Str := ["reader", "yes", "test"]
abbrev P_choice : List Str := ["reader"]
theorem sc_choice : FnScope N_choice P_choice (defScope s_choice) := ⟨rfl, rfl, rfl, by decide +kernel, rfl, by decide +kernel, by decide +kernel⟩
section
variable {P : Program} {w : World} {K : PySem.W.Frag} {mg : Str → Option Value} {base : Heap} {C CF CB tl : Addr}
theorem lsKp {H H' : Hp} {l ra : Addr} {ts : List Tk} {ds : List PyData} (L : ListAt K H l ds) (R : RdAt K C tl ts ra H) (kp : Keep ra H H') (n1 : l ≠ ra) : ListAt K H' l ds := by
  obtain ⟨xs, e, a⟩ := L
  exact ⟨xs, kp _ _ e n1, a.keepT (R.keepT kp)⟩
theorem keepN {ra l : Addr} {H0 H : Hp} {o : HO} (kp : Keep ra H0 H) (h0 : H0 l = none) : Keep ra H0 (upd H l o) := fun b u e hb => by
  rw [upd_ne (ne_of_none e h0)]
  exact kp b u e hb
theorem keep_none {ra l : Addr} {H0 H : Hp} (kp : Keep ra H0 H) (h : H l = none) (n : l ≠ ra) : H0 l = none := by
  cases e : H0 l with
  | none => rfl
  | some o => have := kp _ _ e n; rw [h] at this; cases this
theorem ls_lt {H : Hp} {l : Addr} {ds : List PyData} (L : ListAt K H l ds) (h : ds.length ≤ 1000000) : ∃ xs, H l = some (.lst xs) ∧ xs.length < sizeLine ∧ DtAll K H xs ds := by
  obtain ⟨xs, e, a⟩ := L
  have := a.length
  exact ⟨xs, e, Nat.lt_of_le_of_lt (show xs.length ≤ 1000000 by omega) (by decide), a⟩
def constsV : List (Str × List V) := [("None", [.str "none"]), ("True", [.str "bool", .bl true]), ("False", [.str "bool", .bl false])]
def rpD (p : List PyData × Bool) : PyData := .tuple [.tuple p.1, .bool p.2]
theorem ok_rowparts {kc : Nat} (hk : 5 ≤ kc) {ch : PM PyData} {f : Addr} {fd : FuncData} (F : Fun K "_row_parts" "_row_parts" s_row_parts f fd) (T : Txt K mg) (UC_Reader : UseC K mg "Reader" fRd C) (U_Reader_skip : UseM P w K mg base CX0 C "skip" 3 P_Reader_skip (spSkip K C))
    (U_Reader_sees_expression : UseM P w K mg base CX0 C "sees_expression" 1 P_Reader_sees_expression (spSeesExpr K C)) (U_choice : Use P w K mg base (L2.CX P w) "choice" kc P_choice (spP K C CF ch)) : FnG P w K mg base (L2.CX P w) (kc + 1) f fd P_row_parts (spPf K C CF (rowPartsM ch) rpD) := by
  refine okG F sc_row_parts (fun vs H Q E h => ?_) fun cdv A outer s H vs Q E hr hg h => ?_
  · obtain ⟨ra, tl, ts, rfl, _⟩ := h
    rfl
  · obtain ⟨ra, tl, ts, rfl, R, k⟩ := h
    refine ⟨_, (pss_cons (ps_set (i := 1) sc_row_parts.nd rfl (Or.inl rfl) (pe_lst (pa_cons (pe_useR U_choice (takes_of rfl rfl rfl rfl) (hr.mono (by omega)) hg rfl (pa_cons (pv 0) pa_nil)) pa_nil)))
  (pss_cons (ps_set (i := 2) sc_row_parts.nd rfl (Or.inl rfl) pe_bl)
  (pss_cons (ps_while (passes_of rfl) (pt_up (pt_val (pe_mc UC_Reader U_Reader_skip pass0 (hr.mono (by omega)) hg (pv 0) (pa_cons pe_str pa_nil))))
   (pss_cons (ps_set (i := 2) sc_row_parts.nd rfl (Or.inl rfl) pe_bl)
  (pss_cons (ps_if (pt_not (pt_val (pe_mc0 UC_Reader U_Reader_sees_expression pass0 (hr.mono (by omega)) hg (pv 0))))
   (pss_one ps_break)
   pss_nil)
  (pss_one (ps_expr (pe_bm PySem.F.plainAttrs_list PySem.F.slot_list_append PySem.F.type_list_append mt_append (pv 1) (pa_cons (pe_useR U_choice (takes_of rfl rfl rfl rfl) (hr.mono (by omega)) hg rfl (pa_cons (pv 0) pa_nil)) pa_nil)))))))
  (pss_one (ps_ret (pe_tup (pa_cons (pe_callTy call_tuple_of (by rfl) T.b_tuple (by decide +kernel) (pa_cons (pv 1) pa_nil)) (pa_cons (pv 2) pa_nil)))))))), ?_⟩
    unfold rowPartsM at k
    refine ⟨_, rfl, ra, tl, ts, rfl, R, k.bind.mono (fun d ts1 k v H1 R1 kp1 dv => ?_) fun _ _ h => h⟩
    refine ⟨sz_1, fun ml hml => ?_⟩
    obtain ⟨n1, n2⟩ := R1.ne hml
    have h0 := keep_none kp1 hml n1
    have S1 := Same.new (o := .lst [v]) hml
    have R2 := R1.same S1
    have L2 : ListAt K (upd H1 ml (.lst [v])) ml [d] := ⟨_, upd_same, .cons (dv.mono S1) .nil⟩
    have kp2 := kp1.trans (LK.Same.keep S1)
    generalize upd H1 ml (.lst [v]) = H2 at R2 L2 kp2
    have hl1 := R1.len
    refine while_upN (fun m σ H3 => ∃ (ds : List PyData) (comma : Bool) (ts3 : List Tk), σ = [some (.ref ra), some (.ref ml), some (.bl comma)] ∧ RdAt K C tl ts3 ra H3 ∧ Keep ra H H3 ∧ ListAt K H3 ml ds ∧ m + ds.length ≤ 90010 ∧ Out (rowLoop ch m ds comma ts3) (OkP K C tl ra rpD H Q) (FlP CF ra H E))
      ⟨_, [d], false, ts1, rfl, R2, kp2, L2, by simp; omega, k⟩ ?_
    rintro m σ H3 ⟨ds, comma, ts3, rfl, R3, kp3, L3, hm, k⟩
    cases m with
    | zero => exact k.elim
    | succ m =>
      refine rd_skip R3 rfl ((Out.skip k).mono (fun b ts4 k H4 R4 kp4 => ?_) fun _ _ h => h)
      refine ⟨_, rfl, ?_⟩
      have kp34 := kp3.trans kp4
      have L4 := lsKp L3 R3 kp4 n1
      cases b with
      | false =>
        refine iteFb rfl ?_
        have k := k.no rfl
        obtain ⟨xs, e4, a4⟩ := id L4
        refine ⟨_, rfl, ml, xs, rfl, .inl ⟨SqL.of e4, fun u hu => ⟨_, rfl, sz_2, fun q hq => ?_⟩⟩⟩
        have Su := Same.new (o := .tup xs) hu
        have Sq := Same.new (o := .tup [.ref u, .bl comma]) hq
        exact k _ _ ((R4.same Su).same Sq) (kp34.trans (LK.Same.keep (Su.trans Sq))) (Dt.made hq (.cons (Dt.made hu a4) (.cons (.bl _) .nil)))
      | true =>
        refine iteTb rfl ?_
        have k := k.yes rfl
        refine rd_seesexpr R4 rfl ((Out.seesExpr k).mono (fun e r ⟨hr, k⟩ H5 S5 => ?_) fun _ _ h => h)
        refine ⟨_, rfl, ?_⟩
        have R5 := R4.same S5
        have L5 := listAt_mono L4 S5
        have kp5 := kp34.trans (LK.Same.keep S5)
        cases e with
        | false =>
          refine iteTb rfl ?_
          have k := k.no rfl
          obtain ⟨xs, e5, a5⟩ := id L5
          refine ⟨_, rfl, ml, xs, rfl, .inl ⟨SqL.of e5, fun u hu => ⟨_, rfl, sz_2, fun q hq => ?_⟩⟩⟩
          have Su := Same.new (o := .tup xs) hu
          have Sq := Same.new (o := .tup [.ref u, .bl true]) hq
          exact k _ _ ((R5.same Su).same Sq) (kp5.trans (LK.Same.keep (Su.trans Sq))) (Dt.made hq (.cons (Dt.made hu a5) (.cons (.bl _) .nil)))
        | true =>
          refine iteFb rfl ?_
          have k := k.yes rfl
          obtain ⟨xs, e5, a5⟩ := id L5
          refine ⟨_, rfl, .inl ⟨rfl, _, SqL.of e5⟩, _, rfl, ra, tl, ts4, rfl, R5, k.bind.mono (fun d6 ts6 k v6 H6 R6 kp6 dv6 => ?_) fun _ _ => FlP.keep kp5⟩
          have L6 := lsKp L5 R5 kp6 n1
          obtain ⟨xs6, e6, l6, a6⟩ := ls_lt L6 (by omega)
          exact ⟨ml, xs6, v6, rfl, rfl, e6, l6, m, Nat.lt_succ_self _, ds ++ [d6], true, ts6, rfl, R6.upd e6 n1 n2, keepN (kp5.trans kp6) h0, listAt_app L6 e6 dv6, by simp; omega, k⟩
theorem okTup {α : Type} {g : α → PyData} {ra q : Addr} {ts : List Tk} {H H1 : Hp} {Q : VK} {a : α} {vs : List V} {ds : List PyData} (k : OkP K C tl ra g H Q a ts) (R : RdAt K C tl ts ra H1) (kp : Keep ra H H1) (hq : H1 q = none) (hv : DtAll K H1 vs ds) (e : g a = .tuple ds) : Q (.ref q) (upd H1 q (.tup vs)) :=
  k _ _ (R.same (Same.new hq)) (kp.trans (LK.Same.keep (Same.new hq))) (by rw [e]; exact Dt.made hq hv)
theorem dt_two {H : Hp} {v : V} {a b : PyData} (h : Dt K H v (.tuple [a, b])) : ∃ u x y, v = .ref u ∧ SqT K H u [x, y] ∧ Dt K H x a ∧ Dt K H y b := by
  obtain ⟨u, xs, rfl, sx, ax⟩ := h.tuple_inv
  obtain ⟨x, r1, rfl, d1, ax⟩ := ax.cons_inv
  obtain ⟨y, r2, rfl, d2, ax⟩ := ax.cons_inv
  obtain rfl := ax.nil_inv
  exact ⟨u, x, y, rfl, sx, d1, d2⟩
theorem rd_comma {ra : Addr} {ts : List Tk} {H : Hp} {σ : L2.St} {D : Ends} {E E' : XK} {wd : Str} (R : RdAt K C tl ts ra H) (hσ : σ[0]? = some (some (.ref ra))) (k : Out (commaM wd ts) (fun _ rest => ∀ H', RdAt K C tl rest ra H' → Keep ra H H' → D.nx σ H') (FlP CF ra H E)) :
    tIfS (tNot (tB (tMc C "sees" (spSees K C) E' (tVar 0) (tCons (tC (V.str wd)) tNil)))) (tDrop (tMc C "need" (spNeed K C CF) E (tVar 0) (tCons (tC (V.str ",")) tNil))) tNext D σ H := by
  unfold commaM at k
  obtain ⟨t, r, rfl, k⟩ := Out.sees' k
  refine rd_sees R hσ fun H1 S1 => ?_
  have R1 := R.same S1
  refine ⟨_, rfl, ?_⟩
  cases c : isMark t wd with
  | true =>
    rw [c] at k
    exact iteFb rfl (k _ R1 (LK.Same.keep S1))
  | false =>
    rw [c] at k
    refine iteTb rfl ?_
    exact rd_need R1 hσ (Out.mono (k : Out (needM "," _) _ _) (fun _ rest k H2 R2 kp2 => k H2 R2 ((LK.Same.keep S1).trans kp2)) fun _ _ => FlP.keep (LK.Same.keep S1))
theorem ok_row {kc : Nat} (hk : 5 ≤ kc) {ch : PM PyData} {f : Addr} {fd : FuncData} (F : Fun K "row" "row" s_row f fd) (T : Txt K mg) (U_row_parts : Use P w K mg base (L2.CX P w) "_row_parts" (kc + 1) P_row_parts (spPf K C CF (rowPartsM ch) rpD)) : FnG P w K mg base (L2.CX P w) (kc + 2) f fd P_row (spP K C CF (rowM ch)) := by
  refine okG F sc_row (fun vs H Q E h => ?_) fun cdv A outer s H vs Q E hr hg h => ?_
  · obtain ⟨ra, tl, ts, rfl, _⟩ := h
    rfl
  · obtain ⟨ra, tl, ts, rfl, R, k⟩ := h
    refine ⟨_, (pss_cons (ps_asg (pe_useR U_row_parts (takes_of rfl rfl rfl rfl) (hr.mono (by omega)) hg rfl (pa_cons (pv 0) pa_nil)) (pg_tup (by rfl) (pgs_cons (pg_name (i := 1) sc_row.nd rfl (Or.inl rfl)) (pgs_cons (pg_name (i := 2) sc_row.nd rfl (Or.inl rfl)) pgs_nil))))
  (pss_cons (ps_if (pt_val (pv 2))
   (pss_one (ps_ret (pe_tup (pa_cons pe_str (pa_cons (pv 1) pa_nil)))))
   pss_nil)
  (pss_one (ps_ret (pe_ix ix_tup (pv 1) pe_int (fun _ _ => rfl)))))), ?_⟩
    unfold rowM at k
    refine ⟨_, rfl, ra, tl, ts, rfl, R, k.bind.mono (fun p ts1 k v H1 R1 kp1 dv => ?_) fun _ _ h => h⟩
    obtain ⟨u, x, y, rfl, su, d1, d2⟩ := dt_two dv
    obtain ⟨ds, comma⟩ := p
    obtain rfl := d2.bool_inv
    refine ⟨u, _, rfl, su, rfl, _, _, rfl, _, _, rfl, rfl, ?_⟩
    refine ⟨_, rfl, _, rfl, ?_⟩
    cases comma with
    | true => exact iteTb rfl ⟨_, rfl, sz_2, fun q hq => okTup (k.yes rfl) R1 kp1 hq (.cons (.str _) (.cons d1 .nil)) rfl⟩
    | false =>
      have k := k.no rfl
      refine iteFb rfl ?_
      obtain ⟨a, xs, rfl, sx, ax⟩ := d1.tuple_inv
      cases ds with
      | nil => exact k.elim
      | cons d ds =>
        obtain ⟨z, zs, rfl, dz, _⟩ := ax.cons_inv
        exact ⟨_, rfl, a, _, _, _, rfl, rfl, sx, at0, k _ _ R1 kp1 dz⟩
theorem ok_bracketed {kc : Nat} (hk : 5 ≤ kc) {ch : PM PyData} {f : Addr} {fd : FuncData} (F : Fun K "_bracketed" "_bracketed" s_bracketed f fd) (T : Txt K mg) (UC_Reader : UseC K mg "Reader" fRd C) (U_Reader_skip : UseM P w K mg base CX0 C "skip" 3 P_Reader_skip (spSkip K C)) (U_Reader_need : UseM P w K mg base (L2.CX P w) C "need" 4 P_Reader_need (spNeed K C CF))
    (U_row : Use P w K mg base (L2.CX P w) "row" (kc + 2) P_row (spP K C CF (rowM ch))) : FnG P w K mg base (L2.CX P w) (kc + 3) f fd P_bracketed (spP K C CF (bracketedM ch)) := by
  refine okG F sc_bracketed (fun vs H Q E h => ?_) fun cdv A outer s H vs Q E hr hg h => ?_
  · obtain ⟨ra, tl, ts, rfl, _⟩ := h
    rfl
  · obtain ⟨ra, tl, ts, rfl, R, k⟩ := h
    refine ⟨_, (pss_cons (ps_if (pt_val (pe_mc UC_Reader U_Reader_skip pass0 (hr.mono (by omega)) hg (pv 0) (pa_cons pe_str pa_nil)))
   (pss_one (ps_ret (pe_tup (pa_cons pe_str (pa_cons (pe_tup pa_nil) pa_nil)))))
   pss_nil)
  (pss_cons (ps_set (i := 1) sc_bracketed.nd rfl (Or.inl rfl) (pe_useR U_row (takes_of rfl rfl rfl rfl) (hr.mono (by omega)) hg rfl (pa_cons (pv 0) pa_nil)))
  (pss_cons (ps_expr (pe_mc UC_Reader U_Reader_need (passes_call (takes_of rfl rfl rfl rfl) fun _ _ _ _ h => h) (hr.mono (by omega)) hg (pv 0) (pa_cons pe_str pa_nil)))
  (pss_one (ps_ret (pv 1)))))), ?_⟩
    unfold bracketedM at k
    refine rd_skip R rfl ((Out.skip k).mono (fun b ts1 k H1 R1 kp1 => ?_) fun _ _ h => h)
    refine ⟨_, rfl, ?_⟩
    cases b with
    | true => exact iteTb rfl ⟨sz_0, fun u hu => ⟨sz_2, fun q hq => okTup (k.yes rfl) (R1.same (Same.new hu)) (kp1.trans (LK.Same.keep (Same.new hu))) hq (.cons (.str _) (.cons (Dt.made hu .nil) .nil)) rfl⟩⟩
    | false =>
      refine iteFb rfl ?_
      have k := k.no rfl
      refine ⟨_, rfl, ra, tl, ts1, rfl, R1, k.bind.mono (fun d ts2 k v H2 R2 kp2 dv => ?_) fun _ _ => FlP.keep kp1⟩
      have kp12 := kp1.trans kp2
      refine rd_need R2 rfl (k.bind.mono (fun _ ts3 k H3 R3 kp3 => ?_) fun _ _ => FlP.keep kp12)
      exact ⟨_, rfl, k _ _ R3 (kp12.trans kp3) (dv.keepT (R2.keepT kp3))⟩
theorem ok_list {kc : Nat} (hk : 5 ≤ kc) {ch : PM PyData} {f : Addr} {fd : FuncData} (F : Fun K "_list" "_list" s_list f fd) (T : Txt K mg) (UC_Reader : UseC K mg "Reader" fRd C) (U_Reader_skip : UseM P w K mg base CX0 C "skip" 3 P_Reader_skip (spSkip K C)) (U_Reader_need : UseM P w K mg base (L2.CX P w) C "need" 4 P_Reader_need (spNeed K C CF))
    (U_row_parts : Use P w K mg base (L2.CX P w) "_row_parts" (kc + 1) P_row_parts (spPf K C CF (rowPartsM ch) rpD)) : FnG P w K mg base (L2.CX P w) (kc + 2) f fd P_list (spP K C CF (listM ch)) := by
  refine okG F sc_list (fun vs H Q E h => ?_) fun cdv A outer s H vs Q E hr hg h => ?_
  · obtain ⟨ra, tl, ts, rfl, _⟩ := h
    rfl
  · obtain ⟨ra, tl, ts, rfl, R, k⟩ := h
    refine ⟨_, (pss_cons (ps_if (pt_val (pe_mc UC_Reader U_Reader_skip pass0 (hr.mono (by omega)) hg (pv 0) (pa_cons pe_str pa_nil)))
   (pss_one (ps_ret (pe_tup (pa_cons pe_str (pa_cons (pe_tup pa_nil) pa_nil)))))
   pss_nil)
  (pss_cons (ps_asg (pe_useR U_row_parts (takes_of rfl rfl rfl rfl) (hr.mono (by omega)) hg rfl (pa_cons (pv 0) pa_nil)) (pg_tup (by rfl) (pgs_cons (pg_name (i := 1) sc_list.nd rfl (Or.inl rfl)) (pgs_cons (pg_name (i := 2) sc_list.nd rfl (Or.inl rfl)) pgs_nil))))
  (pss_cons (ps_expr (pe_mc UC_Reader U_Reader_need (passes_call (takes_of rfl rfl rfl rfl) fun _ _ _ _ h => h) (hr.mono (by omega)) hg (pv 0) (pa_cons pe_str pa_nil)))
  (pss_one (ps_ret (pe_tup (pa_cons pe_str (pa_cons (pv 1) pa_nil)))))))), ?_⟩
    unfold listM at k
    refine rd_skip R rfl ((Out.skip k).mono (fun b ts1 k H1 R1 kp1 => ?_) fun _ _ h => h)
    refine ⟨_, rfl, ?_⟩
    cases b with
    | true => exact iteTb rfl ⟨sz_0, fun u hu => ⟨sz_2, fun q hq => okTup (k.yes rfl) (R1.same (Same.new hu)) (kp1.trans (LK.Same.keep (Same.new hu))) hq (.cons (.str _) (.cons (Dt.made hu .nil) .nil)) rfl⟩⟩
    | false =>
      refine iteFb rfl ?_
      have k := k.no rfl
      refine ⟨_, rfl, ra, tl, ts1, rfl, R1, k.bind.mono (fun p ts2 k v H2 R2 kp2 dv => ?_) fun _ _ => FlP.keep kp1⟩
      have kp12 := kp1.trans kp2
      obtain ⟨u, x, y, rfl, su, d1, d2⟩ := dt_two dv
      refine ⟨u, _, rfl, su, rfl, _, _, rfl, _, _, rfl, rfl, ?_⟩
      refine rd_need R2 rfl (k.bind.mono (fun _ ts3 k H3 R3 kp3 => ?_) fun _ _ => FlP.keep kp12)
      exact ⟨_, rfl, sz_2, fun q hq => okTup k R3 (kp12.trans kp3) hq (.cons (.str _) (.cons (d1.keepT (R2.keepT kp3)) .nil)) rfl⟩
theorem ok_dict {kc : Nat} (hk : 5 ≤ kc) {ch : PM PyData} {f : Addr} {fd : FuncData} (F : Fun K "_dict" "_dict" s_dict f fd) (T : Txt K mg) (UC_Reader : UseC K mg "Reader" fRd C) (U_Reader_skip : UseM P w K mg base CX0 C "skip" 3 P_Reader_skip (spSkip K C)) (U_Reader_sees : UseM P w K mg base CX0 C "sees" 2 P_Reader_sees (spSees K C)) (U_Reader_need : UseM P w K mg base (L2.CX P w) C "need" 4 P_Reader_need (spNeed K C CF))
    (U_choice : Use P w K mg base (L2.CX P w) "choice" kc P_choice (spP K C CF ch)) : FnG P w K mg base (L2.CX P w) (kc + 1) f fd P_dict (spP K C CF (dictM ch)) := by
  refine okG F sc_dict (fun vs H Q E h => ?_) fun cdv A outer s H vs Q E hr hg h => ?_
  · obtain ⟨ra, tl, ts, rfl, _⟩ := h
    rfl
  · obtain ⟨ra, tl, ts, rfl, R, k⟩ := h
    refine ⟨_, (pss_cons (ps_set (i := 1) sc_dict.nd rfl (Or.inl rfl) (pe_lst pa_nil))
  (pss_cons (ps_while (passes_of rfl) (pt_up (pt_not (pt_val (pe_mc UC_Reader U_Reader_skip pass0 (hr.mono (by omega)) hg (pv 0) (pa_cons pe_str pa_nil)))))
   (pss_cons (ps_set (i := 2) sc_dict.nd rfl (Or.inl rfl) (pe_useR U_choice (takes_of rfl rfl rfl rfl) (hr.mono (by omega)) hg rfl (pa_cons (pv 0) pa_nil)))
  (pss_cons (ps_expr (pe_mc UC_Reader U_Reader_need (passes_call (takes_of rfl rfl rfl rfl) fun _ _ _ _ h => h) (hr.mono (by omega)) hg (pv 0) (pa_cons pe_str pa_nil)))
  (pss_cons (ps_expr (pe_bm PySem.F.plainAttrs_list PySem.F.slot_list_append PySem.F.type_list_append mt_append (pv 1) (pa_cons (pe_tup (pa_cons (pv 2) (pa_cons (pe_useR U_choice (takes_of rfl rfl rfl rfl) (hr.mono (by omega)) hg rfl (pa_cons (pv 0) pa_nil)) pa_nil))) pa_nil)))
  (pss_one (ps_if (pt_not (pt_val (pe_mc UC_Reader U_Reader_sees pass0 (hr.mono (by omega)) hg (pv 0) (pa_cons pe_str pa_nil))))
   (pss_one (ps_expr (pe_mc UC_Reader U_Reader_need (passes_call (takes_of rfl rfl rfl rfl) fun _ _ _ _ h => h) (hr.mono (by omega)) hg (pv 0) (pa_cons pe_str pa_nil))))
   pss_nil))))))
  (pss_one (ps_ret (pe_tup (pa_cons pe_str (pa_cons (pe_callTy call_tuple_of (by rfl) T.b_tuple (by decide +kernel) (pa_cons (pv 1) pa_nil)) pa_nil))))))), ?_⟩
    unfold dictM at k
    refine ⟨sz_0, fun ml hml => ?_⟩
    obtain ⟨n1, n2⟩ := R.ne hml
    have S1 := Same.new (o := .lst []) hml
    have R2 := R.same S1
    have L2 : ListAt K (upd H ml (.lst [])) ml [] := ⟨_, upd_same, .nil⟩
    have kp2 : Keep ra H (upd H ml (.lst [])) := LK.Same.keep S1
    generalize upd H ml (.lst []) = H2 at R2 L2 kp2
    have hl1 := R.len
    refine while_upN (fun m σ H3 => ∃ (ds : List PyData) (x2 : Option V) (ts3 : List Tk), σ = [some (.ref ra), some (.ref ml), x2] ∧ RdAt K C tl ts3 ra H3 ∧ Keep ra H H3 ∧ ListAt K H3 ml ds ∧ m + ds.length ≤ 90010 ∧ Out (dictLoop ch m ds ts3) (OkP K C tl ra (fun d => d) H Q) (FlP CF ra H E))
      ⟨_, [], none, ts, rfl, R2, kp2, L2, by simp; omega, k⟩ ?_
    rintro m σ H3 ⟨ds, x2, ts3, rfl, R3, kp3, L3, hm, k⟩
    cases m with
    | zero => exact k.elim
    | succ m =>
      refine rd_skip R3 rfl ((Out.skip k).mono (fun b ts4 k H4 R4 kp4 => ?_) fun _ _ h => h)
      refine ⟨_, rfl, ?_⟩
      have kp34 := kp3.trans kp4
      have L4 := lsKp L3 R3 kp4 n1
      cases b with
      | true =>
        refine iteFb rfl ?_
        have k := k.no rfl
        obtain ⟨xs, e4, a4⟩ := id L4
        refine ⟨_, rfl, ml, xs, rfl, .inl ⟨SqL.of e4, fun u hu => ⟨sz_2, fun q hq => ?_⟩⟩⟩
        exact okTup k (R4.same (Same.new hu)) (kp34.trans (LK.Same.keep (Same.new hu))) hq (.cons (.str _) (.cons (Dt.made hu a4) .nil)) rfl
      | false =>
        refine iteTb rfl ?_
        have k := k.yes rfl
        refine ⟨_, rfl, ra, tl, ts4, rfl, R4, k.bind.mono (fun d5 ts5 k v5 H5 R5 kp5 dv5 => ?_) fun _ _ => FlP.keep kp34⟩
        have kp35 := kp34.trans kp5
        refine rd_need R5 rfl (k.bind.mono (fun _ ts6 k H6 R6 kp6 => ?_) fun _ _ => FlP.keep kp35)
        have kp36 := kp35.trans kp6
        have L6 := lsKp (lsKp L4 R4 kp5 n1) R5 kp6 n1
        have dv6 := dv5.keepT (R5.keepT kp6)
        obtain ⟨xs6, e6, l6, a6⟩ := ls_lt L6 (by omega)
        refine ⟨_, rfl, .inl ⟨rfl, _, SqL.of e6⟩, _, rfl, _, rfl, ra, tl, ts6, rfl, R6, k.bind.mono (fun d7 ts7 k v7 H7 R7 kp7 dv7 => ?_) fun _ _ => FlP.keep kp36⟩
        have kp37 := kp36.trans kp7
        have L7 := lsKp L6 R6 kp7 n1
        have dv67 := dv6.keepT (R6.keepT kp7)
        refine ⟨sz_2, fun u hu => ?_⟩
        have Su := Same.new (o := .tup [v5, v7]) hu
        have du := Dt.made (K := K) hu (.cons dv67 (.cons dv7 .nil))
        obtain ⟨xs7, e7, l7, a7⟩ := ls_lt (listAt_mono L7 Su) (by omega)
        have R8 := (R7.same Su).upd (xs := xs7 ++ [.ref u]) e7 n1 n2
        have kp8 := keepN (o := .lst (xs7 ++ [.ref u])) (kp37.trans (LK.Same.keep Su)) hml
        have L8 := listAt_app (listAt_mono L7 Su) e7 du
        refine ⟨ml, xs7, _, rfl, rfl, e7, l7, ?_⟩
        generalize upd (upd H7 u (.tup [v5, v7])) ml (.lst (xs7 ++ [.ref u])) = H8 at R8 kp8 L8
        refine rd_comma R8 rfl (k.bind.mono (fun _ ts9 k H9 R9 kp9 => ?_) fun _ _ => FlP.keep kp8)
        exact ⟨m, Nat.lt_succ_self _, ds ++ [.tuple [d5, d7]], some v5, ts9, rfl, R9, kp8.trans kp9, lsKp L8 R8 kp9 n1, by simp; omega, k⟩
/-- the promise of _named_argument: the names before it stand in a list -/
def spNArg (K : PySem.W.Frag) (C CF : Addr) (ch : PM PyData) : Sp := fun vs H Q E => ∃ (ra tl nl : Addr) (ts : List Tk) (named : List (Str × PyData)), vs = [.ref ra, .ref nl] ∧ RdAt K C tl ts ra H ∧ ListAt K H nl (named.map prD) ∧ named.length ≤ 100000 ∧ nl ≠ ra ∧ Out (namedArgM ch named ts) (OkP K C tl ra prD H Q) (FlP CF ra H E)
theorem ok_namedarg {kc : Nat} (hk : 5 ≤ kc) {ch : PM PyData} {f : Addr} {fd : FuncData} (F : Fun K "_named_argument" "_named_argument" s_named_argument f fd) (T : Txt K mg) (UC_Reader : UseC K mg "Reader" fRd C) (U_Reader_found_line : UseM P w K mg base CX0 C "found_line" 1 P_Reader_found_line (spFLine K C)) (U_Reader_take_name : UseM P w K mg base (L2.CX P w) C "take_name" 4 P_Reader_take_name (spTakeName K C CF)) (U_Reader_need : UseM P w K mg base (L2.CX P w) C "need" 4 P_Reader_need (spNeed K C CF))
    (U_choice : Use P w K mg base (L2.CX P w) "choice" kc P_choice (spP K C CF ch)) (U_Fault : UseF P w K mg base CF CB) : FnG P w K mg base (L2.CX P w) (kc + 1) f fd P_named_argument (spNArg K C CF ch) := by
  refine okG F sc_named_argument (fun vs H Q E h => ?_) fun cdv A outer s H vs Q E hr hg h => ?_
  · obtain ⟨ra, tl, nl, ts, named, rfl, _⟩ := h
    rfl
  · obtain ⟨ra, tl, nl, ts, named, rfl, R, L, hln, n1, k⟩ := h
    refine ⟨_, (pss_cons (ps_set (i := 2) sc_named_argument.nd rfl (Or.inl rfl) (pe_mc0 UC_Reader U_Reader_found_line pass0 (hr.mono (by omega)) hg (pv 0)))
  (pss_cons (ps_set (i := 3) sc_named_argument.nd rfl (Or.inl rfl) (pe_mc0 UC_Reader U_Reader_take_name (passes_call (takes_of rfl rfl rfl rfl) fun _ _ _ _ h => h) (hr.mono (by omega)) hg (pv 0)))
  (pss_cons (ps_if (pt_cmpR op_in_seq (pv 3) (pe_lc (own := [("other", 4), ("_", 5)]) (g := (gTup K 2 (gCons (gName 4) (gCons (gName 5) gNil)))) rfl sc_named_argument.nd (pi_list (pv 1)) (blkOk_by (N := N_named_argument) (sc := defScope s_named_argument) (by decide +kernel)) (fun _ _ _ _ _ => (pg_tup (by rfl) (pgs_cons (pg_name (i := 4) sc_named_argument.nd rfl (Or.inl rfl)) (pgs_cons (pg_name (i := 5) sc_named_argument.nd rfl (Or.inl rfl)) pgs_nil)))) (fun _ _ _ _ _ => pts_nil) (fun _ _ _ _ _ => (pv 4))) (by rfl))
   (pss_one (ps_raiseF U_Fault rfl (takes_of rfl rfl rfl rfl) (hr.mono (by omega)) rfl (pa_cons (pv 2) (pa_cons pe_str pa_nil))))
   pss_nil)
  (pss_cons (ps_expr (pe_mc UC_Reader U_Reader_need (passes_call (takes_of rfl rfl rfl rfl) fun _ _ _ _ h => h) (hr.mono (by omega)) hg (pv 0) (pa_cons pe_str pa_nil)))
  (pss_one (ps_ret (pe_tup (pa_cons (pv 3) (pa_cons (pe_useR U_choice (takes_of rfl rfl rfl rfl) (hr.mono (by omega)) hg rfl (pa_cons (pv 0) pa_nil)) pa_nil))))))))), ?_⟩
    unfold namedArgM at k
    obtain ⟨t, r, rfl, k⟩ := Out.peek' k
    refine rd_line R rfl ?_
    refine rd_takename R rfl (k.bind.mono (fun z ts1 k v H1 R1 kp1 dv => ?_) fun _ _ h => h)
    obtain rfl := dv.str_inv
    have L1 := lsKp L R kp1 n1
    obtain ⟨zs, ez, az⟩ := L1
    refine ⟨_, rfl, _, rfl, nl, rfl, ⟨_, SqL.of ez⟩, fun D hD => ?_⟩
    have lzs := az.length
    rw [List.length_map] at lzs
    refine lc_dt (K := K) (walk_list (xs := zs)) hD (named.map fun p => PyData.str p.1) (by simp; omega) (Nat.lt_of_le_of_lt (show zs.length ≤ 100000 by omega) (by decide)) (fun H' S => SqL.of (S _ _ ez)) ?_ ?_ mono_tup2
    · rintro j x H2 H3 d Nx hj hd S2 ⟨acc, eacc⟩ ⟨rfl, hx⟩ nx
      rw [List.getElem?_map] at hd
      obtain ⟨p, hp, rfl⟩ := Option.map_eq_some_iff.mp hd
      obtain ⟨d, hd, dx⟩ := az.getV hx
      rw [List.getElem?_map, hp] at hd
      cases hd
      obtain ⟨u, a, b, rfl, su, d1, d2⟩ := dt_two (dx.mono S2)
      obtain rfl := d1.str_inv
      exact ⟨u, _, rfl, su, rfl, _, _, rfl, _, _, rfl, rfl, rfl, _, rfl, nx _ _ (Same.refl _) (.str _)⟩
    rintro H2 acc S2 eacc aacc
    have R2 := R1.same S2
    have eacc2 : acc = named.map fun p => V.str p.1 := by
      have : ∀ {vs : List V} {ns : List (Str × PyData)}, DtAll K H2 vs (ns.map fun p => PyData.str p.1) → vs = ns.map fun p => V.str p.1 := fun {vs ns} => by
        induction ns generalizing vs with
        | nil => exact fun h => h.nil_inv
        | cons n ns ih =>
          intro h
          obtain ⟨v, ws, rfl, hv, hws⟩ := h.cons_inv
          rw [hv.str_inv, ih hws]
          rfl
      exact this aacc
    subst eacc2
    refine ⟨D, _, rfl, .inl (SqL.of eacc), rfl, ?_, _, rfl, ?_⟩
    · rw [List.all_eq_true]
      intro v hv
      obtain ⟨p, _, rfl⟩ := List.mem_map.mp hv
      rfl
    dsimp only
    have kp2 := kp1.trans (LK.Same.keep S2)
    have L2 := listAt_mono (show ListAt K H1 nl (named.map prD) from ⟨zs, ez, az⟩) S2
    refine ite3 (fun c => ?_) fun c => ?_
    · have k := k.yes c
      exact ⟨_, rfl, _, _, rfl, lineOk R, by decide +kernel, flInv K kp2 k⟩
    · have k := k.no c
      refine rd_need R2 rfl (k.bind.mono (fun _ ts3 k H3 R3 kp3 => ?_) fun _ _ => FlP.keep kp2)
      have kp23 := kp2.trans kp3
      refine ⟨_, rfl, _, rfl, ra, tl, ts3, rfl, R3, k.bind.mono (fun d4 ts4 k v4 H4 R4 kp4 dv4 => ?_) fun _ _ => FlP.keep kp23⟩
      exact ⟨sz_2, fun q hq => okTup k R4 (kp23.trans kp4) hq (.cons (.str _) (.cons dv4 .nil)) rfl⟩
end

section
--SPLIT
end
section
variable {P : Program} {w : World} {K : PySem.W.Frag} {mg : Str → Option Value} {base : Heap} {C CF CB tl : Addr}
def agD (p : List PyData × List (Str × PyData)) : PyData := .tuple [.tuple p.1, .tuple (p.2.map prD)]
theorem ok_arguments {kc : Nat} (hk : 5 ≤ kc) {ch : PM PyData} {f : Addr} {fd : FuncData} (F : Fun K "_arguments" "_arguments" s_arguments f fd) (T : Txt K mg) (UC_Reader : UseC K mg "Reader" fRd C) (U_Reader_skip : UseM P w K mg base CX0 C "skip" 3 P_Reader_skip (spSkip K C)) (U_Reader_sees : UseM P w K mg base CX0 C "sees" 2 P_Reader_sees (spSees K C)) (U_Reader_need : UseM P w K mg base (L2.CX P w) C "need" 4 P_Reader_need (spNeed K C CF))
    (U_Reader_found_line : UseM P w K mg base CX0 C "found_line" 1 P_Reader_found_line (spFLine K C)) (U_Reader_sees_named : UseM P w K mg base CX0 C "sees_named" 2 P_Reader_sees_named (spSeesNamed K C)) (U_named_argument : Use P w K mg base (L2.CX P w) "_named_argument" (kc + 1) P_named_argument (spNArg K C CF ch))
    (U_choice : Use P w K mg base (L2.CX P w) "choice" kc P_choice (spP K C CF ch)) (U_Fault : UseF P w K mg base CF CB) : FnG P w K mg base (L2.CX P w) (kc + 2) f fd P_arguments (spPf K C CF (argumentsM ch) agD) := by
  refine okG F sc_arguments (fun vs H Q E h => ?_) fun cdv A outer s H vs Q E hr hg h => ?_
  · obtain ⟨ra, tl, ts, rfl, _⟩ := h
    rfl
  · obtain ⟨ra, tl, ts, rfl, R, k⟩ := h
    refine ⟨_, (pss_cons (ps_set (i := 1) sc_arguments.nd rfl (Or.inl rfl) (pe_lst pa_nil))
  (pss_cons (ps_set (i := 2) sc_arguments.nd rfl (Or.inl rfl) (pe_lst pa_nil))
  (pss_cons (ps_while (passes_of rfl) (pt_up (pt_not (pt_val (pe_mc UC_Reader U_Reader_skip pass0 (hr.mono (by omega)) hg (pv 0) (pa_cons pe_str pa_nil)))))
   (pss_cons (ps_if (pt_val (pe_mc0 UC_Reader U_Reader_sees_named pass0 (hr.mono (by omega)) hg (pv 0)))
   (pss_one (ps_expr (pe_bm PySem.F.plainAttrs_list PySem.F.slot_list_append PySem.F.type_list_append mt_append (pv 2) (pa_cons (pe_useR U_named_argument (takes_of rfl rfl rfl rfl) (hr.mono (by omega)) hg rfl (pa_cons (pv 0) (pa_cons (pv 2) pa_nil))) pa_nil))))
   (pss_one (ps_if (pt_truth (pv 2) (by intro _; rfl))
   (pss_one (ps_raiseF U_Fault rfl (takes_of rfl rfl rfl rfl) (hr.mono (by omega)) rfl (pa_cons (pe_mc0 UC_Reader U_Reader_found_line pass0 (hr.mono (by omega)) hg (pv 0)) (pa_cons pe_str pa_nil))))
   (pss_one (ps_expr (pe_bm PySem.F.plainAttrs_list PySem.F.slot_list_append PySem.F.type_list_append mt_append (pv 1) (pa_cons (pe_useR U_choice (takes_of rfl rfl rfl rfl) (hr.mono (by omega)) hg rfl (pa_cons (pv 0) pa_nil)) pa_nil)))))))
  (pss_one (ps_if (pt_not (pt_val (pe_mc UC_Reader U_Reader_sees pass0 (hr.mono (by omega)) hg (pv 0) (pa_cons pe_str pa_nil))))
   (pss_one (ps_expr (pe_mc UC_Reader U_Reader_need (passes_call (takes_of rfl rfl rfl rfl) fun _ _ _ _ h => h) (hr.mono (by omega)) hg (pv 0) (pa_cons pe_str pa_nil))))
   pss_nil))))
  (pss_one (ps_ret (pe_tup (pa_cons (pe_callTy call_tuple_of (by rfl) T.b_tuple (by decide +kernel) (pa_cons (pv 1) pa_nil)) (pa_cons (pe_callTy call_tuple_of (by rfl) T.b_tuple (by decide +kernel) (pa_cons (pv 2) pa_nil)) pa_nil)))))))), ?_⟩
    unfold argumentsM at k
    refine ⟨sz_0, fun al hal => ?_⟩
    obtain ⟨n1, n2⟩ := R.ne hal
    have S1 := Same.new (o := .lst []) hal
    have R2 := R.same S1
    have L2 : ListAt K (upd H al (.lst [])) al [] := ⟨_, upd_same, .nil⟩
    have kp2 : Keep ra H (upd H al (.lst [])) := LK.Same.keep S1
    generalize upd H al (.lst []) = H2 at R2 L2 kp2
    refine ⟨sz_0, fun nl hnl => ?_⟩
    obtain ⟨m1, m2⟩ := R2.ne hnl
    have hnl0 := keep_none kp2 hnl m1
    have S3 := Same.new (o := .lst []) hnl
    have R3 := R2.same S3
    have L3 := listAt_mono L2 S3
    have M3 : ListAt K (upd H2 nl (.lst [])) nl [] := ⟨_, upd_same, .nil⟩
    have nan : al ≠ nl := by obtain ⟨_, e, _⟩ := L2; exact ne_of_none e hnl
    have kp3 := kp2.trans (LK.Same.keep S3)
    generalize upd H2 nl (.lst []) = H3 at R3 L3 M3 kp3
    clear R2 L2 kp2 hnl S3 S1
    have hl1 := R.len
    refine while_upN (fun m σ H4 => ∃ (args : List PyData) (named : List (Str × PyData)) (ts3 : List Tk), σ = [some (.ref ra), some (.ref al), some (.ref nl)] ∧ RdAt K C tl ts3 ra H4 ∧ Keep ra H H4 ∧ ListAt K H4 al args ∧ ListAt K H4 nl (named.map prD) ∧ m + args.length + named.length ≤ 90010 ∧ Out (argLoop ch m args named ts3) (OkP K C tl ra agD H Q) (FlP CF ra H E))
      ⟨_, [], [], ts, rfl, R3, kp3, L3, M3, by simp; omega, k⟩ ?_
    clear R3 L3 M3 kp3
    rintro m σ H3 ⟨args, named, ts3, rfl, R3, kp3, L3, M3, hm, k⟩
    cases m with
    | zero => exact k.elim
    | succ m =>
      refine rd_skip R3 rfl ((Out.skip k).mono (fun b ts4 k H4 R4 kp4 => ?_) fun _ _ h => h)
      refine ⟨_, rfl, ?_⟩
      have kp34 := kp3.trans kp4
      have L4 := lsKp L3 R3 kp4 n1
      have M4 := lsKp M3 R3 kp4 m1
      clear L3 M3 R3 kp3 kp4
      cases b with
      | true =>
        refine iteFb rfl ?_
        have k := k.no rfl
        obtain ⟨xs, e4, a4⟩ := id L4
        obtain ⟨ys, f4, b4⟩ := id M4
        refine ⟨_, rfl, al, xs, rfl, .inl ⟨SqL.of e4, fun u hu => ?_⟩⟩
        have Su := Same.new (o := .tup xs) hu
        refine ⟨_, rfl, nl, ys, rfl, .inl ⟨SqL.of (Su _ _ f4), fun u2 hu2 => ⟨sz_2, fun q hq => ?_⟩⟩⟩
        have Su2 := Same.new (o := .tup ys) hu2
        exact okTup k ((R4.same Su).same Su2) (kp34.trans (LK.Same.keep (Su.trans Su2))) hq (.cons ((Dt.made hu a4).mono Su2) (.cons (Dt.made hu2 (b4.mono Su)) .nil)) rfl
      | false =>
        refine iteTb rfl ?_
        have k := k.yes rfl
        refine rd_seesnamed R4 rfl ((Out.seesNamed k).mono (fun e r ⟨hr', k⟩ H5 S5 => ?_) fun _ _ h => h)
        refine ⟨_, rfl, ?_⟩
        have R5 := R4.same S5
        have L5 := listAt_mono L4 S5
        have M5 := listAt_mono M4 S5
        have kp5 := kp34.trans (LK.Same.keep S5)
        clear L4 M4 R4 kp34
        cases e with
        | true =>
          refine iteTb rfl ?_
          have k := k.yes rfl
          obtain ⟨ys, f5, b5⟩ := id M5
          refine ⟨_, rfl, .inl ⟨rfl, _, SqL.of f5⟩, _, rfl, _, rfl, ra, tl, nl, ts4, named, rfl, R5, M5, by omega, m1, k.bind.mono (fun p ts6 k v6 H6 R6 kp6 dv6 => ?_) fun _ _ => FlP.keep kp5⟩
          have L6 := lsKp L5 R5 kp6 n1
          have M6 := lsKp M5 R5 kp6 m1
          obtain ⟨xs6, e6, l6, a6⟩ := ls_lt M6 (by rw [List.length_map]; omega)
          refine ⟨nl, xs6, v6, rfl, rfl, e6, l6, ?_⟩
          have R7 := R6.upd (xs := xs6 ++ [v6]) e6 m1 m2
          have kp7 := keepN (o := .lst (xs6 ++ [v6])) (kp5.trans kp6) hnl0
          have M7 := listAt_app M6 e6 dv6
          have L7 : ListAt K (upd H6 nl (.lst (xs6 ++ [v6]))) al args := by
            obtain ⟨zs, ez, az⟩ := L6
            exact ⟨zs, by rw [upd_ne nan]; exact ez, az.keepT (KeepT.upd e6)⟩
          generalize upd H6 nl (.lst (xs6 ++ [v6])) = H7 at R7 kp7 M7 L7
          refine rd_comma R7 rfl (k.bind.mono (fun _ ts9 k H9 R9 kp9 => ?_) fun _ _ => FlP.keep kp7)
          exact ⟨m, Nat.lt_succ_self _, args, named ++ [p], ts9, rfl, R9, kp7.trans kp9, lsKp L7 R7 kp9 n1, by rw [List.map_append]; exact lsKp M7 R7 kp9 m1, by simp; omega, k⟩
        | false =>
          refine iteFb rfl ?_
          have k := k.no rfl
          obtain ⟨ys, f5, b5⟩ := id M5
          refine ⟨_, rfl, !ys.isEmpty, .inl ⟨ys, SqL.of f5, rfl⟩, ?_⟩
          have hy : ys.isEmpty = named.isEmpty := by
            have := b5.length
            rw [List.length_map] at this
            cases ys <;> cases named <;> simp at this <;> rfl
          rw [hy]
          cases c : named.isEmpty with
          | false =>
            rw [c] at k
            refine iteTb rfl ?_
            obtain ⟨t, r, rfl, k⟩ := Out.peek' (k.yes rfl)
            exact rd_line R5 rfl ⟨_, _, rfl, lineOk R5, by decide +kernel, flInv K kp5 k⟩
          | true =>
            rw [c] at k
            refine iteFb rfl ?_
            have k := k.no rfl
            obtain ⟨xs, e5, a5⟩ := id L5
            refine ⟨_, rfl, .inl ⟨rfl, _, SqL.of e5⟩, _, rfl, ra, tl, ts4, rfl, R5, k.bind.mono (fun d6 ts6 k v6 H6 R6 kp6 dv6 => ?_) fun _ _ => FlP.keep kp5⟩
            have L6 := lsKp L5 R5 kp6 n1
            have M6 := lsKp M5 R5 kp6 m1
            obtain ⟨xs6, e6, l6, a6⟩ := ls_lt L6 (by omega)
            refine ⟨al, xs6, v6, rfl, rfl, e6, l6, ?_⟩
            have R7 := R6.upd (xs := xs6 ++ [v6]) e6 n1 n2
            have kp7 := keepN (o := .lst (xs6 ++ [v6])) (kp5.trans kp6) hal
            have L7 := listAt_app L6 e6 dv6
            have M7 : ListAt K (upd H6 al (.lst (xs6 ++ [v6]))) nl (named.map prD) := by
              obtain ⟨zs, ez, az⟩ := M6
              exact ⟨zs, by rw [upd_ne nan.symm]; exact ez, az.keepT (KeepT.upd e6)⟩
            generalize upd H6 al (.lst (xs6 ++ [v6])) = H7 at R7 kp7 M7 L7
            refine rd_comma R7 rfl (k.bind.mono (fun _ ts9 k H9 R9 kp9 => ?_) fun _ _ => FlP.keep kp7)
            exact ⟨m, Nat.lt_succ_self _, args ++ [d6], named, ts9, rfl, R9, kp7.trans kp9, lsKp L7 R7 kp9 n1, lsKp M7 R7 kp9 m1, by simp; omega, k⟩
/-- the promise of _indexed: what stands before the bracket is told -/
def spIdx (K : PySem.W.Frag) (C CF : Addr) (ch : PM PyData) : Sp := fun vs H Q E => ∃ (ra tl : Addr) (ts : List Tk) (x : V) (tree : PyData), vs = [.ref ra, x] ∧ RdAt K C tl ts ra H ∧ Dt K H x tree ∧ Out (indexedM ch tree ts) (OkP K C tl ra (fun d => d) H Q) (FlP CF ra H E)
theorem ok_indexed {kc : Nat} (hk : 5 ≤ kc) {ch : PM PyData} {f : Addr} {fd : FuncData} (F : Fun K "_indexed" "_indexed" s_indexed f fd) (T : Txt K mg) (UC_Reader : UseC K mg "Reader" fRd C) (U_Reader_skip : UseM P w K mg base CX0 C "skip" 3 P_Reader_skip (spSkip K C)) (U_Reader_sees : UseM P w K mg base CX0 C "sees" 2 P_Reader_sees (spSees K C)) (U_Reader_need : UseM P w K mg base (L2.CX P w) C "need" 4 P_Reader_need (spNeed K C CF))
    (U_choice : Use P w K mg base (L2.CX P w) "choice" kc P_choice (spP K C CF ch)) : FnG P w K mg base (L2.CX P w) (kc + 1) f fd P_indexed (spIdx K C CF ch) := by
  refine okG F sc_indexed (fun vs H Q E h => ?_) fun cdv A outer s H vs Q E hr hg h => ?_
  · obtain ⟨ra, tl, ts, x, tree, rfl, _⟩ := h
    rfl
  · obtain ⟨ra, tl, ts, x, tree, rfl, R, dx, k⟩ := h
    refine ⟨_, (pss_cons (ps_set (i := 2) sc_indexed.nd rfl (Or.inl rfl) (pe_globD T.c_NOTHING (by rfl)))
  (C8.pss_cut (ps_if (pt_not (pt_val (pe_mc UC_Reader U_Reader_sees pass0 (hr.mono (by omega)) hg (pv 0) (pa_cons pe_str pa_nil))))
   (pss_cons (ps_set (i := 2) sc_indexed.nd rfl (Or.inl rfl) (pe_useR U_choice (takes_of rfl rfl rfl rfl) (hr.mono (by omega)) hg rfl (pa_cons (pv 0) pa_nil)))
  (pss_one (ps_if (pt_val (pe_mc UC_Reader U_Reader_skip pass0 (hr.mono (by omega)) hg (pv 0) (pa_cons pe_str pa_nil)))
   (pss_one (ps_ret (pe_tup (pa_cons pe_str (pa_cons (pv 1) (pa_cons (pv 2) pa_nil))))))
   pss_nil)))
   pss_nil)
  (pss_cons (ps_expr (pe_mc UC_Reader U_Reader_need (passes_call (takes_of rfl rfl rfl rfl) fun _ _ _ _ h => h) (hr.mono (by omega)) hg (pv 0) (pa_cons pe_str pa_nil)))
  (pss_cons (ps_set (i := 3) sc_indexed.nd rfl (Or.inl rfl) (pe_globD T.c_NOTHING (by rfl)))
  (C8.pss_cut (ps_if (pt_not (pt_val (pe_mc UC_Reader U_Reader_sees pass0 (hr.mono (by omega)) hg (pv 0) (pa_cons pe_str pa_nil))))
   (pss_one (ps_set (i := 3) sc_indexed.nd rfl (Or.inl rfl) (pe_useR U_choice (takes_of rfl rfl rfl rfl) (hr.mono (by omega)) hg rfl (pa_cons (pv 0) pa_nil))))
   pss_nil)
  (pss_cons (ps_expr (pe_mc UC_Reader U_Reader_need (passes_call (takes_of rfl rfl rfl rfl) fun _ _ _ _ h => h) (hr.mono (by omega)) hg (pv 0) (pa_cons pe_str pa_nil)))
  (pss_one (ps_ret (pe_tup (pa_cons pe_str (pa_cons (pv 1) (pa_cons (pv 2) (pa_cons (pv 3) pa_nil))))))))))))), ?_⟩
    unfold indexedM at k
    refine fun lo hlo => ?_
    refine ⟨fun σ H1 => ∃ (lv : V) (low : PyData) (ts1 : List Tk), σ = [some (.ref ra), some x, some lv, none] ∧ RdAt K C tl ts1 ra H1 ∧ Keep ra H H1 ∧ Dt K H1 lv low ∧ Dt K H1 x tree ∧
      Out (((needM ":").bind fun _ => (seesM "]").bind fun c => if (!c) = true then ch.bind fun high => (needM "]").bind fun _ => .ret (tg3 "part" tree low high) else (needM "]").bind fun _ => .ret (tg3 "part" tree low nothingD)) ts1) (OkP K C tl ra (fun d => d) H Q) (FlP CF ra H E), ?_, ?_⟩
    · obtain ⟨t, r, rfl, k⟩ := Out.sees' k
      refine rd_sees R rfl fun H1 S1 => ?_
      have R1 := R.same S1
      refine ⟨_, rfl, ?_⟩
      cases c : isMark t ":" with
      | true =>
        rw [c] at k
        exact iteFb rfl ⟨lo, nothingD, _, rfl, R1, LK.Same.keep S1, hlo _, dx.mono S1, k⟩
      | false =>
        rw [c] at k
        refine iteTb rfl ?_
        have k := k.yes rfl
        have kp1 : Keep ra H H1 := LK.Same.keep S1
        refine ⟨_, rfl, ra, tl, _, rfl, R1, k.bind.mono (fun d2 ts2 k v2 H2 R2 kp2 dv2 => ?_) fun _ _ => FlP.keep kp1⟩
        have kp12 := kp1.trans kp2
        have dx2 := (dx.mono S1).keepT (R1.keepT kp2)
        refine rd_skip R2 rfl ((Out.skip k).mono (fun b ts3 k H3 R3 kp3 => ?_) fun _ _ h => h)
        refine ⟨_, rfl, ?_⟩
        have kp13 := kp12.trans kp3
        have dx3 := dx2.keepT (R2.keepT kp3)
        have dv3 := dv2.keepT (R2.keepT kp3)
        cases b with
        | true => exact iteTb rfl ⟨_, rfl, _, rfl, sz_3, fun q hq => okTup (k.yes rfl) R3 kp13 hq (.cons (.str _) (.cons dx3 (.cons dv3 .nil))) rfl⟩
        | false => exact iteFb rfl ⟨v2, d2, ts3, rfl, R3, kp13, dv3, dx3, k.no rfl⟩
    rintro σ H1 ⟨lv, low, ts1, rfl, R1, kp1, dl, dx1, k⟩
    refine rd_need R1 rfl (k.bind.mono (fun _ ts2 k H2 R2 kp2 => ?_) fun _ _ => FlP.keep kp1)
    have kp12 := kp1.trans kp2
    have dx2 := dx1.keepT (R1.keepT kp2)
    have dl2 := dl.keepT (R1.keepT kp2)
    refine fun hi hhi => ?_
    refine ⟨fun σ H3 => ∃ (hv : V) (high : PyData) (ts3 : List Tk), σ = [some (.ref ra), some x, some lv, some hv] ∧ RdAt K C tl ts3 ra H3 ∧ Keep ra H H3 ∧ Dt K H3 lv low ∧ Dt K H3 x tree ∧ Dt K H3 hv high ∧
      Out (((needM "]").bind fun _ => (.ret (tg3 "part" tree low high) : PM PyData)) ts3) (OkP K C tl ra (fun d => d) H Q) (FlP CF ra H E), ?_, ?_⟩
    · obtain ⟨t, r, rfl, k⟩ := Out.sees' k
      refine rd_sees R2 rfl fun H3 S3 => ?_
      have R3 := R2.same S3
      have kp13 := kp12.trans (LK.Same.keep S3)
      refine ⟨_, rfl, ?_⟩
      cases c : isMark t "]" with
      | true =>
        rw [c] at k
        exact iteFb rfl ⟨hi, nothingD, _, rfl, R3, kp13, dl2.mono S3, dx2.mono S3, hhi _, k⟩
      | false =>
        rw [c] at k
        refine iteTb rfl ?_
        have k := k.yes rfl
        refine ⟨_, rfl, ra, tl, _, rfl, R3, k.bind.mono (fun d4 ts4 k v4 H4 R4 kp4 dv4 => ?_) fun _ _ => FlP.keep kp13⟩
        exact ⟨v4, d4, ts4, rfl, R4, kp13.trans kp4, (dl2.mono S3).keepT (R3.keepT kp4), (dx2.mono S3).keepT (R3.keepT kp4), dv4, k⟩
    rintro σ H3 ⟨hv, high, ts3, rfl, R3, kp3, dl3, dx3, dh3, k⟩
    refine rd_need R3 rfl (k.bind.mono (fun _ ts4 k H4 R4 kp4 => ?_) fun _ _ => FlP.keep kp3)
    exact ⟨_, rfl, _, rfl, _, rfl, sz_4, fun q hq => okTup k R4 (kp3.trans kp4) hq (.cons (.str _) (.cons (dx3.keepT (R3.keepT kp4)) (.cons (dl3.keepT (R3.keepT kp4)) (.cons (dh3.keepT (R3.keepT kp4)) .nil)))) rfl⟩
end

section
--SPLIT
end
section
variable {P : Program} {w : World} {K : PySem.W.Frag} {mg : Str → Option Value} {base : Heap} {C CF CB tl : Addr}
theorem constsQ {qs : List (Str × Addr)} (h1 : constsV.map (·.1) = qs.map (·.1)) (h2 : Paired (fun (q : Str × Addr) (p : Str × List V) => KTup K q.2 p.2) qs constsV) : ∀ i, i < 3 → ∃ wd ds a, qs[i]? = some (wd, a) ∧ consts.drop i = (wd, ds) :: consts.drop (i + 1) ∧ valV (fnKV qs) (.inr wd) = some (.ref a) ∧ ∀ H, Dt K H (.ref a) (.tuple ds) := by
  unfold constsV at h1 h2
  cases h2 with
  | @cons q1 _ qs _ k1 h2 =>
    cases h2 with
    | @cons q2 _ qs _ k2 h2 =>
      cases h2 with
      | @cons q3 _ qs _ k3 h2 =>
        cases h2
        obtain ⟨w1, a1⟩ := q1
        obtain ⟨w2, a2⟩ := q2
        obtain ⟨w3, a3⟩ := q3
        simp only [List.map_cons, List.map_nil, List.cons.injEq, and_true] at h1
        obtain ⟨rfl, rfl, rfl⟩ := h1
        intro i hi
        rcases (show i = 0 ∨ i = 1 ∨ i = 2 by omega) with rfl | rfl | rfl
        · exact ⟨_, _, _, rfl, rfl, rfl, fun H => KTup.dt k1 H (.cons (.str _) .nil)⟩
        · exact ⟨_, _, _, rfl, rfl, rfl, fun H => KTup.dt k2 H (.cons (.str _) (.cons (.bl _) .nil))⟩
        · exact ⟨_, _, _, rfl, rfl, rfl, fun H => KTup.dt k3 H (.cons (.str _) (.cons (.bl _) .nil))⟩
theorem ok_atom {kc : Nat} (hk : 5 ≤ kc) {ch : PM PyData} {f : Addr} {fd : FuncData} (F : Fun K "_atom" "_atom" s_atom f fd) (T : Txt K mg) (UC_Reader : UseC K mg "Reader" fRd C) (U_Reader_skip : UseM P w K mg base CX0 C "skip" 3 P_Reader_skip (spSkip K C)) (U_Reader_found_kind : UseM P w K mg base CX0 C "found_kind" 1 P_Reader_found_kind (spKind K C)) (U_Reader_found_line : UseM P w K mg base CX0 C "found_line" 1 P_Reader_found_line (spFLine K C)) (U_Reader_take : UseM P w K mg base CX0 C "take" 1 P_Reader_take (spTake K C))
    (U_bracketed : Use P w K mg base (L2.CX P w) "_bracketed" (kc + 3) P_bracketed (spP K C CF (bracketedM ch))) (U_list : Use P w K mg base (L2.CX P w) "_list" (kc + 2) P_list (spP K C CF (listM ch))) (U_dict : Use P w K mg base (L2.CX P w) "_dict" (kc + 1) P_dict (spP K C CF (dictM ch)))
    (U_CONSTANTS : UseT P w K mg "CONSTANTS" constsV) (U_Fault : UseF P w K mg base CF CB) : FnG P w K mg base (L2.CX P w) (kc + 4) f fd P_atom (spP K C CF (atomM ch)) := by
  obtain ⟨qs, ⟨aD_CONSTANTS, gD_CONSTANTS, kD⟩, hq1, hq2⟩ := U_CONSTANTS.ex
  have cq := constsQ hq1 hq2
  have lq : (fnKV qs).length = 3 := by
    have := congrArg List.length hq1
    unfold fnKV
    simp [constsV] at this ⊢
    omega
  refine okG F sc_atom (fun vs H Q E h => ?_) fun cdv A outer s H vs Q E hr hg h => ?_
  · obtain ⟨ra, tl, ts, rfl, _⟩ := h
    rfl
  · obtain ⟨ra, tl, ts, rfl, R, k⟩ := h
    refine ⟨_, (pss_cons (ps_set (i := 1) sc_atom.nd rfl (Or.inl rfl) (pe_mc0 UC_Reader U_Reader_found_kind pass0 (hr.mono (by omega)) hg (pv 0)))
  (pss_cons (ps_if (pt_cmpR op_eq (pv 1) pe_str (nomark _))
   (pss_one (ps_ret (pe_tup (pa_cons pe_str (pa_cons (pe_mc0 UC_Reader U_Reader_take pass0 (hr.mono (by omega)) hg (pv 0)) pa_nil)))))
   pss_nil)
  (pss_cons (ps_if (pt_cmpR op_in_seq (pv 1) (pe_tup (pa_cons pe_str (pa_cons pe_str pa_nil))) (by rfl))
   (pss_one (ps_ret (pe_tup (pa_cons pe_str (pa_cons (pe_tup (pa_cons (pv 1) (pa_cons (pe_mc0 UC_Reader U_Reader_take pass0 (hr.mono (by omega)) hg (pv 0)) pa_nil))) pa_nil)))))
   pss_nil)
  (pss_cons (ps_for (passes_of rfl) rfl (pi_keysK (pe_glob (v := .ref aD_CONSTANTS) (by rfl) gD_CONSTANTS rfl)) (pg_name (i := 2) sc_atom.nd rfl (Or.inl rfl))
   (pss_one (ps_if (pt_val (pe_mc UC_Reader U_Reader_skip pass0 (hr.mono (by omega)) hg (pv 0) (pa_cons (pv 2) pa_nil)))
   (pss_one (ps_ret (pe_tup (pa_cons pe_str (pa_cons (pe_dgetK (pe_glob (v := .ref aD_CONSTANTS) (by rfl) gD_CONSTANTS rfl) (pv 2) (fun _ _ => rfl)) pa_nil)))))
   pss_nil)))
  (pss_cons (ps_if (pt_val (pe_mc UC_Reader U_Reader_skip pass0 (hr.mono (by omega)) hg (pv 0) (pa_cons pe_str pa_nil)))
   (pss_one (ps_ret (pe_useR U_bracketed (takes_of rfl rfl rfl rfl) (hr.mono (by omega)) hg rfl (pa_cons (pv 0) pa_nil))))
   pss_nil)
  (pss_cons (ps_if (pt_val (pe_mc UC_Reader U_Reader_skip pass0 (hr.mono (by omega)) hg (pv 0) (pa_cons pe_str pa_nil)))
   (pss_one (ps_ret (pe_useR U_list (takes_of rfl rfl rfl rfl) (hr.mono (by omega)) hg rfl (pa_cons (pv 0) pa_nil))))
   pss_nil)
  (pss_cons (ps_if (pt_val (pe_mc UC_Reader U_Reader_skip pass0 (hr.mono (by omega)) hg (pv 0) (pa_cons pe_str pa_nil)))
   (pss_one (ps_ret (pe_useR U_dict (takes_of rfl rfl rfl rfl) (hr.mono (by omega)) hg rfl (pa_cons (pv 0) pa_nil))))
   pss_nil)
  (pss_one (ps_raiseF U_Fault rfl (takes_of rfl rfl rfl rfl) (hr.mono (by omega)) rfl (pa_cons (pe_mc0 UC_Reader U_Reader_found_line pass0 (hr.mono (by omega)) hg (pv 0)) (pa_cons pe_str pa_nil))))))))))), ?_⟩
    unfold atomM at k
    obtain ⟨t, r, rfl, k⟩ := Out.peek' k
    refine rd_kind R rfl ?_
    refine ⟨_, rfl, rfl, _, rfl, ?_⟩
    refine ite3 (fun c => ?_) fun c => ?_
    · have k := (k.yes c).take
      exact rd_take R rfl fun v H1 R1 kp1 dv => ⟨sz_2, fun q hq => okTup k R1 kp1 hq (.cons (.str _) (.cons dv .nil)) rfl⟩
    have k := k.no c
    refine ⟨_, rfl, sz_2, fun p hp => ⟨p, _, rfl, .inr (SqT.of upd_same), rfl, rfl, _, rfl, ?_⟩⟩
    have S1 := Same.new (o := .tup [V.str "int", V.str "text"]) hp
    have R1 := R.same S1
    have kp1 : Keep ra H _ := LK.Same.keep S1
    generalize upd H p (.tup [V.str "int", V.str "text"]) = H1 at S1 R1 kp1 ⊢
    refine ite3 (fun c2 => ?_) fun c2 => ?_
    · have k := (k.yes c2).take
      refine ⟨_, rfl, ?_⟩
      exact rd_take R1 rfl fun v H2 R2 kp2 dv => ⟨sz_2, fun u hu => ⟨sz_2, fun q hq => okTup k (R2.same (Same.new hu)) ((kp1.trans kp2).trans (LK.Same.keep (Same.new hu))) hq (.cons (.str _) (.cons (Dt.made hu (.cons (.str _) (.cons dv .nil))) .nil)) rfl⟩⟩
    have k := k.no c2
    refine ⟨aD_CONSTANTS, fnKV qs, rfl, kD, ?_⟩
    refine for_it (walk_keysK) (fun i σ H2 => ∃ (x2 : Option V) (ts2 : List Tk), σ = [some (.ref ra), some (.str t.k), x2] ∧ RdAt K C tl ts2 ra H2 ∧ Keep ra H H2 ∧ Out (atomC ch (consts.drop i) ts2) (OkP K C tl ra (fun d => d) H Q) (FlP CF ra H E)) ⟨none, _, rfl, R1, kp1, k⟩ (fun _ _ _ _ _ => trivial) ?_ ?_
    · rintro i x σ H2 H3 hi ⟨x2, ts2, rfl, R2, kp2, k⟩ ⟨rfl, key, kv, hkv, rfl⟩
      obtain ⟨wd, ds, a, e1, e2, e3, e4⟩ := cq i (by rw [lq] at hi; exact hi)
      have hkv' : (qs.map fun p => ((Sum.inr p.1 : Key), V.ref p.2))[i]? = some (key, kv) := hkv
      rw [List.getElem?_map, e1] at hkv'
      obtain ⟨rfl, rfl⟩ := Prod.mk.inj (Option.some.inj hkv')
      rw [e2] at k
      refine rd_skipV R2 rfl rfl ((Out.skip k).mono (fun b ts3 k H4 R4 kp4 => ?_) fun _ _ h => h)
      refine ⟨_, rfl, ?_⟩
      cases b with
      | true =>
        refine iteTb rfl ?_
        have k := k.yes rfl
        exact ⟨_, rfl, aD_CONSTANTS, fnKV qs, .inr wd, .ref a, rfl, kD.1, rfl, e3, sz_2, fun q hq => okTup k R4 (kp2.trans kp4) hq (.cons (.str _) (.cons (e4 _) .nil)) rfl⟩
      | false => exact iteFb rfl ⟨_, ts3, rfl, R4, kp2.trans kp4, k.no rfl⟩
    rintro σ H2 ⟨x2, ts2, rfl, R2, kp2, k⟩
    have k : Out (atomB ch ts2) (OkP K C tl ra (fun d => d) H Q) (FlP CF ra H E) := by rw [lq] at k; exact k
    unfold atomB at k
    refine rd_skip R2 rfl ((Out.skip k).mono (fun b ts3 k H3 R3 kp3 => ?_) fun _ _ h => h)
    have kp3 := kp2.trans kp3
    refine ⟨_, rfl, ?_⟩
    cases b with
    | true => exact iteTb rfl ⟨_, rfl, ra, tl, ts3, rfl, R3, (k.yes rfl).mono (fun _ _ => OkP.keep kp3) fun _ _ => FlP.keep kp3⟩
    | false =>
      refine iteFb rfl ?_
      refine rd_skip R3 rfl ((Out.skip (k.no rfl)).mono (fun b ts4 k H4 R4 kp4 => ?_) fun _ _ h => h)
      have kp4 := kp3.trans kp4
      refine ⟨_, rfl, ?_⟩
      cases b with
      | true => exact iteTb rfl ⟨_, rfl, ra, tl, ts4, rfl, R4, (k.yes rfl).mono (fun _ _ => OkP.keep kp4) fun _ _ => FlP.keep kp4⟩
      | false =>
        refine iteFb rfl ?_
        refine rd_skip R4 rfl ((Out.skip (k.no rfl)).mono (fun b ts5 k H5 R5 kp5 => ?_) fun _ _ h => h)
        have kp5 := kp4.trans kp5
        refine ⟨_, rfl, ?_⟩
        cases b with
        | true => exact iteTb rfl ⟨_, rfl, ra, tl, ts5, rfl, R5, (k.yes rfl).mono (fun _ _ => OkP.keep kp5) fun _ _ => FlP.keep kp5⟩
        | false =>
          refine iteFb rfl ?_
          obtain ⟨t, r, rfl, k⟩ := Out.bad (k.no rfl)
          exact rd_line R5 rfl ⟨_, _, rfl, lineOk R5, by decide +kernel, flInv K kp5 k⟩
theorem ok_primary {kc : Nat} (hk : 5 ≤ kc) {ch : PM PyData} {f : Addr} {fd : FuncData} (F : Fun K "primary" "primary" s_primary f fd) (T : Txt K mg) (UC_Reader : UseC K mg "Reader" fRd C) (U_Reader_skip : UseM P w K mg base CX0 C "skip" 3 P_Reader_skip (spSkip K C)) (U_Reader_take_name : UseM P w K mg base (L2.CX P w) C "take_name" 4 P_Reader_take_name (spTakeName K C CF))
    (U_atom : Use P w K mg base (L2.CX P w) "_atom" (kc + 4) P_atom (spP K C CF (atomM ch))) (U_arguments : Use P w K mg base (L2.CX P w) "_arguments" (kc + 2) P_arguments (spPf K C CF (argumentsM ch) agD)) (U_indexed : Use P w K mg base (L2.CX P w) "_indexed" (kc + 1) P_indexed (spIdx K C CF ch)) : FnG P w K mg base (L2.CX P w) (kc + 5) f fd P_primary (spP K C CF (primaryM ch)) := by
  refine okG F sc_primary (fun vs H Q E h => ?_) fun cdv A outer s H vs Q E hr hg h => ?_
  · obtain ⟨ra, tl, ts, rfl, _⟩ := h
    rfl
  · obtain ⟨ra, tl, ts, rfl, R, k⟩ := h
    refine ⟨_, (pss_cons (ps_set (i := 1) sc_primary.nd rfl (Or.inl rfl) (pe_useR U_atom (takes_of rfl rfl rfl rfl) (hr.mono (by omega)) hg rfl (pa_cons (pv 0) pa_nil)))
  (pss_one (ps_while (passes_of rfl) (pt_up (pt_val pe_bl))
   (pss_one (ps_if (pt_val (pe_mc UC_Reader U_Reader_skip pass0 (hr.mono (by omega)) hg (pv 0) (pa_cons pe_str pa_nil)))
   (pss_one (ps_set (i := 1) sc_primary.nd rfl (Or.inl rfl) (pe_tup (pa_cons pe_str (pa_cons (pv 1) (pa_cons (pe_mc0 UC_Reader U_Reader_take_name (passes_call (takes_of rfl rfl rfl rfl) fun _ _ _ _ h => h) (hr.mono (by omega)) hg (pv 0)) pa_nil))))))
   (pss_one (ps_if (pt_val (pe_mc UC_Reader U_Reader_skip pass0 (hr.mono (by omega)) hg (pv 0) (pa_cons pe_str pa_nil)))
   (pss_cons (ps_asg (pe_useR U_arguments (takes_of rfl rfl rfl rfl) (hr.mono (by omega)) hg rfl (pa_cons (pv 0) pa_nil)) (pg_tup (by rfl) (pgs_cons (pg_name (i := 2) sc_primary.nd rfl (Or.inl rfl)) (pgs_cons (pg_name (i := 3) sc_primary.nd rfl (Or.inl rfl)) pgs_nil))))
  (pss_one (ps_set (i := 1) sc_primary.nd rfl (Or.inl rfl) (pe_tup (pa_cons pe_str (pa_cons (pv 1) (pa_cons (pv 2) (pa_cons (pv 3) pa_nil))))))))
   (pss_one (ps_if (pt_val (pe_mc UC_Reader U_Reader_skip pass0 (hr.mono (by omega)) hg (pv 0) (pa_cons pe_str pa_nil)))
   (pss_one (ps_set (i := 1) sc_primary.nd rfl (Or.inl rfl) (pe_useR U_indexed (takes_of rfl rfl rfl rfl) (hr.mono (by omega)) hg rfl (pa_cons (pv 0) (pa_cons (pv 1) pa_nil)))))
   (pss_one (ps_ret (pv 1)))))))))))), ?_⟩
    unfold primaryM at k
    refine ⟨_, rfl, ra, tl, ts, rfl, R, k.bind.mono (fun d ts1 k v H1 R1 kp1 dv => ?_) fun _ _ h => h⟩
    refine while_upN (fun m σ H4 => ∃ (v : V) (t : PyData) (x2 x3 : Option V) (ts3 : List Tk), σ = [some (.ref ra), some v, x2, x3] ∧ RdAt K C tl ts3 ra H4 ∧ Keep ra H H4 ∧ Dt K H4 v t ∧ Out (primLoop ch m t ts3) (OkP K C tl ra (fun d => d) H Q) (FlP CF ra H E))
      ⟨_, v, d, none, none, ts1, rfl, R1, kp1, dv, k⟩ ?_
    clear dv kp1 R1
    rintro m σ H3 ⟨v, t, x2, x3, ts3, rfl, R3, kp3, dv, k⟩
    cases m with
    | zero => exact k.elim
    | succ m =>
      refine ⟨_, rfl, iteTb rfl ?_⟩
      refine rd_skip R3 rfl ((Out.skip k).mono (fun b ts4 k H4 R4 kp4 => ?_) fun _ _ h => h)
      have dv4 := dv.keepT (R3.keepT kp4)
      have kp4 := kp3.trans kp4
      refine ⟨_, rfl, ?_⟩
      cases b with
      | true =>
        refine iteTb rfl ?_
        have k := k.yes rfl
        refine ⟨_, rfl, rd_takename R4 rfl (k.bind.mono (fun z ts5 k v5 H5 R5 kp5 dv5 => ?_) fun _ _ => FlP.keep kp4)⟩
        refine ⟨sz_3, fun q hq => ?_⟩
        have Sq := Same.new (o := .tup [V.str "attr", v, v5]) hq
        exact ⟨m, Nat.lt_succ_self _, _, _, _, _, ts5, rfl, R5.same Sq, (kp4.trans kp5).trans (LK.Same.keep Sq), Dt.made hq (.cons (.str _) (.cons (dv4.keepT (R4.keepT kp5)) (.cons dv5 .nil))), k⟩
      | false =>
        refine iteFb rfl ?_
        refine rd_skip R4 rfl ((Out.skip (k.no rfl)).mono (fun b ts5 k H5 R5 kp5 => ?_) fun _ _ h => h)
        have dv5 := dv4.keepT (R4.keepT kp5)
        have kp5 := kp4.trans kp5
        refine ⟨_, rfl, ?_⟩
        cases b with
        | true =>
          refine iteTb rfl ?_
          have k := k.yes rfl
          refine ⟨_, rfl, ra, tl, ts5, rfl, R5, k.bind.mono (fun p ts6 k v6 H6 R6 kp6 dv6 => ?_) fun _ _ => FlP.keep kp5⟩
          obtain ⟨u, x, y, rfl, su, d1, d2⟩ := dt_two dv6
          refine ⟨u, _, rfl, su, rfl, _, _, rfl, _, _, rfl, rfl, ?_⟩
          refine ⟨_, rfl, _, rfl, _, rfl, sz_4, fun q hq => ?_⟩
          have Sq := Same.new (o := .tup [V.str "call", v, x, y]) hq
          exact ⟨m, Nat.lt_succ_self _, _, _, _, _, ts6, rfl, R6.same Sq, (kp5.trans kp6).trans (LK.Same.keep Sq), Dt.made hq (.cons (.str _) (.cons (dv5.keepT (R5.keepT kp6)) (.cons d1 (.cons d2 .nil)))), k⟩
        | false =>
          refine iteFb rfl ?_
          refine rd_skip R5 rfl ((Out.skip (k.no rfl)).mono (fun b ts6 k H6 R6 kp6 => ?_) fun _ _ h => h)
          have dv6 := dv5.keepT (R5.keepT kp6)
          have kp6 := kp5.trans kp6
          refine ⟨_, rfl, ?_⟩
          cases b with
          | true =>
            refine iteTb rfl ?_
            have k := k.yes rfl
            refine ⟨_, rfl, _, rfl, ra, tl, ts6, v, t, rfl, R6, dv6, k.bind.mono (fun u ts7 k v7 H7 R7 kp7 dv7 => ?_) fun _ _ => FlP.keep kp6⟩
            exact ⟨m, Nat.lt_succ_self _, _, _, _, _, ts7, rfl, R7, kp6.trans kp7, dv7, k⟩
          | false => exact iteFb rfl ⟨_, rfl, (k.no rfl) _ _ R6 kp6 dv6⟩
theorem ok_minus {kc : Nat} (hk : 5 ≤ kc) {ch : PM PyData} {f : Addr} {fd : FuncData} (F : Fun K "_minus" "_minus" s_minus f fd) (T : Txt K mg) (UC_Reader : UseC K mg "Reader" fRd C) (U_Reader_skip : UseM P w K mg base CX0 C "skip" 3 P_Reader_skip (spSkip K C))
    (U_primary : Use P w K mg base (L2.CX P w) "primary" (kc + 5) P_primary (spP K C CF (primaryM ch))) : FnG P w K mg base (L2.CX P w) (kc + 6) f fd P_minus (spP K C CF (minusM ch)) := by
  refine okG F sc_minus (fun vs H Q E h => ?_) fun cdv A outer s H vs Q E hr hg h => ?_
  · obtain ⟨ra, tl, ts, rfl, _⟩ := h
    rfl
  · obtain ⟨ra, tl, ts, rfl, R, k⟩ := h
    refine ⟨_, (pss_cons (ps_if (pt_val (pe_mc UC_Reader U_Reader_skip pass0 (hr.mono (by omega)) hg (pv 0) (pa_cons pe_str pa_nil)))
   (pss_one (ps_ret (pe_tup (pa_cons pe_str (pa_cons (pe_useR U_primary (takes_of rfl rfl rfl rfl) (hr.mono (by omega)) hg rfl (pa_cons (pv 0) pa_nil)) pa_nil)))))
   pss_nil)
  (pss_one (ps_ret (pe_useR U_primary (takes_of rfl rfl rfl rfl) (hr.mono (by omega)) hg rfl (pa_cons (pv 0) pa_nil))))), ?_⟩
    unfold minusM at k
    refine rd_skip R rfl ((Out.skip k).mono (fun b ts1 k H1 R1 kp1 => ?_) fun _ _ h => h)
    refine ⟨_, rfl, ?_⟩
    cases b with
    | true =>
      refine iteTb rfl ?_
      refine ⟨_, rfl, ra, tl, ts1, rfl, R1, (k.yes rfl).bind.mono (fun d ts2 k v H2 R2 kp2 dv => ?_) fun _ _ => FlP.keep kp1⟩
      exact ⟨sz_2, fun q hq => okTup k R2 (kp1.trans kp2) hq (.cons (.str _) (.cons dv .nil)) rfl⟩
    | false => exact iteFb rfl ⟨_, rfl, ra, tl, ts1, rfl, R1, (k.no rfl).mono (fun _ _ => OkP.keep kp1) fun _ _ => FlP.keep kp1⟩
theorem rd_seesT {ra : Addr} {t : Tk} {ts : List Tk} {H : Hp} {σ : L2.St} {Q : Bool → Hp → Prop} {E : XK} {wd : Str} (R : RdAt K C tl (t :: ts) ra H) (hσ : σ[0]? = some (some (.ref ra))) (k : ∀ H', Same H H' → Q (isMark t wd) H') : tB (tMc C "sees" (spSees K C) E (tVar 0) (tCons (tC (V.str wd)) tNil)) σ H Q :=
  rd_sees R hσ fun H' S => ⟨_, rfl, k H' S⟩
theorem rd_or2 {ra : Addr} {t : Tk} {ts : List Tk} {H : Hp} {σ : L2.St} {Q : Bool → Hp → Prop} {E : XK} {w1 w2 : Str} (R : RdAt K C tl (t :: ts) ra H) (hσ : σ[0]? = some (some (.ref ra))) (k : ∀ H', Same H H' → Q ([w1, w2].any fun o => isMark t o) H') :
    tOr (tB (tMc C "sees" (spSees K C) E (tVar 0) (tCons (tC (V.str w1)) tNil))) (tB (tMc C "sees" (spSees K C) E (tVar 0) (tCons (tC (V.str w2)) tNil))) σ H Q := by
  refine rd_seesT R hσ fun H1 S1 => ?_
  cases c : isMark t w1 with
  | true => exact iteTb rfl (by have := k H1 S1; rw [List.any_cons, c, Bool.true_or] at this; exact this)
  | false =>
    refine iteFb rfl (rd_seesT (R.same S1) hσ fun H2 S2 => ?_)
    have := k H2 (S1.trans S2)
    rw [List.any_cons, c, Bool.false_or, List.any_cons, List.any_nil, Bool.or_false] at this
    exact this
theorem rd_or3 {ra : Addr} {t : Tk} {ts : List Tk} {H : Hp} {σ : L2.St} {Q : Bool → Hp → Prop} {E : XK} {w1 w2 w3 : Str} (R : RdAt K C tl (t :: ts) ra H) (hσ : σ[0]? = some (some (.ref ra))) (k : ∀ H', Same H H' → Q ([w1, w2, w3].any fun o => isMark t o) H') :
    tOr (tB (tMc C "sees" (spSees K C) E (tVar 0) (tCons (tC (V.str w1)) tNil))) (tOr (tB (tMc C "sees" (spSees K C) E (tVar 0) (tCons (tC (V.str w2)) tNil))) (tB (tMc C "sees" (spSees K C) E (tVar 0) (tCons (tC (V.str w3)) tNil)))) σ H Q := by
  refine rd_seesT R hσ fun H1 S1 => ?_
  cases c : isMark t w1 with
  | true => exact iteTb rfl (by have := k H1 S1; rw [List.any_cons, c, Bool.true_or] at this; exact this)
  | false =>
    refine iteFb rfl (rd_or2 (R.same S1) hσ fun H2 S2 => ?_)
    have := k H2 (S1.trans S2)
    rw [List.any_cons, c, Bool.false_or] at this
    exact this
theorem ok_term {kc : Nat} (hk : 5 ≤ kc) {ch : PM PyData} {f : Addr} {fd : FuncData} (F : Fun K "_term" "_term" s_term f fd) (T : Txt K mg) (UC_Reader : UseC K mg "Reader" fRd C) (U_Reader_sees : UseM P w K mg base CX0 C "sees" 2 P_Reader_sees (spSees K C)) (U_Reader_take : UseM P w K mg base CX0 C "take" 1 P_Reader_take (spTake K C))
    (U_minus : Use P w K mg base (L2.CX P w) "_minus" (kc + 6) P_minus (spP K C CF (minusM ch))) : FnG P w K mg base (L2.CX P w) (kc + 7) f fd P_term (spP K C CF (termM ch)) := by
  refine okG F sc_term (fun vs H Q E h => ?_) fun cdv A outer s H vs Q E hr hg h => ?_
  · obtain ⟨ra, tl, ts, rfl, _⟩ := h
    rfl
  · obtain ⟨ra, tl, ts, rfl, R, k⟩ := h
    refine ⟨_, (pss_cons (ps_set (i := 1) sc_term.nd rfl (Or.inl rfl) (pe_useR U_minus (takes_of rfl rfl rfl rfl) (hr.mono (by omega)) hg rfl (pa_cons (pv 0) pa_nil)))
  (pss_cons (ps_while (passes_of rfl) (pt_up (PW.pt (pw_or (pt_val (pe_mc UC_Reader U_Reader_sees pass0 (hr.mono (by omega)) hg (pv 0) (pa_cons pe_str pa_nil))) (pw_or (pt_val (pe_mc UC_Reader U_Reader_sees pass0 (hr.mono (by omega)) hg (pv 0) (pa_cons pe_str pa_nil))) (pw_or1 (pt_val (pe_mc UC_Reader U_Reader_sees pass0 (hr.mono (by omega)) hg (pv 0) (pa_cons pe_str pa_nil))))))))
   (pss_cons (ps_set (i := 2) sc_term.nd rfl (Or.inl rfl) (pe_mc0 UC_Reader U_Reader_take pass0 (hr.mono (by omega)) hg (pv 0)))
  (pss_one (ps_set (i := 1) sc_term.nd rfl (Or.inl rfl) (pe_tup (pa_cons pe_str (pa_cons (pv 2) (pa_cons (pv 1) (pa_cons (pe_useR U_minus (takes_of rfl rfl rfl rfl) (hr.mono (by omega)) hg rfl (pa_cons (pv 0) pa_nil)) pa_nil)))))))))
  (pss_one (ps_ret (pv 1))))), ?_⟩
    unfold termM at k
    refine ⟨_, rfl, ra, tl, ts, rfl, R, k.bind.mono (fun d ts1 k v H1 R1 kp1 dv => ?_) fun _ _ h => h⟩
    refine while_upN (fun m σ H4 => ∃ (v : V) (t : PyData) (x2 : Option V) (ts3 : List Tk), σ = [some (.ref ra), some v, x2] ∧ RdAt K C tl ts3 ra H4 ∧ Keep ra H H4 ∧ Dt K H4 v t ∧ Out (opLoop ["*", "//", "mod"] (minusM ch) m t ts3) (OkP K C tl ra (fun d => d) H Q) (FlP CF ra H E))
      ⟨_, v, d, none, ts1, rfl, R1, kp1, dv, k⟩ ?_
    clear dv kp1 R1
    rintro m σ H3 ⟨v, t, x2, ts3, rfl, R3, kp3, dv, k⟩
    cases m with
    | zero => exact k.elim
    | succ m =>
      obtain ⟨tk, r, rfl, k⟩ := Out.peek' k
      refine rd_or3 R3 rfl fun H4 S4 => ?_
      have R4 := R3.same S4
      have kp4 := kp3.trans (LK.Same.keep S4)
      have dv4 := dv.mono S4
      refine ite3 (fun c => ?_) fun c => ?_
      · have k := (k.yes c).take
        refine rd_take R4 rfl fun v5 H5 R5 kp5 dv5 => ?_
        have dv45 := dv4.keepT (R4.keepT kp5)
        have kp5 := kp4.trans kp5
        refine ⟨_, rfl, _, rfl, _, rfl, ra, tl, r, rfl, R5, k.bind.mono (fun u ts6 k v6 H6 R6 kp6 dv6 => ?_) fun _ _ => FlP.keep kp5⟩
        refine ⟨sz_4, fun q hq => ?_⟩
        have Sq := Same.new (o := .tup [V.str "bin", v5, v, v6]) hq
        exact ⟨m, Nat.lt_succ_self _, _, _, _, ts6, rfl, R6.same Sq, (kp5.trans kp6).trans (LK.Same.keep Sq), Dt.made hq (.cons (.str _) (.cons (dv5.keepT (R5.keepT kp6)) (.cons (dv45.keepT (R5.keepT kp6)) (.cons dv6 .nil)))), k⟩
      · exact ⟨_, rfl, (k.no c) _ _ R4 kp4 dv4⟩
theorem ok_sum {kc : Nat} (hk : 5 ≤ kc) {ch : PM PyData} {f : Addr} {fd : FuncData} (F : Fun K "_sum" "_sum" s_sum f fd) (T : Txt K mg) (UC_Reader : UseC K mg "Reader" fRd C) (U_Reader_sees : UseM P w K mg base CX0 C "sees" 2 P_Reader_sees (spSees K C)) (U_Reader_take : UseM P w K mg base CX0 C "take" 1 P_Reader_take (spTake K C))
    (U_term : Use P w K mg base (L2.CX P w) "_term" (kc + 7) P_term (spP K C CF (termM ch))) : FnG P w K mg base (L2.CX P w) (kc + 8) f fd P_sum (spP K C CF (sumM ch)) := by
  refine okG F sc_sum (fun vs H Q E h => ?_) fun cdv A outer s H vs Q E hr hg h => ?_
  · obtain ⟨ra, tl, ts, rfl, _⟩ := h
    rfl
  · obtain ⟨ra, tl, ts, rfl, R, k⟩ := h
    refine ⟨_, (pss_cons (ps_set (i := 1) sc_sum.nd rfl (Or.inl rfl) (pe_useR U_term (takes_of rfl rfl rfl rfl) (hr.mono (by omega)) hg rfl (pa_cons (pv 0) pa_nil)))
  (pss_cons (ps_while (passes_of rfl) (pt_up (PW.pt (pw_or (pt_val (pe_mc UC_Reader U_Reader_sees pass0 (hr.mono (by omega)) hg (pv 0) (pa_cons pe_str pa_nil))) (pw_or1 (pt_val (pe_mc UC_Reader U_Reader_sees pass0 (hr.mono (by omega)) hg (pv 0) (pa_cons pe_str pa_nil)))))))
   (pss_cons (ps_set (i := 2) sc_sum.nd rfl (Or.inl rfl) (pe_mc0 UC_Reader U_Reader_take pass0 (hr.mono (by omega)) hg (pv 0)))
  (pss_one (ps_set (i := 1) sc_sum.nd rfl (Or.inl rfl) (pe_tup (pa_cons pe_str (pa_cons (pv 2) (pa_cons (pv 1) (pa_cons (pe_useR U_term (takes_of rfl rfl rfl rfl) (hr.mono (by omega)) hg rfl (pa_cons (pv 0) pa_nil)) pa_nil)))))))))
  (pss_one (ps_ret (pv 1))))), ?_⟩
    unfold sumM at k
    refine ⟨_, rfl, ra, tl, ts, rfl, R, k.bind.mono (fun d ts1 k v H1 R1 kp1 dv => ?_) fun _ _ h => h⟩
    refine while_upN (fun m σ H4 => ∃ (v : V) (t : PyData) (x2 : Option V) (ts3 : List Tk), σ = [some (.ref ra), some v, x2] ∧ RdAt K C tl ts3 ra H4 ∧ Keep ra H H4 ∧ Dt K H4 v t ∧ Out (opLoop ["+", "-"] (termM ch) m t ts3) (OkP K C tl ra (fun d => d) H Q) (FlP CF ra H E))
      ⟨_, v, d, none, ts1, rfl, R1, kp1, dv, k⟩ ?_
    clear dv kp1 R1
    rintro m σ H3 ⟨v, t, x2, ts3, rfl, R3, kp3, dv, k⟩
    cases m with
    | zero => exact k.elim
    | succ m =>
      obtain ⟨tk, r, rfl, k⟩ := Out.peek' k
      refine rd_or2 R3 rfl fun H4 S4 => ?_
      have R4 := R3.same S4
      have kp4 := kp3.trans (LK.Same.keep S4)
      have dv4 := dv.mono S4
      refine ite3 (fun c => ?_) fun c => ?_
      · have k := (k.yes c).take
        refine rd_take R4 rfl fun v5 H5 R5 kp5 dv5 => ?_
        have dv45 := dv4.keepT (R4.keepT kp5)
        have kp5 := kp4.trans kp5
        refine ⟨_, rfl, _, rfl, _, rfl, ra, tl, r, rfl, R5, k.bind.mono (fun u ts6 k v6 H6 R6 kp6 dv6 => ?_) fun _ _ => FlP.keep kp5⟩
        refine ⟨sz_4, fun q hq => ?_⟩
        have Sq := Same.new (o := .tup [V.str "bin", v5, v, v6]) hq
        exact ⟨m, Nat.lt_succ_self _, _, _, _, ts6, rfl, R6.same Sq, (kp5.trans kp6).trans (LK.Same.keep Sq), Dt.made hq (.cons (.str _) (.cons (dv5.keepT (R5.keepT kp6)) (.cons (dv45.keepT (R5.keepT kp6)) (.cons dv6 .nil)))), k⟩
      · exact ⟨_, rfl, (k.no c) _ _ R4 kp4 dv4⟩
theorem ok_comparing {f : Addr} {fd : FuncData} (F : Fun K "_comparing" "_comparing" s_comparing f fd) (T : Txt K mg) (UC_Reader : UseC K mg "Reader" fRd C) (U_Reader_skip : UseM P w K mg base CX0 C "skip" 3 P_Reader_skip (spSkip K C)) (U_Reader_need : UseM P w K mg base (L2.CX P w) C "need" 4 P_Reader_need (spNeed K C CF)) : FnG P w K mg base (L2.CX P w) 5 f fd P_comparing (spPf K C CF comparingM PyData.str) := by
  refine okG F sc_comparing (fun vs H Q E h => ?_) fun cdv A outer s H vs Q E hr hg h => ?_
  · obtain ⟨ra, tl, ts, rfl, _⟩ := h
    rfl
  · obtain ⟨ra, tl, ts, rfl, R, k⟩ := h
    refine ⟨_, (pss_cons (ps_for (passes_of rfl) rfl (pi_tup (pe_globT T.c_COMPARISONS (by rfl))) (pg_name (i := 1) sc_comparing.nd rfl (Or.inl rfl))
   (pss_one (ps_if (pt_val (pe_mc UC_Reader U_Reader_skip pass0 (hr.mono (by decide)) hg (pv 0) (pa_cons (pv 1) pa_nil)))
   (pss_one (ps_ret (pv 1)))
   pss_nil)))
  (pss_cons (ps_if (pt_val (pe_mc UC_Reader U_Reader_skip pass0 (hr.mono (by decide)) hg (pv 0) (pa_cons pe_str pa_nil)))
   (pss_cons (ps_expr (pe_mc UC_Reader U_Reader_need (passes_call (takes_of rfl rfl rfl rfl) fun _ _ _ _ h => h) (hr.mono (by decide)) hg (pv 0) (pa_cons pe_str pa_nil)))
  (pss_one (ps_ret pe_str)))
   pss_nil)
  (pss_cons (ps_if (pt_val (pe_mc UC_Reader U_Reader_skip pass0 (hr.mono (by decide)) hg (pv 0) (pa_cons pe_str pa_nil)))
   (pss_one (ps_ret (pe_ifExp (pt_val (pe_mc UC_Reader U_Reader_skip pass0 (hr.mono (by decide)) hg (pv 0) (pa_cons pe_str pa_nil))) pe_str pe_str)))
   pss_nil)
  (pss_one (ps_ret pe_str))))), ?_⟩
    unfold comparingM at k
    refine fun ac kc => ⟨ac, rfl, ⟨_, kc.sq _⟩, ?_⟩
    refine for_it (walk_tup (xs := cmps.map V.str)) (fun i σ H2 => ∃ (x1 : Option V) (ts2 : List Tk), σ = [some (.ref ra), x1] ∧ RdAt K C tl ts2 ra H2 ∧ Keep ra H H2 ∧ Out (cmpL (cmps.drop i) ts2) (OkP K C tl ra PyData.str H Q) (FlP CF ra H E)) ⟨none, _, rfl, R, Keep.refl _ _, k⟩ (fun _ _ _ _ _ => kc.sq _) ?_ ?_
    · rintro i x σ H2 H3 hi ⟨x2, ts2, rfl, R2, kp2, k⟩ ⟨rfl, hx⟩
      rw [List.getElem?_map] at hx
      obtain ⟨z, hz, rfl⟩ := Option.map_eq_some_iff.mp hx
      have hil : i < cmps.length := (List.getElem?_eq_some_iff.mp hz).1
      have ed : cmps.drop i = z :: cmps.drop (i + 1) := by
        rw [List.drop_eq_getElem_cons hil]
        rw [List.getElem?_eq_getElem hil] at hz
        rw [Option.some.inj hz]
      rw [ed] at k
      refine rd_skipV R2 rfl rfl ((Out.skip k).mono (fun b ts3 k H4 R4 kp4 => ?_) fun _ _ h => h)
      refine ⟨_, rfl, ?_⟩
      cases b with
      | true => exact iteTb rfl ⟨_, rfl, (k.yes rfl) _ _ R4 (kp2.trans kp4) (.str _)⟩
      | false => exact iteFb rfl ⟨_, ts3, rfl, R4, kp2.trans kp4, k.no rfl⟩
    rintro σ H2 ⟨x2, ts2, rfl, R2, kp2, k⟩
    have k : Out (cmpL [] ts2) (OkP K C tl ra PyData.str H Q) (FlP CF ra H E) := by
      rw [List.length_map, List.drop_length] at k
      exact k
    refine rd_skip R2 rfl ((Out.skip k).mono (fun b ts3 k H3 R3 kp3 => ?_) fun _ _ h => h)
    have kp3 := kp2.trans kp3
    refine ⟨_, rfl, ?_⟩
    cases b with
    | true =>
      refine iteTb rfl ?_
      refine rd_need R3 rfl ((k.yes rfl).bind.mono (fun _ ts4 k H4 R4 kp4 => ?_) fun _ _ => FlP.keep kp3)
      exact k _ _ R4 (kp3.trans kp4) (.str _)
    | false =>
      refine iteFb rfl ?_
      refine rd_skip R3 rfl ((Out.skip (k.no rfl)).mono (fun b ts4 k H4 R4 kp4 => ?_) fun _ _ h => h)
      have kp4 := kp3.trans kp4
      refine ⟨_, rfl, ?_⟩
      cases b with
      | true =>
        refine iteTb rfl ?_
        refine rd_skip R4 rfl ((Out.skip (k.yes rfl)).mono (fun b ts5 k H5 R5 kp5 => ?_) fun _ _ h => h)
        have kp5 := kp4.trans kp5
        refine ⟨_, rfl, ?_⟩
        cases b with
        | true => exact iteTb rfl (k _ _ R5 kp5 (.str _))
        | false => exact iteFb rfl (k _ _ R5 kp5 (.str _))
      | false => exact iteFb rfl ((k.no rfl) _ _ R4 kp4 (.str _))
theorem ok_comparison {kc : Nat} (hk : 5 ≤ kc) {ch : PM PyData} {f : Addr} {fd : FuncData} (F : Fun K "_comparison" "_comparison" s_comparison f fd) (T : Txt K mg) (UC_Reader : UseC K mg "Reader" fRd C) (U_sum : Use P w K mg base (L2.CX P w) "_sum" (kc + 8) P_sum (spP K C CF (sumM ch))) (U_comparing : Use P w K mg base (L2.CX P w) "_comparing" 5 P_comparing (spPf K C CF comparingM PyData.str)) :
    FnG P w K mg base (L2.CX P w) (kc + 9) f fd P_comparison (spP K C CF (comparisonM ch)) := by
  refine okG F sc_comparison (fun vs H Q E h => ?_) fun cdv A outer s H vs Q E hr hg h => ?_
  · obtain ⟨ra, tl, ts, rfl, _⟩ := h
    rfl
  · obtain ⟨ra, tl, ts, rfl, R, k⟩ := h
    refine ⟨_, (pss_cons (ps_set (i := 1) sc_comparison.nd rfl (Or.inl rfl) (pe_useR U_sum (takes_of rfl rfl rfl rfl) (hr.mono (by omega)) hg rfl (pa_cons (pv 0) pa_nil)))
  (pss_cons (ps_set (i := 2) sc_comparison.nd rfl (Or.inl rfl) (pe_lst pa_nil))
  (pss_cons (ps_set (i := 3) sc_comparison.nd rfl (Or.inl rfl) (pe_useR U_comparing (takes_of rfl rfl rfl rfl) (hr.mono (by omega)) hg rfl (pa_cons (pv 0) pa_nil)))
  (pss_cons (ps_while (passes_of rfl) (pt_up (pt_cmpR op_ne (pv 3) pe_str (nomark _)))
   (pss_cons (ps_expr (pe_bm PySem.F.plainAttrs_list PySem.F.slot_list_append PySem.F.type_list_append mt_append (pv 2) (pa_cons (pe_tup (pa_cons (pv 3) (pa_cons (pe_useR U_sum (takes_of rfl rfl rfl rfl) (hr.mono (by omega)) hg rfl (pa_cons (pv 0) pa_nil)) pa_nil))) pa_nil)))
  (pss_one (ps_set (i := 3) sc_comparison.nd rfl (Or.inl rfl) (pe_useR U_comparing (takes_of rfl rfl rfl rfl) (hr.mono (by omega)) hg rfl (pa_cons (pv 0) pa_nil))))))
  (pss_cons (ps_if (pt_not (pt_truth (pv 2) (by intro _; rfl)))
   (pss_one (ps_ret (pv 1)))
   pss_nil)
  (pss_one (ps_ret (pe_tup (pa_cons pe_str (pa_cons (pv 1) (pa_cons (pe_callTy call_tuple_of (by rfl) T.b_tuple (by decide +kernel) (pa_cons (pv 2) pa_nil)) pa_nil))))))))))), ?_⟩
    unfold comparisonM at k
    refine ⟨_, rfl, ra, tl, ts, rfl, R, k.bind.mono (fun d ts1 k v H1 R1 kp1 dv => ?_) fun _ _ h => h⟩
    refine ⟨sz_0, fun ml hml => ?_⟩
    obtain ⟨n1, n2⟩ := R1.ne hml
    have h0 := keep_none kp1 hml n1
    have S1 := Same.new (o := .lst []) hml
    have R2 := R1.same S1
    have L2 : ListAt K (upd H1 ml (.lst [])) ml [] := ⟨_, upd_same, .nil⟩
    have kp2 := kp1.trans (LK.Same.keep S1)
    have dv2 := dv.mono S1
    generalize upd H1 ml (.lst []) = H2 at R2 L2 kp2 dv2
    refine ⟨_, rfl, ra, tl, ts1, rfl, R2, k.bind.mono (fun op ts3 k v3 H3 R3 kp3 dv3 => ?_) fun _ _ => FlP.keep kp2⟩
    obtain rfl := dv3.str_inv
    have L3 := lsKp L2 R2 kp3 n1
    have dv3 := dv2.keepT (R2.keepT kp3)
    have kp3 := kp2.trans kp3
    have k := k.bind
    have hl3 := R3.len
    refine while_upN (fun m σ H4 => ∃ (ps : List PyData) (op : Str) (ts4 : List Tk), σ = [some (.ref ra), some v, some (.ref ml), some (.str op)] ∧ RdAt K C tl ts4 ra H4 ∧ Keep ra H H4 ∧ Dt K H4 v d ∧ ListAt K H4 ml ps ∧ m + ps.length ≤ 90010 ∧
        Out (cmpLoop (sumM ch) m ps op ts4) (fun ps r => Out ((if ps.isEmpty = true then .ret d else .ret (tg2 "compare" d (.tuple ps)) : PM PyData) r) (OkP K C tl ra (fun d => d) H Q) (FlP CF ra H E)) (FlP CF ra H E))
      ⟨_, [], op, ts3, rfl, R3, kp3, dv3, L3, by simp; omega, k⟩ ?_
    clear dv dv2 dv3 L3 L2 R3 R2 kp2
    rintro m σ H4 ⟨ps, op, ts4, rfl, R4, kp4, dv4, L4, hm, k⟩
    cases m with
    | zero => exact k.elim
    | succ m =>
      refine ⟨_, rfl, rfl, _, rfl, ?_⟩
      refine ite3 (fun c => ?_) fun c => ?_
      · have k := k.yes c
        obtain ⟨xs, e4, a4⟩ := id L4
        refine ⟨_, rfl, .inl ⟨rfl, _, SqL.of e4⟩, _, rfl, _, rfl, ra, tl, ts4, rfl, R4, k.bind.mono (fun u ts5 k v5 H5 R5 kp5 dv5 => ?_) fun _ _ => FlP.keep kp4⟩
        have L5 := lsKp L4 R4 kp5 n1
        have dv45 := dv4.keepT (R4.keepT kp5)
        have kp5 := kp4.trans kp5
        refine ⟨sz_2, fun q hq => ?_⟩
        have Sq := Same.new (o := .tup [V.str op, v5]) hq
        have dq := Dt.made (K := K) hq (.cons (.str op) (.cons dv5 .nil))
        obtain ⟨xs5, e5, l5, a5⟩ := ls_lt (listAt_mono L5 Sq) (by omega)
        refine ⟨ml, xs5, _, rfl, rfl, e5, l5, ?_⟩
        have R6 := (R5.same Sq).upd (xs := xs5 ++ [.ref q]) e5 n1 n2
        have kp6 := keepN (o := .lst (xs5 ++ [.ref q])) (kp5.trans (LK.Same.keep Sq)) h0
        have L6 := listAt_app (listAt_mono L5 Sq) e5 dq
        have dv6 := (dv45.mono Sq).keepT (KeepT.upd (o := .lst (xs5 ++ [.ref q])) e5)
        generalize upd (upd H5 q (.tup [V.str op, v5])) ml (.lst (xs5 ++ [.ref q])) = H6 at R6 kp6 L6 dv6
        refine ⟨_, rfl, ra, tl, ts5, rfl, R6, k.bind.mono (fun op7 ts7 k v7 H7 R7 kp7 dv7 => ?_) fun _ _ => FlP.keep kp6⟩
        obtain rfl := dv7.str_inv
        exact ⟨m, Nat.lt_succ_self _, ps ++ [.tuple [.str op, u]], op7, ts7, rfl, R7, kp6.trans kp7, dv6.keepT (R6.keepT kp7), lsKp L6 R6 kp7 n1, by simp; omega, k⟩
      · have k : Out (_ : Res PyData) _ _ := k.no c
        obtain ⟨xs, e4, a4⟩ := id L4
        have lx := a4.length
        refine ⟨_, rfl, !xs.isEmpty, .inl ⟨xs, SqL.of e4, rfl⟩, ?_⟩
        have hy : xs.isEmpty = ps.isEmpty := by cases xs <;> cases ps <;> simp at lx <;> rfl
        rw [hy]
        cases c2 : ps.isEmpty with
        | true => exact iteTb rfl ⟨_, rfl, (k.yes c2) _ _ R4 kp4 dv4⟩
        | false =>
          refine iteFb rfl ?_
          refine ⟨_, rfl, _, rfl, ml, xs, rfl, .inl ⟨SqL.of e4, fun u hu => ⟨sz_3, fun q hq => ?_⟩⟩⟩
          exact okTup (k.no c2) (R4.same (Same.new hu)) (kp4.trans (LK.Same.keep (Same.new hu))) hq (.cons (.str _) (.cons (dv4.mono (Same.new hu)) (.cons (Dt.made hu a4) .nil))) rfl
theorem ok_negation {kc : Nat} (hk : 5 ≤ kc) {ch : PM PyData} {f : Addr} {fd : FuncData} (F : Fun K "_negation" "_negation" s_negation f fd) (T : Txt K mg) (UC_Reader : UseC K mg "Reader" fRd C) (U_Reader_skip : UseM P w K mg base CX0 C "skip" 3 P_Reader_skip (spSkip K C))
    (U_comparison : Use P w K mg base (L2.CX P w) "_comparison" (kc + 9) P_comparison (spP K C CF (comparisonM ch))) : FnG P w K mg base (L2.CX P w) (kc + 10) f fd P_negation (spP K C CF (negationM ch)) := by
  refine okG F sc_negation (fun vs H Q E h => ?_) fun cdv A outer s H vs Q E hr hg h => ?_
  · obtain ⟨ra, tl, ts, rfl, _⟩ := h
    rfl
  · obtain ⟨ra, tl, ts, rfl, R, k⟩ := h
    refine ⟨_, (pss_cons (ps_if (pt_val (pe_mc UC_Reader U_Reader_skip pass0 (hr.mono (by omega)) hg (pv 0) (pa_cons pe_str pa_nil)))
   (pss_one (ps_ret (pe_tup (pa_cons pe_str (pa_cons (pe_useR U_comparison (takes_of rfl rfl rfl rfl) (hr.mono (by omega)) hg rfl (pa_cons (pv 0) pa_nil)) pa_nil)))))
   pss_nil)
  (pss_one (ps_ret (pe_useR U_comparison (takes_of rfl rfl rfl rfl) (hr.mono (by omega)) hg rfl (pa_cons (pv 0) pa_nil))))), ?_⟩
    unfold negationM at k
    refine rd_skip R rfl ((Out.skip k).mono (fun b ts1 k H1 R1 kp1 => ?_) fun _ _ h => h)
    refine ⟨_, rfl, ?_⟩
    cases b with
    | true =>
      refine iteTb rfl ?_
      refine ⟨_, rfl, ra, tl, ts1, rfl, R1, (k.yes rfl).bind.mono (fun d ts2 k v H2 R2 kp2 dv => ?_) fun _ _ => FlP.keep kp1⟩
      exact ⟨sz_2, fun q hq => okTup k R2 (kp1.trans kp2) hq (.cons (.str _) (.cons dv .nil)) rfl⟩
    | false => exact iteFb rfl ⟨_, rfl, ra, tl, ts1, rfl, R1, (k.no rfl).mono (fun _ _ => OkP.keep kp1) fun _ _ => FlP.keep kp1⟩
theorem ok_both {kc : Nat} (hk : 5 ≤ kc) {ch : PM PyData} {f : Addr} {fd : FuncData} (F : Fun K "_both" "_both" s_both f fd) (T : Txt K mg) (UC_Reader : UseC K mg "Reader" fRd C) (U_Reader_skip : UseM P w K mg base CX0 C "skip" 3 P_Reader_skip (spSkip K C))
    (U_negation : Use P w K mg base (L2.CX P w) "_negation" (kc + 10) P_negation (spP K C CF (negationM ch))) : FnG P w K mg base (L2.CX P w) (kc + 11) f fd P_both (spP K C CF (bothM ch)) := by
  refine okG F sc_both (fun vs H Q E h => ?_) fun cdv A outer s H vs Q E hr hg h => ?_
  · obtain ⟨ra, tl, ts, rfl, _⟩ := h
    rfl
  · obtain ⟨ra, tl, ts, rfl, R, k⟩ := h
    refine ⟨_, (pss_cons (ps_set (i := 1) sc_both.nd rfl (Or.inl rfl) (pe_useR U_negation (takes_of rfl rfl rfl rfl) (hr.mono (by omega)) hg rfl (pa_cons (pv 0) pa_nil)))
  (pss_cons (ps_while (passes_of rfl) (pt_up (pt_val (pe_mc UC_Reader U_Reader_skip pass0 (hr.mono (by omega)) hg (pv 0) (pa_cons pe_str pa_nil))))
   (pss_one (ps_set (i := 1) sc_both.nd rfl (Or.inl rfl) (pe_tup (pa_cons pe_str (pa_cons (pv 1) (pa_cons (pe_useR U_negation (takes_of rfl rfl rfl rfl) (hr.mono (by omega)) hg rfl (pa_cons (pv 0) pa_nil)) pa_nil)))))))
  (pss_one (ps_ret (pv 1))))), ?_⟩
    unfold bothM at k
    refine ⟨_, rfl, ra, tl, ts, rfl, R, k.bind.mono (fun d ts1 k v H1 R1 kp1 dv => ?_) fun _ _ h => h⟩
    refine while_upN (fun m σ H4 => ∃ (v : V) (t : PyData) (ts3 : List Tk), σ = [some (.ref ra), some v] ∧ RdAt K C tl ts3 ra H4 ∧ Keep ra H H4 ∧ Dt K H4 v t ∧ Out (boolLoop "and" (negationM ch) m t ts3) (OkP K C tl ra (fun d => d) H Q) (FlP CF ra H E))
      ⟨_, v, d, ts1, rfl, R1, kp1, dv, k⟩ ?_
    clear dv kp1 R1
    rintro m σ H3 ⟨v, t, ts3, rfl, R3, kp3, dv, k⟩
    cases m with
    | zero => exact k.elim
    | succ m =>
      refine rd_skip R3 rfl ((Out.skip k).mono (fun b ts4 k H4 R4 kp4 => ?_) fun _ _ h => h)
      have dv4 := dv.keepT (R3.keepT kp4)
      have kp4 := kp3.trans kp4
      refine ⟨_, rfl, ?_⟩
      cases b with
      | true =>
        refine iteTb rfl ?_
        refine ⟨_, rfl, _, rfl, ra, tl, ts4, rfl, R4, (k.yes rfl).bind.mono (fun u ts6 k v6 H6 R6 kp6 dv6 => ?_) fun _ _ => FlP.keep kp4⟩
        refine ⟨sz_3, fun q hq => ?_⟩
        have Sq := Same.new (o := .tup [V.str "and", v, v6]) hq
        exact ⟨m, Nat.lt_succ_self _, _, _, ts6, rfl, R6.same Sq, (kp4.trans kp6).trans (LK.Same.keep Sq), Dt.made hq (.cons (.str _) (.cons (dv4.keepT (R4.keepT kp6)) (.cons dv6 .nil))), k⟩
      | false => exact iteFb rfl ⟨_, rfl, (k.no rfl) _ _ R4 kp4 dv4⟩
theorem ok_either {kc : Nat} (hk : 5 ≤ kc) {ch : PM PyData} {f : Addr} {fd : FuncData} (F : Fun K "_either" "_either" s_either f fd) (T : Txt K mg) (UC_Reader : UseC K mg "Reader" fRd C) (U_Reader_skip : UseM P w K mg base CX0 C "skip" 3 P_Reader_skip (spSkip K C))
    (U_both : Use P w K mg base (L2.CX P w) "_both" (kc + 11) P_both (spP K C CF (bothM ch))) : FnG P w K mg base (L2.CX P w) (kc + 12) f fd P_either (spP K C CF (eitherM ch)) := by
  refine okG F sc_either (fun vs H Q E h => ?_) fun cdv A outer s H vs Q E hr hg h => ?_
  · obtain ⟨ra, tl, ts, rfl, _⟩ := h
    rfl
  · obtain ⟨ra, tl, ts, rfl, R, k⟩ := h
    refine ⟨_, (pss_cons (ps_set (i := 1) sc_either.nd rfl (Or.inl rfl) (pe_useR U_both (takes_of rfl rfl rfl rfl) (hr.mono (by omega)) hg rfl (pa_cons (pv 0) pa_nil)))
  (pss_cons (ps_while (passes_of rfl) (pt_up (pt_val (pe_mc UC_Reader U_Reader_skip pass0 (hr.mono (by omega)) hg (pv 0) (pa_cons pe_str pa_nil))))
   (pss_one (ps_set (i := 1) sc_either.nd rfl (Or.inl rfl) (pe_tup (pa_cons pe_str (pa_cons (pv 1) (pa_cons (pe_useR U_both (takes_of rfl rfl rfl rfl) (hr.mono (by omega)) hg rfl (pa_cons (pv 0) pa_nil)) pa_nil)))))))
  (pss_one (ps_ret (pv 1))))), ?_⟩
    unfold eitherM at k
    refine ⟨_, rfl, ra, tl, ts, rfl, R, k.bind.mono (fun d ts1 k v H1 R1 kp1 dv => ?_) fun _ _ h => h⟩
    refine while_upN (fun m σ H4 => ∃ (v : V) (t : PyData) (ts3 : List Tk), σ = [some (.ref ra), some v] ∧ RdAt K C tl ts3 ra H4 ∧ Keep ra H H4 ∧ Dt K H4 v t ∧ Out (boolLoop "or" (bothM ch) m t ts3) (OkP K C tl ra (fun d => d) H Q) (FlP CF ra H E))
      ⟨_, v, d, ts1, rfl, R1, kp1, dv, k⟩ ?_
    clear dv kp1 R1
    rintro m σ H3 ⟨v, t, ts3, rfl, R3, kp3, dv, k⟩
    cases m with
    | zero => exact k.elim
    | succ m =>
      refine rd_skip R3 rfl ((Out.skip k).mono (fun b ts4 k H4 R4 kp4 => ?_) fun _ _ h => h)
      have dv4 := dv.keepT (R3.keepT kp4)
      have kp4 := kp3.trans kp4
      refine ⟨_, rfl, ?_⟩
      cases b with
      | true =>
        refine iteTb rfl ?_
        refine ⟨_, rfl, _, rfl, ra, tl, ts4, rfl, R4, (k.yes rfl).bind.mono (fun u ts6 k v6 H6 R6 kp6 dv6 => ?_) fun _ _ => FlP.keep kp4⟩
        refine ⟨sz_3, fun q hq => ?_⟩
        have Sq := Same.new (o := .tup [V.str "or", v, v6]) hq
        exact ⟨m, Nat.lt_succ_self _, _, _, ts6, rfl, R6.same Sq, (kp4.trans kp6).trans (LK.Same.keep Sq), Dt.made hq (.cons (.str _) (.cons (dv4.keepT (R4.keepT kp6)) (.cons dv6 .nil))), k⟩
      | false => exact iteFb rfl ⟨_, rfl, (k.no rfl) _ _ R4 kp4 dv4⟩
theorem ok_choice {kc : Nat} (hk : 5 ≤ kc) {ch : PM PyData} {f : Addr} {fd : FuncData} (F : Fun K "choice" "choice" s_choice f fd) (T : Txt K mg) (UC_Reader : UseC K mg "Reader" fRd C) (U_Reader_skip : UseM P w K mg base CX0 C "skip" 3 P_Reader_skip (spSkip K C)) (U_Reader_need : UseM P w K mg base (L2.CX P w) C "need" 4 P_Reader_need (spNeed K C CF))
    (U_either : Use P w K mg base (L2.CX P w) "_either" (kc + 12) P_either (spP K C CF (eitherM ch))) : FnG P w K mg base (L2.CX P w) (kc + 13) f fd P_choice (spP K C CF (choiceF ch)) := by
  refine okG F sc_choice (fun vs H Q E h => ?_) fun cdv A outer s H vs Q E hr hg h => ?_
  · obtain ⟨ra, tl, ts, rfl, _⟩ := h
    rfl
  · obtain ⟨ra, tl, ts, rfl, R, k⟩ := h
    refine ⟨_, (pss_cons (ps_set (i := 1) sc_choice.nd rfl (Or.inl rfl) (pe_useR U_either (takes_of rfl rfl rfl rfl) (hr.mono (by omega)) hg rfl (pa_cons (pv 0) pa_nil)))
  (pss_cons (ps_if (pt_not (pt_val (pe_mc UC_Reader U_Reader_skip pass0 (hr.mono (by omega)) hg (pv 0) (pa_cons pe_str pa_nil))))
   (pss_one (ps_ret (pv 1)))
   pss_nil)
  (pss_cons (ps_set (i := 2) sc_choice.nd rfl (Or.inl rfl) (pe_useR U_either (takes_of rfl rfl rfl rfl) (hr.mono (by omega)) hg rfl (pa_cons (pv 0) pa_nil)))
  (pss_cons (ps_expr (pe_mc UC_Reader U_Reader_need (passes_call (takes_of rfl rfl rfl rfl) fun _ _ _ _ h => h) (hr.mono (by omega)) hg (pv 0) (pa_cons pe_str pa_nil)))
  (pss_one (ps_ret (pe_tup (pa_cons pe_str (pa_cons (pv 2) (pa_cons (pv 1) (pa_cons (pe_useR U_either (takes_of rfl rfl rfl rfl) (hr.mono (by omega)) hg rfl (pa_cons (pv 0) pa_nil)) pa_nil))))))))))), ?_⟩
    unfold choiceF at k
    refine ⟨_, rfl, ra, tl, ts, rfl, R, k.bind.mono (fun d ts1 k v H1 R1 kp1 dv => ?_) fun _ _ h => h⟩
    refine rd_skip R1 rfl ((Out.skip k).mono (fun b ts2 k H2 R2 kp2 => ?_) fun _ _ h => h)
    have dv2 := dv.keepT (R1.keepT kp2)
    have kp2 := kp1.trans kp2
    refine ⟨_, rfl, ?_⟩
    cases b with
    | false => exact iteTb rfl ⟨_, rfl, (k.no rfl) _ _ R2 kp2 dv2⟩
    | true =>
      refine iteFb rfl ?_
      refine ⟨_, rfl, ra, tl, ts2, rfl, R2, (k.yes rfl).bind.mono (fun d3 ts3 k v3 H3 R3 kp3 dv3 => ?_) fun _ _ => FlP.keep kp2⟩
      have dv23 := dv2.keepT (R2.keepT kp3)
      have kp3 := kp2.trans kp3
      refine rd_need R3 rfl (k.bind.mono (fun _ ts4 k H4 R4 kp4 => ?_) fun _ _ => FlP.keep kp3)
      have dv24 := dv23.keepT (R3.keepT kp4)
      have dv34 := dv3.keepT (R3.keepT kp4)
      have kp4 := kp3.trans kp4
      refine ⟨_, rfl, _, rfl, _, rfl, ra, tl, ts4, rfl, R4, k.bind.mono (fun d5 ts5 k v5 H5 R5 kp5 dv5 => ?_) fun _ _ => FlP.keep kp4⟩
      exact ⟨sz_4, fun q hq => okTup k R5 (kp4.trans kp5) hq (.cons (.str _) (.cons (dv34.keepT (R4.keepT kp5)) (.cons (dv24.keepT (R4.keepT kp5)) (.cons dv5 .nil)))) rfl⟩
end

section
--SPLIT
end
section
/-! the bounds of trees -/
def secondsD : List PyData → Option (List PyData)
  | [] => some []
  | .tuple [_, b] :: r => (secondsD r).map (b :: ·)
  | _ => none
def pairsD : List PyData → Option (List PyData)
  | [] => some []
  | .tuple [a, b] :: r => (pairsD r).map fun t => a :: b :: t
  | _ => none
def partsK (k : Str) (rest : List PyData) : Option (List PyData) :=
  if inV (V.str k) [V.str "const", V.str "name"] = true then some []
  else if inV (V.str k) [V.str "neg", V.str "not", V.str "attr"] = true then (match rest with | x :: _ => some [x] | _ => none)
  else if inV (V.str k) [V.str "and", V.str "or", V.str "choice", V.str "item", V.str "part"] = true then some rest
  else if decide (V.str k = V.str "bin") = true then (match rest with | _ :: r => some r | _ => none)
  else if inV (V.str k) [V.str "tuple", V.str "list"] = true then (match rest with | .tuple ds :: _ => some ds | _ => none)
  else if decide (V.str k = V.str "dict") = true then (match rest with | .tuple ds :: _ => pairsD ds | _ => none)
  else if decide (V.str k = V.str "compare") = true then (match rest with | x :: .tuple ps :: _ => (secondsD ps).map (x :: ·) | _ => none)
  else (match rest with | x :: .tuple args :: .tuple named :: _ => (secondsD named).map fun s => x :: args ++ s | _ => none)
def partsD : PyData → Option (List PyData)
  | .tuple (.str k :: rest) => partsK k rest
  | _ => none
def widthK (k : Str) (rest : List PyData) : Option Nat :=
  if inV (V.str k) [V.str "tuple", V.str "list", V.str "dict"] = true then (match rest with | .tuple ds :: _ => some ds.length | _ => none)
  else if decide (V.str k = V.str "compare") = true then (match rest with | _ :: .tuple ps :: _ => some ps.length | _ => none)
  else if decide (V.str k = V.str "call") = true then (match rest with | _ :: .tuple args :: .tuple named :: _ => some (args.length + named.length) | _ => none)
  else some 0
def widthD : PyData → Option Nat
  | .tuple (.str k :: rest) => widthK k rest
  | _ => none
mutual
def szD : PyData → Nat
  | .tuple ds => szDs ds + 1
  | .list ds => szDs ds + 1
  | _ => 1
def szDs : List PyData → Nat
  | [] => 0
  | d :: ds => szD d + szDs ds
end
/-- all parts with their depths, the last that waits first -/
def nodesL : Nat → List (PyData × Nat) → List (PyData × Nat) → Option (List (PyData × Nat))
  | _, [], found => some found
  | 0, _ :: _, _ => none
  | n + 1, (d, k) :: rest, found => match partsD d with
    | some cs => nodesL n ((cs.map fun c => (c, k + 1)).reverse ++ rest) (found ++ [(d, k)])
    | none => none
def badNode (p : PyData × Nat) : Option (Option Str) := if 20 < p.2 then some (some "expression too deep") else match widthD p.1 with
  | some n => if 200 < n then some (some "too many parts") else some none
  | none => none
/-- none: not to be told; some none: within the bounds -/
def firstBad : List (PyData × Nat) → Option (Option Str)
  | [] => some none
  | p :: r => match badNode p with
    | some (some z) => some (some z)
    | some none => firstBad r
    | none => none
def boundsD (d : PyData) : Option (Option Str) := if szD d ≤ 1000000 then match nodesL (szD d + 1) [(d, 1)] [] with | some ns => firstBad ns | none => none else none
def boundedM (d : PyData) (line : Int) : PM PyData := fun ts => match boundsD d with
  | some none => .ok d ts
  | some (some z) => .flt line z
  | none => .bad
end

abbrev s_parts : Stmt := top 7
abbrev N_parts : List Str := ["tree", "kind", "pair", "part", "_"]
abbrev P_parts : List Str := ["tree"]
theorem sc_parts : FnScope N_parts P_parts (defScope s_parts) := ⟨rfl, rfl, rfl, by decide +kernel, rfl, by decide +kernel, by decide +kernel⟩
abbrev s_nodes : Stmt := top 8
abbrev N_nodes : List Str := ["tree", "found", "waiting", "part", "depth", "inner"]
abbrev P_nodes : List Str := ["tree"]
theorem sc_nodes : FnScope N_nodes P_nodes (defScope s_nodes) := ⟨rfl, rfl, rfl, by decide +kernel, rfl, by decide +kernel, by decide +kernel⟩
abbrev s_width : Stmt := top 9
abbrev N_width : List Str := ["tree"]
abbrev P_width : List Str := ["tree"]
theorem sc_width : FnScope N_width P_width (defScope s_width) := ⟨rfl, rfl, rfl, by decide +kernel, rfl, by decide +kernel, by decide +kernel⟩
abbrev s_bounded : Stmt := top 10
abbrev N_bounded : List Str := ["tree", "line", "part", "depth"]
abbrev P_bounded : List Str := ["tree", "line"]
theorem sc_bounded : FnScope N_bounded P_bounded (defScope s_bounded) := ⟨rfl, rfl, rfl, by decide +kernel, rfl, by decide +kernel, by decide +kernel⟩
section
variable {P : Program} {w : World} {K : PySem.W.Frag} {mg : Str → Option Value} {base : Heap} {C CF CB tl : Addr}
def rCatTB (K : PySem.W.Frag) : R2 := fun x y H Q => ∃ ds es : List PyData, Dt K H x (.tuple ds) ∧ Dt K H y (.tuple es) ∧ ds.length + es.length ≤ 2000000 ∧ ∀ v H', Same H H' → Dt K H' v (.tuple (ds ++ es)) → Q v H'
theorem op_catTB {X : Cx} : OpR X (binaryOp .Add) (rCatTB X.K) := by
  intro pins s σ H x y v u Q I rx ry h
  obtain ⟨ds, es, dx, dy, hz, q⟩ := h
  obtain ⟨a, xs, rfl, ha, ax⟩ := dx.tuple_inv
  obtain ⟨b, ys, rfl, hb, ay⟩ := dy.tuple_inv
  have lx := ax.length
  have ly := ay.length
  refine op_catA pins s σ H _ _ v u Q I rx ry ⟨a, b, xs, ys, rfl, rfl, ha, hb, by rw [lx, ly]; exact Nat.le_trans hz (by decide), fun e => ?_, fun _ e => ?_, fun _ _ p hp => ?_⟩
  · subst e
    cases ax
    exact q _ _ (Same.refl _) dy
  · subst e
    cases ay
    rw [List.append_nil] at q
    exact q _ _ (Same.refl _) dx
  · exact q _ _ (Same.new hp) (Dt.made hp (DtAll.app ax ay))
theorem slD {H : Hp} {a : Addr} {xs : List V} {ds : List PyData} {n : Nat} {Q : VK} (h : SqT K H a xs) (ax : DtAll K H xs ds) (hn : n ≤ xs.length) (q : ∀ v H', Same H H' → Dt K H' v (.tuple (ds.drop n)) → Q v H') : rSlA K (.ref a) (some (n : Int)) none H Q := by
  have e1 : HT.sIx xs.length 0 (some (n : Int)) = n := by rw [HT.sIx_nat]; omega
  have ad : DtAll K H (xs.drop n) (ds.drop n) := by
    clear e1 h q
    induction n generalizing xs ds with
    | zero => exact ax
    | succ n ih =>
      cases ax with
      | nil => exact .nil
      | cons _ ax => exact ih ax (by simp at hn; omega)
  refine ⟨a, xs, rfl, h, fun ⟨e, _⟩ => ?_, fun _ p hp => ?_⟩
  · rw [e1] at e
    subst e
    exact q _ _ (Same.refl _) (.tup h ax)
  · have ec : cutV xs (some (n : Int)) none = xs.drop n := by
      unfold cutV
      rw [e1]
      show (xs.drop n).take (xs.length - n) = _
      rw [← List.length_drop, List.take_length]
    rw [ec]
    exact q _ _ (Same.new hp) (Dt.made hp ad)
theorem szDs_len : ∀ ds : List PyData, ds.length ≤ szDs ds
  | [] => Nat.le_refl _
  | d :: ds => by
    have := szDs_len ds
    have h1 : 1 ≤ szD d := by cases d <;> simp [szD]
    simp only [szDs, List.length_cons]
    omega
theorem szDs_app (ds es : List PyData) : szDs (ds ++ es) = szDs ds + szDs es := by
  induction ds with
  | nil => simp [szDs]
  | cons d ds ih => simp only [List.cons_append, szDs, ih]; omega
theorem seconds_sz : ∀ {ps ss : List PyData}, secondsD ps = some ss → szDs ss ≤ szDs ps ∧ ss.length = ps.length
  | [], ss, h => by cases h; exact ⟨Nat.le_refl _, rfl⟩
  | p :: r, ss, h => by
    unfold secondsD at h
    split at h
    · rename_i e; cases e
    · rename_i a b r' e
      cases e
      obtain ⟨t, ht, rfl⟩ := Option.map_eq_some_iff.mp h
      obtain ⟨h1, h2⟩ := seconds_sz ht
      simp only [szDs, szD, List.length_cons]
      omega
    · cases h
theorem pairs_sz : ∀ {ps ss : List PyData}, pairsD ps = some ss → szDs ss ≤ szDs ps ∧ ss.length = 2 * ps.length
  | [], ss, h => by cases h; exact ⟨Nat.le_refl _, rfl⟩
  | p :: r, ss, h => by
    unfold pairsD at h
    split at h
    · rename_i e; cases e
    · rename_i a b r' e
      cases e
      obtain ⟨t, ht, rfl⟩ := Option.map_eq_some_iff.mp h
      obtain ⟨h1, h2⟩ := pairs_sz ht
      simp only [szDs, szD, List.length_cons]
      omega
    · cases h
theorem seconds_at : ∀ {ps ss : List PyData} {i : Nat} {d : PyData}, secondsD ps = some ss → ss[i]? = some d → ∃ a, ps[i]? = some (.tuple [a, d])
  | [], ss, i, d, h, hd => by cases h; simp at hd
  | p :: r, ss, i, d, h, hd => by
    unfold secondsD at h
    split at h
    · rename_i e; cases e
    · rename_i a b r' e
      cases e
      obtain ⟨t, ht, rfl⟩ := Option.map_eq_some_iff.mp h
      cases i with
      | zero => exact ⟨a, by simpa using hd⟩
      | succ i => obtain ⟨a', h'⟩ := seconds_at (i := i) ht (by simpa using hd); exact ⟨a', by simpa using h'⟩
    · cases h
theorem pairs_at2 : ∀ {ps ss : List PyData} {i : Nat} {d : PyData}, pairsD ps = some ss → ps[i]? = some d → ∃ a b, d = .tuple [a, b] ∧ ss[2 * i]? = some a ∧ ss[2 * i + 1]? = some b
  | [], ss, i, d, h, hd => by simp at hd
  | p :: r, ss, i, d, h, hd => by
    unfold pairsD at h
    split at h
    · rename_i e; cases e
    · rename_i a b r' e
      cases e
      obtain ⟨t, ht, rfl⟩ := Option.map_eq_some_iff.mp h
      cases i with
      | zero => exact ⟨a, b, by simpa using hd.symm, rfl, rfl⟩
      | succ i =>
        obtain ⟨a', b', h1, h2, h3⟩ := pairs_at2 (i := i) ht (by simpa using hd)
        refine ⟨a', b', h1, ?_, ?_⟩
        · rw [show 2 * (i + 1) = 2 * i + 1 + 1 by omega]; simpa using h2
        · rw [show 2 * (i + 1) + 1 = (2 * i + 1) + 1 + 1 by omega]; simpa using h3
    · cases h
/-- what partsD gives, laid in a tuple -/
def spPartsD (K : PySem.W.Frag) : Sp := fun vs H Q _ => ∃ (x : V) (d : PyData) (cs : List PyData), vs = [x] ∧ Dt K H x d ∧ partsD d = some cs ∧ szD d ≤ 1000000 ∧ ∀ v H', Same H H' → Dt K H' v (.tuple cs) → Q v H'
theorem ok_parts {f : Addr} {fd : FuncData} (F : Fun K "parts" "parts" s_parts f fd) (T : Txt K mg) : FnG P w K mg base CX0 1 f fd P_parts (spPartsD K) := by
  refine okG0 F sc_parts (fun vs H Q E h => ?_) fun cdv A outer s H vs Q E hr hg h => ?_
  · obtain ⟨x, d, cs, rfl, _⟩ := h
    rfl
  · obtain ⟨x, d, cs, rfl, dv, hp, hsz, k⟩ := h
    refine ⟨_, (pss_cons (ps_set (i := 1) sc_parts.nd rfl (Or.inl rfl) (pe_ix ix_tup (pv 0) pe_int (fun _ _ => rfl)))
  (pss_cons (ps_if (pt_cmpR op_in_seq (pv 1) (pe_tup (pa_cons pe_str (pa_cons pe_str pa_nil))) (by rfl))
   (pss_one (ps_ret (pe_tup pa_nil)))
   pss_nil)
  (pss_cons (ps_if (pt_cmpR op_in_seq (pv 1) (pe_tup (pa_cons pe_str (pa_cons pe_str (pa_cons pe_str pa_nil)))) (by rfl))
   (pss_one (ps_ret (pe_tup (pa_cons (pe_ix ix_tup (pv 0) pe_int (fun _ _ => rfl)) pa_nil))))
   pss_nil)
  (pss_cons (ps_if (pt_cmpR op_in_seq (pv 1) (pe_tup (pa_cons pe_str (pa_cons pe_str (pa_cons pe_str (pa_cons pe_str (pa_cons pe_str pa_nil)))))) (by rfl))
   (pss_one (ps_ret (pe_slice sl_tupA (pv 0) (po_some pe_int) po_none)))
   pss_nil)
  (pss_cons (ps_if (pt_cmpR op_eq (pv 1) pe_str (nomark _))
   (pss_one (ps_ret (pe_slice sl_tupA (pv 0) (po_some pe_int) po_none)))
   pss_nil)
  (pss_cons (ps_if (pt_cmpR op_in_seq (pv 1) (pe_tup (pa_cons pe_str (pa_cons pe_str pa_nil))) (by rfl))
   (pss_one (ps_ret (pe_ix ix_tup (pv 0) pe_int (fun _ _ => rfl))))
   pss_nil)
  (pss_cons (ps_if (pt_cmpR op_eq (pv 1) pe_str (nomark _))
   (pss_one (ps_ret (pe_callTy call_tuple_of (by rfl) T.b_tuple (by decide +kernel) (pa_cons (pe_lc2 (own := [("pair", 2), ("part", 3)]) (vs1 := [3]) (g := (gName 2)) (g1 := (gName 3)) rfl sc_parts.nd (pi_tup (pe_ix ix_tup (pv 0) pe_int (fun _ _ => rfl))) (blkOk_by (N := N_parts) (sc := defScope s_parts) (by decide +kernel)) (by decide) (fun _ _ _ _ _ => (pg_name (i := 2) sc_parts.nd rfl (Or.inl rfl))) (fun _ _ _ _ _ => pts_nil) (fun _ _ _ _ _ => (pi_tup (pv 2) : PI _ _ _ (iTup K (tVar 2)))) (fun _ _ _ _ _ => (pg_name (i := 3) sc_parts.nd rfl (Or.inl rfl))) (fun _ _ _ _ _ => pts_nil) (fun _ _ _ _ _ => (pv 3))) pa_nil))))
   pss_nil)
  (pss_cons (ps_if (pt_cmpR op_eq (pv 1) pe_str (nomark _))
   (pss_one (ps_ret (pe_op op_catTB (pe_tup (pa_cons (pe_ix ix_tup (pv 0) pe_int (fun _ _ => rfl)) pa_nil)) (pe_callTy call_tuple_of (by rfl) T.b_tuple (by decide +kernel) (pa_cons (pe_lc (own := [("_", 4), ("part", 3)]) (g := (gTup K 2 (gCons (gName 4) (gCons (gName 3) gNil)))) rfl sc_parts.nd (pi_tup (pe_ix ix_tup (pv 0) pe_int (fun _ _ => rfl))) (blkOk_by (N := N_parts) (sc := defScope s_parts) (by decide +kernel)) (fun _ _ _ _ _ => (pg_tup (by rfl) (pgs_cons (pg_name (i := 4) sc_parts.nd rfl (Or.inl rfl)) (pgs_cons (pg_name (i := 3) sc_parts.nd rfl (Or.inl rfl)) pgs_nil)))) (fun _ _ _ _ _ => pts_nil) (fun _ _ _ _ _ => (pv 3))) pa_nil)))))
   pss_nil)
  (pss_one (ps_ret (pe_op op_catTB (pe_op op_catTB (pe_tup (pa_cons (pe_ix ix_tup (pv 0) pe_int (fun _ _ => rfl)) pa_nil)) (pe_ix ix_tup (pv 0) pe_int (fun _ _ => rfl))) (pe_callTy call_tuple_of (by rfl) T.b_tuple (by decide +kernel) (pa_cons (pe_lc (own := [("_", 4), ("part", 3)]) (g := (gTup K 2 (gCons (gName 4) (gCons (gName 3) gNil)))) rfl sc_parts.nd (pi_tup (pe_ix ix_tup (pv 0) pe_int (fun _ _ => rfl))) (blkOk_by (N := N_parts) (sc := defScope s_parts) (by decide +kernel)) (fun _ _ _ _ _ => (pg_tup (by rfl) (pgs_cons (pg_name (i := 4) sc_parts.nd rfl (Or.inl rfl)) (pgs_cons (pg_name (i := 3) sc_parts.nd rfl (Or.inl rfl)) pgs_nil)))) (fun _ _ _ _ _ => pts_nil) (fun _ _ _ _ _ => (pv 3))) pa_nil))))))))))))), ?_⟩
    obtain ⟨k0, rest, rfl⟩ : ∃ k rest, d = .tuple (.str k :: rest) := by
      unfold partsD at hp
      split at hp
      · exact ⟨_, _, rfl⟩
      · cases hp
    obtain ⟨u, xs, rfl, su, ax⟩ := dv.tuple_inv
    obtain ⟨a, ys, rfl, da, ay⟩ := ax.cons_inv
    obtain rfl := da.str_inv
    have hp : partsK k0 rest = some cs := hp
    unfold partsK at hp
    refine ⟨_, rfl, u, _, _, _, rfl, rfl, su, at0, ?_⟩
    have S0 : Same H H := Same.refl _
    have iv : ∀ {zs : List V}, inV (V.str k0) zs = true ∨ inV (V.str k0) zs = false := fun {zs} => by cases inV (V.str k0) zs <;> simp
    have lrest : ys.length = rest.length := ay.length
    have hszr : szDs rest ≤ 1000000 := by simp only [szD, szDs] at hsz; omega
    refine ⟨_, rfl, sz_2, fun p hp0 => ⟨p, _, rfl, .inr (SqT.of upd_same), rfl, rfl, _, rfl, ?_⟩⟩
    have S1 := S0.trans (Same.new (o := .tup [V.str "const", V.str "name"]) hp0)
    generalize upd H p (.tup [V.str "const", V.str "name"]) = H1 at S1 ⊢
    refine ite3 (fun c => ?_) fun c => ?_
    · rw [if_pos (show inV (V.str k0) [V.str "const", V.str "name"] = true from c)] at hp
      cases hp
      exact ⟨sz_0, fun q hq => k _ _ (S1.trans (Same.new hq)) (Dt.made hq .nil)⟩
    rw [show inV (V.str k0) [V.str "const", V.str "name"] = false from c, if_neg Bool.false_ne_true] at hp
    clear hp0 c p
    refine ⟨_, rfl, sz_3, fun p hp0 => ⟨p, _, rfl, .inr (SqT.of upd_same), rfl, rfl, _, rfl, ?_⟩⟩
    have S2 := S1.trans (Same.new (o := .tup [V.str "neg", V.str "not", V.str "attr"]) hp0)
    generalize upd H1 p (.tup [V.str "neg", V.str "not", V.str "attr"]) = H2 at S2 ⊢
    refine ite3 (fun c => ?_) fun c => ?_
    · rw [if_pos (show inV (V.str k0) [V.str "neg", V.str "not", V.str "attr"] = true from c)] at hp
      cases rest with
      | nil => cases hp
      | cons x1 rest =>
        cases hp
        obtain ⟨z1, zs1, rfl, d1, _⟩ := ay.cons_inv
        exact ⟨_, rfl, u, _, _, _, rfl, rfl, Same.tupl S2 su, at_of' (j := 1) rfl rfl, sz_1, fun q hq => k _ _ (S2.trans (Same.new hq)) (Dt.made hq (.cons (d1.mono S2) .nil))⟩
    rw [show inV (V.str k0) [V.str "neg", V.str "not", V.str "attr"] = false from c, if_neg Bool.false_ne_true] at hp
    clear hp0 c p S1
    have sz_5' : (5 : Nat) ≤ sizeLine := sz_5
    refine ⟨_, rfl, sz_5', fun p hp0 => ⟨p, _, rfl, .inr (SqT.of upd_same), rfl, rfl, _, rfl, ?_⟩⟩
    have S3 := S2.trans (Same.new (o := .tup [V.str "and", V.str "or", V.str "choice", V.str "item", V.str "part"]) hp0)
    generalize upd H2 p (.tup [V.str "and", V.str "or", V.str "choice", V.str "item", V.str "part"]) = H3 at S3 ⊢
    refine ite3 (fun c => ?_) fun c => ?_
    · rw [if_pos (show inV (V.str k0) [V.str "and", V.str "or", V.str "choice", V.str "item", V.str "part"] = true from c)] at hp
      cases hp
      exact ⟨_, rfl, _, rfl, slD (n := 1) (Same.tupl S3 su) (.cons (.str _) (ay.mono S3)) (by simp) fun v H' S dv => k v H' (S3.trans S) dv⟩
    rw [show inV (V.str k0) [V.str "and", V.str "or", V.str "choice", V.str "item", V.str "part"] = false from c, if_neg Bool.false_ne_true] at hp
    clear hp0 c p S2
    refine ⟨_, rfl, rfl, _, rfl, ?_⟩
    refine ite3 (fun c => ?_) fun c => ?_
    · rw [if_pos c] at hp
      cases rest with
      | nil => cases hp
      | cons x1 rest =>
        cases hp
        exact ⟨_, rfl, _, rfl, slD (n := 2) (Same.tupl S3 su) (.cons (.str _) (ay.mono S3)) (by simp at lrest ⊢; omega) fun v H' S dv => k v H' (S3.trans S) dv⟩
    rw [c, if_neg Bool.false_ne_true] at hp
    clear c
    refine ⟨_, rfl, sz_2, fun p hp0 => ⟨p, _, rfl, .inr (SqT.of upd_same), rfl, rfl, _, rfl, ?_⟩⟩
    have S4 := S3.trans (Same.new (o := .tup [V.str "tuple", V.str "list"]) hp0)
    generalize upd H3 p (.tup [V.str "tuple", V.str "list"]) = H4 at S4 ⊢
    refine ite3 (fun c => ?_) fun c => ?_
    · rw [if_pos (show inV (V.str k0) [V.str "tuple", V.str "list"] = true from c)] at hp
      split at hp
      · cases hp
        obtain ⟨z1, zs1, rfl, d1, _⟩ := ay.cons_inv
        exact ⟨_, rfl, u, _, _, _, rfl, rfl, Same.tupl S4 su, at_of' (j := 1) rfl rfl, k _ _ S4 (d1.mono S4)⟩
      · cases hp
    rw [show inV (V.str k0) [V.str "tuple", V.str "list"] = false from c, if_neg Bool.false_ne_true] at hp
    clear hp0 c p S3
    refine ⟨_, rfl, rfl, _, rfl, ?_⟩
    refine ite3 (fun c => ?_) fun c => ?_
    · rw [if_pos c] at hp
      split at hp
      · rename_i ps r' _
        obtain ⟨z1, zs1, rfl, d1, _⟩ := ay.cons_inv
        obtain ⟨q, xs, rfl, hq, ha⟩ := (d1.mono S4).tuple_inv
        refine ⟨_, rfl, u, _, _, _, rfl, rfl, Same.tupl S4 su, at_of' (j := 1) rfl rfl, q, rfl, ⟨_, hq⟩, fun D hD => ?_⟩
        obtain ⟨hs1, hs2⟩ := pairs_sz hp
        have hal := ha.length
        have hpl := szDs_len ps
        have hpz : szDs ps ≤ 1000000 := by simp only [szDs, szD] at hszr; omega
        refine walk_gen (walk_tup (xs := xs)) (fun i H' => ∃ acc, H' D = some (.lst acc) ∧ DtAll K H' acc (cs.take (2 * i)) ∧ Same H4 H') ⟨[], upd_same, .nil, Same.new hD⟩ (fun i H' _ h => let ⟨_, _, _, s⟩ := h; Same.tupl s hq) ?_ ?_
        · rintro i x H1 H2 hi ⟨acc, eD, aD, S1⟩ ⟨rfl, hy⟩
          obtain ⟨d, hd, dx⟩ := ha.getV hy
          obtain ⟨a1, b1, rfl, ha1, hb1⟩ := pairs_at2 hp hd
          obtain ⟨q2, x1, y1, rfl, hq2, dx1, dy1⟩ := dt_two dx
          have hla : acc.length = 2 * i := by
            have := aD.length
            rw [List.length_take] at this
            omega
          refine ⟨rfl, tYes_of ?_⟩
          refine ⟨_, rfl, q2, rfl, ⟨_, Same.tupl S1 hq2⟩, ?_⟩
          refine walk_gen (walk_tup (xs := [x1, y1])) (fun j H' => ∃ acc, H' D = some (.lst acc) ∧ DtAll K H' acc (cs.take (2 * i + j)) ∧ acc.length = 2 * i + j ∧ Same H4 H') ⟨acc, eD, aD, hla, S1⟩ (fun j H' _ h => let ⟨_, _, _, _, s⟩ := h; Same.tupl s hq2) ?_ ?_
          · rintro j y H3 H5 hj ⟨acc, eD, aD, hl3, S3⟩ ⟨rfl, hy2⟩
            have hj2 : j = 0 ∨ j = 1 := by simp at hj; omega
            obtain ⟨d, hd, dy⟩ : ∃ d, cs[2 * i + j]? = some d ∧ Dt K H4 y d := by
              rcases hj2 with rfl | rfl
              · obtain rfl : x1 = y := by simpa using hy2
                exact ⟨a1, ha1, dx1⟩
              · obtain rfl : y1 = y := by simpa using hy2
                exact ⟨b1, hb1, dy1⟩
            have kU := KeepT.upd (K := K) (o := .lst (acc ++ [y])) eD
            refine ⟨rfl, tYes_of ?_⟩
            refine ⟨_, rfl, acc, eD, Nat.lt_of_le_of_lt (show acc.length ≤ 2000000 by omega) (by decide), acc ++ [y], upd_same, ?_, by simp; omega, fun b o hb => by rw [upd_ne (ne_of_none hb hD)]; exact S3 b o hb⟩
            rw [← Nat.add_assoc, List.take_succ, hd]
            exact DtAll.app (aD.keepT kU) (.cons ((dy.mono S3).keepT kU) .nil)
          · rintro H3 ⟨acc, eD, aD, hl3, S3⟩
            exact ⟨acc, eD, aD, S3⟩
        · rintro H5 ⟨acc, eD, aD, S5⟩
          rw [List.take_of_length_le (by omega)] at aD
          refine ⟨D, _, rfl, .inl ⟨SqL.of eD, fun t ht => ?_⟩⟩
          exact k _ _ ((S4.trans S5).trans (Same.new ht)) (Dt.made ht aD)
      · cases hp
    rw [c, if_neg Bool.false_ne_true] at hp
    clear c
    refine ⟨_, rfl, rfl, _, rfl, ?_⟩
    refine ite3 (fun c => ?_) fun c => ?_
    · rw [if_pos c] at hp
      split at hp
      · rename_i x1 ps r' _
        obtain ⟨z1, zs1, rfl, d1, ay1⟩ := ay.cons_inv
        obtain ⟨z2, zs2, rfl, d2, _⟩ := ay1.cons_inv
        obtain ⟨ss, hss, rfl⟩ := Option.map_eq_some_iff.mp hp
        obtain ⟨hs1, hs2⟩ := seconds_sz hss
        have hpl := szDs_len ps
        have hpz : szDs ps ≤ 1000000 := by simp only [szDs, szD] at hszr; omega
        obtain ⟨q, xs, rfl, hq, ha⟩ := d2.tuple_inv
        have hal := ha.length
        refine ⟨_, rfl, u, _, _, _, rfl, rfl, Same.tupl S4 su, at_of' (j := 1) rfl rfl, sz_1, fun t0 ht0 => ?_⟩
        have S5 := S4.trans (Same.new (o := .tup [z1]) ht0)
        have dt0 : Dt K (upd H4 t0 (.tup [z1])) (.ref t0) (.tuple [x1]) := Dt.made ht0 (.cons (d1.mono S4) .nil)
        generalize upd H4 t0 (.tup [z1]) = H5 at S5 dt0 ⊢
        refine ⟨_, rfl, u, _, _, _, rfl, rfl, Same.tupl S5 su, at_of' (j := 2) rfl rfl, q, rfl, ⟨_, Same.tupl S5 hq⟩, fun D hD => ?_⟩
        refine lc_dt (K := K) (walk_tup (xs := xs)) hD ss (by omega) (Nat.lt_of_le_of_lt (show xs.length ≤ 1000000 by omega) (by decide)) (fun H' S => Same.tupl S (Same.tupl S5 hq)) ?_ ?_ mono_tup2
        · rintro j x H6 H7 d Nx hj hd S6 ⟨acc, eacc⟩ ⟨rfl, hx⟩ nx
          obtain ⟨a1, ha1⟩ := seconds_at hss hd
          obtain ⟨d', hd', dx⟩ := ha.getV hx
          rw [ha1] at hd'
          cases hd'
          obtain ⟨q2, x1, y1, rfl, hq2, dx1, dy1⟩ := dt_two (dx.mono (S5.trans S6))
          exact ⟨q2, _, rfl, hq2, rfl, _, _, rfl, _, _, rfl, rfl, rfl, _, rfl, nx _ _ (Same.refl _) dy1⟩
        rintro H6 acc S6 eacc aacc
        refine ⟨D, _, rfl, .inl ⟨SqL.of eacc, fun t ht => ?_⟩⟩
        have S7 := S6.trans (Same.new (o := .tup acc) ht)
        exact ⟨[x1], ss, dt0.mono S7, Dt.made ht aacc, by simp; omega, fun v H' S dv => k v H' ((S5.trans S7).trans S) dv⟩
      · cases hp
    rw [c, if_neg Bool.false_ne_true] at hp
    clear c
    split at hp
    · rename_i x1 args named r' _
      obtain ⟨z1, zs1, rfl, d1, ay1⟩ := ay.cons_inv
      obtain ⟨z2, zs2, rfl, d2, ay2⟩ := ay1.cons_inv
      obtain ⟨z3, zs3, rfl, d3, _⟩ := ay2.cons_inv
      obtain ⟨ss, hss, rfl⟩ := Option.map_eq_some_iff.mp hp
      obtain ⟨hs1, hs2⟩ := seconds_sz hss
      have hpl := szDs_len named
      have hal0 := szDs_len args
      have hpz : szDs named + szDs args ≤ 1000000 := by simp only [szDs, szD] at hszr; omega
      obtain ⟨q, xs, rfl, hq, ha⟩ := d3.tuple_inv
      have hal := ha.length
      refine ⟨_, rfl, u, _, _, _, rfl, rfl, Same.tupl S4 su, at_of' (j := 1) rfl rfl, sz_1, fun t0 ht0 => ?_⟩
      have S5 := S4.trans (Same.new (o := .tup [z1]) ht0)
      have dt0 : Dt K (upd H4 t0 (.tup [z1])) (.ref t0) (.tuple [x1]) := Dt.made ht0 (.cons (d1.mono S4) .nil)
      generalize upd H4 t0 (.tup [z1]) = H5 at S5 dt0 ⊢
      refine ⟨_, rfl, u, _, _, _, rfl, rfl, Same.tupl S5 su, at_of' (j := 2) rfl rfl, ?_⟩
      refine ⟨[x1], args, dt0, d2.mono S5, by simp; omega, fun v6 H6 S6 d6 => ?_⟩
      have S56 := S5.trans S6
      refine ⟨_, rfl, u, _, _, _, rfl, rfl, Same.tupl S56 su, at_of' (j := 3) rfl rfl, q, rfl, ⟨_, Same.tupl S56 hq⟩, fun D hD => ?_⟩
      refine lc_dt (K := K) (walk_tup (xs := xs)) hD ss (by omega) (Nat.lt_of_le_of_lt (show xs.length ≤ 1000000 by omega) (by decide)) (fun H' S => Same.tupl S (Same.tupl S56 hq)) ?_ ?_ mono_tup2
      · rintro j x H7 H8 d Nx hj hd S7 ⟨acc, eacc⟩ ⟨rfl, hx⟩ nx
        obtain ⟨a1, ha1⟩ := seconds_at hss hd
        obtain ⟨d', hd', dx⟩ := ha.getV hx
        rw [ha1] at hd'
        cases hd'
        obtain ⟨q2, x1, y1, rfl, hq2, dx1, dy1⟩ := dt_two (dx.mono (S56.trans S7))
        exact ⟨q2, _, rfl, hq2, rfl, _, _, rfl, _, _, rfl, rfl, rfl, _, rfl, nx _ _ (Same.refl _) dy1⟩
      rintro H7 acc S7 eacc aacc
      refine ⟨D, _, rfl, .inl ⟨SqL.of eacc, fun t ht => ?_⟩⟩
      have S8 := S7.trans (Same.new (o := .tup acc) ht)
      exact ⟨[x1] ++ args, ss, d6.mono S8, Dt.made ht aacc, by simp; omega, fun v H' S dv => k v H' ((S56.trans S8).trans S) dv⟩
    · cases hp
theorem partsD_sz {d : PyData} {cs : List PyData} (h : partsD d = some cs) : szDs cs + 1 ≤ szD d := by
  unfold partsD at h
  split at h
  · rename_i k rest
    unfold partsK at h
    simp only [szD, szDs]
    split at h
    · cases h; simp [szDs]
    split at h
    · split at h
      · cases h; simp only [szDs]; omega
      · cases h
    split at h
    · cases h; omega
    split at h
    · split at h
      · cases h; simp only [szDs]; omega
      · cases h
    split at h
    · split at h
      · cases h; simp only [szDs, szD]; omega
      · cases h
    split at h
    · split at h
      · have := (pairs_sz h).1; simp only [szDs, szD]; omega
      · cases h
    split at h
    · split at h
      · obtain ⟨ss, hss, rfl⟩ := Option.map_eq_some_iff.mp h
        have := (seconds_sz hss).1
        simp only [szDs, szD]; omega
      · cases h
    · split at h
      · obtain ⟨ss, hss, rfl⟩ := Option.map_eq_some_iff.mp h
        have := (seconds_sz hss).1
        simp only [szDs, szD, szDs_app, List.cons_append]; omega
      · cases h
  · cases h
def ndD (p : PyData × Nat) : PyData := .tuple [p.1, .int (p.2 : Nat)]
def stSz : List (PyData × Nat) → Nat
  | [] => 0
  | p :: r => szD p.1 + stSz r
theorem stSz_app (a b : List (PyData × Nat)) : stSz (a ++ b) = stSz a + stSz b := by
  induction a with
  | nil => simp [stSz]
  | cons p a ih => simp only [List.cons_append, stSz, ih]; omega
theorem stSz_rev (a : List (PyData × Nat)) : stSz a.reverse = stSz a := by
  induction a with
  | nil => rfl
  | cons p a ih => rw [List.reverse_cons, stSz_app, ih]; simp only [stSz]; omega
theorem stSz_cs (cs : List PyData) (k : Nat) : stSz (cs.map fun c => (c, k)) = szDs cs := by
  induction cs with
  | nil => rfl
  | cons c cs ih => simp only [List.map_cons, stSz, szDs, ih]
theorem stSz_len (a : List (PyData × Nat)) : a.length ≤ stSz a := by
  induction a with
  | nil => exact Nat.le_refl _
  | cons p a ih =>
    have h1 : 1 ≤ szD p.1 := by cases p.1 <;> simp [szD]
    simp only [stSz, List.length_cons]; omega
theorem szDs_mem : ∀ {cs : List PyData} {c : PyData}, c ∈ cs → szD c ≤ szDs cs
  | e :: es, c, h => by
    simp only [szDs]
    rcases List.mem_cons.mp h with h | h
    · rw [h]; omega
    · have := szDs_mem h; omega
theorem same_none' {H H1 : Hp} {l : Addr} (S : Same H H1) (h : H1 l = none) : H l = none := by
  cases e : H l with
  | none => rfl
  | some o => have := S _ _ e; rw [h] at this; cases this
theorem nodes_all {B : Nat} : ∀ {n : Nat} {st fo ns : List (PyData × Nat)}, nodesL n st fo = some ns → (∀ p ∈ st, szD p.1 ≤ B) → (∀ p ∈ fo, szD p.1 ≤ B) → ∀ p ∈ ns, szD p.1 ≤ B
  | n, [], fo, ns, h, _, h2 => by
    unfold nodesL at h
    cases n <;> (cases h; exact h2)
  | 0, _ :: _, _, _, h, _, _ => by cases h
  | n + 1, (d, k) :: rest, fo, ns, h, h1, h2 => by
    unfold nodesL at h
    split at h
    · rename_i cs hc
      have hd := h1 (d, k) (by simp)
      have hz := partsD_sz hc
      refine nodes_all h (fun p hp => ?_) fun p hp => ?_
      · rcases List.mem_append.mp hp with hp | hp
        · obtain ⟨c, hc', rfl⟩ := List.mem_map.mp (List.mem_reverse.mp hp)
          have := szDs_mem hc'
          show szD c ≤ B
          have hd : szD d ≤ B := hd
          omega
        · exact h1 p (List.mem_cons_of_mem _ hp)
      · rcases List.mem_append.mp hp with hp | hp
        · exact h2 p hp
        · rw [List.mem_singleton.mp hp]; exact hd
    · cases h
theorem dtAll_snoc' {H : Hp} : ∀ {vs : List V} {ds : List PyData} {d : PyData}, DtAll K H vs (ds ++ [d]) → ∃ ws y, vs = ws ++ [y] ∧ DtAll K H ws ds ∧ Dt K H y d
  | _, [], _, h => by
    obtain ⟨v, ws, rfl, hv, hw⟩ := h.cons_inv
    obtain rfl := hw.nil_inv
    exact ⟨[], v, rfl, .nil, hv⟩
  | _, e :: ds, d, h => by
    obtain ⟨v, ws, rfl, hv, hw⟩ := h.cons_inv
    obtain ⟨ws', y, rfl, h1, h2⟩ := dtAll_snoc' hw
    exact ⟨v :: ws', y, rfl, .cons hv h1, h2⟩
def spNodes (K : PySem.W.Frag) : Sp := fun vs H Q _ => ∃ (x : V) (d : PyData) (ns : List (PyData × Nat)), vs = [x] ∧ Dt K H x d ∧ szD d ≤ 1000000 ∧ nodesL (szD d + 1) [(d, 1)] [] = some ns ∧ ∀ l H', Same H H' → ListAt K H' l (ns.map ndD) → Q (.ref l) H'
theorem ok_nodes {f : Addr} {fd : FuncData} (F : Fun K "nodes" "nodes" s_nodes f fd) (T : Txt K mg) (U_parts : Use P w K mg base CX0 "parts" 1 P_parts (spPartsD K)) : FnG P w K mg base CX0 2 f fd P_nodes (spNodes K) := by
  refine okG0 F sc_nodes (fun vs H Q E h => ?_) fun cdv A outer s H vs Q E hr hg h => ?_
  · obtain ⟨x, d, ns, rfl, _⟩ := h
    rfl
  · obtain ⟨x, d, ns, rfl, dv, hz, hn, k⟩ := h
    refine ⟨_, (pss_cons (ps_set (i := 1) sc_nodes.nd rfl (Or.inl rfl) (pe_lst pa_nil))
  (pss_cons (ps_set (i := 2) sc_nodes.nd rfl (Or.inl rfl) (pe_lst (pa_cons (pe_tup (pa_cons (pv 0) (pa_cons pe_int pa_nil))) pa_nil)))
  (pss_cons (ps_while PassesOwn.never (pt_up (pt_truth (pv 2) (by intro _; rfl)))
   (pss_cons (ps_asg (pe_bm0 PySem.F.plainAttrs_list PySem.F.slot_list_pop PySem.F.type_list_pop mt_pop (pv 2)) (pg_tup (by rfl) (pgs_cons (pg_name (i := 3) sc_nodes.nd rfl (Or.inl rfl)) (pgs_cons (pg_name (i := 4) sc_nodes.nd rfl (Or.inr rfl)) pgs_nil))))
  (pss_cons (ps_expr (pe_bm PySem.F.plainAttrs_list PySem.F.slot_list_append PySem.F.type_list_append mt_append (pv 1) (pa_cons (pe_tup (pa_cons (pv 3) (pa_cons (pv 4) pa_nil))) pa_nil)))
  (pss_one (ps_expr (pe_bm PySem.F.plainAttrs_list PySem.F.slot_list_extend PySem.F.type_list_extend mt_extend (pv 2) (pa_cons (pe_lc (own := [("inner", 5)]) (g := (gName 5)) rfl sc_nodes.nd (pi_tup (pe_use U_parts (hr.mono (by decide)) hg rfl (pa_cons (pv 3) pa_nil))) (blkOk_by (N := N_nodes) (sc := defScope s_nodes) (by decide +kernel)) (fun _ _ _ _ _ => (pg_name (i := 5) sc_nodes.nd rfl (Or.inl rfl))) (fun _ _ _ _ _ => pts_nil) (fun _ _ _ _ _ => (pe_tup (pa_cons (pv 5) (pa_cons (pe_op op_add (pv 4) pe_int) pa_nil))))) pa_nil)))))))
  (pss_one (ps_ret (pv 1)))))), ?_⟩
    refine ⟨sz_0, fun fl hfl => ?_⟩
    have S1 := Same.new (o := .lst []) hfl
    have L1 : ListAt K (upd H fl (.lst [])) fl [] := ⟨_, upd_same, .nil⟩
    generalize upd H fl (.lst []) = H1 at S1 L1
    refine ⟨_, rfl, sz_2, fun q hq => ⟨sz_1, fun wl hwl => ?_⟩⟩
    have Sq := Same.new (o := .tup [x, .int 1]) hq
    have dq : Dt K (upd H1 q (.tup [x, .int 1])) (.ref q) (ndD (d, 1)) := Dt.made hq (.cons (dv.mono S1) (.cons (.int _) .nil))
    have L1 := listAt_mono L1 Sq
    have S1 := S1.trans Sq
    generalize upd H1 q (.tup [x, .int 1]) = H2 at S1 L1 dq hwl
    have Sw := Same.new (o := .lst [.ref q]) hwl
    have wne : fl ≠ wl := by obtain ⟨_, e, _⟩ := L1; exact ne_of_none e hwl
    have L1 := listAt_mono L1 Sw
    have M1 : ListAt K (upd H2 wl (.lst [.ref q])) wl [ndD (d, 1)] := ⟨_, upd_same, .cons (dq.mono Sw) .nil⟩
    have hwl0 : H wl = none := same_none' S1 hwl
    have S1 := S1.trans Sw
    generalize upd H2 wl (.lst [.ref q]) = H3 at S1 L1 M1
    clear hq hwl dq Sq Sw
    refine while_upN (fun m σ H4 => ∃ (st fo : List (PyData × Nat)) (x3 x4 x5 : Option V), σ = [some x, some (.ref fl), some (.ref wl), x3, x4, x5] ∧ Same H H4 ∧ ListAt K H4 fl (fo.map ndD) ∧ ListAt K H4 wl (st.reverse.map ndD) ∧ stSz st + fo.length ≤ szD d ∧ nodesL m st fo = some ns)
      ⟨_, [(d, 1)], [], none, none, none, rfl, S1, L1, M1, by simp [stSz], hn⟩ ?_
    clear S1 L1 M1
    rintro m σ H4 ⟨st, fo, x3, x4, x5, rfl, S4, L4, M4, hs, hn⟩
    obtain ⟨ws, ew, aw⟩ := id M4
    have lw := aw.length
    rw [List.length_map, List.length_reverse] at lw
    refine ⟨_, rfl, !ws.isEmpty, .inl ⟨ws, SqL.of ew, rfl⟩, ?_⟩
    cases st with
    | nil =>
      have : ws = [] := List.length_eq_zero_iff.mp (by simpa using lw)
      subst this
      refine iteFb rfl ?_
      have : fo = ns := by cases m <;> exact Option.some.inj hn
      subst this
      exact ⟨_, rfl, k fl _ S4 L4⟩
    | cons p st =>
      obtain ⟨d1, k1⟩ := p
      cases m with
      | zero => cases hn
      | succ m =>
        obtain ⟨ws1, y, rfl, aw1, dy⟩ : ∃ ws1 y, ws = ws1 ++ [y] ∧ DtAll K H4 ws1 (st.reverse.map ndD) ∧ Dt K H4 y (ndD (d1, k1)) := by
          rw [List.reverse_cons, List.map_append] at aw
          exact dtAll_snoc' aw
        refine iteTb (by simp) ?_
        refine ⟨_, rfl, .inl ⟨rfl, _, SqL.of ew⟩, wl, _, y, rfl, rfl, ew, by simp, ?_⟩
        rw [List.dropLast_concat]
        have kU := KeepT.upd (K := K) (o := .lst ws1) ew
        obtain ⟨u, a, b, rfl, su, da, db⟩ := dt_two (dy.keepT kU)
        obtain rfl := db.int_inv
        have S5 : Same H (upd H4 wl (.lst ws1)) := fun b o hb => by rw [upd_ne (ne_of_none hb hwl0)]; exact S4 b o hb
        have L5 : ListAt K (upd H4 wl (.lst ws1)) fl (fo.map ndD) := by
          obtain ⟨zs, ez, az⟩ := L4
          exact ⟨zs, by rw [upd_ne wne]; exact ez, az.keepT kU⟩
        have M5 : ListAt K (upd H4 wl (.lst ws1)) wl (st.reverse.map ndD) := ⟨_, upd_same, aw1.keepT kU⟩
        generalize upd H4 wl (.lst ws1) = H5 at S5 L5 M5 su da ⊢
        clear ew aw aw1 dy kU M4 L4
        refine ⟨u, _, rfl, su, rfl, _, _, rfl, _, _, rfl, rfl, ?_⟩
        have hfo : fo.length ≤ 1000000 := by omega
        obtain ⟨fs, ef, lf, af⟩ : ∃ xs, H5 fl = some (.lst xs) ∧ xs.length < sizeLine ∧ DtAll K H5 xs (fo.map ndD) := by
          obtain ⟨xs, e, a⟩ := L5
          have := a.length
          rw [List.length_map] at this
          exact ⟨xs, e, Nat.lt_of_le_of_lt (show xs.length ≤ 1000000 by omega) (by decide), a⟩
        refine ⟨_, rfl, .inl ⟨rfl, _, SqL.of ef⟩, _, rfl, _, rfl, sz_2, fun t ht => ?_⟩
        have St := Same.new (o := .tup [a, .int (k1 : Nat)]) ht
        have dt : Dt K (upd H5 t (.tup [a, .int (k1 : Nat)])) (.ref t) (ndD (d1, k1)) := Dt.made ht (.cons da (.cons (.int _) .nil))
        have L6 := listAt_mono L5 St
        have M6 := listAt_mono M5 St
        have S6 := S5.trans St
        have da6 := da.mono St
        have ef6 := St _ _ ef
        generalize upd H5 t (.tup [a, .int (k1 : Nat)]) = H6 at dt L6 M6 S6 da6 ef6 ⊢
        clear St ht
        refine ⟨fl, fs, _, rfl, rfl, ef6, lf, ?_⟩
        have kF := KeepT.upd (K := K) (o := .lst (fs ++ [.ref t])) ef6
        have L7 := listAt_app L6 ef6 dt
        have M7 : ListAt K (upd H6 fl (.lst (fs ++ [.ref t]))) wl (st.reverse.map ndD) := by
          obtain ⟨zs, ez, az⟩ := M6
          exact ⟨zs, by rw [upd_ne wne.symm]; exact ez, az.keepT kF⟩
        have S7 : Same H (upd H6 fl (.lst (fs ++ [.ref t]))) := fun b o hb => by rw [upd_ne (ne_of_none hb hfl)]; exact S6 b o hb
        have da7 := da6.keepT kF
        generalize upd H6 fl (.lst (fs ++ [.ref t])) = H7 at L7 M7 S7 da7 ⊢
        clear L6 M6 S6 da6 ef6 kF dt L5 M5 S5 da su ef af
        unfold nodesL at hn
        split at hn
        · rename_i cs hc
          have hcz := partsD_sz hc
          simp only [stSz] at hs
          obtain ⟨ws7, ew7, aw7⟩ := id M7
          have lw7 := aw7.length
          rw [List.length_map, List.length_reverse] at lw7
          have hsl := stSz_len st
          have hcl := szDs_len cs
          refine ⟨_, rfl, .inl ⟨rfl, _, SqL.of ew7⟩, _, rfl, a, d1, cs, rfl, da7, hc, by omega, fun v8 H8 S8 d8 => ?_⟩
          obtain ⟨q8, xs8, rfl, hq8, a8⟩ := d8.tuple_inv
          have l8 := a8.length
          refine ⟨q8, rfl, ⟨_, hq8⟩, fun D hD => ?_⟩
          refine lc_dt (K := K) (walk_tup (xs := xs8)) hD (cs.map fun c => ndD (c, k1 + 1)) (by simp; omega) (Nat.lt_of_le_of_lt (show xs8.length ≤ 1000000 by omega) (by decide)) (fun H' S => Same.tupl S hq8) ?_ ?_ mono_name
          · rintro j y H9 H10 e Nx hj he S9 ⟨acc, eacc⟩ ⟨rfl, hy⟩ nx
            rw [List.getElem?_map] at he
            obtain ⟨c, hc, rfl⟩ := Option.map_eq_some_iff.mp he
            obtain ⟨c', hc', dy⟩ := a8.getV hy
            rw [hc] at hc'
            cases hc'
            exact ⟨rfl, _, rfl, _, rfl, _, _, rfl, rfl, sz_2, fun z hz => nx _ _ (Same.new hz) (Dt.made hz (.cons (dy.mono S9) (.cons (.int _) .nil)))⟩
          rintro H9 acc S9 eacc aacc
          have S89 := S8.trans S9
          have ew9 := S89 _ _ ew7
          have lacc := aacc.length
          rw [List.length_map] at lacc
          refine ⟨wl, D, ws7, acc, rfl, rfl, ew9, eacc, Nat.le_trans (show _ ≤ 3000000 by omega) (by decide), ?_⟩
          have kW := KeepT.upd (K := K) (o := .lst (ws7 ++ acc)) ew9
          refine ⟨m, Nat.lt_succ_self _, (cs.map fun c => (c, k1 + 1)).reverse ++ st, fo ++ [(d1, k1)], _, _, _, rfl, fun b o hb => by rw [upd_ne (ne_of_none hb hwl0)]; exact S89 _ _ (S7 b o hb), ?_, ?_, ?_, hn⟩
          · rw [List.map_append]
            obtain ⟨zs, ez, az⟩ := listAt_mono L7 S89
            exact ⟨zs, by rw [upd_ne wne]; exact ez, az.keepT kW⟩
          · refine ⟨_, upd_same, ?_⟩
            rw [List.reverse_append, List.reverse_reverse, List.map_append, List.map_map]
            exact DtAll.app ((aw7.mono S89).keepT kW) (aacc.keepT kW)
          · rw [stSz_app, stSz_rev, stSz_cs, List.length_append]
            simp only [List.length_cons, List.length_nil]
            omega
        · cases hn
def spWidth (K : PySem.W.Frag) : Sp := fun vs H Q _ => ∃ (x : V) (d : PyData) (n : Nat), vs = [x] ∧ Dt K H x d ∧ szD d ≤ 1000000 ∧ widthD d = some n ∧ ∀ H', Same H H' → Q (.int (n : Nat)) H'
theorem ok_width {f : Addr} {fd : FuncData} (F : Fun K "width" "width" s_width f fd) (T : Txt K mg) : FnG P w K mg base CX0 1 f fd P_width (spWidth K) := by
  refine okG0 F sc_width (fun vs H Q E h => ?_) fun cdv A outer s H vs Q E hr hg h => ?_
  · obtain ⟨x, d, n, rfl, _⟩ := h
    rfl
  · obtain ⟨x, d, n, rfl, dv, hsz, hp, k⟩ := h
    refine ⟨_, (pss_cons (ps_if (pt_cmpR op_in_seq (pe_ix ix_tup (pv 0) pe_int (fun _ _ => rfl)) (pe_tup (pa_cons pe_str (pa_cons pe_str (pa_cons pe_str pa_nil)))) (by rfl))
   (pss_one (ps_ret (pe_callB call_len (by rfl) T.b_len PySem.boot_len (pa_cons (pe_ix ix_tup (pv 0) pe_int (fun _ _ => rfl)) pa_nil))))
   pss_nil)
  (pss_cons (ps_if (pt_cmpR op_eq (pe_ix ix_tup (pv 0) pe_int (fun _ _ => rfl)) pe_str (nomark _))
   (pss_one (ps_ret (pe_callB call_len (by rfl) T.b_len PySem.boot_len (pa_cons (pe_ix ix_tup (pv 0) pe_int (fun _ _ => rfl)) pa_nil))))
   pss_nil)
  (pss_cons (ps_if (pt_cmpR op_eq (pe_ix ix_tup (pv 0) pe_int (fun _ _ => rfl)) pe_str (nomark _))
   (pss_one (ps_ret (pe_op op_add (pe_callB call_len (by rfl) T.b_len PySem.boot_len (pa_cons (pe_ix ix_tup (pv 0) pe_int (fun _ _ => rfl)) pa_nil)) (pe_callB call_len (by rfl) T.b_len PySem.boot_len (pa_cons (pe_ix ix_tup (pv 0) pe_int (fun _ _ => rfl)) pa_nil)))))
   pss_nil)
  (pss_one (ps_ret pe_int))))), ?_⟩
    obtain ⟨k0, rest, rfl⟩ : ∃ k rest, d = .tuple (.str k :: rest) := by
      unfold widthD at hp
      split at hp
      · exact ⟨_, _, rfl⟩
      · cases hp
    obtain ⟨u, xs, rfl, su, ax⟩ := dv.tuple_inv
    obtain ⟨a, ys, rfl, da, ay⟩ := ax.cons_inv
    obtain rfl := da.str_inv
    have hp : widthK k0 rest = some n := hp
    unfold widthK at hp
    have hszr : szDs rest ≤ 1000000 := by simp only [szD, szDs] at hsz; omega
    refine ⟨_, rfl, u, _, _, _, rfl, rfl, su, at0, sz_3, fun p hp0 => ⟨p, _, rfl, .inr (SqT.of upd_same), rfl, rfl, _, rfl, ?_⟩⟩
    have S1 := Same.new (o := .tup [V.str "tuple", V.str "list", V.str "dict"]) hp0
    generalize upd H p (.tup [V.str "tuple", V.str "list", V.str "dict"]) = H1 at S1 ⊢
    refine ite3 (fun c => ?_) fun c => ?_
    · rw [if_pos (show inV (V.str k0) [V.str "tuple", V.str "list", V.str "dict"] = true from c)] at hp
      split at hp
      · rename_i ds r' _
        cases hp
        obtain ⟨z1, zs1, rfl, d1, _⟩ := ay.cons_inv
        obtain ⟨q, xs, rfl, hq, ha⟩ := (d1.mono S1).tuple_inv
        exact ⟨_, rfl, u, _, _, _, rfl, rfl, Same.tupl S1 su, at_of' (j := 1) rfl rfl, _, _, rfl, .inr ⟨_, hq, ha.length.symm⟩, k _ S1⟩
      · cases hp
    rw [show inV (V.str k0) [V.str "tuple", V.str "list", V.str "dict"] = false from c, if_neg Bool.false_ne_true] at hp
    clear c
    refine ⟨_, rfl, u, _, _, _, rfl, rfl, Same.tupl S1 su, at0, rfl, _, rfl, ?_⟩
    refine ite3 (fun c => ?_) fun c => ?_
    · rw [if_pos c] at hp
      split at hp
      · rename_i x1 ps r' _
        cases hp
        obtain ⟨z1, zs1, rfl, d1, ay1⟩ := ay.cons_inv
        obtain ⟨z2, zs2, rfl, d2, _⟩ := ay1.cons_inv
        obtain ⟨q, xs, rfl, hq, ha⟩ := (d2.mono S1).tuple_inv
        exact ⟨_, rfl, u, _, _, _, rfl, rfl, Same.tupl S1 su, at_of' (j := 2) rfl rfl, _, _, rfl, .inr ⟨_, hq, ha.length.symm⟩, k _ S1⟩
      · cases hp
    rw [c, if_neg Bool.false_ne_true] at hp
    clear c
    refine ⟨_, rfl, u, _, _, _, rfl, rfl, Same.tupl S1 su, at0, rfl, _, rfl, ?_⟩
    refine ite3 (fun c => ?_) fun c => ?_
    · rw [if_pos c] at hp
      split at hp
      · rename_i x1 args named r' _
        cases hp
        have l1 := szDs_len args
        have l2 := szDs_len named
        have hpz : szDs named + szDs args ≤ 1000000 := by simp only [szDs, szD] at hszr; omega
        obtain ⟨z1, zs1, rfl, d1, ay1⟩ := ay.cons_inv
        obtain ⟨z2, zs2, rfl, d2, ay2⟩ := ay1.cons_inv
        obtain ⟨z3, zs3, rfl, d3, _⟩ := ay2.cons_inv
        obtain ⟨q, xs, rfl, hq, ha⟩ := (d2.mono S1).tuple_inv
        obtain ⟨q3, xs3, rfl, hq3, ha3⟩ := (d3.mono S1).tuple_inv
        refine ⟨_, rfl, u, _, _, _, rfl, rfl, Same.tupl S1 su, at_of' (j := 2) rfl rfl, _, _, rfl, .inr ⟨_, hq, ha.length.symm⟩, ?_⟩
        refine ⟨_, rfl, u, _, _, _, rfl, rfl, Same.tupl S1 su, at_of' (j := 3) rfl rfl, _, _, rfl, .inr ⟨_, hq3, ha3.length.symm⟩, ?_⟩
        exact ⟨_, _, rfl, rfl, k _ S1⟩
      · cases hp
    rw [c, if_neg Bool.false_ne_true] at hp
    cases hp
    exact k _ S1
/-- the promise of bounded: the tree is handed back, or refused -/
def spBounded (K : PySem.W.Frag) (CF : Addr) : Sp := fun vs H Q E => ∃ (x : V) (d : PyData) (line : Int), vs = [x, .int line] ∧ Dt K H x d ∧ line.natAbs < 2 ^ 100 ∧ match boundsD d with
  | some none => ∀ H', Same H H' → Q x H'
  | some (some z) => ∀ e H', Same H H' → H' e = some (faultD line z) → E (.ref CF) (some e) H'
  | none => False
theorem badNode_z {p : PyData × Nat} {z : Str} (h : badNode p = some (some z)) : (20 < p.2 ∧ z = "expression too deep") ∨ (¬ 20 < p.2 ∧ z = "too many parts") := by
  unfold badNode at h
  split at h
  · rename_i c
    exact .inl ⟨c, by cases h; rfl⟩
  · rename_i c
    split at h
    · split at h
      · exact .inr ⟨c, by cases h; rfl⟩
      · cases h
    · cases h
theorem ok_bounded {f : Addr} {fd : FuncData} (F : Fun K "bounded" "bounded" s_bounded f fd) (T : Txt K mg) (U_nodes : Use P w K mg base CX0 "nodes" 2 P_nodes (spNodes K)) (U_width : Use P w K mg base CX0 "width" 1 P_width (spWidth K)) (U_Fault : UseF P w K mg base CF CB) :
    FnG P w K mg base (L2.CX P w) 3 f fd P_bounded (spBounded K CF) := by
  refine okG F sc_bounded (fun vs H Q E h => ?_) fun cdv A outer s H vs Q E hr hg h => ?_
  · obtain ⟨x, d, line, rfl, _⟩ := h
    rfl
  · obtain ⟨x, d, line, rfl, dv, hl, k⟩ := h
    refine ⟨_, (pss_cons (ps_for (passes_of rfl) rfl (pi_list (pe_use U_nodes (hr.mono (by decide)) hg rfl (pa_cons (pv 0) pa_nil))) (pg_tup (by rfl) (pgs_cons (pg_name (i := 2) sc_bounded.nd rfl (Or.inl rfl)) (pgs_cons (pg_name (i := 3) sc_bounded.nd rfl (Or.inl rfl)) pgs_nil)))
   (pss_cons (ps_if (pt_cmpR op_gt (pv 3) (pe_globI T.c_MOST_LEVELS (by rfl)) (nomark _))
   (pss_one (ps_raiseF U_Fault rfl (takes_of rfl rfl rfl rfl) (hr.mono (by decide)) rfl (pa_cons (pv 1) (pa_cons pe_str pa_nil))))
   pss_nil)
  (pss_one (ps_if (pt_cmpR op_gt (pe_use U_width (hr.mono (by decide)) hg rfl (pa_cons (pv 2) pa_nil)) (pe_globI T.c_MOST_PARTS (by rfl)) (nomark _))
   (pss_one (ps_raiseF U_Fault rfl (takes_of rfl rfl rfl rfl) (hr.mono (by decide)) rfl (pa_cons (pv 1) (pa_cons pe_str pa_nil))))
   pss_nil))))
  (pss_one (ps_ret (pv 0)))), ?_⟩
    unfold boundsD at k
    by_cases hz : szD d ≤ 1000000
    case neg => rw [if_neg hz] at k; exact k.elim
    rw [if_pos hz] at k
    cases hn : nodesL (szD d + 1) [(d, 1)] [] with
    | none => rw [hn] at k; exact k.elim
    | some ns =>
      rw [hn] at k
      dsimp only at k
      have hall := nodes_all (B := 1000000) hn (fun p hp => by rw [List.mem_singleton.mp hp]; exact hz) (by simp)
      refine ⟨_, rfl, x, d, ns, rfl, dv, hz, hn, fun l H1 S1 L1 => ?_⟩
      obtain ⟨xs, ex, ax⟩ := L1
      have lx := ax.length
      rw [List.length_map] at lx
      refine ⟨l, rfl, ⟨_, SqL.of ex⟩, ?_⟩
      refine for_list (xs := xs) (fun i σ H2 => ∃ (x2 x3 : Option V), σ = [some x, some (.int line), x2, x3] ∧ Same H1 H2 ∧ match firstBad (ns.drop i) with
        | some none => ∀ H', Same H H' → Q x H'
        | some (some z) => ∀ e H', Same H H' → H' e = some (faultD line z) → E (.ref CF) (some e) H'
        | none => False) ⟨none, none, rfl, Same.refl _, k⟩ ?_ ?_ ?_
      · rintro i σ H2 _ ⟨_, _, rfl, S2, _⟩
        exact SqL.of (S2 _ _ ex)
      · rintro i y σ H2 hy ⟨x2, x3, rfl, S2, k⟩
        obtain ⟨e, he, dy⟩ := ax.getV hy
        rw [List.getElem?_map] at he
        obtain ⟨p, hp, rfl⟩ := Option.map_eq_some_iff.mp he
        have hil : i < ns.length := (List.getElem?_eq_some_iff.mp hp).1
        have ed : ns.drop i = p :: ns.drop (i + 1) := by
          rw [List.drop_eq_getElem_cons hil]
          rw [List.getElem?_eq_getElem hil] at hp
          rw [Option.some.inj hp]
        rw [ed] at k
        obtain ⟨q, a, b, rfl, hq, da, db⟩ := dt_two (dy.mono S2)
        obtain rfl := db.int_inv
        have hpz := hall p (List.mem_of_getElem? hp)
        have S12 := S1.trans S2
        refine ⟨q, _, rfl, hq, rfl, _, _, rfl, _, _, rfl, rfl, ?_⟩
        unfold firstBad at k
        refine ⟨_, rfl, _, _, rfl, rfl, _, rfl, ?_⟩
        refine ite3 (fun c => ?_) fun c => ?_
        · have c : 20 < p.2 := by have := of_decide_eq_true c; omega
          have hb : badNode p = some (some ("expression too deep" : Str)) := by unfold badNode; rw [if_pos c]
          rw [hb] at k
          exact ⟨_, rfl, _, _, rfl, hl, by decide +kernel, fun e he => k e _ (S12.trans (Same.new he)) upd_same⟩
        have c : ¬ 20 < p.2 := by have := of_decide_eq_false c; omega
        cases hw : widthD p.1 with
        | none =>
          have hb : badNode p = none := by unfold badNode; rw [if_neg c, hw]
          rw [hb] at k
          exact k.elim
        | some n =>
          refine ⟨_, rfl, a, p.1, n, rfl, da, hpz, hw, fun H3 S3 => ⟨_, _, rfl, rfl, _, rfl, ?_⟩⟩
          refine ite3 (fun c2 => ?_) fun c2 => ?_
          · have c2 : 200 < n := by have := of_decide_eq_true c2; omega
            have hb : badNode p = some (some ("too many parts" : Str)) := by unfold badNode; rw [if_neg c, hw]; dsimp only; rw [if_pos c2]
            rw [hb] at k
            exact ⟨_, rfl, _, _, rfl, hl, by decide +kernel, fun e he => k e _ ((S12.trans S3).trans (Same.new he)) upd_same⟩
          · have c2 : ¬ 200 < n := by have := of_decide_eq_false c2; omega
            have hb : badNode p = some none := by unfold badNode; rw [if_neg c, hw]; dsimp only; rw [if_neg c2]
            rw [hb] at k
            exact ⟨_, _, rfl, S2.trans S3, k⟩
      · rintro σ H2 ⟨x2, x3, rfl, S2, k⟩
        rw [lx, List.drop_length] at k
        exact ⟨_, rfl, k _ (S1.trans S2)⟩
end

section
--SPLIT
end
section
/-! statements of one line -/
def kindD : PyData → Option Str
  | .tuple (.str k :: _) => some k
  | _ => none
/-- is it a target? none: a tuple, not told here -/
def isTargetD (d : PyData) : Option Bool := match kindD d with
  | some k => if decide (V.str k = V.str "tuple") = true then none else some (inV (V.str k) [V.str "name", V.str "attr", V.str "item"])
  | none => none
def checkTargetM (d : PyData) (line : Int) : PM PyData := match isTargetD d with
  | some b => if (!b) = true then .flt line "not a target" else .ret d
  | none => .bad
def namesLoop : Nat → List PyData → PM (List PyData)
  | 0, _ => .bad
  | n + 1, ds => (skipM ",").bind fun b => if b = true then takeNameM.bind fun x => namesLoop n (ds ++ [.str x]) else .ret ds
def namesM (line : Int) : PM PyData := takeNameM.bind fun x => PM.bind (fun ts => namesLoop (ts.length + 1) [.str x] ts) fun ds => if decide (200 < ds.length) = true then .flt line "too many parts" else .ret (.tuple ds)
def rowOrNoneM (ch : PM PyData) (line : Int) : PM PyData := peekM.bind fun t => if decide (V.str t.k = V.str "newline") = true then .ret nothingD else (rowM ch).bind fun d => boundedM d line
def tgL (s : Str) (line : Int) (r : List PyData) : PyData := .tuple (.str s :: .int line :: r)
def raiseM (ch : PM PyData) (line : Int) : PM PyData := peekM.bind fun t => if decide (V.str t.k = V.str "newline") = true then .ret (tgL "raise" line [.tuple []]) else ch.bind fun d => (boundedM d line).bind fun d => .ret (tgL "raise" line [d])
def dropM (ch : PM PyData) (line : Int) : PM PyData := (primaryM ch).bind fun d => match kindD d with
  | some k => if (!inV (V.str k) [V.str "name", V.str "item"]) = true then .flt line "not a target" else (boundedM d line).bind fun d => .ret (tgL "drop" line [d])
  | none => .bad
def storeM (ch : PM PyData) (line : Int) (tree : PyData) : PM PyData := (boundedM tree line).bind fun _ => (skipM "yield").bind fun b => if b = true then (rowOrNoneM ch line).bind fun d => .ret (tgL "yield" line [tree, d]) else (rowM ch).bind fun d => (boundedM d line).bind fun d => .ret (tgL "set" line [tree, d])
def changeL (ch : PM PyData) (line : Int) (tree : PyData) : List (Str × Str) → PM PyData
  | [] => (boundedM tree line).bind fun d => .ret (tgL "do" line [d])
  | p :: r => (skipM p.1).bind fun b => if b = true then (match kindD tree with
      | some k => if (!decide (V.str k = V.str "name")) = true then .flt line "not a target" else (rowM ch).bind fun d => (boundedM d line).bind fun d => .ret (tgL "change" line [.str p.2, tree, d])
      | none => .bad) else changeL ch line tree r
def rowStmtM (ch : PM PyData) (line : Int) : PM PyData := (rowM ch).bind fun tree => (skipM "=").bind fun b => if b = true then (checkTargetM tree line).bind fun tree => storeM ch line tree else changeL ch line tree changesL
end

abbrev s_is_target : Stmt := top 19
abbrev N_is_target : List Str := ["tree", "part"]
abbrev P_is_target : List Str := ["tree"]
theorem sc_is_target : FnScope N_is_target P_is_target (defScope s_is_target) := ⟨rfl, rfl, rfl, by decide +kernel, rfl, by decide +kernel, by decide +kernel⟩
abbrev s_checked_target : Stmt := top 18
abbrev N_checked_target : List Str := ["tree", "line"]
abbrev P_checked_target : List Str := ["tree", "line"]
theorem sc_checked_target : FnScope N_checked_target P_checked_target (defScope s_checked_target) := ⟨rfl, rfl, rfl, by decide +kernel, rfl, by decide +kernel, by decide +kernel⟩
abbrev s_names : Stmt := top 41
abbrev N_names : List Str := ["reader", "line", "names"]
abbrev P_names : List Str := ["reader", "line"]
theorem sc_names : FnScope N_names P_names (defScope s_names) := ⟨rfl, rfl, rfl, by decide +kernel, rfl, by decide +kernel, by decide +kernel⟩
abbrev s_row_or_none : Stmt := top 42
abbrev N_row_or_none : List Str := ["reader", "line"]
abbrev P_row_or_none : List Str := ["reader", "line"]
theorem sc_row_or_none : FnScope N_row_or_none P_row_or_none (defScope s_row_or_none) := ⟨rfl, rfl, rfl, by decide +kernel, rfl, by decide +kernel, by decide +kernel⟩
abbrev s_raise : Stmt := top 43
abbrev N_raise : List Str := ["reader", "line"]
abbrev P_raise : List Str := ["reader", "line"]
theorem sc_raise : FnScope N_raise P_raise (defScope s_raise) := ⟨rfl, rfl, rfl, by decide +kernel, rfl, by decide +kernel, by decide +kernel⟩
abbrev s_drop : Stmt := top 44
abbrev N_drop : List Str := ["reader", "line", "tree"]
abbrev P_drop : List Str := ["reader", "line"]
theorem sc_drop : FnScope N_drop P_drop (defScope s_drop) := ⟨rfl, rfl, rfl, by decide +kernel, rfl, by decide +kernel, by decide +kernel⟩
abbrev s_row_statement : Stmt := top 45
abbrev N_row_statement : List Str := ["reader", "line", "tree", "sign"]
abbrev P_row_statement : List Str := ["reader", "line"]
theorem sc_row_statement : FnScope N_row_statement P_row_statement (defScope s_row_statement) := ⟨rfl, rfl, rfl, by decide +kernel, rfl, by decide +kernel, by decide +kernel⟩
abbrev s_store : Stmt := top 46
abbrev N_store : List Str := ["reader", "line", "tree"]
abbrev P_store : List Str := ["reader", "line", "tree"]
theorem sc_store : FnScope N_store P_store (defScope s_store) := ⟨rfl, rfl, rfl, by decide +kernel, rfl, by decide +kernel, by decide +kernel⟩
section
variable {P : Program} {w : World} {K : PySem.W.Frag} {mg : Str → Option Value} {base : Heap} {C CF CB tl : Addr}
theorem kind_inv {H : Hp} {v : V} {d : PyData} {k : Str} (h : Dt K H v d) (e : kindD d = some k) : ∃ u xs, v = .ref u ∧ SqT K H u (.str k :: xs) := by
  unfold kindD at e
  split at e
  · cases e
    obtain ⟨u, xs, rfl, su, ax⟩ := h.tuple_inv
    obtain ⟨a, ys, rfl, da, ay⟩ := ax.cons_inv
    obtain rfl := da.str_inv
    exact ⟨u, ys, rfl, su⟩
  · cases e
theorem boundedOk {x : V} {d : PyData} {line : Int} {ra : Addr} {ts : List Tk} {H H0 : Hp} {ok : PyData → List Tk → Prop} {Q : VK} {E : XK} (dx : Dt K H x d) (hl : line.natAbs < 2 ^ 100) (kp : Keep ra H0 H) (k : Out (boundedM d line ts) ok (FlP CF ra H0 E)) (h : ok d ts → ∀ H', Same H H' → Q x H') :
    spBounded K CF [x, .int line] H Q E := by
  refine ⟨x, d, line, rfl, dx, hl, ?_⟩
  unfold boundedM at k
  split at k
  · exact h k
  · exact fun a H' S he => k a H' (kp.trans (LK.Same.keep S)) he
  · exact k.elim
theorem boundedI {d d' : PyData} {line : Int} {ts r : List Tk} (h : boundedM d line ts = .ok d' r) : d' = d ∧ r = ts := by
  unfold boundedM at h
  split at h <;> cases h
  exact ⟨rfl, rfl⟩
theorem Out.bnd {α : Type} {d : PyData} {line : Int} {f : PyData → PM α} {ts : List Tk} {ok : α → List Tk → Prop} {fl : Int → Str → Prop} (h : Out ((boundedM d line).bind f ts) ok fl) : Out (boundedM d line ts) (fun a r => Out (f d ts) ok fl) fl := by
  have h2 := h.bind
  clear h
  cases e : boundedM d line ts with
  | ok a r =>
    rw [e] at h2
    obtain ⟨e1, e2⟩ := boundedI e
    rw [e1, e2] at h2
    exact h2
  | flt l s => rw [e] at h2; exact h2
  | bad => rw [e] at h2; exact h2
def spIsT (K : PySem.W.Frag) : Sp := fun vs H Q _ => ∃ (x : V) (d : PyData) (b : Bool), vs = [x] ∧ Dt K H x d ∧ isTargetD d = some b ∧ ∀ H', Same H H' → Q (.bl b) H'
theorem ok_istarget {f : Addr} {fd : FuncData} (F : Fun K "_is_target" "_is_target" s_is_target f fd) (T : Txt K mg) : FnG P w K mg base CX0 1 f fd P_is_target (spIsT K) := by
  refine okG0 F sc_is_target (fun vs H Q E h => ?_) fun cdv A outer s H vs Q E hr hg h => ?_
  · obtain ⟨x, d, b, rfl, _⟩ := h
    rfl
  · obtain ⟨x, d, b, rfl, dx, hb, k⟩ := h
    refine ⟨_, (pss_cons (ps_if (pt_cmpR op_eq (pe_ix ix_tup (pv 0) pe_int (fun _ _ => rfl)) pe_str (nomark _))
   pss_never
   pss_nil)
  (pss_one (ps_ret (pe_cmpR op_in_seq (pe_ix ix_tup (pv 0) pe_int (fun _ _ => rfl)) (pe_tup (pa_cons pe_str (pa_cons pe_str (pa_cons pe_str pa_nil)))) (by rfl))))), ?_⟩
    unfold isTargetD at hb
    cases hk : kindD d with
    | none => rw [hk] at hb; cases hb
    | some kd =>
      rw [hk] at hb
      dsimp only at hb
      obtain ⟨u, xs, rfl, su⟩ := kind_inv dx hk
      cases c : decide (V.str kd = V.str "tuple") with
      | true => rw [c] at hb; cases hb
      | false =>
        rw [c, if_neg Bool.false_ne_true] at hb
        cases hb
        refine ⟨_, rfl, u, _, _, _, rfl, rfl, su, at0, rfl, _, rfl, iteFb c ?_⟩
        exact ⟨_, rfl, u, _, _, _, rfl, rfl, su, at0, sz_3, fun p hp => ⟨p, _, rfl, .inr (SqT.of upd_same), rfl, rfl, k _ (Same.new hp)⟩⟩
/-- the promise of checked_target -/
def spCheckT (K : PySem.W.Frag) (CF : Addr) : Sp := fun vs H Q E => ∃ (x : V) (d : PyData) (line : Int), vs = [x, .int line] ∧ Dt K H x d ∧ line.natAbs < 2 ^ 100 ∧ match isTargetD d with
  | some true => ∀ H', Same H H' → Q x H'
  | some false => ∀ e H', Same H H' → H' e = some (faultD line "not a target") → E (.ref CF) (some e) H'
  | none => False
theorem ok_checkt {f : Addr} {fd : FuncData} (F : Fun K "checked_target" "checked_target" s_checked_target f fd) (T : Txt K mg) (U_is_target : Use P w K mg base CX0 "_is_target" 1 P_is_target (spIsT K)) (U_Fault : UseF P w K mg base CF CB) : FnG P w K mg base (L2.CX P w) 3 f fd P_checked_target (spCheckT K CF) := by
  refine okG F sc_checked_target (fun vs H Q E h => ?_) fun cdv A outer s H vs Q E hr hg h => ?_
  · obtain ⟨x, d, line, rfl, _⟩ := h
    rfl
  · obtain ⟨x, d, line, rfl, dx, hl, k⟩ := h
    refine ⟨_, (pss_cons (ps_if (pt_not (pt_val (pe_use U_is_target (hr.mono (by decide)) hg rfl (pa_cons (pv 0) pa_nil))))
   (pss_one (ps_raiseF U_Fault rfl (takes_of rfl rfl rfl rfl) (hr.mono (by decide)) rfl (pa_cons (pv 1) (pa_cons pe_str pa_nil))))
   pss_nil)
  (pss_one (ps_ret (pv 0)))), ?_⟩
    cases hb : isTargetD d with
    | none => rw [hb] at k; exact k.elim
    | some b =>
      rw [hb] at k
      refine ⟨_, rfl, x, d, b, rfl, dx, hb, fun H1 S1 => ⟨_, rfl, ?_⟩⟩
      cases b with
      | true => exact iteFb rfl ⟨_, rfl, k _ S1⟩
      | false => exact iteTb rfl ⟨_, rfl, _, _, rfl, hl, by decide +kernel, fun e he => k e _ (S1.trans (Same.new he)) upd_same⟩
/-- the promise of a def that reads behind the statement's line -/
def spPL (K : PySem.W.Frag) (C CF : Addr) (m : Int → PM PyData) : Sp := fun vs H Q E => ∃ (ra tl : Addr) (ts : List Tk) (line : Int), vs = [.ref ra, .int line] ∧ RdAt K C tl ts ra H ∧ line.natAbs < 2 ^ 100 ∧ Out (m line ts) (OkP K C tl ra (fun d => d) H Q) (FlP CF ra H E)
theorem ok_rownone {ke : Nat} (hk : 5 ≤ ke) {ch : PM PyData} {f : Addr} {fd : FuncData} (F : Fun K "_row_or_none" "_row_or_none" s_row_or_none f fd) (T : Txt K mg) (UC_Reader : UseC K mg "Reader" fRd C) (U_Reader_found_kind : UseM P w K mg base CX0 C "found_kind" 1 P_Reader_found_kind (spKind K C)) (U_bounded : Use P w K mg base (L2.CX P w) "bounded" 3 P_bounded (spBounded K CF)) (U_row : Use P w K mg base (L2.CX P w) "row" ke P_row (spP K C CF (rowM ch))) :
    FnG P w K mg base (L2.CX P w) (ke + 1) f fd P_row_or_none (spPL K C CF (rowOrNoneM ch)) := by
  refine okG F sc_row_or_none (fun vs H Q E h => ?_) fun cdv A outer s H vs Q E hr hg h => ?_
  · obtain ⟨ra, tl, ts, line, rfl, _⟩ := h
    rfl
  · obtain ⟨ra, tl, ts, line, rfl, R, hl, k⟩ := h
    refine ⟨_, (pss_cons (ps_if (pt_cmpR op_eq (pe_mc0 UC_Reader U_Reader_found_kind pass0 (hr.mono (by omega)) hg (pv 0)) pe_str (nomark _))
   (pss_one (ps_ret (pe_globD T.c_NOTHING (by rfl))))
   pss_nil)
  (pss_one (ps_ret (pe_useR U_bounded (takes_of rfl rfl rfl rfl) (hr.mono (by omega)) hg rfl (pa_cons (pe_useR U_row (takes_of rfl rfl rfl rfl) (hr.mono (by omega)) hg rfl (pa_cons (pv 0) pa_nil)) (pa_cons (pv 1) pa_nil)))))), ?_⟩
    unfold rowOrNoneM at k
    obtain ⟨t, r, rfl, k⟩ := Out.peek' k
    refine rd_kind R rfl ⟨rfl, _, rfl, ?_⟩
    refine ite3 (fun c => ?_) fun c => ?_
    · exact fun lo hlo => (k.yes c) _ _ R (Keep.refl _ _) (hlo _)
    · refine ⟨_, rfl, ra, tl, _, rfl, R, (k.no c).bind.mono (fun d ts1 k v H1 R1 kp1 dv => ?_) fun _ _ h => h⟩
      exact ⟨_, rfl, boundedOk dv hl kp1 k fun k H2 S2 => k v H2 (R1.same S2) (kp1.trans (LK.Same.keep S2)) (dv.mono S2)⟩
def spStore (K : PySem.W.Frag) (C CF : Addr) (ch : PM PyData) : Sp := fun vs H Q E => ∃ (ra tl : Addr) (ts : List Tk) (line : Int) (x : V) (tree : PyData), vs = [.ref ra, .int line, x] ∧ RdAt K C tl ts ra H ∧ line.natAbs < 2 ^ 100 ∧ Dt K H x tree ∧ Out (storeM ch line tree ts) (OkP K C tl ra (fun d => d) H Q) (FlP CF ra H E)
theorem ok_store {ke : Nat} (hk : 5 ≤ ke) {ch : PM PyData} {f : Addr} {fd : FuncData} (F : Fun K "_store" "_store" s_store f fd) (T : Txt K mg) (UC_Reader : UseC K mg "Reader" fRd C) (U_Reader_skip : UseM P w K mg base CX0 C "skip" 3 P_Reader_skip (spSkip K C)) (U_bounded : Use P w K mg base (L2.CX P w) "bounded" 3 P_bounded (spBounded K CF)) (U_row : Use P w K mg base (L2.CX P w) "row" ke P_row (spP K C CF (rowM ch)))
    (U_row_or_none : Use P w K mg base (L2.CX P w) "_row_or_none" (ke + 1) P_row_or_none (spPL K C CF (rowOrNoneM ch))) : FnG P w K mg base (L2.CX P w) (ke + 2) f fd P_store (spStore K C CF ch) := by
  refine okG F sc_store (fun vs H Q E h => ?_) fun cdv A outer s H vs Q E hr hg h => ?_
  · obtain ⟨ra, tl, ts, line, x, tree, rfl, _⟩ := h
    rfl
  · obtain ⟨ra, tl, ts, line, x, tree, rfl, R, hl, dx, k⟩ := h
    refine ⟨_, (pss_cons (ps_expr (pe_useR U_bounded (takes_of rfl rfl rfl rfl) (hr.mono (by omega)) hg rfl (pa_cons (pv 2) (pa_cons (pv 1) pa_nil))))
  (pss_cons (ps_if (pt_val (pe_mc UC_Reader U_Reader_skip pass0 (hr.mono (by omega)) hg (pv 0) (pa_cons pe_str pa_nil)))
   (pss_one (ps_ret (pe_tup (pa_cons pe_str (pa_cons (pv 1) (pa_cons (pv 2) (pa_cons (pe_useR U_row_or_none (takes_of rfl rfl rfl rfl) (hr.mono (by omega)) hg rfl (pa_cons (pv 0) (pa_cons (pv 1) pa_nil))) pa_nil)))))))
   pss_nil)
  (pss_one (ps_ret (pe_tup (pa_cons pe_str (pa_cons (pv 1) (pa_cons (pv 2) (pa_cons (pe_useR U_bounded (takes_of rfl rfl rfl rfl) (hr.mono (by omega)) hg rfl (pa_cons (pe_useR U_row (takes_of rfl rfl rfl rfl) (hr.mono (by omega)) hg rfl (pa_cons (pv 0) pa_nil)) (pa_cons (pv 1) pa_nil))) pa_nil))))))))), ?_⟩
    unfold storeM at k
    refine ⟨_, rfl, _, rfl, boundedOk dx hl (Keep.refl _ _) k.bnd fun k H1 S1 => ?_⟩
    have R1 := R.same S1
    have kp1 : Keep ra H H1 := LK.Same.keep S1
    refine rd_skip R1 rfl ((Out.skip k).mono (fun b ts2 k H2 R2 kp2 => ?_) fun _ _ h => h)
    have dx2 := (dx.mono S1).keepT (R1.keepT kp2)
    have kp2 := kp1.trans kp2
    refine ⟨_, rfl, ?_⟩
    cases b with
    | true =>
      refine iteTb rfl ?_
      refine ⟨_, rfl, _, rfl, _, rfl, _, rfl, ra, tl, ts2, line, rfl, R2, hl, (k.yes rfl).bind.mono (fun d ts3 k v H3 R3 kp3 dv => ?_) fun _ _ => FlP.keep kp2⟩
      exact ⟨sz_4, fun q hq => okTup k R3 (kp2.trans kp3) hq (.cons (.str _) (.cons (.int _) (.cons (dx2.keepT (R2.keepT kp3)) (.cons dv .nil)))) rfl⟩
    | false =>
      refine iteFb rfl ?_
      refine ⟨_, rfl, _, rfl, _, rfl, ra, tl, ts2, rfl, R2, (k.no rfl).bind.mono (fun d ts3 k v H3 R3 kp3 dv => ?_) fun _ _ => FlP.keep kp2⟩
      have kp3' := kp2.trans kp3
      refine ⟨_, rfl, boundedOk dv hl kp3' k.bnd fun k H4 S4 => ?_⟩
      exact ⟨sz_4, fun q hq => okTup k (R3.same S4) (kp3'.trans (LK.Same.keep S4)) hq (.cons (.str _) (.cons (.int _) (.cons ((dx2.keepT (R2.keepT kp3)).mono S4) (.cons (dv.mono S4) .nil)))) rfl⟩
theorem ok_rowstmt {ke : Nat} (hk : 5 ≤ ke) {ch : PM PyData} {f : Addr} {fd : FuncData} (F : Fun K "_row_statement" "_row_statement" s_row_statement f fd) (T : Txt K mg) (UC_Reader : UseC K mg "Reader" fRd C) (U_Reader_skip : UseM P w K mg base CX0 C "skip" 3 P_Reader_skip (spSkip K C)) (U_bounded : Use P w K mg base (L2.CX P w) "bounded" 3 P_bounded (spBounded K CF)) (U_row : Use P w K mg base (L2.CX P w) "row" ke P_row (spP K C CF (rowM ch)))
    (U_checked_target : Use P w K mg base (L2.CX P w) "checked_target" 3 P_checked_target (spCheckT K CF)) (U_store : Use P w K mg base (L2.CX P w) "_store" (ke + 2) P_store (spStore K C CF ch)) (U_Fault : UseF P w K mg base CF CB) : FnG P w K mg base (L2.CX P w) (ke + 3) f fd P_row_statement (spPL K C CF (rowStmtM ch)) := by
  refine okG F sc_row_statement (fun vs H Q E h => ?_) fun cdv A outer s H vs Q E hr hg h => ?_
  · obtain ⟨ra, tl, ts, line, rfl, _⟩ := h
    rfl
  · obtain ⟨ra, tl, ts, line, rfl, R, hl, k⟩ := h
    refine ⟨_, (pss_cons (ps_set (i := 2) sc_row_statement.nd rfl (Or.inl rfl) (pe_useR U_row (takes_of rfl rfl rfl rfl) (hr.mono (by omega)) hg rfl (pa_cons (pv 0) pa_nil)))
  (pss_cons (ps_if (pt_val (pe_mc UC_Reader U_Reader_skip pass0 (hr.mono (by omega)) hg (pv 0) (pa_cons pe_str pa_nil)))
   (pss_one (ps_ret (pe_useR U_store (takes_of rfl rfl rfl rfl) (hr.mono (by omega)) hg rfl (pa_cons (pv 0) (pa_cons (pv 1) (pa_cons (pe_useR U_checked_target (takes_of rfl rfl rfl rfl) (hr.mono (by omega)) hg rfl (pa_cons (pv 2) (pa_cons (pv 1) pa_nil))) pa_nil))))))
   pss_nil)
  (pss_cons (ps_for (passes_of rfl) rfl (pi_tup (pe_globT T.c_CHANGES (by rfl))) (pg_name (i := 3) sc_row_statement.nd rfl (Or.inl rfl))
   (pss_one (ps_if (pt_val (pe_mc UC_Reader U_Reader_skip pass0 (hr.mono (by omega)) hg (pv 0) (pa_cons (pv 3) pa_nil)))
   (pss_cons (ps_if (pt_cmpR op_ne (pe_ix ix_tup (pv 2) pe_int (fun _ _ => rfl)) pe_str (nomark _))
   (pss_one (ps_raiseF U_Fault rfl (takes_of rfl rfl rfl rfl) (hr.mono (by omega)) rfl (pa_cons (pv 1) (pa_cons pe_str pa_nil))))
   pss_nil)
  (pss_one (ps_ret (pe_tup (pa_cons pe_str (pa_cons (pv 1) (pa_cons (pe_slice sl_str (pv 3) po_none (po_some (pe_un un_neg pe_int))) (pa_cons (pv 2) (pa_cons (pe_useR U_bounded (takes_of rfl rfl rfl rfl) (hr.mono (by omega)) hg rfl (pa_cons (pe_useR U_row (takes_of rfl rfl rfl rfl) (hr.mono (by omega)) hg rfl (pa_cons (pv 0) pa_nil)) (pa_cons (pv 1) pa_nil))) pa_nil)))))))))
   pss_nil)))
  (pss_one (ps_ret (pe_tup (pa_cons pe_str (pa_cons (pv 1) (pa_cons (pe_useR U_bounded (takes_of rfl rfl rfl rfl) (hr.mono (by omega)) hg rfl (pa_cons (pv 2) (pa_cons (pv 1) pa_nil))) pa_nil))))))))), ?_⟩
    unfold rowStmtM at k
    refine ⟨_, rfl, ra, tl, ts, rfl, R, k.bind.mono (fun tree ts1 k v H1 R1 kp1 dv => ?_) fun _ _ h => h⟩
    refine rd_skip R1 rfl ((Out.skip k).mono (fun b ts2 k H2 R2 kp2 => ?_) fun _ _ h => h)
    have dv2 := dv.keepT (R1.keepT kp2)
    have kp2 := kp1.trans kp2
    refine ⟨_, rfl, ?_⟩
    cases b with
    | true =>
      refine iteTb rfl ?_
      have k := k.yes rfl
      refine ⟨_, rfl, _, rfl, _, rfl, _, rfl, v, tree, line, rfl, dv2, hl, ?_⟩
      unfold checkTargetM at k
      cases hb : isTargetD tree with
      | none => rw [hb] at k; exact k.elim
      | some b =>
        rw [hb] at k
        cases b with
        | true =>
          intro H3 S3
          have k : Out (storeM ch line tree ts2) (OkP K C tl ra (fun d => d) H Q) (FlP CF ra H E) := k
          have kp3 := kp2.trans (LK.Same.keep S3)
          exact ⟨ra, tl, ts2, line, v, tree, rfl, R2.same S3, hl, dv2.mono S3, k.mono (fun _ _ => OkP.keep kp3) fun _ _ => FlP.keep kp3⟩
        | false => exact fun e H' S he => (show FlP CF ra H E line "not a target" from k) e H' (kp2.trans (LK.Same.keep S)) he
    | false =>
      refine iteFb rfl ?_
      have k := k.no rfl
      refine fun ac kc => ⟨ac, rfl, ⟨_, kc.sq _⟩, ?_⟩
      refine for_it (walk_tup (xs := changesL.map fun p => V.str p.1)) (fun i σ H3 => ∃ (x3 : Option V) (ts3 : List Tk), σ = [some (.ref ra), some (.int line), some v, x3] ∧ RdAt K C tl ts3 ra H3 ∧ Keep ra H H3 ∧ Dt K H3 v tree ∧ Out (changeL ch line tree (changesL.drop i) ts3) (OkP K C tl ra (fun d => d) H Q) (FlP CF ra H E)) ⟨none, _, rfl, R2, kp2, dv2, k⟩ (fun _ _ _ _ _ => kc.sq _) ?_ ?_
      · rintro i x σ H3 H4 hi ⟨x3, ts3, rfl, R3, kp3, dv3, k⟩ ⟨rfl, hx⟩
        rw [List.getElem?_map] at hx
        obtain ⟨z, hz, rfl⟩ := Option.map_eq_some_iff.mp hx
        have hil : i < changesL.length := (List.getElem?_eq_some_iff.mp hz).1
        have ed : changesL.drop i = z :: changesL.drop (i + 1) := by
          rw [List.drop_eq_getElem_cons hil]
          rw [List.getElem?_eq_getElem hil] at hz
          rw [Option.some.inj hz]
        have hcut : cutS z.1 none (some (-1)) = z.2 ∧ z.1.length ≤ sizeLine := by
          have : ∀ z ∈ changesL, cutS z.1 none (some (-1)) = z.2 ∧ z.1.length ≤ 10 := by decide +kernel
          obtain ⟨a, b⟩ := this z (List.mem_of_getElem? hz)
          exact ⟨a, Nat.le_trans b (by decide)⟩
        rw [ed] at k
        refine rd_skipV R3 rfl rfl ((Out.skip k).mono (fun b ts4 k H5 R5 kp5 => ?_) fun _ _ h => h)
        have dv5 := dv3.keepT (R3.keepT kp5)
        have kp5 := kp3.trans kp5
        refine ⟨_, rfl, ?_⟩
        cases b with
        | false => exact iteFb rfl ⟨_, ts4, rfl, R5, kp5, dv5, k.no rfl⟩
        | true =>
          refine iteTb rfl ?_
          have k := k.yes rfl
          cases hk : kindD tree with
          | none => rw [hk] at k; exact k.elim
          | some kd =>
            rw [hk] at k
            dsimp only at k
            obtain ⟨u, xs, rfl, su⟩ := kind_inv dv5 hk
            refine ⟨_, rfl, u, _, _, _, rfl, rfl, su, at0, rfl, _, rfl, ?_⟩
            refine ite3 (fun c => ?_) fun c => ?_
            · exact ⟨_, rfl, _, _, rfl, hl, by decide +kernel, flInv K kp5 (k.yes c)⟩
            · refine ⟨_, rfl, _, rfl, _, rfl, _, rfl, _, rfl, hcut.2, ?_⟩
              rw [hcut.1]
              refine ⟨_, rfl, _, rfl, ra, tl, ts4, rfl, R5, (k.no c).bind.mono (fun d ts6 k v6 H6 R6 kp6 dv6 => ?_) fun _ _ => FlP.keep kp5⟩
              have kp6' := kp5.trans kp6
              refine ⟨_, rfl, boundedOk dv6 hl kp6' k.bnd fun k H7 S7 => ?_⟩
              exact ⟨sz_5, fun q hq => okTup k (R6.same S7) (kp6'.trans (LK.Same.keep S7)) hq (.cons (.str _) (.cons (.int _) (.cons (.str _) (.cons ((dv5.keepT (R5.keepT kp6)).mono S7) (.cons (dv6.mono S7) .nil))))) rfl⟩
      rintro σ H3 ⟨x3, ts3, rfl, R3, kp3, dv3, k⟩
      have k : Out (changeL ch line tree [] ts3) (OkP K C tl ra (fun d => d) H Q) (FlP CF ra H E) := by
        rw [List.length_map, List.drop_length] at k
        exact k
      unfold changeL at k
      refine ⟨_, rfl, _, rfl, _, rfl, boundedOk dv3 hl kp3 k.bnd fun k H4 S4 => ?_⟩
      exact ⟨sz_3, fun q hq => okTup k (R3.same S4) (kp3.trans (LK.Same.keep S4)) hq (.cons (.str _) (.cons (.int _) (.cons (dv3.mono S4) .nil))) rfl⟩
theorem ok_names {f : Addr} {fd : FuncData} (F : Fun K "_names" "_names" s_names f fd) (T : Txt K mg) (UC_Reader : UseC K mg "Reader" fRd C) (U_Reader_skip : UseM P w K mg base CX0 C "skip" 3 P_Reader_skip (spSkip K C)) (U_Reader_take_name : UseM P w K mg base (L2.CX P w) C "take_name" 4 P_Reader_take_name (spTakeName K C CF)) (U_Fault : UseF P w K mg base CF CB) :
    FnG P w K mg base (L2.CX P w) 5 f fd P_names (spPL K C CF namesM) := by
  refine okG F sc_names (fun vs H Q E h => ?_) fun cdv A outer s H vs Q E hr hg h => ?_
  · obtain ⟨ra, tl, ts, line, rfl, _⟩ := h
    rfl
  · obtain ⟨ra, tl, ts, line, rfl, R, hl, k⟩ := h
    refine ⟨_, (pss_cons (ps_set (i := 2) sc_names.nd rfl (Or.inl rfl) (pe_lst (pa_cons (pe_mc0 UC_Reader U_Reader_take_name (passes_call (takes_of rfl rfl rfl rfl) fun _ _ _ _ h => h) (hr.mono (by decide)) hg (pv 0)) pa_nil)))
  (pss_cons (ps_while (passes_of rfl) (pt_up (pt_val (pe_mc UC_Reader U_Reader_skip pass0 (hr.mono (by decide)) hg (pv 0) (pa_cons pe_str pa_nil))))
   (pss_one (ps_expr (pe_bm PySem.F.plainAttrs_list PySem.F.slot_list_append PySem.F.type_list_append mt_append (pv 2) (pa_cons (pe_mc0 UC_Reader U_Reader_take_name (passes_call (takes_of rfl rfl rfl rfl) fun _ _ _ _ h => h) (hr.mono (by decide)) hg (pv 0)) pa_nil)))))
  (pss_cons (ps_if (pt_cmpR op_gt (pe_callB call_len (by rfl) T.b_len PySem.boot_len (pa_cons (pv 2) pa_nil)) (pe_globI T.c_MOST_PARTS (by rfl)) (nomark _))
   (pss_one (ps_raiseF U_Fault rfl (takes_of rfl rfl rfl rfl) (hr.mono (by decide)) rfl (pa_cons (pv 1) (pa_cons pe_str pa_nil))))
   pss_nil)
  (pss_one (ps_ret (pe_callTy call_tuple_of (by rfl) T.b_tuple (by decide +kernel) (pa_cons (pv 2) pa_nil))))))), ?_⟩
    unfold namesM at k
    refine rd_takename R rfl (k.bind.mono (fun z ts1 k v H1 R1 kp1 dv => ?_) fun _ _ h => h)
    obtain rfl := dv.str_inv
    refine ⟨sz_1, fun ml hml => ?_⟩
    obtain ⟨n1, n2⟩ := R1.ne hml
    have h0 := keep_none kp1 hml n1
    have S1 := Same.new (o := .lst [V.str z]) hml
    have R2 := R1.same S1
    have L2 : ListAt K (upd H1 ml (.lst [V.str z])) ml [.str z] := ⟨_, upd_same, .cons (.str _) .nil⟩
    have kp2 := kp1.trans (LK.Same.keep S1)
    generalize upd H1 ml (.lst [V.str z]) = H2 at R2 L2 kp2
    have hl1 := R1.len
    refine while_upN (fun m σ H3 => ∃ (ds : List PyData) (ts3 : List Tk), σ = [some (.ref ra), some (.int line), some (.ref ml)] ∧ RdAt K C tl ts3 ra H3 ∧ Keep ra H H3 ∧ ListAt K H3 ml ds ∧ m + ds.length ≤ 90010 ∧ Out (namesLoop m ds ts3) (fun ds r => Out ((if decide (200 < ds.length) = true then .flt line "too many parts" else .ret (.tuple ds) : PM PyData) r) (OkP K C tl ra (fun d => d) H Q) (FlP CF ra H E)) (FlP CF ra H E))
      ⟨_, [.str z], ts1, rfl, R2, kp2, L2, by simp; omega, k.bind⟩ ?_
    rintro m σ H3 ⟨ds, ts3, rfl, R3, kp3, L3, hm, k⟩
    cases m with
    | zero => exact k.elim
    | succ m =>
      refine rd_skip R3 rfl ((Out.skip k).mono (fun b ts4 k H4 R4 kp4 => ?_) fun _ _ h => h)
      refine ⟨_, rfl, ?_⟩
      have L4 := lsKp L3 R3 kp4 n1
      have kp34 := kp3.trans kp4
      cases b with
      | false =>
        refine iteFb rfl ?_
        have k : Out (_ : Res PyData) _ _ := k.no rfl
        obtain ⟨xs, e4, l4, a4⟩ := ls_lt L4 (by omega)
        have lx := a4.length
        refine ⟨_, rfl, _, _, rfl, .inl ⟨_, SqL.of e4, rfl⟩, _, _, rfl, rfl, _, rfl, ?_⟩
        rw [lx]
        refine ite3 (fun c => ?_) fun c => ?_
        · have c : decide (200 < ds.length) = true := by have := of_decide_eq_true c; exact decide_eq_true (by omega)
          exact ⟨_, rfl, _, _, rfl, hl, by decide +kernel, flInv K kp34 (k.yes c)⟩
        · have c : decide (200 < ds.length) = false := by have := of_decide_eq_false c; exact decide_eq_false (by omega)
          exact ⟨_, rfl, ml, xs, rfl, .inl ⟨SqL.of e4, fun q hq => okTup (k.no c) R4 kp34 hq a4 rfl⟩⟩
      | true =>
        refine iteTb rfl ?_
        obtain ⟨xs, e4, l4, a4⟩ := ls_lt L4 (by omega)
        refine ⟨_, rfl, .inl ⟨rfl, _, SqL.of e4⟩, rd_takename R4 rfl ((k.yes rfl).bind.mono (fun y ts6 k v6 H6 R6 kp6 dv6 => ?_) fun _ _ => FlP.keep kp34)⟩
        have L6 := lsKp L4 R4 kp6 n1
        obtain ⟨xs6, e6, l6, a6⟩ := ls_lt L6 (by omega)
        exact ⟨ml, xs6, v6, rfl, rfl, e6, l6, m, Nat.lt_succ_self _, ds ++ [.str y], ts6, rfl, R6.upd e6 n1 n2, keepN (kp34.trans kp6) h0, listAt_app L6 e6 dv6, by simp; omega, k⟩
theorem ok_raise {ke : Nat} (hk : 5 ≤ ke) {ch : PM PyData} {f : Addr} {fd : FuncData} (F : Fun K "_raise" "_raise" s_raise f fd) (T : Txt K mg) (UC_Reader : UseC K mg "Reader" fRd C) (U_Reader_found_kind : UseM P w K mg base CX0 C "found_kind" 1 P_Reader_found_kind (spKind K C)) (U_bounded : Use P w K mg base (L2.CX P w) "bounded" 3 P_bounded (spBounded K CF)) (U_choice : Use P w K mg base (L2.CX P w) "choice" ke P_choice (spP K C CF ch)) :
    FnG P w K mg base (L2.CX P w) (ke + 1) f fd P_raise (spPL K C CF (raiseM ch)) := by
  refine okG F sc_raise (fun vs H Q E h => ?_) fun cdv A outer s H vs Q E hr hg h => ?_
  · obtain ⟨ra, tl, ts, line, rfl, _⟩ := h
    rfl
  · obtain ⟨ra, tl, ts, line, rfl, R, hl, k⟩ := h
    refine ⟨_, (pss_cons (ps_if (pt_cmpR op_eq (pe_mc0 UC_Reader U_Reader_found_kind pass0 (hr.mono (by omega)) hg (pv 0)) pe_str (nomark _))
   (pss_one (ps_ret (pe_tup (pa_cons pe_str (pa_cons (pv 1) (pa_cons (pe_tup pa_nil) pa_nil))))))
   pss_nil)
  (pss_one (ps_ret (pe_tup (pa_cons pe_str (pa_cons (pv 1) (pa_cons (pe_useR U_bounded (takes_of rfl rfl rfl rfl) (hr.mono (by omega)) hg rfl (pa_cons (pe_useR U_choice (takes_of rfl rfl rfl rfl) (hr.mono (by omega)) hg rfl (pa_cons (pv 0) pa_nil)) (pa_cons (pv 1) pa_nil))) pa_nil))))))), ?_⟩
    unfold raiseM at k
    obtain ⟨t, r, rfl, k⟩ := Out.peek' k
    refine rd_kind R rfl ⟨rfl, _, rfl, ?_⟩
    refine ite3 (fun c => ?_) fun c => ?_
    · exact ⟨_, rfl, sz_0, fun u hu => ⟨sz_3, fun q hq => okTup (k.yes c) (R.same (Same.new hu)) (LK.Same.keep (Same.new hu)) hq (.cons (.str _) (.cons (.int _) (.cons (Dt.made hu .nil) .nil))) rfl⟩⟩
    · refine ⟨_, rfl, _, rfl, ra, tl, _, rfl, R, (k.no c).bind.mono (fun d ts1 k v H1 R1 kp1 dv => ?_) fun _ _ h => h⟩
      refine ⟨_, rfl, boundedOk dv hl kp1 k.bnd fun k H2 S2 => ?_⟩
      exact ⟨sz_3, fun q hq => okTup k (R1.same S2) (kp1.trans (LK.Same.keep S2)) hq (.cons (.str _) (.cons (.int _) (.cons (dv.mono S2) .nil))) rfl⟩
theorem ok_drop {ke : Nat} (hk : 5 ≤ ke) {ch : PM PyData} {f : Addr} {fd : FuncData} (F : Fun K "_drop" "_drop" s_drop f fd) (T : Txt K mg) (UC_Reader : UseC K mg "Reader" fRd C) (U_bounded : Use P w K mg base (L2.CX P w) "bounded" 3 P_bounded (spBounded K CF)) (U_primary : Use P w K mg base (L2.CX P w) "primary" ke P_primary (spP K C CF (primaryM ch))) (U_Fault : UseF P w K mg base CF CB) :
    FnG P w K mg base (L2.CX P w) (ke + 1) f fd P_drop (spPL K C CF (dropM ch)) := by
  refine okG F sc_drop (fun vs H Q E h => ?_) fun cdv A outer s H vs Q E hr hg h => ?_
  · obtain ⟨ra, tl, ts, line, rfl, _⟩ := h
    rfl
  · obtain ⟨ra, tl, ts, line, rfl, R, hl, k⟩ := h
    refine ⟨_, (pss_cons (ps_set (i := 2) sc_drop.nd rfl (Or.inl rfl) (pe_useR U_primary (takes_of rfl rfl rfl rfl) (hr.mono (by omega)) hg rfl (pa_cons (pv 0) pa_nil)))
  (pss_cons (ps_if (pt_cmpR op_notIn_seq (pe_ix ix_tup (pv 2) pe_int (fun _ _ => rfl)) (pe_tup (pa_cons pe_str (pa_cons pe_str pa_nil))) (by rfl))
   (pss_one (ps_raiseF U_Fault rfl (takes_of rfl rfl rfl rfl) (hr.mono (by omega)) rfl (pa_cons (pv 1) (pa_cons pe_str pa_nil))))
   pss_nil)
  (pss_one (ps_ret (pe_tup (pa_cons pe_str (pa_cons (pv 1) (pa_cons (pe_useR U_bounded (takes_of rfl rfl rfl rfl) (hr.mono (by omega)) hg rfl (pa_cons (pv 2) (pa_cons (pv 1) pa_nil))) pa_nil)))))))), ?_⟩
    unfold dropM at k
    refine ⟨_, rfl, ra, tl, _, rfl, R, k.bind.mono (fun d ts1 k v H1 R1 kp1 dv => ?_) fun _ _ h => h⟩
    cases hk : kindD d with
    | none => rw [hk] at k; exact k.elim
    | some kd =>
      rw [hk] at k
      dsimp only at k
      obtain ⟨u, xs, rfl, su⟩ := kind_inv dv hk
      refine ⟨_, rfl, u, _, _, _, rfl, rfl, su, at0, sz_2, fun p hp => ⟨p, _, rfl, .inr (SqT.of upd_same), rfl, rfl, _, rfl, ?_⟩⟩
      have S2 := Same.new (o := .tup [V.str "name", V.str "item"]) hp
      generalize upd H1 p (.tup [V.str "name", V.str "item"]) = H2 at S2 ⊢
      have kp2 := kp1.trans (LK.Same.keep S2)
      refine ite3 (fun c => ?_) fun c => ?_
      · exact ⟨_, rfl, _, _, rfl, hl, by decide +kernel, flInv K kp2 (k.yes c)⟩
      · refine ⟨_, rfl, _, rfl, _, rfl, boundedOk (dv.mono S2) hl kp2 (k.no c).bnd fun k H3 S3 => ?_⟩
        exact ⟨sz_3, fun q hq => okTup k ((R1.same S2).same S3) (kp2.trans (LK.Same.keep S3)) hq (.cons (.str _) (.cons (.int _) (.cons ((dv.mono S2).mono S3) .nil))) rfl⟩
end

section
--SPLIT
end
abbrev s_law_cell : Stmt := top 96
abbrev N_law_cell : List Str := ["script", "k"]
abbrev P_law_cell : List Str := ["script", "k"]
theorem sc_law_cell : FnScope N_law_cell P_law_cell (defScope s_law_cell) := ⟨rfl, rfl, rfl, by decide +kernel, rfl, by decide +kernel, by decide +kernel⟩
abbrev s_law_digits : Stmt := top 97
abbrev N_law_digits : List Str := ["script", "first", "last", "digits", "k", "cell", "turn", "seed"]
abbrev P_law_digits : List Str := ["script", "first", "last"]
theorem sc_law_digits : FnScope N_law_digits P_law_digits (defScope s_law_digits) := ⟨rfl, rfl, rfl, by decide +kernel, rfl, by decide +kernel, by decide +kernel⟩
abbrev s_law_draw : Stmt := top 98
abbrev N_law_draw : List Str := ["box", "many", "at"]
abbrev P_law_draw : List Str := ["box", "many"]
theorem sc_law_draw : FnScope N_law_draw P_law_draw (defScope s_law_draw) := ⟨rfl, rfl, rfl, by decide +kernel, rfl, by decide +kernel, by decide +kernel⟩
section
variable {P : Program} {w : World} {K : PySem.W.Frag} {mg : Str → Option Value} {base : Heap}
theorem ok_draw {f : Addr} {fd : FuncData} (F : Fun K "_law_draw" "_law_draw" s_law_draw f fd) (T : Txt K mg) : FnG P w K mg base CX0 1 f fd P_law_draw (spDraw K) := by
  refine okG0 F sc_law_draw (fun vs H Q E h => ?_) fun cdv A outer s H vs Q E hr hg h => ?_
  · obtain ⟨p, dl, m, rfl, _⟩ := h
    rfl
  · obtain ⟨p, dl, m, rfl, B, hm, k⟩ := h
    obtain ⟨ds, n, hp, hn, hd, hl, hds⟩ := id B
    refine ⟨_, (pss_cons (ps_set (i := 2) sc_law_draw.nd rfl (Or.inl rfl) (pe_ix ix_list (pv 0) pe_int (fun _ _ => rfl)))
  (pss_cons (ps_asg (pe_op op_add (pv 2) pe_int) (pg_sub (pv 0) pe_int set_list))
  (pss_cons (ps_if (pt_cmpR op_lt (pv 2) (pe_callB call_len (by rfl) T.b_len PySem.boot_len (pa_cons (pe_ix ix_list (pv 0) pe_int (fun _ _ => rfl)) pa_nil)) (nomark _))
   (pss_one (ps_ret (pe_op op_mod (pe_callTy call_int1 (by rfl) T.b_int (by decide +kernel) (pa_cons (pe_ix ix_list (pe_ix ix_list (pv 0) pe_int (fun _ _ => rfl)) (pv 2) (fun _ _ => rfl)) pa_nil)) (pv 1))))
   pss_nil)
  (pss_one (ps_ret pe_int))))), ?_⟩
    -- at = box[1]; box[1] = at + 1
    refine ⟨_, rfl, p, _, _, _, rfl, rfl, SqL.of hp, rfl, ?_⟩
    refine ⟨_, rfl, _, _, rfl, rfl, _, rfl, p, _, _, _, rfl, rfl, hp, rfl, ?_⟩
    have npd : dl ≠ p := by
      intro e
      subst e
      rw [hp] at hd
      have e := HO.lst.inj (Option.some.inj hd)
      cases ds with
      | nil => cases e
      | cons d ds => cases (List.cons.inj e).1
    have B' : BoxAt (upd H p (.lst [.ref dl, .int (n + 1)])) p dl := ⟨ds, n + 1, upd_same, by omega, by rw [upd_ne npd]; exact hd, hl, hds⟩
    have kp : Keep p H (upd H p (.lst [.ref dl, .int (n + 1)])) := fun b o e hb => by rw [upd_ne hb]; exact e
    have hd' : upd H p (.lst [.ref dl, .int (n + 1)]) dl = some (.lst (ds.map V.int)) := by rw [upd_ne npd]; exact hd
    -- if at < len(box[0])
    refine ⟨_, rfl, _, rfl, p, _, _, _, rfl, rfl, SqL.of upd_same, rfl, _, _, rfl, .inl ⟨_, SqL.of hd', rfl⟩, ?_⟩
    refine ⟨_, _, rfl, rfl, _, rfl, ?_⟩
    refine ite2 (fun c => ?_) fun c => ?_
    · have c1 : n < (ds.length : Int) := by simpa using c
      have c2 : n.toNat < ds.length := by omega
      have mem := hds _ (List.getElem_mem c2)
      refine ⟨_, rfl, p, _, _, _, rfl, rfl, SqL.of upd_same, rfl, _, rfl, dl, _, _, .int ds[n.toNat], rfl, rfl, SqL.of hd', ?_, .inl ⟨_, rfl, ?_⟩⟩
      · have e : n = ((n.toNat : Nat) : Int) := by omega
        exact at_of e (by simp [c2])
      · refine ⟨_, rfl, _, _, rfl, rfl, hm, ?_⟩
        exact k _ _ (Int.emod_nonneg _ (by omega)) (Int.emod_lt_of_pos _ hm) B' kp
    · exact k 0 _ (Int.le_refl 0) hm B' kp
theorem ok_cell {f : Addr} {fd : FuncData} (F : Fun K "_law_cell" "_law_cell" s_law_cell f fd) (T : Txt K mg) : FnG P w K mg base CX0 1 f fd P_law_cell (spCell K) := by
  refine okG0 F sc_law_cell (fun vs H Q E h => ?_) fun cdv A outer s H vs Q E hr hg h => ?_
  · obtain ⟨a, ns, i, rfl, _⟩ := h
    rfl
  · obtain ⟨a, ns, i, rfl, hs, hi, k⟩ := h
    refine ⟨_, (pss_cons (ps_if (pt_cmpR op_lt (pv 1) (pe_callB call_len (by rfl) T.b_len PySem.boot_len (pa_cons (pv 0) pa_nil)) (nomark _))
   (pss_one (ps_ret (pe_ix ix_list (pv 0) (pv 1) (fun _ _ => rfl))))
   pss_nil)
  (pss_one (ps_ret pe_int))), ?_⟩
    refine ⟨_, rfl, _, rfl, _, _, rfl, .inl ⟨_, hs, rfl⟩, _, _, rfl, rfl, _, rfl, ?_⟩
    refine ite3 (fun c => ?_) fun _ => k 0
    have c1 : i < (ns.length : Int) := by simpa using c
    have c2 : i.toNat < ns.length := by omega
    exact ⟨_, rfl, _, rfl, a, _, _, .int ns[i.toNat], rfl, rfl, hs, at_of (show i = ((i.toNat : Nat) : Int) by omega) (by simp [c2]), k _⟩
theorem ok_digits {f : Addr} {fd : FuncData} (F : Fun K "_law_digits" "_law_digits" s_law_digits f fd) (T : Txt K mg) (U_law_cell : Use P w K mg base CX0 "_law_cell" 1 P_law_cell (spCell K)) : FnG P w K mg base CX0 2 f fd P_law_digits (spDigits K) := by
  refine okG0 F sc_law_digits (fun vs H Q E h => ?_) fun cdv A outer s H vs Q E hr hg h => ?_
  · obtain ⟨a, ns, lo, hi, rfl, _⟩ := h
    rfl
  · obtain ⟨a, ns, lo, hi, rfl, hs, hlo, hhi, k⟩ := h
    refine ⟨_, (pss_cons (ps_set (i := 3) sc_law_digits.nd rfl (Or.inl rfl) (pe_lst pa_nil))
  (pss_cons (ps_for PassesOwn.never rfl (pi_range2 (by rfl) T.b_range (pa_cons (pv 1) (pa_cons (pv 2) pa_nil))) (pg_name (i := 4) sc_law_digits.nd rfl (Or.inl rfl))
   (pss_cons (ps_set (i := 5) sc_law_digits.nd rfl (Or.inl rfl) (pe_use U_law_cell (hr.mono (by decide)) hg rfl (pa_cons (pv 0) (pa_cons (pv 4) pa_nil))))
  (C8.pss_cut (ps_if (pt_cmpR op_lt (pv 5) pe_int (nomark _))
   (pss_one (ps_set (i := 5) sc_law_digits.nd rfl (Or.inl rfl) (pe_op op_sub pe_int (pe_op op_mul pe_int (pv 5)))))
   pss_nil)
  (pss_one (ps_if (pt_cmpR op_ge (pv 5) (pe_op op_pow pe_int pe_int) (nomark _))
   (pss_one (ps_for PassesOwn.never rfl (pi_range1 (by rfl) T.b_range (pa_cons pe_int pa_nil)) (pg_name (i := 6) sc_law_digits.nd rfl (Or.inl rfl))
   (pss_one (ps_if (pt_cmpR op_gt (pv 5) pe_int (nomark _))
   (pss_cons (ps_expr (pe_bm PySem.F.plainAttrs_list PySem.F.slot_list_append PySem.F.type_list_append mt_append (pv 3) (pa_cons (pe_op op_mod (pe_callTy call_int1 (by rfl) T.b_int (by decide +kernel) (pa_cons (pv 5) pa_nil)) pe_int) pa_nil)))
  (pss_one (ps_set (i := 5) sc_law_digits.nd rfl (Or.inl rfl) (pe_op op_fdiv (pv 5) pe_int))))
   pss_nil))))
   (pss_cons (ps_set (i := 7) sc_law_digits.nd rfl (Or.inl rfl) (pe_op op_mod (pe_callTy call_int1 (by rfl) T.b_int (by decide +kernel) (pa_cons (pe_op op_add (pe_op op_add (pe_op op_mul (pv 5) pe_int) (pe_op op_mul (pv 4) pe_int)) pe_int) pa_nil)) pe_int))
  (pss_one (ps_for PassesOwn.never rfl (pi_range1 (by rfl) T.b_range (pa_cons pe_int pa_nil)) (pg_name (i := 6) sc_law_digits.nd rfl (Or.inl rfl))
   (pss_cons (ps_set (i := 7) sc_law_digits.nd rfl (Or.inl rfl) (pe_op op_mod (pe_callTy call_int1 (by rfl) T.b_int (by decide +kernel) (pa_cons (pe_op op_add (pe_op op_add (pe_op op_mul (pv 7) pe_int) (pe_op op_mul pe_int (pv 6))) pe_int) pa_nil)) pe_int))
  (pss_one (ps_expr (pe_bm PySem.F.plainAttrs_list PySem.F.slot_list_append PySem.F.type_list_append mt_append (pv 3) (pa_cons (pe_op op_mod (pe_callTy call_int1 (by rfl) T.b_int (by decide +kernel) (pa_cons (pe_op op_fdiv (pv 7) pe_int) pa_nil)) pe_int) pa_nil)))))))))))))
  (pss_one (ps_ret (pv 3))))), ?_⟩
    refine ⟨by decide, fun dl nd => ?_⟩
    have sz : (4000 : Nat) < sizeLine := by decide
    -- for k in range(first, last)
    refine ⟨_, rfl, _, rfl, _, _, rfl, ⟨by omega, by omega, by omega, by omega⟩, ?_⟩
    refine for_range (lo := (lo : Int)) (n := ((hi : Int) - (lo : Int)).toNat) (fun i σ H1 => ∃ x5 x6 x7 x4, σ = [some (.ref a), some (.int lo), some (.int hi), some (.ref dl), x4, x5, x6, x7] ∧ DigAt H H1 dl (60 * i)) ?_ ?_ ?_
    · exact ⟨none, none, none, none, rfl, [], upd_same, by simp, by simp, Same.new nd⟩
    · rintro i σ H1 hi' ⟨x5, x6, x7, x4, rfl, D⟩
      have S1 : Same H H1 := let ⟨_, _, _, _, z⟩ := D; z
      -- cell = _law_cell(script, k)
      refine ⟨_, rfl, _, rfl, a, ns, _, rfl, S1.seq hs, by omega, fun cell => ?_⟩
      -- if cell < 0: cell = 1 - 2 * cell
      refine ⟨fun σ H2 => ∃ c : Int, σ = [some (.ref a), some (.int lo), some (.int hi), some (.ref dl), some (.int ((lo : Int) + i)), some (.int c), x6, x7] ∧ H2 = H1, ?_, ?_⟩
      · refine ⟨_, rfl, _, _, rfl, rfl, _, rfl, ?_⟩
        refine ite3 (fun _ => ?_) fun _ => ⟨cell, rfl, rfl⟩
        exact ⟨_, rfl, _, _, rfl, rfl, .inl ⟨by decide, by decide⟩, _, _, rfl, rfl, _, rfl, rfl⟩
      · rintro _ _ ⟨c, rfl, rfl⟩
        -- if cell >= 10 ** 18
        refine ⟨_, rfl, _, _, rfl, rfl, ⟨by decide, by decide, by decide⟩, _, _, rfl, rfl, _, rfl, ?_⟩
        refine ite3 (fun hc => ?_) fun hc => ?_
        · refine ⟨_, rfl, by decide, by decide, ?_⟩
          refine for_range (lo := 0) (n := 60) (fun j σ H1 => ∃ (c : Int) (y6 : Option V), σ = [some (.ref a), some (.int lo), some (.int hi), some (.ref dl), some (.int ((lo : Int) + i)), some (.int c), y6, x7] ∧ DigAt H H1 dl (60 * i + j)) ⟨c, x6, rfl, D⟩ ?_ ?_
          · rintro j σ H2 hj ⟨c, y6, rfl, D2⟩
            obtain ⟨ds, hd, hl, _⟩ := id D2
            refine ⟨_, rfl, _, _, rfl, rfl, _, rfl, ?_⟩
            refine ite3 (fun hp => ?_) fun _ => ⟨c, _, rfl, D2.mono (by omega)⟩
            have hp : 0 < c := by simpa using hp
            refine ⟨_, rfl, .inl ⟨rfl, _, SqL.of hd⟩, _, rfl, .inl ⟨_, rfl, _, _, rfl, rfl, (by show (0 : Int) < 1000; decide), dl, _, _, rfl, rfl, hd, (by simp; omega), ?_⟩⟩
            refine ⟨_, rfl, _, _, rfl, rfl, ⟨by decide, by decide⟩, ?_⟩
            exact ⟨_, _, rfl, D2.add hd nd (Int.emod_nonneg _ (by decide)) (Int.emod_lt_of_pos _ (by decide))⟩
          · rintro σ H2 ⟨c, y6, rfl, D2⟩
            exact ⟨_, _, _, _, rfl, D2.mono (by omega)⟩
        · refine ⟨_, rfl, _, _, rfl, rfl, .inr ⟨by decide, by decide⟩, _, rfl, _, _, rfl, rfl, .inr ⟨by decide, by decide⟩, _, _, rfl, rfl, _, _, rfl, rfl, .inl ⟨_, rfl, _, _, rfl, rfl, (by show (0 : Int) < 2147483647; decide), ?_⟩⟩
          refine ⟨_, rfl, by decide, by decide, ?_⟩
          refine for_range (lo := 0) (n := 12) (fun j σ H1 => ∃ (sd : Int) (y6 : Option V), σ = [some (.ref a), some (.int lo), some (.int hi), some (.ref dl), some (.int ((lo : Int) + i)), some (.int c), y6, some (.int sd)] ∧ DigAt H H1 dl (60 * i + j)) ⟨_, x6, rfl, D⟩ ?_ ?_
          · rintro j σ H2 hj ⟨sd, y6, rfl, D2⟩
            obtain ⟨ds, hd, hl, _⟩ := id D2
            refine ⟨_, rfl, _, _, rfl, rfl, .inr ⟨by decide, by decide⟩, _, rfl, _, _, rfl, rfl, .inl ⟨by decide, by decide⟩, _, _, rfl, rfl, _, _, rfl, rfl, .inl ⟨_, rfl, _, _, rfl, rfl, (by show (0 : Int) < 2147483647; decide), ?_⟩⟩
            refine ⟨_, rfl, .inl ⟨rfl, _, SqL.of hd⟩, _, rfl, _, _, rfl, rfl, ⟨by decide, by decide⟩, .inl ⟨_, rfl, _, _, rfl, rfl, (by show (0 : Int) < 1000; decide), dl, _, _, rfl, rfl, hd, (by simp; omega), ?_⟩⟩
            exact ⟨_, _, rfl, D2.add hd nd (Int.emod_nonneg _ (by decide)) (Int.emod_lt_of_pos _ (by decide))⟩
          · rintro σ H2 ⟨sd, y6, rfl, D2⟩
            exact ⟨_, _, _, _, rfl, D2.mono (by omega)⟩
    · rintro σ H1 ⟨x5, x6, x7, x4, rfl, D⟩
      exact ⟨_, rfl, k dl H1 nd (D.mono (by omega))⟩
end

abbrev s_check_characters : Stmt := top 65
abbrev N_check_characters : List Str := ["text", "line", "character"]
abbrev P_check_characters : List Str := ["text"]
theorem sc_check_characters : FnScope N_check_characters P_check_characters (defScope s_check_characters) := ⟨rfl, rfl, rfl, by decide +kernel, rfl, by decide +kernel, by decide +kernel⟩
abbrev s_word_end : Stmt := top 69
abbrev N_word_end : List Str := ["line", "at"]
abbrev P_word_end : List Str := ["line", "at"]
theorem sc_word_end : FnScope N_word_end P_word_end (defScope s_word_end) := ⟨rfl, rfl, rfl, by decide +kernel, rfl, by decide +kernel, by decide +kernel⟩
abbrev s_is_blank : Stmt := top 66
abbrev N_is_blank : List Str := ["line", "words"]
abbrev P_is_blank : List Str := ["line"]
theorem sc_is_blank : FnScope N_is_blank P_is_blank (defScope s_is_blank) := ⟨rfl, rfl, rfl, by decide +kernel, rfl, by decide +kernel, by decide +kernel⟩
abbrev s_add_indents : Stmt := top 67
abbrev N_add_indents : List Str := ["line", "number", "indents", "tokens", "spaces"]
abbrev P_add_indents : List Str := ["line", "number", "indents", "tokens"]
theorem sc_add_indents : FnScope N_add_indents P_add_indents (defScope s_add_indents) := ⟨rfl, rfl, rfl, by decide +kernel, rfl, by decide +kernel, by decide +kernel⟩
section
variable {P : Program} {w : World} {K : PySem.W.Frag} {mg : Str → Option Value} {base : Heap}
/-- texts of allowed signs -/
def spCheck : Sp := fun vs H Q _ => ∃ a, vs = [.str (S a)] ∧ a.length ≤ 20000 ∧ (∀ c ∈ a, okC c = true) ∧ Q .non H
theorem ok_check {f : Addr} {fd : FuncData} (F : Fun K "_check_characters" "_check_characters" s_check_characters f fd) (T : Txt K mg) : FnG P w K mg base CX0 1 f fd P_check_characters spCheck := by
  refine okG0 F sc_check_characters (fun vs H Q E h => ?_) fun cdv A outer s H vs Q E hr hg h => ?_
  · obtain ⟨a, rfl, _⟩ := h
    rfl
  · obtain ⟨a, rfl, hl, hw, k⟩ := h
    obtain ⟨z, gz, hz⟩ := T.c_CHARACTERS
    refine ⟨_, (pss_cons (ps_if (pt_cmpR op_gt (pe_callB call_len (by rfl) T.b_len PySem.boot_len (pa_cons (pv 0) pa_nil)) (pe_globI T.c_MOST_CHARACTERS (by rfl)) (nomark _))
   pss_never
   pss_nil)
  (pss_cons (ps_set (i := 1) sc_check_characters.nd rfl (Or.inl rfl) pe_int)
  (pss_one (ps_for PassesOwn.never rfl (pi_str (pv 0)) (pg_name (i := 2) sc_check_characters.nd rfl (Or.inl rfl))
   (pss_cons (ps_if (pt_cmpR op_notIn_sign (pv 2) (pe_globS gz (by rfl)) (by rfl))
   pss_never
   pss_nil)
  (pss_one (ps_if (pt_cmpR op_eq (pv 2) pe_str (nomark _))
   (pss_one (ps_aug (i := 1) sc_check_characters.nd rfl (Or.inl rfl) pe_int ip_add))
   pss_nil))))))), ?_⟩
    have hs : (S a).length ≤ sizeLine := by rw [S_len]; exact Nat.le_trans hl (by decide)
    refine ⟨_, rfl, _, _, rfl, ⟨hs, rfl⟩, _, _, rfl, rfl, _, rfl, iteFb (decide_eq_false (by rw [S_len]; omega)) ?_⟩
    refine ⟨_, rfl, _, rfl, ?_⟩
    refine for_it walk_str (fun i σ H1 => ∃ (n : Int) (x2 : Option V), σ = [some (.str (S a)), some (.int n), x2] ∧ H1 = H) ⟨1, none, rfl, rfl⟩ (fun _ _ _ _ _ => trivial) ?_ ?_
    · rintro i v σ H1 H2 hi ⟨n, x2, rfl, rfl⟩ ⟨rfl, c, hc, rfl⟩
      have hm : c ∈ a := List.mem_of_getElem? (by simpa [S] using hc)
      have ho := hw c hm
      refine ⟨_, rfl, c, z, rfl, rfl, _, rfl, iteFb (by rw [decide_eq_true (hz c (okC_lt ho) ho)]; rfl) ?_⟩
      refine ⟨_, rfl, rfl, _, rfl, ?_⟩
      refine ite3 (fun _ => ?_) fun _ => ⟨n, _, rfl, rfl⟩
      exact ⟨_, rfl, _, _, rfl, rfl, _, _, rfl, rfl⟩
    · rintro σ H1 ⟨n, x2, rfl, rfl⟩
      exact k
/-- the end of the word that begins at i -/
def spWordEnd : Sp := fun vs H Q _ => ∃ (a : List Nat) (i : Nat), vs = [.str (S a), .int (i : Nat)] ∧ i ≤ a.length ∧ a.length ≤ 20000 ∧ (∀ c ∈ a, c < 128) ∧
  ∀ j : Nat, i ≤ j → j ≤ a.length → (∀ t, i ≤ t → t < j → ∀ c, a[t]? = some c → isW c = true) → (∀ c, a[j]? = some c → isW c = false) → Q (.int (j : Nat)) H
theorem ok_wordend {f : Addr} {fd : FuncData} (F : Fun K "_word_end" "_word_end" s_word_end f fd) (T : Txt K mg) : FnG P w K mg base CX0 1 f fd P_word_end spWordEnd := by
  refine okG0 F sc_word_end (fun vs H Q E h => ?_) fun cdv A outer s H vs Q E hr hg h => ?_
  · obtain ⟨a, i, rfl, _⟩ := h
    rfl
  · obtain ⟨a, i, rfl, hi, hl, hw, k⟩ := h
    refine ⟨_, (pss_cons (ps_while PassesOwn.never (pt_up (PW.pt (pw_and (pt_cmpR op_lt (pv 1) (pe_callB call_len (by rfl) T.b_len PySem.boot_len (pa_cons (pv 0) pa_nil)) (nomark _)) (pw_and1 (PW.pt (pw_or (pt_val (pe_bm0 PySem.F.plainAttrs_str PySem.F.slot_str_isalnum PySem.F.type_str_isalnum mt_isalnum (pe_ix ix_str (pv 0) (pv 1) (fun _ _ => rfl)))) (pw_or1 (pt_cmpR op_eq (pe_ix ix_str (pv 0) (pv 1) (fun _ _ => rfl)) pe_str (nomark _)))))))))
   (pss_one (ps_aug (i := 1) sc_word_end.nd rfl (Or.inl rfl) pe_int ip_add)))
  (pss_one (ps_ret (pv 1)))), ?_⟩
    have hz : (S a).length ≤ sizeLine := by rw [S_len]; exact Nat.le_trans hl (by decide)
    refine while_up (fun σ H1 => ∃ j : Nat, σ = [some (.str (S a)), some (.int j)] ∧ i ≤ j ∧ j ≤ a.length ∧ (∀ t, i ≤ t → t < j → ∀ c, a[t]? = some c → isW c = true) ∧ H1 = H)
      (fun (σ : L2.St) (_ : Hp) => match σ[1]? with | some (some (V.int j)) => (a.length - j).toNat | _ => 0) ⟨i, rfl, Nat.le_refl _, hi, fun t h1 h2 => by omega, rfl⟩ ?_
    rintro σ H1 ⟨j, rfl, hij, hj, hall, rfl⟩
    refine ⟨_, rfl, _, rfl, _, _, rfl, ⟨hz, rfl⟩, _, _, rfl, rfl, _, rfl, ?_⟩
    refine ite3 (fun c => ?_) fun c => ?_
    · have c := of_decide_eq_true c
      rw [S_len] at c
      have hj : j < a.length := by omega
      have hc : a[j]? = some a[j] := List.getElem?_eq_getElem hj
      have hlt := hw _ (List.getElem_mem hj)
      generalize a[j] = x at hc hlt
      have next : isW x = true → ∀ t, i ≤ t → t < j + 1 → ∀ c, a[t]? = some c → isW c = true := fun hx t h1 h2 c hc' => by
        by_cases e : t = j
        · subst e
          rw [hc] at hc'
          exact Option.some.inj hc' ▸ hx
        · exact hall t h1 (by omega) c hc'
      refine ⟨_, rfl, _, rfl, S a, _, x, rfl, rfl, hz, at_S hc, rfl, _, rfl, rfl, trivial, ?_⟩
      have ea : Txt.isalnum ⟨#[x]⟩ = (isW x && x != 95) := alnum1 hlt
      rw [ea]
      by_cases h95 : x = 95
      · subst h95
        refine ⟨_, rfl, iteFb (by decide) ?_⟩
        refine ⟨_, rfl, _, rfl, S a, _, 95, rfl, rfl, hz, at_S hc, rfl, _, rfl, iteTb (by rw [us_S, sign_eq]; exact decide_eq_true rfl) ?_⟩
        exact ⟨_, rfl, _, _, rfl, rfl, ⟨j + 1, rfl, by omega, hj, next (by decide), rfl⟩, by simp; omega⟩
      · rw [bne_iff_ne.mpr h95, Bool.and_true]
        cases hx : isW x with
        | true => exact ⟨_, rfl, iteTb rfl ⟨_, rfl, _, _, rfl, rfl, ⟨j + 1, rfl, by omega, hj, next hx, rfl⟩, by simp; omega⟩⟩
        | false =>
          refine ⟨_, rfl, iteFb rfl ?_⟩
          refine ⟨_, rfl, _, rfl, S a, _, x, rfl, rfl, hz, at_S hc, rfl, _, rfl, iteFb (by rw [us_S, sign_eq]; exact decide_eq_false h95) ?_⟩
          exact ⟨_, rfl, k j hij (by omega) hall fun c hc' => by rw [hc] at hc'; exact Option.some.inj hc' ▸ hx⟩
    · have c := of_decide_eq_false c
      rw [S_len] at c
      exact ⟨_, rfl, k j hij hj hall fun c hc' => by rw [List.getElem?_eq_none (by omega)] at hc'; cases hc'⟩
/-- nothing, or a comment -/
def blankB (a : List Nat) : Bool := match a.dropWhile (· == 32) with
  | [] => true
  | c :: _ => decide (c = 35)
def spBlank : Sp := fun vs H Q _ => ∃ a, vs = [.str (S a)] ∧ a.length ≤ 20000 ∧ Q (.bl (blankB a)) H
theorem ok_blank {f : Addr} {fd : FuncData} (F : Fun K "_is_blank" "_is_blank" s_is_blank f fd) (T : Txt K mg) : FnG P w K mg base CX0 1 f fd P_is_blank spBlank := by
  refine okG0 F sc_is_blank (fun vs H Q E h => ?_) fun cdv A outer s H vs Q E hr hg h => ?_
  · obtain ⟨a, rfl, _⟩ := h
    rfl
  · obtain ⟨a, rfl, hl, k⟩ := h
    refine ⟨_, (pss_cons (ps_set (i := 1) sc_is_blank.nd rfl (Or.inl rfl) (pe_bm PySem.F.plainAttrs_str PySem.F.slot_str_lstrip PySem.F.type_str_lstrip mt_lstripChars (pv 0) (pa_cons pe_str pa_nil)))
  (pss_one (ps_ret (pe_or (pe_cmpR op_eq (pv 1) pe_str (nomark _)) (pe_one (pe_bm PySem.F.plainAttrs_str PySem.F.slot_str_startswith PySem.F.type_str_startswith mt_startswith (pv 1) (pa_cons pe_str pa_nil))))))), ?_⟩
    have e0 : Txt.lstripChars (S a) " " = S (a.dropWhile (· == 32)) := by rw [sp_S]; exact lstrip_sp a
    refine ⟨_, rfl, rfl, _, _, rfl, rfl, by rw [S_len]; exact Nat.le_trans hl (by decide), ?_⟩
    rw [e0]
    unfold blankB at k
    cases hd : a.dropWhile (· == 32) with
    | nil =>
      rw [hd] at k
      exact ⟨_, rfl, rfl, _, rfl, iteTb (decide_eq_true rfl) k⟩
    | cons c r =>
      rw [hd] at k
      refine ⟨_, rfl, rfl, _, rfl, iteFb (decide_eq_false fun e => ?_) ?_⟩
      · have : c :: r = [] := S_inj (b := []) (V.str.inj e)
        cases this
      · refine ⟨_, rfl, rfl, _, _, rfl, rfl, ?_⟩
        rw [hash_S, starts1]
        exact k
/-- the spaces ahead -/
def spaces (a : List Nat) : Nat := a.length - (a.dropWhile (· == 32)).length
def indT (m : Int) : PyData := .tuple [.str "indent", .str "", .int m]
def dedT (m : Int) : PyData := .tuple [.str "dedent", .str "", .int m]
/-- what the heap keeps beside the two lists -/
def Keep2 (p q : Addr) (H H' : Hp) : Prop := ∀ b o, H b = some o → b ≠ p → b ≠ q → H' b = some o
def AtIn (K : PySem.W.Frag) (ip tp : Addr) (xs : List Int) (ds : List PyData) (H0 H : Hp) : Prop := H ip = some (.lst (xs.map V.int)) ∧ ListAt K H tp ds ∧ Keep2 ip tp H0 H
def spIndents (K : PySem.W.Frag) (C : Addr) : Sp := fun vs H Q E => ∃ (a : List Nat) (m : Int) (ip tp : Addr) (xs : List Int) (ds : List PyData), vs = [.str (S a), .int m, .ref ip, .ref tp] ∧ a.length ≤ 20000 ∧ m.natAbs < 2 ^ 60 ∧ ip ≠ tp ∧ AtIn K ip tp xs ds H H ∧
  xs.length ≤ 20000 ∧ ds.length ≤ 100000 ∧ xs[0]? = some 0 ∧
  (∀ (k : Nat) (t : Int), xs[k]? = some t → k + 1 = xs.length → t < (spaces a : Nat) → ∀ H', AtIn K ip tp (xs ++ [(spaces a : Int)]) (ds ++ [indT m]) H H' → Q .non H') ∧
  (∀ (k : Nat) (t : Int), xs[k]? = some t → (∀ i u, k < i → xs[i]? = some u → ((spaces a : Nat) : Int) < u) → ¬ ((spaces a : Nat) : Int) < t → (k + 1 = xs.length → ¬ t < ((spaces a : Nat) : Int)) →
    ∀ H', AtIn K ip tp (xs.take (k + 1)) (ds ++ List.replicate (xs.length - (k + 1)) (dedT m)) H H' →
      (t = ((spaces a : Nat) : Int) → Q .non H') ∧ (t ≠ ((spaces a : Nat) : Int) → ∀ d, H' d = none → E (.ref C) (some d) (upd H' d (faultD m "unmatched indentation"))))
theorem ok_indents {C B : Addr} {f : Addr} {fd : FuncData} (F : Fun K "_add_indents" "_add_indents" s_add_indents f fd) (T : Txt K mg) (U_Fault : UseF P w K mg base C B) : FnG P w K mg base (L2.CX P w) 3 f fd P_add_indents (spIndents K C) := by
  refine okG F sc_add_indents (fun vs H Q E h => ?_) fun cdv A outer s H vs Q E hr hg h => ?_
  · obtain ⟨a, m, ip, tp, xs, ds, rfl, _⟩ := h
    rfl
  · obtain ⟨a, m, ip, tp, xs, ds, rfl, hl, hm, nit, ⟨hi, L, _⟩, hxl, hdl, h0, kI, kD⟩ := h
    refine ⟨_, (pss_cons (ps_set (i := 4) sc_add_indents.nd rfl (Or.inl rfl) (pe_op op_sub (pe_callB call_len (by rfl) T.b_len PySem.boot_len (pa_cons (pv 0) pa_nil)) (pe_callB call_len (by rfl) T.b_len PySem.boot_len (pa_cons (pe_bm PySem.F.plainAttrs_str PySem.F.slot_str_lstrip PySem.F.type_str_lstrip mt_lstripChars (pv 0) (pa_cons pe_str pa_nil)) pa_nil))))
  (C8.pss_cut (ps_if (pt_cmpR op_gt (pv 4) (pe_ix ix_list (pv 2) (pe_un un_neg pe_int) (fun _ _ => rfl)) (nomark _))
   (pss_cons (ps_expr (pe_bm PySem.F.plainAttrs_list PySem.F.slot_list_append PySem.F.type_list_append mt_append (pv 2) (pa_cons (pv 4) pa_nil)))
  (pss_one (ps_expr (pe_bm PySem.F.plainAttrs_list PySem.F.slot_list_append PySem.F.type_list_append mt_append (pv 3) (pa_cons (pe_tup (pa_cons pe_str (pa_cons pe_str (pa_cons (pv 1) pa_nil)))) pa_nil)))))
   pss_nil)
  (pss_cons (ps_while (passes_of rfl) (pt_up (pt_cmpR op_lt (pv 4) (pe_ix ix_list (pv 2) (pe_un un_neg pe_int) (fun _ _ => rfl)) (nomark _)))
   (pss_cons (ps_expr (pe_bm0 PySem.F.plainAttrs_list PySem.F.slot_list_pop PySem.F.type_list_pop mt_pop (pv 2)))
  (pss_one (ps_expr (pe_bm PySem.F.plainAttrs_list PySem.F.slot_list_append PySem.F.type_list_append mt_append (pv 3) (pa_cons (pe_tup (pa_cons pe_str (pa_cons pe_str (pa_cons (pv 1) pa_nil)))) pa_nil))))))
  (pss_one (ps_if (pt_cmpR op_ne (pv 4) (pe_ix ix_list (pv 2) (pe_un un_neg pe_int) (fun _ _ => rfl)) (nomark _))
   (pss_one (ps_raiseF U_Fault rfl (takes_of rfl rfl rfl rfl) (hr.mono (by decide)) rfl (pa_cons (pv 1) (pa_cons pe_str pa_nil))))
   pss_nil))))), ?_⟩
    have hz : (S a).length ≤ sizeLine := by rw [S_len]; exact Nat.le_trans hl (by decide)
    have e0 : Txt.lstripChars (S a) " " = S (a.dropWhile (· == 32)) := by rw [sp_S]; exact lstrip_sp a
    have hdw : (a.dropWhile (· == 32)).length ≤ a.length := (List.dropWhile_suffix _).length_le
    refine ⟨_, rfl, _, _, rfl, ⟨hz, rfl⟩, ?_⟩
    refine ⟨_, rfl, rfl, _, _, rfl, rfl, hz, ?_⟩
    rw [e0]
    refine ⟨_, _, rfl, ⟨by rw [S_len]; exact Nat.le_trans (Nat.le_trans hdw hl) (by decide), rfl⟩, _, _, rfl, rfl, ?_⟩
    have e1 : (((S a).length : Nat) : Int) - (((S (a.dropWhile (· == 32))).length : Nat) : Int) = ((spaces a : Nat) : Int) := by
      rw [S_len, S_len]; unfold spaces; omega
    dsimp only
    rw [e1]
    have hpos : 0 < xs.length := by
      cases xs with
      | nil => simp at h0
      | cons => simp
    have top : ∀ (ys : List Int), 0 < ys.length → ∃ t, ys[ys.length - 1]? = some t ∧ atI (ys.map V.int) (-1) = some (.int t) := fun ys hy => by
      rcases List.eq_nil_or_concat ys with rfl | ⟨zs, t, rfl⟩
      · simp at hy
      · refine ⟨t, by simp, ?_⟩
        rw [List.concat_eq_append, List.map_append]
        exact atI_last _ _
    have tokApp : ∀ (x : Str) (ys : List Int) (es : List PyData) (H1 : Hp), AtIn K ip tp ys es H H1 → ∀ u, H1 u = none → ∀ zs, H1 tp = some (.lst zs) → AtIn K ip tp ys (es ++ [.tuple [.str x, .str "", .int m]]) H (upd (upd H1 u (.tup [.str x, .str "", .int m])) tp (.lst (zs ++ [.ref u]))) := fun x ys es H1 hA u hu zs hzs => by
      obtain ⟨g1, g2, g3⟩ := hA
      have S1 := Same.new (o := .tup [.str x, .str "", .int m]) hu
      refine ⟨?_, listAt_app (listAt_mono g2 S1) (S1 _ _ hzs) (Dt.made hu (.cons (.str _) (.cons (.str _) (.cons (.int _) .nil)))), fun b o hb n1 n2 => ?_⟩
      · rw [upd_ne nit]; exact S1 _ _ g1
      · rw [upd_ne n2]; exact S1 _ _ (g3 b o hb n1 n2)
    have idxSet : ∀ (ys ws : List Int) (es : List PyData) (H1 : Hp), AtIn K ip tp ys es H H1 → AtIn K ip tp ws es H (upd H1 ip (.lst (ws.map V.int))) := fun ys ws es H1 hA => by
      obtain ⟨g1, g2, g3⟩ := hA
      refine ⟨upd_same, listAt_upd g2 (Ne.symm nit) g1, fun b o hb n1 n2 => ?_⟩
      rw [upd_ne n1]; exact g3 b o hb n1 n2
    obtain ⟨t, ht, hat⟩ := top xs hpos
    have A0 : AtIn K ip tp xs ds H H := ⟨hi, L, fun b o hb _ _ => hb⟩
    refine ⟨fun σ H1 => σ = [some (.str (S a)), some (.int m), some (.ref ip), some (.ref tp), some (.int (spaces a : Nat))] ∧ ((t < (spaces a : Nat) ∧ AtIn K ip tp (xs ++ [(spaces a : Int)]) (ds ++ [indT m]) H H1) ∨ (¬ t < (spaces a : Nat) ∧ H1 = H)), ?_, ?_⟩
    · refine ⟨_, rfl, _, rfl, _, rfl, ip, _, _, _, rfl, rfl, SqL.of hi, hat, _, _, rfl, rfl, _, rfl, ?_⟩
      refine ite3 (fun c => ?_) fun c => ⟨rfl, .inr ⟨of_decide_eq_false c, rfl⟩⟩
      have c := of_decide_eq_true c
      refine ⟨_, rfl, .inl ⟨rfl, _, SqL.of hi⟩, _, rfl, ip, _, _, rfl, rfl, hi, by rw [List.length_map]; exact Nat.lt_of_le_of_lt hxl (by decide), ?_⟩
      have A1 := idxSet xs (xs ++ [(spaces a : Int)]) ds H A0
      rw [List.map_append] at A1
      have A1 : AtIn K ip tp (xs ++ [(spaces a : Int)]) ds H (upd H ip (.lst (xs.map V.int ++ [V.int (spaces a : Nat)]))) := A1
      generalize upd H ip _ = H1 at A1
      obtain ⟨zs, ez, az⟩ := id A1.2.1
      have lz := az.length
      refine ⟨_, rfl, .inl ⟨rfl, _, SqL.of ez⟩, _, rfl, sz_3, fun u hu => ⟨tp, _, _, rfl, rfl, Same.new hu _ _ ez, Nat.lt_of_le_of_lt (show zs.length ≤ 100000 by omega) (by decide), ?_⟩⟩
      exact ⟨rfl, .inl ⟨c, tokApp "indent" _ _ _ A1 u hu zs ez⟩⟩
    rintro _ H1 ⟨rfl, hS⟩
    rcases hS with ⟨c, A1⟩ | ⟨c, rfl⟩
    · have hat1 : atI ((xs ++ [(spaces a : Int)]).map V.int) (-1) = some (.int (spaces a : Nat)) := by rw [List.map_append]; exact atI_last _ _
      refine while_up (fun σ H2 => σ = [some (.str (S a)), some (.int m), some (.ref ip), some (.ref tp), some (.int (spaces a : Nat))] ∧ H2 = H1) (fun _ _ => 0) ⟨rfl, rfl⟩ ?_
      rintro σ H2 ⟨rfl, rfl⟩
      refine ⟨_, rfl, _, rfl, _, rfl, ip, _, _, _, rfl, rfl, SqL.of A1.1, hat1, _, _, rfl, rfl, _, rfl, iteFb (decide_eq_false (by omega)) ?_⟩
      refine ⟨_, rfl, _, rfl, _, rfl, ip, _, _, _, rfl, rfl, SqL.of A1.1, hat1, rfl, _, rfl, iteFb (by rw [decide_eq_true rfl]; rfl) ?_⟩
      exact kI _ t ht (by omega) c _ A1
    · refine while_up (fun σ H2 => σ = [some (.str (S a)), some (.int m), some (.ref ip), some (.ref tp), some (.int (spaces a : Nat))] ∧ ∃ k, k + 1 ≤ xs.length ∧ (∀ i u, k < i → xs[i]? = some u → ((spaces a : Nat) : Int) < u) ∧ AtIn K ip tp (xs.take (k + 1)) (ds ++ List.replicate (xs.length - (k + 1)) (dedT m)) H1 H2)
        (fun (_ : L2.St) (H2 : Hp) => match H2 ip with | some (.lst ys) => ys.length | _ => 0) ⟨rfl, xs.length - 1, by omega, fun i u hi' hu => ?_, ?_⟩ ?_
      · rw [List.getElem?_eq_none (by omega)] at hu; cases hu
      · rw [show xs.length - 1 + 1 = xs.length by omega, List.take_length, Nat.sub_self, List.replicate_zero, List.append_nil]
        exact A0
      rintro σ H2 ⟨rfl, k, hk, hall, A2⟩
      have hkx : xs[k]? = some xs[k] := List.getElem?_eq_getElem (by omega)
      generalize xs[k] = u at hkx
      have htk : xs.take (k + 1) = xs.take k ++ [u] := by
        rw [List.take_add_one, hkx]; rfl
      have hat2 : atI ((xs.take (k + 1)).map V.int) (-1) = some (.int u) := by rw [htk, List.map_append]; exact atI_last _ _
      have hlen : (xs.take (k + 1)).length = k + 1 := by rw [List.length_take]; omega
      refine ⟨_, rfl, _, rfl, _, rfl, ip, _, _, _, rfl, rfl, SqL.of A2.1, hat2, _, _, rfl, rfl, _, rfl, ?_⟩
      refine ite3 (fun c2 => ?_) fun c2 => ?_
      · have c2 := of_decide_eq_true c2
        obtain ⟨j, rfl⟩ : ∃ j, k = j + 1 := by
          cases k with
          | zero => rw [h0] at hkx; have := Option.some.inj hkx; omega
          | succ j => exact ⟨j, rfl⟩
        have hlast : ((xs.take (j + 1 + 1)).map V.int)[((xs.take (j + 1 + 1)).map V.int).length - 1]? = some (V.int u) := by
          have hlt : (xs.take (j + 1)).length = j + 1 := by rw [List.length_take]; omega
          have hget : (xs.take (j + 1 + 1))[j + 1]? = some u := by rw [htk, List.getElem?_append_right (by omega), hlt, Nat.sub_self]; rfl
          rw [List.length_map, hlen, List.getElem?_map, show j + 1 + 1 - 1 = j + 1 from rfl, hget]
          rfl
        refine ⟨_, rfl, .inl ⟨rfl, _, SqL.of A2.1⟩, ip, _, _, rfl, rfl, A2.1, hlast, ?_⟩
        have ed : ((xs.take (j + 1 + 1)).map V.int).dropLast = (xs.take (j + 1)).map V.int := by rw [htk, List.map_append]; simp
        rw [ed]
        have A3 : AtIn K ip tp (xs.take (j + 1)) (ds ++ List.replicate (xs.length - (j + 1 + 1)) (dedT m)) H1 (upd H2 ip (.lst ((xs.take (j + 1)).map V.int))) := idxSet _ _ _ _ A2
        have hH2 := A2.1
        generalize upd H2 ip _ = H3 at A3
        obtain ⟨zs, ez, az⟩ := id A3.2.1
        have lz := az.length
        rw [List.length_append, List.length_replicate] at lz
        refine ⟨_, rfl, .inl ⟨rfl, _, SqL.of ez⟩, _, rfl, sz_3, fun u2 hu2 => ⟨tp, _, _, rfl, rfl, Same.new hu2 _ _ ez, Nat.lt_of_le_of_lt (show zs.length ≤ 120000 by omega) (by decide), ?_⟩⟩
        have A4 := tokApp "dedent" _ _ _ A3 u2 hu2 zs ez
        have er : ds ++ List.replicate (xs.length - (j + 1 + 1)) (dedT m) ++ [PyData.tuple [.str "dedent", .str "", .int m]] = ds ++ List.replicate (xs.length - (j + 1)) (dedT m) := by
          rw [List.append_assoc, show xs.length - (j + 1) = (xs.length - (j + 1 + 1)) + 1 by omega, List.replicate_succ']
          rfl
        rw [er] at A4
        refine ⟨⟨rfl, j, by omega, fun i u' hi' hu' => ?_, A4⟩, ?_⟩
        · by_cases e : i = j + 1
          · subst e; rw [hkx] at hu'; exact Option.some.inj hu' ▸ c2
          · exact hall i u' (by omega) hu'
        · rw [A4.1, hH2]
          simp only [List.length_map, List.length_take]
          omega
      · have c2 := of_decide_eq_false c2
        obtain ⟨g1, g2⟩ := kD k u hkx hall c2 (fun e => by
          have : t = u := by
            rw [show xs.length - 1 = k by omega] at ht
            rw [hkx] at ht
            exact (Option.some.inj ht).symm
          rw [← this]; exact c) H2 A2
        refine ⟨_, rfl, _, rfl, _, rfl, ip, _, _, _, rfl, rfl, SqL.of A2.1, hat2, rfl, _, rfl, ?_⟩
        refine ite3 (fun c3 => ?_) fun c3 => ?_
        · have ne : u ≠ ((spaces a : Nat) : Int) := fun e => by
            subst e
            rw [decide_eq_true rfl] at c3
            cases c3
          exact ⟨_, rfl, m, _, rfl, by omega, by decide +kernel, fun d hd => g2 ne d hd⟩
        · refine g1 ?_
          have c3 : decide (V.int ((spaces a : Nat) : Int) = V.int u) = true := by simpa using c3
          exact (V.int.inj (of_decide_eq_true c3)).symm
end

abbrev s_add_text : Stmt := top 72
abbrev N_add_text : List Str := ["line", "at", "number", "tokens", "quote", "characters"]
abbrev P_add_text : List Str := ["line", "at", "number", "tokens"]
theorem sc_add_text : FnScope N_add_text P_add_text (defScope s_add_text) := ⟨rfl, rfl, rfl, by decide +kernel, rfl, by decide +kernel, by decide +kernel⟩
abbrev s_escaped : Stmt := top 73
abbrev N_escaped : List Str := ["line", "at", "number"]
abbrev P_escaped : List Str := ["line", "at", "number"]
theorem sc_escaped : FnScope N_escaped P_escaped (defScope s_escaped) := ⟨rfl, rfl, rfl, by decide +kernel, rfl, by decide +kernel, by decide +kernel⟩
section
variable {P : Program} {w : World} {K : PySem.W.Frag} {mg : Str → Option Value} {base : Heap}
/-! a text between quotes -/
def escOf (e : Nat) : Option Nat := if e = 92 then some 92 else if e = 34 then some 34 else if e = 39 then some 39 else if e = 110 then some 10 else none
inductive TR
  | done (acc rest : List Nat)
  | bad (w : Str)
def scan (q : Nat) : List Nat → List Nat → TR
  | [], _ => .bad "text not closed"
  | c :: r, acc => if c = q then .done acc r else if c = 92 then
      (match r with
      | [] => .bad "text not closed"
      | e :: r' => match escOf e with
        | some x => scan q r' (acc ++ [x])
        | none => .bad "invalid escape")
    else scan q r (acc ++ [c])
theorem scan_q {q : Nat} {r acc : List Nat} : scan q (q :: r) acc = .done acc r := by rw [scan.eq_def]; exact if_pos rfl
theorem scan_c {q c : Nat} {r acc : List Nat} (h : c ≠ q) (h2 : c ≠ 92) : scan q (c :: r) acc = scan q r (acc ++ [c]) := by
  rw [scan.eq_def]
  show (if c = q then _ else if c = 92 then _ else _) = _
  rw [if_neg h, if_neg h2]
theorem scan_e {q e : Nat} {r acc : List Nat} (h : 92 ≠ q) : scan q (92 :: e :: r) acc = match escOf e with
    | some x => scan q r (acc ++ [x])
    | none => .bad "invalid escape" := by
  rw [scan.eq_def]
  show (if 92 = q then _ else if 92 = 92 then _ else _) = _
  rw [if_neg h, if_pos rfl]
theorem scan_e0 {q : Nat} {acc : List Nat} (h : 92 ≠ q) : scan q [92] acc = .bad "text not closed" := by
  rw [scan.eq_def]
  show (if 92 = q then _ else if 92 = 92 then _ else _) = _
  rw [if_neg h, if_pos rfl]
theorem bs_S : ("\\" : Str) = S [92] := by decide +kernel
theorem dq_S : ("\"" : Str) = S [34] := by decide +kernel
theorem sq_S : ("'" : Str) = S [39] := by decide +kernel
theorem n_S : ("n" : Str) = S [110] := by decide +kernel
theorem esc_val (e : Nat) : valV (txtKV [("\\", "\\"), ("\"", "\""), ("'", "'"), ("n", "\n")]) (.inr (S [e])) = (escOf e).map fun x => .str (S [x]) := by
  rw [bs_S, dq_S, sq_S, n_S, nl_S]
  have ne : ∀ {c : Nat}, e ≠ c → ¬ (Sum.inr (S [c]) : Key) = .inr (S [e]) := fun h h2 => h (by have := S_inj (Sum.inr.inj h2); simpa using this.symm)
  unfold escOf txtKV
  by_cases h1 : e = 92
  · subst h1; exact valV_pos rfl
  refine (valV_neg (p := ((Sum.inr (S [92]) : Key), _)) (ne h1)).trans ?_
  rw [if_neg h1]
  by_cases h2 : e = 34
  · subst h2; exact valV_pos rfl
  refine (valV_neg (p := ((Sum.inr (S [34]) : Key), _)) (ne h2)).trans ?_
  rw [if_neg h2]
  by_cases h3 : e = 39
  · subst h3; exact valV_pos rfl
  refine (valV_neg (p := ((Sum.inr (S [39]) : Key), _)) (ne h3)).trans ?_
  rw [if_neg h3]
  by_cases h4 : e = 110
  · subst h4; exact valV_pos rfl
  refine (valV_neg (p := ((Sum.inr (S [110]) : Key), _)) (ne h4)).trans ?_
  rw [if_neg h4]
  rfl
/-- what a raised fault at line m leaves -/
def BadAt (C : Addr) (H : Hp) (E : XK) (m : Int) (r : Str) : Prop := ∀ d H', H d = none → Same H H' → H' d = some (faultD m r) → E (.ref C) (some d) H'
theorem BadAt.mono {C : Addr} {H H1 : Hp} {E : XK} {m : Int} {r : Str} (h : BadAt C H E m r) (S1 : Same H H1) : BadAt C H1 E m r := fun d H' hd S2 e => h d H' (by
  cases e1 : H d with
  | none => rfl
  | some o => rw [S1 _ _ e1] at hd; cases hd) (S1.trans S2) e
theorem BadAt.now {C : Addr} {H : Hp} {E : XK} {m : Int} {r : Str} (h : BadAt C H E m r) : ∀ d, H d = none → E (.ref C) (some d) (upd H d (faultD m r)) := fun d hd => h d _ hd (Same.new hd) upd_same
def PutsE (C : Addr) (H : Hp) (Q : VK) (E : XK) (m : Int) : Option Nat → Prop
  | none => BadAt C H E m "text not closed"
  | some e => match escOf e with
    | some x => Q (.str (S [x])) H
    | none => BadAt C H E m "invalid escape"
def spEsc (C : Addr) : Sp := fun vs H Q E => ∃ (a : List Nat) (j : Nat) (m : Int), vs = [.str (S a), .int (j : Nat), .int m] ∧ j ≤ a.length ∧ a.length ≤ 20000 ∧ m.natAbs < 2 ^ 60 ∧ PutsE C H Q E m a[j]?
theorem ok_escaped {C B : Addr} {f : Addr} {fd : FuncData} (F : Fun K "_escaped" "_escaped" s_escaped f fd) (T : Txt K mg) (U_Fault : UseF P w K mg base C B) (U_ESCAPES : UseD P w K mg "ESCAPES" (txtKV [("\\", "\\"), ("\"", "\""), ("'", "'"), ("n", "\n")])) :
    FnG P w K mg base (L2.CX P w) 3 f fd P_escaped (spEsc C) := by
  refine okG F sc_escaped (fun vs H Q E h => ?_) fun cdv A outer s H vs Q E hr hg h => ?_
  · obtain ⟨a, j, m, rfl, _⟩ := h
    rfl
  · obtain ⟨a, j, m, rfl, hj, hal, hm, k⟩ := h
    obtain ⟨aD_ESCAPES, gD_ESCAPES, kD⟩ := U_ESCAPES.ex
    refine ⟨_, (pss_cons (ps_if (pt_cmpR op_eq (pv 1) (pe_callB call_len (by rfl) T.b_len PySem.boot_len (pa_cons (pv 0) pa_nil)) (nomark _))
   (pss_one (ps_raiseF U_Fault rfl (takes_of rfl rfl rfl rfl) (hr.mono (by decide)) rfl (pa_cons (pv 2) (pa_cons pe_str pa_nil))))
   pss_nil)
  (pss_cons (ps_if (pt_cmp (pc_dnotinK (pe_ix ix_str (pv 0) (pv 1) (fun _ _ => rfl)) (pe_glob (v := .ref aD_ESCAPES) (by rfl) gD_ESCAPES rfl)))
   (pss_one (ps_raiseF U_Fault rfl (takes_of rfl rfl rfl rfl) (hr.mono (by decide)) rfl (pa_cons (pv 2) (pa_cons pe_str pa_nil))))
   pss_nil)
  (pss_one (ps_ret (pe_dgetK (pe_glob (v := .ref aD_ESCAPES) (by rfl) gD_ESCAPES rfl) (pe_ix ix_str (pv 0) (pv 1) (fun _ _ => rfl)) (fun _ _ => rfl)))))), ?_⟩
    have hz : (S a).length ≤ sizeLine := by rw [S_len]; exact Nat.le_trans hal (by decide)
    have hm2 : m.natAbs < 2 ^ 100 := Nat.lt_of_lt_of_le hm (by decide)
    refine ⟨_, rfl, _, rfl, _, _, rfl, ⟨hz, rfl⟩, rfl, _, rfl, ?_⟩
    by_cases e : j = a.length
    · rw [e, List.getElem?_eq_none (Nat.le_refl _)] at k
      refine iteTb (by rw [S_len, e]; exact decide_eq_true rfl) ?_
      exact ⟨_, rfl, m, _, rfl, hm2, by decide +kernel, BadAt.now k⟩
    · have hlt : j < a.length := by omega
      have hc : a[j]? = some a[j] := List.getElem?_eq_getElem hlt
      generalize a[j] = c at hc
      rw [hc] at k
      refine iteFb (by rw [S_len]; exact decide_eq_false fun h => e (by have := V.int.inj h; omega)) ?_
      refine ⟨_, rfl, _, rfl, S a, _, c, rfl, rfl, hz, at_S hc, aD_ESCAPES, _, .inr (S [c]), rfl, kD, rfl, _, rfl, ?_⟩
      have ev := esc_val c
      have k : (match escOf c with | some x => Q (.str (S [x])) H | none => BadAt C H E m "invalid escape") := k
      cases ex : escOf c with
      | none =>
        rw [ex] at ev k
        refine iteTb (by rw [ev]; rfl) ?_
        exact ⟨_, rfl, m, _, rfl, hm2, by decide +kernel, BadAt.now k⟩
      | some x =>
        rw [ex] at ev k
        refine iteFb (by rw [ev]; rfl) ?_
        exact ⟨_, rfl, _, rfl, S a, _, c, rfl, rfl, hz, at_S hc, aD_ESCAPES, _, .inr (S [c]), _, rfl, kD, rfl, ev, k⟩
/-! _add_text -/
def textT (acc : List Nat) (m : Int) : PyData := .tuple [.str "text", .str (S acc), .int m]
def isQ (q : Nat) : Prop := q = 34 ∨ q = 39
theorem isQ.ne {q : Nat} (h : isQ q) : 92 ≠ q ∧ q ≠ 32 ∧ q ≠ 35 ∧ q ≠ 95 ∧ q < 128 ∧ isW q = false ∧ q ≠ 10 := by
  rcases h with rfl | rfl <;> decide
def chV (cs : List Nat) : List V := (cs.map fun c => (⟨#[c]⟩ : Str)).map V.str
theorem chV_app (a b : List Nat) : chV (a ++ b) = chV a ++ chV b := by unfold chV; rw [List.map_append, List.map_append]
theorem chV_len (a : List Nat) : (chV a).length = a.length := by unfold chV; simp
theorem one_len : ∀ cs : List Nat, ((cs.map fun c => (⟨#[c]⟩ : Str)).map (·.length)).sum = cs.length
  | [] => rfl
  | c :: r => by rw [List.map_cons, List.map_cons, List.sum_cons, one_len r]; simp [Str.length]; omega
theorem joinL_one : ∀ cs : List Nat, TL.joinL [] (cs.map fun c => [c]) = cs
  | [] => rfl
  | [c] => rfl
  | c :: d :: r => by
    show [c] ++ ([] ++ TL.joinL [] ((d :: r).map fun c => [c])) = c :: d :: r
    rw [joinL_one (d :: r)]; rfl
theorem join_S1 (cs : List Nat) : Txt.join "" (cs.map fun c => (⟨#[c]⟩ : Str)) = S cs := by
  have e : (cs.map fun c => (⟨#[c]⟩ : Str)) = (cs.map fun c => [c]).map S := by rw [List.map_map]; rfl
  rw [e, show ("" : Str) = S [] by decide +kernel, join_S, joinL_one]
def PutsT (K : PySem.W.Frag) (C : Addr) (tp : Addr) (m : Int) (ds : List PyData) (n : Nat) (H : Hp) (Q : VK) (E : XK) : TR → Prop
  | .bad w => BadAt C H E m w
  | .done acc rest => if 200 < acc.length then BadAt C H E m "text too long" else ∀ H', ListAt K H' tp (ds ++ [textT acc m]) → Keep tp H H' → Q (.int ((n - rest.length : Nat) : Int)) H'
def spText (K : PySem.W.Frag) (C : Addr) : Sp := fun vs H Q E => ∃ (a : List Nat) (i q : Nat) (m : Int) (tp : Addr) (ds : List PyData), vs = [.str (S a), .int (i : Nat), .int m, .ref tp] ∧ a.length ≤ 20000 ∧ a[i]? = some q ∧ isQ q ∧ (∀ c ∈ a, c < 128) ∧
  ListAt K H tp ds ∧ ds.length ≤ 90000 ∧ m.natAbs < 2 ^ 60 ∧ PutsT K C tp m ds a.length H Q E (scan q (a.drop (i + 1)) [])
theorem ok_addtext {C B : Addr} {f : Addr} {fd : FuncData} (F : Fun K "_add_text" "_add_text" s_add_text f fd) (T : Txt K mg) (U_escaped : Use P w K mg base (L2.CX P w) "_escaped" 3 P_escaped (spEsc C)) (U_Fault : UseF P w K mg base C B) :
    FnG P w K mg base (L2.CX P w) 4 f fd P_add_text (spText K C) := by
  refine okG F sc_add_text (fun vs H Q E h => ?_) fun cdv A outer s H vs Q E hr hg h => ?_
  · obtain ⟨a, i, q, m, tp, ds, rfl, _⟩ := h
    rfl
  · obtain ⟨a, i, q, m, tp, ds, rfl, hal, hq, iq, hlt, L, hdl, hm, k⟩ := h
    refine ⟨_, (pss_cons (ps_set (i := 4) sc_add_text.nd rfl (Or.inl rfl) (pe_ix ix_str (pv 0) (pv 1) (fun _ _ => rfl)))
  (pss_cons (ps_set (i := 5) sc_add_text.nd rfl (Or.inl rfl) (pe_lst pa_nil))
  (pss_cons (ps_aug (i := 1) sc_add_text.nd rfl (Or.inl rfl) pe_int ip_add)
  (pss_cons (ps_while (passes_of rfl) (pt_up (PW.pt (pw_and (pt_cmpR op_lt (pv 1) (pe_callB call_len (by rfl) T.b_len PySem.boot_len (pa_cons (pv 0) pa_nil)) (nomark _)) (pw_and1 (pt_cmpR op_ne (pe_ix ix_str (pv 0) (pv 1) (fun _ _ => rfl)) (pv 4) (nomark _))))))
   (pss_cons (ps_if (pt_cmpR op_eq (pe_ix ix_str (pv 0) (pv 1) (fun _ _ => rfl)) pe_str (nomark _))
   (pss_cons (ps_aug (i := 1) sc_add_text.nd rfl (Or.inl rfl) pe_int ip_add)
  (pss_one (ps_expr (pe_bm PySem.F.plainAttrs_list PySem.F.slot_list_append PySem.F.type_list_append mt_append (pv 5) (pa_cons (pe_useR U_escaped (takes_of rfl rfl rfl rfl) (hr.mono (by decide)) hg rfl (pa_cons (pv 0) (pa_cons (pv 1) (pa_cons (pv 2) pa_nil)))) pa_nil)))))
   (pss_one (ps_expr (pe_bm PySem.F.plainAttrs_list PySem.F.slot_list_append PySem.F.type_list_append mt_append (pv 5) (pa_cons (pe_ix ix_str (pv 0) (pv 1) (fun _ _ => rfl)) pa_nil)))))
  (pss_one (ps_aug (i := 1) sc_add_text.nd rfl (Or.inl rfl) pe_int ip_add))))
  (pss_cons (ps_if (pt_cmpR op_eq (pv 1) (pe_callB call_len (by rfl) T.b_len PySem.boot_len (pa_cons (pv 0) pa_nil)) (nomark _))
   (pss_one (ps_raiseF U_Fault rfl (takes_of rfl rfl rfl rfl) (hr.mono (by decide)) rfl (pa_cons (pv 2) (pa_cons pe_str pa_nil))))
   pss_nil)
  (pss_cons (ps_if (pt_cmpR op_gt (pe_callB call_len (by rfl) T.b_len PySem.boot_len (pa_cons (pv 5) pa_nil)) (pe_globI T.c_MOST_IN_TEXT (by rfl)) (nomark _))
   (pss_one (ps_raiseF U_Fault rfl (takes_of rfl rfl rfl rfl) (hr.mono (by decide)) rfl (pa_cons (pv 2) (pa_cons pe_str pa_nil))))
   pss_nil)
  (pss_cons (ps_expr (pe_bm PySem.F.plainAttrs_list PySem.F.slot_list_append PySem.F.type_list_append mt_append (pv 3) (pa_cons (pe_tup (pa_cons pe_str (pa_cons (pe_bm PySem.F.plainAttrs_str PySem.F.slot_str_join PySem.F.type_str_join mt_join pe_str (pa_cons (pv 5) pa_nil)) (pa_cons (pv 2) pa_nil)))) pa_nil)))
  (pss_one (ps_ret (pe_op op_add (pv 1) pe_int)))))))))), ?_⟩
    have hz : (S a).length ≤ sizeLine := by rw [S_len]; exact Nat.le_trans hal (by decide)
    have hm2 : m.natAbs < 2 ^ 100 := Nat.lt_of_lt_of_le hm (by decide)
    have hia : i < a.length := (List.getElem?_eq_some_iff.mp hq).1
    obtain ⟨q92, _⟩ := iq.ne
    obtain ⟨zs, ez, az⟩ := id L
    have lz := az.length
    refine ⟨_, rfl, _, rfl, S a, _, q, rfl, rfl, hz, at_S hq, ?_⟩
    refine ⟨sz_0, fun cp hcp => ?_⟩
    have ntc : tp ≠ cp := ne_of_none ez hcp
    have S1 : Same H (upd H cp (.lst [])) := Same.new hcp
    refine ⟨_, rfl, _, _, rfl, rfl, ?_⟩
    refine while_up (fun σ H1 => ∃ (j : Nat) (acc : List Nat), σ = [some (.str (S a)), some (.int j), some (.int m), some (.ref tp), some (.str (S [q])), some (.ref cp)] ∧ j ≤ a.length ∧ acc.length ≤ j ∧ H1 cp = some (.lst (chV acc)) ∧ Same H H1 ∧ scan q (a.drop (i + 1)) [] = scan q (a.drop j) acc)
      (fun (σ : L2.St) (_ : Hp) => match σ[1]? with | some (some (V.int j)) => (a.length - j).toNat | _ => 0) ⟨i + 1, [], rfl, hia, by simp, upd_same, S1, rfl⟩ ?_
    rintro σ H1 ⟨j, acc, rfl, hj, hac, ec, S2, hscan⟩
    have appd : ∀ x : Nat, Same H (upd H1 cp (.lst (chV acc ++ [.str (S [x])]))) ∧ (upd H1 cp (.lst (chV acc ++ [.str (S [x])]))) cp = some (.lst (chV (acc ++ [x]))) := fun x => ⟨fun b o hb => by rw [upd_ne (ne_of_none hb hcp)]; exact S2 b o hb, by rw [upd_same, chV_app]; rfl⟩
    refine ⟨_, rfl, _, rfl, _, _, rfl, ⟨hz, rfl⟩, _, _, rfl, rfl, _, rfl, ?_⟩
    refine ite3 (fun c => ?_) fun c => ?_
    · have c := of_decide_eq_true c
      rw [S_len] at c
      have hj : j < a.length := by omega
      have hc : a[j]? = some a[j] := List.getElem?_eq_getElem hj
      have hdr := List.drop_eq_getElem_cons hj
      generalize a[j] = x at hc hdr
      rw [hdr] at hscan
      by_cases hxq : x = q
      · refine ⟨_, rfl, _, rfl, S a, _, x, rfl, rfl, hz, at_S hc, _, rfl, rfl, _, rfl, iteFb (by rw [sign_eq, decide_eq_true hxq]; rfl) ?_⟩
        subst hxq
        rw [scan_q] at hscan
        rw [hscan] at k
        have hdl2 : (a.drop (j + 1)).length = a.length - (j + 1) := List.length_drop
        refine ⟨_, rfl, _, rfl, _, _, rfl, ⟨hz, rfl⟩, rfl, _, rfl, iteFb (by rw [S_len]; exact decide_eq_false fun h => (by have := V.int.inj h; omega)) ?_⟩
        refine ⟨_, rfl, _, _, rfl, .inl ⟨_, SqL.of ec, rfl⟩, _, _, rfl, rfl, _, rfl, ?_⟩
        have k : (if 200 < acc.length then BadAt C H E m "text too long" else ∀ H', ListAt K H' tp (ds ++ [textT acc m]) → Keep tp H H' → Q (.int ((a.length - (a.drop (j + 1)).length : Nat) : Int)) H') := k
        rw [chV_len]
        by_cases h2 : 200 < acc.length
        · rw [if_pos h2] at k
          refine iteTb (decide_eq_true (by omega)) ?_
          exact ⟨_, rfl, m, _, rfl, hm2, by decide +kernel, (k.mono S2).now⟩
        · rw [if_neg h2] at k
          refine iteFb (decide_eq_false (by omega)) ?_
          have ez2 := S2 _ _ ez
          refine ⟨_, rfl, .inl ⟨rfl, _, SqL.of ez2⟩, rfl, _, rfl, _, cp, _, rfl, rfl, .inl (SqL.of ec), ?_, _, rfl, sz_3, fun u hu => ⟨tp, _, _, rfl, rfl, Same.new hu _ _ ez2, Nat.lt_of_le_of_lt (show zs.length ≤ 90000 by omega) (by decide), ?_⟩⟩
          · rw [one_len, List.length_map, show ("" : Str).length = 0 by decide +kernel]; omega
          rw [join_S1]
          have S3 := Same.new (o := .tup [.str "text", .str (S acc), .int m]) hu
          have en : a.length - (a.drop (j + 1)).length = j + 1 := by omega
          rw [en] at k
          refine ⟨_, rfl, _, _, rfl, rfl, ?_⟩
          have k := k _ (listAt_app (listAt_mono (listAt_mono L S2) S3) (S3 _ _ ez2) (Dt.made hu (.cons (.str _) (.cons (.str _) (.cons (.int _) .nil))))) fun b o hb ne => by rw [upd_ne ne]; exact S3 _ _ (S2 _ _ hb)
          exact k
      · refine ⟨_, rfl, _, rfl, S a, _, x, rfl, rfl, hz, at_S hc, _, rfl, rfl, _, rfl, iteTb (by rw [sign_eq, decide_eq_false hxq]; rfl) ?_⟩
        by_cases h92 : x = 92
        · subst h92
          refine ⟨_, rfl, _, rfl, S a, _, 92, rfl, rfl, hz, at_S hc, rfl, _, rfl, iteTb (by rw [bs_S, sign_eq]; exact decide_eq_true rfl) ?_⟩
          refine ⟨_, rfl, _, _, rfl, rfl, ?_⟩
          refine ⟨_, rfl, .inl ⟨rfl, _, SqL.of ec⟩, _, rfl, _, rfl, _, rfl, a, j + 1, m, rfl, hj, hal, hm, ?_⟩
          by_cases hj2 : j + 1 = a.length
          · rw [hj2, List.drop_length, scan_e0 q92] at hscan
            rw [hscan] at k
            rw [hj2, List.getElem?_eq_none (Nat.le_refl _)]
            exact BadAt.mono k S2
          · have hj3 : j + 1 < a.length := by omega
            have hc2 : a[j + 1]? = some a[j + 1] := List.getElem?_eq_getElem hj3
            have hdr2 := List.drop_eq_getElem_cons hj3
            generalize a[j + 1] = e at hc2 hdr2
            rw [hdr2, scan_e q92] at hscan
            rw [hc2]
            show (match escOf e with | some x => _ | none => BadAt C H1 E m "invalid escape")
            cases hx : escOf e with
            | none =>
              rw [hx] at hscan
              rw [hscan] at k
              exact BadAt.mono k S2
            | some y =>
              rw [hx] at hscan
              obtain ⟨a1, a2⟩ := appd y
              refine ⟨cp, _, _, rfl, rfl, ec, by rw [chV_len]; exact Nat.lt_of_le_of_lt (show acc.length ≤ 20000 by omega) (by decide), ?_⟩
              exact ⟨_, rfl, _, _, rfl, rfl, ⟨j + 1 + 1, acc ++ [y], rfl, by omega, by simp; omega, a2, a1, hscan⟩, by simp; omega⟩
        · rw [scan_c hxq h92] at hscan
          refine ⟨_, rfl, _, rfl, S a, _, x, rfl, rfl, hz, at_S hc, rfl, _, rfl, iteFb (by rw [bs_S, sign_eq]; exact decide_eq_false h92) ?_⟩
          obtain ⟨a1, a2⟩ := appd x
          refine ⟨_, rfl, .inl ⟨rfl, _, SqL.of ec⟩, _, rfl, _, rfl, S a, _, x, rfl, rfl, hz, at_S hc, cp, _, _, rfl, rfl, ec, by rw [chV_len]; exact Nat.lt_of_le_of_lt (show acc.length ≤ 20000 by omega) (by decide), ?_⟩
          exact ⟨_, rfl, _, _, rfl, rfl, ⟨j + 1, acc ++ [x], rfl, by omega, by simp; omega, a2, a1, hscan⟩, by simp; omega⟩
    · have c := of_decide_eq_false c
      rw [S_len] at c
      obtain rfl : j = a.length := by omega
      rw [List.drop_length] at hscan
      rw [hscan] at k
      refine ⟨_, rfl, _, rfl, _, _, rfl, ⟨hz, rfl⟩, rfl, _, rfl, iteTb (by rw [S_len]; exact decide_eq_true rfl) ?_⟩
      exact ⟨_, rfl, m, _, rfl, hm2, by decide +kernel, (BadAt.mono (show BadAt C H E m "text not closed" from k) S2).now⟩
end

section
--SPLIT
end
abbrev s_split : Stmt := top 64
abbrev N_split : List Str := ["text", "tokens", "indents", "brackets", "lines", "at", "line", "_", "opened"]
abbrev P_split : List Str := ["text"]
theorem sc_split : FnScope N_split P_split (defScope s_split) := ⟨rfl, rfl, rfl, by decide +kernel, rfl, by decide +kernel, by decide +kernel⟩
abbrev s_add_line : Stmt := top 68
abbrev N_add_line : List Str := ["line", "number", "brackets", "tokens", "at"]
abbrev P_add_line : List Str := ["line", "number", "brackets", "tokens"]
theorem sc_add_line : FnScope N_add_line P_add_line (defScope s_add_line) := ⟨rfl, rfl, rfl, by decide +kernel, rfl, by decide +kernel, by decide +kernel⟩
abbrev s_add_word : Stmt := top 70
abbrev N_add_word : List Str := ["line", "at", "number", "tokens", "end", "word"]
abbrev P_add_word : List Str := ["line", "at", "number", "tokens"]
theorem sc_add_word : FnScope N_add_word P_add_word (defScope s_add_word) := ⟨rfl, rfl, rfl, by decide +kernel, rfl, by decide +kernel, by decide +kernel⟩
abbrev s_add_integer : Stmt := top 71
abbrev N_add_integer : List Str := ["line", "at", "number", "tokens", "end", "digits"]
abbrev P_add_integer : List Str := ["line", "at", "number", "tokens"]
theorem sc_add_integer : FnScope N_add_integer P_add_integer (defScope s_add_integer) := ⟨rfl, rfl, rfl, by decide +kernel, rfl, by decide +kernel, by decide +kernel⟩
abbrev s_add_sign : Stmt := top 74
abbrev N_add_sign : List Str := ["line", "at", "number", "brackets", "tokens", "sign"]
abbrev P_add_sign : List Str := ["line", "at", "number", "brackets", "tokens"]
theorem sc_add_sign : FnScope N_add_sign P_add_sign (defScope s_add_sign) := ⟨rfl, rfl, rfl, by decide +kernel, rfl, by decide +kernel, by decide +kernel⟩
abbrev s_follow_brackets : Stmt := top 75
abbrev N_follow_brackets : List Str := ["sign", "number", "brackets"]
abbrev P_follow_brackets : List Str := ["sign", "number", "brackets"]
theorem sc_follow_brackets : FnScope N_follow_brackets P_follow_brackets (defScope s_follow_brackets) := ⟨rfl, rfl, rfl, by decide +kernel, rfl, by decide +kernel, by decide +kernel⟩
section
variable {P : Program} {w : World} {K : PySem.W.Frag} {mg : Str → Option Value} {base : Heap}
/-! valid texts: words, integers, texts and signs, read one behind the other -/
theorem cut_mid {a : List Nat} {i j : Nat} (h : i ≤ j) (h2 : j ≤ a.length) : cutS (S a) (some (i : Int)) (some (j : Int)) = S ((a.drop i).take (j - i)) := by
  unfold cutS
  rw [S_len, HT.sIx_nat, HT.sIx_nat]
  show (⟨((a.drop (min i a.length)).take (min j a.length - min i a.length)).toArray⟩ : Str) = _
  rw [Nat.min_eq_left h2, Nat.min_eq_left (show i ≤ a.length by omega)]
def kwB (a : List Nat) : Bool := inV (V.str (S a)) (kwords.map V.str)
def valI (a : List Nat) : Int := ((NumText.digitsVal a : Nat) : Int)
/-- the word of a that begins at i ends at j -/
structure WordAt (a : List Nat) (i j : Nat) (b : List Nat) : Prop where
  lt : i < j
  le : j ≤ a.length
  eq : b = (a.drop i).take (j - i)
  w : ∀ c ∈ b, isW c = true
  nd : ∀ c, a[j]? = some c → isW c = false
theorem WordAt.all {a b : List Nat} {i j : Nat} (h : WordAt a i j b) : ∀ t, i ≤ t → t < j → ∀ c, a[t]? = some c → isW c = true := fun t h1 h2 c hc => by
  refine h.w c ?_
  rw [h.eq]
  refine List.mem_of_getElem? (i := t - i) ?_
  rw [List.getElem?_take, if_pos (by omega), List.getElem?_drop, show i + (t - i) = t by omega]
  exact hc
theorem WordAt.len {a b : List Nat} {i j : Nat} (h : WordAt a i j b) : b.length = j - i := by
  rw [h.eq, List.length_take, List.length_drop]
  have := h.le
  omega
/-- a token d is put behind the tokens ds -/
def AddTok (K : PySem.W.Frag) (tp : Addr) (H : Hp) (Q : Hp → Prop) (ds : List PyData) (d : PyData) : Prop := ListAt K H tp ds ∧ ds.length ≤ 90000 ∧ ∀ H', ListAt K H' tp (ds ++ [d]) → Keep tp H H' → Q H'
theorem AddTok.put {tp u : Addr} {H : Hp} {Q : Hp → Prop} {ds : List PyData} {ts : List V} {es : List PyData} {zs : List V} (h : AddTok K tp H Q ds (.tuple es)) (hu : H u = none) (ht : DtAll K H ts es) (ez : H tp = some (.lst zs)) :
    Q (upd (upd H u (.tup ts)) tp (.lst (zs ++ [.ref u]))) := by
  have S1 := Same.new (o := .tup ts) hu
  exact h.2.2 _ (listAt_app (listAt_mono h.1 S1) (S1 _ _ ez) (Dt.made hu ht)) fun b o hb ne => by rw [upd_ne ne]; exact S1 _ _ hb
theorem AddTok.ez {tp : Addr} {H : Hp} {Q : Hp → Prop} {ds : List PyData} {d : PyData} (h : AddTok K tp H Q ds d) : ∃ zs, H tp = some (.lst zs) ∧ zs.length < sizeLine := by
  obtain ⟨⟨zs, ez, az⟩, hl, _⟩ := h
  have lz := az.length
  exact ⟨zs, ez, Nat.lt_of_le_of_lt (show zs.length ≤ 90000 by omega) (by decide)⟩
def wordD (b : List Nat) (m : Int) : PyData := .tuple [.str (if kwB b = true then "word" else "name"), .str (S b), .int m]
def spWord (K : PySem.W.Frag) : Sp := fun vs H Q _ => ∃ (a : List Nat) (i j : Nat) (b : List Nat) (m : Int) (tp : Addr) (ds : List PyData), vs = [.str (S a), .int (i : Nat), .int m, .ref tp] ∧ a.length ≤ 20000 ∧ (∀ c ∈ a, c < 128) ∧ WordAt a i j b ∧
  (kwB b = true ∨ b.length ≤ 30) ∧ AddTok K tp H (Q (.int (j : Nat))) ds (wordD b m)
theorem ok_addword {C B : Addr} {f : Addr} {fd : FuncData} (F : Fun K "_add_word" "_add_word" s_add_word f fd) (T : Txt K mg) (U_word_end : Use P w K mg base CX0 "_word_end" 1 P_word_end spWordEnd) (U_Fault : UseF P w K mg base C B) :
    FnG P w K mg base (L2.CX P w) 3 f fd P_add_word (spWord K) := by
  refine okG F sc_add_word (fun vs H Q E h => ?_) fun cdv A outer s H vs Q E hr hg h => ?_
  · obtain ⟨a, i, j, b, m, tp, ds, rfl, _⟩ := h
    rfl
  · obtain ⟨a, i, j, b, m, tp, ds, rfl, hal, hw, W, hb, k⟩ := h
    refine ⟨_, (pss_cons (ps_set (i := 4) sc_add_word.nd rfl (Or.inl rfl) (pe_use U_word_end (hr.mono (by decide)) hg rfl (pa_cons (pv 0) (pa_cons (pv 1) pa_nil))))
  (pss_cons (ps_set (i := 5) sc_add_word.nd rfl (Or.inl rfl) (pe_slice sl_str (pv 0) (po_some (pv 1)) (po_some (pv 4))))
  (pss_cons (ps_if (pt_cmpR op_in_seq (pv 5) (pe_globT T.c_KEYWORDS (by rfl)) (by rfl))
   (pss_one (ps_expr (pe_bm PySem.F.plainAttrs_list PySem.F.slot_list_append PySem.F.type_list_append mt_append (pv 3) (pa_cons (pe_tup (pa_cons pe_str (pa_cons (pv 5) (pa_cons (pv 2) pa_nil)))) pa_nil))))
   (pss_one (ps_if (pt_cmpR op_gt (pe_callB call_len (by rfl) T.b_len PySem.boot_len (pa_cons (pv 5) pa_nil)) (pe_globI T.c_MOST_IN_NAME (by rfl)) (nomark _))
   (pss_one (ps_raiseF U_Fault rfl (takes_of rfl rfl rfl rfl) (hr.mono (by decide)) rfl (pa_cons (pv 2) (pa_cons pe_str pa_nil))))
   (pss_one (ps_expr (pe_bm PySem.F.plainAttrs_list PySem.F.slot_list_append PySem.F.type_list_append mt_append (pv 3) (pa_cons (pe_tup (pa_cons pe_str (pa_cons (pv 5) (pa_cons (pv 2) pa_nil)))) pa_nil)))))))
  (pss_one (ps_ret (pv 4)))))), ?_⟩
    have hz : (S a).length ≤ sizeLine := by rw [S_len]; exact Nat.le_trans hal (by decide)
    have hi := W.lt
    have hj := W.le
    refine ⟨_, rfl, _, rfl, a, i, rfl, by omega, hal, hw, fun j' h1 h2 h3 h4 => ?_⟩
    obtain rfl : j' = j := by
      by_cases e : j' < j
      · have hc : a[j']? = some a[j'] := List.getElem?_eq_getElem (by omega)
        have h5 := W.all j' h1 e _ hc
        rw [h4 _ hc] at h5
        cases h5
      · by_cases e2 : j < j'
        · have hc : a[j]? = some a[j] := List.getElem?_eq_getElem (by omega)
          have h5 := h3 j (by omega) e2 _ hc
          rw [W.nd _ hc] at h5
          cases h5
        · omega
    refine ⟨_, rfl, _, rfl, _, rfl, _, rfl, _, rfl, _, rfl, hz, ?_⟩
    rw [cut_mid (by omega) hj, ← W.eq]
    obtain ⟨zs, ez, lz⟩ := k.ez
    unfold wordD at k
    refine ⟨_, rfl, fun ak kk => ⟨ak, _, rfl, .inr (kk.sq _), rfl, by decide +kernel, ?_⟩⟩
    dsimp only
    refine ⟨_, rfl, ?_⟩
    refine ite3 (fun c => ?_) fun c => ?_
    · rw [if_pos (show kwB b = true from c)] at k
      refine ⟨_, rfl, .inl ⟨rfl, _, SqL.of ez⟩, _, rfl, _, rfl, sz_3, fun u hu => ⟨tp, _, _, rfl, rfl, Same.new hu _ _ ez, lz, ?_⟩⟩
      exact ⟨_, rfl, k.put hu (.cons (.str _) (.cons (.str _) (.cons (.int _) .nil))) ez⟩
    · have nk : ¬ kwB b = true := by rw [show kwB b = false from c]; exact Bool.false_ne_true
      rw [if_neg nk] at k
      refine ⟨_, rfl, _, _, rfl, ⟨by rw [S_len, W.len]; exact Nat.le_trans (show _ ≤ 20000 by omega) (by decide), rfl⟩, _, _, rfl, rfl, _, rfl, iteFb (decide_eq_false (by rw [S_len]; have := hb.resolve_left nk; omega)) ?_⟩
      refine ⟨_, rfl, .inl ⟨rfl, _, SqL.of ez⟩, _, rfl, _, rfl, sz_3, fun u hu => ⟨tp, _, _, rfl, rfl, Same.new hu _ _ ez, lz, ?_⟩⟩
      exact ⟨_, rfl, k.put hu (.cons (.str _) (.cons (.str _) (.cons (.int _) .nil))) ez⟩
end
section
variable {P : Program} {w : World} {K : PySem.W.Frag} {mg : Str → Option Value} {base : Heap}
def intD (b : List Nat) (m : Int) : PyData := .tuple [.str "int", .int (valI b), .int m]
structure IntOk (b : List Nat) : Prop where
  ne : b ≠ []
  dg : b.all isD = true
  no : ¬ (1 < b.length ∧ b.head? = some 48)
  len : b.length ≤ 78
  lt : valI b < 2 ^ 256
def spInt (K : PySem.W.Frag) : Sp := fun vs H Q _ => ∃ (a : List Nat) (i j : Nat) (b : List Nat) (m : Int) (tp : Addr) (ds : List PyData), vs = [.str (S a), .int (i : Nat), .int m, .ref tp] ∧ a.length ≤ 20000 ∧ (∀ c ∈ a, c < 128) ∧ WordAt a i j b ∧
  IntOk b ∧ AddTok K tp H (Q (.int (j : Nat))) ds (intD b m)
theorem WordAt.end_ {a b : List Nat} {i j j' : Nat} (W : WordAt a i j b) (h1 : i ≤ j') (h2 : j' ≤ a.length) (h3 : ∀ t, i ≤ t → t < j' → ∀ c, a[t]? = some c → isW c = true) (h4 : ∀ c, a[j']? = some c → isW c = false) : j' = j := by
  have hi := W.lt
  have hj := W.le
  by_cases e : j' < j
  · have hc : a[j']? = some a[j'] := List.getElem?_eq_getElem (by omega)
    have h5 := W.all j' h1 e _ hc
    rw [h4 _ hc] at h5
    cases h5
  · by_cases e2 : j < j'
    · have hc : a[j]? = some a[j] := List.getElem?_eq_getElem (by omega)
      have h5 := h3 j (by omega) e2 _ hc
      rw [W.nd _ hc] at h5
      cases h5
    · omega
theorem ok_addint {C B : Addr} {f : Addr} {fd : FuncData} (F : Fun K "_add_integer" "_add_integer" s_add_integer f fd) (T : Txt K mg) (U_word_end : Use P w K mg base CX0 "_word_end" 1 P_word_end spWordEnd) (U_Fault : UseF P w K mg base C B) :
    FnG P w K mg base (L2.CX P w) 3 f fd P_add_integer (spInt K) := by
  refine okG F sc_add_integer (fun vs H Q E h => ?_) fun cdv A outer s H vs Q E hr hg h => ?_
  · obtain ⟨a, i, j, b, m, tp, ds, rfl, _⟩ := h
    rfl
  · obtain ⟨a, i, j, b, m, tp, ds, rfl, hal, hw, W, hb, k⟩ := h
    refine ⟨_, (pss_cons (ps_set (i := 4) sc_add_integer.nd rfl (Or.inl rfl) (pe_use U_word_end (hr.mono (by decide)) hg rfl (pa_cons (pv 0) (pa_cons (pv 1) pa_nil))))
  (pss_cons (ps_set (i := 5) sc_add_integer.nd rfl (Or.inl rfl) (pe_slice sl_str (pv 0) (po_some (pv 1)) (po_some (pv 4))))
  (C8.pss_cut (ps_if (PW.pt (pw_or (pt_not (pt_val (pe_bm0 PySem.F.plainAttrs_str PySem.F.slot_str_isdigit PySem.F.type_str_isdigit mt_isdigit (pv 5)))) (pw_or1 (PW.pt (pw_and (pt_cmpR op_gt (pe_callB call_len (by rfl) T.b_len PySem.boot_len (pa_cons (pv 5) pa_nil)) pe_int (nomark _)) (pw_and1 (pt_cmpR op_eq (pe_ix ix_str (pv 5) pe_int (fun _ _ => rfl)) pe_str (nomark _))))))))
   pss_never
   pss_nil)
  (pss_cons (ps_if (PW.pt (pw_or (pt_cmpR op_gt (pe_callB call_len (by rfl) T.b_len PySem.boot_len (pa_cons (pv 5) pa_nil)) (pe_globI T.c_MOST_DIGITS (by rfl)) (nomark _)) (pw_or1 (pt_cmpR op_ge (pe_callTy call_int_str (by rfl) T.b_int (by decide +kernel) (pa_cons (pv 5) pa_nil)) (pe_globI T.c_INTEGER_END (by rfl)) (nomark _)))))
   pss_never
   pss_nil)
  (pss_cons (ps_expr (pe_bm PySem.F.plainAttrs_list PySem.F.slot_list_append PySem.F.type_list_append mt_append (pv 3) (pa_cons (pe_tup (pa_cons pe_str (pa_cons (pe_callTy call_int_str (by rfl) T.b_int (by decide +kernel) (pa_cons (pv 5) pa_nil)) (pa_cons (pv 2) pa_nil)))) pa_nil)))
  (pss_one (ps_ret (pv 4)))))))), ?_⟩
    have hz : (S a).length ≤ sizeLine := by rw [S_len]; exact Nat.le_trans hal (by decide)
    have hi := W.lt
    have hj := W.le
    refine ⟨_, rfl, _, rfl, a, i, rfl, by omega, hal, hw, fun j' h1 h2 h3 h4 => ?_⟩
    obtain rfl := W.end_ h1 h2 h3 h4
    refine ⟨_, rfl, _, rfl, _, rfl, _, rfl, _, rfl, _, rfl, hz, ?_⟩
    rw [cut_mid (by omega) hj, ← W.eq]
    obtain ⟨zs, ez, lz⟩ := k.ez
    have hbl := hb.len
    have hzb : (S b).length ≤ sizeLine := by rw [S_len]; exact Nat.le_trans hbl (by decide)
    have ed : Txt.isdigit (S b) = b.all isD := digitS (fun c hc => isW_lt (W.w c hc)) hb.ne
    have pv : PySem.intText? (S b) = some (valI b) := int_S hb.dg hb.ne (by omega)
    obtain ⟨c, r, eb⟩ := List.exists_cons_of_ne_nil hb.ne
    refine ⟨fun σ H1 => σ = [some (.str (S a)), some (.int (i : Nat)), some (.int m), some (.ref tp), some (.int (j' : Nat)), some (.str (S b))] ∧ H1 = H, ?_, ?_⟩
    · refine ⟨_, rfl, rfl, _, rfl, rfl, trivial, ⟨_, rfl, ?_⟩⟩
      rw [ed, hb.dg]
      refine iteFb rfl ?_
      refine ⟨_, rfl, _, _, rfl, ⟨hzb, rfl⟩, _, _, rfl, rfl, _, rfl, ?_⟩
      by_cases c1 : 1 < b.length
      · refine iteTb (decide_eq_true (by rw [S_len]; omega)) ?_
        refine ⟨_, rfl, S b, _, c, rfl, rfl, hzb, at_S (j := 0) (by rw [eb]; rfl), rfl, _, rfl, ?_⟩
        rw [show ("0" : Str) = S [48] by decide +kernel, sign_eq]
        exact iteFb (decide_eq_false fun e => hb.no ⟨c1, by rw [eb, e]; rfl⟩) ⟨rfl, rfl⟩
      · exact iteFb (decide_eq_false (by rw [S_len]; omega)) ⟨rfl, rfl⟩
    rintro _ _ ⟨rfl, e0⟩
    subst e0
    refine ⟨_, rfl, _, _, rfl, ⟨hzb, rfl⟩, _, _, rfl, rfl, _, rfl, iteFb (decide_eq_false (by rw [S_len]; omega)) ⟨_, rfl, S b, valI b, rfl, pv, by rw [S_len]; omega, _, _, rfl, rfl, _, rfl, iteFb (decide_eq_false (by have := hb.lt; omega)) ?_⟩⟩
    refine ⟨_, rfl, .inl ⟨rfl, _, SqL.of ez⟩, _, rfl, S b, valI b, rfl, pv, by rw [S_len]; omega, _, rfl, sz_3, fun u hu => ⟨tp, _, _, rfl, rfl, Same.new hu _ _ ez, lz, ?_⟩⟩
    exact ⟨_, rfl, k.put hu (.cons (.str _) (.cons (.int _) (.cons (.int _) .nil))) ez⟩
/-! signs and brackets -/
abbrev St := List (Nat × Int)
def opens (c : Nat) : Bool := c == 40 || c == 91 || c == 123
def openOf (c : Nat) : Nat := if c = 41 then 40 else if c = 93 then 91 else 123
def isBr (c : Nat) : Bool := c == 40 || c == 91 || c == 123 || c == 41 || c == 93 || c == 125
def brD (p : Nat × Int) : PyData := .tuple [.str (S [p.1]), .int p.2]
/-- what a sign does to the brackets that are open -/
inductive Fol : List Nat → Int → St → St → Prop
  | opn {c : Nat} {m : Int} {st : St} : opens c = true → st.length < 20 → Fol [c] m st (st ++ [(c, m)])
  | cls {c : Nat} {m : Int} {st : St} {p : Nat × Int} : isBr c = true → opens c = false → p.1 = openOf c → Fol [c] m (st ++ [p]) st
  | oth {z : List Nat} {m : Int} {st : St} : z ∈ sgns → (∀ c, z = [c] → isBr c = false) → Fol z m st st
def signD (z : List Nat) (m : Int) : PyData := .tuple [.str "sign", .str (S z), .int m]
def spFollow (K : PySem.W.Frag) : Sp := fun vs H Q _ => ∃ (z : List Nat) (m : Int) (bp : Addr) (st st' : St), vs = [.str (S z), .int m, .ref bp] ∧ Fol z m st st' ∧ ListAt K H bp (st.map brD) ∧ st.length ≤ 20 ∧ (∀ H', ListAt K H' bp (st'.map brD) → Keep bp H H' → Q .non H')
theorem dtAll_init {H : Hp} : ∀ {xs : List V} {v : V} {ds : List PyData} {d : PyData}, DtAll K H (xs ++ [v]) (ds ++ [d]) → xs.length = ds.length → DtAll K H xs ds
  | [], _, [], _, _, _ => .nil
  | x :: xs, _, e :: ds, _, h, hl => by
    cases h with
    | cons h1 h2 => exact .cons h1 (dtAll_init h2 (by simpa using hl))
  | [], _, _ :: _, _, _, hl => by simp at hl
  | _ :: _, _, [], _, _, hl => by simp at hl
theorem br_cases {c : Nat} (h : isBr c = true) : c = 40 ∨ c = 91 ∨ c = 123 ∨ c = 41 ∨ c = 93 ∨ c = 125 := by
  simp [isBr] at h; omega
theorem open_cases {c : Nat} (h : opens c = true) : c = 40 ∨ c = 91 ∨ c = 123 := by
  simp [opens] at h; omega
theorem br_oth : ∀ z ∈ sgns, (z.length = 1 ∧ (z.head?.any isBr) = true) ∨ (inV (.str (S z)) [.str "(", .str "[", .str "{"] = false ∧ valV (txtKV [(")", "("), ("]", "["), ("}", "{")]) (.inr (S z)) = none) := by decide +kernel
theorem ok_follow {C B : Addr} {f : Addr} {fd : FuncData} (F : Fun K "_follow_brackets" "_follow_brackets" s_follow_brackets f fd) (T : Txt K mg) (U_Fault : UseF P w K mg base C B) (U_OPENED_BY : UseD P w K mg "OPENED_BY" (txtKV [(")", "("), ("]", "["), ("}", "{")])) :
    FnG P w K mg base (L2.CX P w) 3 f fd P_follow_brackets (spFollow K) := by
  refine okG F sc_follow_brackets (fun vs H Q E h => ?_) fun cdv A outer s H vs Q E hr hg h => ?_
  · obtain ⟨z, m, bp, st, st', rfl, _⟩ := h
    rfl
  · obtain ⟨z, m, bp, st, st', rfl, hF, L, hl, k⟩ := h
    obtain ⟨aD_OPENED_BY, gD_OPENED_BY, kD⟩ := U_OPENED_BY.ex
    refine ⟨_, (pss_one (ps_if (pt_cmpR op_in_seq (pv 0) (pe_tup (pa_cons pe_str (pa_cons pe_str (pa_cons pe_str pa_nil)))) (by rfl))
   (pss_cons (ps_if (pt_cmpR op_eq (pe_callB call_len (by rfl) T.b_len PySem.boot_len (pa_cons (pv 2) pa_nil)) (pe_globI T.c_MOST_BRACKETS (by rfl)) (nomark _))
   (pss_one (ps_raiseF U_Fault rfl (takes_of rfl rfl rfl rfl) (hr.mono (by decide)) rfl (pa_cons (pv 1) (pa_cons pe_str pa_nil))))
   pss_nil)
  (pss_one (ps_expr (pe_bm PySem.F.plainAttrs_list PySem.F.slot_list_append PySem.F.type_list_append mt_append (pv 2) (pa_cons (pe_tup (pa_cons (pv 0) (pa_cons (pv 1) pa_nil))) pa_nil)))))
   (pss_one (ps_if (pt_cmp (pc_dinK (pv 0) (pe_glob (v := .ref aD_OPENED_BY) (by rfl) gD_OPENED_BY rfl)))
   (pss_cons (ps_if (PW.pt (pw_or (pt_not (pt_truth (pv 2) (by intro _; rfl))) (pw_or1 (pt_cmpR op_ne (pe_ix ix_tup (pe_ix ix_list (pv 2) (pe_un un_neg pe_int) (fun _ _ => rfl)) pe_int (fun _ _ => rfl)) (pe_dgetK (pe_glob (v := .ref aD_OPENED_BY) (by rfl) gD_OPENED_BY rfl) (pv 0) (fun _ _ => rfl)) (nomark _)))))
   (pss_one (ps_raiseF U_Fault rfl (takes_of rfl rfl rfl rfl) (hr.mono (by decide)) rfl (pa_cons (pv 1) (pa_cons pe_str pa_nil))))
   pss_nil)
  (pss_one (ps_expr (pe_bm0 PySem.F.plainAttrs_list PySem.F.slot_list_pop PySem.F.type_list_pop mt_pop (pv 2)))))
   pss_nil)))), ?_⟩
    obtain ⟨zs, ez, az⟩ := id L
    have lz := az.length
    rw [List.length_map] at lz
    refine ⟨_, rfl, sz_3, fun u hu => ⟨u, _, rfl, .inr (SqT.of upd_same), rfl, rfl, _, rfl, ?_⟩⟩
    have S1 := Same.new (o := .tup [.str "(", .str "[", .str "{"]) hu
    have ez1 := S1 _ _ ez
    have L1 := listAt_mono L S1
    rw [if_neg Bool.false_ne_true]
    generalize upd H u _ = H1 at S1 ez1 L1
    cases hF with
    | @opn c _ _ ho h20 =>
      refine iteTb (by rcases open_cases ho with rfl | rfl | rfl <;> decide +kernel) ?_
      refine ⟨_, rfl, _, _, rfl, .inl ⟨_, SqL.of ez1, rfl⟩, rfl, _, rfl, iteFb (decide_eq_false fun h => by have := V.int.inj h; omega) ?_⟩
      refine ⟨_, rfl, .inl ⟨rfl, _, SqL.of ez1⟩, _, rfl, _, rfl, sz_2, fun u2 hu2 => ⟨bp, _, _, rfl, rfl, Same.new hu2 _ _ ez1, Nat.lt_of_le_of_lt (show zs.length ≤ 20 by omega) (by decide), ?_⟩⟩
      have S2 := Same.new (o := .tup [.str (S [c]), .int m]) hu2
      refine k _ ?_ fun b o hb ne => by rw [upd_ne ne]; exact S2 _ _ (S1 _ _ hb)
      rw [List.map_append]
      exact listAt_app (listAt_mono L1 S2) (S2 _ _ ez1) (Dt.made hu2 (.cons (.str _) (.cons (.int _) .nil)))
    | oth hz hnb =>
      have ho := br_oth z hz
      rcases ho with ⟨h1, h2⟩ | ⟨h1, h2⟩
      · exfalso
        match z, h1, h2 with
        | [c], _, h2 => have := hnb c rfl; simp at h2; rw [this] at h2; cases h2
      refine iteFb h1 ?_
      refine ⟨_, rfl, aD_OPENED_BY, _, .inr (S z), rfl, kD, rfl, _, rfl, ?_⟩
      rw [h2]
      exact iteFb rfl (k _ L1 (Same.keep S1))
    | @cls c _ _ p hb hno hp =>
      refine iteFb (by rcases br_cases hb with rfl | rfl | rfl | rfl | rfl | rfl <;> first | exact absurd hno (by decide) | decide +kernel) ?_
      have hk : ∃ v : Str, valV (txtKV [(")", "("), ("]", "["), ("}", "{")]) (.inr (S [c])) = some (.str v) ∧ v = S [openOf c] := by
        rcases br_cases hb with rfl | rfl | rfl | rfl | rfl | rfl
        · exact absurd hno (by decide)
        · exact absurd hno (by decide)
        · exact absurd hno (by decide)
        · exact ⟨"(", by decide +kernel, by decide +kernel⟩
        · exact ⟨"[", by decide +kernel, by decide +kernel⟩
        · exact ⟨"{", by decide +kernel, by decide +kernel⟩
      obtain ⟨v, hv, rfl⟩ := hk
      refine ⟨_, rfl, aD_OPENED_BY, _, .inr (S [c]), rfl, kD, rfl, _, rfl, ?_⟩
      rw [hv]
      refine iteTb rfl ?_
      refine ⟨_, rfl, _, .inl ⟨_, SqL.of ez1, rfl⟩, ?_⟩
      obtain ⟨zs1, ez1', az1⟩ := id L1
      rw [ez1] at ez1'
      obtain rfl := HO.lst.inj (Option.some.inj ez1')
      rw [List.length_append, List.length_singleton] at lz
      obtain ⟨ws, v, rfl⟩ : ∃ ws v, zs = ws ++ [v] := by
        rcases List.eq_nil_or_concat zs with rfl | ⟨ws, v, rfl⟩
        · simp at lz
        · exact ⟨ws, v, List.concat_eq_append⟩
      rw [List.length_append, List.length_singleton] at lz
      obtain ⟨y, hy, dy⟩ := az1.get (i := st'.length) (show ((st' ++ [p]).map brD)[st'.length]? = some (brD p) by rw [List.map_append, List.getElem?_append_right (by simp)]; simp)
      rw [List.getElem?_append_right (by omega), show st'.length - ws.length = 0 by omega] at hy
      obtain rfl := Option.some.inj hy
      obtain ⟨q, x, rfl, hq, hx⟩ := Dt.pair dy
      cases hx.int_inv
      have hem : (!!(ws ++ [V.ref q]).isEmpty) = false := by simp
      rw [hem]
      refine iteFb rfl ?_
      refine ⟨_, rfl, _, rfl, bp, _, _, _, rfl, rfl, SqL.of ez1, atI_last _ _, q, _, _, _, rfl, rfl, hq, at0, _, rfl, aD_OPENED_BY, _, .inr (S [c]), _, rfl, kD, rfl, hv, rfl, _, rfl, ?_⟩
      rw [str_eq]
      refine iteFb (by rw [decide_eq_true (by rw [hp])]; rfl) ?_
      refine ⟨_, rfl, .inl ⟨rfl, _, SqL.of ez1⟩, bp, _, _, rfl, rfl, ez1, (show (ws ++ [V.ref q])[(ws ++ [V.ref q]).length - 1]? = some (V.ref q) by simp), ?_⟩
      rw [List.dropLast_concat]
      refine k _ ⟨ws, upd_same, ?_⟩ fun b o hb ne => by rw [upd_ne ne]; exact S1 _ _ hb
      refine DtAll.keepT (KeepT.upd ez1) ?_
      rw [List.map_append] at az1
      exact dtAll_init az1 (by rw [List.length_map]; omega)
/-! a sign at a place -/
def SignAt (a : List Nat) (i : Nat) (z : List Nat) : Prop := ∃ jz : Nat, sgns[jz]? = some z ∧ (a.drop i).take z.length = z ∧ ∀ j, j < jz → ∀ y, sgns[j]? = some y → (a.drop i).take y.length ≠ y
theorem starts3 {a z : List Nat} {i : Nat} (hi : i ≤ a.length) : Txt.startswith3 (S a) (S z) (i : Nat) = decide (z = (a.drop i).take z.length) := by
  have e0 : fromIndex (S a).length (i : Nat) = i := by
    unfold fromIndex
    rw [if_neg (by omega)]
    omega
  show (decide (fromIndex (S a).length (i : Nat) + (S z).length ≤ (S a).length) && (a.toArray.extract (fromIndex (S a).length (i : Nat)) (fromIndex (S a).length (i : Nat) + (S z).length) == z.toArray)) = _
  rw [e0, S_len, S_len]
  have e1 : a.toArray.extract i (i + z.length) = ((a.drop i).take z.length).toArray := by
    rw [List.extract_toArray]
    show ((a.drop i).take (i + z.length - i)).toArray = _
    rw [show i + z.length - i = z.length by omega]
  rw [e1]
  by_cases h : z = (a.drop i).take z.length
  · have hl : i + z.length ≤ a.length := by
      have := congrArg List.length h
      rw [List.length_take, List.length_drop] at this
      omega
    rw [decide_eq_true h, decide_eq_true hl, ← h]; simp
  · rw [decide_eq_false h]
    have : ((a.drop i).take z.length).toArray ≠ z.toArray := fun e => h (by simpa using congrArg Array.toList e.symm)
    simp [this]
    exact fun _ e => h e.symm
/-- the lists of brackets and of tokens behind something -/
structure Two (K : PySem.W.Frag) (H0 H : Hp) (bp tp : Addr) (st : St) (ds : List PyData) : Prop where
  br : ListAt K H bp (st.map brD)
  tk : ListAt K H tp ds
  kp : Keep2 bp tp H0 H
theorem Two.refl {H0 H : Hp} {bp tp : Addr} {st : St} {ds : List PyData} (h : Two K H0 H bp tp st ds) : Two K H H bp tp st ds := ⟨h.br, h.tk, fun _ _ h _ _ => h⟩
theorem Two.trans {H0 H1 H2 : Hp} {bp tp : Addr} {st st' : St} {ds ds' : List PyData} (h : Two K H0 H1 bp tp st ds) (g : Two K H1 H2 bp tp st' ds') : Two K H0 H2 bp tp st' ds' := ⟨g.br, g.tk, fun b o e n1 n2 => g.kp b o (h.kp b o e n1 n2) n1 n2⟩
theorem Two.tok {H0 H : Hp} {bp tp : Addr} {st : St} {ds : List PyData} (h : Two K H0 H bp tp st ds) (ne : bp ≠ tp) {u : Addr} (hu : H u = none) {ts : List V} {es : List PyData} (ht : DtAll K H ts es) {zs : List V} (ez : H tp = some (.lst zs)) :
    Two K H0 (upd (upd H u (.tup ts)) tp (.lst (zs ++ [.ref u]))) bp tp st (ds ++ [.tuple es]) := by
  have S1 := Same.new (o := .tup ts) hu
  exact ⟨listAt_upd (listAt_mono h.br S1) ne (S1 _ _ ez), listAt_app (listAt_mono h.tk S1) (S1 _ _ ez) (Dt.made hu ht), fun b o hb n1 n2 => by rw [upd_ne n2]; exact S1 _ _ (h.kp b o hb n1 n2)⟩
theorem Two.same {H0 H H' : Hp} {bp tp : Addr} {st : St} {ds : List PyData} (h : Two K H0 H bp tp st ds) (e : Same H H') : Two K H0 H' bp tp st ds := ⟨listAt_mono h.br e, listAt_mono h.tk e, fun b o hb n1 n2 => e _ _ (h.kp b o hb n1 n2)⟩
theorem none_two {H0 H : Hp} {bp tp d : Addr} {st : St} {ds : List PyData} (h : Two K H0 H bp tp st ds) (hd : H d = none) : H0 d = none := by
  obtain ⟨x1, e1, _⟩ := h.br
  obtain ⟨x2, e2, _⟩ := h.tk
  have n1 : d ≠ bp := fun e => by subst e; rw [hd] at e1; cases e1
  have n2 : d ≠ tp := fun e => by subst e; rw [hd] at e2; cases e2
  cases e : H0 d with
  | none => rfl
  | some o => rw [h.kp _ _ e n1 n2] at hd; cases hd
/-- the tokens alone have changed -/
theorem Two.tks {H0 H H' : Hp} {bp tp : Addr} {st : St} {ds ds' : List PyData} (h : Two K H0 H bp tp st ds) (ne : bp ≠ tp) (L : ListAt K H' tp ds') (k : Keep tp H H') : Two K H0 H' bp tp st ds' := by
  obtain ⟨zs, ez, _⟩ := h.tk
  exact ⟨listAt_keep h.br k ne ⟨zs, ez⟩, L, fun b o hb n1 n2 => k _ _ (h.kp b o hb n1 n2) n2⟩
def spSign (K : PySem.W.Frag) : Sp := fun vs H Q _ => ∃ (a : List Nat) (i : Nat) (z : List Nat) (m : Int) (bp tp : Addr) (st st' : St) (ds : List PyData), vs = [.str (S a), .int (i : Nat), .int m, .ref bp, .ref tp] ∧ a.length ≤ 20000 ∧ i ≤ a.length ∧ SignAt a i z ∧ Fol z m st st' ∧ bp ≠ tp ∧
  Two K H H bp tp st ds ∧ st.length ≤ 20 ∧ ds.length ≤ 90000 ∧ ∀ H', Two K H H' bp tp st' (ds ++ [signD z m]) → Q (.int ((i + z.length : Nat) : Int)) H'
theorem ok_addsign {C B : Addr} {f : Addr} {fd : FuncData} (F : Fun K "_add_sign" "_add_sign" s_add_sign f fd) (T : Txt K mg) (U_follow_brackets : Use P w K mg base (L2.CX P w) "_follow_brackets" 3 P_follow_brackets (spFollow K)) (U_Fault : UseF P w K mg base C B) :
    FnG P w K mg base (L2.CX P w) 4 f fd P_add_sign (spSign K) := by
  refine okG F sc_add_sign (fun vs H Q E h => ?_) fun cdv A outer s H vs Q E hr hg h => ?_
  · obtain ⟨a, i, z, m, bp, tp, st, st', ds, rfl, _⟩ := h
    rfl
  · obtain ⟨a, i, z, m, bp, tp, st, st', ds, rfl, hal, hia, ⟨jz, hjz, hpre, hno⟩, hF, ne, W, hsl, hdl, k⟩ := h
    refine ⟨_, (pss_cons (ps_for (passes_of rfl) rfl (pi_tup (pe_globT T.c_SIGNS (by rfl))) (pg_name (i := 5) sc_add_sign.nd rfl (Or.inl rfl))
   (pss_one (ps_if (pt_val (pe_bm PySem.F.plainAttrs_str PySem.F.slot_str_startswith PySem.F.type_str_startswith mt_startswith3 (pv 0) (pa_cons (pv 5) (pa_cons (pv 1) pa_nil))))
   (pss_cons (ps_expr (pe_useR U_follow_brackets (takes_of rfl rfl rfl rfl) (hr.mono (by decide)) hg rfl (pa_cons (pv 5) (pa_cons (pv 2) (pa_cons (pv 3) pa_nil)))))
  (pss_cons (ps_expr (pe_bm PySem.F.plainAttrs_list PySem.F.slot_list_append PySem.F.type_list_append mt_append (pv 4) (pa_cons (pe_tup (pa_cons pe_str (pa_cons (pv 5) (pa_cons (pv 2) pa_nil)))) pa_nil)))
  (pss_one (ps_ret (pe_op op_add (pv 1) (pe_callB call_len (by rfl) T.b_len PySem.boot_len (pa_cons (pv 5) pa_nil)))))))
   pss_nil)))
  pss_never), ?_⟩
    have hz : (S a).length ≤ sizeLine := by rw [S_len]; exact Nat.le_trans hal (by decide)
    have hjl : jz < sgns.length := (List.getElem?_eq_some_iff.mp hjz).1
    refine fun ak kk => ⟨ak, rfl, ⟨_, kk.sq _⟩, ?_⟩
    refine for_tup (xs := sgns.map fun z => V.str (S z)) (fun t σ H1 => ∃ x5, σ = [some (.str (S a)), some (.int (i : Nat)), some (.int m), some (.ref bp), some (.ref tp), x5] ∧ H1 = H ∧ t ≤ jz) ⟨none, rfl, rfl, Nat.zero_le _⟩ ?_ ?_ ?_
    · rintro t σ H1 _ ⟨x5, rfl, rfl, _⟩
      exact kk.sq _
    · rintro t y σ H1 hy ⟨x5, rfl, rfl, hall⟩
      rw [List.getElem?_map] at hy
      obtain ⟨y, hys, rfl⟩ := Option.map_eq_some_iff.mp hy
      refine ⟨_, rfl, rfl, _, rfl, _, rfl, _, _, _, rfl, rfl, ?_⟩
      rw [starts3 hia]
      by_cases e : t = jz
      · subst e
        rw [hjz] at hys
        obtain rfl := Option.some.inj hys
        refine ⟨_, rfl, iteTb (decide_eq_true hpre.symm) ?_⟩
        refine ⟨_, rfl, _, rfl, _, rfl, z, m, bp, st, st', rfl, hF, W.br, hsl, fun H' L' K' => ?_⟩
        have hbl : ∃ xs, H1 bp = some (.lst xs) := let ⟨xs, e, _⟩ := W.br; ⟨xs, e⟩
        have W' : Two K H1 H' bp tp st' ds := ⟨L', listAt_keep W.tk K' (Ne.symm ne) hbl, fun b o hb n1 _ => K' b o hb n1⟩
        obtain ⟨zs, ez, az⟩ := id W'.tk
        have lz := az.length
        refine ⟨_, rfl, .inl ⟨rfl, _, SqL.of ez⟩, _, rfl, _, rfl, sz_3, fun u hu => ⟨tp, _, _, rfl, rfl, Same.new hu _ _ ez, Nat.lt_of_le_of_lt (show zs.length ≤ 100000 by omega) (by decide), ?_⟩⟩
        have W2 := W'.tok ne hu (ts := [.str "sign", .str (S z), .int m]) (.cons (.str _) (.cons (.str _) (.cons (.int _) .nil))) ez
        have hzl : z.length ≤ a.length := by
          have := congrArg List.length hpre
          rw [List.length_take, List.length_drop] at this
          omega
        refine ⟨_, rfl, _, rfl, _, _, rfl, ⟨by rw [S_len]; exact Nat.le_trans (show _ ≤ 20000 by omega) (by decide), rfl⟩, _, _, rfl, rfl, ?_⟩
        have k := k _ W2
        rw [S_len]
        exact k
      · refine ⟨_, rfl, iteFb (decide_eq_false fun h => hno t (by omega) y hys h.symm) ?_⟩
        exact ⟨_, rfl, rfl, by omega⟩
    · rintro σ H1 ⟨x5, rfl, rfl, hall⟩
      exfalso
      rw [List.length_map] at hall
      omega
/-! a line -/
def signC (c : Nat) : Bool := !(isW c) && c != 32 && c != 35 && c != 34 && c != 39 && decide (c < 128)
inductive Tok1 (a : List Nat) (m : Int) (i : Nat) : Nat → St → St → PyData → Prop
  | word {j c : Nat} {b : List Nat} {st : St} : a[i]? = some c → isL c = true → WordAt a i j b → (kwB b = true ∨ b.length ≤ 30) → Tok1 a m i j st st (wordD b m)
  | int {j c : Nat} {b : List Nat} {st : St} : a[i]? = some c → isD c = true → WordAt a i j b → IntOk b → Tok1 a m i j st st (intD b m)
  | text {q : Nat} {acc rest : List Nat} {st : St} : a[i]? = some q → isQ q → scan q (a.drop (i + 1)) [] = .done acc rest → ¬ 200 < acc.length → Tok1 a m i (a.length - rest.length) st st (textT acc m)
  | sign {c : Nat} {z : List Nat} {st st' : St} : a[i]? = some c → signC c = true → SignAt a i z → Fol z m st st' → Tok1 a m i (i + z.length) st st' (signD z m)
inductive Lex (a : List Nat) (m : Int) : Nat → St → List PyData → St → List PyData → Prop
  | fin {i : Nat} {st : St} {ds : List PyData} : (a.length ≤ i ∨ a[i]? = some 35) → Lex a m i st ds st ds
  | sp {i : Nat} {st st' : St} {ds ds' : List PyData} : a[i]? = some 32 → Lex a m (i + 1) st ds st' ds' → Lex a m i st ds st' ds'
  | tok {i j : Nat} {st st1 st' : St} {d : PyData} {ds ds' : List PyData} : Tok1 a m i j st st1 d → i < j → j ≤ a.length → Lex a m j st1 (ds ++ [d]) st' ds' → Lex a m i st ds st' ds'
theorem Lex.len {a : List Nat} {m : Int} {i : Nat} {st st' : St} {ds ds' : List PyData} (h : Lex a m i st ds st' ds') : ds.length ≤ ds'.length := by
  induction h with
  | fin => exact Nat.le_refl _
  | sp _ _ ih => exact ih
  | tok _ _ _ _ ih => rw [List.length_append] at ih; omega
theorem Fol.len {z : List Nat} {m : Int} {st st' : St} (h : Fol z m st st') (hl : st.length ≤ 20) : st'.length ≤ 20 := by
  cases h with
  | opn _ h => rw [List.length_append, List.length_singleton]; omega
  | cls => rw [List.length_append] at hl; omega
  | oth => exact hl
theorem Tok1.len {a : List Nat} {m : Int} {i j : Nat} {st st' : St} {d : PyData} (h : Tok1 a m i j st st' d) (hl : st.length ≤ 20) : st'.length ≤ 20 := by
  cases h with
  | word => exact hl
  | int => exact hl
  | text => exact hl
  | sign _ _ _ h => exact h.len hl
theorem inV_S {c : Nat} (ys : List Nat) : inV (.str (S [c])) (ys.map fun d => V.str (S [d])) = decide (c ∈ ys) := by
  unfold inV
  induction ys with
  | nil => rfl
  | cons y r ih =>
    rw [List.map_cons, List.any_cons, ih]
    have : eqV (.str (S [y])) (.str (S [c])) = decide (y = c) := by
      show (S [y] == S [c]) = _
      by_cases e : y = c
      · subst e; simp
      · have : S [y] ≠ S [c] := fun h => e (by have := S_inj h; simpa using this)
        simp [e, this]
    rw [this]
    by_cases e : y = c
    · subst e; simp
    · have : c ≠ y := fun h => e h.symm
      simp [e, this]
def spLine (K : PySem.W.Frag) : Sp := fun vs H Q _ => ∃ (a : List Nat) (m : Int) (bp tp : Addr) (st st' : St) (ds ds' : List PyData), vs = [.str (S a), .int m, .ref bp, .ref tp] ∧ a.length ≤ 20000 ∧ (∀ c ∈ a, c < 128) ∧ bp ≠ tp ∧ m.natAbs < 2 ^ 60 ∧
  Two K H H bp tp st ds ∧ st.length ≤ 20 ∧ Lex a m 0 st ds st' ds' ∧ ds'.length ≤ 90000 ∧ ∀ H', Two K H H' bp tp st' ds' → Q .non H'
theorem isL_isW {c : Nat} (h : isL c = true) : isW c = true := by unfold isW; rw [h, Bool.or_true]
theorem isD_isW {c : Nat} (h : isD c = true) : isW c = true := by unfold isW; rw [h, Bool.true_or]
theorem isD_notL {c : Nat} (h : isD c = true) : isL c = false ∧ c ≠ 95 := by
  simp [isD] at h
  refine ⟨?_, by omega⟩
  simp [isL]
  omega
theorem ok_addline {C : Addr} {f : Addr} {fd : FuncData} (F : Fun K "_add_line" "_add_line" s_add_line f fd) (T : Txt K mg) (U_add_word : Use P w K mg base (L2.CX P w) "_add_word" 3 P_add_word (spWord K)) (U_add_integer : Use P w K mg base (L2.CX P w) "_add_integer" 3 P_add_integer (spInt K))
    (U_add_text : Use P w K mg base (L2.CX P w) "_add_text" 4 P_add_text (spText K C)) (U_add_sign : Use P w K mg base (L2.CX P w) "_add_sign" 4 P_add_sign (spSign K)) :
    FnG P w K mg base (L2.CX P w) 5 f fd P_add_line (spLine K) := by
  refine okG F sc_add_line (fun vs H Q E h => ?_) fun cdv A outer s H vs Q E hr hg h => ?_
  · obtain ⟨a, m, bp, tp, st, st', ds, ds', rfl, _⟩ := h
    rfl
  · obtain ⟨a, m, bp, tp, st, st', ds, ds', rfl, hal, hlt, ne, hm, W, hsl, hX, hdl, k⟩ := h
    refine ⟨_, (pss_cons (ps_set (i := 4) sc_add_line.nd rfl (Or.inl rfl) pe_int)
  (pss_one (ps_while (passes_of rfl) (pt_up (PW.pt (pw_and (pt_cmpR op_lt (pv 4) (pe_callB call_len (by rfl) T.b_len PySem.boot_len (pa_cons (pv 0) pa_nil)) (nomark _)) (pw_and1 (pt_cmpR op_ne (pe_ix ix_str (pv 0) (pv 4) (fun _ _ => rfl)) pe_str (nomark _))))))
   (pss_one (ps_if (pt_cmpR op_eq (pe_ix ix_str (pv 0) (pv 4) (fun _ _ => rfl)) pe_str (nomark _))
   (pss_one (ps_aug (i := 4) sc_add_line.nd rfl (Or.inl rfl) pe_int ip_add))
   (pss_one (ps_if (PW.pt (pw_or (pt_val (pe_bm0 PySem.F.plainAttrs_str PySem.F.slot_str_isalpha PySem.F.type_str_isalpha mt_isalpha (pe_ix ix_str (pv 0) (pv 4) (fun _ _ => rfl)))) (pw_or1 (pt_cmpR op_eq (pe_ix ix_str (pv 0) (pv 4) (fun _ _ => rfl)) pe_str (nomark _)))))
   (pss_one (ps_set (i := 4) sc_add_line.nd rfl (Or.inl rfl) (pe_useR U_add_word (takes_of rfl rfl rfl rfl) (hr.mono (by decide)) hg rfl (pa_cons (pv 0) (pa_cons (pv 4) (pa_cons (pv 1) (pa_cons (pv 3) pa_nil)))))))
   (pss_one (ps_if (pt_val (pe_bm0 PySem.F.plainAttrs_str PySem.F.slot_str_isdigit PySem.F.type_str_isdigit mt_isdigit (pe_ix ix_str (pv 0) (pv 4) (fun _ _ => rfl))))
   (pss_one (ps_set (i := 4) sc_add_line.nd rfl (Or.inl rfl) (pe_useR U_add_integer (takes_of rfl rfl rfl rfl) (hr.mono (by decide)) hg rfl (pa_cons (pv 0) (pa_cons (pv 4) (pa_cons (pv 1) (pa_cons (pv 3) pa_nil)))))))
   (pss_one (ps_if (pt_cmpR op_in_seq (pe_ix ix_str (pv 0) (pv 4) (fun _ _ => rfl)) (pe_tup (pa_cons pe_str (pa_cons pe_str pa_nil))) (by rfl))
   (pss_one (ps_set (i := 4) sc_add_line.nd rfl (Or.inl rfl) (pe_useR U_add_text (takes_of rfl rfl rfl rfl) (hr.mono (by decide)) hg rfl (pa_cons (pv 0) (pa_cons (pv 4) (pa_cons (pv 1) (pa_cons (pv 3) pa_nil)))))))
   (pss_one (ps_set (i := 4) sc_add_line.nd rfl (Or.inl rfl) (pe_useR U_add_sign (takes_of rfl rfl rfl rfl) (hr.mono (by decide)) hg rfl (pa_cons (pv 0) (pa_cons (pv 4) (pa_cons (pv 1) (pa_cons (pv 2) (pa_cons (pv 3) pa_nil))))))))))))))))))), ?_⟩
    have hz : (S a).length ≤ sizeLine := by rw [S_len]; exact Nat.le_trans hal (by decide)
    refine while_up (fun σ H1 => ∃ (j : Nat) (st1 : St) (ds1 : List PyData), σ = [some (.str (S a)), some (.int m), some (.ref bp), some (.ref tp), some (.int (j : Nat))] ∧ j ≤ a.length ∧ Two K H H1 bp tp st1 ds1 ∧ st1.length ≤ 20 ∧ Lex a m j st1 ds1 st' ds')
      (fun (σ : L2.St) (_ : Hp) => match σ[4]? with | some (some (V.int j)) => (a.length - j).toNat | _ => 0) ⟨0, st, ds, rfl, Nat.zero_le _, W, hsl, hX⟩ ?_
    rintro σ H1 ⟨j, st1, ds1, rfl, hj, W1, hsl1, hX1⟩
    have hd1 := hX1.len
    refine ⟨_, rfl, _, rfl, _, _, rfl, ⟨hz, rfl⟩, _, _, rfl, rfl, _, rfl, ?_⟩
    refine ite3 (fun c => ?_) fun c => ?_
    · have c := of_decide_eq_true c
      rw [S_len] at c
      have hj : j < a.length := by omega
      obtain ⟨x, hc⟩ : ∃ x, a[j]? = some x := ⟨_, List.getElem?_eq_getElem hj⟩
      have hx128 := hlt x (List.mem_of_getElem? hc)
      cases hX1 with
      | fin hf =>
        obtain rfl : x = 35 := by
          rcases hf with hf | hf
          · omega
          · rw [hc] at hf; exact Option.some.inj hf
        refine ⟨_, rfl, _, rfl, S a, _, 35, rfl, rfl, hz, at_S hc, rfl, _, rfl, iteFb (by rw [hash_S, sign_eq, decide_eq_true rfl]; rfl) ?_⟩
        exact k _ W1
      | sp h32 hr =>
        obtain rfl : x = 32 := by rw [hc] at h32; exact Option.some.inj h32
        refine ⟨_, rfl, _, rfl, S a, _, 32, rfl, rfl, hz, at_S hc, rfl, _, rfl, iteTb (by rw [hash_S, sign_eq, decide_eq_false (by decide)]; rfl) ?_⟩
        refine ⟨_, rfl, _, rfl, S a, _, 32, rfl, rfl, hz, at_S hc, rfl, _, rfl, iteTb (by rw [sp_S, sign_eq]; exact decide_eq_true rfl) ?_⟩
        exact ⟨_, rfl, _, _, rfl, rfl, ⟨j + 1, st1, ds1, rfl, by omega, W1, hsl1, hr⟩, by simp; omega⟩
      | @tok _ j' _ st2 _ d _ _ ht hjj hj' hr =>
        have hsl2 := ht.len hsl1
        have hd2 := hr.len
        rw [List.length_append, List.length_singleton] at hd2
        have hne : x ≠ 35 ∧ x ≠ 32 := by
          cases ht with
          | word h1 h2 =>
            obtain rfl := Option.some.inj (hc.symm.trans h1)
            exact ⟨fun e => by subst e; exact absurd h2 (by decide), fun e => by subst e; exact absurd h2 (by decide)⟩
          | int h1 h2 =>
            obtain rfl := Option.some.inj (hc.symm.trans h1)
            exact ⟨fun e => by subst e; exact absurd h2 (by decide), fun e => by subst e; exact absurd h2 (by decide)⟩
          | text h1 h2 =>
            obtain rfl := Option.some.inj (hc.symm.trans h1)
            exact ⟨h2.ne.2.2.1, h2.ne.2.1⟩
          | sign h1 h2 =>
            obtain rfl := Option.some.inj (hc.symm.trans h1)
            exact ⟨fun e => by subst e; exact absurd h2 (by decide), fun e => by subst e; exact absurd h2 (by decide)⟩
        refine ⟨_, rfl, _, rfl, S a, _, x, rfl, rfl, hz, at_S hc, rfl, _, rfl, iteTb (by rw [hash_S, sign_eq, decide_eq_false hne.1]; rfl) ?_⟩
        refine ⟨_, rfl, _, rfl, S a, _, x, rfl, rfl, hz, at_S hc, rfl, _, rfl, iteFb (by rw [sp_S, sign_eq, decide_eq_false hne.2]) ?_⟩
        refine ⟨_, rfl, _, rfl, S a, _, x, rfl, rfl, hz, at_S hc, rfl, _, rfl, rfl, trivial, ?_⟩
        have ea : Txt.isalpha ⟨#[x]⟩ = (isL x && x != 95) := alpha1 (c := x) hx128
        have ed : Txt.isdigit ⟨#[x]⟩ = isD x := digit1 (c := x) hx128
        have go : ∀ H', ListAt K H' tp (ds1 ++ [d]) → Keep tp H1 H' → st2 = st1 → ∃ (j : Nat) (st1 : St) (ds1 : List PyData), ([some (.str (S a)), some (.int m), some (.ref bp), some (.ref tp), some (.int (j' : Nat))] : L2.St) = [some (.str (S a)), some (.int m), some (.ref bp), some (.ref tp), some (.int (j : Nat))] ∧ j ≤ a.length ∧ Two K H H' bp tp st1 ds1 ∧ st1.length ≤ 20 ∧ Lex a m j st1 ds1 st' ds' :=
          fun H' L' K' e => ⟨j', st1, ds1 ++ [d], rfl, hj', W1.tks ne L' K', hsl1, e ▸ hr⟩
        rw [ea]
        cases ht with
        | @word _ _ b _ h1 h2 h3 h4 =>
          obtain rfl := Option.some.inj (hc.symm.trans h1)
          by_cases h95 : x = 95
          · refine ⟨_, rfl, iteFb (by rw [h95]; decide) ?_⟩
            refine ⟨_, rfl, _, rfl, S a, _, x, rfl, rfl, hz, at_S hc, rfl, _, rfl, iteTb (by rw [us_S, sign_eq]; exact decide_eq_true h95) ?_⟩
            exact ⟨_, rfl, _, rfl, _, rfl, _, rfl, a, j, j', b, m, tp, ds1, rfl, hal, hlt, h3, h4, ⟨W1.tk, by omega, fun H' L' K' => ⟨go H' L' K' rfl, by simp; omega⟩⟩⟩
          · refine ⟨_, rfl, iteTb (by rw [h2, bne_iff_ne.mpr h95]; rfl) ?_⟩
            exact ⟨_, rfl, _, rfl, _, rfl, _, rfl, a, j, j', b, m, tp, ds1, rfl, hal, hlt, h3, h4, ⟨W1.tk, by omega, fun H' L' K' => ⟨go H' L' K' rfl, by simp; omega⟩⟩⟩
        | @int _ _ b _ h1 h2 h3 h4 =>
          obtain rfl := Option.some.inj (hc.symm.trans h1)
          obtain ⟨n1, n2⟩ := isD_notL h2
          refine ⟨_, rfl, iteFb (by rw [n1]; rfl) ?_⟩
          refine ⟨_, rfl, _, rfl, S a, _, x, rfl, rfl, hz, at_S hc, rfl, _, rfl, iteFb (by rw [us_S, sign_eq, decide_eq_false n2]) ?_⟩
          refine ⟨_, rfl, _, rfl, S a, _, x, rfl, rfl, hz, at_S hc, rfl, _, rfl, rfl, trivial, ?_⟩
          rw [ed]
          refine ⟨_, rfl, iteTb h2 ?_⟩
          exact ⟨_, rfl, _, rfl, _, rfl, _, rfl, a, j, j', b, m, tp, ds1, rfl, hal, hlt, h3, h4, ⟨W1.tk, by omega, fun H' L' K' => ⟨go H' L' K' rfl, by simp; omega⟩⟩⟩
        | @text _ acc rest _ h1 h2 h3 h4 =>
          obtain rfl := Option.some.inj (hc.symm.trans h1)
          obtain ⟨q92, x2, x1, x3, x6, x7, _⟩ := h2.ne
          have n1 : isL x = false := by simp [isW] at x7; exact x7.2
          have n2 : isD x = false := by simp [isW] at x7; exact x7.1
          refine ⟨_, rfl, iteFb (by rw [n1]; rfl) ?_⟩
          refine ⟨_, rfl, _, rfl, S a, _, x, rfl, rfl, hz, at_S hc, rfl, _, rfl, iteFb (by rw [us_S, sign_eq, decide_eq_false x3]) ?_⟩
          refine ⟨_, rfl, _, rfl, S a, _, x, rfl, rfl, hz, at_S hc, rfl, _, rfl, rfl, trivial, ?_⟩
          rw [ed, n2]
          refine ⟨_, rfl, iteFb rfl ?_⟩
          refine ⟨_, rfl, _, rfl, S a, _, x, rfl, rfl, hz, at_S hc, sz_2, fun u hu => ⟨u, _, rfl, .inr (SqT.of upd_same), rfl, rfl, _, rfl, iteTb ?_ ?_⟩⟩
          · have e3 : [V.str "\"", V.str "'"] = [34, 39].map fun d => V.str (S [d]) := by
              rw [show ("\"" : Str) = S [34] by decide +kernel, show ("'" : Str) = S [39] by decide +kernel]
              rfl
            rw [if_neg Bool.false_ne_true, e3]
            exact (inV_S (c := x) [34, 39]).trans (decide_eq_true (by rcases h2 with rfl | rfl <;> simp))
          have S2 := Same.new (o := .tup [.str "\"", .str "'"]) hu
          refine ⟨_, rfl, _, rfl, _, rfl, _, rfl, a, j, x, m, tp, ds1, rfl, hal, hc, h2, hlt, listAt_mono W1.tk S2, by omega, hm, ?_⟩
          rw [h3]
          show (if 200 < acc.length then _ else _)
          rw [if_neg h4]
          exact fun H' L' K' => ⟨go H' L' (fun b o hb ne => K' _ _ (S2 _ _ hb) ne) rfl, by simp; omega⟩
        | @sign _ z _ _ h1 h2 h3 h4 =>
          obtain rfl := Option.some.inj (hc.symm.trans h1)
          obtain ⟨x7, x3, x4, x5⟩ : isW x = false ∧ x ≠ 95 ∧ x ≠ 34 ∧ x ≠ 39 := by
            simp [signC] at h2
            refine ⟨h2.1.1.1.1.1, fun e => ?_, h2.1.1.2, h2.1.2⟩
            subst e
            exact absurd h2.1.1.1.1.1 (by decide)
          have n1 : isL x = false := by simp [isW] at x7; exact x7.2
          have n2 : isD x = false := by simp [isW] at x7; exact x7.1
          refine ⟨_, rfl, iteFb (by rw [n1]; rfl) ?_⟩
          refine ⟨_, rfl, _, rfl, S a, _, x, rfl, rfl, hz, at_S hc, rfl, _, rfl, iteFb (by rw [us_S, sign_eq, decide_eq_false x3]) ?_⟩
          refine ⟨_, rfl, _, rfl, S a, _, x, rfl, rfl, hz, at_S hc, rfl, _, rfl, rfl, trivial, ?_⟩
          rw [ed, n2]
          refine ⟨_, rfl, iteFb rfl ?_⟩
          refine ⟨_, rfl, _, rfl, S a, _, x, rfl, rfl, hz, at_S hc, sz_2, fun u hu => ⟨u, _, rfl, .inr (SqT.of upd_same), rfl, rfl, _, rfl, iteFb ?_ ?_⟩⟩
          · have e3 : [V.str "\"", V.str "'"] = [34, 39].map fun d => V.str (S [d]) := by
              rw [show ("\"" : Str) = S [34] by decide +kernel, show ("'" : Str) = S [39] by decide +kernel]
              rfl
            rw [if_neg Bool.false_ne_true, e3]
            exact (inV_S (c := x) [34, 39]).trans (decide_eq_false (by simp [x4, x5]))
          have S2 := Same.new (o := .tup [.str "\"", .str "'"]) hu
          have W2 := W1.same S2
          generalize upd H1 u _ = H2 at W2 S2
          refine ⟨_, rfl, _, rfl, _, rfl, _, rfl, _, rfl, a, j, z, m, bp, tp, st1, st2, ds1, rfl, hal, by omega, h3, h4, ne, W2.refl, hsl1, by omega, fun H' W3 => ?_⟩
          exact ⟨⟨_, st2, ds1 ++ [signD z m], rfl, hj', W2.trans W3, hsl2, hr⟩, by simp; omega⟩
    · have c := of_decide_eq_false c
      rw [S_len] at c
      cases hX1 with
      | fin => exact k _ W1
      | sp h32 => have := (List.getElem?_eq_some_iff.mp h32).1; omega
      | tok ht hjj hj' => omega
theorem Lex.stl {a : List Nat} {m : Int} {i : Nat} {st st' : St} {ds ds' : List PyData} (h : Lex a m i st ds st' ds') (hl : st.length ≤ 20) : st'.length ≤ 20 := by
  induction h with
  | fin => exact hl
  | sp _ _ ih => exact ih hl
  | tok ht _ _ _ ih => exact ih (ht.len hl)
theorem cut_tail (x : V) (xs : List V) : cutV (x :: xs) (some 1) none = xs := by
  unfold cutV
  rw [show (some (1 : Int)) = some ((1 : Nat) : Int) from rfl, HT.sIx_nat, HT.sIx_none, Nat.min_eq_left (by simp)]
  simp
/-! the lines of a text -/
def nlT (m : Int) : PyData := .tuple [.str "newline", .str "", .int m]
def endT (m : Int) : PyData := .tuple [.str "end", .str "", .int m]
def nlIf (st : St) (ds : List PyData) (m : Int) : List PyData := if st = [] then ds ++ [nlT m] else ds
inductive Ind (s : Nat) (m : Int) : List Int → List PyData → List Int → List PyData → Prop
  | inn {xs : List Int} {ds : List PyData} {t : Int} : xs.getLast? = some t → t < (s : Int) → Ind s m xs ds (xs ++ [(s : Int)]) (ds ++ [indT m])
  | out {xs : List Int} {ds : List PyData} {k : Nat} : xs[k]? = some (s : Int) → (∀ i u, k < i → xs[i]? = some u → (s : Int) < u) → Ind s m xs ds (xs.take (k + 1)) (ds ++ List.replicate (xs.length - (k + 1)) (dedT m))
inductive Lns : List (List Nat) → Nat → St → List Int → List PyData → List Int → List PyData → Prop
  | nil {n : Nat} {xs : List Int} {ds : List PyData} : Lns [] n [] xs ds xs ds
  | blank {l : List Nat} {r : List (List Nat)} {n : Nat} {xs xs' : List Int} {ds ds' : List PyData} : blankB l = true → Lns r (n + 1) [] xs ds xs' ds' → Lns (l :: r) n [] xs ds xs' ds'
  | out {l : List Nat} {r : List (List Nat)} {n : Nat} {st2 : St} {xs xs1 xs' : List Int} {ds ds1 ds2 ds' : List PyData} : blankB l = false → Ind (spaces l) ((n : Int) + 1) xs ds xs1 ds1 → Lex l ((n : Int) + 1) 0 [] ds1 st2 ds2 → Lns r (n + 1) st2 xs1 (nlIf st2 ds2 ((n : Int) + 1)) xs' ds' → Lns (l :: r) n [] xs ds xs' ds'
  | inn {l : List Nat} {r : List (List Nat)} {n : Nat} {st st2 : St} {xs xs' : List Int} {ds ds2 ds' : List PyData} : st ≠ [] → Lex l ((n : Int) + 1) 0 st ds st2 ds2 → Lns r (n + 1) st2 xs (nlIf st2 ds2 ((n : Int) + 1)) xs' ds' → Lns (l :: r) n st xs ds xs' ds'
theorem nlIf_len (st : St) (ds : List PyData) (m : Int) : ds.length ≤ (nlIf st ds m).length := by
  unfold nlIf
  split
  · simp
  · exact Nat.le_refl _
theorem Ind.len {s : Nat} {m : Int} {xs xs1 : List Int} {ds ds1 : List PyData} (h : Ind s m xs ds xs1 ds1) : ds.length ≤ ds1.length ∧ xs1.length ≤ xs.length + 1 ∧ (xs[0]? = some 0 → xs1[0]? = some 0) := by
  cases h with
  | inn h1 h2 =>
    refine ⟨by simp, by simp, fun h0 => ?_⟩
    rw [List.getElem?_append_left (List.getElem?_eq_some_iff.mp h0).1]
    exact h0
  | out h1 h2 =>
    refine ⟨by simp, by rw [List.length_take]; omega, fun h0 => ?_⟩
    rw [List.getElem?_take, if_pos (by omega)]
    exact h0
theorem Lns.len {Ls : List (List Nat)} {n : Nat} {st : St} {xs xs' : List Int} {ds ds' : List PyData} (h : Lns Ls n st xs ds xs' ds') : ds.length ≤ ds'.length := by
  induction h with
  | nil => exact Nat.le_refl _
  | blank _ _ ih => exact ih
  | out _ h1 h2 _ ih => exact Nat.le_trans h1.len.1 (Nat.le_trans h2.len (Nat.le_trans (nlIf_len _ _ _) ih))
  | inn _ h2 _ ih => exact Nat.le_trans h2.len (Nat.le_trans (nlIf_len _ _ _) ih)
structure LsOk (Ls : List (List Nat)) : Prop where
  ne : Ls ≠ []
  no : ∀ p ∈ Ls, 10 ∉ p
  w : ∀ c ∈ TL.joinL [10] Ls, okC c = true
  ln : ∀ l ∈ Ls, l.length ≤ 20000 ∧ ∀ c ∈ l, c < 128
  tot : (TL.joinL [10] Ls).length ≤ 20000
  len : Ls.length ≤ 10000
def spSplitV (K : PySem.W.Frag) : Sp := fun vs H Q _ => ∃ (Ls : List (List Nat)) (xs : List Int) (ds : List PyData), vs = [.str (S (TL.joinL [10] Ls))] ∧ LsOk Ls ∧ Lns Ls 0 [] [0] [] xs ds ∧ ds.length ≤ 70000 ∧
  ∀ tp H', H tp = none → Same H H' → ListAt K H' tp (ds ++ List.replicate (xs.length - 1) (dedT (Ls.length : Nat)) ++ [endT (Ls.length : Nat)]) → Q (.ref tp) H'
/-- brackets, indents, tokens -/
structure Thr (K : PySem.W.Frag) (H0 H : Hp) (bp ip tp : Addr) (st : St) (xs : List Int) (ds : List PyData) : Prop where
  br : ListAt K H bp (st.map brD)
  ix : H ip = some (.lst (xs.map V.int))
  tk : ListAt K H tp ds
  kp : ∀ b o, H0 b = some o → b ≠ bp → b ≠ ip → b ≠ tp → H b = some o
theorem Thr.same {H0 H H' : Hp} {bp ip tp : Addr} {st : St} {xs : List Int} {ds : List PyData} (h : Thr K H0 H bp ip tp st xs ds) (e : Same H H') : Thr K H0 H' bp ip tp st xs ds := ⟨listAt_mono h.br e, e _ _ h.ix, listAt_mono h.tk e, fun b o hb n1 n2 n3 => e _ _ (h.kp b o hb n1 n2 n3)⟩
theorem ok_split {C B : Addr} {f : Addr} {fd : FuncData} (F : Fun K "split" "split" s_split f fd) (T : Txt K mg) (U_check_characters : Use P w K mg base CX0 "_check_characters" 1 P_check_characters spCheck) (U_is_blank : Use P w K mg base CX0 "_is_blank" 1 P_is_blank spBlank)
    (U_add_indents : Use P w K mg base (L2.CX P w) "_add_indents" 3 P_add_indents (spIndents K C)) (U_add_line : Use P w K mg base (L2.CX P w) "_add_line" 5 P_add_line (spLine K)) (U_Fault : UseF P w K mg base C B) : FnG P w K mg base (L2.CX P w) 6 f fd P_split (spSplitV K) := by
  refine okG F sc_split (fun vs H Q E h => ?_) fun cdv A outer s H vs Q E hr hg h => ?_
  · obtain ⟨Ls, xs, ds, rfl, _⟩ := h
    rfl
  · obtain ⟨Ls, xsF, dsF, rfl, ok, hLs, hdF, k⟩ := h
    refine ⟨_, (pss_cons (ps_expr (pe_use U_check_characters (hr.mono (by decide)) hg rfl (pa_cons (pv 0) pa_nil)))
  (pss_cons (ps_set (i := 1) sc_split.nd rfl (Or.inl rfl) (pe_lst pa_nil))
  (pss_cons (ps_set (i := 2) sc_split.nd rfl (Or.inl rfl) (pe_lst (pa_cons pe_int pa_nil)))
  (pss_cons (ps_set (i := 3) sc_split.nd rfl (Or.inl rfl) (pe_lst pa_nil))
  (pss_cons (ps_set (i := 4) sc_split.nd rfl (Or.inl rfl) (pe_bm PySem.F.plainAttrs_str PySem.F.slot_str_split PySem.F.type_str_split mt_split (pv 0) (pa_cons pe_str pa_nil)))
  (pss_cons (ps_for (passes_of rfl) rfl (pi_enum (by rfl) T.b_enumerate (pa_cons (pv 4) pa_nil)) (pg_tup (by rfl) (pgs_cons (pg_name (i := 5) sc_split.nd rfl (Or.inl rfl)) (pgs_cons (pg_name (i := 6) sc_split.nd rfl (Or.inl rfl)) pgs_nil)))
   (C8.pss_cut (ps_if (pt_not (pt_truth (pv 3) (by intro _; rfl)))
   (pss_cons (ps_if (pt_val (pe_use U_is_blank (hr.mono (by decide)) hg rfl (pa_cons (pv 6) pa_nil)))
   (pss_one ps_continue)
   pss_nil)
  (pss_one (ps_expr (pe_useR U_add_indents (takes_of rfl rfl rfl rfl) (hr.mono (by decide)) hg rfl (pa_cons (pv 6) (pa_cons (pe_op op_add (pv 5) pe_int) (pa_cons (pv 2) (pa_cons (pv 1) pa_nil))))))))
   pss_nil)
  (pss_cons (ps_expr (pe_useR U_add_line (takes_of rfl rfl rfl rfl) (hr.mono (by decide)) hg rfl (pa_cons (pv 6) (pa_cons (pe_op op_add (pv 5) pe_int) (pa_cons (pv 3) (pa_cons (pv 1) pa_nil))))))
  (pss_one (ps_if (pt_not (pt_truth (pv 3) (by intro _; rfl)))
   (pss_one (ps_expr (pe_bm PySem.F.plainAttrs_list PySem.F.slot_list_append PySem.F.type_list_append mt_append (pv 1) (pa_cons (pe_tup (pa_cons pe_str (pa_cons pe_str (pa_cons (pe_op op_add (pv 5) pe_int) pa_nil)))) pa_nil))))
   pss_nil)))))
  (pss_cons (ps_if (pt_truth (pv 3) (by intro _; rfl))
   pss_never
   pss_nil)
  (pss_cons (ps_for (passes_of rfl) rfl (pi_list (pe_slice sl_list (pv 2) (po_some pe_int) po_none)) (pg_name (i := 7) sc_split.nd rfl (Or.inl rfl))
   (pss_one (ps_expr (pe_bm PySem.F.plainAttrs_list PySem.F.slot_list_append PySem.F.type_list_append mt_append (pv 1) (pa_cons (pe_tup (pa_cons pe_str (pa_cons pe_str (pa_cons (pe_callB call_len (by rfl) T.b_len PySem.boot_len (pa_cons (pv 4) pa_nil)) pa_nil)))) pa_nil)))))
  (pss_cons (ps_expr (pe_bm PySem.F.plainAttrs_list PySem.F.slot_list_append PySem.F.type_list_append mt_append (pv 1) (pa_cons (pe_tup (pa_cons pe_str (pa_cons pe_str (pa_cons (pe_callB call_len (by rfl) T.b_len PySem.boot_len (pa_cons (pv 4) pa_nil)) pa_nil)))) pa_nil)))
  (pss_one (ps_ret (pv 1)))))))))))), ?_⟩
    have hJ := ok.tot
    have hlen := ok.len
    refine ⟨_, rfl, _, rfl, by omega, ok.w, ?_⟩
    refine ⟨sz_0, fun tp htp => ⟨sz_1, fun ip hip => ⟨sz_0, fun bp hbp => ?_⟩⟩⟩
    have e0 : Txt.split (S (TL.joinL [10] Ls)) "\n" = Ls.map S := by
      rw [nl_S, split_S (by simp) (by decide), SX.spl_join (c := 10) (sep := []) ok.ne ok.no]
    refine ⟨_, rfl, rfl, _, _, rfl, rfl, by decide +kernel, by rw [S_len]; exact Nat.le_trans (show _ ≤ 30000 by omega) (by decide), fun lp hlp => ?_⟩
    rw [e0]
    have nti : tp ≠ ip := ne_of_none upd_same hip
    have ntb : tp ≠ bp := ne_of_none (show (upd (upd H tp (.lst [])) ip (.lst [.int 0])) tp = some (.lst []) by rw [upd_ne nti, upd_same]) hbp
    have nib : ip ≠ bp := ne_of_none upd_same hbp
    have S1 := ((Same.new (o := .lst []) htp).trans (Same.new (o := .lst [.int 0]) hip)).trans (Same.new (o := .lst []) hbp)
    have et : (upd (upd (upd H tp (.lst [])) ip (.lst [.int 0])) bp (.lst [])) tp = some (.lst []) := by rw [upd_ne ntb, upd_ne nti, upd_same]
    have ei : (upd (upd (upd H tp (.lst [])) ip (.lst [.int 0])) bp (.lst [])) ip = some (.lst [.int 0]) := by rw [upd_ne nib, upd_same]
    have eb : (upd (upd (upd H tp (.lst [])) ip (.lst [.int 0])) bp (.lst [])) bp = some (.lst []) := upd_same
    have S2 := Same.new (o := .lst ((Ls.map S).map V.str)) hlp
    have nlt : lp ≠ tp := fun e => by subst e; rw [hlp] at et; cases et
    have nli : lp ≠ ip := fun e => by subst e; rw [hlp] at ei; cases ei
    have nlb : lp ≠ bp := fun e => by subst e; rw [hlp] at eb; cases eb
    have et := S2 _ _ et
    have ei := S2 _ _ ei
    have eb := S2 _ _ eb
    have el := upd_same (H := upd (upd (upd H tp (.lst [])) ip (.lst [.int 0])) bp (.lst [])) (a := lp) (o := HO.lst ((Ls.map S).map V.str))
    have S4 := S1.trans S2
    have back : ∀ {H1 H2 : Hp} {b : Addr}, Same H1 H2 → H2 b = none → H1 b = none := fun {H1 H2 b} S h => by
      cases e : H1 b with
      | none => rfl
      | some o => rw [S _ _ e] at h; cases h
    have hipH : H ip = none := back (Same.new (o := .lst []) htp) hip
    have hbpH : H bp = none := back ((Same.new (o := .lst []) htp).trans (Same.new (o := .lst [.int 0]) hip)) hbp
    clear S1 S2
    generalize upd (upd (upd (upd H tp (.lst [])) ip (.lst [.int 0])) bp (.lst [])) lp _ = H4 at et ei eb el S4
    have W4 : Thr K H4 H4 bp ip tp [] [0] [] := ⟨⟨[], eb, .nil⟩, ei, ⟨[], et, .nil⟩, fun _ _ h _ _ _ => h⟩
    have keepH : ∀ st xs ds H', Thr K H4 H' bp ip tp st xs ds → Same H H' := fun st xs ds H' W b o hb => W.kp b o (S4 b o hb) (ne_of_none hb hbpH) (ne_of_none hb hipH) (ne_of_none hb htp)
    have llen : ((Ls.map S).map V.str).length = Ls.length := by simp
    have ntp : bp ≠ tp := Ne.symm ntb
    refine ⟨_, rfl, lp, _, rfl, SqL.of el, ?_⟩
    refine for_it (walk_enum (xs := (Ls.map S).map V.str)) (fun i σ H5 => ∃ (st : St) (xs : List Int) (ds : List PyData) (x5 x6 : Option V), σ = [some (.str (S (TL.joinL [10] Ls))), some (.ref tp), some (.ref ip), some (.ref bp), some (.ref lp), x5, x6, none, none] ∧
      Lns (Ls.drop i) i st xs ds xsF dsF ∧ Thr K H4 H5 bp ip tp st xs ds ∧ st.length ≤ 20 ∧ xs.length ≤ i + 1 ∧ xs[0]? = some 0)
      ⟨[], [0], [], none, none, rfl, hLs, W4, by simp, by simp, rfl⟩ ?_ ?_ ?_
    · rintro i σ H5 hi ⟨st, xs, ds, x5, x6, rfl, _, W5, _⟩
      exact SqL.of (W5.kp _ _ el nlb nli nlt)
    · rintro i x σ H5 H6 hi ⟨st, xs, ds, x5, x6, rfl, hrun, W5, hst, hxs, hx0⟩ ⟨u, y1, y2, rfl, hu, rfl, e1, e2⟩
      rw [llen] at hi
      obtain rfl := Option.some.inj e1
      have hLi : Ls[i]? = some Ls[i] := List.getElem?_eq_getElem hi
      have hdrop : Ls.drop i = Ls[i] :: Ls.drop (i + 1) := List.drop_eq_getElem_cons hi
      obtain ⟨hll, hlw⟩ := ok.ln _ (List.getElem_mem hi)
      generalize Ls[i] = l at hLi hdrop hll hlw
      have e2 : y2 = V.str (S l) := by
        have e2 : ((Ls.map S).map V.str)[i]? = some y2 := e2
        rw [List.getElem?_map, List.getElem?_map, hLi] at e2
        exact (Option.some.inj e2).symm
      subst e2
      rw [hdrop] at hrun
      have hdl := hrun.len
      have W6 : Thr K H4 (upd H5 u (.tup [.int (i : Nat), .str (S l)])) bp ip tp st xs ds := W5.same (Same.new hu)
      refine ⟨u, _, rfl, SqT.of upd_same, rfl, _, _, rfl, _, _, rfl, rfl, ?_⟩
      generalize upd H5 u _ = H6 at W6
      have hib : (((i : Nat) : Int) + 1).natAbs < 2 ^ 60 := Nat.lt_of_le_of_lt (show _ ≤ 20000 by omega) (by decide)
      obtain ⟨zb, ezb, azb⟩ := id W6.br
      have lzb := azb.length
      rw [List.length_map] at lzb
      refine ⟨fun σ H7 => σ = [some (.str (S (TL.joinL [10] Ls))), some (.ref tp), some (.ref ip), some (.ref bp), some (.ref lp), some (.int (i : Nat)), some (.str (S l)), none, none] ∧ ∃ xs1 ds1 st2 ds2, Thr K H4 H7 bp ip tp st xs1 ds1 ∧ Lex l ((i : Int) + 1) 0 st ds1 st2 ds2 ∧
        Lns (Ls.drop (i + 1)) (i + 1) st2 xs1 (nlIf st2 ds2 ((i : Int) + 1)) xsF dsF ∧ xs1.length ≤ i + 1 + 1 ∧ xs1[0]? = some 0, ?_, ?_⟩
      · refine ⟨_, rfl, _, .inl ⟨_, SqL.of ezb, rfl⟩, ?_⟩
        cases hrun with
        | blank hbl hr =>
          obtain rfl : zb = [] := List.length_eq_zero_iff.mp (by simpa using lzb)
          refine iteTb rfl ?_
          refine ⟨_, rfl, l, rfl, hll, ⟨_, rfl, ?_⟩⟩
          rw [hbl]
          refine iteTb rfl ?_
          exact ⟨[], xs, ds, _, _, rfl, hr, W6, by simp, by omega, hx0⟩
        | @out _ _ _ st2 _ xs1 _ _ ds1 ds2 _ hbl hI hX hr =>
          obtain rfl : zb = [] := List.length_eq_zero_iff.mp (by simpa using lzb)
          refine iteTb rfl ?_
          refine ⟨_, rfl, l, rfl, hll, ⟨_, rfl, ?_⟩⟩
          rw [hbl]
          refine iteFb rfl ?_
          obtain ⟨i1, i2, i3⟩ := hI.len
          have fin : ∀ H7, AtIn K ip tp xs1 ds1 H6 H7 → Thr K H4 H7 bp ip tp [] xs1 ds1 := fun H7 A7 => ⟨⟨[], A7.2.2 _ _ ezb (Ne.symm nib) ntp, .nil⟩, A7.1, A7.2.1, fun b o hb n1 n2 n3 => A7.2.2 b o (W6.kp b o hb n1 n2 n3) n2 n3⟩
          refine ⟨_, rfl, _, rfl, _, _, rfl, rfl, _, rfl, _, rfl, l, _, ip, tp, xs, ds, rfl, hll, hib, Ne.symm nti, ⟨W6.ix, W6.tk, fun _ _ h _ _ => h⟩, by omega, by omega, hx0, fun kk t hk he hlt H7 A7 => ?_, fun kk t hk hall hn hlast H7 A7 => ?_⟩
          · cases hI with
            | inn h1 h2 => exact ⟨rfl, _, _, st2, ds2, fin H7 A7, hX, hr, by omega, i3 hx0⟩
            | @out k0 h1 h2 =>
              exfalso
              by_cases e : k0 = kk
              · subst e
                rw [h1] at hk
                have := Option.some.inj hk
                omega
              · have h3 := (List.getElem?_eq_some_iff.mp h1).1
                have := h2 kk t (by omega) hk
                omega
          · cases hI with
            | @inn t0 h1 h2 =>
              exfalso
              have hl0 : xs[xs.length - 1]? = some t0 := by rw [← List.getLast?_eq_getElem?]; exact h1
              have h3 := (List.getElem?_eq_some_iff.mp hk).1
              by_cases e : kk + 1 = xs.length
              · have : t = t0 := by
                  rw [show kk = xs.length - 1 by omega, hl0] at hk
                  exact (Option.some.inj hk).symm
                exact hlast e (this ▸ h2)
              · have := hall (xs.length - 1) t0 (by omega) hl0
                omega
            | @out k0 h1 h2 =>
              have hk0 : k0 = kk := by
                by_cases e : k0 < kk
                · have := h2 kk t e hk; omega
                · by_cases e2 : kk < k0
                  · have := hall k0 _ e2 h1; omega
                  · omega
              subst hk0
              have ht : t = ((spaces l : Nat) : Int) := by rw [h1] at hk; exact (Option.some.inj hk).symm
              exact ⟨fun _ => ⟨rfl, _, _, st2, ds2, fin H7 A7, hX, hr, by omega, i3 hx0⟩, fun hne => absurd ht hne⟩
        | @inn _ _ _ _ st2 _ _ _ ds2 _ hne hX hr =>
          refine iteFb ?_ ?_
          · cases zb with
            | nil => exact absurd (List.length_eq_zero_iff.mp (by simpa using lzb.symm)) hne
            | cons => rfl
          · exact ⟨rfl, xs, ds, st2, ds2, W6, hX, hr, by omega, hx0⟩
      · rintro _ H7 ⟨rfl, xs1, ds1, st2, ds2, W7, hX, hr, hx1, hx2⟩
        have hl2 := nlIf_len st2 ds2 ((i : Int) + 1)
        have hl3 := hr.len
        refine ⟨_, rfl, _, rfl, _, _, rfl, rfl, _, rfl, _, rfl, l, _, bp, tp, st, st2, ds1, ds2, rfl, hll, hlw, ntp, hib, ⟨W7.br, W7.tk, fun _ _ h _ _ => h⟩, hst, hX, by omega, fun H8 W8' => ?_⟩
        have W8 : Thr K H4 H8 bp ip tp st2 xs1 ds2 := ⟨W8'.br, W8'.kp _ _ W7.ix nib (Ne.symm nti), W8'.tk, fun b o hb n1 n2 n3 => W8'.kp b o (W7.kp b o hb n1 n2 n3) n1 n3⟩
        have hst2 := hX.stl hst
        obtain ⟨zc, ezc, azc⟩ := id W8.br
        have lzc := azc.length
        rw [List.length_map] at lzc
        refine ⟨_, rfl, _, .inl ⟨_, SqL.of ezc, rfl⟩, ?_⟩
        cases st2 with
        | cons q st3 =>
          obtain ⟨z1, z2, rfl⟩ : ∃ z1 z2, zc = z1 :: z2 := by
            cases zc with
            | nil => simp at lzc
            | cons a b => exact ⟨a, b, rfl⟩
          exact iteFb rfl ⟨q :: st3, xs1, ds2, _, _, rfl, hr, W8, hst2, hx1, hx2⟩
        | nil =>
          obtain rfl : zc = [] := List.length_eq_zero_iff.mp (by simpa using lzc)
          refine iteTb rfl ?_
          obtain ⟨zs, ez, az⟩ := id W8.tk
          have lz := az.length
          refine ⟨_, rfl, .inl ⟨rfl, _, SqL.of ez⟩, _, rfl, _, _, rfl, rfl, sz_3, fun u2 hu2 => ⟨tp, _, _, rfl, rfl, Same.new hu2 _ _ ez, Nat.lt_of_le_of_lt (show zs.length ≤ 200000 by omega) (by decide), ?_⟩⟩
          have S9 := Same.new (o := .tup [.str "newline", .str "", .int ((i : Nat) + 1)]) hu2
          have W9 := W8.same S9
          refine ⟨[], xs1, ds2 ++ [nlT ((i : Nat) + 1)], _, _, rfl, hr, ⟨⟨[], ?_, .nil⟩, ?_, listAt_app W9.tk (S9 _ _ ez) (Dt.made hu2 (.cons (.str _) (.cons (.str _) (.cons (.int _) .nil)))), fun b o hb n1 n2 n3 => ?_⟩, by simp, hx1, hx2⟩
          · rw [upd_ne ntp]; exact S9 _ _ ezc
          · rw [upd_ne (Ne.symm nti)]; exact W9.ix
          · rw [upd_ne n3]; exact W9.kp b o hb n1 n2 n3
    · rintro σ H5 ⟨st, xs, ds, x5, x6, rfl, hrun, W5, hst, hxs, hx0⟩
      rw [llen] at hrun
      rw [List.drop_length] at hrun
      cases hrun
      obtain ⟨zb, ezb, azb⟩ := id W5.br
      obtain rfl : zb = [] := List.length_eq_zero_iff.mp (by have := azb.length; simpa using this)
      refine ⟨_, rfl, _, .inl ⟨_, SqL.of ezb, rfl⟩, ?_⟩
      refine iteFb rfl ?_
      obtain ⟨ys, rfl⟩ : ∃ ys, xsF = 0 :: ys := by
        cases xsF with
        | nil => simp at hx0
        | cons a b => exact ⟨b, by rw [Option.some.inj (show some a = some 0 from hx0)]⟩
      have el5 := W5.kp _ _ el nlb nli nlt
      have ys20 : ys.length ≤ 10000 := by rw [List.length_cons, llen] at hxs; omega
      refine ⟨_, rfl, _, rfl, ip, _, rfl, SqL.of W5.ix, fun z hz2 => ⟨z, rfl, ⟨_, SqL.of upd_same⟩, ?_⟩⟩
      have hcs : cutV ((0 :: ys : List Int).map V.int) (some 1) none = ys.map V.int := cut_tail _ _
      rw [hcs]
      have S6 := Same.new (o := .lst (ys.map V.int)) hz2
      have ez6 := upd_same (H := H5) (a := z) (o := HO.lst (ys.map V.int))
      have W6 := W5.same S6
      have el6 := S6 _ _ el5
      have nzt : z ≠ tp := fun e => by subst e; obtain ⟨zs, ez, _⟩ := W5.tk; rw [hz2] at ez; cases ez
      generalize upd H5 z _ = H6 at S6 ez6 W6 el6
      refine for_list (xs := ys.map V.int) (fun i σ H7 => ∃ x7, σ = [some (.str (S (TL.joinL [10] Ls))), some (.ref tp), some (.ref ip), some (.ref bp), some (.ref lp), x5, x6, x7, none] ∧ ListAt K H7 tp (dsF ++ List.replicate i (dedT (Ls.length : Nat))) ∧ Keep tp H6 H7) ⟨none, rfl, by simpa using W6.tk, fun _ _ h _ => h⟩ ?_ ?_ ?_
      · rintro i σ H7 _ ⟨x7, rfl, L7, K7⟩
        exact SqL.of (K7 _ _ ez6 nzt)
      · rintro i y σ H7 hy ⟨x7, rfl, L7, K7⟩
        have hi : i < ys.length := by have := (List.getElem?_eq_some_iff.mp hy).1; simpa using this
        obtain ⟨zs, ez, az⟩ := id L7
        have lz := az.length
        rw [List.length_append, List.length_replicate] at lz
        have el7 := K7 _ _ el6 nlt
        refine ⟨_, rfl, .inl ⟨rfl, _, SqL.of ez⟩, _, rfl, _, _, rfl, .inl ⟨_, SqL.of el7, rfl⟩, sz_3, fun u2 hu2 => ⟨tp, _, _, rfl, rfl, Same.new hu2 _ _ ez, Nat.lt_of_le_of_lt (show zs.length ≤ 200000 by omega) (by decide), ?_⟩⟩
        have S9 := Same.new (o := .tup [.str "dedent", .str "", .int (((Ls.map S).map V.str).length : Nat)]) hu2
        refine ⟨_, rfl, ?_, fun b o hb ne => by rw [upd_ne ne]; exact S9 _ _ (K7 b o hb ne)⟩
        have L9 := listAt_app (listAt_mono L7 S9) (S9 _ _ ez) (Dt.made hu2 (.cons (.str "dedent") (.cons (.str "") (.cons (.int (((Ls.map S).map V.str).length : Nat)) .nil))))
        rw [List.append_assoc, llen, show [PyData.tuple [.str "dedent", .str "", .int (Ls.length : Nat)]] = [dedT (Ls.length : Nat)] from rfl, ← List.replicate_succ'] at L9
        rw [llen]
        exact L9
      · rintro σ H7 ⟨x7, rfl, L7, K7⟩
        rw [List.length_map] at L7
        obtain ⟨zs, ez, az⟩ := id L7
        have lz := az.length
        rw [List.length_append, List.length_replicate] at lz
        have el7 := K7 _ _ el6 nlt
        refine ⟨_, rfl, .inl ⟨rfl, _, SqL.of ez⟩, _, rfl, _, _, rfl, .inl ⟨_, SqL.of el7, rfl⟩, sz_3, fun u2 hu2 => ⟨tp, _, _, rfl, rfl, Same.new hu2 _ _ ez, Nat.lt_of_le_of_lt (show zs.length ≤ 200000 by omega) (by decide), ?_⟩⟩
        have S9 := Same.new (o := .tup [.str "end", .str "", .int (((Ls.map S).map V.str).length : Nat)]) hu2
        have L9 := listAt_app (listAt_mono L7 S9) (S9 _ _ ez) (Dt.made hu2 (.cons (.str "end") (.cons (.str "") (.cons (.int (((Ls.map S).map V.str).length : Nat)) .nil))))
        refine ⟨_, rfl, k tp _ htp (fun b o hb => ?_) ?_⟩
        · rw [upd_ne (ne_of_none hb htp)]
          exact S9 _ _ (K7 _ _ (keepH _ _ _ _ W6 b o hb) (ne_of_none hb htp))
        · rw [llen] at L9 ⊢
          exact L9
end

section
--SPLIT
end
section
variable {P : Program} {w : World} {K : PySem.W.Frag} {mg : Str → Option Value} {base : Heap}
/-! what a row of tokens is read as -/
/-- what may stand behind a sign (true), behind another token (false), behind a space (none) -/
def nextOk (post : List Nat) : Option Bool → Prop
  | none => True
  | some true => ∀ c, post.head? = some c → c ≠ 61
  | some false => ∀ c, post.head? = some c → isW c = false
/-- t is read as the token d wherever it stands -/
def LexT (t : List Nat) (sg : Bool) (d : Int → PyData) : Prop := ∀ (pre post : List Nat) (m : Int) (st : St), nextOk post (some sg) → Tok1 (pre ++ (t ++ post)) m pre.length (pre.length + t.length) st st (d m)
theorem at_pre {pre t post : List Nat} {c : Nat} (h : t.head? = some c) : (pre ++ (t ++ post))[pre.length]? = some c := by
  rw [List.getElem?_append_right (Nat.le_refl _), Nat.sub_self]
  cases t with
  | nil => cases h
  | cons x r => exact h
theorem wordAt_pre {pre t post : List Nat} (hne : t ≠ []) (hw : ∀ c ∈ t, isW c = true) (hp : nextOk post (some false)) : WordAt (pre ++ (t ++ post)) pre.length (pre.length + t.length) t := by
  have h0 : 0 < t.length := List.length_pos_iff.mpr hne
  refine ⟨by omega, by simp, ?_, hw, fun c hc => hp c ?_⟩
  · rw [List.drop_left, show pre.length + t.length - pre.length = t.length by omega, List.take_left]
  · rw [List.getElem?_append_right (by omega), List.getElem?_append_right (by omega), show pre.length + t.length - pre.length - t.length = 0 by omega] at hc
    rw [List.head?_eq_getElem?]
    exact hc
theorem lexT_word {t : List Nat} {c : Nat} (h : t.head? = some c) (hc : isL c = true) (hw : ∀ c ∈ t, isW c = true) (hk : kwB t = true ∨ t.length ≤ 30) : LexT t false (wordD t) := fun pre post m st hp =>
  .word (at_pre h) hc (wordAt_pre (fun e => by rw [e] at h; cases h) hw hp) hk
theorem lexT_int {t : List Nat} {c : Nat} (h : t.head? = some c) (hc : isD c = true) (hi : IntOk t) : LexT t false (intD t) := fun pre post m st hp =>
  .int (at_pre h) hc (wordAt_pre hi.ne (fun d hd => isD_isW (List.all_eq_true.mp hi.dg d hd)) hp) hi
theorem scan_plain {q : Nat} : ∀ (body : List Nat), (∀ c ∈ body, c ≠ q ∧ c ≠ 92) → ∀ rest acc, scan q (body ++ q :: rest) acc = .done (acc ++ body) rest
  | [], _, rest, acc => by rw [List.append_nil]; exact scan_q
  | c :: r, h, rest, acc => by
    have hc := h c (by simp)
    refine (scan_c hc.1 hc.2).trans ?_
    have ih := scan_plain r (fun d hd => h d (List.mem_cons_of_mem _ hd)) rest (acc ++ [c])
    rw [List.append_assoc] at ih
    exact ih
theorem lexT_text {body : List Nat} (h : ∀ c ∈ body, c ≠ 34 ∧ c ≠ 92) (hl : body.length ≤ 200) : LexT (34 :: body ++ [34]) false (textT body) := fun pre post m st hp => by
  have e1 : (pre ++ ((34 :: body ++ [34]) ++ post)).drop (pre.length + 1) = body ++ 34 :: post := by
    rw [← List.drop_drop, List.drop_left]
    simp
  have ht := Tok1.text (a := pre ++ ((34 :: body ++ [34]) ++ post)) (m := m) (i := pre.length) (st := st) (q := 34) (acc := body) (rest := post) (at_pre rfl) (.inl rfl) (by rw [e1]; exact scan_plain body h post []) (by omega)
  have e2 : (pre ++ ((34 :: body ++ [34]) ++ post)).length - post.length = pre.length + (34 :: body ++ [34]).length := by simp; omega
  rw [e2] at ht
  exact ht
/-- the signs that are no brackets -/
def plainS : List (List Nat) := [[47, 47, 61], [47, 47], [60, 61], [62, 61], [61, 61], [33, 61], [43, 61], [45, 61], [42, 61], [43], [45], [42], [60], [62], [61], [44], [58], [46]]
def signTab (z : List Nat) : Bool := (List.range 24).any fun jz => sgns[jz]? == some z && (List.range jz).all fun j => match sgns[j]? with
  | some y => (decide (y.length ≤ z.length) && z.take y.length != y) || (decide (z.length < y.length) && (y.take z.length != z || y[z.length]? == some 61))
  | none => true
theorem signTab_all : ∀ z ∈ sgns, signTab z = true ∧ z.head?.any signC = true := by decide +kernel
theorem signAt_pre {pre z post : List Nat} (hz : z ∈ sgns) (hp : nextOk post (some true)) : SignAt (pre ++ (z ++ post)) pre.length z := by
  obtain ⟨h, _⟩ := signTab_all z hz
  unfold signTab at h
  obtain ⟨jz, _, h⟩ := List.any_eq_true.mp h
  rw [Bool.and_eq_true] at h
  obtain ⟨h1, h2⟩ := h
  have h1 : sgns[jz]? = some z := eq_of_beq h1
  refine ⟨jz, h1, by rw [List.drop_left, List.take_left], fun j hj y hy e => ?_⟩
  rw [List.drop_left] at e
  have h3 := List.all_eq_true.mp h2 j (List.mem_range.mpr hj)
  rw [hy] at h3
  have h3 : ((decide (y.length ≤ z.length) && z.take y.length != y) || (decide (z.length < y.length) && (y.take z.length != z || y[z.length]? == some 61))) = true := h3
  rw [Bool.or_eq_true, Bool.and_eq_true, Bool.and_eq_true, Bool.or_eq_true] at h3
  rcases h3 with ⟨a1, a2⟩ | ⟨a1, a2⟩
  · have a1 := of_decide_eq_true a1
    rw [List.take_append_of_le_length a1] at e
    exact absurd e (by simpa using a2)
  · have a1 := of_decide_eq_true a1
    have e2 : y.take z.length = z := by
      rw [← e, List.take_take, Nat.min_eq_left (by omega), List.take_left]
    rcases a2 with a2 | a2
    · exact absurd e2 (by simpa using a2)
    · have a2 : y[z.length]? = some 61 := eq_of_beq a2
      rw [← e, List.getElem?_take, if_pos a1, List.getElem?_append_right (Nat.le_refl _), Nat.sub_self, ← List.head?_eq_getElem?] at a2
      exact hp 61 a2 rfl
theorem sgn_head {z : List Nat} (hz : z ∈ sgns) : ∃ c, z.head? = some c ∧ signC c = true := by
  obtain ⟨_, h⟩ := signTab_all z hz
  cases e : z.head? with
  | none => rw [e] at h; cases h
  | some c => rw [e] at h; exact ⟨c, rfl, h⟩
theorem tok1_sign {z : List Nat} {st st' : St} {m : Int} (pre post : List Nat) (hz : z ∈ sgns) (hF : Fol z m st st') (hp : nextOk post (some true)) : Tok1 (pre ++ (z ++ post)) m pre.length (pre.length + z.length) st st' (signD z m) := by
  obtain ⟨c, h1, h2⟩ := sgn_head hz
  exact .sign (at_pre h1) h2 (signAt_pre hz hp) hF
theorem plain_sub : ∀ z ∈ plainS, z ∈ sgns ∧ (z.length = 1 → z.head?.any isBr = false) := by decide +kernel
theorem lexT_sign {z : List Nat} (hz : z ∈ plainS) : LexT z true (signD z) := fun pre post m st hp => by
  obtain ⟨h1, h2⟩ := plain_sub z hz
  refine tok1_sign pre post h1 (.oth h1 fun c e => ?_) hp
  subst e
  simpa using h2 rfl
/-- a row: read from its beginning, it puts the tokens ts behind those that are there -/
def RowOk (m : Int) (a : List Nat) (sg : Option Bool) (st0 st : St) (ts : List PyData) : Prop :=
  ∀ post, nextOk post sg → ∀ ds st' ds', Lex (a ++ post) m a.length st (ds ++ ts) st' ds' → Lex (a ++ post) m 0 st0 ds st' ds'
theorem RowOk.nil {m : Int} {sg : Option Bool} {st : St} : RowOk m [] sg st st [] := fun post _ ds st' ds' h => by
  rw [List.append_nil] at h
  exact h
theorem RowOk.sp1 {m : Int} {a : List Nat} {sg : Option Bool} {st0 st : St} {ts : List PyData} (h : RowOk m a sg st0 st ts) : RowOk m (a ++ [32]) none st0 st ts := fun post _ ds st' ds' hx => by
  rw [List.append_assoc] at hx ⊢
  refine h ([32] ++ post) ?_ ds st' ds' (.sp (at_pre (t := [32]) rfl) ?_)
  · cases sg with
    | none => trivial
    | some b => cases b with
      | true => intro c hc; obtain rfl := Option.some.inj hc; decide
      | false => intro c hc; obtain rfl := Option.some.inj hc; decide
  · rw [List.length_append] at hx
    exact hx
theorem RowOk.sps {m : Int} {st0 st : St} {ts : List PyData} : ∀ (k : Nat) {a : List Nat} {sg : Option Bool}, RowOk m a sg st0 st ts → RowOk m (a ++ List.replicate k 32) (if k = 0 then sg else none) st0 st ts
  | 0, a, sg, h => by simpa using h
  | k + 1, a, sg, h => by
    have h2 := RowOk.sps k h.sp1
    have e : a ++ List.replicate (k + 1) 32 = a ++ [32] ++ List.replicate k 32 := by rw [List.replicate_succ, List.append_assoc]; rfl
    rw [e, if_neg (by omega)]
    have : (if k = 0 then none else none : Option Bool) = none := by split <;> rfl
    rw [this] at h2
    exact h2
theorem RowOk.put {m : Int} {a t : List Nat} {sg : Option Bool} {sgt : Bool} {st0 st st1 : St} {ts : List PyData} {d : PyData} (h : RowOk m a sg st0 st ts) (hne : t ≠ []) (hn : ∀ post, nextOk (t ++ post) sg) (ht : ∀ post, nextOk post (some sgt) → Tok1 (a ++ (t ++ post)) m a.length (a.length + t.length) st st1 d) :
    RowOk m (a ++ t) (some sgt) st0 st1 (ts ++ [d]) := fun post hp ds st' ds' hx => by
  rw [List.append_assoc] at hx ⊢
  have h0 : 0 < t.length := List.length_pos_iff.mpr hne
  refine h (t ++ post) (hn post) ds st' ds' (.tok (ht post hp) (by omega) (by simp) ?_)
  rw [List.append_assoc]
  rw [List.length_append] at hx
  exact hx
theorem RowOk.tok {m : Int} {a t : List Nat} {sg : Option Bool} {sgt : Bool} {st0 st : St} {ts : List PyData} {d : Int → PyData} (h : RowOk m a sg st0 st ts) (hne : t ≠ []) (hn : ∀ post, nextOk (t ++ post) sg) (ht : LexT t sgt d) : RowOk m (a ++ t) (some sgt) st0 st (ts ++ [d m]) :=
  h.put hne hn fun post hp => ht a post m st hp
/-- the end of a row, perhaps with a comment -/
theorem RowOk.fin {m : Int} {a post : List Nat} {sg : Option Bool} {st0 st : St} {ts ds : List PyData} (h : RowOk m a sg st0 st ts) (hp : post = [] ∨ ∃ k r, post = List.replicate (k + 1) 32 ++ 35 :: r) : Lex (a ++ post) m 0 st0 ds st (ds ++ ts) := by
  rcases hp with rfl | ⟨k, r, rfl⟩
  · refine h [] ?_ ds st _ (.fin (.inl (by simp)))
    cases sg with
    | none => trivial
    | some b => cases b <;> (intro c hc; cases hc)
  · have h2 := h.sps (k + 1)
    rw [if_neg (by omega)] at h2
    have e := at_pre (pre := a ++ List.replicate (k + 1) 32) (t := 35 :: r) (post := []) (c := 35) rfl
    rw [List.append_nil] at e
    have := h2 (35 :: r) trivial ds st _ (.fin (.inr e))
    rw [List.append_assoc] at this
    exact this
/-- the digits of a number -/
theorem numL_head (n : Nat) (h : 1 ≤ n) : (TL.numL n).head? ≠ some 48 := by
  induction n using Nat.strongRecOn with
  | _ n ih =>
    by_cases h10 : n < 10
    · rw [TL.numL_lt h10]
      intro e
      have := Option.some.inj e
      omega
    · rw [TL.numL_step (by omega)]
      have := ih (n / 10) (by omega) (by omega)
      cases e : TL.numL (n / 10) with
      | nil => exact absurd e (TL.numL_ne _)
      | cons c r => rw [e] at this; exact this
theorem int_numL {n : Nat} (h : n < 10 ^ 30) : IntOk (TL.numL n) ∧ valI (TL.numL n) = n := by
  have hv : valI (TL.numL n) = n := by unfold valI; rw [TL.numL_val]
  have hl := TL.numL_len (n := n) (k := 30) (by decide) h
  refine ⟨⟨TL.numL_ne n, List.all_eq_true.mpr fun c hc => ?_, fun ⟨h1, h2⟩ => ?_, by omega, ?_⟩, hv⟩
  · have := TL.numL_digits n c hc
    unfold isD
    rw [Bool.and_eq_true]
    exact ⟨decide_eq_true this.1, decide_eq_true this.2⟩
  · by_cases h0 : n < 1
    · obtain rfl : n = 0 := by omega
      rw [TL.numL_lt (by omega)] at h1
      simp at h1
    · exact numL_head n (by omega) h2
  · rw [hv]
    exact Int.lt_of_lt_of_le (Int.ofNat_lt.mpr h) (by decide +kernel)
end

section
variable {P : Program} {w : World} {K : PySem.W.Frag} {mg : Str → Option Value} {base : Heap}
def HeadOk (a : List Nat) : Prop := ∃ c, a.head? = some c ∧ c ≠ 32 ∧ c ≠ 35
/-! the lines so far -/
/-- the lines Ls lead from nothing to open brackets st and tokens ts, whatever stands behind them -/
def LsTo (Ls : List (List Nat)) (st : St) (ts : List PyData) : Prop := ∀ rest xs' ds', Lns rest Ls.length st [0] ts xs' ds' → Lns (Ls ++ rest) 0 [] [0] [] xs' ds'
theorem LsTo.nil : LsTo [] [] [] := fun rest xs' ds' h => h
theorem LsTo.fin {Ls : List (List Nat)} {ts : List PyData} (h : LsTo Ls [] ts) : Lns Ls 0 [] [0] [] [0] ts := by
  have := h [] [0] ts .nil
  rwa [List.append_nil] at this
theorem LsTo.step {Ls : List (List Nat)} {st st2 : St} {ts ts2 : List PyData} {l : List Nat} (h : LsTo Ls st ts) (g : ∀ rest xs' ds', Lns rest (Ls.length + 1) st2 [0] ts2 xs' ds' → Lns (l :: rest) Ls.length st [0] ts xs' ds') : LsTo (Ls ++ [l]) st2 ts2 := fun rest xs' ds' hr => by
  rw [List.append_assoc]
  refine h ([l] ++ rest) xs' ds' (g rest xs' ds' ?_)
  rw [List.length_append, List.length_singleton] at hr
  exact hr
/-- a blank line, or a comment -/
theorem LsTo.blank {Ls : List (List Nat)} {st : St} {ts : List PyData} {k : Nat} {post : List Nat} (h : LsTo Ls st ts) (hp : post = [] ∨ ∃ r, post = 35 :: r) : LsTo (Ls ++ [List.replicate k 32 ++ post]) st ts := by
  have hdw : ∀ n : Nat, (List.replicate n 32 ++ post).dropWhile (· == 32) = post := fun n => by
    induction n with
    | zero => rcases hp with rfl | ⟨r, rfl⟩ <;> rfl
    | succ n ih => rw [List.replicate_succ, List.cons_append, List.dropWhile_cons_of_pos (by rfl), ih]
  have hb : blankB (List.replicate k 32 ++ post) = true := by
    unfold blankB
    rw [hdw]
    rcases hp with rfl | ⟨r, rfl⟩ <;> rfl
  have hx : ∀ m ds, Lex (List.replicate k 32 ++ post) m 0 st ds st ds := fun m ds => by
    have h1 := (RowOk.nil (m := m) (sg := none) (st := st)).sps k
    rw [List.nil_append] at h1
    have hn : nextOk post (if k = 0 then none else none : Option Bool) := by split <;> trivial
    refine h1 post hn ds st ds ?_
    rw [List.append_nil]
    refine .fin ?_
    rcases hp with rfl | ⟨r, rfl⟩
    · exact .inl (by simp)
    · refine .inr ?_
      have e := at_pre (pre := List.replicate k 32) (t := 35 :: r) (post := []) (c := 35) rfl
      rw [List.append_nil] at e
      exact e
  refine h.step fun rest xs' ds' hr => ?_
  cases st with
  | nil => exact .blank hb hr
  | cons q r =>
    refine .inn (by simp) (hx _ ts) ?_
    unfold nlIf
    rw [if_neg (by simp)]
    exact hr
theorem head_blank {l : List Nat} (h : HeadOk l) : blankB l = false ∧ spaces l = 0 := by
  obtain ⟨c, hc, h1, h2⟩ := h
  cases l with
  | nil => cases hc
  | cons x r =>
    obtain rfl := Option.some.inj hc
    have e : (x :: r).dropWhile (· == 32) = x :: r := List.dropWhile_cons_of_neg (by simpa using h1)
    refine ⟨?_, ?_⟩
    · unfold blankB
      rw [e]
      exact decide_eq_false h2
    · unfold spaces
      rw [e, Nat.sub_self]
/-- a line that is read -/
theorem LsTo.row {Ls : List (List Nat)} {st st2 : St} {ts tr : List PyData} {l : List Nat} (h : LsTo Ls st ts) (hx : ∀ ds, Lex l ((Ls.length : Int) + 1) 0 st ds st2 (ds ++ tr)) (hh : st = [] → HeadOk l) : LsTo (Ls ++ [l]) st2 (nlIf st2 (ts ++ tr) ((Ls.length : Int) + 1)) := by
  refine h.step fun rest xs' ds' hr => ?_
  cases st with
  | nil =>
    obtain ⟨h1, h2⟩ := head_blank (hh rfl)
    have hI : Ind (spaces l) ((Ls.length : Int) + 1) [0] ts [0] ts := by
      have := Ind.out (s := spaces l) (m := (Ls.length : Int) + 1) (xs := [0]) (ds := ts) (k := 0) (by rw [h2]; rfl) (fun i u hi hu => by
        cases i with
        | zero => omega
        | succ i => cases hu)
      simpa using this
    exact .out h1 hI (hx ts) hr
  | cons q r => exact .inn (by simp) (hx ts) hr
end

section
variable {P : Program} {w : World} {K : PySem.W.Frag} {mg : Str → Option Value} {base : Heap}
theorem calmF {k : Nat} {f : Addr} {fd : FuncData} {ps : List Str} {sp : Sp} (F : FnG P w K mg base (L2.CX P w) k f fd ps sp) (hE : ∀ vs H Q E E', sp vs H Q E → sp vs H Q E') : FnG P w K mg base CX0 k f fd ps sp :=
  ⟨F.len, fun A outer s H args us vs Q E hr hg he hb hv hs => PySem.codeAny_mono (F.run A outer s H args us vs Q E0 hr hg he hb hv (hE _ _ _ _ _ hs)) fun r s' h => by
    cases r with
    | ok fl => cases fl <;> exact h
    | error e =>
      obtain ⟨a, B, H', cls, d, _, _, _, _, _, _, _, hh⟩ := h
      exact hh.elim⟩
theorem ok_split0 {C B : Addr} {f : Addr} {fd : FuncData} (F : Fun K "split" "split" s_split f fd) (T : Txt K mg) (U_check_characters : Use P w K mg base CX0 "_check_characters" 1 P_check_characters spCheck) (U_is_blank : Use P w K mg base CX0 "_is_blank" 1 P_is_blank spBlank)
    (U_add_indents : Use P w K mg base (L2.CX P w) "_add_indents" 3 P_add_indents (spIndents K C)) (U_add_line : Use P w K mg base (L2.CX P w) "_add_line" 5 P_add_line (spLine K)) (U_Fault : UseF P w K mg base C B) : FnG P w K mg base CX0 6 f fd P_split (spSplitV K) :=
  calmF (ok_split F T U_check_characters U_is_blank U_add_indents U_add_line U_Fault) fun _ _ _ _ _ h => h
end

section
--SPLIT
end
section
/-! statements, programs -/
def plainWords : List Str := ["pass", "break", "continue"]
def declWords : List Str := ["global", "nonlocal"]
def blockWords : List Str := ["if", "while", "for", "def", "class", "try"]
def restStmtM (ch : PM PyData) (line : Int) : PM PyData := (skipM "return").bind fun b => if b = true then (rowOrNoneM ch line).bind fun d => .ret (tgL "return" line [d])
  else (skipM "yield").bind fun b => if b = true then (rowOrNoneM ch line).bind fun d => .ret (tgL "yield" line [.tuple [], d])
  else (skipM "raise").bind fun b => if b = true then raiseM ch line else (skipM "del").bind fun b => if b = true then dropM ch line else rowStmtM ch line
def declL (ch : PM PyData) (line : Int) : List Str → PM PyData
  | [] => restStmtM ch line
  | z :: r => (skipM z).bind fun b => if b = true then (namesM line).bind fun d => .ret (tgL z line [d]) else declL ch line r
def plainL (ch : PM PyData) (line : Int) : List Str → PM PyData
  | [] => declL ch line declWords
  | z :: r => (skipM z).bind fun b => if b = true then .ret (tgL z line []) else plainL ch line r
def lineStmtM (ch : PM PyData) (line : Int) : PM PyData := plainL ch line plainWords
def lineM (ch : PM PyData) : PM PyData := peekM.bind fun t => (lineStmtM ch t.l).bind fun d => endLineM.bind fun _ => .ret d
/-- a statement that is no block; blk is what reads a block -/
def blockL (ch : PM PyData) (blk : Str → PM PyData) : List Str → PM PyData
  | [] => lineM ch
  | z :: r => (skipM z).bind fun b => if b = true then blk z else blockL ch blk r
def stmt0M (ch : PM PyData) : PM PyData := peekM.bind fun _ => blockL ch (fun _ => .bad) blockWords
def parseLoop (st : PM PyData) : Nat → List PyData → PM (List PyData)
  | 0, _ => .bad
  | n + 1, ds => peekM.bind fun t => if (!decide (V.str t.k = V.str "end")) = true then st.bind fun d => parseLoop st n (ds ++ [d]) else .ret ds
def parseM (st : PM PyData) : PM (List PyData) := fun ts => parseLoop st (ts.length + 1) [] ts
end

abbrev s_statement_lines : Stmt := top 39
abbrev N_statement_lines : List Str := ["reader", "line", "word"]
abbrev P_statement_lines : List Str := ["reader", "line"]
theorem sc_statement_lines : FnScope N_statement_lines P_statement_lines (defScope s_statement_lines) := ⟨rfl, rfl, rfl, by decide +kernel, rfl, by decide +kernel, by decide +kernel⟩
abbrev s_line_statement : Stmt := top 38
abbrev N_line_statement : List Str := ["reader", "line", "statement"]
abbrev P_line_statement : List Str := ["reader"]
theorem sc_line_statement : FnScope N_line_statement P_line_statement (defScope s_line_statement) := ⟨rfl, rfl, rfl, by decide +kernel, rfl, by decide +kernel, by decide +kernel⟩
abbrev s_statement_parsing : Stmt := top 79
abbrev N_statement_parsing : List Str := ["reader", "depth", "line", "word", "action"]
abbrev P_statement_parsing : List Str := ["reader", "depth"]
theorem sc_statement_parsing : FnScope N_statement_parsing P_statement_parsing (defScope s_statement_parsing) := ⟨rfl, rfl, rfl, by decide +kernel, rfl, by decide +kernel, by decide +kernel⟩
abbrev s_parse : Stmt := top 78
abbrev N_parse : List Str := ["text", "reader", "statements"]
abbrev P_parse : List Str := ["text"]
theorem sc_parse : FnScope N_parse P_parse (defScope s_parse) := ⟨rfl, rfl, rfl, by decide +kernel, rfl, by decide +kernel, by decide +kernel⟩
section
variable {P : Program} {w : World} {K : PySem.W.Frag} {mg : Str → Option Value} {base : Heap} {C CF CB tl : Addr}
theorem ok_stmtlines {ke : Nat} (hk : 5 ≤ ke) {ch : PM PyData} {f : Addr} {fd : FuncData} (F : Fun K "_statement" "_statement" s_statement_lines f fd) (T : Txt K mg) (UC_Reader : UseC K mg "Reader" fRd C) (U_Reader_skip : UseM P w K mg base CX0 C "skip" 3 P_Reader_skip (spSkip K C)) (U_names : Use P w K mg base (L2.CX P w) "_names" 5 P_names (spPL K C CF namesM)) (U_row_or_none : Use P w K mg base (L2.CX P w) "_row_or_none" (ke + 1) P_row_or_none (spPL K C CF (rowOrNoneM ch)))
    (U_raise : Use P w K mg base (L2.CX P w) "_raise" (ke + 1) P_raise (spPL K C CF (raiseM ch))) (U_drop : Use P w K mg base (L2.CX P w) "_drop" (ke + 1) P_drop (spPL K C CF (dropM ch))) (U_row_statement : Use P w K mg base (L2.CX P w) "_row_statement" (ke + 3) P_row_statement (spPL K C CF (rowStmtM ch))) :
    FnG P w K mg base (L2.CX P w) (ke + 4) f fd P_statement_lines (spPL K C CF (lineStmtM ch)) := by
  refine okG F sc_statement_lines (fun vs H Q E h => ?_) fun cdv A outer s H vs Q E hr hg h => ?_
  · obtain ⟨ra, tl, ts, line, rfl, _⟩ := h
    rfl
  · obtain ⟨ra, tl, ts, line, rfl, R, hl, k⟩ := h
    refine ⟨_, (pss_cons (ps_for (passes_of rfl) rfl (pi_tup (pe_tup (pa_cons pe_str (pa_cons pe_str (pa_cons pe_str pa_nil))))) (pg_name (i := 2) sc_statement_lines.nd rfl (Or.inl rfl))
   (pss_one (ps_if (pt_val (pe_mc UC_Reader U_Reader_skip pass0 (hr.mono (by omega)) hg (pv 0) (pa_cons (pv 2) pa_nil)))
   (pss_one (ps_ret (pe_tup (pa_cons (pv 2) (pa_cons (pv 1) pa_nil)))))
   pss_nil)))
  (pss_cons (ps_for (passes_of rfl) rfl (pi_tup (pe_tup (pa_cons pe_str (pa_cons pe_str pa_nil)))) (pg_name (i := 2) sc_statement_lines.nd rfl (Or.inl rfl))
   (pss_one (ps_if (pt_val (pe_mc UC_Reader U_Reader_skip pass0 (hr.mono (by omega)) hg (pv 0) (pa_cons (pv 2) pa_nil)))
   (pss_one (ps_ret (pe_tup (pa_cons (pv 2) (pa_cons (pv 1) (pa_cons (pe_useR U_names (takes_of rfl rfl rfl rfl) (hr.mono (by omega)) hg rfl (pa_cons (pv 0) (pa_cons (pv 1) pa_nil))) pa_nil))))))
   pss_nil)))
  (pss_cons (ps_if (pt_val (pe_mc UC_Reader U_Reader_skip pass0 (hr.mono (by omega)) hg (pv 0) (pa_cons pe_str pa_nil)))
   (pss_one (ps_ret (pe_tup (pa_cons pe_str (pa_cons (pv 1) (pa_cons (pe_useR U_row_or_none (takes_of rfl rfl rfl rfl) (hr.mono (by omega)) hg rfl (pa_cons (pv 0) (pa_cons (pv 1) pa_nil))) pa_nil))))))
   pss_nil)
  (pss_cons (ps_if (pt_val (pe_mc UC_Reader U_Reader_skip pass0 (hr.mono (by omega)) hg (pv 0) (pa_cons pe_str pa_nil)))
   (pss_one (ps_ret (pe_tup (pa_cons pe_str (pa_cons (pv 1) (pa_cons (pe_tup pa_nil) (pa_cons (pe_useR U_row_or_none (takes_of rfl rfl rfl rfl) (hr.mono (by omega)) hg rfl (pa_cons (pv 0) (pa_cons (pv 1) pa_nil))) pa_nil)))))))
   pss_nil)
  (pss_cons (ps_if (pt_val (pe_mc UC_Reader U_Reader_skip pass0 (hr.mono (by omega)) hg (pv 0) (pa_cons pe_str pa_nil)))
   (pss_one (ps_ret (pe_useR U_raise (takes_of rfl rfl rfl rfl) (hr.mono (by omega)) hg rfl (pa_cons (pv 0) (pa_cons (pv 1) pa_nil)))))
   pss_nil)
  (pss_cons (ps_if (pt_val (pe_mc UC_Reader U_Reader_skip pass0 (hr.mono (by omega)) hg (pv 0) (pa_cons pe_str pa_nil)))
   (pss_one (ps_ret (pe_useR U_drop (takes_of rfl rfl rfl rfl) (hr.mono (by omega)) hg rfl (pa_cons (pv 0) (pa_cons (pv 1) pa_nil)))))
   pss_nil)
  (pss_one (ps_ret (pe_useR U_row_statement (takes_of rfl rfl rfl rfl) (hr.mono (by omega)) hg rfl (pa_cons (pv 0) (pa_cons (pv 1) pa_nil))))))))))), ?_⟩
    unfold lineStmtM at k
    refine ⟨sz_3, fun q hq => ⟨q, rfl, ⟨_, SqT.of upd_same⟩, ?_⟩⟩
    have S1 := Same.new (o := .tup [V.str "pass", V.str "break", V.str "continue"]) hq
    have sq : SqT K (upd H q (.tup [V.str "pass", V.str "break", V.str "continue"])) q (plainWords.map V.str) := SqT.of upd_same
    have R1 := R.same S1
    have kp1 : Keep ra H _ := LK.Same.keep S1
    generalize upd H q (.tup [V.str "pass", V.str "break", V.str "continue"]) = H1 at S1 sq R1 kp1 ⊢
    refine for_it (walk_tup (xs := plainWords.map V.str)) (fun i σ H2 => ∃ (x2 : Option V) (ts2 : List Tk), σ = [some (.ref ra), some (.int line), x2] ∧ RdAt K C tl ts2 ra H2 ∧ Keep ra H H2 ∧ KeepT K H1 H2 ∧ Out (plainL ch line (plainWords.drop i) ts2) (OkP K C tl ra (fun d => d) H Q) (FlP CF ra H E)) ⟨none, _, rfl, R1, kp1, KeepT.refl _ _, k⟩ (fun _ _ _ _ h => let ⟨_, _, _, _, _, t, _⟩ := h; t _ _ sq) ?_ ?_
    · rintro i x σ H2 H3 hi ⟨x2, ts2, rfl, R2, kp2, kt2, k⟩ ⟨rfl, hx⟩
      rw [List.getElem?_map] at hx
      obtain ⟨z, hz, rfl⟩ := Option.map_eq_some_iff.mp hx
      have hil : i < plainWords.length := (List.getElem?_eq_some_iff.mp hz).1
      have ed : plainWords.drop i = z :: plainWords.drop (i + 1) := by
        rw [List.drop_eq_getElem_cons hil]
        rw [List.getElem?_eq_getElem hil] at hz
        rw [Option.some.inj hz]
      rw [ed] at k
      refine rd_skipV R2 rfl rfl ((Out.skip k).mono (fun b ts3 k H4 R4 kp4 => ?_) fun _ _ h => h)
      refine ⟨_, rfl, ?_⟩
      cases b with
      | true => exact iteTb rfl ⟨_, rfl, _, rfl, sz_2, fun u hu => okTup (k.yes rfl) R4 (kp2.trans kp4) hu (.cons (.str _) (.cons (.int _) .nil)) rfl⟩
      | false => exact iteFb rfl ⟨_, ts3, rfl, R4, kp2.trans kp4, kt2.trans (R2.keepT kp4), k.no rfl⟩
    rintro σ H2 ⟨x2, ts2, rfl, R2, kp2, _, k⟩
    have k : Out (declL ch line declWords ts2) (OkP K C tl ra (fun d => d) H Q) (FlP CF ra H E) := by
      rw [List.length_map, List.drop_length] at k
      exact k
    refine ⟨sz_2, fun q hq => ⟨q, rfl, ⟨_, SqT.of upd_same⟩, ?_⟩⟩
    have S3 := Same.new (o := .tup [V.str "global", V.str "nonlocal"]) hq
    have sq : SqT K (upd H2 q (.tup [V.str "global", V.str "nonlocal"])) q (declWords.map V.str) := SqT.of upd_same
    have R3 := R2.same S3
    have kp3 : Keep ra H _ := kp2.trans (LK.Same.keep S3)
    generalize upd H2 q (.tup [V.str "global", V.str "nonlocal"]) = H3 at S3 sq R3 kp3 ⊢
    refine for_it (walk_tup (xs := declWords.map V.str)) (fun i σ H4 => ∃ (x2 : Option V) (ts2 : List Tk), σ = [some (.ref ra), some (.int line), x2] ∧ RdAt K C tl ts2 ra H4 ∧ Keep ra H H4 ∧ KeepT K H3 H4 ∧ Out (declL ch line (declWords.drop i) ts2) (OkP K C tl ra (fun d => d) H Q) (FlP CF ra H E)) ⟨_, _, rfl, R3, kp3, KeepT.refl _ _, k⟩ (fun _ _ _ _ h => let ⟨_, _, _, _, _, t, _⟩ := h; t _ _ sq) ?_ ?_
    · rintro i x σ H4 H5 hi ⟨x2, ts2, rfl, R2, kp2, kt2, k⟩ ⟨rfl, hx⟩
      rw [List.getElem?_map] at hx
      obtain ⟨z, hz, rfl⟩ := Option.map_eq_some_iff.mp hx
      have hil : i < declWords.length := (List.getElem?_eq_some_iff.mp hz).1
      have ed : declWords.drop i = z :: declWords.drop (i + 1) := by
        rw [List.drop_eq_getElem_cons hil]
        rw [List.getElem?_eq_getElem hil] at hz
        rw [Option.some.inj hz]
      rw [ed] at k
      refine rd_skipV R2 rfl rfl ((Out.skip k).mono (fun b ts3 k H5 R5 kp5 => ?_) fun _ _ h => h)
      refine ⟨_, rfl, ?_⟩
      have kp25 := kp2.trans kp5
      cases b with
      | true =>
        refine iteTb rfl ?_
        refine ⟨_, rfl, _, rfl, _, rfl, _, rfl, ra, tl, ts3, line, rfl, R5, hl, (k.yes rfl).bind.mono (fun d ts6 k v H6 R6 kp6 dv => ?_) fun _ _ => FlP.keep kp25⟩
        exact ⟨sz_3, fun u hu => okTup k R6 (kp25.trans kp6) hu (.cons (.str _) (.cons (.int _) (.cons dv .nil))) rfl⟩
      | false => exact iteFb rfl ⟨_, ts3, rfl, R5, kp25, kt2.trans (R2.keepT kp5), k.no rfl⟩
    clear R3 kp3 sq S3 hq R2 kp2
    rintro σ H4 ⟨x2, ts2, rfl, R2, kp2, _, k⟩
    have k : Out (restStmtM ch line ts2) (OkP K C tl ra (fun d => d) H Q) (FlP CF ra H E) := by
      rw [List.length_map, List.drop_length] at k
      exact k
    unfold restStmtM at k
    refine rd_skip R2 rfl ((Out.skip k).mono (fun b ts3 k H5 R3 kp3 => ?_) fun _ _ h => h)
    have kp3 := kp2.trans kp3
    refine ⟨_, rfl, ?_⟩
    cases b with
    | true =>
      refine iteTb rfl ?_
      refine ⟨_, rfl, _, rfl, _, rfl, ra, tl, ts3, line, rfl, R3, hl, (k.yes rfl).bind.mono (fun d ts6 k v H6 R6 kp6 dv => ?_) fun _ _ => FlP.keep kp3⟩
      exact ⟨sz_3, fun u hu => okTup k R6 (kp3.trans kp6) hu (.cons (.str _) (.cons (.int _) (.cons dv .nil))) rfl⟩
    | false =>
      refine iteFb rfl ?_
      refine rd_skip R3 rfl ((Out.skip (k.no rfl)).mono (fun b ts4 k H6 R4 kp4 => ?_) fun _ _ h => h)
      have kp4 := kp3.trans kp4
      refine ⟨_, rfl, ?_⟩
      cases b with
      | true =>
        refine iteTb rfl ?_
        refine ⟨_, rfl, sz_0, fun e he => ?_⟩
        have Se := Same.new (o := .tup []) he
        have kp5 := kp4.trans (LK.Same.keep Se)
        have de : Dt K (upd H6 e (.tup [])) (.ref e) (.tuple []) := Dt.made he .nil
        have R5 := R4.same Se
        generalize upd H6 e (.tup []) = H7 at kp5 de R5
        refine ⟨_, rfl, _, rfl, ra, tl, ts4, line, rfl, R5, hl, (k.yes rfl).bind.mono (fun d ts6 k v H8 R6 kp6 dv => ?_) fun _ _ => FlP.keep kp5⟩
        exact ⟨sz_4, fun u hu => okTup k R6 (kp5.trans kp6) hu (.cons (.str _) (.cons (.int _) (.cons (de.keepT (R5.keepT kp6)) (.cons dv .nil)))) rfl⟩
      | false =>
        refine iteFb rfl ?_
        refine rd_skip R4 rfl ((Out.skip (k.no rfl)).mono (fun b ts5 k H7 R5 kp5 => ?_) fun _ _ h => h)
        have kp5 := kp4.trans kp5
        refine ⟨_, rfl, ?_⟩
        cases b with
        | true => exact iteTb rfl ⟨_, rfl, _, rfl, ra, tl, ts5, line, rfl, R5, hl, (k.yes rfl).mono (fun _ _ => OkP.keep kp5) fun _ _ => FlP.keep kp5⟩
        | false =>
          refine iteFb rfl ?_
          refine rd_skip R5 rfl ((Out.skip (k.no rfl)).mono (fun b ts6 k H8 R6 kp6 => ?_) fun _ _ h => h)
          have kp6 := kp5.trans kp6
          refine ⟨_, rfl, ?_⟩
          cases b with
          | true => exact iteTb rfl ⟨_, rfl, _, rfl, ra, tl, ts6, line, rfl, R6, hl, (k.yes rfl).mono (fun _ _ => OkP.keep kp6) fun _ _ => FlP.keep kp6⟩
          | false => exact iteFb rfl ⟨_, rfl, _, rfl, ra, tl, ts6, line, rfl, R6, hl, (k.no rfl).mono (fun _ _ => OkP.keep kp6) fun _ _ => FlP.keep kp6⟩
theorem ok_linestmt {ke : Nat} (hk : 5 ≤ ke) {ch : PM PyData} {f : Addr} {fd : FuncData} (F : Fun K "line_statement" "line_statement" s_line_statement f fd) (T : Txt K mg) (UC_Reader : UseC K mg "Reader" fRd C) (U_Reader_found_line : UseM P w K mg base CX0 C "found_line" 1 P_Reader_found_line (spFLine K C)) (U_Reader_end_line : UseM P w K mg base (L2.CX P w) C "end_line" 4 P_Reader_end_line (spEndLine K C CF))
    (U_statement_lines : Use P w K mg base (L2.CX P w) "statement_lines" (ke + 4) P_statement_lines (spPL K C CF (lineStmtM ch))) : FnG P w K mg base (L2.CX P w) (ke + 5) f fd P_line_statement (spP K C CF (lineM ch)) := by
  refine okG F sc_line_statement (fun vs H Q E h => ?_) fun cdv A outer s H vs Q E hr hg h => ?_
  · obtain ⟨ra, tl, ts, rfl, _⟩ := h
    rfl
  · obtain ⟨ra, tl, ts, rfl, R, k⟩ := h
    refine ⟨_, (pss_cons (ps_set (i := 1) sc_line_statement.nd rfl (Or.inl rfl) (pe_mc0 UC_Reader U_Reader_found_line pass0 (hr.mono (by omega)) hg (pv 0)))
  (pss_cons (ps_set (i := 2) sc_line_statement.nd rfl (Or.inl rfl) (pe_useR U_statement_lines (takes_of rfl rfl rfl rfl) (hr.mono (by omega)) hg rfl (pa_cons (pv 0) (pa_cons (pv 1) pa_nil))))
  (pss_cons (ps_expr (pe_mc0 UC_Reader U_Reader_end_line (passes_call (takes_of rfl rfl rfl rfl) fun _ _ _ _ h => h) (hr.mono (by omega)) hg (pv 0)))
  (pss_one (ps_ret (pv 2)))))), ?_⟩
    unfold lineM at k
    obtain ⟨t, r, rfl, k⟩ := Out.peek' k
    refine rd_line R rfl ?_
    refine ⟨_, rfl, _, rfl, ra, tl, _, t.l, rfl, R, lineOk R, k.bind.mono (fun d ts1 k v H1 R1 kp1 dv => ?_) fun _ _ h => h⟩
    refine rd_endline R1 rfl (k.bind.mono (fun _ ts2 k H2 R2 kp2 => ?_) fun _ _ => FlP.keep kp1)
    exact ⟨_, rfl, k _ _ R2 (kp1.trans kp2) (dv.keepT (R1.keepT kp2))⟩
def spStmt0 (K : PySem.W.Frag) (C CF : Addr) (ch : PM PyData) : Sp := fun vs H Q E => ∃ (ra tl : Addr) (ts : List Tk), vs = [.ref ra, .int 0] ∧ RdAt K C tl ts ra H ∧ Out (stmt0M ch ts) (OkP K C tl ra (fun d => d) H Q) (FlP CF ra H E)
theorem ok_stmtparse {ke : Nat} (hk : 5 ≤ ke) {ch : PM PyData} {fs : List (Str × Addr)} (hfs : fs.map (·.1) = blockWords) {f : Addr} {fd : FuncData} (F : Fun K "_statement" "_statement" s_statement_parsing f fd) (T : Txt K mg) (UC_Reader : UseC K mg "Reader" fRd C) (U_Reader_found_line : UseM P w K mg base CX0 C "found_line" 1 P_Reader_found_line (spFLine K C)) (U_Reader_skip : UseM P w K mg base CX0 C "skip" 3 P_Reader_skip (spSkip K C))
    (U_line_statement : Use P w K mg base (L2.CX P w) "line_statement" (ke + 5) P_line_statement (spP K C CF (lineM ch))) (U_BLOCK_STATEMENTS : UseI P w K mg "BLOCK_STATEMENTS" (fnKV fs)) : FnG P w K mg base (L2.CX P w) (ke + 6) f fd P_statement_parsing (spStmt0 K C CF ch) := by
  obtain ⟨aD_BLOCK_STATEMENTS, gD_BLOCK_STATEMENTS, kD⟩ := U_BLOCK_STATEMENTS.ex
  refine okG F sc_statement_parsing (fun vs H Q E h => ?_) fun cdv A outer s H vs Q E hr hg h => ?_
  · obtain ⟨ra, tl, ts, rfl, _⟩ := h
    rfl
  · obtain ⟨ra, tl, ts, rfl, R, k⟩ := h
    refine ⟨_, (pss_cons (ps_set (i := 2) sc_statement_parsing.nd rfl (Or.inl rfl) (pe_mc0 UC_Reader U_Reader_found_line pass0 (hr.mono (by omega)) hg (pv 0)))
  (pss_cons (ps_if (pt_cmpR op_gt (pv 1) (pe_globI T.c_MOST_BLOCKS (by rfl)) (nomark _))
   pss_never
   pss_nil)
  (pss_cons (ps_for (passes_of rfl) rfl (pi_keysK (pe_glob (v := .ref aD_BLOCK_STATEMENTS) (by rfl) gD_BLOCK_STATEMENTS rfl)) (pg_name (i := 3) sc_statement_parsing.nd rfl (Or.inl rfl))
   (pss_one (ps_if (pt_val (pe_mc UC_Reader U_Reader_skip pass0 (hr.mono (by omega)) hg (pv 0) (pa_cons (pv 3) pa_nil)))
   pss_never
   pss_nil)))
  (pss_one (ps_ret (pe_useR U_line_statement (takes_of rfl rfl rfl rfl) (hr.mono (by omega)) hg rfl (pa_cons (pv 0) pa_nil))))))), ?_⟩
    unfold stmt0M at k
    obtain ⟨t, r, rfl, k⟩ := Out.peek' k
    refine rd_line R rfl ?_
    refine ⟨_, rfl, _, _, rfl, rfl, _, rfl, iteFb rfl ?_⟩
    refine ⟨aD_BLOCK_STATEMENTS, fnKV fs, rfl, kD, ?_⟩
    refine for_it (walk_keysK) (fun i σ H2 => ∃ (x3 : Option V) (ts2 : List Tk), σ = [some (.ref ra), some (.int 0), some (.int t.l), x3, none] ∧ RdAt K C tl ts2 ra H2 ∧ Keep ra H H2 ∧ Out (blockL ch (fun _ => .bad) (blockWords.drop i) ts2) (OkP K C tl ra (fun d => d) H Q) (FlP CF ra H E)) ⟨none, _, rfl, R, Keep.refl _ _, k⟩ (fun _ _ _ _ _ => trivial) ?_ ?_
    · rintro i x σ H2 H3 hi ⟨x2, ts2, rfl, R2, kp2, k⟩ ⟨rfl, key, kv, hkv, rfl⟩
      have hkv' : (fs.map fun p => ((Sum.inr p.1 : Key), V.ref p.2))[i]? = some (key, kv) := hkv
      rw [List.getElem?_map] at hkv'
      obtain ⟨p, hp, e⟩ := Option.map_eq_some_iff.mp hkv'
      obtain ⟨rfl, rfl⟩ := Prod.mk.inj e
      have hz : blockWords[i]? = some p.1 := by rw [← hfs, List.getElem?_map, hp]; rfl
      have hil : i < blockWords.length := (List.getElem?_eq_some_iff.mp hz).1
      have ed : blockWords.drop i = p.1 :: blockWords.drop (i + 1) := by
        rw [List.drop_eq_getElem_cons hil]
        rw [List.getElem?_eq_getElem hil] at hz
        rw [Option.some.inj hz]
      rw [ed] at k
      refine rd_skipV R2 rfl rfl ((Out.skip k).mono (fun b ts3 k H4 R4 kp4 => ?_) fun _ _ h => h)
      refine ⟨_, rfl, ?_⟩
      cases b with
      | true => exact (show False from k.yes rfl).elim
      | false => exact iteFb rfl ⟨_, ts3, rfl, R4, kp2.trans kp4, k.no rfl⟩
    rintro σ H2 ⟨x2, ts2, rfl, R2, kp2, k⟩
    have k : Out (lineM ch ts2) (OkP K C tl ra (fun d => d) H Q) (FlP CF ra H E) := by
      have : (fnKV fs).length = blockWords.length := by rw [← hfs]; simp [fnKV]
      rw [this, List.drop_length] at k
      exact k
    exact ⟨_, rfl, ra, tl, ts2, rfl, R2, k.mono (fun _ _ => OkP.keep kp2) fun _ _ => FlP.keep kp2⟩
/-- the reader is made -/
def spRdInit (C : Addr) : Sp := fun vs H Q _ => ∃ (p dx tl : Addr), vs = [.ref p, .ref tl] ∧ H p = some (.ins C dx []) ∧ ∀ H', H' p = some (.ins C dx (rdF tl 0)) → (∀ b u, H b = some u → b ≠ p → H' b = some u) → Q .non H'
theorem ok_rdinit {f : Addr} {fd : FuncData} (F : Fun K "__init__" "Reader.__init__" s_Reader___init__ f fd) (T : Txt K mg) (UC_Reader : UseC K mg "Reader" fRd C) : FnOk P w K mg base CX0 1 f fd P_Reader___init__ (spRdInit C) := by
  refine F.ok sc_Reader___init__ (fun vs H Q E h => ?_) fun cdv A outer s H vs Q E hr h => ?_
  · obtain ⟨p, dx, tl, rfl, _⟩ := h
    rfl
  · obtain ⟨p, dx, tl, rfl, hp, k⟩ := h
    refine ⟨_, (pss_cons (ps_fd UC_Reader (by decide +kernel) (pv 0) (pv 1))
  (pss_one (ps_fd UC_Reader (by decide +kernel) (pv 0) pe_int))), ?_⟩
    refine ⟨_, rfl, _, rfl, p, dx, _, rfl, hp, Nat.le_of_ble_eq_true rfl, ?_⟩
    refine ⟨_, rfl, p, dx, _, rfl, upd_same, Nat.le_of_ble_eq_true rfl, ?_⟩
    exact k _ upd_same fun b u e hb => by rw [upd_ne hb, upd_ne hb]; exact e
/-- the promise of parse: the text, its tokens, what they are read as -/
def spParse (K : PySem.W.Frag) (CF : Addr) (st : PM PyData) : Sp := fun vs H Q E => ∃ (Ls : List (List Nat)) (xs : List Int) (ds : List PyData) (TS : List Tk), vs = [.str (S (TL.joinL [10] Ls))] ∧ LsOk Ls ∧ Lns Ls 0 [] [0] [] xs ds ∧ ds.length ≤ 70000 ∧
  ds ++ List.replicate (xs.length - 1) (dedT (Ls.length : Nat)) ++ [endT (Ls.length : Nat)] = TS.map tkD ∧ TS.length ≤ 90000 ∧ (∀ t ∈ TS, TkOk t) ∧
  Out (parseM st TS) (fun ss _ => ∀ v H', Same H H' → Dt K H' v (.tuple ss) → Q v H') fun l z => ∀ e H', Same H H' → H' e = some (faultD l z) → E (.ref CF) (some e) H'
theorem rd_kindV {j : Nat} {ra : Addr} {t : Tk} {ts : List Tk} {H : Hp} {σ : L2.St} {Q : VK} {E : XK} (R : RdAt K C tl (t :: ts) ra H) (hσ : σ[j]? = some (some (.ref ra))) (k : Q (.str t.k) H) : tMc C "found_kind" (spKind K C) E (tVar j) tNil σ H Q := by
  obtain ⟨i, dx, TS, zs, e, _⟩ := id R
  exact ⟨_, hσ, ra, dx, _, rfl, e, by rfl, ra, tl, t, ts, rfl, R, k⟩
theorem sameOf {ra : Addr} {H H1 : Hp} (kp : Keep ra H H1) (h : H ra = none) : Same H H1 := fun b o e => kp b o e (ne_of_none e h)
theorem ok_parse {ke : Nat} (hk : 6 ≤ ke) {ch : PM PyData} {f : Addr} {fd : FuncData} (F : Fun K "parse" "parse" s_parse f fd) (T : Txt K mg) (UC_Reader : UseC K mg "Reader" fRd C) (U_Reader___init__ : UseK P w K mg base "Reader" C 1 P_Reader___init__ (spRdInit C)) (U_Reader_found_kind : UseM P w K mg base CX0 C "found_kind" 1 P_Reader_found_kind (spKind K C))
    (U_split : Use P w K mg base CX0 "split" 6 P_split (spSplitV K)) (U_statement_parsing : Use P w K mg base (L2.CX P w) "statement_parsing" ke P_statement_parsing (spStmt0 K C CF ch)) : FnG P w K mg base (L2.CX P w) (ke + 1) f fd P_parse (spParse K CF (stmt0M ch)) := by
  refine okG F sc_parse (fun vs H Q E h => ?_) fun cdv A outer s H vs Q E hr hg h => ?_
  · obtain ⟨Ls, xs, ds, TS, rfl, _⟩ := h
    rfl
  · obtain ⟨Ls, xs, ds, TS, rfl, ok, hL, hdl, eT, hTl, hTo, k⟩ := h
    refine ⟨_, (pss_cons (ps_set (i := 1) sc_parse.nd rfl (Or.inl rfl) (pe_mk U_Reader___init__ (hr.mono (by omega)) rfl (pa_cons (pe_use U_split (hr.mono (by omega)) hg rfl (pa_cons (pv 0) pa_nil)) pa_nil)))
  (pss_cons (ps_set (i := 2) sc_parse.nd rfl (Or.inl rfl) (pe_lst pa_nil))
  (pss_cons (ps_while (passes_of rfl) (pt_up (pt_cmpR op_ne (pe_mc0 UC_Reader U_Reader_found_kind pass0 (hr.mono (by omega)) hg (pv 1)) pe_str (nomark _)))
   (pss_one (ps_expr (pe_bm PySem.F.plainAttrs_list PySem.F.slot_list_append PySem.F.type_list_append mt_append (pv 2) (pa_cons (pe_useR U_statement_parsing (takes_of rfl rfl rfl rfl) (hr.mono (by omega)) hg rfl (pa_cons (pv 1) (pa_cons pe_int pa_nil))) pa_nil)))))
  (pss_one (ps_ret (pe_callTy call_tuple_of (by rfl) T.b_tuple (by decide +kernel) (pa_cons (pv 2) pa_nil))))))), ?_⟩
    refine ⟨_, rfl, Ls, xs, ds, rfl, ok, hL, hdl, fun tl H1 htl S1 L1 => ?_⟩
    rw [eT] at L1
    refine fun ra dx hra hdx hne => ?_
    refine ⟨ra, dx, tl, rfl, upd_same, fun H2 e2 k2 => ⟨rfl, ?_⟩⟩
    have hne' : dx ≠ ra := hne
    have S12 : Same H1 H2 := fun b u e => by
      have n1 := ne_of_none e hra
      have n2 := ne_of_none e hdx
      exact k2 b u (by rw [upd_ne n1, upd_ne n2]; exact e) n1
    obtain ⟨zs, ez, az⟩ := L1
    have R2 : RdAt K C tl TS ra H2 := ⟨0, dx, TS, zs, e2, rfl, S12 _ _ ez, az.mono S12, hTl, hTo⟩
    have hra0 : H ra = none := same_none' S1 hra
    have S2 := S1.trans S12
    clear e2 k2 S12 ez az hdx hra hne hne'
    refine ⟨sz_0, fun sl hsl => ?_⟩
    obtain ⟨n1, n2⟩ := R2.ne hsl
    have hsl0 : H sl = none := same_none' S2 hsl
    have S3 := Same.new (o := .lst []) hsl
    have R3 := R2.same S3
    have L3 : ListAt K (upd H2 sl (.lst [])) sl [] := ⟨_, upd_same, .nil⟩
    have S23 := S2.trans S3
    generalize upd H2 sl (.lst []) = H3 at R3 L3 S23
    unfold parseM at k
    refine while_upN (fun m σ H4 => ∃ (ds : List PyData) (ts3 : List Tk), σ = [some (.str (S (TL.joinL [10] Ls))), some (.ref ra), some (.ref sl)] ∧ RdAt K C tl ts3 ra H4 ∧ Same H H4 ∧ ListAt K H4 sl ds ∧ m + ds.length ≤ 90010 ∧ Out (parseLoop (stmt0M ch) m ds ts3) (fun ss _ => ∀ v H', Same H H' → Dt K H' v (.tuple ss) → Q v H') fun l z => ∀ e H', Same H H' → H' e = some (faultD l z) → E (.ref CF) (some e) H')
      ⟨_, [], TS, rfl, R3, S23, L3, by simp; omega, k⟩ ?_
    clear R3 S23 L3 S2 S3 R2
    rintro m σ H4 ⟨ds, ts3, rfl, R4, S4, L4, hm, k⟩
    cases m with
    | zero => exact k.elim
    | succ m =>
      obtain ⟨t, r, rfl, k⟩ := Out.peek' k
      refine rd_kindV R4 rfl ⟨rfl, _, rfl, ?_⟩
      refine ite3 (fun c => ?_) fun c => ?_
      · obtain ⟨xs4, e4, a4⟩ := id L4
        refine ⟨_, rfl, .inl ⟨rfl, _, SqL.of e4⟩, _, rfl, ra, tl, _, rfl, R4, (k.yes c).bind.mono (fun d5 ts5 k v5 H5 R5 kp5 dv5 => ?_) fun l z k d H' kp => k d H' fun b o e => kp b o (S4 b o e) (ne_of_none e hra0)⟩
        have L5 := lsKp L4 R4 kp5 n1
        obtain ⟨xs5, e5, l5, a5⟩ := ls_lt L5 (by omega)
        have S5 : Same H H5 := fun b o e => kp5 b o (S4 b o e) (ne_of_none e hra0)
        exact ⟨sl, xs5, v5, rfl, rfl, e5, l5, m, Nat.lt_succ_self _, ds ++ [d5], ts5, rfl, R5.upd e5 n1 n2, fun b o e => by rw [upd_ne (ne_of_none e hsl0)]; exact S5 b o e, listAt_app L5 e5 dv5, by simp; omega, k⟩
      · have k := k.no c
        obtain ⟨xs4, e4, a4⟩ := id L4
        exact ⟨_, rfl, sl, xs4, rfl, .inl ⟨SqL.of e4, fun q hq => k _ _ (S4.trans (Same.new hq)) (Dt.made hq a4)⟩⟩
end

section
--SPLIT
end
section
/-! rows of operands with signs between them: what they are read as, and what the law makes of them -/
/-- an operand: behind a not, behind a minus, its name (as codes) -/
structure Opd where
  n : Bool
  m : Bool
  x : List Nat
/-- a row: the first operand, then signs with an operand each -/
abbrev SegR := Opd × List (Str × Opd)
def grp (p : Str → Bool) : Opd → List (Str × Opd) → SegR × List (Str × SegR)
  | o, [] => ((o, []), [])
  | o, (s, o2) :: l => if p s = true then ((o, []), (s, (grp p o2 l).1) :: (grp p o2 l).2) else ((o, (s, (grp p o2 l).1.1) :: (grp p o2 l).1.2), (grp p o2 l).2)
/-- the tree of a row by stages -/
def unT (o : Opd) : PyData := if o.m = true then tg1 "neg" (tg1 "name" (.str (S o.x))) else tg1 "name" (.str (S o.x))
def binT (p : Str → Bool) (mk : Str → PyData → PyData → PyData) (f : SegR → PyData) (s : SegR) : PyData := (grp p s.1 s.2).2.foldl (fun t q => mk q.1 t (f q.2)) (f (grp p s.1 s.2).1)
def mkBin (z : Str) (t u : PyData) : PyData := tg3 "bin" (.str z) t u
def mkBool (z : Str) (t u : PyData) : PyData := tg2 z t u
def isTerm (s : Str) : Bool := inV (V.str s) [V.str "*", V.str "//", V.str "mod"]
def isSum (s : Str) : Bool := inV (V.str s) [V.str "+", V.str "-"]
def isCmp (s : Str) : Bool := inV (V.str s) [V.str "<", V.str "==", V.str "in", V.str "notin", V.str "is", V.str "isnot", V.str ">="]
def isAnd (s : Str) : Bool := inV (V.str s) [V.str "and"]
def isOr (s : Str) : Bool := inV (V.str s) [V.str "or"]
def tr0 (s : SegR) : PyData := unT s.1
def tr1 : SegR → PyData := binT isTerm mkBin tr0
def tr2 : SegR → PyData := binT isSum mkBin tr1
def tr3 (s : SegR) : PyData := if (grp isCmp s.1 s.2).2.isEmpty = true then tr2 (grp isCmp s.1 s.2).1 else tg2 "compare" (tr2 (grp isCmp s.1 s.2).1) (.tuple ((grp isCmp s.1 s.2).2.map fun q => .tuple [.str q.1, tr2 q.2]))
def tr4 (s : SegR) : PyData := if s.1.n = true then tg1 "not" (tr3 s) else tr3 s
def tr5 : SegR → PyData := binT isAnd mkBool tr4
def tr6 : SegR → PyData := binT isOr mkBool tr5
/-! the tokens of a row -/
def nmT (m : Int) (x : List Nat) : Tk := ⟨"name", .str (S x), m⟩
def mkT (m : Int) (k z : Str) : Tk := ⟨k, .str z, m⟩
def opdT (m : Int) (o : Opd) : List Tk := (if o.n = true then [mkT m "word" "not"] else []) ++ (if o.m = true then [mkT m "sign" "-"] else []) ++ [nmT m o.x]
/-- the tokens of a sign -/
def sgT (m : Int) (s : Str) : List Tk :=
  if inV (V.str s) [V.str "+", V.str "-", V.str "*", V.str "//", V.str "<", V.str "==", V.str ">="] = true then [mkT m "sign" s]
  else if inV (V.str s) [V.str "notin"] = true then [mkT m "word" "not", mkT m "word" "in"]
  else if inV (V.str s) [V.str "isnot"] = true then [mkT m "word" "is", mkT m "word" "not"]
  else [mkT m "word" s]
def segT (m : Int) (o : Opd) (l : List (Str × Opd)) : List Tk := opdT m o ++ l.flatMap fun q => sgT m q.1 ++ opdT m q.2
def allOps : List Str := ["+", "-", "*", "//", "mod", "<", "==", "in", "notin", "is", "isnot", "and", "or", ">="]
/-- a row that may be written: its signs are known, a not stands behind and, or alone -/
structure SegOk (o : Opd) (l : List (Str × Opd)) : Prop where
  op : ∀ q ∈ l, q.1 ∈ allOps
  no : ∀ q ∈ l, q.2.n = true → isAnd q.1 = true ∨ isOr q.1 = true
/-- no token of these stands first -/
def NoMk (ws : List Str) (R : List Tk) : Prop := ∃ t r, R = t :: r ∧ ∀ w ∈ ws, isMark t w = false
theorem skip_no {w : Str} {ws : List Str} {R : List Tk} (h : NoMk ws R) (hw : w ∈ ws) : skipM w R = .ok false R := by
  obtain ⟨t, r, rfl, hn⟩ := h
  unfold skipM
  dsimp only
  rw [hn w hw]
  rfl
theorem sees_no {w : Str} {ws : List Str} {R : List Tk} (h : NoMk ws R) (hw : w ∈ ws) : seesM w R = .ok false R := by
  obtain ⟨t, r, rfl, hn⟩ := h
  unfold seesM
  dsimp only
  rw [hn w hw]
/-- what may follow at each stage -/
def f0 : List Str := [".", "(", "["]
def f1 : List Str := "*" :: "//" :: "mod" :: f0
def f2 : List Str := "+" :: "-" :: f1
def cmpEnd : List Str := "==" :: "!=" :: "<" :: "<=" :: ">" :: ">=" :: "in" :: "not" :: ["is"]
def f3 : List Str := cmpEnd ++ f2
def f5 : List Str := "and" :: f3
def f6 : List Str := "or" :: f5
theorem NoMk.sub {ws vs : List Str} {R : List Tk} (h : NoMk ws R) (hs : ∀ w ∈ vs, w ∈ ws) : NoMk vs R := let ⟨t, r, e, hn⟩ := h; ⟨t, r, e, fun w hw => hn w (hs w hw)⟩
theorem bindOk {α β : Type} {m : PM α} {f : α → PM β} {ts r : List Tk} {a : α} (h : m ts = .ok a r) : m.bind f ts = f a r := by unfold PM.bind; rw [h]
/-! unary -/
theorem nm_mark (m : Int) (x : List Nat) (w : Str) : isMark (nmT m x) w = false := by
  unfold isMark nmT
  rw [show inV (V.str ("name" : Str)) [V.str "word", V.str "sign"] = false by decide +kernel, Bool.false_and]
theorem mk_mark {m : Int} {k z w : Str} (hk : inV (V.str k) [V.str "word", V.str "sign"] = true) : isMark (mkT m k z) w = decide (V.str z = V.str w) := by
  unfold isMark mkT
  dsimp only
  rw [hk, Bool.true_and]
theorem prim_nm {ch : PM PyData} {m : Int} {x : List Nat} {R : List Tk} (h : NoMk f0 R) : primaryM ch (nmT m x :: R) = .ok (tg1 "name" (.str (S x))) R := by
  unfold primaryM
  have e1 : atomM ch (nmT m x :: R) = .ok (tg1 "name" (.str (S x))) R := by
    unfold atomM
    rw [bindOk (show peekM (nmT m x :: R) = .ok (nmT m x) (nmT m x :: R) from rfl)]
    rw [if_pos (show decide (V.str (nmT m x).k = V.str "name") = true from decide_eq_true rfl)]
    rfl
  rw [bindOk e1]
  unfold primLoop
  rw [bindOk (skip_no h (by simp [f0])), if_neg Bool.false_ne_true, bindOk (skip_no h (by simp [f0])), if_neg Bool.false_ne_true, bindOk (skip_no h (by simp [f0])), if_neg Bool.false_ne_true]
  rfl
def unTk (m : Int) (o : Opd) : List Tk := (if o.m = true then [mkT m "sign" "-"] else []) ++ [nmT m o.x]
theorem minus_opd {ch : PM PyData} {m : Int} {o : Opd} {R : List Tk} (h : NoMk f0 R) : minusM ch (unTk m o ++ R) = .ok (unT o) R := by
  unfold minusM unTk unT
  cases o.m with
  | true =>
    show PM.bind (skipM "-") _ (mkT m "sign" "-" :: nmT m o.x :: R) = _
    have e : skipM "-" (mkT m "sign" "-" :: nmT m o.x :: R) = .ok true (nmT m o.x :: R) := by
      unfold skipM
      dsimp only
      rw [mk_mark (by decide +kernel), if_pos (decide_eq_true rfl)]
    rw [bindOk e, if_pos rfl, bindOk (prim_nm h)]
    rfl
  | false =>
    show PM.bind (skipM "-") _ (nmT m o.x :: R) = _
    have e : skipM "-" (nmT m o.x :: R) = .ok false (nmT m o.x :: R) := by
      unfold skipM
      dsimp only
      rw [nm_mark]
      rfl
    rw [bindOk e, if_neg Bool.false_ne_true, prim_nm h]
    rfl
/-! groups -/
theorem grp_ops (p : Str → Bool) : ∀ (o : Opd) (l : List (Str × Opd)), (∀ q ∈ (grp p o l).1.2, p q.1 = false ∧ q ∈ l) ∧ (∀ q ∈ (grp p o l).2, p q.1 = true ∧ (∃ o2, (q.1, o2) ∈ l ∧ q.2.1 = o2) ∧ ∀ r ∈ q.2.2, p r.1 = false ∧ r ∈ l) ∧ (grp p o l).1.1 = o
  | o, [] => ⟨by simp [grp], by simp [grp], rfl⟩
  | o, (s, o2) :: l => by
    obtain ⟨h1, h2, h3⟩ := grp_ops p o2 l
    unfold grp
    cases c : p s with
    | true =>
      rw [if_pos rfl]
      refine ⟨by simp, fun q hq => ?_, rfl⟩
      rcases List.mem_cons.mp hq with rfl | hq
      · exact ⟨c, ⟨o2, by simp, h3⟩, fun r hr => ⟨(h1 r hr).1, List.mem_cons_of_mem _ (h1 r hr).2⟩⟩
      · obtain ⟨a, ⟨o3, b1, b2⟩, d⟩ := h2 q hq
        exact ⟨a, ⟨o3, List.mem_cons_of_mem _ b1, b2⟩, fun r hr => ⟨(d r hr).1, List.mem_cons_of_mem _ (d r hr).2⟩⟩
    | false =>
      rw [if_neg Bool.false_ne_true]
      refine ⟨fun q hq => ?_, fun q hq => ?_, rfl⟩
      · rcases List.mem_cons.mp hq with rfl | hq
        · exact ⟨c, by rw [h3]; simp⟩
        · exact ⟨(h1 q hq).1, List.mem_cons_of_mem _ (h1 q hq).2⟩
      · obtain ⟨a, ⟨o3, b1, b2⟩, d⟩ := h2 q hq
        exact ⟨a, ⟨o3, List.mem_cons_of_mem _ b1, b2⟩, fun r hr => ⟨(d r hr).1, List.mem_cons_of_mem _ (d r hr).2⟩⟩
/-- any writing f of operands, g of signs, goes through the groups -/
theorem grp_flat {α : Type} (p : Str → Bool) (f : Opd → List α) (g : Str → List α) : ∀ (o : Opd) (l : List (Str × Opd)),
    f o ++ l.flatMap (fun q => g q.1 ++ f q.2) = (f (grp p o l).1.1 ++ (grp p o l).1.2.flatMap fun q => g q.1 ++ f q.2) ++ (grp p o l).2.flatMap fun q => g q.1 ++ (f q.2.1 ++ q.2.2.flatMap fun r => g r.1 ++ f r.2)
  | o, [] => by simp [grp]
  | o, (s, o2) :: l => by
    have ih := grp_flat p f g o2 l
    unfold grp
    cases c : p s with
    | true =>
      rw [if_pos rfl]
      simp only [List.flatMap_cons, List.flatMap_nil, List.append_nil, List.append_assoc]
      rw [ih]
      simp only [List.append_assoc, List.flatMap_nil]
    | false =>
      rw [if_neg Bool.false_ne_true]
      simp only [List.flatMap_cons, List.append_assoc]
      rw [ih]
      simp only [List.append_assoc]
def segU (m : Int) (wr : Opd → List Tk) (o : Opd) (l : List (Str × Opd)) : List Tk := wr o ++ l.flatMap fun q => sgT m q.1 ++ wr q.2
def grpT (m : Int) (wr : Opd → List Tk) (gs : List (Str × SegR)) : List Tk := gs.flatMap fun q => sgT m q.1 ++ segU m wr q.2.1 q.2.2
theorem segU_grp (m : Int) (wr : Opd → List Tk) (p : Str → Bool) (o : Opd) (l : List (Str × Opd)) : segU m wr o l = segU m wr (grp p o l).1.1 (grp p o l).1.2 ++ grpT m wr (grp p o l).2 := grp_flat p wr (sgT m) o l
theorem grpT_len (m : Int) {wr : Opd → List Tk} (hw : ∀ o, 1 ≤ (wr o).length) : ∀ gs : List (Str × SegR), gs.length ≤ (grpT m wr gs).length
  | [] => Nat.le_refl _
  | q :: gs => by
    have := grpT_len m hw gs
    unfold grpT at this ⊢
    rw [List.flatMap_cons, List.length_append, List.length_append, List.length_cons]
    have h1 : 1 ≤ (segU m wr q.2.1 q.2.2).length := by have := hw q.2.1; unfold segU; rw [List.length_append]; omega
    omega
/-- signs of one token -/
def One (m : Int) (s : Str) : Prop := ∃ k, sgT m s = [mkT m k s] ∧ inV (V.str k) [V.str "word", V.str "sign"] = true
theorem noMk_one {m : Int} {s : Str} {ws : List Str} {r : List Tk} (h : One m s) (hw : ∀ w ∈ ws, decide (V.str s = V.str w) = false) : NoMk ws (sgT m s ++ r) := by
  obtain ⟨k, e, hk⟩ := h
  rw [e]
  exact ⟨_, r, rfl, fun w h => by rw [mk_mark hk]; exact hw w h⟩
section
variable {m : Int} {wr : Opd → List Tk} {ops fw : List Str} {p : Str → Bool} {nx : PM PyData} {tr : SegR → PyData} {Low : Str × Opd → Prop}
/-- the groups that follow -/
structure Stage (m : Int) (wr : Opd → List Tk) (ops fw : List Str) (p : Str → Bool) (nx : PM PyData) (tr : SegR → PyData) (Low : Str × Opd → Prop) : Prop where
  wl : ∀ o, 1 ≤ (wr o).length
  one : ∀ s, p s = true → One m s ∧ s ∈ ops
  far : ∀ s, p s = true → ∀ w ∈ fw, decide (V.str s = V.str w) = false
  low : ∀ o l, (∀ q ∈ l, Low q) → ∀ R, NoMk fw R → nx (segU m wr o l ++ R) = .ok (tr (o, l)) R
theorem grpT_no (h : Stage m wr ops fw p nx tr Low) {gs : List (Str × SegR)} (hg : ∀ q ∈ gs, p q.1 = true) {R : List Tk} (hR : NoMk fw R) : NoMk fw (grpT m wr gs ++ R) := by
  cases gs with
  | nil => exact hR
  | cons q gs =>
    unfold grpT
    rw [List.flatMap_cons, List.append_assoc, List.append_assoc]
    have hp := hg q (by simp)
    exact noMk_one (h.one _ hp).1 (h.far _ hp)
theorem opLoop_run (h : Stage m wr ops fw p nx tr Low) {R : List Tk} (hR : NoMk (ops ++ fw) R) : ∀ (gs : List (Str × SegR)) (n : Nat) (t : PyData), gs.length < n → (∀ q ∈ gs, p q.1 = true ∧ ∀ r ∈ q.2.2, Low r) →
    opLoop ops nx n t (grpT m wr gs ++ R) = .ok (gs.foldl (fun t q => mkBin q.1 t (tr q.2)) t) R
  | [], n, t, hn, _ => by
    obtain ⟨n, rfl⟩ : ∃ k, n = k + 1 := ⟨n - 1, by simp at hn; omega⟩
    obtain ⟨tk, r, rfl, hno⟩ := id hR
    have hF : (ops.any fun o => isMark tk o) = false := by
      rw [List.any_eq_false]
      intro o ho
      rw [hno o (List.mem_append_left _ ho)]
      exact Bool.false_ne_true
    show opLoop ops nx (n + 1) t (tk :: r) = _
    unfold opLoop
    rw [bindOk (show peekM (tk :: r) = .ok tk (tk :: r) from rfl), hF, if_neg Bool.false_ne_true]
    rfl
  | q :: gs, n, t, hn, hg => by
    obtain ⟨n, rfl⟩ : ∃ k, n = k + 1 := ⟨n - 1, by simp at hn; omega⟩
    obtain ⟨hp, hl⟩ := hg q (by simp)
    obtain ⟨⟨k, e, hk⟩, hmem⟩ := h.one _ hp
    have et : grpT m wr (q :: gs) ++ R = mkT m k q.1 :: (segU m wr q.2.1 q.2.2 ++ (grpT m wr gs ++ R)) := by
      unfold grpT
      rw [List.flatMap_cons, e]
      simp
    rw [et]
    have hT : (ops.any fun o => isMark (mkT m k q.1) o) = true := by
      rw [List.any_eq_true]
      exact ⟨q.1, hmem, by rw [mk_mark hk]; exact decide_eq_true rfl⟩
    unfold opLoop
    rw [bindOk (show peekM (mkT m k q.1 :: _) = .ok (mkT m k q.1) (mkT m k q.1 :: _) from rfl), hT, if_pos rfl, bindOk (show takeM (mkT m k q.1 :: (segU m wr q.2.1 q.2.2 ++ (grpT m wr gs ++ R))) = .ok (.str q.1) _ from rfl)]
    rw [bindOk (h.low q.2.1 q.2.2 hl _ (grpT_no h (fun r hr => (hg r (List.mem_cons_of_mem _ hr)).1) (hR.sub fun w hw => List.mem_append_right _ hw)))]
    rw [opLoop_run h hR gs n _ (by simp at hn; omega) fun r hr => hg r (List.mem_cons_of_mem _ hr)]
    rfl
theorem opStage (h : Stage m wr ops fw p nx tr Low) {o : Opd} {l : List (Str × Opd)} (hl : ∀ q ∈ l, Low q ∨ p q.1 = true) {R : List Tk} (hR : NoMk (ops ++ fw) R) :
    (nx.bind fun t => fun ts => opLoop ops nx (ts.length + 1) t ts) (segU m wr o l ++ R) = .ok (binT p mkBin tr (o, l)) R := by
  obtain ⟨g1, g2, g3⟩ := grp_ops p o l
  have lw : ∀ r ∈ l, p r.1 = false → Low r := fun r hr hp => (hl r hr).resolve_right (by rw [hp]; exact Bool.false_ne_true)
  have hg : ∀ q ∈ (grp p o l).2, p q.1 = true ∧ ∀ r ∈ q.2.2, Low r := fun q hq => ⟨(g2 q hq).1, fun r hr => lw r ((g2 q hq).2.2 r hr).2 ((g2 q hq).2.2 r hr).1⟩
  rw [segU_grp m wr p o l, List.append_assoc]
  rw [bindOk (h.low _ _ (fun q hq => lw q (g1 q hq).2 (g1 q hq).1) _ (grpT_no h (fun q hq => (hg q hq).1) (hR.sub fun w hw => List.mem_append_right _ hw)))]
  exact opLoop_run h hR _ _ _ (by have := grpT_len m h.wl (grp p o l).2; rw [List.length_append]; omega) hg
theorem boolLoop_run {w : Str} (h : Stage m wr [w] fw p nx tr Low) {R : List Tk} (hR : NoMk ([w] ++ fw) R) : ∀ (gs : List (Str × SegR)) (n : Nat) (t : PyData), gs.length < n → (∀ q ∈ gs, p q.1 = true ∧ ∀ r ∈ q.2.2, Low r) →
    boolLoop w nx n t (grpT m wr gs ++ R) = .ok (gs.foldl (fun t q => mkBool q.1 t (tr q.2)) t) R
  | [], n, t, hn, _ => by
    obtain ⟨n, rfl⟩ : ∃ k, n = k + 1 := ⟨n - 1, by simp at hn; omega⟩
    show boolLoop w nx (n + 1) t R = _
    unfold boolLoop
    rw [bindOk (skip_no hR (by simp)), if_neg Bool.false_ne_true]
    rfl
  | q :: gs, n, t, hn, hg => by
    obtain ⟨n, rfl⟩ : ∃ k, n = k + 1 := ⟨n - 1, by simp at hn; omega⟩
    obtain ⟨hp, hl⟩ := hg q (by simp)
    obtain ⟨⟨k, e, hk⟩, hmem⟩ := h.one _ hp
    have hw : q.1 = w := by simpa using hmem
    have et : grpT m wr (q :: gs) ++ R = mkT m k q.1 :: (segU m wr q.2.1 q.2.2 ++ (grpT m wr gs ++ R)) := by
      unfold grpT
      rw [List.flatMap_cons, e]
      simp
    rw [et]
    have hs : skipM w (mkT m k q.1 :: (segU m wr q.2.1 q.2.2 ++ (grpT m wr gs ++ R))) = .ok true (segU m wr q.2.1 q.2.2 ++ (grpT m wr gs ++ R)) := by
      unfold skipM
      dsimp only
      rw [mk_mark hk, if_pos (decide_eq_true (by rw [hw]))]
    unfold boolLoop
    rw [bindOk hs, if_pos rfl]
    rw [bindOk (h.low q.2.1 q.2.2 hl _ (grpT_no h (fun r hr => (hg r (List.mem_cons_of_mem _ hr)).1) (hR.sub fun w hw => List.mem_append_right _ hw)))]
    rw [boolLoop_run h hR gs n _ (by simp at hn; omega) fun r hr => hg r (List.mem_cons_of_mem _ hr)]
    rw [← hw]
    rfl
theorem boolStage {w : Str} (h : Stage m wr [w] fw p nx tr Low) {o : Opd} {l : List (Str × Opd)} (hl : ∀ q ∈ l, Low q ∨ p q.1 = true) {R : List Tk} (hR : NoMk ([w] ++ fw) R) :
    (nx.bind fun t => fun ts => boolLoop w nx (ts.length + 1) t ts) (segU m wr o l ++ R) = .ok (binT p mkBool tr (o, l)) R := by
  obtain ⟨g1, g2, g3⟩ := grp_ops p o l
  have lw : ∀ r ∈ l, p r.1 = false → Low r := fun r hr hp => (hl r hr).resolve_right (by rw [hp]; exact Bool.false_ne_true)
  have hg : ∀ q ∈ (grp p o l).2, p q.1 = true ∧ ∀ r ∈ q.2.2, Low r := fun q hq => ⟨(g2 q hq).1, fun r hr => lw r ((g2 q hq).2.2 r hr).2 ((g2 q hq).2.2 r hr).1⟩
  rw [segU_grp m wr p o l, List.append_assoc]
  rw [bindOk (h.low _ _ (fun q hq => lw q (g1 q hq).2 (g1 q hq).1) _ (grpT_no h (fun q hq => (hg q hq).1) (hR.sub fun w hw => List.mem_append_right _ hw)))]
  exact boolLoop_run h hR _ _ _ (by have := grpT_len m h.wl (grp p o l).2; rw [List.length_append]; omega) hg
end
/-! the stages -/
variable {m : Int} {ch : PM PyData}
theorem unTk_len (m : Int) (o : Opd) : 1 ≤ (unTk m o).length := by unfold unTk; simp
theorem opdT_len (m : Int) (o : Opd) : 1 ≤ (opdT m o).length := by unfold opdT; simp only [List.length_append, List.length_cons]; omega
theorem in1 {s : Str} {zs : List Str} (h : inV (V.str s) (zs.map V.str) = true) : s ∈ zs := by
  unfold inV at h
  obtain ⟨v, hv, e⟩ := List.any_eq_true.mp h
  obtain ⟨z, hz, rfl⟩ := List.mem_map.mp hv
  have e : decide (z = s) = true := e
  rw [← of_decide_eq_true e]
  exact hz
theorem one_all : ∀ s ∈ (["*", "//", "mod", "+", "-", "and", "or"] : List Str), ∀ m, One m s := by
  intro s hs m
  have key : ∀ s ∈ (["*", "//", "mod", "+", "-", "and", "or"] : List Str), (inV (V.str s) [V.str "+", V.str "-", V.str "*", V.str "//", V.str "<", V.str "==", V.str ">="] = true) ∨ (inV (V.str s) [V.str "+", V.str "-", V.str "*", V.str "//", V.str "<", V.str "==", V.str ">="] = false ∧ inV (V.str s) [V.str "notin"] = false ∧ inV (V.str s) [V.str "isnot"] = false) := by decide +kernel
  unfold One sgT
  rcases key s hs with h | ⟨h1, h2, h3⟩
  · rw [if_pos h]; exact ⟨_, rfl, by decide +kernel⟩
  · rw [h1, h2, h3, if_neg Bool.false_ne_true, if_neg Bool.false_ne_true, if_neg Bool.false_ne_true]; exact ⟨_, rfl, by decide +kernel⟩
theorem stage1 : Stage m (unTk m) ["*", "//", "mod"] f0 isTerm (minusM ch) tr0 fun _ => False where
  wl := unTk_len m
  one := fun s hs => by
    have hm : s ∈ (["*", "//", "mod"] : List Str) := in1 hs
    exact ⟨one_all s (by simp at hm ⊢; rcases hm with h | h | h <;> simp [h]) m, hm⟩
  far := fun s hs => by
    have : ∀ s ∈ (["*", "//", "mod"] : List Str), ∀ w ∈ f0, decide (V.str s = V.str w) = false := by decide +kernel
    exact this s (in1 hs)
  low := fun o l hl R hR => by
    cases l with
    | nil =>
      unfold segU
      rw [List.flatMap_nil, List.append_nil]
      exact minus_opd hR
    | cons q l => exact (hl q (by simp)).elim
theorem term_ok {o : Opd} {l : List (Str × Opd)} (hl : ∀ q ∈ l, isTerm q.1 = true) {R : List Tk} (hR : NoMk f1 R) : termM ch (segU m (unTk m) o l ++ R) = .ok (tr1 (o, l)) R :=
  opStage stage1 (fun q hq => .inr (hl q hq)) hR
theorem stage2 : Stage m (unTk m) ["+", "-"] f1 isSum (termM ch) tr1 fun q => isTerm q.1 = true where
  wl := unTk_len m
  one := fun s hs => by
    have hm : s ∈ (["+", "-"] : List Str) := in1 hs
    exact ⟨one_all s (by simp at hm ⊢; rcases hm with h | h <;> simp [h]) m, hm⟩
  far := fun s hs => by
    have : ∀ s ∈ (["+", "-"] : List Str), ∀ w ∈ f1, decide (V.str s = V.str w) = false := by decide +kernel
    exact this s (in1 hs)
  low := fun o l hl R hR => term_ok hl hR
theorem sum_ok {o : Opd} {l : List (Str × Opd)} (hl : ∀ q ∈ l, isTerm q.1 = true ∨ isSum q.1 = true) {R : List Tk} (hR : NoMk f2 R) : sumM ch (segU m (unTk m) o l ++ R) = .ok (tr2 (o, l)) R :=
  opStage stage2 hl hR
/-! comparisons -/
theorem skip_mk {m : Int} {k z w : Str} {r : List Tk} (hk : inV (V.str k) [V.str "word", V.str "sign"] = true) : skipM w (mkT m k z :: r) = if decide (V.str z = V.str w) = true then .ok true r else .ok false (mkT m k z :: r) := by
  unfold skipM
  dsimp only
  rw [mk_mark hk]
theorem cmp_run {r : List Tk} (hr : NoMk ["not"] r) : ∀ s, isCmp s = true → comparingM (sgT m s ++ r) = .ok s r := by
  have hW : inV (V.str ("word" : Str)) [V.str "word", V.str "sign"] = true := by decide +kernel
  have hS : inV (V.str ("sign" : Str)) [V.str "word", V.str "sign"] = true := by decide +kernel
  have hn : skipM "not" r = .ok false r := skip_no hr (by simp)
  intro s hs
  have hm : s ∈ (["<", "==", "in", "notin", "is", "isnot", ">="] : List Str) := in1 hs
  have yes : ∀ {k z : Str} {zs : List Str}, inV (V.str k) [V.str "word", V.str "sign"] = true → cmpL (z :: zs) (mkT m k z :: r) = .ok z r := fun {k z zs} hk => by
    unfold cmpL
    rw [bindOk ((skip_mk hk).trans (if_pos (decide_eq_true rfl))), if_pos rfl]
    rfl
  have no : ∀ {k z w : Str} {zs : List Str} {r : List Tk}, inV (V.str k) [V.str "word", V.str "sign"] = true → decide (V.str z = V.str w) = false → cmpL (w :: zs) (mkT m k z :: r) = cmpL zs (mkT m k z :: r) := fun {k z w zs r} hk hd => by
    conv => lhs; unfold cmpL
    rw [bindOk ((skip_mk hk).trans (if_neg (by rw [hd]; exact Bool.false_ne_true))), if_neg Bool.false_ne_true]
  unfold comparingM cmps
  simp only [List.mem_cons, List.not_mem_nil, or_false] at hm
  rcases hm with rfl | rfl | rfl | rfl | rfl | rfl | rfl
  · show cmpL _ (mkT m "sign" "<" :: r) = _
    rw [no hS (by decide +kernel), no hS (by decide +kernel), yes hS]
  · show cmpL _ (mkT m "sign" "==" :: r) = _
    rw [yes hS]
  · show cmpL _ (mkT m "word" "in" :: r) = _
    rw [no hW (by decide +kernel), no hW (by decide +kernel), no hW (by decide +kernel), no hW (by decide +kernel), no hW (by decide +kernel), no hW (by decide +kernel), yes hW]
  · show cmpL _ (mkT m "word" "not" :: mkT m "word" "in" :: r) = _
    rw [no hW (by decide +kernel), no hW (by decide +kernel), no hW (by decide +kernel), no hW (by decide +kernel), no hW (by decide +kernel), no hW (by decide +kernel), no hW (by decide +kernel)]
    unfold cmpL
    rw [bindOk ((skip_mk hW).trans (if_pos (decide_eq_true rfl))), if_pos rfl]
    have : needM "in" (mkT m "word" "in" :: r) = .ok () r := by
      unfold needM
      rw [bindOk ((skip_mk hW).trans (if_pos (decide_eq_true rfl))), if_pos rfl]
      rfl
    rw [bindOk this]
    rfl
  · show cmpL _ (mkT m "word" "is" :: r) = _
    rw [no hW (by decide +kernel), no hW (by decide +kernel), no hW (by decide +kernel), no hW (by decide +kernel), no hW (by decide +kernel), no hW (by decide +kernel), no hW (by decide +kernel)]
    unfold cmpL
    rw [bindOk ((skip_mk hW).trans (if_neg (by decide +kernel))), if_neg Bool.false_ne_true, bindOk ((skip_mk hW).trans (if_pos (decide_eq_true rfl))), if_pos rfl, bindOk hn]
    rfl
  · show cmpL _ (mkT m "word" "is" :: mkT m "word" "not" :: r) = _
    rw [no hW (by decide +kernel), no hW (by decide +kernel), no hW (by decide +kernel), no hW (by decide +kernel), no hW (by decide +kernel), no hW (by decide +kernel), no hW (by decide +kernel)]
    unfold cmpL
    rw [bindOk ((skip_mk hW).trans (if_neg (by decide +kernel))), if_neg Bool.false_ne_true, bindOk ((skip_mk hW).trans (if_pos (decide_eq_true rfl))), if_pos rfl, bindOk ((skip_mk hW).trans (if_pos (decide_eq_true rfl)))]
    rfl
  · show cmpL _ (mkT m "sign" ">=" :: r) = _
    rw [no hS (by decide +kernel), no hS (by decide +kernel), no hS (by decide +kernel), no hS (by decide +kernel), no hS (by decide +kernel), yes hS]
theorem cmpEnd_sub : ∀ z ∈ cmps, z ∈ cmpEnd := by decide +kernel
theorem cmp_end {R : List Tk} (h : NoMk cmpEnd R) : comparingM R = .ok "" R := by
  have no : ∀ (zs : List Str), (∀ z ∈ zs, z ∈ cmps) → cmpL zs R = cmpL [] R := fun zs => by
    induction zs with
    | nil => intro _; rfl
    | cons z zs ih =>
      intro hz
      conv => lhs; unfold cmpL
      rw [bindOk (skip_no h (cmpEnd_sub z (hz z (by simp)))), if_neg Bool.false_ne_true]
      exact ih fun y hy => hz y (List.mem_cons_of_mem _ hy)
  unfold comparingM
  rw [no cmps fun _ h => h]
  unfold cmpL
  rw [bindOk (skip_no h (by simp [cmpEnd])), if_neg Bool.false_ne_true, bindOk (skip_no h (by simp [cmpEnd])), if_neg Bool.false_ne_true]
  rfl
theorem unTk_no {o : Opd} {l : List (Str × Opd)} {r : List Tk} : NoMk ["not"] (segU m (unTk m) o l ++ r) := by
  unfold segU unTk
  cases o.m with
  | true => exact ⟨mkT m "sign" "-", _, rfl, fun w hw => by rw [List.mem_singleton.mp hw, mk_mark (by decide +kernel)]; decide +kernel⟩
  | false => exact ⟨nmT m o.x, _, rfl, fun w _ => nm_mark _ _ _⟩
def cmpT (q : Str × SegR) : PyData := .tuple [.str q.1, tr2 q.2]
theorem isCmp_far : ∀ s, isCmp s = true → ∃ t r, sgT m s = t :: r ∧ ∀ w ∈ f2, isMark t w = false := by
  intro s hs
  have hm : s ∈ (["<", "==", "in", "notin", "is", "isnot", ">="] : List Str) := in1 hs
  have hW : inV (V.str ("word" : Str)) [V.str "word", V.str "sign"] = true := by decide +kernel
  have hS : inV (V.str ("sign" : Str)) [V.str "word", V.str "sign"] = true := by decide +kernel
  have key : ∀ z ∈ (["<", "==", "in", "not", "is", ">="] : List Str), ∀ w ∈ f2, decide (V.str z = V.str w) = false := by decide +kernel
  simp only [List.mem_cons, List.not_mem_nil, or_false] at hm
  rcases hm with rfl | rfl | rfl | rfl | rfl | rfl | rfl
  · exact ⟨mkT m "sign" "<", _, rfl, fun w hw => by rw [mk_mark hS]; exact key _ (by simp) w hw⟩
  · exact ⟨mkT m "sign" "==", _, rfl, fun w hw => by rw [mk_mark hS]; exact key _ (by simp) w hw⟩
  · exact ⟨mkT m "word" "in", _, rfl, fun w hw => by rw [mk_mark hW]; exact key _ (by simp) w hw⟩
  · exact ⟨mkT m "word" "not", _, rfl, fun w hw => by rw [mk_mark hW]; exact key _ (by simp) w hw⟩
  · exact ⟨mkT m "word" "is", _, rfl, fun w hw => by rw [mk_mark hW]; exact key _ (by simp) w hw⟩
  · exact ⟨mkT m "word" "is", _, rfl, fun w hw => by rw [mk_mark hW]; exact key _ (by simp) w hw⟩
  · exact ⟨mkT m "sign" ">=", _, rfl, fun w hw => by rw [mk_mark hS]; exact key _ (by simp) w hw⟩
def lv2 (q : Str × Opd) : Prop := isTerm q.1 = true ∨ isSum q.1 = true
theorem cmp_no2 {gs : List (Str × SegR)} (hg : ∀ q ∈ gs, isCmp q.1 = true) {R : List Tk} (hR : NoMk f2 R) : NoMk f2 (grpT m (unTk m) gs ++ R) := by
  cases gs with
  | nil => exact hR
  | cons q gs =>
    unfold grpT
    rw [List.flatMap_cons, List.append_assoc, List.append_assoc]
    obtain ⟨t, r, e, h⟩ := isCmp_far (m := m) _ (hg q (by simp))
    rw [e]
    exact ⟨t, _, rfl, h⟩
theorem cmpLoop_run {R : List Tk} (hR : NoMk f3 R) : ∀ (gs : List (Str × SegR)) (n : Nat) (ps : List PyData), gs.length < n → (∀ q ∈ gs, isCmp q.1 = true ∧ ∀ r ∈ q.2.2, lv2 r) →
    (comparingM.bind fun op => fun ts => cmpLoop (sumM ch) n ps op ts) (grpT m (unTk m) gs ++ R) = .ok (ps ++ gs.map cmpT) R
  | [], n, ps, hn, _ => by
    obtain ⟨n, rfl⟩ : ∃ k, n = k + 1 := ⟨n - 1, by simp at hn; omega⟩
    show (comparingM.bind _) R = _
    rw [bindOk (cmp_end (hR.sub fun w hw => List.mem_append_left _ hw))]
    unfold cmpLoop
    rw [if_neg (by decide +kernel), List.map_nil, List.append_nil]
    rfl
  | q :: gs, n, ps, hn, hg => by
    obtain ⟨n, rfl⟩ : ∃ k, n = k + 1 := ⟨n - 1, by simp at hn; omega⟩
    obtain ⟨hp, hl⟩ := hg q (by simp)
    have et : grpT m (unTk m) (q :: gs) ++ R = sgT m q.1 ++ (segU m (unTk m) q.2.1 q.2.2 ++ (grpT m (unTk m) gs ++ R)) := by
      unfold grpT
      rw [List.flatMap_cons]
      simp
    have hne : (!decide (V.str q.1 = V.str "")) = true := by
      have : ∀ s ∈ (["<", "==", "in", "notin", "is", "isnot", ">="] : List Str), (!decide (V.str s = V.str "")) = true := by decide +kernel
      exact this _ (in1 hp)
    rw [et, bindOk (cmp_run unTk_no _ hp)]
    unfold cmpLoop
    rw [if_pos hne, bindOk (sum_ok hl (cmp_no2 (fun r hr => (hg r (List.mem_cons_of_mem _ hr)).1) (hR.sub fun w hw => List.mem_append_right _ hw)))]
    have := cmpLoop_run hR gs n (ps ++ [cmpT q]) (by simp at hn; omega) fun r hr => hg r (List.mem_cons_of_mem _ hr)
    rw [List.append_assoc] at this
    exact this
theorem cmp_ok {o : Opd} {l : List (Str × Opd)} (hl : ∀ q ∈ l, lv2 q ∨ isCmp q.1 = true) {R : List Tk} (hR : NoMk f3 R) : comparisonM ch (segU m (unTk m) o l ++ R) = .ok (tr3 (o, l)) R := by
  obtain ⟨g1, g2, g3⟩ := grp_ops isCmp o l
  have lw : ∀ r ∈ l, isCmp r.1 = false → lv2 r := fun r hr hp => (hl r hr).resolve_right (by rw [hp]; exact Bool.false_ne_true)
  have hg : ∀ q ∈ (grp isCmp o l).2, isCmp q.1 = true ∧ ∀ r ∈ q.2.2, lv2 r := fun q hq => ⟨(g2 q hq).1, fun r hr => lw r ((g2 q hq).2.2 r hr).2 ((g2 q hq).2.2 r hr).1⟩
  rw [segU_grp m (unTk m) isCmp o l, List.append_assoc]
  unfold comparisonM
  rw [bindOk (sum_ok (fun q hq => lw q (g1 q hq).2 (g1 q hq).1) (cmp_no2 (fun q hq => (hg q hq).1) (hR.sub fun w hw => List.mem_append_right _ hw)))]
  have hlen := grpT_len m (unTk_len m) (grp isCmp o l).2
  have key : ∀ (f : List PyData → PM PyData) (ps : List PyData), (∀ n, (grp isCmp o l).2.length < n → (comparingM.bind fun op => fun ts => cmpLoop (sumM ch) n [] op ts) (grpT m (unTk m) (grp isCmp o l).2 ++ R) = .ok ps R) →
      (comparingM.bind fun op => PM.bind (fun ts => cmpLoop (sumM ch) (ts.length + 2) [] op ts) f) (grpT m (unTk m) (grp isCmp o l).2 ++ R) = f ps R := by
    intro f ps hr
    cases e : comparingM (grpT m (unTk m) (grp isCmp o l).2 ++ R) with
    | flt a b => have := hr ((grp isCmp o l).2.length + 1) (by omega); unfold PM.bind at this; rw [e] at this; cases this
    | bad => have := hr ((grp isCmp o l).2.length + 1) (by omega); unfold PM.bind at this; rw [e] at this; cases this
    | ok op r =>
      rw [bindOk e]
      have hlr : (grp isCmp o l).2.length < r.length + 2 := by
        cases hgs : (grp isCmp o l).2 with
        | nil => simp
        | cons q gs =>
          rw [hgs] at e hlen
          have hp := (hg q (by rw [hgs]; simp)).1
          have et : grpT m (unTk m) (q :: gs) ++ R = sgT m q.1 ++ (segU m (unTk m) q.2.1 q.2.2 ++ (grpT m (unTk m) gs ++ R)) := by
            unfold grpT
            rw [List.flatMap_cons]
            simp
          rw [et, cmp_run unTk_no _ hp] at e
          cases e
          have := grpT_len m (unTk_len m) gs
          simp only [List.length_append, List.length_cons]
          omega
      have := hr (r.length + 2) hlr
      rw [bindOk e] at this
      show PM.bind (fun ts => cmpLoop (sumM ch) (ts.length + 2) [] op ts) f r = _
      have this2 : cmpLoop (sumM ch) (r.length + 2) [] op r = .ok ps R := this
      unfold PM.bind
      dsimp only
      rw [this2]
  rw [key _ _ fun n hn => by have := cmpLoop_run (ch := ch) (m := m) hR (grp isCmp o l).2 n [] hn hg; rw [List.nil_append] at this; exact this]
  unfold tr3
  have em : ((grp isCmp o l).2.map cmpT).isEmpty = (grp isCmp o l).2.isEmpty := by cases (grp isCmp o l).2 <;> rfl
  rw [em]
  cases (grp isCmp o l).2.isEmpty <;> rfl
/-! not, and, or -/
def lv3 (q : Str × Opd) : Prop := (lv2 q ∨ isCmp q.1 = true) ∧ q.2.n = false
theorem segT_low {o : Opd} {l : List (Str × Opd)} (hl : ∀ q ∈ l, q.2.n = false) : segU m (opdT m) o l = (if o.n = true then [mkT m "word" "not"] else []) ++ segU m (unTk m) o l := by
  unfold segU
  have e : (l.flatMap fun q => sgT m q.1 ++ opdT m q.2) = l.flatMap fun q => sgT m q.1 ++ unTk m q.2 := by
    induction l with
    | nil => rfl
    | cons q l ih =>
      rw [List.flatMap_cons, List.flatMap_cons, ih fun r hr => hl r (List.mem_cons_of_mem _ hr)]
      unfold opdT
      rw [hl q (by simp)]
      rfl
  rw [e]
  unfold opdT unTk
  simp
theorem neg_ok {o : Opd} {l : List (Str × Opd)} (hl : ∀ q ∈ l, lv3 q) {R : List Tk} (hR : NoMk f3 R) : negationM ch (segU m (opdT m) o l ++ R) = .ok (tr4 (o, l)) R := by
  rw [segT_low fun q hq => (hl q hq).2]
  unfold negationM tr4
  have hc := cmp_ok (m := m) (ch := ch) (o := o) (l := l) (fun q hq => (hl q hq).1) hR
  cases o.n with
  | true =>
    show (skipM "not").bind _ (mkT m "word" "not" :: (segU m (unTk m) o l ++ R)) = _
    rw [bindOk ((skip_mk (by decide +kernel)).trans (if_pos (decide_eq_true rfl))), if_pos rfl, bindOk hc]
    rfl
  | false =>
    show (skipM "not").bind _ (segU m (unTk m) o l ++ R) = _
    rw [bindOk (skip_no unTk_no (by simp)), if_neg Bool.false_ne_true, hc]
    rfl
theorem stage5 : Stage m (opdT m) ["and"] f3 isAnd (negationM ch) tr4 lv3 where
  wl := opdT_len m
  one := fun s hs => by
    have hm : s ∈ (["and"] : List Str) := in1 hs
    exact ⟨one_all s (by rw [List.mem_singleton.mp hm]; simp) m, hm⟩
  far := fun s hs => by
    have : ∀ s ∈ (["and"] : List Str), ∀ w ∈ f3, decide (V.str s = V.str w) = false := by decide +kernel
    exact this s (in1 hs)
  low := fun o l hl R hR => neg_ok hl hR
theorem both_ok {o : Opd} {l : List (Str × Opd)} (hl : ∀ q ∈ l, lv3 q ∨ isAnd q.1 = true) {R : List Tk} (hR : NoMk f5 R) : bothM ch (segU m (opdT m) o l ++ R) = .ok (tr5 (o, l)) R :=
  boolStage stage5 hl hR
theorem stage6 : Stage m (opdT m) ["or"] f5 isOr (bothM ch) tr5 fun q => lv3 q ∨ isAnd q.1 = true where
  wl := opdT_len m
  one := fun s hs => by
    have hm : s ∈ (["or"] : List Str) := in1 hs
    exact ⟨one_all s (by rw [List.mem_singleton.mp hm]; simp) m, hm⟩
  far := fun s hs => by
    have : ∀ s ∈ (["or"] : List Str), ∀ w ∈ f5, decide (V.str s = V.str w) = false := by decide +kernel
    exact this s (in1 hs)
  low := fun o l hl R hR => both_ok hl hR
theorem either_ok {o : Opd} {l : List (Str × Opd)} (h : SegOk o l) {R : List Tk} (hR : NoMk f6 R) : eitherM ch (segU m (opdT m) o l ++ R) = .ok (tr6 (o, l)) R := by
  refine boolStage stage6 (fun q hq => ?_) hR
  have cl : ∀ s ∈ allOps, isTerm s = true ∨ isSum s = true ∨ isCmp s = true ∨ isAnd s = true ∨ isOr s = true := by decide +kernel
  have ex : ∀ s ∈ allOps, isTerm s = true ∨ isSum s = true ∨ isCmp s = true → isAnd s = false ∧ isOr s = false := by decide +kernel
  have hn : isTerm q.1 = true ∨ isSum q.1 = true ∨ isCmp q.1 = true → q.2.n = false := fun hx => by
    obtain ⟨h1, h2⟩ := ex _ (h.op q hq) hx
    cases e : q.2.n with
    | false => rfl
    | true => rcases h.no q hq e with h3 | h3 <;> (first | (rw [h1] at h3; cases h3) | (rw [h2] at h3; cases h3))
  rcases cl _ (h.op q hq) with c | c | c | c | c
  · exact .inl (.inl ⟨.inl (.inl c), hn (.inl c)⟩)
  · exact .inl (.inl ⟨.inl (.inr c), hn (.inr (.inl c))⟩)
  · exact .inl (.inl ⟨.inr c, hn (.inr (.inr c))⟩)
  · exact .inl (.inr c)
  · exact .inr c
end

section
--SPLIT
end
section
/-! trees within the bounds -/
inductive WT : Nat → PyData → Prop
  | mk {k n : Nat} {d : PyData} {cs : List PyData} : partsD d = some cs → (∀ c ∈ cs, WT k c) → widthD d = some n → n ≤ 200 → WT (k + 1) d
theorem WT.up {k j : Nat} {d : PyData} (h : WT k d) (hj : k ≤ j) : WT j d := by
  induction h generalizing j with
  | mk h1 _ h3 h4 ih =>
    obtain ⟨j, rfl⟩ : ∃ i, j = i + 1 := ⟨j - 1, by omega⟩
    exact .mk h1 (fun c hc => ih c hc (by omega)) h3 h4
theorem nodes_wt : ∀ (n : Nat) (st fo : List (PyData × Nat)), stSz st < n → (∀ p ∈ st, p.2 ≤ 20 ∧ WT (21 - p.2) p.1) → (∀ p ∈ fo, p.2 ≤ 20 ∧ WT (21 - p.2) p.1) → ∃ ns, nodesL n st fo = some ns ∧ ∀ p ∈ ns, p.2 ≤ 20 ∧ WT (21 - p.2) p.1
  | 0, _, _, h, _, _ => absurd h (Nat.not_lt_zero _)
  | n + 1, [], fo, _, _, h2 => ⟨fo, rfl, h2⟩
  | n + 1, (d, k) :: rest, fo, hn, h1, h2 => by
    obtain ⟨hk, hw⟩ := h1 (d, k) (by simp)
    have hk : k ≤ 20 := hk
    have hw : WT (21 - k) d := hw
    generalize e : 21 - k = j at hw
    cases hw with
    | @mk j _ _ cs hp hc hwd hle =>
      have hz := partsD_sz hp
      simp only [stSz] at hn
      have hs : stSz ((cs.map fun c => (c, k + 1)).reverse ++ rest) < n := by
        rw [stSz_app, stSz_rev, stSz_cs]
        omega
      have hk2 : cs ≠ [] → k + 1 ≤ 20 := fun hne => by
        cases cs with
        | nil => exact absurd rfl hne
        | cons c cs => have := hc c (by simp); cases this; omega
      obtain ⟨ns, e1, e2⟩ := nodes_wt n ((cs.map fun c => (c, k + 1)).reverse ++ rest) (fo ++ [(d, k)]) hs (fun p hp' => by
        rcases List.mem_append.mp hp' with hp' | hp'
        · obtain ⟨c, hc', rfl⟩ := List.mem_map.mp (List.mem_reverse.mp hp')
          have := hc c hc'
          refine ⟨hk2 (fun e => by rw [e] at hc'; cases hc'), ?_⟩
          rw [show 21 - (k + 1) = j by omega]
          exact this
        · exact h1 p (List.mem_cons_of_mem _ hp')) (fun p hp' => by
        rcases List.mem_append.mp hp' with hp' | hp'
        · exact h2 p hp'
        · rw [List.mem_singleton.mp hp']
          exact ⟨hk, by rw [show 21 - k = j + 1 from e]; exact .mk hp hc hwd hle⟩)
      refine ⟨ns, ?_, e2⟩
      conv => lhs; unfold nodesL
      rw [hp]
      exact e1
theorem firstBad_wt : ∀ {ns : List (PyData × Nat)}, (∀ p ∈ ns, p.2 ≤ 20 ∧ WT (21 - p.2) p.1) → firstBad ns = some none
  | [], _ => rfl
  | p :: ns, h => by
    obtain ⟨h1, h2⟩ := h p (by simp)
    have hb : badNode p = some none := by
      unfold badNode
      rw [if_neg (by omega)]
      generalize 21 - p.2 = j at h2
      cases h2 with
      | mk _ _ h3 h4 => rw [h3]; dsimp only; rw [if_neg (by omega)]
    unfold firstBad
    rw [hb]
    exact firstBad_wt fun q hq => h q (List.mem_cons_of_mem _ hq)
theorem bounds_wt {k : Nat} {d : PyData} (h : WT k d) (hk : k ≤ 20) (hz : szD d ≤ 1000000) : boundsD d = some none := by
  unfold boundsD
  rw [if_pos hz]
  obtain ⟨ns, e1, e2⟩ := nodes_wt (szD d + 1) [(d, 1)] [] (by simp [stSz]) (fun p hp => by rw [List.mem_singleton.mp hp]; exact ⟨(by show 1 ≤ 20; decide), h.up hk⟩) (by simp)
  rw [e1]
  exact firstBad_wt e2
theorem wt_leaf {s : Str} {x : PyData} (hp : partsD (tg1 s x) = some []) (hw : widthD (tg1 s x) = some 0) : WT 1 (tg1 s x) := .mk hp (by simp) hw (by decide)
theorem wt_name (z : Str) : WT 1 (tg1 "name" (.str z)) := wt_leaf (by
  show partsK "name" [.str z] = _
  unfold partsK
  rw [if_pos (by decide +kernel)]) (by
  show widthK "name" [.str z] = _
  unfold widthK
  rw [if_neg (by decide +kernel), if_neg (by decide +kernel), if_neg (by decide +kernel)])
theorem wt_one {s : Str} {k : Nat} {x : PyData} (hs : s = "neg" ∨ s = "not") (h : WT k x) : WT (k + 1) (tg1 s x) := by
  refine .mk (cs := [x]) (n := 0) ?_ (fun c hc => by rw [List.mem_singleton.mp hc]; exact h) ?_ (by decide)
  · show partsK s _ = _
    unfold partsK
    rcases hs with rfl | rfl <;> rw [if_neg (by decide +kernel), if_pos (by decide +kernel)]
  · show widthK s _ = _
    unfold widthK
    rcases hs with rfl | rfl <;> rw [if_neg (by decide +kernel), if_neg (by decide +kernel), if_neg (by decide +kernel)]
theorem wt_two {s : Str} {k : Nat} {x y : PyData} (hs : s = "and" ∨ s = "or") (h1 : WT k x) (h2 : WT k y) : WT (k + 1) (tg2 s x y) := by
  refine .mk (cs := [x, y]) (n := 0) ?_ (fun c hc => by simp at hc; rcases hc with rfl | rfl <;> assumption) ?_ (by decide)
  · show partsK s _ = _
    unfold partsK
    rcases hs with rfl | rfl <;> rw [if_neg (by decide +kernel), if_neg (by decide +kernel), if_pos (by decide +kernel)]
  · show widthK s _ = _
    unfold widthK
    rcases hs with rfl | rfl <;> rw [if_neg (by decide +kernel), if_neg (by decide +kernel), if_neg (by decide +kernel)]
theorem wt_bin {k : Nat} {o x y : PyData} (h1 : WT k x) (h2 : WT k y) : WT (k + 1) (tg3 "bin" o x y) := by
  refine .mk (cs := [x, y]) (n := 0) ?_ (fun c hc => by simp at hc; rcases hc with rfl | rfl <;> assumption) ?_ (by decide)
  · show partsK "bin" _ = _
    unfold partsK
    rw [if_neg (by decide +kernel), if_neg (by decide +kernel), if_neg (by decide +kernel), if_pos (by decide +kernel)]
  · show widthK "bin" _ = _
    unfold widthK
    rw [if_neg (by decide +kernel), if_neg (by decide +kernel), if_neg (by decide +kernel)]
theorem wt_choice {k : Nat} {x y z : PyData} (h1 : WT k x) (h2 : WT k y) (h3 : WT k z) : WT (k + 1) (tg3 "choice" x y z) := by
  refine .mk (cs := [x, y, z]) (n := 0) ?_ (fun c hc => by simp at hc; rcases hc with rfl | rfl | rfl <;> assumption) ?_ (by decide)
  · show partsK "choice" _ = _
    unfold partsK
    rw [if_neg (by decide +kernel), if_neg (by decide +kernel), if_pos (by decide +kernel)]
  · show widthK "choice" _ = _
    unfold widthK
    rw [if_neg (by decide +kernel), if_neg (by decide +kernel), if_neg (by decide +kernel)]
theorem seconds_map {α : Type} (f g : α → PyData) : ∀ l : List α, secondsD (l.map fun q => .tuple [f q, g q]) = some (l.map g)
  | [] => rfl
  | a :: l => by
    have := seconds_map f g l
    show (secondsD (l.map fun q => .tuple [f q, g q])).map (g a :: ·) = _
    rw [this]
    rfl
theorem wt_cmp {α : Type} {k : Nat} {x : PyData} {f g : α → PyData} {l : List α} (h1 : WT k x) (h2 : ∀ q ∈ l, WT k (g q)) (hl : l.length ≤ 200) : WT (k + 1) (tg2 "compare" x (.tuple (l.map fun q => .tuple [f q, g q]))) := by
  refine .mk (cs := x :: l.map g) (n := l.length) ?_ (fun c hc => ?_) ?_ hl
  · show partsK "compare" _ = _
    unfold partsK
    rw [if_neg (by decide +kernel), if_neg (by decide +kernel), if_neg (by decide +kernel), if_neg (by decide +kernel), if_neg (by decide +kernel), if_neg (by decide +kernel), if_pos (by decide +kernel)]
    show (secondsD (l.map fun q => .tuple [f q, g q])).map (x :: ·) = _
    rw [seconds_map]
    rfl
  · rcases List.mem_cons.mp hc with rfl | hc
    · exact h1
    · obtain ⟨q, hq, rfl⟩ := List.mem_map.mp hc
      exact h2 q hq
  · show widthK "compare" _ = _
    unfold widthK
    rw [if_neg (by decide +kernel), if_pos (by decide +kernel)]
    show some (List.map _ l).length = _
    rw [List.length_map]
end

section
/-! the trees of rows are within the bounds -/
def lenS (s : SegR) : Nat := s.2.length
theorem grp_len (p : Str → Bool) : ∀ (o : Opd) (l : List (Str × Opd)), lenS (grp p o l).1 + ((grp p o l).2.map fun q => lenS q.2 + 1).sum = l.length
  | o, [] => rfl
  | o, (s, o2) :: l => by
    have ih := grp_len p o2 l
    unfold grp
    cases c : p s with
    | true =>
      rw [if_pos rfl]
      simp only [List.map_cons, List.sum_cons, lenS, List.length_nil, List.length_cons] at ih ⊢
      omega
    | false =>
      rw [if_neg Bool.false_ne_true]
      simp only [lenS, List.length_cons] at ih ⊢
      omega
structure Bd (c A : Nat) (f : SegR → PyData) : Prop where
  wt : ∀ s, WT (lenS s + c) (f s)
  sz : ∀ s, szD (f s) ≤ A * (lenS s + 1)
theorem bd_fold {c A : Nat} {f : SegR → PyData} {mk : Str → PyData → PyData → PyData} (h : Bd c A f) (gs : List (Str × SegR)) (hm : ∀ q ∈ gs, (∀ k t u, WT k t → WT k u → WT (k + 1) (mk q.1 t u)) ∧ ∀ t u, szD (mk q.1 t u) ≤ szD t + szD u + 3) :
    ∀ (t : PyData) (k z : Nat), c ≤ k → WT k t → szD t ≤ z → WT (k + (gs.map fun q => lenS q.2 + 1).sum) (gs.foldl (fun t q => mk q.1 t (f q.2)) t) ∧ szD (gs.foldl (fun t q => mk q.1 t (f q.2)) t) ≤ z + (A + 3) * (gs.map fun q => lenS q.2 + 1).sum := by
  induction gs with
  | nil => intro t k z _ h1 h2; exact ⟨h1, h2⟩
  | cons q gs ih =>
    intro t k z hk h1 h2
    obtain ⟨m1, m2⟩ := hm q (by simp)
    have hq := h.wt q.2
    have hz := h.sz q.2
    have w1 := m1 (k + lenS q.2) _ _ (h1.up (by omega)) (hq.up (by omega))
    have z1 := m2 t (f q.2)
    obtain ⟨a, b⟩ := ih (fun r hr => hm r (List.mem_cons_of_mem _ hr)) (mk q.1 t (f q.2)) (k + lenS q.2 + 1) (z + (A + 3) * (lenS q.2 + 1)) (by omega) w1 (by
      have : A * (lenS q.2 + 1) + 3 ≤ (A + 3) * (lenS q.2 + 1) := by rw [Nat.add_mul]; omega
      omega)
    rw [List.foldl_cons, List.map_cons, List.sum_cons]
    refine ⟨a.up (by omega), Nat.le_trans b ?_⟩
    rw [Nat.mul_add (A + 3) (lenS q.2 + 1)]
    omega
theorem bd_bin {c A : Nat} {f : SegR → PyData} {p : Str → Bool} {mk : Str → PyData → PyData → PyData} (h : Bd c A f) (hm : ∀ z, p z = true → (∀ k t u, WT k t → WT k u → WT (k + 1) (mk z t u)) ∧ ∀ t u, szD (mk z t u) ≤ szD t + szD u + 3) : Bd c (A + 3) (binT p mk f) := by
  have key : ∀ s : SegR, _ := fun s => bd_fold (mk := mk) h (grp p s.1 s.2).2 (fun q hq => hm q.1 ((grp_ops p s.1 s.2).2.1 q hq).1) (f (grp p s.1 s.2).1) (lenS (grp p s.1 s.2).1 + c) (A * (lenS (grp p s.1 s.2).1 + 1)) (by omega) (h.wt _) (h.sz _)
  refine ⟨fun s => ?_, fun s => ?_⟩
  · have := (key s).1
    have e := grp_len p s.1 s.2
    exact this.up (by unfold lenS at e ⊢; omega)
  · have := (key s).2
    have e := grp_len p s.1 s.2
    refine Nat.le_trans this ?_
    have e2 : lenS s + 1 = (lenS (grp p s.1 s.2).1 + 1) + ((grp p s.1 s.2).2.map fun q => lenS q.2 + 1).sum := by unfold lenS at e ⊢; omega
    rw [e2, Nat.mul_add (A + 3)]
    have := Nat.mul_le_mul_right (lenS (grp p s.1 s.2).1 + 1) (show A ≤ A + 3 by omega)
    omega
theorem bd0 : Bd 2 5 tr0 := by
  have key : ∀ o : Opd, WT 2 (unT o) ∧ szD (unT o) ≤ 5 := fun o => by
    unfold unT
    cases o.m with
    | true => exact ⟨wt_one (.inl rfl) (wt_name _), by simp [tg1, szD, szDs]⟩
    | false => exact ⟨(wt_name _).up (by decide), by simp [tg1, szD, szDs]⟩
  exact ⟨fun s => (key s.1).1.up (by omega), fun s => Nat.le_trans (key s.1).2 (by omega)⟩
theorem bdBin {c A : Nat} {f : SegR → PyData} {p : Str → Bool} (h : Bd c A f) : Bd c (A + 3) (binT p mkBin f) :=
  bd_bin h fun z _ => ⟨fun k t u h1 h2 => wt_bin h1 h2, fun t u => by simp only [mkBin, tg3, szD, szDs]; omega⟩
theorem bd2 : Bd 2 11 tr2 := bdBin (bdBin bd0)
theorem szDs_cmp : ∀ (gs : List (Str × SegR)), szDs (gs.map cmpT) ≤ 13 * (gs.map fun q => lenS q.2 + 1).sum
  | [] => Nat.le_refl _
  | q :: gs => by
    have := szDs_cmp gs
    have h2 := bd2.sz q.2
    rw [List.map_cons, List.map_cons, List.sum_cons]
    simp only [szDs, cmpT, szD]
    rw [Nat.mul_add 13]
    omega
theorem bd3 : ∀ s : SegR, lenS s ≤ 200 → WT (lenS s + 2) (tr3 s) ∧ szD (tr3 s) ≤ 20 * (lenS s + 1) := fun s hs => by
  have e := grp_len isCmp s.1 s.2
  have h1 := bd2.wt (grp isCmp s.1 s.2).1
  have h2 := bd2.sz (grp isCmp s.1 s.2).1
  unfold tr3
  cases hgs : (grp isCmp s.1 s.2).2 with
  | nil =>
    rw [hgs] at e
    show WT _ (tr2 _) ∧ szD (tr2 _) ≤ _
    have e : lenS (grp isCmp s.1 s.2).1 = lenS s := by simpa [lenS] using e
    rw [e] at h1 h2
    exact ⟨h1, by omega⟩
  | cons q gs =>
    rw [hgs] at e
    rw [if_neg (by simp)]
    have hall : ∀ r ∈ q :: gs, lenS r.2 + 1 ≤ ((q :: gs).map fun q => lenS q.2 + 1).sum := fun r hr => by
      generalize q :: gs = zs at hr
      induction zs with
      | nil => cases hr
      | cons z zs ih =>
        rw [List.map_cons, List.sum_cons]
        rcases List.mem_cons.mp hr with rfl | hr
        · omega
        · have := ih hr; omega
    have hlen : (q :: gs).length ≤ ((q :: gs).map fun q => lenS q.2 + 1).sum := by
      generalize q :: gs = zs
      induction zs with
      | nil => exact Nat.le_refl _
      | cons z zs ih => rw [List.map_cons, List.sum_cons, List.length_cons]; omega
    have e' : lenS (grp isCmp s.1 s.2).1 + ((q :: gs).map fun q => lenS q.2 + 1).sum = lenS s := e
    have h0 : 1 ≤ ((q :: gs).map fun q => lenS q.2 + 1).sum := Nat.le_trans (by simp) hlen
    refine ⟨?_, ?_⟩
    · have := wt_cmp (k := lenS s + 1) (f := fun r : Str × SegR => .str r.1) (g := fun r : Str × SegR => tr2 r.2) (l := q :: gs) (h1.up (by omega)) (fun r hr => (bd2.wt r.2).up (by have := hall r hr; omega)) (by omega)
      exact this.up (by omega)
    · have hz := szDs_cmp (q :: gs)
      have hz' : szDs ((q :: gs).map fun q => .tuple [.str q.1, tr2 q.2]) ≤ 13 * ((q :: gs).map fun q => lenS q.2 + 1).sum := hz
      simp only [tg2, szD, szDs]
      have e3 : 20 * (lenS s + 1) = 20 * (lenS (grp isCmp s.1 s.2).1 + 1) + 20 * ((q :: gs).map fun q => lenS q.2 + 1).sum := by rw [← e']; omega
      omega
theorem bd4 : ∀ s : SegR, lenS s ≤ 200 → WT (lenS s + 3) (tr4 s) ∧ szD (tr4 s) ≤ 22 * (lenS s + 1) := fun s hs => by
  obtain ⟨h1, h2⟩ := bd3 s hs
  unfold tr4
  cases s.1.n with
  | true => exact ⟨wt_one (.inr rfl) h1, by simp only [tg1, szD, szDs, if_true]; omega⟩
  | false => exact ⟨h1.up (by omega), by simp only [Bool.false_eq_true, if_false]; omega⟩
/-- rows beyond the length are cut for the sake of the bound -/
def cutT (f : SegR → PyData) (s : SegR) : PyData := if lenS s ≤ 200 then f s else tg1 "name" (.str "")
theorem bd4' : Bd 3 22 (cutT tr4) := ⟨fun s => by
  unfold cutT
  split
  · rename_i h; exact (bd4 s h).1
  · exact (wt_name _).up (by omega), fun s => by
  unfold cutT
  split
  · rename_i h; exact (bd4 s h).2
  · simp only [tg1, szD, szDs]; omega⟩
theorem binT_cut {p : Str → Bool} {mk : Str → PyData → PyData → PyData} {f : SegR → PyData} {s : SegR} (h : lenS s ≤ 200) : binT p mk (cutT f) s = binT p mk f s := by
  have e := grp_len p s.1 s.2
  have hall : ∀ r ∈ (grp p s.1 s.2).2, lenS r.2 ≤ 200 := fun r hr => by
    have : lenS r.2 + 1 ≤ ((grp p s.1 s.2).2.map fun q => lenS q.2 + 1).sum := by
      generalize (grp p s.1 s.2).2 = zs at hr
      induction zs with
      | nil => cases hr
      | cons z zs ih =>
        rw [List.map_cons, List.sum_cons]
        rcases List.mem_cons.mp hr with rfl | hr
        · omega
        · have := ih hr; omega
    unfold lenS at *
    omega
  unfold binT
  have e0 : cutT f (grp p s.1 s.2).1 = f (grp p s.1 s.2).1 := by unfold cutT; rw [if_pos (by unfold lenS at *; omega)]
  rw [e0]
  generalize f (grp p s.1 s.2).1 = t
  generalize (grp p s.1 s.2).2 = gs at hall
  induction gs generalizing t with
  | nil => rfl
  | cons q gs ih =>
    rw [List.foldl_cons, List.foldl_cons]
    have : cutT f q.2 = f q.2 := by unfold cutT; rw [if_pos (hall q (by simp))]
    rw [this]
    exact ih _ fun r hr => hall r (List.mem_cons_of_mem _ hr)
theorem bdBool {c A : Nat} {f : SegR → PyData} {p : Str → Bool} (h : Bd c A f) (hp : ∀ z, p z = true → z = "and" ∨ z = "or") : Bd c (A + 3) (binT p mkBool f) :=
  bd_bin h fun z hz => ⟨fun k t u h1 h2 => wt_two (hp z hz) h1 h2, fun t u => by simp only [mkBool, tg2, szD, szDs]; omega⟩
theorem bd5 : Bd 3 25 (binT isAnd mkBool (cutT tr4)) := bdBool bd4' fun z hz => .inl (List.mem_singleton.mp (in1 (zs := ["and"]) hz))
theorem bd5' : ∀ s : SegR, lenS s ≤ 200 → WT (lenS s + 3) (tr5 s) ∧ szD (tr5 s) ≤ 25 * (lenS s + 1) := fun s hs => by
  have := bd5.wt s
  have h2 := bd5.sz s
  rw [binT_cut hs] at this h2
  exact ⟨this, h2⟩
theorem bd5c : Bd 3 25 (cutT tr5) := ⟨fun s => by
  unfold cutT
  split
  · rename_i h; exact (bd5' s h).1
  · exact (wt_name _).up (by omega), fun s => by
  unfold cutT
  split
  · rename_i h; exact (bd5' s h).2
  · simp only [tg1, szD, szDs]; omega⟩
theorem bd6 : ∀ s : SegR, lenS s ≤ 200 → WT (lenS s + 3) (tr6 s) ∧ szD (tr6 s) ≤ 28 * (lenS s + 1) := fun s hs => by
  have hb : Bd 3 28 (binT isOr mkBool (cutT tr5)) := bdBool bd5c fun z hz => .inr (List.mem_singleton.mp (in1 (zs := ["or"]) hz))
  have := hb.wt s
  have h2 := hb.sz s
  rw [binT_cut hs] at this h2
  exact ⟨this, h2⟩
end

section
--SPLIT
end
section
/-! the whole text's tokens, read -/
variable {m : Int} {ch : PM PyData}
abbrev segT' (m : Int) (s : SegR) : List Tk := segU m (opdT m) s.1 s.2
def exprTk (m : Int) (A : SegR) : Option (SegR × SegR) → List Tk
  | none => segT' m A
  | some (T, B) => segT' m A ++ mkT m "word" "if" :: (segT' m T ++ mkT m "word" "else" :: segT' m B)
def exprTr (A : SegR) : Option (SegR × SegR) → PyData
  | none => tr6 A
  | some (T, B) => tg3 "choice" (tr6 T) (tr6 A) (tr6 B)
structure ExOk (A : SegR) (x : Option (SegR × SegR)) : Prop where
  a : SegOk A.1 A.2
  la : lenS A ≤ 12
  t : ∀ T B, x = some (T, B) → SegOk T.1 T.2 ∧ SegOk B.1 B.2 ∧ lenS T ≤ 12 ∧ lenS B ≤ 12
theorem noMk_mk {k z : Str} {ws : List Str} {r : List Tk} (hk : inV (V.str k) [V.str "word", V.str "sign"] = true) (h : ∀ w ∈ ws, decide (V.str z = V.str w) = false) : NoMk ws (mkT m k z :: r) :=
  ⟨_, r, rfl, fun w hw => by rw [mk_mark hk]; exact h w hw⟩
theorem need_mk {k z : Str} {r : List Tk} (hk : inV (V.str k) [V.str "word", V.str "sign"] = true) : needM z (mkT m k z :: r) = .ok () r := by
  unfold needM
  rw [bindOk ((skip_mk hk).trans (if_pos (decide_eq_true rfl))), if_pos rfl]
  rfl
theorem choice_ok {A : SegR} {x : Option (SegR × SegR)} (h : ExOk A x) {R : List Tk} (hR : NoMk ("if" :: f6) R) : choiceF ch (exprTk m A x ++ R) = .ok (exprTr A x) R := by
  have hW : inV (V.str ("word" : Str)) [V.str "word", V.str "sign"] = true := by decide +kernel
  have n1 : ∀ w ∈ f6, decide (V.str ("if" : Str) = V.str w) = false := by decide +kernel
  have n2 : ∀ w ∈ f6, decide (V.str ("else" : Str) = V.str w) = false := by decide +kernel
  have hR6 : NoMk f6 R := hR.sub fun w hw => List.mem_cons_of_mem _ hw
  unfold choiceF
  cases x with
  | none =>
    show PM.bind (eitherM ch) _ (segT' m A ++ R) = _
    rw [bindOk (either_ok h.a hR6), bindOk (skip_no hR (by simp)), if_neg Bool.false_ne_true]
    rfl
  | some q =>
    obtain ⟨T, B⟩ := q
    obtain ⟨hT, hB, _, _⟩ := h.t T B rfl
    have et : exprTk m A (some (T, B)) ++ R = segT' m A ++ (mkT m "word" "if" :: (segT' m T ++ (mkT m "word" "else" :: (segT' m B ++ R)))) := by simp [exprTk]
    rw [et, bindOk (either_ok h.a (noMk_mk hW n1)), bindOk ((skip_mk hW).trans (if_pos (decide_eq_true rfl))), if_pos rfl, bindOk (either_ok hT (noMk_mk hW n2)), bindOk (need_mk hW), bindOk (either_ok hB hR6)]
    rfl
theorem expr_wt {A : SegR} {x : Option (SegR × SegR)} (h : ExOk A x) : WT 20 (exprTr A x) ∧ szD (exprTr A x) ≤ 1000000 := by
  have hl := h.la
  obtain ⟨a1, a2⟩ := bd6 A (by omega)
  cases x with
  | none => exact ⟨a1.up (by omega), by show szD (tr6 A) ≤ _; omega⟩
  | some q =>
    obtain ⟨T, B⟩ := q
    obtain ⟨_, _, h1, h2⟩ := h.t T B rfl
    obtain ⟨t1, t2⟩ := bd6 T (by omega)
    obtain ⟨b1, b2⟩ := bd6 B (by omega)
    exact ⟨(wt_choice (t1.up (show _ ≤ 15 by omega)) (a1.up (show _ ≤ 15 by omega)) (b1.up (show _ ≤ 15 by omega))).up (by decide), by simp only [exprTr, tg3, szD, szDs]; omega⟩
def nlTk (m : Int) : Tk := ⟨"newline", .str "", m⟩
def endTk (m : Int) : Tk := ⟨"end", .str "", m⟩
theorem nl_no {ws : List Str} {r : List Tk} : NoMk ws (nlTk m :: r) := ⟨_, r, rfl, fun w _ => by
  unfold isMark nlTk
  rw [show inV (V.str ("newline" : Str)) [V.str "word", V.str "sign"] = false by decide +kernel, Bool.false_and]⟩
theorem nm_no {x : List Nat} {ws : List Str} {r : List Tk} : NoMk ws (nmT m x :: r) := ⟨_, r, rfl, fun w _ => nm_mark _ _ _⟩
theorem row_ok {ch : PM PyData} {ts R : List Tk} {d : PyData} (h : ch ts = .ok d R) (hR : NoMk [","] R) : rowM ch ts = .ok d R := by
  have e : rowPartsM ch ts = .ok ([d], false) R := by
    unfold rowPartsM
    rw [bindOk h]
    show rowLoop ch (R.length + 1) [d] false R = _
    unfold rowLoop
    rw [bindOk (skip_no hR (by simp)), if_neg Bool.false_ne_true]
    rfl
  unfold rowM
  rw [bindOk e]
  rfl
theorem bounded_ok {d : PyData} {line : Int} {ts : List Tk} (h : boundsD d = some none) : boundedM d line ts = .ok d ts := by
  unfold boundedM
  rw [h]
/-- no word that begins a statement stands first -/
theorem expr_begin {A : SegR} {x : Option (SegR × SegR)} {R : List Tk} : NoMk ["yield"] (exprTk m A x ++ R) := by
  have key : ∀ r : List Tk, NoMk ["yield"] (segT' m A ++ r) := fun r => by
    unfold segT' segU opdT
    cases A.1.n with
    | true => exact noMk_mk (by decide +kernel) (by decide +kernel)
    | false =>
      cases A.1.m with
      | true => exact noMk_mk (by decide +kernel) (by decide +kernel)
      | false => exact nm_no
  cases x with
  | none => exact key R
  | some q =>
    obtain ⟨T, B⟩ := q
    show NoMk ["yield"] ((segT' m A ++ _) ++ R)
    rw [List.append_assoc]
    exact key _
def lineTs (m : Int) (a : List Nat) (A : SegR) (x : Option (SegR × SegR)) : List Tk := nmT m a :: mkT m "sign" "=" :: (exprTk m A x ++ [nlTk m, endTk m])
def setD (m : Int) (a : List Nat) (d : PyData) : PyData := tgL "set" m [tg1 "name" (.str (S a)), d]
theorem blockL_no {ch : PM PyData} {blk : Str → PM PyData} {R : List Tk} (h : ∀ ws, NoMk ws R) : ∀ ws, blockL ch blk ws R = lineM ch R
  | [] => rfl
  | z :: r => by
    conv => lhs; unfold blockL
    rw [bindOk (skip_no (h [z]) (by simp)), if_neg Bool.false_ne_true]
    exact blockL_no h r
theorem plainL_no {ch : PM PyData} {line : Int} {R : List Tk} (h : ∀ ws, NoMk ws R) : ∀ ws, plainL ch line ws R = declL ch line declWords R
  | [] => rfl
  | z :: r => by
    conv => lhs; unfold plainL
    rw [bindOk (skip_no (h [z]) (by simp)), if_neg Bool.false_ne_true]
    exact plainL_no h r
theorem declL_no {ch : PM PyData} {line : Int} {R : List Tk} (h : ∀ ws, NoMk ws R) : ∀ ws, declL ch line ws R = restStmtM ch line R
  | [] => rfl
  | z :: r => by
    conv => lhs; unfold declL
    rw [bindOk (skip_no (h [z]) (by simp)), if_neg Bool.false_ne_true]
    exact declL_no h r
theorem rest_no {ch : PM PyData} {line : Int} {R : List Tk} (h : ∀ ws, NoMk ws R) : restStmtM ch line R = rowStmtM ch line R := by
  unfold restStmtM
  rw [bindOk (skip_no (h ["return"]) (by simp)), if_neg Bool.false_ne_true, bindOk (skip_no (h ["yield"]) (by simp)), if_neg Bool.false_ne_true, bindOk (skip_no (h ["raise"]) (by simp)), if_neg Bool.false_ne_true, bindOk (skip_no (h ["del"]) (by simp)), if_neg Bool.false_ne_true]
theorem name_wt (a : List Nat) : boundsD (tg1 "name" (.str (S a))) = some none := bounds_wt (wt_name _) (by decide) (by simp [tg1, szD, szDs])
theorem stmt_ok {a : List Nat} {A : SegR} {x : Option (SegR × SegR)} (h : ExOk A x) : stmt0M (choiceN 1) (lineTs m a A x) = .ok (setD m a (exprTr A x)) [endTk m] := by
  have hS : inV (V.str ("sign" : Str)) [V.str "word", V.str "sign"] = true := by decide +kernel
  unfold stmt0M lineTs
  rw [bindOk (show peekM (nmT m a :: mkT m "sign" "=" :: (exprTk m A x ++ [nlTk m, endTk m])) = .ok (nmT m a) _ from rfl)]
  rw [blockL_no fun ws => nm_no]
  unfold lineM
  rw [bindOk (show peekM (nmT m a :: mkT m "sign" "=" :: (exprTk m A x ++ [nlTk m, endTk m])) = .ok (nmT m a) _ from rfl)]
  have e0 : choiceN 1 (nmT m a :: mkT m "sign" "=" :: (exprTk m A x ++ [nlTk m, endTk m])) = .ok (tg1 "name" (.str (S a))) (mkT m "sign" "=" :: (exprTk m A x ++ [nlTk m, endTk m])) := by
    have := choice_ok (m := m) (ch := choiceN 0) (A := (⟨false, false, a⟩, [])) (x := none) ⟨⟨by simp, by simp⟩, by simp [lenS], by simp⟩ (R := mkT m "sign" "=" :: (exprTk m A x ++ [nlTk m, endTk m])) (noMk_mk hS (by decide +kernel))
    exact this
  have e1 : lineStmtM (choiceN 1) (nmT m a).l (nmT m a :: mkT m "sign" "=" :: (exprTk m A x ++ [nlTk m, endTk m])) = .ok (setD m a (exprTr A x)) [nlTk m, endTk m] := by
    unfold lineStmtM
    rw [plainL_no fun ws => nm_no, declL_no fun ws => nm_no, rest_no fun ws => nm_no]
    unfold rowStmtM
    rw [bindOk (row_ok e0 (noMk_mk hS (by decide +kernel))), bindOk ((skip_mk hS).trans (if_pos (decide_eq_true rfl))), if_pos rfl]
    have et : isTargetD (tg1 "name" (.str (S a))) = some true := by
      unfold isTargetD
      show (if decide (V.str ("name" : Str) = V.str "tuple") = true then none else some (inV (V.str ("name" : Str)) [V.str "name", V.str "attr", V.str "item"])) = _
      rw [show decide (V.str ("name" : Str) = V.str "tuple") = false by decide +kernel, if_neg Bool.false_ne_true]
      rw [show inV (V.str ("name" : Str)) [V.str "name", V.str "attr", V.str "item"] = true by decide +kernel]
    have ec : checkTargetM (tg1 "name" (.str (S a))) (nmT m a).l (exprTk m A x ++ [nlTk m, endTk m]) = .ok (tg1 "name" (.str (S a))) (exprTk m A x ++ [nlTk m, endTk m]) := by
      unfold checkTargetM
      rw [et]
      rfl
    rw [bindOk ec]
    unfold storeM
    obtain ⟨w1, w2⟩ := expr_wt h
    rw [bindOk (bounded_ok (name_wt a)), bindOk (skip_no expr_begin (by simp)), if_neg Bool.false_ne_true]
    rw [bindOk (row_ok (ch := choiceN 1) (choice_ok (ch := choiceN 0) h nl_no) nl_no), bindOk (bounded_ok (bounds_wt w1 (Nat.le_refl _) w2))]
    rfl
  rw [bindOk e1]
  have e2 : endLineM [nlTk m, endTk m] = .ok () [endTk m] := by
    unfold endLineM
    rw [bindOk (show peekM [nlTk m, endTk m] = .ok (nlTk m) [nlTk m, endTk m] from rfl), if_pos (show decide (V.str (nlTk m).k = V.str "newline") = true from decide_eq_true rfl)]
    rfl
  rw [bindOk e2]
  rfl
theorem parse_ok {a : List Nat} {A : SegR} {x : Option (SegR × SegR)} (h : ExOk A x) : parseM (stmt0M (choiceN 1)) (lineTs m a A x) = .ok [setD m a (exprTr A x)] [endTk m] := by
  unfold parseM
  obtain ⟨n, hn⟩ : ∃ n, (lineTs m a A x).length = n + 1 := ⟨_, rfl⟩
  rw [hn]
  conv => lhs; unfold parseLoop
  rw [bindOk (show peekM (lineTs m a A x) = .ok (nmT m a) (lineTs m a A x) from rfl), if_pos (show (!decide (V.str (nmT m a).k = V.str "end")) = true by show (!decide (V.str ("name" : Str) = V.str "end")) = true; decide +kernel), bindOk (stmt_ok h)]
  conv => lhs; unfold parseLoop
  rw [bindOk (show peekM [endTk m] = .ok (endTk m) [endTk m] from rfl), if_neg (show ¬ (!decide (V.str (endTk m).k = V.str "end")) = true by show ¬ (!decide (V.str ("end" : Str) = V.str "end")) = true; decide +kernel)]
  rfl
end

section
--SPLIT
end
abbrev s_law_cut : Stmt := top 100
abbrev N_law_cut : List Str := ["tokens", "words", "parts_v", "signs", "token"]
abbrev P_law_cut : List Str := ["tokens", "words"]
theorem sc_law_cut : FnScope N_law_cut P_law_cut (defScope s_law_cut) := ⟨rfl, rfl, rfl, by decide +kernel, rfl, by decide +kernel, by decide +kernel⟩
abbrev s_law_unary : Stmt := top 101
abbrev N_law_unary : List Str := ["tokens"]
abbrev P_law_unary : List Str := ["tokens"]
theorem sc_law_unary : FnScope N_law_unary P_law_unary (defScope s_law_unary) := ⟨rfl, rfl, rfl, by decide +kernel, rfl, by decide +kernel, by decide +kernel⟩
abbrev s_law_binary : Stmt := top 102
abbrev N_law_binary : List Str := ["tokens", "words", "lower", "cut", "tree", "k", "right"]
abbrev P_law_binary : List Str := ["tokens", "words", "lower"]
theorem sc_law_binary : FnScope N_law_binary P_law_binary (defScope s_law_binary) := ⟨rfl, rfl, rfl, by decide +kernel, rfl, by decide +kernel, by decide +kernel⟩
abbrev s_law_lower : Stmt := top 103
abbrev N_law_lower : List Str := ["tokens", "stage", "cut", "pairs", "k"]
abbrev P_law_lower : List Str := ["tokens", "stage"]
theorem sc_law_lower : FnScope N_law_lower P_law_lower (defScope s_law_lower) := ⟨rfl, rfl, rfl, by decide +kernel, rfl, by decide +kernel, by decide +kernel⟩
section
variable {P : Program} {w : World} {K : PySem.W.Frag} {mg : Str → Option Value} {base : Heap}
/-! the law's own tree -/
def opdW (o : Opd) : List Str := (if o.n = true then [("not" : Str)] else []) ++ (if o.m = true then [("minus" : Str)] else []) ++ [S o.x]
def segW (s : SegR) : List Str := opdW s.1 ++ s.2.flatMap fun q => [q.1] ++ opdW q.2
def strL (ws : List Str) : List V := ws.map V.str
/-- lists of texts, each at its own place -/
structure PartsL (H : Hp) (pl : Addr) (as : List Addr) (ps : List (List Str)) : Prop where
  at_ : H pl = some (.lst (as.map V.ref))
  len : as.length = ps.length
  each : ∀ (i : Nat) (a : Addr) (p : List Str), as[i]? = some a → ps[i]? = some p → H a = some (.lst (strL p))
  nd : as.Nodup
  ne : pl ∉ as
theorem PartsL.same {H H' : Hp} {pl : Addr} {as : List Addr} {ps : List (List Str)} (h : PartsL H pl as ps) (e : Same H H') : PartsL H' pl as ps := ⟨e _ _ h.at_, h.len, fun i a p h1 h2 => e _ _ (h.each i a p h1 h2), h.nd, h.ne⟩
/-- what _law_cut hands back: the parts and the signs -/
def CutAt (H : Hp) (r : Addr) (ps : List (List Str)) (ss : List Str) : Prop := ∃ (pl sl : Addr) (as : List Addr), H r = some (.lst [.ref pl, .ref sl]) ∧ PartsL H pl as ps ∧ H sl = some (.lst (strL ss))
def cutParts (p : Str → Bool) (s : SegR) : List (List Str) := segW (grp p s.1 s.2).1 :: (grp p s.1 s.2).2.map fun q => segW q.2
def cutSigns (p : Str → Bool) (s : SegR) : List Str := (grp p s.1 s.2).2.map (·.1)
/-- cutting, a word at a time -/
def cutStep (p : Str → Bool) (st : List (List Str) × List Str × List Str) (z : Str) : List (List Str) × List Str × List Str := if p z = true then (st.1 ++ [st.2.1], [], st.2.2 ++ [z]) else (st.1, st.2.1 ++ [z], st.2.2)
theorem cut_plain {p : Str → Bool} : ∀ (zs : List Str) (ds : List (List Str)) (l ss : List Str), (∀ z ∈ zs, p z = false) → zs.foldl (cutStep p) (ds, l, ss) = (ds, l ++ zs, ss)
  | [], ds, l, ss, _ => by simp
  | z :: zs, ds, l, ss, h => by
    rw [List.foldl_cons]
    have : cutStep p (ds, l, ss) z = (ds, l ++ [z], ss) := by unfold cutStep; rw [if_neg (by rw [h z (by simp)]; exact Bool.false_ne_true)]
    rw [this, cut_plain zs ds (l ++ [z]) ss fun y hy => h y (List.mem_cons_of_mem _ hy)]
    simp
theorem cut_fold {p : Str → Bool} : ∀ (o : Opd) (l : List (Str × Opd)) (ds : List (List Str)) (a ss : List Str), (∀ z ∈ opdW o, p z = false) → (∀ q ∈ l, ∀ z ∈ opdW q.2, p z = false) →
    ∃ ds' l', (opdW o ++ l.flatMap fun q => [q.1] ++ opdW q.2).foldl (cutStep p) (ds, a, ss) = (ds', l', ss ++ cutSigns p (o, l)) ∧ ds' ++ [l'] = ds ++ (a ++ segW (grp p o l).1) :: (grp p o l).2.map fun q => segW q.2
  | o, [], ds, a, ss, ho, _ => by
    refine ⟨ds, a ++ opdW o, ?_, ?_⟩
    · rw [List.flatMap_nil, List.append_nil, cut_plain _ _ _ _ ho]
      simp [cutSigns, grp]
    · simp [grp, segW]
  | o, (s, o2) :: l, ds, a, ss, ho, hl => by
    rw [List.foldl_append, cut_plain _ _ _ _ ho, List.flatMap_cons, List.append_assoc, List.singleton_append, List.foldl_cons]
    have h2 := hl (s, o2) (by simp)
    have hl' : ∀ q ∈ l, ∀ z ∈ opdW q.2, p z = false := fun q hq => hl q (List.mem_cons_of_mem _ hq)
    cases c : p s with
    | true =>
      have : cutStep p (ds, a ++ opdW o, ss) s = (ds ++ [a ++ opdW o], [], ss ++ [s]) := by unfold cutStep; rw [if_pos c]
      rw [this]
      obtain ⟨ds', l', e1, e2⟩ := cut_fold o2 l (ds ++ [a ++ opdW o]) [] (ss ++ [s]) h2 hl'
      refine ⟨ds', l', ?_, ?_⟩
      · rw [e1]
        simp [cutSigns, grp, c]
      · rw [e2]
        simp [grp, c, segW]
    | false =>
      have : cutStep p (ds, a ++ opdW o, ss) s = (ds, a ++ opdW o ++ [s], ss) := by unfold cutStep; rw [if_neg (by rw [c]; exact Bool.false_ne_true)]
      rw [this]
      obtain ⟨ds', l', e1, e2⟩ := cut_fold o2 l ds (a ++ opdW o ++ [s]) ss h2 hl'
      refine ⟨ds', l', ?_, ?_⟩
      · rw [e1]
        simp [cutSigns, grp, c]
      · rw [e2]
        simp only [grp, c, Bool.false_eq_true, if_false, segW, List.flatMap_cons]
        simp
def spCut (K : PySem.W.Frag) : Sp := fun vs H Q _ => ∃ (a wl : Addr) (s : SegR) (W : List Str), vs = [.ref a, .ref wl] ∧ SqL K H a (strL (segW s)) ∧ SqL K H wl (strL W) ∧ (∀ z ∈ opdW s.1, inV (V.str z) (strL W) = false) ∧ (∀ q ∈ s.2, ∀ z ∈ opdW q.2, inV (V.str z) (strL W) = false) ∧ (segW s).length ≤ 1000 ∧
  ∀ r H', Same H H' → CutAt H' r (cutParts (fun z => inV (V.str z) (strL W)) s) (cutSigns (fun z => inV (V.str z) (strL W)) s) → Q (.ref r) H'
theorem strL_flat (ws : List Str) : (strL ws).all flatV = true := by
  rw [List.all_eq_true]
  intro v hv
  obtain ⟨z, _, rfl⟩ := List.mem_map.mp hv
  rfl
theorem ok_cut {f : Addr} {fd : FuncData} (F : Fun K "_law_cut" "_law_cut" s_law_cut f fd) (T : Txt K mg) : FnG P w K mg base CX0 1 f fd P_law_cut (spCut K) := by
  refine okG0 F sc_law_cut (fun vs H Q E h => ?_) fun cdv A outer s H vs Q E hr hg h => ?_
  · obtain ⟨a, wl, s, W, rfl, _⟩ := h
    rfl
  · obtain ⟨a, wl, sg, W, rfl, sa, sw, h1, h2, hl, k⟩ := h
    refine ⟨_, (pss_cons (ps_set (i := 2) sc_law_cut.nd rfl (Or.inl rfl) (pe_lst (pa_cons (pe_lst pa_nil) pa_nil)))
  (pss_cons (ps_set (i := 3) sc_law_cut.nd rfl (Or.inl rfl) (pe_lst pa_nil))
  (pss_cons (ps_for PassesOwn.never rfl (pi_list (pv 0)) (pg_name (i := 4) sc_law_cut.nd rfl (Or.inl rfl))
   (pss_one (ps_if (pt_cmpR op_in_seq (pv 4) (pv 1) (by rfl))
   (pss_cons (ps_expr (pe_bm PySem.F.plainAttrs_list PySem.F.slot_list_append PySem.F.type_list_append mt_append (pv 3) (pa_cons (pv 4) pa_nil)))
  (pss_one (ps_expr (pe_bm PySem.F.plainAttrs_list PySem.F.slot_list_append PySem.F.type_list_append mt_append (pv 2) (pa_cons (pe_lst pa_nil) pa_nil)))))
   (pss_one (ps_expr (pe_bm PySem.F.plainAttrs_list PySem.F.slot_list_append PySem.F.type_list_append mt_append (pe_ix ix_list (pv 2) (pe_un un_neg pe_int) (fun _ _ => rfl)) (pa_cons (pv 4) pa_nil)))))))
  (pss_one (ps_ret (pe_lst (pa_cons (pv 2) (pa_cons (pv 3) pa_nil)))))))), ?_⟩
    refine ⟨sz_0, fun p0 hp0 => ⟨sz_1, fun pl hpl => ⟨sz_0, fun sl hsl => ?_⟩⟩⟩
    have S1 := Same.new (o := .lst []) hp0
    have S2 := S1.trans (Same.new (o := .lst [.ref p0]) hpl)
    have S3 := S2.trans (Same.new (o := .lst []) hsl)
    have npl : p0 ≠ pl := ne_of_none upd_same hpl
    have nsl : pl ≠ sl := ne_of_none upd_same hsl
    have nsp : p0 ≠ sl := ne_of_none (by rw [upd_ne npl]; exact upd_same) hsl
    have hpl0 := same_none' S1 hpl
    have hsl0 := same_none' S2 hsl
    have PL : PartsL (upd (upd (upd H p0 (.lst [])) pl (.lst [.ref p0])) sl (.lst [])) pl [p0] [[]] := by
      refine ⟨by rw [upd_ne nsl]; exact upd_same, rfl, fun i a p ha hp => ?_, by simp, by simp [npl.symm]⟩
      cases i with
      | succ i => simp at ha
      | zero =>
        obtain rfl : p0 = a := by simpa using ha
        obtain rfl : [] = p := by simpa using hp
        rw [upd_ne nsp, upd_ne npl]
        exact upd_same
    have es := upd_same (H := upd (upd H p0 (.lst [])) pl (.lst [.ref p0])) (a := sl) (o := HO.lst [])
    generalize upd (upd (upd H p0 (.lst [])) pl (.lst [.ref p0])) sl (.lst []) = H3 at S3 PL es
    clear S1 S2 hpl hsl
    refine ⟨_, rfl, a, rfl, ⟨_, S3.seq sa⟩, ?_⟩
    refine for_list (xs := strL (segW sg)) (fun i σ H4 => ∃ (x4 : Option V) (ds : List (List Str)) (l ss : List Str) (as : List Addr), σ = [some (.ref a), some (.ref wl), some (.ref pl), some (.ref sl), x4] ∧ Same H H4 ∧ PartsL H4 pl as (ds ++ [l]) ∧ H4 sl = some (.lst (strL ss)) ∧ sl ∉ as ∧ (∀ b ∈ as, H b = none) ∧
        ds.length + l.length + ss.length ≤ 3 * i ∧ ((segW sg).take i).foldl (cutStep fun z => inV (V.str z) (strL W)) ([], [], []) = (ds, l, ss))
      ⟨none, [], [], [], [p0], rfl, S3, PL, es, by simp [nsp.symm], by simp [hp0], by simp, rfl⟩ ?_ ?_ ?_
    · rintro i σ H4 _ ⟨_, _, _, _, _, rfl, S4, _⟩
      exact S4.seq sa
    · rintro i x σ H4 hx ⟨x4, ds, l, ss, as, rfl, S4, PL, es, nas, has, hbd, hf⟩
      unfold strL at hx
      rw [List.getElem?_map] at hx
      obtain ⟨z, hz, rfl⟩ := Option.map_eq_some_iff.mp hx
      have hil : i < (segW sg).length := (List.getElem?_eq_some_iff.mp hz).1
      have hstep : ((segW sg).take (i + 1)).foldl (cutStep fun z => inV (V.str z) (strL W)) ([], [], []) = cutStep (fun z => inV (V.str z) (strL W)) (ds, l, ss) z := by
        rw [List.take_succ, hz]
        show (_ ++ [z]).foldl _ _ = _
        rw [List.foldl_append, hf]
        rfl
      refine ⟨_, rfl, _, rfl, wl, strL W, rfl, .inl (S4.seq sw), rfl, strL_flat W, _, rfl, ?_⟩
      refine ite3 (fun c => ?_) fun c => ?_
      · have hc : cutStep (fun z => inV (V.str z) (strL W)) (ds, l, ss) z = (ds ++ [l], [], ss ++ [z]) := by unfold cutStep; rw [if_pos (show inV (V.str z) (strL W) = true from c)]
        rw [hc] at hstep
        refine ⟨_, rfl, .inl ⟨rfl, _, SqL.of es⟩, _, rfl, sl, _, _, rfl, rfl, es, by unfold strL; rw [List.length_map]; exact Nat.lt_of_le_of_lt (show _ ≤ 3000 by omega) (by decide), ?_⟩
        have nslp : sl ≠ pl := nsl.symm
        have e5 : (upd H4 sl (.lst (strL ss ++ [.str z]))) pl = some (.lst (as.map V.ref)) := by rw [upd_ne nslp.symm]; exact PL.at_
        refine ⟨_, rfl, .inl ⟨rfl, _, SqL.of e5⟩, sz_0, fun b hb => ?_⟩
        have e6 := Same.new (o := .lst []) hb _ _ e5
        have las := PL.len
        rw [List.length_append] at las
        refine ⟨pl, _, _, rfl, rfl, e6, by rw [List.length_map]; exact Nat.lt_of_le_of_lt (show _ ≤ 4000 by simp at las; omega) (by decide), ?_⟩
        have hb4 : H4 b = none := by
          by_cases e : b = sl
          · subst e; rw [upd_same] at hb; cases hb
          · rw [upd_ne e] at hb; exact hb
        have hbH : H b = none := same_none' S4 hb4
        have nb1 : b ≠ pl := (ne_of_none PL.at_ hb4).symm
        have nb2 : b ≠ sl := (ne_of_none es hb4).symm
        have nba : b ∉ as := fun hm => by
          obtain ⟨j, hj⟩ := List.mem_iff_getElem?.mp hm
          have hjl : j < (ds ++ [l]).length := by rw [← PL.len]; exact (List.getElem?_eq_some_iff.mp hj).1
          have := PL.each j b _ hj (List.getElem?_eq_getElem hjl)
          rw [hb4] at this; cases this
        refine ⟨_, ds ++ [l], [], ss ++ [z], as ++ [b], rfl, fun q o hq => ?_, ?_, ?_, ?_, ?_, by simp; omega, hstep⟩
        · have n1 := ne_of_none hq hpl0
          have n2 := ne_of_none hq hsl0
          have n3 := ne_of_none hq hbH
          rw [upd_ne n1, upd_ne n3, upd_ne n2]
          exact S4 _ _ hq
        · refine ⟨by rw [upd_same, List.map_append]; rfl, by simp; simp at las; omega, fun j q p hq hp => ?_, ?_, ?_⟩
          · by_cases hj : j < as.length
            · rw [List.getElem?_append_left hj] at hq
              rw [List.getElem?_append_left (by rw [← PL.len]; exact hj)] at hp
              have hqm := List.mem_of_getElem? hq
              rw [upd_ne (fun e => PL.ne (by rw [← e]; exact hqm)), upd_ne (fun e => nba (by rw [← e]; exact hqm)), upd_ne (fun e => nas (by rw [← e]; exact hqm))]
              exact PL.each j q p hq hp
            · have hj' : j = as.length := by
                have := (List.getElem?_eq_some_iff.mp hq).1
                simp at this; omega
              subst hj'
              rw [List.getElem?_append_right (Nat.le_refl _), Nat.sub_self] at hq
              rw [PL.len, List.getElem?_append_right (Nat.le_refl _), Nat.sub_self] at hp
              obtain rfl : b = q := by simpa using hq
              obtain rfl : [] = p := by simpa using hp
              rw [upd_ne nb1]
              exact upd_same
          · exact List.nodup_append.mpr ⟨PL.nd, by simp, fun x hx y hy e => by rw [List.mem_singleton.mp hy] at e; exact nba (e ▸ hx)⟩
          · simp only [List.mem_append, List.mem_singleton, not_or]
            exact ⟨PL.ne, nb1.symm⟩
        · rw [upd_ne nslp, upd_ne nb2.symm, upd_same]
          simp [strL]
        · simp only [List.mem_append, List.mem_singleton, not_or]
          exact ⟨nas, nb2.symm⟩
        · intro q hq
          rcases List.mem_append.mp hq with hq | hq
          · exact has q hq
          · rw [List.mem_singleton.mp hq]; exact hbH
      · have hc : cutStep (fun z => inV (V.str z) (strL W)) (ds, l, ss) z = (ds, l ++ [z], ss) := by unfold cutStep; rw [if_neg (show ¬ inV (V.str z) (strL W) = true by rw [show inV (V.str z) (strL W) = false from c]; exact Bool.false_ne_true)]
        rw [hc] at hstep
        obtain ⟨as0, q, rfl⟩ : ∃ as0 q, as = as0 ++ [q] := by
          rcases List.eq_nil_or_concat as with rfl | ⟨a0, q, e⟩
          · have := PL.len; simp at this
          · exact ⟨a0, q, by rw [e, List.concat_eq_append]⟩
        have las := PL.len
        simp only [List.length_append, List.length_cons, List.length_nil] at las
        have hq : (as0 ++ [q])[as0.length]? = some q := by simp
        have hp : (ds ++ [l])[as0.length]? = some l := by rw [show as0.length = ds.length by omega]; simp
        have eq0 := PL.each _ _ _ hq hp
        have hat : atI ((as0 ++ [q]).map V.ref) (-1) = some (.ref q) := by rw [List.map_append]; exact atI_last _ _
        refine ⟨_, rfl, _, rfl, pl, _, _, _, rfl, rfl, SqL.of PL.at_, hat, .inl ⟨rfl, _, SqL.of eq0⟩, _, rfl, q, _, _, rfl, rfl, eq0, by unfold strL; rw [List.length_map]; exact Nat.lt_of_le_of_lt (show _ ≤ 3000 by omega) (by decide), ?_⟩
        have hqn := has q (by simp)
        have nqp : q ≠ pl := fun e => PL.ne (by rw [← e]; simp)
        have nqs : q ≠ sl := fun e => nas (by rw [← e]; simp)
        have hnd := PL.nd
        refine ⟨_, ds, l ++ [z], ss, as0 ++ [q], rfl, fun b o hb => by rw [upd_ne (ne_of_none hb hqn)]; exact S4 _ _ hb, ?_, by rw [upd_ne nqs.symm]; exact es, nas, has, by simp; omega, hstep⟩
        refine ⟨by rw [upd_ne nqp.symm]; exact PL.at_, by simp; omega, fun j b p hb hp => ?_, hnd, PL.ne⟩
        by_cases hj : j < as0.length
        · have hb0 := hb
          rw [List.getElem?_append_left hj] at hb
          have nbq : b ≠ q := fun e => by
            rw [List.nodup_append] at hnd
            exact hnd.2.2 b (List.mem_of_getElem? hb) q (by simp) e
          rw [upd_ne nbq]
          refine PL.each j b p hb0 ?_
          rw [List.getElem?_append_left (by omega)] at hp ⊢
          exact hp
        · have hj' : j = as0.length := by
            have := (List.getElem?_eq_some_iff.mp hb).1
            simp at this; omega
          subst hj'
          rw [hq] at hb
          cases hb
          rw [show as0.length = ds.length by omega] at hp
          obtain rfl : l ++ [z] = p := by simpa using hp
          rw [upd_same]
          simp [strL]
    · rintro σ H4 ⟨x4, ds, l, ss, as, rfl, S4, PL, es, nas, has, hbd, hf⟩
      have ell : (strL (segW sg)).length = (segW sg).length := by unfold strL; rw [List.length_map]
      rw [ell, List.take_length] at hf
      obtain ⟨ds', l', e1, e2⟩ := cut_fold (p := fun z => inV (V.str z) (strL W)) sg.1 sg.2 [] [] [] h1 h2
      have hf : (opdW sg.1 ++ sg.2.flatMap fun q => [q.1] ++ opdW q.2).foldl (cutStep fun z => inV (V.str z) (strL W)) ([], [], []) = (ds, l, ss) := hf
      rw [hf] at e1
      simp only [Prod.mk.injEq] at e1
      obtain ⟨a1, a2, a3⟩ := e1
      subst a1 a2
      rw [a3] at es
      rw [e2] at PL
      refine ⟨_, rfl, _, rfl, sz_2, fun r hr => ?_⟩
      have Sr := Same.new (o := .lst [.ref pl, .ref sl]) hr
      refine k r _ (S4.trans Sr) ⟨pl, sl, as, upd_same, ?_, by have := Sr _ _ es; simpa using this⟩
      have := PL.same Sr
      simpa [cutParts] using this
end

section
--SPLIT
end
section
variable {P : Program} {w : World} {K : PySem.W.Frag} {mg : Str → Option Value} {base : Heap}
/-- words that are no names -/
def wordsAll : List Str := ["not", "minus", "if", "else", "+", "-", "*", "//", "mod", "<", "==", "in", "notin", "is", "isnot", "and", "or", ">="]
def NmW (x : List Nat) : Prop := ∀ w ∈ wordsAll, decide (V.str w = V.str (S x)) = false
def SegN (s : SegR) : Prop := NmW s.1.x ∧ ∀ q ∈ s.2, NmW q.2.x
theorem inV_no {z : Str} {W : List Str} (h : ∀ w ∈ W, decide (V.str w = V.str z) = false) : inV (V.str z) (strL W) = false := by
  unfold inV strL
  rw [List.any_eq_false]
  intro v hv
  obtain ⟨w, hw, rfl⟩ := List.mem_map.mp hv
  have := h w hw
  have e : (decide (w = z)) = false := by
    have h2 := of_decide_eq_false this
    exact decide_eq_false fun e => h2 (by rw [e])
  show ¬ decide (w = z) = true
  rw [e]
  exact Bool.false_ne_true
theorem opdW_no {o : Opd} {W : List Str} (h : NmW o.x) (hW : ∀ w ∈ W, w ∈ wordsAll) (h1 : inV (V.str ("not" : Str)) (strL W) = false) (h2 : inV (V.str ("minus" : Str)) (strL W) = false) : ∀ z ∈ opdW o, inV (V.str z) (strL W) = false := by
  intro z hz
  unfold opdW at hz
  rw [List.mem_append, List.mem_append] at hz
  rcases hz with (hz | hz) | hz
  · cases hn : o.n with
    | true => rw [hn, if_pos rfl] at hz; rw [List.mem_singleton.mp hz]; exact h1
    | false => rw [hn, if_neg Bool.false_ne_true] at hz; cases hz
  · cases hn : o.m with
    | true => rw [hn, if_pos rfl] at hz; rw [List.mem_singleton.mp hz]; exact h2
    | false => rw [hn, if_neg Bool.false_ne_true] at hz; cases hz
  · rw [List.mem_singleton.mp hz]
    exact inV_no fun w hw => h w (hW w hw)
def trSt : Nat → SegR → PyData
  | 0 => tr0
  | 1 => tr1
  | 2 => tr2
  | 3 => tr3
  | 4 => tr4
  | 5 => tr5
  | _ => tr6
/-- the rows of a stage -/
def OkSt : Nat → SegR → Prop
  | 0, s => s.1.n = false ∧ s.2 = []
  | 1, s => s.1.n = false ∧ ∀ q ∈ s.2, isTerm q.1 = true ∧ q.2.n = false
  | 2, s => s.1.n = false ∧ ∀ q ∈ s.2, lv2 q ∧ q.2.n = false
  | 3, s => s.1.n = false ∧ ∀ q ∈ s.2, lv3 q
  | 4, s => ∀ q ∈ s.2, lv3 q
  | 5, s => ∀ q ∈ s.2, lv3 q ∨ isAnd q.1 = true
  | _, s => ∀ q ∈ s.2, lv3 q ∨ isAnd q.1 = true ∨ isOr q.1 = true
def spUnary (K : PySem.W.Frag) : Sp := fun vs H Q _ => ∃ (a : Addr) (s : SegR), vs = [.ref a] ∧ SqL K H a (strL (segW s)) ∧ OkSt 0 s ∧ SegN s ∧ ∀ v H', Same H H' → Dt K H' v (tr0 s) → Q v H'
theorem ok_unary {f : Addr} {fd : FuncData} (F : Fun K "_law_unary" "_law_unary" s_law_unary f fd) (T : Txt K mg) : FnG P w K mg base CX0 1 f fd P_law_unary (spUnary K) := by
  refine okG0 F sc_law_unary (fun vs H Q E h => ?_) fun cdv A outer s H vs Q E hr hg h => ?_
  · obtain ⟨a, s, rfl, _⟩ := h
    rfl
  · obtain ⟨a, s, rfl, sa, ⟨hn, hl⟩, hN, k⟩ := h
    refine ⟨_, (pss_cons (ps_if (pt_cmpR op_eq (pe_ix ix_list (pv 0) pe_int (fun _ _ => rfl)) pe_str (nomark _))
   (pss_one (ps_ret (pe_tup (pa_cons pe_str (pa_cons (pe_tup (pa_cons pe_str (pa_cons (pe_ix ix_list (pv 0) pe_int (fun _ _ => rfl)) pa_nil))) pa_nil)))))
   pss_nil)
  (pss_one (ps_ret (pe_tup (pa_cons pe_str (pa_cons (pe_ix ix_list (pv 0) pe_int (fun _ _ => rfl)) pa_nil)))))), ?_⟩
    obtain ⟨o, l⟩ := s
    have hl : l = [] := hl
    subst hl
    obtain ⟨n, mi, x⟩ := o
    have hn : n = false := hn
    subst hn
    unfold tr0 unT at k
    have S2 : ∀ {H1 : Hp} {u q : Addr} {v : V}, True := fun {_ _ _ _} => trivial
    cases mi with
    | true =>
      have sa : SqL K H a [V.str "minus", V.str (S x)] := by have := sa; simpa [segW, opdW, strL] using this
      refine ⟨_, rfl, a, _, _, _, rfl, rfl, sa, at0, rfl, _, rfl, iteTb (by decide +kernel) ?_⟩
      refine ⟨_, rfl, a, _, _, _, rfl, rfl, sa, at1, sz_2, fun u hu => ⟨sz_2, fun q hq => ?_⟩⟩
      exact k _ _ ((Same.new hu).trans (Same.new hq)) (Dt.made hq (.cons (.str _) (.cons (Dt.made hu (.cons (.str _) (.cons (.str _) .nil))) .nil)))
    | false =>
      have sa : SqL K H a [V.str (S x)] := by have := sa; simpa [segW, opdW, strL] using this
      have c : decide (V.str (S x) = V.str "minus") = false := by
        have := of_decide_eq_false (hN.1 "minus" (by decide +kernel))
        exact decide_eq_false fun e => this e.symm
      refine ⟨_, rfl, a, _, _, _, rfl, rfl, sa, at0, rfl, _, rfl, iteFb c ?_⟩
      exact ⟨_, rfl, a, _, _, _, rfl, rfl, sa, at0, sz_2, fun q hq => k _ _ (Same.new hq) (Dt.made hq (.cons (.str _) (.cons (.str _) .nil)))⟩
def mkG (z : Str) (t u : PyData) : PyData := if inV (V.str z) [V.str "and", V.str "or"] = true then mkBool z t u else mkBin z t u
/-- the promise of _law_lower below the stage n -/
def spLow (K : PySem.W.Frag) (n : Nat) : Sp := fun vs H Q _ => ∃ (a : Addr) (s : SegR) (st : Nat), st < n ∧ vs = [.ref a, .int (st : Int)] ∧ SqL K H a (strL (segW s)) ∧ OkSt st s ∧ SegN s ∧ (segW s).length ≤ 1000 ∧ st ≤ 6 ∧ ∀ v H', Same H H' → Dt K H' v (trSt st s) → Q v H'
def spBin (K : PySem.W.Frag) (n : Nat) : Sp := fun vs H Q _ => ∃ (a wl : Addr) (s : SegR) (W : List Str) (st : Nat), st < n ∧ st ≤ 6 ∧ vs = [.ref a, .ref wl, .int (st : Int)] ∧ SqL K H a (strL (segW s)) ∧ SqL K H wl (strL W) ∧ (∀ w ∈ W, w ∈ wordsAll) ∧ inV (V.str ("not" : Str)) (strL W) = false ∧ inV (V.str ("minus" : Str)) (strL W) = false ∧ SegN s ∧ (segW s).length ≤ 1000 ∧
  OkSt st (grp (fun z => inV (V.str z) (strL W)) s.1 s.2).1 ∧ (∀ q ∈ (grp (fun z => inV (V.str z) (strL W)) s.1 s.2).2, OkSt st q.2) ∧ ∀ v H', Same H H' → Dt K H' v (binT (fun z => inV (V.str z) (strL W)) mkG (trSt st) s) → Q v H'
theorem grp_N {p : Str → Bool} {s : SegR} (h : SegN s) : SegN (grp p s.1 s.2).1 ∧ ∀ q ∈ (grp p s.1 s.2).2, SegN q.2 := by
  obtain ⟨g1, g2, g3⟩ := grp_ops p s.1 s.2
  refine ⟨⟨by rw [g3]; exact h.1, fun q hq => h.2 q (g1 q hq).2⟩, fun q hq => ?_⟩
  obtain ⟨_, ⟨o2, h1, h2⟩, h3⟩ := g2 q hq
  exact ⟨by rw [h2]; exact h.2 _ h1, fun r hr => h.2 r (h3 r hr).2⟩
theorem grp_W {p : Str → Bool} {s : SegR} : segW s = segW (grp p s.1 s.2).1 ++ (grp p s.1 s.2).2.flatMap fun q => [q.1] ++ segW q.2 := grp_flat p opdW (fun z => [z]) s.1 s.2
theorem grp_Wlen {p : Str → Bool} {s : SegR} : (segW (grp p s.1 s.2).1).length ≤ (segW s).length ∧ (∀ q ∈ (grp p s.1 s.2).2, (segW q.2).length ≤ (segW s).length) ∧ (grp p s.1 s.2).2.length ≤ (segW s).length := by
  have e := congrArg List.length (grp_W (p := p) (s := s))
  rw [List.length_append] at e
  have key : ∀ gs : List (Str × SegR), (∀ q ∈ gs, (segW q.2).length ≤ (gs.flatMap fun q => [q.1] ++ segW q.2).length) ∧ gs.length ≤ (gs.flatMap fun q => [q.1] ++ segW q.2).length := fun gs => by
    induction gs with
    | nil => exact ⟨by simp, by simp⟩
    | cons g gs ih =>
      rw [List.flatMap_cons, List.length_append, List.length_append]
      refine ⟨fun q hq => ?_, by have := ih.2; rw [List.length_cons, List.length_singleton]; omega⟩
      rcases List.mem_cons.mp hq with rfl | hq
      · omega
      · have := ih.1 q hq; omega
  obtain ⟨k1, k2⟩ := key (grp p s.1 s.2).2
  exact ⟨by omega, fun q hq => by have := k1 q hq; omega, by omega⟩
theorem ok_binary {n : Nat} {f : Addr} {fd : FuncData} (F : Fun K "_law_binary" "_law_binary" s_law_binary f fd) (T : Txt K mg) (U_law_cut : Use P w K mg base CX0 "_law_cut" 1 P_law_cut (spCut K)) (U_law_lower : Use P w K mg base CX0 "_law_lower" (2 + 2 * n) P_law_lower (spLow K n)) : FnG P w K mg base CX0 (2 + 2 * n + 1) f fd P_law_binary (spBin K n) := by
  refine okG0 F sc_law_binary (fun vs H Q E h => ?_) fun cdv A outer s H vs Q E hr hg h => ?_
  · obtain ⟨a, wl, s, W, st, _, _, rfl, _⟩ := h
    rfl
  · obtain ⟨a, wl, sg, W, st, hst, hst6, rfl, sa, sw, hW, w1, w2, hN, hl, o1, o2, k⟩ := h
    refine ⟨_, (pss_cons (ps_set (i := 3) sc_law_binary.nd rfl (Or.inl rfl) (pe_use U_law_cut (hr.mono (by omega)) hg rfl (pa_cons (pv 0) (pa_cons (pv 1) pa_nil))))
  (pss_cons (ps_set (i := 4) sc_law_binary.nd rfl (Or.inl rfl) (pe_use U_law_lower (hr.mono (by omega)) hg rfl (pa_cons (pe_ix ix_list (pe_ix ix_list (pv 3) pe_int (fun _ _ => rfl)) pe_int (fun _ _ => rfl)) (pa_cons (pv 2) pa_nil))))
  (pss_cons (ps_for PassesOwn.never rfl (pi_range1 (by rfl) T.b_range (pa_cons (pe_callB call_len (by rfl) T.b_len PySem.boot_len (pa_cons (pe_ix ix_list (pv 3) pe_int (fun _ _ => rfl)) pa_nil)) pa_nil)) (pg_name (i := 5) sc_law_binary.nd rfl (Or.inl rfl))
   (pss_cons (ps_set (i := 6) sc_law_binary.nd rfl (Or.inl rfl) (pe_use U_law_lower (hr.mono (by omega)) hg rfl (pa_cons (pe_ix ix_list (pe_ix ix_list (pv 3) pe_int (fun _ _ => rfl)) (pe_op op_add (pv 5) pe_int) (fun _ _ => rfl)) (pa_cons (pv 2) pa_nil))))
  (pss_one (ps_if (pt_cmpR op_in_seq (pe_ix ix_list (pe_ix ix_list (pv 3) pe_int (fun _ _ => rfl)) (pv 5) (fun _ _ => rfl)) (pe_tup (pa_cons pe_str (pa_cons pe_str pa_nil))) (by rfl))
   (pss_one (ps_set (i := 4) sc_law_binary.nd rfl (Or.inl rfl) (pe_tup (pa_cons (pe_ix ix_list (pe_ix ix_list (pv 3) pe_int (fun _ _ => rfl)) (pv 5) (fun _ _ => rfl)) (pa_cons (pv 4) (pa_cons (pv 6) pa_nil))))))
   (pss_one (ps_set (i := 4) sc_law_binary.nd rfl (Or.inl rfl) (pe_tup (pa_cons pe_str (pa_cons (pe_ix ix_list (pe_ix ix_list (pv 3) pe_int (fun _ _ => rfl)) (pv 5) (fun _ _ => rfl)) (pa_cons (pv 4) (pa_cons (pv 6) pa_nil)))))))))))
  (pss_one (ps_ret (pv 4)))))), ?_⟩
    refine ⟨_, rfl, _, rfl, a, wl, sg, W, rfl, sa, sw, opdW_no hN.1 hW w1 w2, fun q hq => opdW_no (hN.2 q hq) hW w1 w2, hl, fun r H1 S1 CA => ?_⟩
    obtain ⟨pl, sl, as, er, PL, es⟩ := CA
    obtain ⟨n1, n2⟩ := grp_N (p := fun z => inV (V.str z) (strL W)) hN
    obtain ⟨l1, l2, l3⟩ := grp_Wlen (p := fun z => inV (V.str z) (strL W)) (s := sg)
    unfold binT at k
    unfold cutParts cutSigns at *
    generalize grp (fun z => inV (V.str z) (strL W)) sg.1 sg.2 = G at *
    obtain ⟨g0, gs⟩ := G
    dsimp only at k o1 o2 n1 n2 l1 l2 l3 PL es
    obtain ⟨p0, as, rfl⟩ : ∃ p0 as', as = p0 :: as' := by
      cases as with
      | nil => have := PL.len; simp at this
      | cons p0 as' => exact ⟨p0, as', rfl⟩
    have e0 := PL.each 0 p0 (segW g0) rfl rfl
    have hpl0 : ∀ {H2 : Hp}, Same H1 H2 → PartsL H2 pl (p0 :: as) (segW g0 :: gs.map fun q => segW q.2) := fun S => PL.same S
    refine ⟨_, rfl, r, _, _, _, rfl, rfl, SqL.of er, at0, pl, _, _, _, rfl, rfl, SqL.of PL.at_, at0, _, rfl, p0, g0, st, hst, rfl, SqL.of e0, o1, n1, by omega, hst6, fun v2 H2 S2 d2 => ?_⟩
    have S12 := S1.trans S2
    refine ⟨_, rfl, r, _, _, _, rfl, rfl, SqL.of (S2 _ _ er), at1, _, _, rfl, .inl ⟨_, SqL.of (S2 _ _ es), rfl⟩, ?_⟩
    have lgs : (strL (gs.map (·.1))).length = gs.length := by simp [strL]
    have lgs2 : gs.length ≤ 1000 := Nat.le_trans l3 hl
    refine ⟨_, rfl, by omega, by rw [lgs]; omega, ?_⟩
    rw [lgs, Int.toNat_natCast]
    refine for_range (lo := 0) (n := gs.length) (fun i σ H3 => ∃ (v : V) (x5 x6 : Option V), σ = [some (.ref a), some (.ref wl), some (.int (st : Int)), some (.ref r), some v, x5, x6] ∧ Same H1 H3 ∧ Dt K H3 v ((gs.take i).foldl (fun t q => mkG q.1 t (trSt st q.2)) (trSt st g0))) ⟨v2, none, none, rfl, S2, d2⟩ ?_ ?_
    · rintro i σ H3 hi ⟨v, x5, x6, rfl, S3, dv⟩
      rw [Int.zero_add]
      have hq : gs[i]? = some gs[i] := List.getElem?_eq_getElem hi
      generalize gs[i] = q at hq
      have hqm := List.mem_of_getElem? hq
      have PL3 := hpl0 S3
      obtain ⟨pi, hpi⟩ : ∃ pi, (p0 :: as)[i + 1]? = some pi := by
        have hlen := PL.len
        simp only [List.length_cons, List.length_map] at hlen
        exact ⟨_, List.getElem?_eq_getElem (by simp; omega)⟩
      have epi := PL3.each (i + 1) pi (segW q.2) hpi (by rw [List.getElem?_cons_succ, List.getElem?_map, hq]; rfl)
      have hat : atI ((p0 :: as).map V.ref) ((i : Int) + 1) = some (.ref pi) := by
        have : ((i : Int) + 1) = ((i + 1 : Nat) : Int) := by omega
        rw [this]
        exact atI_nat (by rw [List.getElem?_map, hpi]; rfl)
      have hsg : atI (strL (gs.map (·.1))) ((i : Nat) : Int) = some (.str q.1) := atI_nat (by unfold strL; rw [List.getElem?_map, List.getElem?_map, hq]; rfl)
      refine ⟨_, rfl, r, _, _, _, rfl, rfl, SqL.of (S3 _ _ er), at0, _, rfl, _, _, rfl, rfl, pl, _, _, _, rfl, rfl, SqL.of PL3.at_, hat, _, rfl, pi, q.2, st, hst, rfl, SqL.of epi, o2 q hqm, n2 q hqm, by have := l2 q hqm; omega, hst6, fun v4 H4 S4 d4 => ?_⟩
      have S34 := S3.trans S4
      have dv4 := dv.mono S4
      have hstep : (gs.take (i + 1)).foldl (fun t q => mkG q.1 t (trSt st q.2)) (trSt st g0) = mkG q.1 ((gs.take i).foldl (fun t q => mkG q.1 t (trSt st q.2)) (trSt st g0)) (trSt st q.2) := by
        rw [List.take_succ, hq]
        show (_ ++ [q]).foldl _ _ = _
        rw [List.foldl_append]
        rfl
      refine ⟨_, rfl, r, _, _, _, rfl, rfl, SqL.of (S34 _ _ er), at1, _, rfl, sl, _, _, _, rfl, rfl, SqL.of (S34 _ _ es), hsg, sz_2, fun t ht => ⟨t, _, rfl, .inr (SqT.of upd_same), rfl, rfl, _, rfl, ?_⟩⟩
      have S5 := S34.trans (Same.new (o := .tup [V.str "and", V.str "or"]) ht)
      have d45 := d4.mono (Same.new (o := .tup [V.str "and", V.str "or"]) ht)
      have dv5 := dv4.mono (Same.new (o := .tup [V.str "and", V.str "or"]) ht)
      generalize upd H4 t (.tup [V.str "and", V.str "or"]) = H5 at S5 d45 dv5 ⊢
      refine ite3 (fun c => ?_) fun c => ?_
      · have hG : ∀ t u, mkG q.1 t u = mkBool q.1 t u := fun t u => by unfold mkG; rw [if_pos (show inV (V.str q.1) [V.str "and", V.str "or"] = true from c)]
        refine ⟨_, rfl, r, _, _, _, rfl, rfl, SqL.of (S5 _ _ er), at1, _, rfl, sl, _, _, _, rfl, rfl, SqL.of (S5 _ _ es), hsg, _, rfl, _, rfl, sz_3, fun u hu => ?_⟩
        exact ⟨_, _, _, rfl, S5.trans (Same.new hu), by rw [hstep, hG]; exact Dt.made hu (.cons (.str _) (.cons dv5 (.cons d45 .nil)))⟩
      · have hG : ∀ t u, mkG q.1 t u = mkBin q.1 t u := fun t u => by unfold mkG; rw [if_neg (show ¬ inV (V.str q.1) [V.str "and", V.str "or"] = true by rw [show inV (V.str q.1) [V.str "and", V.str "or"] = false from c]; exact Bool.false_ne_true)]
        refine ⟨_, rfl, r, _, _, _, rfl, rfl, SqL.of (S5 _ _ er), at1, _, rfl, sl, _, _, _, rfl, rfl, SqL.of (S5 _ _ es), hsg, _, rfl, _, rfl, sz_4, fun u hu => ?_⟩
        exact ⟨_, _, _, rfl, S5.trans (Same.new hu), by rw [hstep, hG]; exact Dt.made hu (.cons (.str _) (.cons (.str _) (.cons dv5 (.cons d45 .nil))))⟩
    · rintro σ H3 ⟨v, x5, x6, rfl, S3, dv⟩
      rw [List.take_length] at dv
      exact ⟨_, rfl, k _ _ (S1.trans S3) dv⟩
end

section
--SPLIT
end
section
variable {P : Program} {w : World} {K : PySem.W.Frag} {mg : Str → Option Value} {base : Heap}
theorem binT_mk {p : Str → Bool} {mk mk' : Str → PyData → PyData → PyData} {f : SegR → PyData} {s : SegR} (h : ∀ z, p z = true → ∀ t u, mk z t u = mk' z t u) : binT p mk f s = binT p mk' f s := by
  unfold binT
  have hg := fun q hq => ((grp_ops p s.1 s.2).2.1 q hq).1
  generalize f (grp p s.1 s.2).1 = t
  generalize (grp p s.1 s.2).2 = gs at hg
  induction gs generalizing t with
  | nil => rfl
  | cons q gs ih =>
    rw [List.foldl_cons, List.foldl_cons, h q.1 (hg q (by simp))]
    exact ih _ fun r hr => hg r (List.mem_cons_of_mem _ hr)
/-- what a stage asks of its groups, from what it asks of the row -/
theorem grp_st {p : Str → Bool} {s : SegR} {A : SegR → Prop} (h : ∀ (o : Opd) (l : List (Str × Opd)), (o = s.1 ∨ ∃ z, (z, o) ∈ s.2 ∧ p z = true) → (∀ q ∈ l, p q.1 = false ∧ q ∈ s.2) → A (o, l)) : A (grp p s.1 s.2).1 ∧ ∀ q ∈ (grp p s.1 s.2).2, A q.2 := by
  obtain ⟨g1, g2, g3⟩ := grp_ops p s.1 s.2
  refine ⟨h _ _ (.inl g3) g1, fun q hq => ?_⟩
  obtain ⟨a, ⟨o2, h1, h2⟩, h3⟩ := g2 q hq
  exact h _ _ (.inr ⟨q.1, by rw [h2]; exact h1, a⟩) h3
def er (s : SegR) : SegR := ({ s.1 with n := false }, s.2)
theorem grp_er (p : Str → Bool) : ∀ (o : Opd) (l : List (Str × Opd)), grp p { o with n := false } l = (er (grp p o l).1, (grp p o l).2)
  | o, [] => rfl
  | o, (s, o2) :: l => by
    unfold grp
    cases p s <;> rfl
theorem binT_er {p : Str → Bool} {mk : Str → PyData → PyData → PyData} {f : SegR → PyData} (h : ∀ s, f (er s) = f s) (s : SegR) : binT p mk f (er s) = binT p mk f s := by
  unfold binT
  show ((grp p { s.1 with n := false } s.2).2.foldl _ (f (grp p { s.1 with n := false } s.2).1)) = _
  rw [grp_er]
  show ((grp p s.1 s.2).2.foldl _ (f (er (grp p s.1 s.2).1))) = _
  rw [h]
theorem tr2_er (s : SegR) : tr2 (er s) = tr2 s := binT_er (fun s => binT_er (fun _ => rfl) s) s
theorem tr3_er (s : SegR) : tr3 (er s) = tr3 s := by
  have e : grp isCmp (er s).1 (er s).2 = (er (grp isCmp s.1 s.2).1, (grp isCmp s.1 s.2).2) := grp_er isCmp s.1 s.2
  unfold tr3
  rw [e]
  dsimp only
  rw [tr2_er]
theorem grp_nil {p : Str → Bool} : ∀ {o : Opd} {l : List (Str × Opd)}, (grp p o l).2 = [] → (grp p o l).1 = (o, l)
  | o, [], _ => rfl
  | o, (s, o2) :: l, h => by
    unfold grp at h ⊢
    cases c : p s with
    | true => rw [c, if_pos rfl] at h; cases h
    | false =>
      rw [c, if_neg Bool.false_ne_true] at h
      rw [if_neg Bool.false_ne_true, grp_nil h]
theorem segW_er {s : SegR} (h : s.1.n = true) : (segW s).drop 1 = segW (er s) := by
  obtain ⟨⟨n, m, x⟩, l⟩ := s
  have h : n = true := h
  subst h
  rfl
theorem segW_not {s : SegR} (hN : SegN s) : ∃ z zs, segW s = z :: zs ∧ decide (V.str z = V.str "not") = s.1.n := by
  obtain ⟨⟨n, m, x⟩, l⟩ := s
  cases n with
  | true => exact ⟨"not", _, rfl, (by show decide (V.str ("not" : Str) = V.str "not") = true; decide +kernel)⟩
  | false =>
    cases m with
    | true => exact ⟨"minus", _, rfl, (by show decide (V.str ("minus" : Str) = V.str "not") = false; decide +kernel)⟩
    | false =>
      refine ⟨S x, _, rfl, ?_⟩
      have := of_decide_eq_false (hN.1 "not" (by decide +kernel))
      exact decide_eq_false fun e => this e.symm
theorem cutV_drop {xs : List V} (n : Nat) : cutV xs (some (n : Int)) none = xs.drop n := by
  unfold cutV
  rw [HT.sIx_nat]
  show (xs.drop (min n xs.length)).take (xs.length - min n xs.length) = _
  rw [← List.length_drop, List.take_length]
  rcases Nat.le_total n xs.length with h | h
  · rw [Nat.min_eq_left h]
  · rw [Nat.min_eq_right h, List.drop_length, List.drop_of_length_le h]
theorem sz_7 : (7 : Nat) ≤ sizeLine := by decide
theorem ok_lower {n : Nat} {f : Addr} {fd : FuncData} (F : Fun K "_law_lower" "_law_lower" s_law_lower f fd) (T : Txt K mg) (U_law_unary : Use P w K mg base CX0 "_law_unary" 1 P_law_unary (spUnary K)) (U_law_cut : Use P w K mg base CX0 "_law_cut" 1 P_law_cut (spCut K)) (U_law_binary : Use P w K mg base CX0 "_law_binary" (2 + 2 * n + 1) P_law_binary (spBin K n)) (U_law_lower : Use P w K mg base CX0 "_law_lower" (2 + 2 * n) P_law_lower (spLow K n)) :
    FnG P w K mg base CX0 (2 + 2 * (n + 1)) f fd P_law_lower (spLow K (n + 1)) := by
  refine okG0 F sc_law_lower (fun vs H Q E h => ?_) fun cdv A outer s H vs Q E hr hg h => ?_
  · obtain ⟨a, s, st, _, rfl, _⟩ := h
    rfl
  · obtain ⟨a, sg, st, hst, rfl, sa, ok, hN, hl, hst6, k⟩ := h
    replace hr : Room (2 + 2 * n + 1) _ := hr
    refine ⟨_, (pss_cons (ps_if (pt_cmpR op_eq (pv 1) pe_int (nomark _))
   (pss_one (ps_ret (pe_use U_law_unary (hr.mono (by omega)) hg rfl (pa_cons (pv 0) pa_nil))))
   pss_nil)
  (pss_cons (ps_if (pt_cmpR op_eq (pv 1) pe_int (nomark _))
   (pss_one (ps_ret (pe_use U_law_binary (hr.mono (by omega)) hg rfl (pa_cons (pv 0) (pa_cons (pe_lst (pa_cons pe_str (pa_cons pe_str (pa_cons pe_str pa_nil)))) (pa_cons pe_int pa_nil))))))
   pss_nil)
  (pss_cons (ps_if (pt_cmpR op_eq (pv 1) pe_int (nomark _))
   (pss_one (ps_ret (pe_use U_law_binary (hr.mono (by omega)) hg rfl (pa_cons (pv 0) (pa_cons (pe_lst (pa_cons pe_str (pa_cons pe_str pa_nil))) (pa_cons pe_int pa_nil))))))
   pss_nil)
  (pss_cons (ps_if (pt_cmpR op_eq (pv 1) pe_int (nomark _))
   (pss_cons (ps_set (i := 2) sc_law_lower.nd rfl (Or.inl rfl) (pe_use U_law_cut (hr.mono (by omega)) hg rfl (pa_cons (pv 0) (pa_cons (pe_lst (pa_cons pe_str (pa_cons pe_str (pa_cons pe_str (pa_cons pe_str (pa_cons pe_str (pa_cons pe_str (pa_cons pe_str pa_nil)))))))) pa_nil))))
  (pss_cons (ps_if (pt_cmpR op_eq (pe_callB call_len (by rfl) T.b_len PySem.boot_len (pa_cons (pe_ix ix_list (pv 2) pe_int (fun _ _ => rfl)) pa_nil)) pe_int (nomark _))
   (pss_one (ps_ret (pe_use U_law_lower (hr.mono (by omega)) hg rfl (pa_cons (pv 0) (pa_cons pe_int pa_nil)))))
   pss_nil)
  (pss_cons (ps_set (i := 3) sc_law_lower.nd rfl (Or.inl rfl) (pe_lst pa_nil))
  (pss_cons (ps_for PassesOwn.never rfl (pi_range1 (by rfl) T.b_range (pa_cons (pe_callB call_len (by rfl) T.b_len PySem.boot_len (pa_cons (pe_ix ix_list (pv 2) pe_int (fun _ _ => rfl)) pa_nil)) pa_nil)) (pg_name (i := 4) sc_law_lower.nd rfl (Or.inl rfl))
   (pss_one (ps_expr (pe_bm PySem.F.plainAttrs_list PySem.F.slot_list_append PySem.F.type_list_append mt_append (pv 3) (pa_cons (pe_tup (pa_cons (pe_ix ix_list (pe_ix ix_list (pv 2) pe_int (fun _ _ => rfl)) (pv 4) (fun _ _ => rfl)) (pa_cons (pe_use U_law_lower (hr.mono (by omega)) hg rfl (pa_cons (pe_ix ix_list (pe_ix ix_list (pv 2) pe_int (fun _ _ => rfl)) (pe_op op_add (pv 4) pe_int) (fun _ _ => rfl)) (pa_cons pe_int pa_nil))) pa_nil))) pa_nil)))))
  (pss_one (ps_ret (pe_tup (pa_cons pe_str (pa_cons (pe_use U_law_lower (hr.mono (by omega)) hg rfl (pa_cons (pe_ix ix_list (pe_ix ix_list (pv 2) pe_int (fun _ _ => rfl)) pe_int (fun _ _ => rfl)) (pa_cons pe_int pa_nil))) (pa_cons (pe_callTy call_tuple_of (by rfl) T.b_tuple (by decide +kernel) (pa_cons (pv 3) pa_nil)) pa_nil))))))))))
   pss_nil)
  (pss_cons (ps_if (pt_cmpR op_eq (pv 1) pe_int (nomark _))
   (pss_cons (ps_if (pt_cmpR op_eq (pe_ix ix_list (pv 0) pe_int (fun _ _ => rfl)) pe_str (nomark _))
   (pss_one (ps_ret (pe_tup (pa_cons pe_str (pa_cons (pe_use U_law_lower (hr.mono (by omega)) hg rfl (pa_cons (pe_slice sl_list (pv 0) (po_some pe_int) po_none) (pa_cons pe_int pa_nil))) pa_nil)))))
   pss_nil)
  (pss_one (ps_ret (pe_use U_law_lower (hr.mono (by omega)) hg rfl (pa_cons (pv 0) (pa_cons pe_int pa_nil))))))
   pss_nil)
  (pss_cons (ps_if (pt_cmpR op_eq (pv 1) pe_int (nomark _))
   (pss_one (ps_ret (pe_use U_law_binary (hr.mono (by omega)) hg rfl (pa_cons (pv 0) (pa_cons (pe_lst (pa_cons pe_str pa_nil)) (pa_cons pe_int pa_nil))))))
   pss_nil)
  (pss_one (ps_ret (pe_use U_law_binary (hr.mono (by omega)) hg rfl (pa_cons (pv 0) (pa_cons (pe_lst (pa_cons pe_str pa_nil)) (pa_cons pe_int pa_nil)))))))))))), ?_⟩
    have tst : ∀ j : Nat, decide (V.int (st : Int) = V.int (j : Int)) = decide (st = j) := fun j => by
      by_cases c : st = j
      · subst c; rw [decide_eq_true rfl, decide_eq_true rfl]
      · rw [decide_eq_false c, decide_eq_false]
        intro e
        have := V.int.inj e
        omega
    have bin : ∀ {H1 : Hp} {wl : Addr} {W : List Str} {j : Nat} {Q' : VK}, Same H H1 → j < n → j ≤ 6 → H1 wl = some (.lst (strL W)) → (∀ w ∈ W, w ∈ wordsAll) → inV (V.str ("not" : Str)) (strL W) = false → inV (V.str ("minus" : Str)) (strL W) = false →
        (OkSt j (grp (fun z => inV (V.str z) (strL W)) sg.1 sg.2).1 ∧ ∀ q ∈ (grp (fun z => inV (V.str z) (strL W)) sg.1 sg.2).2, OkSt j q.2) → binT (fun z => inV (V.str z) (strL W)) mkG (trSt j) sg = trSt st sg → (∀ v H', Same H H' → Dt K H' v (trSt st sg) → Q' v H') → spBin K n [.ref a, .ref wl, .int (j : Int)] H1 Q' E0 :=
      fun {H1 wl W j Q'} S1 hj hj6 ew hW w1 w2 o12 e k' => ⟨a, wl, sg, W, j, hj, hj6, rfl, S1.seq sa, SqL.of ew, hW, w1, w2, hN, hl, o12.1, o12.2, fun v H' S d => k' v H' (S1.trans S) (by rw [← e]; exact d)⟩
    have wsub : ∀ z ∈ (["*", "//", "mod", "+", "-", "<", "==", "in", "notin", "is", "isnot", ">=", "and", "or"] : List Str), z ∈ wordsAll := by decide +kernel
    refine ⟨_, rfl, rfl, _, rfl, ?_⟩
    rw [show decide (V.int (st : Int) = V.int 0) = decide (st = 0) from tst 0]
    refine ite3 (fun c => ?_) fun c => ?_
    · obtain rfl := of_decide_eq_true c
      exact ⟨_, rfl, a, sg, rfl, sa, ok, hN, k⟩
    refine ⟨_, rfl, rfl, _, rfl, ?_⟩
    rw [show decide (V.int (st : Int) = V.int 1) = decide (st = 1) from tst 1]
    refine ite3 (fun c => ?_) fun c => ?_
    · obtain rfl := of_decide_eq_true c
      refine ⟨_, rfl, sz_3, fun wl hwl => bin (W := ["*", "//", "mod"]) (j := 0) (Same.new hwl) (by omega) (by omega) upd_same (by decide +kernel) (by decide +kernel) (by decide +kernel) ?_ ?_ k⟩
      · refine grp_st (A := OkSt 0) fun o l ho hl => ?_
        obtain ⟨h1, h2⟩ := ok
        refine ⟨?_, ?_⟩
        · rcases ho with rfl | ⟨z, hz, _⟩
          · exact h1
          · exact (h2 _ hz).2
        · cases l with
          | nil => rfl
          | cons q l =>
            obtain ⟨a1, a2⟩ := hl q (by simp)
            have a3 : isTerm q.1 = false := a1
            rw [(h2 q a2).1] at a3
            cases a3
      · exact binT_mk fun z hz t u => by
          have : ∀ z ∈ (["*", "//", "mod"] : List Str), inV (V.str z) [V.str "and", V.str "or"] = false := by decide +kernel
          unfold mkG
          rw [this z (in1 hz), if_neg Bool.false_ne_true]
    refine ⟨_, rfl, rfl, _, rfl, ?_⟩
    rw [show decide (V.int (st : Int) = V.int 2) = decide (st = 2) from tst 2]
    refine ite3 (fun c => ?_) fun c => ?_
    · obtain rfl := of_decide_eq_true c
      refine ⟨_, rfl, sz_2, fun wl hwl => bin (W := ["+", "-"]) (j := 1) (Same.new hwl) (by omega) (by omega) upd_same (by decide +kernel) (by decide +kernel) (by decide +kernel) ?_ ?_ k⟩
      · refine grp_st (A := OkSt 1) fun o l ho hl => ?_
        obtain ⟨h1, h2⟩ := ok
        refine ⟨?_, fun q hq => ?_⟩
        · rcases ho with rfl | ⟨z, hz, _⟩
          · exact h1
          · exact (h2 _ hz).2
        · obtain ⟨a1, a2⟩ := hl q hq
          have a1 : isSum q.1 = false := a1
          refine ⟨(h2 q a2).1.resolve_right (by rw [a1]; exact Bool.false_ne_true), (h2 q a2).2⟩
      · exact binT_mk fun z hz t u => by
          have : ∀ z ∈ (["+", "-"] : List Str), inV (V.str z) [V.str "and", V.str "or"] = false := by decide +kernel
          unfold mkG
          rw [this z (in1 hz), if_neg Bool.false_ne_true]
    refine ⟨_, rfl, rfl, _, rfl, ?_⟩
    rw [show decide (V.int (st : Int) = V.int 3) = decide (st = 3) from tst 3]
    refine ite3 (fun c => ?_) fun c => ?_
    · obtain rfl := of_decide_eq_true c
      obtain ⟨h1, h2⟩ := ok
      have k : ∀ v H', Same H H' → Dt K H' v (tr3 sg) → Q v H' := k
      have o12 : OkSt 2 (grp isCmp sg.1 sg.2).1 ∧ ∀ q ∈ (grp isCmp sg.1 sg.2).2, OkSt 2 q.2 := grp_st (A := OkSt 2) fun o l ho hl => ⟨by
        rcases ho with rfl | ⟨z, hz, _⟩
        · exact h1
        · exact (h2 _ hz).2, fun q hq => by
        obtain ⟨a1, a2⟩ := hl q hq
        exact ⟨(h2 q a2).1.resolve_right (by rw [a1]; exact Bool.false_ne_true), (h2 q a2).2⟩⟩
      obtain ⟨n1, n2⟩ := grp_N (p := isCmp) hN
      obtain ⟨l1, l2, l3⟩ := grp_Wlen (p := isCmp) (s := sg)
      have gn := @grp_nil isCmp sg.1 sg.2
      unfold tr3 at k
      refine ⟨_, rfl, sz_7, fun wl hwl => ?_⟩
      have Sw := Same.new (o := .lst (strL ["<", "==", "in", "notin", "is", "isnot", ">="])) hwl
      have ew := upd_same (H := H) (a := wl) (o := HO.lst (strL ["<", "==", "in", "notin", "is", "isnot", ">="]))
      have hW : ∀ w ∈ (["<", "==", "in", "notin", "is", "isnot", ">="] : List Str), w ∈ wordsAll := by decide +kernel
      have w1 : inV (V.str ("not" : Str)) (strL ["<", "==", "in", "notin", "is", "isnot", ">="]) = false := by decide +kernel
      have w2 : inV (V.str ("minus" : Str)) (strL ["<", "==", "in", "notin", "is", "isnot", ">="]) = false := by decide +kernel
      refine ⟨a, wl, sg, ["<", "==", "in", "notin", "is", "isnot", ">="], rfl, Sw.seq sa, SqL.of ew, opdW_no hN.1 hW w1 w2, fun q hq => opdW_no (hN.2 q hq) hW w1 w2, hl, fun r H1 S1' CA => ?_⟩
      have S1 := Sw.trans S1'
      clear Sw ew hwl S1'
      have CA : CutAt H1 r (cutParts isCmp sg) (cutSigns isCmp sg) := CA
      obtain ⟨pl, sl, as, er', PL, es⟩ := CA
      unfold cutParts at PL
      unfold cutSigns at es
      generalize grp isCmp sg.1 sg.2 = G at *
      obtain ⟨g0, gs⟩ := G
      dsimp only at k o12 n1 n2 l1 l2 l3 PL es gn
      obtain ⟨p0, as, rfl⟩ : ∃ p0 as', as = p0 :: as' := by
        cases as with
        | nil => have := PL.len; simp at this
        | cons p0 as' => exact ⟨p0, as', rfl⟩
      have e0 := PL.each 0 p0 (segW g0) rfl rfl
      have lgs : (strL (gs.map (·.1))).length = gs.length := by simp [strL]
      have lgs2 : gs.length ≤ 1000 := Nat.le_trans l3 hl
      refine ⟨_, rfl, r, _, _, _, rfl, rfl, SqL.of er', at1, _, _, rfl, .inl ⟨_, SqL.of es, rfl⟩, rfl, _, rfl, ?_⟩
      rw [lgs]
      cases gs with
      | nil =>
        refine iteTb (by decide) ?_
        have gn := gn rfl
        subst gn
        exact ⟨_, rfl, a, sg, 2, by omega, rfl, S1.seq sa, o12.1, hN, hl, by decide, fun v2 H2 S2 d2 => k v2 H2 (S1.trans S2) d2⟩
      | cons g1 gs =>
        refine iteFb (decide_eq_false fun e => by have := V.int.inj e; simp at this; omega) ?_
        generalize hgs : g1 :: gs = G at *
        have hne : G.isEmpty = false := by rw [← hgs]; rfl
        rw [hne, if_neg Bool.false_ne_true] at k
        refine ⟨sz_0, fun ml hml => ?_⟩
        have Sm := Same.new (o := .lst []) hml
        have Lm : ListAt K (upd H1 ml (.lst [])) ml [] := ⟨_, upd_same, .nil⟩
        have hmlH := same_none' S1 hml
        refine ⟨_, rfl, r, _, _, _, rfl, rfl, SqL.of (Sm _ _ er'), at1, _, _, rfl, .inl ⟨_, SqL.of (Sm _ _ es), rfl⟩, ?_⟩
        refine ⟨_, rfl, by omega, by rw [lgs]; omega, ?_⟩
        rw [lgs, Int.toNat_natCast]
        generalize upd H1 ml (.lst []) = H2 at Sm Lm ⊢
        refine for_range (lo := 0) (n := G.length) (fun i σ H3 => ∃ (x4 : Option V), σ = [some (.ref a), some (.int 3), some (.ref r), some (.ref ml), x4] ∧ Same H1 H3 ∧ ListAt K H3 ml ((G.take i).map cmpT)) ⟨none, rfl, Sm, by simpa using Lm⟩ ?_ ?_
        · rintro i σ H3 hi ⟨x4, rfl, S3, L3⟩
          rw [Int.zero_add]
          have hq : G[i]? = some G[i] := List.getElem?_eq_getElem hi
          generalize G[i] = q at hq
          have hqm := List.mem_of_getElem? hq
          have PL3 := PL.same S3
          obtain ⟨pi, hpi⟩ : ∃ pi, (p0 :: as)[i + 1]? = some pi := by
            have hlen := PL.len
            simp only [List.length_cons, List.length_map] at hlen
            exact ⟨_, List.getElem?_eq_getElem (by simp; omega)⟩
          have epi := PL3.each (i + 1) pi (segW q.2) hpi (by rw [List.getElem?_cons_succ, List.getElem?_map, hq]; rfl)
          have hat : atI ((p0 :: as).map V.ref) ((i : Int) + 1) = some (.ref pi) := by
            have : ((i : Int) + 1) = ((i + 1 : Nat) : Int) := by omega
            rw [this]
            exact atI_nat (by rw [List.getElem?_map, hpi]; rfl)
          have hsg : atI (strL (G.map (·.1))) ((i : Nat) : Int) = some (.str q.1) := atI_nat (by unfold strL; rw [List.getElem?_map, List.getElem?_map, hq]; rfl)
          obtain ⟨xs3, e3, a3⟩ := id L3
          refine ⟨_, rfl, .inl ⟨rfl, _, SqL.of e3⟩, _, rfl, r, _, _, _, rfl, rfl, SqL.of (S3 _ _ er'), at1, _, rfl, sl, _, _, _, rfl, rfl, SqL.of (S3 _ _ es), hsg, ?_⟩
          refine ⟨_, rfl, r, _, _, _, rfl, rfl, SqL.of (S3 _ _ er'), at0, _, rfl, _, _, rfl, rfl, pl, _, _, _, rfl, rfl, SqL.of PL3.at_, hat, pi, q.2, 2, by omega, rfl, SqL.of epi, o12.2 q hqm, n2 q hqm, by have := l2 q hqm; omega, by decide, fun v4 H4 S4 d4 => ⟨sz_2, fun u hu => ?_⟩⟩
          have Su := Same.new (o := .tup [V.str q.1, v4]) hu
          have du : Dt K (upd H4 u (.tup [V.str q.1, v4])) (.ref u) (cmpT q) := Dt.made hu (.cons (.str _) (.cons d4 .nil))
          have L4 := listAt_mono (listAt_mono L3 S4) Su
          obtain ⟨xs5, e5, a5⟩ := id L4
          have l5 := a5.length
          rw [List.length_map, List.length_take] at l5
          refine ⟨ml, xs5, _, rfl, rfl, e5, Nat.lt_of_le_of_lt (show _ ≤ 1000 by omega) (by decide), ?_⟩
          refine ⟨_, rfl, fun b o hb => ?_, ?_⟩
          · rw [upd_ne (ne_of_none hb hml)]
            exact Su _ _ (S4 _ _ (S3 _ _ hb))
          · have := listAt_app L4 e5 du
            rw [List.take_succ, hq, List.map_append]
            exact this
        · rintro σ H3 ⟨x4, rfl, S3, L3⟩
          rw [List.take_length] at L3
          have PL3 := PL.same S3
          obtain ⟨xs3, e3, a3⟩ := id L3
          refine ⟨_, rfl, r, _, _, _, rfl, rfl, SqL.of (S3 _ _ er'), at0, pl, _, _, _, rfl, rfl, SqL.of PL3.at_, at0, p0, g0, 2, by omega, rfl, SqL.of (PL3.each 0 p0 (segW g0) rfl rfl), o12.1, n1, by omega, by decide, fun v4 H4 S4 d4 => ?_⟩
          refine ⟨_, rfl, ml, xs3, rfl, .inl ⟨SqL.of (S4 _ _ e3), fun u hu => ⟨sz_3, fun q hq => ?_⟩⟩⟩
          have Su := Same.new (o := .tup xs3) hu
          exact k _ _ (((S1.trans S3).trans S4).trans (Su.trans (Same.new hq))) (Dt.made hq (.cons (.str _) (.cons (d4.mono Su) (.cons (Dt.made hu (a3.mono S4)) .nil))))
    refine ⟨_, rfl, rfl, _, rfl, ?_⟩
    rw [show decide (V.int (st : Int) = V.int 4) = decide (st = 4) from tst 4]
    refine ite3 (fun c => ?_) fun c => ?_
    · obtain rfl := of_decide_eq_true c
      obtain ⟨z, zs, ez, en⟩ := segW_not hN
      have sz0 : SqL K H a (V.str z :: strL zs) := by rw [ez] at sa; exact sa
      refine ⟨_, rfl, a, _, _, _, rfl, rfl, sz0, at0, rfl, _, rfl, ?_⟩
      rw [en]
      have k : ∀ v H', Same H H' → Dt K H' v (tr4 sg) → Q v H' := k
      have ok : ∀ q ∈ sg.2, lv3 q := ok
      unfold tr4 at k
      cases hn : sg.1.n with
      | true =>
        rw [hn, if_pos rfl] at k
        refine iteTb rfl ?_
        refine ⟨_, rfl, _, rfl, a, _, rfl, sa, fun b hb => ?_⟩
        have Sb := Same.new (o := .lst (cutV (strL (segW sg)) (some 1) none)) hb
        have eb := upd_same (H := H) (a := b) (o := HO.lst (cutV (strL (segW sg)) (some 1) none))
        have ec : cutV (strL (segW sg)) (some 1) none = strL (segW (er sg)) := by
          rw [← segW_er hn]
          have e1 : cutV (strL (segW sg)) (some ((1 : Nat) : Int)) none = (strL (segW sg)).drop 1 := cutV_drop 1
          unfold strL at e1 ⊢
          rw [List.map_drop]
          exact e1
        rw [ec] at Sb eb ⊢
        generalize upd H b (.lst (strL (segW (er sg)))) = H1 at Sb eb ⊢
        refine ⟨b, er sg, 3, by omega, rfl, SqL.of eb, ⟨rfl, ok⟩, hN, by rw [← segW_er hn, List.length_drop]; omega, by decide, fun v H2 S2 d2 => ?_⟩
        have d2 : Dt K H2 v (tr3 sg) := by rw [← tr3_er]; exact d2
        exact ⟨sz_2, fun q hq => k _ _ ((Sb.trans S2).trans (Same.new hq)) (Dt.made hq (.cons (.str _) (.cons d2 .nil)))⟩
      | false =>
        rw [hn, if_neg Bool.false_ne_true] at k
        refine iteFb rfl ?_
        exact ⟨_, rfl, a, sg, 3, by omega, rfl, sa, ⟨hn, ok⟩, hN, hl, by decide, k⟩
    refine ⟨_, rfl, rfl, _, rfl, ?_⟩
    rw [show decide (V.int (st : Int) = V.int 5) = decide (st = 5) from tst 5]
    refine ite3 (fun c => ?_) fun c => ?_
    · obtain rfl := of_decide_eq_true c
      refine ⟨_, rfl, sz_1, fun wl hwl => bin (W := ["and"]) (j := 4) (Same.new hwl) (by omega) (by omega) upd_same (by decide +kernel) (by decide +kernel) (by decide +kernel) ?_ ?_ k⟩
      · refine grp_st (A := OkSt 4) fun o l ho hl q hq => ?_
        obtain ⟨a1, a2⟩ := hl q hq
        have a1 : isAnd q.1 = false := a1
        exact (ok q a2).resolve_right (by rw [a1]; exact Bool.false_ne_true)
      · exact binT_mk fun z hz t u => by
          have : ∀ z ∈ (["and"] : List Str), inV (V.str z) [V.str "and", V.str "or"] = true := by decide +kernel
          unfold mkG
          rw [this z (in1 hz), if_pos rfl]
    have h6 : st = 6 := by
      rename_i c0 c1 c2 c3 c4
      have := of_decide_eq_false c
      have := of_decide_eq_false c0
      have := of_decide_eq_false c1
      have := of_decide_eq_false c2
      have := of_decide_eq_false c3
      have := of_decide_eq_false c4
      omega
    subst h6
    refine ⟨_, rfl, sz_1, fun wl hwl => bin (W := ["or"]) (j := 5) (Same.new hwl) (by omega) (by omega) upd_same (by decide +kernel) (by decide +kernel) (by decide +kernel) ?_ ?_ k⟩
    · refine grp_st (A := OkSt 5) fun o l ho hl q hq => ?_
      obtain ⟨a1, a2⟩ := hl q hq
      have a1 : isOr q.1 = false := a1
      rcases ok q a2 with h | h | h
      · exact .inl h
      · exact .inr h
      · rw [a1] at h; cases h
    · exact binT_mk fun z hz t u => by
        have : ∀ z ∈ (["or"] : List Str), inV (V.str z) [V.str "and", V.str "or"] = true := by decide +kernel
        unfold mkG
        rw [this z (in1 hz), if_pos rfl]
end

section
--SPLIT
end
abbrev s_law_tree : Stmt := top 104
abbrev N_law_tree : List Str := ["tokens", "first", "second", "test"]
abbrev P_law_tree : List Str := ["tokens"]
theorem sc_law_tree : FnScope N_law_tree P_law_tree (defScope s_law_tree) := ⟨rfl, rfl, rfl, by decide +kernel, rfl, by decide +kernel, by decide +kernel⟩
section
variable {P : Program} {w : World} {K : PySem.W.Frag} {mg : Str → Option Value} {base : Heap}
abbrev wIf : Str := "if"
abbrev wElse : Str := "else"
def exprWs (A : SegR) : Option (SegR × SegR) → List Str
  | none => segW A
  | some (T, B) => segW A ++ wIf :: (segW T ++ wElse :: segW B)
structure ExN (A : SegR) (x : Option (SegR × SegR)) : Prop where
  a : SegN A
  t : ∀ T B, x = some (T, B) → SegN T ∧ SegN B
theorem segOk_st {s : SegR} (h : SegOk s.1 s.2) : OkSt 6 s := by
  intro q hq
  have cl : ∀ s ∈ allOps, isTerm s = true ∨ isSum s = true ∨ isCmp s = true ∨ isAnd s = true ∨ isOr s = true := by decide +kernel
  have ex : ∀ s ∈ allOps, isTerm s = true ∨ isSum s = true ∨ isCmp s = true → isAnd s = false ∧ isOr s = false := by decide +kernel
  have hn : isTerm q.1 = true ∨ isSum q.1 = true ∨ isCmp q.1 = true → q.2.n = false := fun hx => by
    obtain ⟨h1, h2⟩ := ex _ (h.op q hq) hx
    cases e : q.2.n with
    | false => rfl
    | true => rcases h.no q hq e with h3 | h3 <;> (first | (rw [h1] at h3; cases h3) | (rw [h2] at h3; cases h3))
  rcases cl _ (h.op q hq) with c | c | c | c | c
  · exact .inl ⟨.inl (.inl c), hn (.inl c)⟩
  · exact .inl ⟨.inl (.inr c), hn (.inr (.inl c))⟩
  · exact .inl ⟨.inr c, hn (.inr (.inr c))⟩
  · exact .inr (.inl c)
  · exact .inr (.inr c)
theorem eqV_str {a b : Str} : eqV (.str a) (.str b) = decide (a = b) := rfl
/-- the words of a row are none of these two -/
theorem segW_no {s : SegR} (hN : SegN s) (hO : ∀ q ∈ s.2, q.1 ∈ allOps) {z : Str} (hz : z = "if" ∨ z = "else") : ∀ y ∈ segW s, decide (y = z) = false := by
  have zw : z ∈ wordsAll := by rcases hz with rfl | rfl <;> decide +kernel
  have opd : ∀ o : Opd, NmW o.x → ∀ y ∈ opdW o, decide (y = z) = false := fun o ho y hy => by
    unfold opdW at hy
    rw [List.mem_append, List.mem_append] at hy
    rcases hy with (hy | hy) | hy
    · cases hn : o.n with
      | true => rw [hn, if_pos rfl] at hy; rw [List.mem_singleton.mp hy]; rcases hz with rfl | rfl <;> decide +kernel
      | false => rw [hn, if_neg Bool.false_ne_true] at hy; cases hy
    · cases hn : o.m with
      | true => rw [hn, if_pos rfl] at hy; rw [List.mem_singleton.mp hy]; rcases hz with rfl | rfl <;> decide +kernel
      | false => rw [hn, if_neg Bool.false_ne_true] at hy; cases hy
    · rw [List.mem_singleton.mp hy]
      have := of_decide_eq_false (ho z zw)
      exact decide_eq_false fun e => this (by rw [e])
  intro y hy
  unfold segW at hy
  rcases List.mem_append.mp hy with hy | hy
  · exact opd _ hN.1 y hy
  · obtain ⟨q, hq, hy⟩ := List.mem_flatMap.mp hy
    rcases List.mem_append.mp hy with hy | hy
    · rw [List.mem_singleton.mp hy]
      have : ∀ s ∈ allOps, decide (s = "if") = false ∧ decide (s = "else") = false := by decide +kernel
      rcases hz with rfl | rfl
      · exact (this _ (hO q hq)).1
      · exact (this _ (hO q hq)).2
    · exact opd _ (hN.2 q hq) y hy
theorem inV_mem {z : Str} {ws : List Str} : inV (V.str z) (strL ws) = decide (z ∈ ws) := by
  induction ws with
  | nil => rfl
  | cons y ys ih =>
    have e : inV (V.str z) (strL (y :: ys)) = (decide (y = z) || inV (V.str z) (strL ys)) := rfl
    rw [e, ih]
    by_cases c : z ∈ ys
    · rw [decide_eq_true c, Bool.or_true]
      exact (decide_eq_true (List.mem_cons_of_mem _ c)).symm
    · rw [decide_eq_false c, Bool.or_false]
      by_cases c2 : y = z
      · rw [decide_eq_true c2, decide_eq_true (by rw [c2]; simp)]
      · rw [decide_eq_false c2, decide_eq_false (by simp only [List.mem_cons, not_or]; exact ⟨fun e => c2 e.symm, c⟩)]
theorem segW_mem {s : SegR} (hN : SegN s) (hO : ∀ q ∈ s.2, q.1 ∈ allOps) {z : Str} (hz : z = "if" ∨ z = "else") : z ∉ segW s := fun h => of_decide_eq_false (segW_no hN hO hz z h) rfl
def spTree (K : PySem.W.Frag) : Sp := fun vs H Q _ => ∃ (a : Addr) (A : SegR) (x : Option (SegR × SegR)), vs = [.ref a] ∧ SqL K H a (strL (exprWs A x)) ∧ ExOk A x ∧ ExN A x ∧ (exprWs A x).length ≤ 1000 ∧ ∀ v H', Same H H' → Dt K H' v (exprTr A x) → Q v H'
theorem cutV_mid {xs : List V} {n m : Nat} (h1 : n ≤ m) (h2 : m ≤ xs.length) : cutV xs (some (n : Int)) (some (m : Int)) = (xs.drop n).take (m - n) := by
  unfold cutV
  rw [HT.sIx_nat, HT.sIx_nat, Nat.min_eq_left (show n ≤ xs.length by omega), Nat.min_eq_left h2]
theorem cutV_to {xs : List V} {m : Nat} (h2 : m ≤ xs.length) : cutV xs none (some (m : Int)) = xs.take m := by
  have : cutV xs none (some (m : Int)) = (xs.drop 0).take (m - 0) := by
    unfold cutV
    rw [HT.sIx_nat, Nat.min_eq_left h2]
    rfl
  rw [this]
  rfl
theorem ok_tree {f : Addr} {fd : FuncData} (F : Fun K "_law_tree" "_law_tree" s_law_tree f fd) (T : Txt K mg) (U_law_lower : Use P w K mg base CX0 "_law_lower" 16 P_law_lower (spLow K 7)) : FnG P w K mg base CX0 17 f fd P_law_tree (spTree K) := by
  refine okG0 F sc_law_tree (fun vs H Q E h => ?_) fun cdv A outer s H vs Q E hr hg h => ?_
  · obtain ⟨a, A, x, rfl, _⟩ := h
    rfl
  · obtain ⟨a, A', x, rfl, sa, ok, hN, hl, k⟩ := h
    refine ⟨_, (pss_cons (ps_if (pt_cmpR op_notIn_seq pe_str (pv 0) (by rfl))
   (pss_one (ps_ret (pe_use U_law_lower (hr.mono (by decide)) hg rfl (pa_cons (pv 0) (pa_cons pe_int pa_nil)))))
   pss_nil)
  (pss_cons (ps_set (i := 1) sc_law_tree.nd rfl (Or.inl rfl) (pe_bm PySem.F.plainAttrs_list PySem.F.slot_list_index PySem.F.type_list_index mt_index (pv 0) (pa_cons pe_str pa_nil)))
  (pss_cons (ps_set (i := 2) sc_law_tree.nd rfl (Or.inl rfl) (pe_bm PySem.F.plainAttrs_list PySem.F.slot_list_index PySem.F.type_list_index mt_index (pv 0) (pa_cons pe_str pa_nil)))
  (pss_cons (ps_set (i := 3) sc_law_tree.nd rfl (Or.inl rfl) (pe_use U_law_lower (hr.mono (by decide)) hg rfl (pa_cons (pe_slice sl_list (pv 0) (po_some (pe_op op_add (pv 1) pe_int)) (po_some (pv 2))) (pa_cons pe_int pa_nil))))
  (pss_one (ps_ret (pe_tup (pa_cons pe_str (pa_cons (pv 3) (pa_cons (pe_use U_law_lower (hr.mono (by decide)) hg rfl (pa_cons (pe_slice sl_list (pv 0) po_none (po_some (pv 1))) (pa_cons pe_int pa_nil))) (pa_cons (pe_use U_law_lower (hr.mono (by decide)) hg rfl (pa_cons (pe_slice sl_list (pv 0) (po_some (pe_op op_add (pv 2) pe_int)) po_none) (pa_cons pe_int pa_nil))) pa_nil))))))))))), ?_⟩
    have nA1 := segW_mem hN.a ok.a.op (z := "if") (.inl rfl)
    have nA2 := segW_mem hN.a ok.a.op (z := "else") (.inr rfl)
    cases x with
    | none =>
      have sa : SqL K H a (strL (segW A')) := sa
      refine ⟨_, rfl, a, _, rfl, .inl sa, rfl, strL_flat _, _, rfl, ?_⟩
      rw [inV_mem, decide_eq_false nA1]
      refine iteTb rfl ?_
      exact ⟨_, rfl, a, A', 6, by decide, rfl, sa, segOk_st ok.a, hN.a, hl, by decide, k⟩
    | some q =>
      obtain ⟨Tt, B⟩ := q
      obtain ⟨okT, okB, _, _⟩ := ok.t Tt B rfl
      obtain ⟨nT, nB⟩ := hN.t Tt B rfl
      have nT2 := segW_mem nT okT.op (z := "else") (.inr rfl)
      have sa : SqL K H a (strL (segW A' ++ wIf :: (segW Tt ++ wElse :: segW B))) := sa
      have hl : (segW A' ++ wIf :: (segW Tt ++ wElse :: segW B)).length ≤ 1000 := hl
      generalize hws : segW A' ++ wIf :: (segW Tt ++ wElse :: segW B) = ws at sa hl
      have hin : ("if" : Str) ∈ ws := by rw [← hws]; simp
      refine ⟨_, rfl, a, _, rfl, .inl sa, rfl, strL_flat _, _, rfl, ?_⟩
      rw [inV_mem, decide_eq_true hin]
      refine iteFb rfl ?_
      have g1 : ws[(segW A').length]? = some "if" := by rw [← hws]; simp
      have g2 : ws[(segW A').length + 1 + (segW Tt).length]? = some "else" := by
        rw [← hws, List.getElem?_append_right (by omega)]
        rw [show (segW A').length + 1 + (segW Tt).length - (segW A').length = (segW Tt).length + 1 by omega, List.getElem?_cons_succ, List.getElem?_append_right (Nat.le_refl _), Nat.sub_self]
        rfl
      have b1 : ∀ (m : Nat) (z' : V), m < (segW A').length → (strL ws)[m]? = some z' → eqV z' (V.str "if") = false := fun m z' hm hz' => by
        unfold strL at hz'
        rw [List.getElem?_map] at hz'
        obtain ⟨y, hy, rfl⟩ := Option.map_eq_some_iff.mp hz'
        rw [← hws, List.getElem?_append_left hm] at hy
        exact segW_no hN.a ok.a.op (.inl rfl) y (List.mem_of_getElem? hy)
      have b2 : ∀ (m : Nat) (z' : V), m < (segW A').length + 1 + (segW Tt).length → (strL ws)[m]? = some z' → eqV z' (V.str "else") = false := fun m z' hm hz' => by
        unfold strL at hz'
        rw [List.getElem?_map] at hz'
        obtain ⟨y, hy, rfl⟩ := Option.map_eq_some_iff.mp hz'
        rw [← hws] at hy
        by_cases c : m < (segW A').length
        · rw [List.getElem?_append_left c] at hy
          exact segW_no hN.a ok.a.op (.inr rfl) y (List.mem_of_getElem? hy)
        · rw [List.getElem?_append_right (by omega)] at hy
          cases e : m - (segW A').length with
          | zero =>
            rw [e] at hy
            obtain rfl : wIf = y := by simpa using hy
            decide +kernel
          | succ j =>
            rw [e, List.getElem?_cons_succ, List.getElem?_append_left (by omega)] at hy
            exact segW_no nT okT.op (.inr rfl) y (List.mem_of_getElem? hy)
      have s1 : (strL ws)[(segW A').length]? = some (.str "if") := by unfold strL; rw [List.getElem?_map, g1]; rfl
      have s2 : (strL ws)[(segW A').length + 1 + (segW Tt).length]? = some (.str "else") := by unfold strL; rw [List.getElem?_map, g2]; rfl
      have lws : ws.length = (segW A').length + 1 + (segW Tt).length + 1 + (segW B).length := by rw [← hws]; simp; omega
      have lst : (strL ws).length = ws.length := by simp [strL]
      refine ⟨_, rfl, .inl ⟨rfl, _, sa⟩, a, _, _, _, _, rfl, rfl, sa, rfl, strL_flat _, s1, by decide +kernel, b1, ?_⟩
      refine ⟨_, rfl, .inl ⟨rfl, _, sa⟩, a, _, _, _, _, rfl, rfl, sa, rfl, strL_flat _, s2, by decide +kernel, b2, ?_⟩
      have c1 : cutV (strL ws) (some (((segW A').length : Nat) + 1 : Int)) (some (((segW A').length + 1 + (segW Tt).length : Nat) : Int)) = strL (segW Tt) := by
        rw [show (((segW A').length : Nat) + 1 : Int) = (((segW A').length + 1 : Nat) : Int) by omega, cutV_mid (by omega) (by omega)]
        unfold strL
        rw [← List.map_drop, ← List.map_take]
        congr 1
        rw [← hws, show (segW A').length + 1 = (segW A' ++ [wIf]).length by simp, show segW A' ++ wIf :: (segW Tt ++ wElse :: segW B) = (segW A' ++ [wIf]) ++ (segW Tt ++ wElse :: segW B) by simp, List.drop_left]
        rw [show (segW A' ++ [wIf]).length + (segW Tt).length - (segW A' ++ [wIf]).length = (segW Tt).length by omega, List.take_left]
      have c2 : cutV (strL ws) none (some (((segW A').length : Nat) : Int)) = strL (segW A') := by
        rw [cutV_to (by omega)]
        unfold strL
        rw [← List.map_take]
        congr 1
        rw [← hws, List.take_left]
      have c3 : cutV (strL ws) (some (((segW A').length + 1 + (segW Tt).length : Nat) + 1 : Int)) none = strL (segW B) := by
        rw [show (((segW A').length + 1 + (segW Tt).length : Nat) + 1 : Int) = (((segW A').length + 1 + (segW Tt).length + 1 : Nat) : Int) by omega, cutV_drop]
        unfold strL
        rw [← List.map_drop]
        congr 1
        rw [← hws, show (segW A').length + 1 + (segW Tt).length + 1 = (segW A' ++ wIf :: (segW Tt ++ [wElse])).length by simp; omega, show segW A' ++ wIf :: (segW Tt ++ wElse :: segW B) = (segW A' ++ wIf :: (segW Tt ++ [wElse])) ++ segW B by simp, List.drop_left]
      refine ⟨_, rfl, _, rfl, _, _, rfl, rfl, _, rfl, _, rfl, _, rfl, a, _, rfl, sa, fun t1 ht1 => ?_⟩
      rw [c1]
      have S1 := Same.new (o := .lst (strL (segW Tt))) ht1
      refine ⟨t1, Tt, 6, by decide, rfl, SqL.of upd_same, segOk_st okT, nT, by omega, by decide, fun v2 H2 S2 d2 => ?_⟩
      have S12 := S1.trans S2
      refine ⟨_, rfl, _, rfl, _, rfl, _, rfl, a, _, rfl, S12.seq sa, fun t3 ht3 => ?_⟩
      rw [c2]
      have S3 := Same.new (o := .lst (strL (segW A'))) ht3
      refine ⟨t3, A', 6, by decide, rfl, SqL.of upd_same, segOk_st ok.a, hN.a, by omega, by decide, fun v4 H4 S4 d4 => ?_⟩
      have S14 := S12.trans (S3.trans S4)
      refine ⟨_, rfl, _, rfl, _, _, rfl, rfl, _, rfl, a, _, rfl, S14.seq sa, fun t5 ht5 => ?_⟩
      rw [c3]
      have S5 := Same.new (o := .lst (strL (segW B))) ht5
      refine ⟨t5, B, 6, by decide, rfl, SqL.of upd_same, segOk_st okB, nB, by omega, by decide, fun v6 H6 S6 d6 => ⟨sz_4, fun q hq => ?_⟩⟩
      have S56 := S5.trans S6
      exact k _ _ ((S14.trans S56).trans (Same.new hq)) (Dt.made hq (.cons (.str _) (.cons ((d2.mono (S3.trans S4)).mono S56) (.cons (d4.mono S56) (.cons d6 .nil)))))
end

section
--SPLIT
end
abbrev s_law_row : Stmt := top 99
abbrev N_law_row : List Str := ["box", "many", "words", "tokens", "place", "k", "free"]
abbrev P_law_row : List Str := ["box", "many"]
theorem sc_law_row : FnScope N_law_row P_law_row (defScope s_law_row) := ⟨rfl, rfl, rfl, by decide +kernel, rfl, by decide +kernel, by decide +kernel⟩
section
variable {P : Program} {w : World} {K : PySem.W.Frag} {mg : Str → Option Value} {base : Heap}
/-! the rows that the law draws -/
inductive Cl
  | a (A : SegR) | t (A T : SegR) | b (A T B : SegR)
def clW : Cl → List Str
  | .a A => segW A
  | .t A T => segW A ++ wIf :: segW T
  | .b A T B => segW A ++ wIf :: (segW T ++ wElse :: segW B)
inductive Op
  | st | op (c : Cl) (s : Str) | tif (A : SegR) | tel (A T : SegR)
def opW : Op → List Str
  | .st => []
  | .op c s => clW c ++ [s]
  | .tif A => segW A ++ [wIf]
  | .tel A T => segW A ++ wIf :: segW T ++ [wElse]
def addS (A : SegR) (s : Str) (o : Opd) : SegR := (A.1, A.2 ++ [(s, o)])
def addO : Op → Opd → Cl
  | .st, o => .a (o, [])
  | .op (.a A) s, o => .a (addS A s o)
  | .op (.b A T B) s, o => .b A T (addS B s o)
  | .op (.t A T) _, _ => .t A T
  | .tif A, o => .t A (o, [])
  | .tel A T, o => .b A T (o, [])
def freeO : Op → Bool
  | .op _ s => isAnd s || isOr s
  | _ => true
/-- the names of the law -/
def NmX (x : List Nat) : Prop := (∃ k < 100, x = 120 :: TL.numL k) ∨ x = [122]
def SegX (A : SegR) : Prop := NmX A.1.x ∧ ∀ q ∈ A.2, NmX q.2.x
def SgOk (A : SegR) (k : Nat) : Prop := SegOk A.1 A.2 ∧ SegX A ∧ lenS A ≤ k
def ClOk (place k : Nat) : Cl → Prop
  | .a A => SgOk A k ∧ (6 ≤ place ∨ k ≤ place)
  | .t A T => SgOk A k ∧ SgOk T k ∧ place < 6 ∧ k = place + 1
  | .b A T B => SgOk A k ∧ SgOk T k ∧ SgOk B k ∧ place < 6 ∧ place + 2 ≤ k
def OpOk (place k : Nat) : Op → Prop
  | .st => k = 0
  | .op (.a A) s => SgOk A k ∧ s ∈ allOps ∧ (6 ≤ place ∨ k ≤ place)
  | .op (.b A T B) s => SgOk A k ∧ SgOk T k ∧ SgOk B k ∧ s ∈ allOps ∧ place < 6 ∧ place + 2 ≤ k
  | .op (.t _ _) _ => False
  | .tif A => SgOk A k ∧ place < 6 ∧ k = place + 1
  | .tel A T => SgOk A k ∧ SgOk T k ∧ place < 6 ∧ k = place + 2
theorem segW_add (A : SegR) (s : Str) (o : Opd) : segW (addS A s o) = segW A ++ [s] ++ opdW o := by simp [segW, addS]
theorem addO_w {place k : Nat} {op : Op} {o : Opd} (h : OpOk place k op) : clW (addO op o) = opW op ++ opdW o := by
  cases op with
  | st => simp [addO, clW, opW, segW]
  | op c s =>
    cases c with
    | a A => exact segW_add A s o
    | t A T => exact h.elim
    | b A T B => simp [addO, clW, opW, segW_add]
  | tif A => simp [addO, clW, opW, segW]
  | tel A T => simp [addO, clW, opW, segW]
theorem sg_up {A : SegR} {k j : Nat} (h : SgOk A k) (hj : k ≤ j) : SgOk A j := ⟨h.1, h.2.1, Nat.le_trans h.2.2 hj⟩
theorem sg_add {A : SegR} {s : Str} {o : Opd} {k : Nat} (h : SgOk A k) (hs : s ∈ allOps) (ho : o.n = true → isAnd s = true ∨ isOr s = true) (hx : NmX o.x) : SgOk (addS A s o) (k + 1) := by
  obtain ⟨h1, h2, h3⟩ := h
  refine ⟨⟨fun q hq => ?_, fun q hq => ?_⟩, ⟨h2.1, fun q hq => ?_⟩, by unfold addS lenS; simp; exact h3⟩
  · rcases List.mem_append.mp hq with hq | hq
    · exact h1.op q hq
    · rw [List.mem_singleton.mp hq]; exact hs
  · rcases List.mem_append.mp hq with hq | hq
    · exact h1.no q hq
    · rw [List.mem_singleton.mp hq]; exact ho
  · rcases List.mem_append.mp hq with hq | hq
    · exact h2.2 q hq
    · rw [List.mem_singleton.mp hq]; exact hx
theorem sg_one {o : Opd} {k : Nat} (hx : NmX o.x) : SgOk (o, []) k := ⟨⟨by simp, by simp⟩, ⟨hx, by simp⟩, by simp [lenS]⟩
/-- the operand at step k -/
theorem addO_ok {place k : Nat} {op : Op} {o : Opd} (hp : 1 ≤ place) (h : OpOk place k op) (ho : o.n = true → freeO op = true) (hx : NmX o.x) (hk : ∀ A : SegR, ∀ s, (op = .op (.a A) s ∨ ∃ A' T', op = .op (.b A' T' A) s) → lenS A + 1 ≤ k) : ClOk place k (addO op o) := by
  have fr : ∀ {c s}, op = .op c s → o.n = true → isAnd s = true ∨ isOr s = true := fun {c s} e hn => by
    have := ho hn
    rw [e] at this
    exact Bool.or_eq_true_iff.mp this
  have up : ∀ {A : SegR} {s : Str}, SgOk A k → lenS A + 1 ≤ k → s ∈ allOps → (o.n = true → isAnd s = true ∨ isOr s = true) → SgOk (addS A s o) k := fun {A s} h hl hs hn => by
    have := sg_add (k := lenS A) ⟨h.1, h.2.1, Nat.le_refl _⟩ hs hn hx
    exact sg_up this hl
  cases op with
  | st => exact ⟨sg_one hx, by have : k = 0 := h; omega⟩
  | op c s =>
    cases c with
    | a A => exact ⟨up h.1 (hk A s (.inl rfl)) h.2.1 (fr rfl), h.2.2⟩
    | t A T => exact h.elim
    | b A T B => obtain ⟨h1, h2, h3, h4, h5, h6⟩ := h; exact ⟨h1, h2, up h3 (hk B s (.inr ⟨A, T, rfl⟩)) h4 (fr rfl), h5, h6⟩
  | tif A => exact ⟨h.1, sg_one hx, h.2⟩
  | tel A T => obtain ⟨h1, h2, h3, h4⟩ := h; exact ⟨h1, h2, sg_one hx, h3, by omega⟩
theorem nmW_c {c : Nat} {xs : List Nat} (h : c = 120 ∨ c = 122) : NmW (c :: xs) := by
  intro w hw
  have key : ∀ w ∈ wordsAll, w.cps.toList.head? ≠ some 120 ∧ w.cps.toList.head? ≠ some 122 := by decide +kernel
  obtain ⟨k1, k2⟩ := key w hw
  refine decide_eq_false fun e => ?_
  have e := V.str.inj e
  subst e
  have : (S (c :: xs)).cps.toList.head? = some c := rfl
  rcases h with rfl | rfl
  · exact k1 this
  · exact k2 this
theorem NmX.nm {x : List Nat} (h : NmX x) : NmW x := by
  rcases h with ⟨k, _, rfl⟩ | rfl
  · exact nmW_c (.inl rfl)
  · exact nmW_c (.inr rfl)
theorem SegX.n {A : SegR} (h : SegX A) : SegN A := ⟨h.1.nm, fun q hq => (h.2 q hq).nm⟩
structure ExX (A : SegR) (x : Option (SegR × SegR)) : Prop where
  a : SegX A
  t : ∀ T B, x = some (T, B) → SegX T ∧ SegX B
theorem ExX.n {A : SegR} {x : Option (SegR × SegR)} (h : ExX A x) : ExN A x := ⟨h.a.n, fun T B e => ⟨(h.t T B e).1.n, (h.t T B e).2.n⟩⟩
/-- the row so far: at its step -/
def LpOk (place i : Nat) (op : Op) : Prop := OpOk place i op ∧ ∀ A : SegR, ∀ s, (op = .op (.a A) s ∨ ∃ A' T', op = .op (.b A' T' A) s) → lenS A + 1 ≤ i
theorem noIf : ("if" : Str) ∉ allOps ∧ ("else" : Str) ∉ allOps := by decide +kernel
/-- the sign behind the operand at step k -/
theorem op_next {place k : Nat} {c : Cl} {s : Str} (hp : 1 ≤ place) (h : ClOk place k c) (hs : s ∈ allOps) :
    (place < 6 ∧ k = place → ∃ op, LpOk place (k + 1) op ∧ opW op = clW c ++ [wIf]) ∧
    (¬ (place < 6 ∧ k = place) → (place < 6 ∧ place < k ∧ wIf ∈ clW c ++ [s] ∧ wElse ∉ clW c ++ [s] → ∃ op, LpOk place (k + 1) op ∧ opW op = clW c ++ [wElse]) ∧
      (¬ (place < 6 ∧ place < k ∧ wIf ∈ clW c ++ [s] ∧ wElse ∉ clW c ++ [s]) → ∃ op, LpOk place (k + 1) op ∧ opW op = clW c ++ [s])) := by
  have nI : s ≠ wIf := fun e => noIf.1 (by rw [e] at hs; exact hs)
  have nE : s ≠ wElse := fun e => noIf.2 (by rw [e] at hs; exact hs)
  refine ⟨fun ⟨h1, h2⟩ => ?_, fun h1 => ⟨fun ⟨h2, h3, h4, h5⟩ => ?_, fun h2 => ?_⟩⟩
  · cases c with
    | a A => exact ⟨.tif A, ⟨⟨sg_up h.1 (by omega), h1, by omega⟩, fun A s e => by rcases e with e | ⟨_, _, e⟩ <;> cases e⟩, rfl⟩
    | t A T => obtain ⟨_, _, _, h4⟩ := h; omega
    | b A T B => obtain ⟨_, _, _, _, h5⟩ := h; omega
  · cases c with
    | a A => obtain ⟨_, h6⟩ := h; omega
    | t A T => obtain ⟨a1, a2, a3, a4⟩ := h; exact ⟨.tel A T, ⟨⟨sg_up a1 (by omega), sg_up a2 (by omega), h2, by omega⟩, fun A s e => by rcases e with e | ⟨_, _, e⟩ <;> cases e⟩, by simp [opW, clW]⟩
    | b A T B => exact (h5 (by simp [clW])).elim
  · cases c with
    | a A =>
      obtain ⟨a1, a2⟩ := h
      refine ⟨.op (.a A) s, ⟨⟨sg_up a1 (by omega), hs, by omega⟩, fun A' s' e => ?_⟩, rfl⟩
      rcases e with e | ⟨_, _, e⟩
      · cases e; have := a1.2.2; omega
      · cases e
    | t A T =>
      obtain ⟨a1, a2, a3, a4⟩ := h
      refine (h2 ⟨a3, by omega, by simp [clW], ?_⟩).elim
      have b1 := segW_mem a1.2.1.n a1.1.op (z := wElse) (.inr rfl)
      have b2 := segW_mem a2.2.1.n a2.1.op (z := wElse) (.inr rfl)
      have e1 : wElse ≠ wIf := by decide +kernel
      have nE' : wElse ≠ s := fun e => nE e.symm
      simp only [clW, List.mem_append, List.mem_cons, List.not_mem_nil, or_false, not_or]
      exact ⟨⟨b1, e1, b2⟩, nE'⟩
    | b A T B =>
      obtain ⟨a1, a2, a3, a4, a5⟩ := h
      refine ⟨.op (.b A T B) s, ⟨⟨sg_up a1 (by omega), sg_up a2 (by omega), sg_up a3 (by omega), hs, a4, by omega⟩, fun A' s' e => ?_⟩, rfl⟩
      rcases e with e | ⟨_, _, e⟩
      · cases e
      · cases e; have := a3.2.2; omega
/-- what stands last -/
theorem opW_last {place i : Nat} {op : Op} (h : OpOk place i op) : (op = .st ∧ opW op = [] ∧ freeO op = true) ∨ ∃ ws z, opW op = ws ++ [z] ∧ inV (V.str z) [V.str "and", V.str "or", V.str "if", V.str "else"] = freeO op := by
  cases op with
  | st => exact .inl ⟨rfl, rfl, rfl⟩
  | op c s =>
    have hs : s ∈ allOps := by
      cases c with
      | a A => exact h.2.1
      | t A T => exact h.elim
      | b A T B => exact h.2.2.2.1
    have key : ∀ s ∈ allOps, inV (V.str s) [V.str "and", V.str "or", V.str "if", V.str "else"] = (isAnd s || isOr s) := by decide +kernel
    exact .inr ⟨clW c, s, rfl, key s hs⟩
  | tif A => exact .inr ⟨segW A, wIf, rfl, (by show inV (V.str wIf) _ = true; decide +kernel)⟩
  | tel A T => exact .inr ⟨segW A ++ wIf :: segW T, wElse, rfl, (by show inV (V.str wElse) _ = true; decide +kernel)⟩
def rowWords : List Str := ["+", "-", "*", "//", "mod", "<", "==", "in", "notin", "is", "isnot", "and", "or", "and", "or", "+", "*", ">="]
theorem rowWords_ops : ∀ s ∈ rowWords, s ∈ allOps := by decide +kernel
/-- the store in the loop -/
structure RowSt (p dl wl tk : Addr) (H H1 : Hp) (ws : List Str) : Prop where
  B : BoxAt H1 p dl
  kp : Keep p H H1
  wl_ : H1 wl = some (.lst (strL rowWords))
  tk_ : H1 tk = some (.lst (strL ws))
theorem RowSt.draw {p dl wl tk : Addr} {H H1 H2 : Hp} {ws : List Str} (h : RowSt p dl wl tk H H1 ws) (n1 : wl ≠ p) (n2 : tk ≠ p) (B : BoxAt H2 p dl) (k : Keep p H1 H2) : RowSt p dl wl tk H H2 ws :=
  ⟨B, h.kp.trans k, k _ _ h.wl_ n1, k _ _ h.tk_ n2⟩
theorem RowSt.set {p dl wl tk : Addr} {H H1 : Hp} {ws : List Str} (h : RowSt p dl wl tk H H1 ws) (h0 : H tk = none) (n1 : wl ≠ tk) (n2 : tk ≠ p) (n3 : tk ≠ dl) (us : List Str) : RowSt p dl wl tk H (L2.upd H1 tk (.lst (strL us))) us :=
  ⟨h.B.upd n2 n3, fun b o e hb => by rw [upd_ne (ne_of_none e h0)]; exact h.kp _ _ e hb, by rw [upd_ne n1]; exact h.wl_, upd_same⟩
theorem strL_app (a b : List Str) : strL a ++ strL b = strL (a ++ b) := by unfold strL; rw [List.map_append]
theorem RowSt.same {p dl wl tk : Addr} {H H1 H2 : Hp} {ws : List Str} (h : RowSt p dl wl tk H H1 ws) (S : Same H1 H2) : RowSt p dl wl tk H H2 ws :=
  ⟨h.B.same S, h.kp.trans (Same.keep S), S _ _ h.wl_, S _ _ h.tk_⟩
theorem ixN_nat {n k : Nat} (h : k < n) : ixN n ((k : Nat) : Int) = some k := by
  unfold ixN
  rw [if_pos (by omega), if_pos (by omega)]
  rfl
theorem strL_len (a : List Str) : (strL a).length = a.length := by unfold strL; rw [List.length_map]
theorem RowSt.app {p dl wl tk : Addr} {H H1 : Hp} {ws : List Str} (h : RowSt p dl wl tk H H1 ws) (h0 : H tk = none) (n1 : wl ≠ tk) (n2 : tk ≠ p) (n3 : tk ≠ dl) (z : Str) : RowSt p dl wl tk H (L2.upd H1 tk (.lst (strL ws ++ [V.str z]))) (ws ++ [z]) := by
  have := h.set h0 n1 n2 n3 (ws ++ [z])
  rw [← strL_app] at this
  exact this
abbrev wNot : Str := "not"
abbrev wMinus : Str := "minus"
theorem S_strInt (k : Nat) : Str.ofString (toString (k : Int)) = S (TL.numL k) := TL.ext_tl (TL.tl_num k)
theorem sz_18 : (18 : Nat) ≤ sizeLine := by decide
theorem ss_le {n : Nat} (h : n ≤ 100) : n ≤ sizeLine := Nat.le_trans h (by decide)
theorem ss_lt {n : Nat} (h : n ≤ 100) : n < sizeLine := Nat.lt_of_le_of_lt h (by decide)
theorem clW_lt {c : Cl} {o : Op} {d : Opd} {place k : Nat} (h : OpOk place k o) (e : c = addO o d) : (clW c).length ≤ (opW o).length + 3 := by
  subst e
  rw [addO_w h, List.length_append]
  unfold opdW
  cases d.n <;> cases d.m <;> simp
def spRow (K : PySem.W.Frag) : Sp := fun vs H Q _ => ∃ (p dl : Addr) (many : Nat), vs = [.ref p, .int (many : Int)] ∧ BoxAt H p dl ∧ 2 ≤ many ∧ many ≤ 12 ∧
  ∀ r H' A x, BoxAt H' p dl → Keep p H H' → H r = none → H' r = some (.lst (strL (exprWs A x))) → ExOk A x → ExX A x → (exprWs A x).length ≤ 60 → Q (.ref r) H'
theorem ok_row05 {f : Addr} {fd : FuncData} (F : Fun K "_law_row" "_law_row" s_law_row f fd) (T : Txt K mg) (U_law_draw : Use P w K mg base CX0 "_law_draw" 1 P_law_draw (spDraw K)) : FnG P w K mg base CX0 2 f fd P_law_row (spRow K) := by
  refine okG0 F sc_law_row (fun vs H Q E h => ?_) fun cdv A outer s H vs Q E hr hg h => ?_
  · obtain ⟨p, dl, many, rfl, _⟩ := h
    rfl
  · obtain ⟨p, dl, many, rfl, B, hm2, hm12, k⟩ := h
    refine ⟨_, (pss_cons (ps_set (i := 2) sc_law_row.nd rfl (Or.inl rfl) (pe_lst (pa_cons pe_str (pa_cons pe_str (pa_cons pe_str (pa_cons pe_str (pa_cons pe_str (pa_cons pe_str (pa_cons pe_str (pa_cons pe_str (pa_cons pe_str (pa_cons pe_str (pa_cons pe_str (pa_cons pe_str (pa_cons pe_str (pa_cons pe_str (pa_cons pe_str (pa_cons pe_str (pa_cons pe_str (pa_cons pe_str pa_nil))))))))))))))))))))
  (pss_cons (ps_set (i := 3) sc_law_row.nd rfl (Or.inl rfl) (pe_lst pa_nil))
  (pss_cons (ps_set (i := 4) sc_law_row.nd rfl (Or.inl rfl) (pe_op op_add pe_int (pe_use U_law_draw (hr.mono (by decide)) hg rfl (pa_cons (pv 0) (pa_cons pe_int pa_nil)))))
  (pss_cons (ps_for PassesOwn.never rfl (pi_range1 (by rfl) T.b_range (pa_cons (pv 1) pa_nil)) (pg_name (i := 5) sc_law_row.nd rfl (Or.inl rfl))
   (C8.pss_cut (ps_set (i := 6) sc_law_row.nd rfl (Or.inl rfl) (pe_or (pe_cmpR op_eq (pe_callB call_len (by rfl) T.b_len PySem.boot_len (pa_cons (pv 3) pa_nil)) pe_int (nomark _)) (pe_one (pe_cmpR op_in_seq (pe_ix ix_list (pv 3) (pe_un un_neg pe_int) (fun _ _ => rfl)) (pe_tup (pa_cons pe_str (pa_cons pe_str (pa_cons pe_str (pa_cons pe_str pa_nil))))) (by rfl)))))
  (C8.pss_cut (ps_if (PW.pt (pw_and (pt_val (pv 6)) (pw_and1 (pt_cmpR op_eq (pe_use U_law_draw (hr.mono (by decide)) hg rfl (pa_cons (pv 0) (pa_cons pe_int pa_nil))) pe_int (nomark _)))))
   (pss_one (ps_expr (pe_bm PySem.F.plainAttrs_list PySem.F.slot_list_append PySem.F.type_list_append mt_append (pv 3) (pa_cons pe_str pa_nil))))
   pss_nil)
  (C8.pss_cut (ps_if (pt_cmpR op_eq (pe_use U_law_draw (hr.mono (by decide)) hg rfl (pa_cons (pv 0) (pa_cons pe_int pa_nil))) pe_int (nomark _))
   (pss_one (ps_expr (pe_bm PySem.F.plainAttrs_list PySem.F.slot_list_append PySem.F.type_list_append mt_append (pv 3) (pa_cons pe_str pa_nil))))
   pss_nil)
  (pss_cons (ps_expr (pe_bm PySem.F.plainAttrs_list PySem.F.slot_list_append PySem.F.type_list_append mt_append (pv 3) (pa_cons (pe_op op_add_str pe_str (pe_callTy call_str_int (by rfl) T.b_str (by decide +kernel) (pa_cons (pv 5) pa_nil))) pa_nil)))
  (pss_one (ps_if (pt_cmpR op_lt (pv 5) (pe_op op_sub (pv 1) pe_int) (nomark _))
   (pss_cons (ps_expr (pe_bm PySem.F.plainAttrs_list PySem.F.slot_list_append PySem.F.type_list_append mt_append (pv 3) (pa_cons (pe_ix ix_list (pv 2) (pe_use U_law_draw (hr.mono (by decide)) hg rfl (pa_cons (pv 0) (pa_cons pe_int pa_nil))) (fun _ _ => rfl)) pa_nil)))
  (C8.pss_cut (ps_if (PW.pt (pw_and (pt_cmpR op_lt (pv 4) pe_int (nomark _)) (pw_and1 (pt_cmpR op_eq (pv 5) (pv 4) (nomark _)))))
   (pss_one (ps_asg pe_str (pg_sub (pv 3) (pe_op op_sub (pe_callB call_len (by rfl) T.b_len PySem.boot_len (pa_cons (pv 3) pa_nil)) pe_int) set_list)))
   pss_nil)
  (pss_one (ps_if (PW.pt (pw_and (pt_cmpR op_lt (pv 4) pe_int (nomark _)) (pw_and (pt_cmpR op_gt (pv 5) (pv 4) (nomark _)) (pw_and (pt_cmpR op_in_seq pe_str (pv 3) (by rfl)) (pw_and1 (pt_cmpR op_notIn_seq pe_str (pv 3) (by rfl)))))))
   (pss_one (ps_asg pe_str (pg_sub (pv 3) (pe_op op_sub (pe_callB call_len (by rfl) T.b_len PySem.boot_len (pa_cons (pv 3) pa_nil)) pe_int) set_list)))
   pss_nil))))
   pss_nil)))))))
  (C8.pss_cut (ps_if (PW.pt (pw_and (pt_cmpR op_in_seq pe_str (pv 3) (by rfl)) (pw_and1 (pt_cmpR op_notIn_seq pe_str (pv 3) (by rfl)))))
   (pss_one (ps_set (i := 3) sc_law_row.nd rfl (Or.inl rfl) (pe_op op_cat (pv 3) (pe_lst (pa_cons pe_str (pa_cons pe_str pa_nil))))))
   pss_nil)
  (pss_one (ps_ret (pv 3)))))))), ?_⟩
    refine ⟨sz_18, fun wl hwl => ⟨sz_0, fun tk htk => ?_⟩⟩
    have nwt : wl ≠ tk := fun e => by rw [← e, upd_same] at htk; cases htk
    have htk0 : H tk = none := by rw [upd_ne (Ne.symm nwt)] at htk; exact htk
    obtain ⟨nwp, nwd⟩ := B.ne_new hwl
    obtain ⟨ntp, ntd⟩ := B.ne_new htk0
    have R0 : RowSt p dl wl tk H (upd (upd H wl (.lst (strL rowWords))) tk (.lst (strL []))) [] :=
      ⟨(B.upd nwp nwd).upd ntp ntd, Same.keep ((Same.new hwl).trans (Same.new htk)), by rw [upd_ne nwt]; exact upd_same, upd_same⟩
    refine ⟨_, rfl, p, dl, 10, rfl, R0.B, by decide, fun r0 H1 r1 r2 B1 K1 => ⟨_, _, rfl, rfl, ?_⟩⟩
    obtain ⟨d, rfl⟩ := Int.eq_ofNat_of_zero_le r1
    have R1 := R0.draw nwp ntp B1 K1
    clear R0 K1 B1 htk
    have hpl : ((1 : Int) + (d : Int)) = ((1 + d : Nat) : Int) := by omega
    show gName 4 (V.int ((1 : Int) + (d : Int))) _ _ _
    rw [hpl]
    have hp1 : 1 ≤ 1 + d := by omega
    generalize 1 + d = pl at hp1
    refine ⟨_, rfl, _, rfl, by omega, by omega, ?_⟩
    rw [Int.toNat_natCast]
    refine for_range (lo := 0) (n := many) (fun i σ H3 => ∃ (x5 x6 : Option V) (ws : List Str), σ = [some (.ref p), some (.int (many : Int)), some (.ref wl), some (.ref tk), some (.int (pl : Int)), x5, x6] ∧ RowSt p dl wl tk H H3 ws ∧ ws.length ≤ 4 * i ∧
      ((i < many ∧ ∃ op, LpOk pl i op ∧ ws = opW op) ∨ (i = many ∧ ∃ c, ClOk pl (many - 1) c ∧ ws = clW c))) ⟨none, none, [], rfl, R1, by simp, .inl ⟨by omega, .st, ⟨rfl, fun A s e => by rcases e with e | ⟨_, _, e⟩ <;> cases e⟩, rfl⟩⟩ ?_ ?_
    · rintro i σ H3 hi ⟨x5, x6, ws, rfl, R3, hl, hc⟩
      rw [Int.zero_add]
      rcases hc with ⟨_, op, hop, rfl⟩ | ⟨rfl, _⟩
      · refine ⟨fun σ H4 => σ = [some (.ref p), some (.int (many : Int)), some (.ref wl), some (.ref tk), some (.int (pl : Int)), some (.int (i : Int)), some (.bl (freeO op))] ∧ RowSt p dl wl tk H H4 (opW op), ?_, ?_⟩
        · refine ⟨_, rfl, _, _, rfl, .inl ⟨_, SqL.of R3.tk_, rfl⟩, rfl, _, rfl, ?_⟩
          rcases opW_last hop.1 with ⟨rfl, e1, e2⟩ | ⟨us, z, e1, e2⟩
          · exact iteTb (by decide) ⟨rfl, R3⟩
          · rw [e1] at R3
            have hln : decide (V.int (((strL (opW op)).length : Nat) : Int) = V.int 0) = false := by
              rw [e1]
              refine decide_eq_false fun e => ?_
              have e := V.int.inj e
              rw [strL_len, List.length_append, List.length_singleton] at e
              omega
            refine iteFb hln ?_
            refine ⟨_, rfl, _, rfl, tk, _, _, .str z, rfl, rfl, SqL.of R3.tk_, by rw [← strL_app]; exact atI_last _ _, sz_4, fun t ht => ⟨t, _, rfl, .inr (SqT.of upd_same), rfl, rfl, ?_⟩⟩
            refine ⟨by rw [← e2]; rfl, ?_⟩
            rw [e1]
            exact R3.same (Same.new ht)
        · rintro _ H4 ⟨rfl, R4⟩
          refine ⟨fun σ H5 => ∃ n : Bool, (n = true → freeO op = true) ∧ σ = [some (.ref p), some (.int (many : Int)), some (.ref wl), some (.ref tk), some (.int (pl : Int)), some (.int (i : Int)), some (.bl (freeO op))] ∧ RowSt p dl wl tk H H5 (opW op ++ if n = true then [wNot] else []), ?_, ?_⟩
          · have no : ∀ {H5 : Hp}, RowSt p dl wl tk H H5 (opW op) → RowSt p dl wl tk H H5 (opW op ++ if false = true then [wNot] else []) := fun R => by rw [if_neg Bool.false_ne_true, List.append_nil]; exact R
            refine ⟨_, rfl, _, rfl, ?_⟩
            refine ite3 (fun hf => ?_) fun hf => ?_
            · refine ⟨_, rfl, p, dl, 4, rfl, R4.B, by decide, fun r H5 r1 r2 B5 K5 => ⟨rfl, _, rfl, ?_⟩⟩
              have R5 := R4.draw nwp ntp B5 K5
              refine ite3 (fun _ => ?_) fun _ => ⟨false, fun e => absurd e Bool.false_ne_true, rfl, no R5⟩
              exact ⟨_, rfl, .inl ⟨rfl, _, SqL.of R5.tk_⟩, tk, _, _, rfl, rfl, R5.tk_, by rw [strL_len]; exact ss_lt (by omega), true, fun _ => hf, rfl, by rw [if_pos rfl]; exact R5.app htk0 nwt ntp ntd _⟩
            · exact iteFb rfl ⟨false, fun e => absurd e Bool.false_ne_true, rfl, no R4⟩
          · rintro _ H5 ⟨n, hn, rfl, R5⟩
            refine ⟨fun σ H6 => ∃ m : Bool, σ = [some (.ref p), some (.int (many : Int)), some (.ref wl), some (.ref tk), some (.int (pl : Int)), some (.int (i : Int)), some (.bl (freeO op))] ∧ RowSt p dl wl tk H H6 ((opW op ++ if n = true then [wNot] else []) ++ if m = true then [wMinus] else []), ?_, ?_⟩
            · generalize hus : (opW op ++ if n = true then [wNot] else []) = us at R5
              have lus : us.length ≤ 50 := by
                rw [← hus, List.length_append]
                have : (if n = true then [wNot] else []).length ≤ 1 := by cases n <;> simp
                omega
              refine ⟨_, rfl, p, dl, 4, rfl, R5.B, by decide, fun r H6 r1 r2 B6 K6 => ⟨rfl, _, rfl, ?_⟩⟩
              have R6 := R5.draw nwp ntp B6 K6
              refine ite3 (fun _ => ?_) fun _ => ⟨false, rfl, by rw [if_neg Bool.false_ne_true, List.append_nil]; exact R6⟩
              exact ⟨_, rfl, .inl ⟨rfl, _, SqL.of R6.tk_⟩, tk, _, _, rfl, rfl, R6.tk_, by rw [strL_len]; exact ss_lt (by omega), true, rfl, by rw [if_pos rfl]; exact R6.app htk0 nwt ntp ntd _⟩
            · rintro _ H6 ⟨m, rfl, R6⟩
              have hi12 : i < 12 := by omega
              have hx : NmX (120 :: TL.numL i) := .inl ⟨i, by omega, rfl⟩
              have hcl : ClOk pl i (addO op ⟨n, m, 120 :: TL.numL i⟩) := addO_ok hp1 hop.1 hn hx hop.2
              have hwl := clW_lt hop.1 (rfl : addO op ⟨n, m, 120 :: TL.numL i⟩ = _)
              have hcw : clW (addO op ⟨n, m, 120 :: TL.numL i⟩) = ((opW op ++ if n = true then [wNot] else []) ++ if m = true then [wMinus] else []) ++ [S (120 :: TL.numL i)] := by
                rw [addO_w hop.1]
                unfold opdW
                rw [← List.append_assoc, ← List.append_assoc]
              generalize addO op ⟨n, m, 120 :: TL.numL i⟩ = c at hcl hwl hcw
              have lus := congrArg List.length hcw
              rw [List.length_append, List.length_singleton] at lus
              generalize (opW op ++ if n = true then [wNot] else []) ++ (if m = true then [wMinus] else []) = us at R6 hcw lus
              have ex : (Str.ofString "x" ++ Str.ofString (toString (i : Int)) : Str) = S (120 :: TL.numL i) := by
                rw [S_strInt]
                exact TL.ext_tl (TL.tl_append _ _)
              have el : Str.length (Str.ofString "x") + Str.length (Str.ofString (toString (i : Int))) ≤ 100 := by
                have : ∀ i < 12, (TL.numL i).length ≤ 10 := by decide +kernel
                have := this i hi12
                have e1 : Str.length (Str.ofString "x") = 1 := by decide
                rw [e1, S_strInt, S_len]
                omega
              refine ⟨_, rfl, .inl ⟨rfl, _, SqL.of R6.tk_⟩, _, rfl, _, rfl, ?_, _, _, rfl, rfl, ss_le el, tk, _, _, rfl, rfl, R6.tk_, by rw [strL_len]; exact ss_lt (by omega), ?_⟩
              · have : ∀ i < 12, ((i : Nat) : Int).natAbs.log2 < 1920 := by decide +kernel
                exact this i hi12
              · rw [ex]
                have R7 := R6.app htk0 nwt ntp ntd (S (120 :: TL.numL i))
                rw [← hcw] at R7
                refine ⟨_, rfl, _, rfl, _, _, rfl, rfl, _, _, rfl, rfl, _, rfl, ?_⟩
                generalize upd H6 tk _ = H7 at R7
                have lc : (clW c).length ≤ 60 := by omega
                refine ite3 (fun hlt => ?_) fun hlt => ?_
                · have hlt : i + 1 < many := by have := of_decide_eq_true hlt; omega
                  refine ⟨_, rfl, .inl ⟨rfl, _, SqL.of R7.tk_⟩, _, rfl, _, rfl, p, dl, 18, rfl, R7.B, by decide, fun r H8 r1 r2 B8 K8 => ?_⟩
                  have R8 := R7.draw nwp ntp B8 K8
                  obtain ⟨j, rfl⟩ := Int.eq_ofNat_of_zero_le r1
                  have hj : j < rowWords.length := by show j < 18; omega
                  have hz := List.getElem?_eq_getElem hj
                  generalize rowWords[j] = z at hz
                  have hzo := rowWords_ops z (List.mem_of_getElem? hz)
                  refine ⟨wl, _, _, .str z, rfl, rfl, SqL.of R8.wl_, atI_nat (by unfold strL; rw [List.getElem?_map, hz]; rfl), tk, _, _, rfl, rfl, R8.tk_, by rw [strL_len]; exact ss_lt (by omega), ?_⟩
                  have R9 := R8.app htk0 nwt ntp ntd z
                  generalize upd H8 tk _ = H9 at R9
                  obtain ⟨n1, n2⟩ := op_next hp1 hcl hzo
                  have l9 : (clW c ++ [z]).length = (clW c).length + 1 := by rw [List.length_append, List.length_singleton]
                  have ix9 : ixN (strL (clW c ++ [z])).length (((strL (clW c ++ [z])).length : Nat) - 1 : Int) = some (clW c).length := by
                    rw [strL_len, l9, show ((((clW c).length + 1 : Nat) : Int) - 1) = (((clW c).length : Nat) : Int) by omega]
                    exact ixN_nat (by omega)
                  have st9 : ∀ y : Str, (strL (clW c ++ [z])).set (clW c).length (V.str y) = strL (clW c ++ [y]) := fun y => by
                    rw [← strL_app, ← strL_app, List.set_append_right _ _ (by rw [strL_len]; exact Nat.le_refl _), strL_len, Nat.sub_self]
                    rfl
                  refine ⟨fun σ H10 => σ = [some (.ref p), some (.int (many : Int)), some (.ref wl), some (.ref tk), some (.int (pl : Int)), some (.int (i : Int)), some (.bl (freeO op))] ∧ ((pl < 6 ∧ i = pl ∧ RowSt p dl wl tk H H10 (clW c ++ [wIf])) ∨ (¬ (pl < 6 ∧ i = pl) ∧ RowSt p dl wl tk H H10 (clW c ++ [z]))), ?_, ?_⟩
                  · refine ⟨_, rfl, _, _, rfl, rfl, _, rfl, ?_⟩
                    refine ite3 (fun c6 => ?_) fun c6 => ?_
                    · have c6 : pl < 6 := by have := of_decide_eq_true c6; omega
                      refine ⟨_, rfl, _, rfl, rfl, _, rfl, ?_⟩
                      refine ite3 (fun ck => ?_) fun ck => ?_
                      · have ck : i = pl := by have := V.int.inj (of_decide_eq_true ck); omega
                        refine ⟨_, rfl, _, rfl, _, _, rfl, .inl ⟨_, SqL.of R9.tk_, rfl⟩, _, _, rfl, rfl, tk, _, _, _, rfl, rfl, R9.tk_, ix9, rfl, .inl ⟨c6, ck, ?_⟩⟩
                        rw [st9]
                        exact R9.set htk0 nwt ntp ntd _
                      · have ck : i ≠ pl := fun e => by have := of_decide_eq_false ck; rw [e] at this; exact this rfl
                        exact ⟨rfl, .inr ⟨fun h => ck h.2, R9⟩⟩
                    · have c6 : ¬ pl < 6 := by have := of_decide_eq_false c6; omega
                      exact iteFb rfl ⟨rfl, .inr ⟨fun h => c6 h.1, R9⟩⟩
                  · rintro _ H10 ⟨rfl, h10⟩
                    refine ⟨_, rfl, _, _, rfl, rfl, _, rfl, ?_⟩
                    have fin : ∀ {H11 : Hp} {y : Str}, RowSt p dl wl tk H H11 (clW c ++ [y]) → (∃ op, LpOk pl (i + 1) op ∧ opW op = clW c ++ [y]) → ∃ (x5 x6 : Option V) (ws : List Str), [some (V.ref p), some (.int (many : Int)), some (.ref wl), some (.ref tk), some (.int (pl : Int)), some (.int (i : Int)), some (.bl (freeO op))] = [some (.ref p), some (.int (many : Int)), some (.ref wl), some (.ref tk), some (.int (pl : Int)), x5, x6] ∧ RowSt p dl wl tk H H11 ws ∧ ws.length ≤ 4 * (i + 1) ∧
                        ((i + 1 < many ∧ ∃ op, LpOk pl (i + 1) op ∧ ws = opW op) ∨ (i + 1 = many ∧ ∃ c, ClOk pl (many - 1) c ∧ ws = clW c)) := fun R ⟨op', h1, h2⟩ =>
                      ⟨_, _, _, rfl, R, by rw [List.length_append, List.length_singleton]; omega, .inl ⟨hlt, op', h1, h2.symm⟩⟩
                    rcases h10 with ⟨c6, ck, R10⟩ | ⟨cn, R10⟩
                    · refine iteTb (decide_eq_true (by omega)) ?_
                      refine ⟨_, rfl, _, rfl, _, _, rfl, rfl, _, rfl, ?_⟩
                      refine iteFb (decide_eq_false (by omega)) ?_
                      exact iteFb rfl (fin R10 (n1 ⟨c6, ck⟩))
                    · obtain ⟨n3, n4⟩ := n2 cn
                      refine ite3 (fun c6 => ?_) fun c6 => ?_
                      · have c6 : pl < 6 := by have := of_decide_eq_true c6; omega
                        refine ⟨_, rfl, _, rfl, _, _, rfl, rfl, _, rfl, ?_⟩
                        refine ite3 (fun ck => ?_) fun ck => ?_
                        · have ck : pl < i := by have := of_decide_eq_true ck; omega
                          refine ⟨_, rfl, tk, _, rfl, .inl (SqL.of R10.tk_), rfl, strL_flat _, _, rfl, ?_⟩
                          rw [inV_mem]
                          refine ite3 (fun h1 => ?_) fun h1 => ?_
                          · refine ⟨_, rfl, tk, _, rfl, .inl (SqL.of R10.tk_), rfl, strL_flat _, _, rfl, ?_⟩
                            rw [inV_mem]
                            refine ite3 (fun h2 => ?_) fun h2 => ?_
                            · have h2 : wElse ∉ clW c ++ [z] := by
                                have h2 : (!decide (wElse ∈ clW c ++ [z])) = true := h2
                                simpa using h2
                              refine ⟨_, rfl, _, rfl, _, _, rfl, .inl ⟨_, SqL.of R10.tk_, rfl⟩, _, _, rfl, rfl, tk, _, _, _, rfl, rfl, R10.tk_, ix9, ?_⟩
                              rw [st9]
                              exact fin (R10.set htk0 nwt ntp ntd _) (n3 ⟨c6, ck, of_decide_eq_true h1, h2⟩)
                            · refine fin R10 (n4 fun h => ?_)
                              have h2 : (!decide (wElse ∈ clW c ++ [z])) = false := h2
                              rw [decide_eq_false h.2.2.2] at h2
                              cases h2
                          · exact iteFb rfl (fin R10 (n4 fun h => of_decide_eq_false h1 h.2.2.1))
                        · exact iteFb rfl (fin R10 (n4 fun h => by have := of_decide_eq_false ck; omega))
                      · exact iteFb rfl (fin R10 (n4 fun h => by have := of_decide_eq_false c6; omega))
                · have hlt : i + 1 = many := by have := of_decide_eq_false hlt; omega
                  exact ⟨_, _, _, rfl, R7, by omega, .inr ⟨hlt, c, by rw [← hlt]; exact hcl, rfl⟩⟩
      · exact absurd hi (Nat.lt_irrefl _)
    · rintro σ H3 ⟨x5, x6, ws, rfl, R3, hl, hc⟩
      rcases hc with ⟨c, _⟩ | ⟨_, c, hc, rfl⟩
      · exact absurd c (Nat.lt_irrefl _)
      · have frs : ∀ {H4 : Hp} {r : Addr}, Keep p H H4 → BoxAt H4 p dl → H4 r = none → H r = none := fun {H4 r} K4 B4 h4 => none_back0 K4 B4.at_ h4
        refine ⟨fun σ H4 => ∃ (r : Addr) (A : SegR) (x : Option (SegR × SegR)) (x5 x6 : Option V), σ = [some (.ref p), some (.int (many : Int)), some (.ref wl), some (.ref r), some (.int (pl : Int)), x5, x6] ∧ BoxAt H4 p dl ∧ Keep p H H4 ∧ H r = none ∧ H4 r = some (.lst (strL (exprWs A x))) ∧ ExOk A x ∧ ExX A x ∧ (exprWs A x).length ≤ 60, ?_, ?_⟩
        · refine ⟨_, rfl, tk, _, rfl, .inl (SqL.of R3.tk_), rfl, strL_flat _, _, rfl, ?_⟩
          have hin : inV (V.str ("if" : Str)) (strL (clW c)) = decide (wIf ∈ clW c) := inV_mem
          have hel : (!inV (V.str ("else" : Str)) (strL (clW c))) = !decide (wElse ∈ clW c) := by rw [inV_mem]
          have exO : ∀ {A : SegR}, SgOk A (many - 1) → lenS A ≤ 12 := fun h => Nat.le_trans h.2.2 (by omega)
          cases c with
          | a A =>
            have e1 : inV (V.str ("if" : Str)) (strL (clW (.a A))) = false := hin.trans (decide_eq_false (segW_mem hc.1.2.1.n hc.1.1.op (.inl rfl)))
            refine iteFb e1 (iteFb rfl ⟨tk, A, none, _, _, rfl, R3.B, R3.kp, htk0, R3.tk_, ⟨hc.1.1, exO hc.1, fun _ _ e => nomatch e⟩, ⟨hc.1.2.1, fun _ _ e => nomatch e⟩, Nat.le_trans hl (by omega)⟩)
          | t A T =>
            obtain ⟨a1, a2, a3, a4⟩ := hc
            have e1 : inV (V.str ("if" : Str)) (strL (clW (.t A T))) = true := hin.trans (decide_eq_true (by simp [clW]))
            have e2 : (!inV (V.str ("else" : Str)) (strL (clW (.t A T)))) = true := by
              have b1 := segW_mem a1.2.1.n a1.1.op (z := wElse) (.inr rfl)
              have b2 := segW_mem a2.2.1.n a2.1.op (z := wElse) (.inr rfl)
              have e1 : wElse ≠ wIf := by decide +kernel
              rw [hel, decide_eq_false (by simp only [clW, List.mem_append, List.mem_cons, not_or]; exact ⟨b1, e1, b2⟩)]
              rfl
            refine iteTb e1 ⟨_, rfl, tk, _, rfl, .inl (SqL.of R3.tk_), rfl, strL_flat _, _, rfl, iteTb e2 ?_⟩
            refine ⟨_, rfl, sz_2, fun u hu => ?_⟩
            have R4 := R3.same (Same.new (o := .lst (strL [wElse, S [122]])) hu)
            have eu : upd H3 u (.lst (strL [wElse, S [122]])) u = some (.lst (strL [wElse, S [122]])) := upd_same
            refine ⟨tk, u, _, _, rfl, rfl, R4.tk_, eu, by rw [strL_len, strL_len]; exact ss_le (by simp; omega), fun q hq => ?_⟩
            have R5 := R4.same (Same.new (o := .lst (strL (clW (.t A T)) ++ strL [wElse, S [122]])) hq)
            have hB : SegOk (⟨false, false, [122]⟩ : Opd) [] := ⟨by simp, by simp⟩
            refine ⟨q, A, some (T, (⟨false, false, [122]⟩, [])), _, _, rfl, R5.B, R5.kp, frs R4.kp R4.B hq, ?_, ⟨a1.1, exO a1, fun T' B' e => by cases e; exact ⟨a2.1, hB, exO a2, by simp [lenS]⟩⟩, ⟨a1.2.1, fun T' B' e => by cases e; exact ⟨a2.2.1, .inr rfl, by simp⟩⟩, ?_⟩
            · rw [upd_same, strL_app]
              simp [clW, exprWs, segW, opdW]
            · have : exprWs A (some (T, (⟨false, false, [122]⟩, []))) = clW (.t A T) ++ [wElse, S [122]] := by simp [clW, exprWs, segW, opdW]
              rw [this, List.length_append]
              have : ([wElse, S [122]] : List Str).length = 2 := rfl
              omega
          | b A T B =>
            obtain ⟨a1, a2, a3, a4, a5⟩ := hc
            have e1 : inV (V.str ("if" : Str)) (strL (clW (.b A T B))) = true := hin.trans (decide_eq_true (by simp [clW]))
            have e2 : (!inV (V.str ("else" : Str)) (strL (clW (.b A T B)))) = false := by
              rw [hel, decide_eq_true (by simp [clW])]
              rfl
            exact iteTb e1 ⟨_, rfl, tk, _, rfl, .inl (SqL.of R3.tk_), rfl, strL_flat _, _, rfl, iteFb e2 ⟨tk, A, some (T, B), _, _, rfl, R3.B, R3.kp, htk0, R3.tk_, ⟨a1.1, exO a1, fun _ _ e => by cases e; exact ⟨a2.1, a3.1, exO a2, exO a3⟩⟩, ⟨a1.2.1, fun _ _ e => by cases e; exact ⟨a2.2.1, a3.2.1⟩⟩, Nat.le_trans hl (by omega)⟩⟩
        · rintro _ H4 ⟨r, A, x, x5, x6, rfl, B4, K4, h0, e4, o1, o2, o3⟩
          exact ⟨_, rfl, k r H4 A x B4 K4 h0 e4 o1 o2 o3⟩
end

section
--SPLIT
end
section
/-! the text of a row: its words, read as its tokens -/
def wmap (w : Str) : Str := if decide (V.str w = V.str "notin") = true then "not in" else if decide (V.str w = V.str "isnot") = true then "is not" else if decide (V.str w = V.str "minus") = true then "-" else w
def codes (w : Str) : List Nat := TL.tl (wmap w)
/-- a written word: what it is read as -/
structure WTk (w : Str) (T : List Tk) : Prop where
  rd : ∀ (a : List Nat) (st0 st : St) (ts : List PyData), RowOk 1 a none st0 st ts → ∃ sg, RowOk 1 (a ++ codes w) (some sg) st0 st (ts ++ T.map tkD)
  ch : ∀ c ∈ codes w, okC c = true ∧ c ≠ 10
  ln : (codes w).length ≤ 10
  tk : ∀ t ∈ T, ∃ k z, t = ⟨k, .str z, 1⟩
  tl : T.length ≤ 2
inductive RowWs : List Str → List Tk → Prop
  | nil : RowWs [] []
  | cons {w : Str} {T1 : List Tk} {ws : List Str} {T2 : List Tk} : WTk w T1 → RowWs ws T2 → RowWs (w :: ws) (T1 ++ T2)
theorem RowWs.app {a b : List Str} {S T : List Tk} (h : RowWs a S) (g : RowWs b T) : RowWs (a ++ b) (S ++ T) := by
  induction h with
  | nil => exact g
  | cons h1 _ ih => rw [List.append_assoc]; exact .cons h1 ih
theorem RowWs.one {w : Str} {T : List Tk} (h : WTk w T) : RowWs [w] T := by
  have := RowWs.cons h .nil
  rwa [List.append_nil] at this
theorem RowWs.tk {ws : List Str} {T : List Tk} (h : RowWs ws T) : (∀ t ∈ T, ∃ k z, t = ⟨k, .str z, 1⟩) ∧ T.length ≤ 2 * ws.length := by
  induction h with
  | nil => exact ⟨by simp, by simp⟩
  | cons h1 _ ih =>
    refine ⟨fun t ht => ?_, ?_⟩
    · rcases List.mem_append.mp ht with ht | ht
      · exact h1.tk t ht
      · exact ih.1 t ht
    · rw [List.length_append, List.length_cons]
      have := h1.tl
      omega
def rowT (ws : List Str) : List Nat := TL.joinL [32] (ws.map codes)
theorem rowT_cons (w y : Str) (r : List Str) : rowT (w :: y :: r) = codes w ++ ([32] ++ rowT (y :: r)) := rfl
theorem RowWs.run {ws : List Str} {T : List Tk} (h : RowWs ws T) (hne : ws ≠ []) : ∀ (a : List Nat) (st0 st : St) (ts : List PyData), RowOk 1 a none st0 st ts → ∃ sg, RowOk 1 (a ++ rowT ws) (some sg) st0 st (ts ++ T.map tkD) := by
  induction h with
  | nil => exact absurd rfl hne
  | @cons w T1 ws T2 h1 h2 ih =>
    intro a st0 st ts hR
    obtain ⟨sg, h3⟩ := h1.rd a st0 st ts hR
    cases ws with
    | nil =>
      cases h2
      rw [List.append_nil]
      exact ⟨sg, h3⟩
    | cons y r =>
      obtain ⟨sg2, h4⟩ := ih (by simp) _ st0 st _ h3.sp1
      refine ⟨sg2, ?_⟩
      rw [rowT_cons, List.map_append]
      simp only [List.append_assoc] at h4 ⊢
      exact h4
theorem RowWs.cs {ws : List Str} {T : List Tk} (h : RowWs ws T) : (∀ c ∈ rowT ws, okC c = true ∧ c ≠ 10) ∧ (rowT ws).length ≤ 11 * ws.length := by
  induction h with
  | nil => exact ⟨by simp [rowT, TL.joinL], by simp [rowT, TL.joinL]⟩
  | @cons w T1 ws T2 h1 h2 ih =>
    have := h1.ln
    cases ws with
    | nil =>
      refine ⟨h1.ch, ?_⟩
      show (codes w).length ≤ 11 * 1
      omega
    | cons y r =>
      rw [rowT_cons]
      refine ⟨fun c hc => ?_, ?_⟩
      · rcases List.mem_append.mp hc with hc | hc
        · exact h1.ch c hc
        · rcases List.mem_append.mp hc with hc | hc
          · rw [List.mem_singleton.mp hc]; exact ⟨by decide +kernel, by decide⟩
          · exact ih.1 c hc
      · simp only [List.length_append, List.length_cons, List.length_nil] at ih ⊢
        have := ih.2
        omega
/-- one token, a word or a name -/
theorem wtk1 {w : Str} {c : Nat} {sg : Bool} {d : Int → PyData} {t : Tk} (hw : codes w ≠ []) (h : LexT (codes w) sg d) (hd : d 1 = tkD t) (hc : ∀ c ∈ codes w, okC c = true ∧ c ≠ 10) (hl : (codes w).length ≤ 10) (ht : ∃ k z, t = ⟨k, .str z, 1⟩) : WTk w [t] where
  rd := fun a st0 st ts hR => ⟨sg, by
    have := hR.tok hw (fun _ => trivial) h
    rw [hd] at this
    exact this⟩
  ch := hc
  ln := hl
  tk := fun t' ht' => by rw [List.mem_singleton.mp ht']; exact ht
  tl := by simp
theorem S_tl (w : Str) : S (TL.tl w) = w := TL.ext_tl rfl
/-- the single words -/
def wordsK : List Str := ["mod", "in", "is", "and", "or", "not", "if", "else"]
theorem wtk_kw : ∀ w ∈ wordsK, WTk w [mkT 1 "word" w] := by
  have key : ∀ w ∈ wordsK, codes w = TL.tl w ∧ TL.tl w ≠ [] ∧ (TL.tl w).head?.any isL = true ∧ (TL.tl w).all isW = true ∧ kwB (TL.tl w) = true ∧ ((TL.tl w).all fun c => okC c && c != 10) = true ∧ (TL.tl w).length ≤ 10 := by decide +kernel
  intro w hw
  obtain ⟨e, h1, h2, h3, h4, h5, h6⟩ := key w hw
  obtain ⟨c, hc, hcl⟩ : ∃ c, (TL.tl w).head? = some c ∧ isL c = true := by
    cases e : (TL.tl w).head? with
    | none => rw [e] at h2; cases h2
    | some c => rw [e] at h2; exact ⟨c, rfl, h2⟩
  refine wtk1 (c := 0) (d := wordD (TL.tl w)) (by rw [e]; exact h1) (by rw [e]; exact lexT_word hc hcl (List.all_eq_true.mp h3) (.inl h4)) ?_ ?_ (by rw [e]; exact h6) ⟨_, _, rfl⟩
  · unfold wordD tkD mkT
    rw [h4, if_pos rfl, S_tl]
  · rw [e]
    intro c hc
    have := List.all_eq_true.mp h5 c hc
    simpa using this
theorem wtk_sg : ∀ w ∈ (["+", "-", "*", "//", "<", "==", ">="] : List Str), WTk w [mkT 1 "sign" w] := by
  have key : ∀ w ∈ (["+", "-", "*", "//", "<", "==", ">="] : List Str), codes w = TL.tl w ∧ TL.tl w ∈ plainS ∧ ((TL.tl w).all fun c => okC c && c != 10) = true ∧ (TL.tl w).length ≤ 10 ∧ TL.tl w ≠ [] := by decide +kernel
  intro w hw
  obtain ⟨e, h1, h5, h6, h7⟩ := key w hw
  refine wtk1 (c := 0) (d := signD (TL.tl w)) (by rw [e]; exact h7) (by rw [e]; exact lexT_sign h1) ?_ ?_ (by rw [e]; exact h6) ⟨_, _, rfl⟩
  · unfold signD tkD mkT
    rw [S_tl]
  · rw [e]
    intro c hc
    have := List.all_eq_true.mp h5 c hc
    simpa using this
theorem wtk_minus : WTk "minus" [mkT 1 "sign" "-"] := by
  have e : codes "minus" = codes "-" := by decide +kernel
  have h := wtk_sg "-" (by decide +kernel)
  exact ⟨by rw [e]; exact h.rd, by rw [e]; exact h.ch, by rw [e]; exact h.ln, h.tk, h.tl⟩
theorem wtk_two {w a b : Str} (e : codes w = codes a ++ [32] ++ codes b) (ha : a ∈ wordsK) (hb : b ∈ wordsK) (hl : (codes w).length ≤ 10) : WTk w [mkT 1 "word" a, mkT 1 "word" b] := by
  have h1 := wtk_kw a ha
  have h2 := wtk_kw b hb
  refine ⟨fun x st0 st ts hR => ?_, fun c hc => ?_, hl, fun t ht => ?_, by simp⟩
  · obtain ⟨sg, h3⟩ := h1.rd x st0 st ts hR
    obtain ⟨sg2, h4⟩ := h2.rd _ st0 st _ h3.sp1
    refine ⟨sg2, ?_⟩
    rw [e]
    simp only [List.append_assoc, List.map_cons, List.map_nil, List.singleton_append] at h4 ⊢
    exact h4
  · rw [e] at hc
    rcases List.mem_append.mp hc with hc | hc
    · rcases List.mem_append.mp hc with hc | hc
      · exact h1.ch c hc
      · rw [List.mem_singleton.mp hc]; exact ⟨by decide +kernel, by decide⟩
    · exact h2.ch c hc
  · simp only [List.mem_cons, List.not_mem_nil, or_false] at ht
    rcases ht with rfl | rfl <;> exact ⟨_, _, rfl⟩
theorem wtk_op : ∀ s ∈ allOps, WTk s (sgT 1 s) := by
  have key : ∀ s ∈ allOps, (s ∈ (["+", "-", "*", "//", "<", "==", ">="] : List Str) ∧ inV (V.str s) [V.str "+", V.str "-", V.str "*", V.str "//", V.str "<", V.str "==", V.str ">="] = true) ∨
      (inV (V.str s) [V.str "+", V.str "-", V.str "*", V.str "//", V.str "<", V.str "==", V.str ">="] = false ∧ ((s = "notin" ∧ inV (V.str s) [V.str "notin"] = true) ∨ (inV (V.str s) [V.str "notin"] = false ∧ ((s = "isnot" ∧ inV (V.str s) [V.str "isnot"] = true) ∨ (inV (V.str s) [V.str "isnot"] = false ∧ s ∈ wordsK))))) := by decide +kernel
  intro s hs
  unfold sgT
  rcases key s hs with ⟨h1, h2⟩ | ⟨h1, ⟨rfl, h2⟩ | ⟨h2, ⟨rfl, h3⟩ | ⟨h3, h4⟩⟩⟩
  · rw [if_pos h2]; exact wtk_sg s h1
  · rw [h1, if_neg Bool.false_ne_true, if_pos h2]
    exact wtk_two (by decide +kernel) (by decide +kernel) (by decide +kernel) (by decide +kernel)
  · rw [h1, h2, if_neg Bool.false_ne_true, if_neg Bool.false_ne_true, if_pos h3]
    exact wtk_two (by decide +kernel) (by decide +kernel) (by decide +kernel) (by decide +kernel)
  · rw [h1, h2, h3, if_neg Bool.false_ne_true, if_neg Bool.false_ne_true, if_neg Bool.false_ne_true]
    exact wtk_kw s h4
theorem wmap_nm {x : List Nat} (h : NmW x) : wmap (S x) = S x := by
  unfold wmap
  have no : ∀ w ∈ wordsAll, decide (V.str (S x) = V.str w) = false := fun w hw => by
    have := of_decide_eq_false (h w hw)
    exact decide_eq_false fun e => this e.symm
  rw [no "notin" (by decide +kernel), no "isnot" (by decide +kernel), no "minus" (by decide +kernel)]
  rfl
theorem isD_okC {c : Nat} (h : isD c = true) : okC c = true ∧ c ≠ 10 := by
  unfold isD at h
  rw [Bool.and_eq_true] at h
  have h1 := of_decide_eq_true h.1
  have h2 := of_decide_eq_true h.2
  have key : ∀ c < 58, 48 ≤ c → okC c = true ∧ c ≠ 10 := by decide +kernel
  exact key c (by omega) h1
theorem wtk_nm {x : List Nat} (h : NmX x) : WTk (S x) [nmT 1 x] := by
  have e : codes (S x) = x := by
    unfold codes
    rw [wmap_nm h.nm]
  have kw0 : ∀ w ∈ kwords, w.cps.toList.head? ≠ some 120 ∧ w.cps.toList.head? ≠ some 122 := by decide +kernel
  have hkw : ∀ c xs, (c = 120 ∨ c = 122) → kwB (c :: xs) = false := fun c xs hc => by
    unfold kwB inV
    rw [List.any_eq_false]
    intro v hv
    obtain ⟨w, hw, rfl⟩ := List.mem_map.mp hv
    obtain ⟨k1, k2⟩ := kw0 w hw
    intro e
    have e : decide (w = S (c :: xs)) = true := e
    have e := of_decide_eq_true e
    subst e
    have : (S (c :: xs)).cps.toList.head? = some c := rfl
    rcases hc with rfl | rfl
    · exact k1 this
    · exact k2 this
  have fin : ∀ c xs, x = c :: xs → (c = 120 ∨ c = 122) → (∀ d ∈ xs, isD d = true) → xs.length ≤ 9 → WTk (S x) [nmT 1 x] := fun c xs ex hc hd hl => by
    have hw : ∀ d ∈ x, isW d = true := fun d hm => by
      rw [ex] at hm
      rcases List.mem_cons.mp hm with rfl | hm
      · rcases hc with rfl | rfl <;> decide +kernel
      · exact isD_isW (hd d hm)
    refine wtk1 (c := 0) (d := wordD x) (by rw [e, ex]; simp) (by
      rw [e]
      exact lexT_word (c := c) (by rw [ex]; rfl) (by rcases hc with rfl | rfl <;> decide +kernel) hw (.inr (by rw [ex, List.length_cons]; omega))) ?_ ?_ (by rw [e, ex, List.length_cons]; omega) ⟨_, _, rfl⟩
    · unfold wordD tkD nmT
      rw [show kwB x = false by rw [ex]; exact hkw c xs hc, if_neg Bool.false_ne_true]
    · rw [e, ex]
      intro d hm
      rcases List.mem_cons.mp hm with rfl | hm
      · rcases hc with rfl | rfl <;> decide +kernel
      · exact isD_okC (hd d hm)
  rcases h with ⟨k, hk, rfl⟩ | rfl
  · have := TL.numL_len (n := k) (k := 9) (by decide) (by omega)
    exact fin 120 _ rfl (.inl rfl) (fun d hd => by
      have := TL.numL_digits k d hd
      unfold isD
      rw [Bool.and_eq_true]
      exact ⟨decide_eq_true this.1, decide_eq_true this.2⟩) this
  · exact fin 122 [] rfl (.inr rfl) (by simp) (by simp)
theorem ws_opd {o : Opd} (h : NmX o.x) : RowWs (opdW o) (opdT 1 o) := by
  unfold opdW opdT
  refine ((?_ : RowWs _ _).app ?_).app (.one (wtk_nm h))
  · cases o.n with
    | true => exact .one (wtk_kw "not" (by decide +kernel))
    | false => exact .nil
  · cases o.m with
    | true => exact .one wtk_minus
    | false => exact .nil
theorem ws_seg {s : SegR} (h : SegX s) (hO : ∀ q ∈ s.2, q.1 ∈ allOps) : RowWs (segW s) (segT' 1 s) := by
  refine (ws_opd h.1).app ?_
  obtain ⟨o, l⟩ := s
  have h2 := h.2
  clear h
  dsimp only at h2 hO ⊢
  induction l with
  | nil => exact .nil
  | cons q l ih =>
    rw [List.flatMap_cons, List.flatMap_cons]
    exact ((RowWs.one (wtk_op _ (hO q (by simp)))).app (ws_opd (h2 q (by simp)))).app (ih (fun r hr => hO r (List.mem_cons_of_mem _ hr)) fun r hr => h2 r (List.mem_cons_of_mem _ hr))
theorem ws_ex {A : SegR} {x : Option (SegR × SegR)} (h : ExOk A x) (hX : ExX A x) : RowWs (exprWs A x) (exprTk 1 A x) := by
  cases x with
  | none => exact ws_seg hX.a h.a.op
  | some q =>
    obtain ⟨T, B⟩ := q
    obtain ⟨oT, oB, _, _⟩ := h.t T B rfl
    obtain ⟨xT, xB⟩ := hX.t T B rfl
    refine (ws_seg hX.a h.a.op).app ?_
    exact (RowWs.one (wtk_kw "if" (by decide +kernel))).app ((ws_seg xT oT.op).app ((RowWs.one (wtk_kw "else" (by decide +kernel))).app (ws_seg xB oB.op)))
/-- the whole text -/
def exprText (A : SegR) (x : Option (SegR × SegR)) : List Nat := [97, 32, 61, 32] ++ rowT (exprWs A x)
theorem exprWs_ne {A : SegR} {x : Option (SegR × SegR)} : exprWs A x ≠ [] := by
  have key : segW A ≠ [] := by unfold segW opdW; simp
  cases x with
  | none => exact key
  | some q => unfold exprWs; simp
theorem text_row {A : SegR} {x : Option (SegR × SegR)} (h : ExOk A x) (hX : ExX A x) : ∃ sg, RowOk 1 (exprText A x) (some sg) [] [] ((nmT 1 [97] :: mkT 1 "sign" "=" :: exprTk 1 A x).map tkD) := by
  have r0 : RowOk 1 ([] : List Nat) none [] [] [] := RowOk.nil
  have r1 := r0.tok (t := [97]) (by simp) (fun _ => trivial) (lexT_word (t := [97]) (c := 97) rfl (by decide +kernel) (by decide +kernel) (.inr (by simp)))
  have r2 := r1.sp1.tok (t := [61]) (by simp) (fun _ => trivial) (lexT_sign (z := [61]) (by decide +kernel))
  obtain ⟨sg, r3⟩ := (ws_ex h hX).run exprWs_ne _ _ _ _ r2.sp1
  refine ⟨sg, ?_⟩
  have e1 : wordD [97] 1 = tkD (nmT 1 [97]) := by
    unfold wordD
    rw [show kwB [97] = false by decide +kernel, if_neg Bool.false_ne_true]
    rfl
  have e2 : signD [61] 1 = tkD (mkT 1 "sign" "=") := by
    have : S [61] = ("=" : Str) := TL.ext_tl rfl
    unfold signD
    rw [this]
    rfl
  rw [e1, e2] at r3
  exact r3
theorem text_ls {A : SegR} {x : Option (SegR × SegR)} (h : ExOk A x) (hX : ExX A x) (hl : (exprWs A x).length ≤ 60) : LsOk [exprText A x] := by
  obtain ⟨c1, c2⟩ := (ws_ex h hX).cs
  have hc : ∀ c ∈ exprText A x, okC c = true ∧ c ≠ 10 := fun c hc => by
    rcases List.mem_append.mp hc with hc | hc
    · have key : ∀ c ∈ [97, 32, 61, 32], okC c = true ∧ c ≠ 10 := by decide +kernel
      exact key c hc
    · exact c1 c hc
  have hle : (exprText A x).length ≤ 1000 := by
    unfold exprText
    rw [List.length_append]
    simp only [List.length_cons, List.length_nil]
    omega
  refine ⟨by simp, fun p hp => ?_, fun c hcc => (hc c hcc).1, fun l hll => ?_, by show (exprText A x).length ≤ 20000; omega, by simp⟩
  · rw [List.mem_singleton.mp hp]
    exact fun h => (hc 10 h).2 rfl
  · rw [List.mem_singleton.mp hll]
    exact ⟨by omega, fun c hcc => okC_lt (hc c hcc).1⟩
theorem text_lns {A : SegR} {x : Option (SegR × SegR)} (h : ExOk A x) (hX : ExX A x) : Lns [exprText A x] 0 [] [0] [] [0] (((nmT 1 [97] :: mkT 1 "sign" "=" :: exprTk 1 A x) ++ [nlTk 1]).map tkD) := by
  obtain ⟨sg, r⟩ := text_row h hX
  have hx : ∀ ds, Lex (exprText A x) 1 0 [] ds [] (ds ++ (nmT 1 [97] :: mkT 1 "sign" "=" :: exprTk 1 A x).map tkD) := fun ds => by
    have := r.fin (post := []) (ds := ds) (.inl rfl)
    rwa [List.append_nil] at this
  have := (LsTo.nil.row (l := exprText A x) (st2 := []) hx fun _ => ⟨97, rfl, by decide, by decide⟩).fin
  rw [List.map_append]
  exact this
theorem text_tk {A : SegR} {x : Option (SegR × SegR)} (h : ExOk A x) (hX : ExX A x) : (∀ t ∈ lineTs 1 [97] A x, TkOk t) ∧ (lineTs 1 [97] A x).length ≤ 2 * (exprWs A x).length + 4 := by
  obtain ⟨t1, t2⟩ := (ws_ex h hX).tk
  have ok : ∀ k z, TkOk ⟨k, .str z, 1⟩ := fun k z => ⟨by show (1 : Int).natAbs < 2 ^ 100; decide, .inl ⟨z, rfl⟩, fun _ => ⟨z, rfl⟩⟩
  refine ⟨fun t ht => ?_, ?_⟩
  · unfold lineTs at ht
    rcases List.mem_cons.mp ht with rfl | ht
    · exact ok _ _
    · rcases List.mem_cons.mp ht with rfl | ht
      · exact ok _ _
      · rcases List.mem_append.mp ht with ht | ht
        · obtain ⟨k, z, rfl⟩ := t1 t ht
          exact ok k z
        · simp only [List.mem_cons, List.not_mem_nil, or_false] at ht
          rcases ht with rfl | rfl <;> exact ok _ _
  · unfold lineTs
    simp only [List.length_cons, List.length_append, List.length_nil]
    omega
end

section
/-! the trees of rows may be compared -/
theorem layAll_of : ∀ {ds : List PyData}, (∀ d ∈ ds, PyData.canLay0 d = true) → PyData.canLayAll0 ds = true
  | [], _ => by simp only [PyData.canLayAll0]
  | d :: ds, h => by
    simp only [PyData.canLayAll0]
    rw [h d (by simp), layAll_of fun e he => h e (List.mem_cons_of_mem _ he)]
    rfl
theorem depAll_of {k : Nat} : ∀ {ds : List PyData}, (∀ d ∈ ds, PyData.depth d ≤ k) → PyData.depthAll ds ≤ k
  | [], _ => Nat.zero_le _
  | d :: ds, h => by
    simp only [PyData.depthAll]
    have h1 := h d (by simp)
    have h2 := depAll_of (ds := ds) fun e he => h e (List.mem_cons_of_mem _ he)
    omega
/-- may be laid, and is at most k deep -/
def Spn (k : Nat) (d : PyData) : Prop := PyData.canLay0 d = true ∧ PyData.depth d ≤ k
theorem Spn.up {k j : Nat} {d : PyData} (h : Spn k d) (hj : k ≤ j) : Spn j d := ⟨h.1, Nat.le_trans h.2 hj⟩
theorem Spn.tup {k : Nat} {ds : List PyData} (h : ∀ d ∈ ds, Spn k d) : Spn (k + 1) (.tuple ds) := by
  refine ⟨?_, ?_⟩
  · simp only [PyData.canLay0]
    exact layAll_of fun d hd => (h d hd).1
  · simp only [PyData.depth]
    have := depAll_of (ds := ds) fun d hd => (h d hd).2
    omega
theorem Spn.str {k : Nat} {z : Str} (h : PyData.strOk z = true) : Spn k (.str z) := ⟨by simpa only [PyData.canLay0] using h, Nat.zero_le _⟩
theorem Spn.int {k : Nat} {i : Int} : Spn k (.int i) := ⟨by simp only [PyData.canLay0], Nat.zero_le _⟩
theorem Spn.c2 {k : Nat} {a b : PyData} (ha : Spn k a) (hb : Spn k b) : Spn (k + 1) (.tuple [a, b]) := .tup fun d hd => by
  simp only [List.mem_cons, List.not_mem_nil, or_false] at hd
  rcases hd with rfl | rfl <;> assumption
theorem Spn.c3 {k : Nat} {a b c : PyData} (ha : Spn k a) (hb : Spn k b) (hc : Spn k c) : Spn (k + 1) (.tuple [a, b, c]) := .tup fun d hd => by
  simp only [List.mem_cons, List.not_mem_nil, or_false] at hd
  rcases hd with rfl | rfl | rfl <;> assumption
theorem Spn.c4 {k : Nat} {a b c e : PyData} (ha : Spn k a) (hb : Spn k b) (hc : Spn k c) (he : Spn k e) : Spn (k + 1) (.tuple [a, b, c, e]) := .tup fun d hd => by
  simp only [List.mem_cons, List.not_mem_nil, or_false] at hd
  rcases hd with rfl | rfl | rfl | rfl <;> assumption
def CH (s : SegR) : Prop := PyData.strOk (S s.1.x) = true ∧ ∀ q ∈ s.2, PyData.strOk q.1 = true ∧ PyData.strOk (S q.2.x) = true
theorem grp_CH {p : Str → Bool} {s : SegR} (h : CH s) : CH (grp p s.1 s.2).1 ∧ ∀ q ∈ (grp p s.1 s.2).2, PyData.strOk q.1 = true ∧ CH q.2 := by
  obtain ⟨g1, g2, g3⟩ := grp_ops p s.1 s.2
  refine ⟨⟨by rw [g3]; exact h.1, fun q hq => h.2 q (g1 q hq).2⟩, fun q hq => ?_⟩
  obtain ⟨_, ⟨o2, h1, h2⟩, h3⟩ := g2 q hq
  exact ⟨(h.2 _ h1).1, by rw [h2]; exact (h.2 _ h1).2, fun r hr => h.2 r (h3 r hr).2⟩
structure Sh (c : Nat) (f : SegR → PyData) : Prop where
  sp : ∀ s, CH s → Spn (lenS s + c) (f s)
theorem sh_fold {c : Nat} {f : SegR → PyData} {mk : Str → PyData → PyData → PyData} (h : Sh c f) (hm : ∀ z, PyData.strOk z = true → ∀ k t u, Spn k t → Spn k u → Spn (k + 1) (mk z t u)) (gs : List (Str × SegR)) (hg : ∀ q ∈ gs, PyData.strOk q.1 = true ∧ CH q.2) :
    ∀ (t : PyData) (k : Nat), c ≤ k → Spn k t → Spn (k + (gs.map fun q => lenS q.2 + 1).sum) (gs.foldl (fun t q => mk q.1 t (f q.2)) t) := by
  induction gs with
  | nil => intro t k _ h1; exact h1
  | cons q gs ih =>
    intro t k hk h1
    obtain ⟨g1, g2⟩ := hg q (by simp)
    have w := hm q.1 g1 (k + lenS q.2) t (f q.2) (h1.up (by omega)) ((h.sp q.2 g2).up (by omega))
    have := ih (fun r hr => hg r (List.mem_cons_of_mem _ hr)) _ (k + lenS q.2 + 1) (by omega) w
    rw [List.foldl_cons, List.map_cons, List.sum_cons]
    exact this.up (by omega)
theorem sh_bin {c : Nat} {f : SegR → PyData} {p : Str → Bool} {mk : Str → PyData → PyData → PyData} (h : Sh c f) (hm : ∀ z, PyData.strOk z = true → ∀ k t u, Spn k t → Spn k u → Spn (k + 1) (mk z t u)) : Sh c (binT p mk f) := ⟨fun s hs => by
  obtain ⟨g1, g2⟩ := grp_CH (p := p) hs
  have e := grp_len p s.1 s.2
  have := sh_fold h hm _ g2 _ (lenS (grp p s.1 s.2).1 + c) (by omega) (h.sp _ g1)
  exact this.up (by unfold lenS at e ⊢; omega)⟩
theorem sp_bin {z : Str} (h : PyData.strOk z = true) {k : Nat} {t u : PyData} (h1 : Spn k t) (h2 : Spn k u) : Spn (k + 1) (mkBin z t u) := .c4 (.str (by decide +kernel)) (.str h) h1 h2
theorem sp_bool {z : Str} (h : PyData.strOk z = true) {k : Nat} {t u : PyData} (h1 : Spn k t) (h2 : Spn k u) : Spn (k + 1) (mkBool z t u) := .c3 (.str h) h1 h2
theorem sh0 : Sh 2 tr0 := ⟨fun s hs => by
  have hn : Spn 1 (tg1 "name" (.str (S s.1.x))) := .c2 (.str (by decide +kernel)) (.str hs.1)
  unfold tr0 unT
  split
  · exact (Spn.c2 (.str (by decide +kernel)) hn).up (by omega)
  · exact hn.up (by omega)⟩
theorem sh2 : Sh 2 tr2 := sh_bin (sh_bin sh0 fun _ hz _ _ _ h1 h2 => sp_bin hz h1 h2) fun _ hz _ _ _ h1 h2 => sp_bin hz h1 h2
theorem sh3 : Sh 5 tr3 := ⟨fun s hs => by
  obtain ⟨g1, g2⟩ := grp_CH (p := isCmp) hs
  have e := grp_len isCmp s.1 s.2
  have h0 := sh2.sp _ g1
  have hall : ∀ r ∈ (grp isCmp s.1 s.2).2, lenS r.2 + 1 ≤ ((grp isCmp s.1 s.2).2.map fun q => lenS q.2 + 1).sum := fun r hr => by
    generalize (grp isCmp s.1 s.2).2 = zs at hr
    induction zs with
    | nil => cases hr
    | cons z zs ih =>
      rw [List.map_cons, List.sum_cons]
      rcases List.mem_cons.mp hr with rfl | hr
      · omega
      · have := ih hr; omega
  have e : lenS (grp isCmp s.1 s.2).1 + ((grp isCmp s.1 s.2).2.map fun q => lenS q.2 + 1).sum = lenS s := e
  unfold tr3
  split
  · exact h0.up (by omega)
  · refine (Spn.c3 (k := lenS s + 4) (.str (by decide +kernel)) (h0.up (by omega)) ?_)
    refine (Spn.tup (k := lenS s + 3) fun d hd => ?_)
    obtain ⟨q, hq, rfl⟩ := List.mem_map.mp hd
    have := hall q hq
    obtain ⟨q1, q2⟩ := g2 q hq
    exact (Spn.c2 (k := lenS s + 2) (.str q1) ((sh2.sp _ q2).up (by omega)))⟩
theorem sh4 : Sh 6 tr4 := ⟨fun s hs => by
  have h := sh3.sp s hs
  unfold tr4
  split
  · exact (Spn.c2 (.str (by decide +kernel)) h).up (by omega)
  · exact h.up (by omega)⟩
theorem sh6 : Sh 6 tr6 := sh_bin (sh_bin sh4 fun _ hz _ _ _ h1 h2 => sp_bool hz h1 h2) fun _ hz _ _ _ h1 h2 => sp_bool hz h1 h2
theorem NmX.ch {x : List Nat} (h : NmX x) : PyData.strOk (S x) = true := by
  have key : ∀ c xs, c < 1114112 → (∀ d ∈ xs, d < 1114112) → PyData.strOk (S (c :: xs)) = true := fun c xs hc hx => by
    unfold PyData.strOk S
    rw [List.all_toArray, List.all_eq_true]
    intro d hd
    rcases List.mem_cons.mp hd with rfl | hd
    · exact decide_eq_true hc
    · exact decide_eq_true (hx d hd)
  rcases h with ⟨k, _, rfl⟩ | rfl
  · exact key 120 _ (by decide) fun d hd => by have := TL.numL_digits k d hd; omega
  · exact key 122 [] (by decide) (by simp)
theorem SegX.ch {A : SegR} (h : SegX A) (hO : ∀ q ∈ A.2, q.1 ∈ allOps) : CH A := by
  have key : ∀ z ∈ allOps, PyData.strOk z = true := by decide +kernel
  exact ⟨h.1.ch, fun q hq => ⟨key _ (hO q hq), (h.2 q hq).ch⟩⟩
theorem ex_sp {A : SegR} {x : Option (SegR × SegR)} (h : ExOk A x) (hX : ExX A x) : Spn 21 (.tuple [setD 1 [97] (exprTr A x)]) := by
  have hA := sh6.sp A (hX.a.ch h.a.op)
  have la := h.la
  have hE : Spn 19 (exprTr A x) := by
    cases x with
    | none => exact hA.up (by omega)
    | some q =>
      obtain ⟨T, B⟩ := q
      obtain ⟨oT, oB, lT, lB⟩ := h.t T B rfl
      obtain ⟨xT, xB⟩ := hX.t T B rfl
      exact (Spn.c4 (k := 18) (.str (by decide +kernel)) ((sh6.sp T (xT.ch oT.op)).up (by omega)) (hA.up (by omega)) ((sh6.sp B (xB.ch oB.op)).up (by omega))).up (by omega)
  refine .tup fun d hd => ?_
  rw [List.mem_singleton.mp hd]
  exact .c4 (.str (by decide +kernel)) .int (Spn.c2 (k := 18) (.str (by decide +kernel)) (.str (by decide +kernel))) hE
theorem sp_sh {d : PyData} (h : Spn 21 d) : SeqAt.shaped d = true := by
  unfold SeqAt.shaped
  rw [h.1]
  exact decide_eq_true (Nat.le_trans h.2 (by decide))
end

section
--SPLIT
end
abbrev s_law : Stmt := top 105
abbrev N_law : List Str := ["script", "box", "tokens", "parts_v", "token"]
abbrev P_law : List Str := ["script"]
theorem sc_law : FnScope N_law P_law (defScope s_law) := ⟨rfl, rfl, rfl, by decide +kernel, rfl, by decide +kernel, by decide +kernel⟩
section
variable {P : Program} {w : World} {K : PySem.W.Frag} {mg : Str → Option Value} {base : Heap}
/-- a text that is read as the row of its tokens -/
def spParseV (K : PySem.W.Frag) : Sp := fun vs H Q _ => ∃ (Ls : List (List Nat)) (xs : List Int) (ds : List PyData) (TS : List Tk) (ss : List PyData) (R : List Tk), vs = [.str (S (TL.joinL [10] Ls))] ∧ LsOk Ls ∧ Lns Ls 0 [] [0] [] xs ds ∧ ds.length ≤ 70000 ∧
  ds ++ List.replicate (xs.length - 1) (dedT (Ls.length : Nat)) ++ [endT (Ls.length : Nat)] = TS.map tkD ∧ TS.length ≤ 90000 ∧ (∀ t ∈ TS, TkOk t) ∧
  parseM (stmt0M (choiceN 1)) TS = .ok ss R ∧ ∀ v H', Same H H' → Dt K H' v (.tuple ss) → Q v H'
theorem spParse_of {CF : Addr} {vs : List V} {H : Hp} {Q : VK} {E : XK} (h : spParseV K vs H Q E) : spParse K CF (stmt0M (choiceN 1)) vs H Q E := by
  obtain ⟨Ls, xs, ds, TS, ss, R, h1, h2, h3, h4, h5, h6, h7, h8, k⟩ := h
  exact ⟨Ls, xs, ds, TS, h1, h2, h3, h4, h5, h6, h7, by rw [h8]; exact k⟩
theorem ok_parse0 {ke : Nat} (hk : 6 ≤ ke) {C CF : Addr} {f : Addr} {fd : FuncData} (F : Fun K "parse" "parse" s_parse f fd) (T : Txt K mg) (UC_Reader : UseC K mg "Reader" fRd C) (U_Reader___init__ : UseK P w K mg base "Reader" C 1 P_Reader___init__ (spRdInit C)) (U_Reader_found_kind : UseM P w K mg base CX0 C "found_kind" 1 P_Reader_found_kind (spKind K C))
    (U_split : Use P w K mg base CX0 "split" 6 P_split (spSplitV K)) (U_statement_parsing : Use P w K mg base (L2.CX P w) "statement_parsing" ke P_statement_parsing (spStmt0 K C CF (choiceN 1))) : FnG P w K mg base CX0 (ke + 1) f fd P_parse (spParseV K) :=
  calmF ((ok_parse hk F T UC_Reader U_Reader___init__ U_Reader_found_kind U_split U_statement_parsing).imp fun _ _ _ _ h => spParse_of h) fun _ _ _ _ _ h => h
def wKV : List (Key × V) := [(.inr "notin", V.str "not in"), (.inr "isnot", V.str "is not"), (.inr "minus", V.str "-")]
theorem get_wmap (z : Str) : (valV (mergeK [] wKV) (.inr z)).getD (.str z) = .str (wmap z) := by
  have e : mergeK [] wKV = wKV := by decide +kernel
  rw [e]
  by_cases h1 : z = "notin"
  · subst h1; decide +kernel
  by_cases h2 : z = "isnot"
  · subst h2; decide +kernel
  by_cases h3 : z = "minus"
  · subst h3; decide +kernel
  have n : ∀ {y : Str}, z ≠ y → decide ((.inr y : Key) = .inr z) = false := fun h => decide_eq_false fun e => h (Sum.inr.inj e).symm
  have m : ∀ {y : Str}, z ≠ y → decide (V.str z = V.str y) = false := fun h => decide_eq_false fun e => h (V.str.inj e)
  unfold valV wKV wmap
  rw [List.find?_cons_of_neg (by rw [n h1]; exact Bool.false_ne_true), List.find?_cons_of_neg (by rw [n h2]; exact Bool.false_ne_true), List.find?_cons_of_neg (by rw [n h3]; exact Bool.false_ne_true), m h1, m h2, m h3]
  rfl
theorem RowWs.sum {ws : List Str} {T : List Tk} (h : RowWs ws T) : ((ws.map wmap).map (·.length)).sum ≤ 10 * ws.length := by
  induction h with
  | nil => exact Nat.le_refl _
  | @cons w T1 ws T2 h1 h2 ih =>
    have : (wmap w).length = (codes w).length := by
      show (wmap w).cps.size = (wmap w).cps.toList.length
      rw [Array.length_toList]
    have := h1.ln
    rw [List.map_cons, List.map_cons, List.sum_cons, List.length_cons]
    omega
def spLaw (K : PySem.W.Frag) : Sp := fun vs H Q _ => ∃ (a : Addr) (ns : List Int), vs = [.ref a] ∧ SqL K H a (ns.map V.int) ∧ ns.length ≤ 63 ∧ ∀ H', Q (.bl true) H'
theorem ok_law {f : Addr} {fd : FuncData} (F : Fun K "law" "law" s_law f fd) (T : Txt K mg) (U_law_digits : Use P w K mg base CX0 "_law_digits" 2 P_law_digits (spDigits K)) (U_law_draw : Use P w K mg base CX0 "_law_draw" 1 P_law_draw (spDraw K)) (U_law_row : Use P w K mg base CX0 "_law_row" 2 P_law_row (spRow K)) (U_parse : Use P w K mg base CX0 "parse" 30 P_parse (spParseV K)) (U_law_tree : Use P w K mg base CX0 "_law_tree" 17 P_law_tree (spTree K)) : FnG P w K mg base CX0 31 f fd P_law (spLaw K) := by
  refine okG0 F sc_law (fun vs H Q E h => ?_) fun cdv A outer s H vs Q E hr hg h => ?_
  · obtain ⟨a, ns, rfl, _⟩ := h
    rfl
  · obtain ⟨a, ns, rfl, hs, hn, k⟩ := h
    have hu : (A.deeper (envOfC "law" (defScope s_law) s.heap.objs.size f cdv)).units + 1 < cLine := Nat.lt_of_le_of_lt (by omega) hr.units
    refine ⟨_, (pss_cons (ps_set (i := 1) sc_law.nd rfl (Or.inl rfl) (pe_lst (pa_cons (pe_use U_law_digits (hr.mono (by decide)) hg rfl (pa_cons (pv 0) (pa_cons pe_int (pa_cons pe_int pa_nil)))) (pa_cons pe_int pa_nil))))
  (pss_cons (ps_set (i := 2) sc_law.nd rfl (Or.inl rfl) (pe_use U_law_row (hr.mono (by decide)) hg rfl (pa_cons (pv 1) (pa_cons (pe_op op_add pe_int (pe_use U_law_draw (hr.mono (by decide)) hg rfl (pa_cons (pv 1) (pa_cons pe_int pa_nil)))) pa_nil))))
  (pss_cons (ps_set (i := 3) sc_law.nd rfl (Or.inl rfl) (pe_lst pa_nil))
  (pss_cons (ps_for PassesOwn.never rfl (pi_list (pv 2)) (pg_name (i := 4) sc_law.nd rfl (Or.inl rfl))
   (pss_one (ps_expr (pe_bm PySem.F.plainAttrs_list PySem.F.slot_list_append PySem.F.type_list_append mt_append (pv 3) (pa_cons (pe_dget2 hu (pe_disp (pps_cons pe_str pe_str (pps_cons pe_str pe_str (pps_cons pe_str pe_str pps_nil))) rfl rfl (by intro z; cases z) (by decide)) (pv 4) (pv 4) ⟨rfl, rfl, rfl, rfl⟩) pa_nil)))))
  (pss_one (ps_ret (pe_cmpR (op_eqD hr.units) (pe_use U_parse (hr.mono (by decide)) hg rfl (pa_cons (pe_op op_add_str pe_str (pe_bm PySem.F.plainAttrs_str PySem.F.slot_str_join PySem.F.type_str_join mt_join pe_str (pa_cons (pv 3) pa_nil))) pa_nil)) (pe_tup (pa_cons (pe_tup (pa_cons pe_str (pa_cons pe_int (pa_cons (pe_tup (pa_cons pe_str (pa_cons pe_str pa_nil))) (pa_cons (pe_use U_law_tree (hr.mono (by decide)) hg rfl (pa_cons (pv 2) pa_nil)) pa_nil))))) pa_nil)) (nomark _)))))))), ?_⟩
    refine ⟨_, rfl, a, ns, 0, 63, rfl, hs, by decide, by decide, fun dl H1 nd D => ?_⟩
    obtain ⟨ds, hd, hl, hds, S1⟩ := D
    refine ⟨sz_2, fun p hp0 => ?_⟩
    have B0 : BoxAt (upd H1 p (.lst [.ref dl, .int 0])) p dl := ⟨ds, 0, upd_same, by decide, by rw [upd_ne (ne_of_none hd hp0)]; exact hd, hl, hds⟩
    generalize upd H1 p (.lst [.ref dl, .int 0]) = H2 at B0
    clear hd hds S1 hp0
    refine ⟨_, rfl, _, rfl, p, dl, 11, rfl, B0, by decide, fun r H3 r1 r2 B3 K3 => ?_⟩
    refine ⟨_, _, rfl, rfl, ?_⟩
    obtain ⟨d, rfl⟩ := Int.eq_ofNat_of_zero_le r1
    have e2 : (V.int ((2 : Int) + (d : Int))) = V.int ((2 + d : Nat) : Int) := congrArg V.int (by omega)
    refine ⟨p, dl, 2 + d, by rw [← e2], B3, by omega, by omega, fun rl H4 A' x B4 K4 h0 e4 ok oX lW => ?_⟩
    have RW := ws_ex ok oX
    have hE := ex_sp ok oX
    have hLs := text_ls ok oX lW
    have hLn := text_lns ok oX
    obtain ⟨hTk, hTl⟩ := text_tk ok oX
    have hP := parse_ok (m := 1) (a := [97]) ok
    obtain ⟨cS, cL⟩ := RW.cs
    have hsum := RW.sum
    refine ⟨sz_0, fun pl hpl => ?_⟩
    have S4 := Same.new (o := .lst []) hpl
    refine ⟨_, rfl, rl, rfl, ⟨_, SqL.of (S4 _ _ e4)⟩, ?_⟩
    refine for_it (walk_list (xs := strL (exprWs A' x))) (fun i σ H5 => ∃ x4, σ = [some (.ref a), some (.ref p), some (.ref rl), some (.ref pl), x4] ∧ H5 pl = some (.lst (strL (((exprWs A' x).take i).map wmap))) ∧ Same H4 H5) ⟨none, rfl, upd_same, S4⟩ (fun _ _ _ _ h => let ⟨_, _, _, S⟩ := h; SqL.of (S _ _ e4)) ?_ ?_
    · rintro i v σ H5 H6 hi ⟨x4, rfl, e5, S5⟩ ⟨rfl, hx⟩
      unfold strL at hx
      rw [List.getElem?_map] at hx
      obtain ⟨z, hz, rfl⟩ := Option.map_eq_some_iff.mp hx
      refine ⟨_, rfl, .inl ⟨rfl, _, SqL.of e5⟩, fun q hq => ⟨upd_same, wKV, rfl, by decide, q, rfl, .inl ⟨_, .inl upd_same⟩, _, rfl, _, rfl, _, DGet.k (k := .inr z) upd_same, ?_⟩⟩
      rw [get_wmap]
      have npq : pl ≠ q := ne_of_none e5 hq
      have e6 : upd (upd H6 q (.dK [])) q (.dK (mergeK [] wKV)) pl = some (.lst (strL (((exprWs A' x).take i).map wmap))) := by rw [upd_ne npq, upd_ne npq]; exact e5
      have li : i ≤ 60 := Nat.le_trans (Nat.le_of_lt (Nat.lt_of_lt_of_le hi (by rw [strL_len]; exact Nat.le_refl _))) lW
      refine ⟨pl, _, _, rfl, rfl, e6, ?_, some (.str z), rfl, ?_, fun b o e => ?_⟩
      · rw [strL_len, List.length_map, List.length_take]
        exact ss_lt (Nat.le_trans (Nat.min_le_left _ _) (by omega))
      · rw [upd_same, List.take_succ, hz]
        show _ = some (HO.lst (strL (List.map wmap ((exprWs A' x).take i ++ [z]))))
        rw [List.map_append, ← strL_app]
        rfl
      · have e0 := S5 b o e
        rw [upd_ne (ne_of_none e hpl), upd_ne (ne_of_none e0 hq), upd_ne (ne_of_none e0 hq)]
        exact e0
    · rintro σ H5 ⟨x4, rfl, e5, S5⟩
      rw [strL_len, List.take_length] at e5
      have hj : Txt.join " " ((exprWs A' x).map wmap) = S (rowT (exprWs A' x)) := by
        have e1 : (exprWs A' x).map wmap = ((exprWs A' x).map codes).map S := by
          rw [List.map_map]
          exact List.map_congr_left fun w _ => (S_tl (wmap w)).symm
        rw [e1, show (" " : Str) = S [32] from TL.ext_tl rfl, join_S]
        rfl
      have hx : ("a = " : Str) ++ S (rowT (exprWs A' x)) = S (exprText A' x) := TL.ext_tl (TL.tl_append _ _)
      have hsh := sp_sh hE
      have hl1 : (Str.ofString " ").length = 1 := by decide +kernel
      have hl4 : (Str.ofString "a = ").length = 4 := by decide +kernel
      refine ⟨rfl, _, rfl, _, pl, (exprWs A' x).map wmap, rfl, rfl, .inl (SqL.of e5), by rw [List.length_map, hl1]; omega, ?_⟩
      rw [hj]
      refine ⟨_, _, rfl, rfl, by rw [hl4, S_len]; exact Nat.le_trans (show _ ≤ 1000 by omega) (by decide), ?_⟩
      rw [hx]
      refine ⟨[exprText A' x], [0], _, lineTs 1 [97] A' x, _, _, rfl, hLs, hLn, ?_, ?_, by omega, hTk, hP, fun v H6 S6 d6 => ?_⟩
      · rw [List.length_map, List.length_append]
        unfold lineTs at hTl
        simp only [List.length_cons, List.length_append, List.length_nil] at hTl ⊢
        omega
      · unfold lineTs
        rw [List.map_append, List.append_assoc, List.append_assoc]
        show _ ++ ([nlTk 1].map tkD ++ ([] ++ [endT 1])) = _
        simp only [List.map_append, List.map_cons, List.map_nil, List.cons_append, List.nil_append]
        rfl
      · have S46 := S5.trans S6
        refine ⟨sz_2, fun u hu => ?_⟩
        have S7 := Same.new (o := .tup [V.str "name", V.str "a"]) hu
        refine ⟨_, rfl, rl, A', x, rfl, SqL.of ((S46.trans S7) _ _ e4), ok, oX.n, by omega, fun tv H8 S8 d8 => ⟨sz_4, fun q hq => ⟨sz_1, fun q2 hq2 => ?_⟩⟩⟩
        have d7 : Dt K (upd H6 u (.tup [V.str "name", V.str "a"])) (.ref u) (tg1 "name" (.str (S [97]))) := Dt.made hu (.cons (.str _) (.cons (.str _) .nil))
        have dq := Dt.made hq (.cons (.str "set") (.cons (.int 1) (.cons (d7.mono S8) (.cons d8 .nil))))
        have dr := Dt.made hq2 (.cons dq .nil)
        have dl := d6.mono (((S7.trans S8).trans (Same.new hq)).trans (Same.new (o := .tup [V.ref q]) hq2))
        refine ⟨_, _, dl.dp, dr.dp, hsh, hsh, ?_⟩
        have ev : PyData.eqv (PyData.tuple [setD 1 [97] (exprTr A' x)]) (.tuple [setD 1 [97] (exprTr A' x)]) = true := eqv_self (SeqAt.canLay_of_shaped hsh)
        have e3 := k (upd (upd H8 q (.tup [V.str "set", V.int 1, V.ref u, tv])) q2 (.tup [V.ref q]))
        rw [← ev] at e3
        exact e3
end

section
--SPLIT
end
theorem walk_mk {l : PySem.W.OpenLaw} {w : World} {K : PySem.W.Frag} {h : Heap} {mg : Str → Option Value} {fa : Addr} (X : K.In h) (G : h.Ns mainGlobals mg) (hfa : mg "law" = some (.ref fa))
    {C_Reader : Addr} (k_Reader : ClsK K "Reader" ["tokens", "place"] C_Reader)
    (f0 : HasFn K "_law_cell" s_law_cell)
    (f1 : HasFn K "_law_digits" s_law_digits)
    (f2 : HasFn K "_law_draw" s_law_draw)
    (f3 : HasFn K "_law_row" s_law_row)
    (f4 : HasMeth K C_Reader "__init__" "Reader.__init__" s_Reader___init__)
    (f5 : HasMeth K C_Reader "found_kind" "Reader.found_kind" s_Reader_found_kind)
    (f6 : HasFn K "_check_characters" s_check_characters)
    (f7 : HasFn K "_is_blank" s_is_blank)
    (f8 : HasFn K "_add_indents" s_add_indents)
    (f9 : HasFn K "_word_end" s_word_end)
    (f10 : HasFn K "_add_word" s_add_word)
    (f11 : HasFn K "_add_integer" s_add_integer)
    (f12 : HasFn K "_escaped" s_escaped)
    (f13 : HasFn K "_add_text" s_add_text)
    (f14 : HasFn K "_follow_brackets" s_follow_brackets)
    (f15 : HasFn K "_add_sign" s_add_sign)
    (f16 : HasFn K "_add_line" s_add_line)
    (f17 : HasFn K "split" s_split)
    (f18 : HasMeth K C_Reader "found_line" "Reader.found_line" s_Reader_found_line)
    (f19 : HasMeth K C_Reader "_is_mark" "Reader._is_mark" s_Reader__is_mark)
    (f20 : HasMeth K C_Reader "sees" "Reader.sees" s_Reader_sees)
    (f21 : HasMeth K C_Reader "skip" "Reader.skip" s_Reader_skip)
    (f22 : HasMeth K C_Reader "end_line" "Reader.end_line" s_Reader_end_line)
    (f23 : HasMeth K C_Reader "take" "Reader.take" s_Reader_take)
    (f24 : HasMeth K C_Reader "take_name" "Reader.take_name" s_Reader_take_name)
    (f25 : HasFn K "_names" s_names)
    (f26 : HasFn K "parts" s_parts)
    (f27 : HasFn K "nodes" s_nodes)
    (f28 : HasFn K "width" s_width)
    (f29 : HasFn K "bounded" s_bounded)
    (f30 : HasMeth K C_Reader "sees_expression" "Reader.sees_expression" s_Reader_sees_expression)
    (f31 : HasMeth K C_Reader "need" "Reader.need" s_Reader_need)
    (f32 : HasMeth K C_Reader "sees_named" "Reader.sees_named" s_Reader_sees_named)
    (f33 : HasFn K "choice" s_choice)
    (f34 : HasFn K "_either" s_either)
    (f35 : HasFn K "_both" s_both)
    (f36 : HasFn K "_negation" s_negation)
    (f37 : HasFn K "_comparison" s_comparison)
    (f38 : HasFn K "_comparing" s_comparing)
    (f39 : HasFn K "_sum" s_sum)
    (f40 : HasFn K "_term" s_term)
    (f41 : HasFn K "_minus" s_minus)
    (f42 : HasFn K "_row_parts" s_row_parts)
    (f43 : HasFn K "row" s_row)
    (f44 : HasFn K "_row_or_none" s_row_or_none)
    (f45 : HasFn K "_raise" s_raise)
    (f46 : HasFn K "_bracketed" s_bracketed)
    (f47 : HasFn K "_list" s_list)
    (f48 : HasFn K "_dict" s_dict)
    (f49 : HasFn K "_atom" s_atom)
    (f50 : HasFn K "_named_argument" s_named_argument)
    (f51 : HasFn K "_arguments" s_arguments)
    (f52 : HasFn K "_indexed" s_indexed)
    (f53 : HasFn K "primary" s_primary)
    (f54 : HasFn K "_drop" s_drop)
    (f55 : HasFn K "_is_target" s_is_target)
    (f56 : HasFn K "checked_target" s_checked_target)
    (f57 : HasFn K "_store" s_store)
    (f58 : HasFn K "_row_statement" s_row_statement)
    (f59 : HasFnN K "statement_lines" "_statement" s_statement_lines)
    (f60 : HasFn K "line_statement" s_line_statement)
    (f61 : HasFnN K "statement_parsing" "_statement" s_statement_parsing)
    (f62 : HasFn K "parse" s_parse)
    (f63 : HasFn K "_law_cut" s_law_cut)
    (f64 : HasFn K "_law_unary" s_law_unary)
    (f65 : HasFn K "_law_lower" s_law_lower)
    (f66 : HasFn K "_law_binary" s_law_binary)
    (f67 : HasFn K "_law_tree" s_law_tree)
    (f68 : HasFn K "law" s_law)
    (c0 : HasInt K "MOST_LEVELS" 20)
    (c1 : HasInt K "MOST_PARTS" 200)
    (c2 : HasInt K "MOST_CHARACTERS" 20000)
    (c3 : HasInt K "MOST_IN_TEXT" 200)
    (c4 : HasInt K "MOST_BRACKETS" 20)
    (c5 : HasInt K "INTEGER_END" (2 ^ 256))
    (c6 : HasInt K "MOST_IN_NAME" 30)
    (c7 : HasInt K "MOST_DIGITS" 78)
    (c8 : HasInt K "MOST_BLOCKS" 12)
    (c9 : HasTup K "BEGINNINGS" (begKinds.map V.str))
    (c10 : HasTup K "BEGINNING_WORDS" (begWords.map V.str))
    (c11 : HasTup K "BEGINNING_SIGNS" (begSigns.map V.str))
    (c12 : HasTup K "COMPARISONS" (cmps.map V.str))
    (c13 : HasTup K "CHANGES" (changesL.map fun p => V.str p.1))
    (c14 : HasTup K "SIGNS" (sgns.map fun z => V.str (S z)))
    (c15 : HasTup K "KEYWORDS" (kwords.map V.str))
    (c16 : HasDat K "NOTHING" nothingD)
    (c17 : HasStr K "CHARACTERS" fun z => ∀ c < 128, okC c = true → c ∈ z.cps.toList)
    (b_len : PySem.W.nsIn K mainGlobals "len" = some none)
    (b_int : PySem.W.nsIn K mainGlobals "int" = some none)
    (b_range : PySem.W.nsIn K mainGlobals "range" = some none)
    (b_list : PySem.W.nsIn K mainGlobals "list" = some none)
    (b_tuple : PySem.W.nsIn K mainGlobals "tuple" = some none)
    (b_isinstance : PySem.W.nsIn K mainGlobals "isinstance" = some none)
    (b_bool : PySem.W.nsIn K mainGlobals "bool" = some none)
    (b_str : PySem.W.nsIn K mainGlobals "str" = some none)
    (b_enumerate : PySem.W.nsIn K mainGlobals "enumerate" = some none)
    (d_ESCAPES : HasDct l.prog w K "ESCAPES" (txtKV [("\\", "\\"), ("\"", "\""), ("'", "'"), ("n", "\n")]))
    (d_OPENED_BY : HasDct l.prog w K "OPENED_BY" (txtKV [(")", "("), ("]", "["), ("}", "{")]))
    (d_CONSTANTS : HasTupD l.prog w K "CONSTANTS" constsV)
    {A_BLOCK_STATEMENTS_0 : Addr} {A_BLOCK_STATEMENTS_1 : Addr} {A_BLOCK_STATEMENTS_2 : Addr} {A_BLOCK_STATEMENTS_3 : Addr} {A_BLOCK_STATEMENTS_4 : Addr} {A_BLOCK_STATEMENTS_5 : Addr} (d_BLOCK_STATEMENTS : HasDctI l.prog w K "BLOCK_STATEMENTS" (fnKV [("if", A_BLOCK_STATEMENTS_0), ("while", A_BLOCK_STATEMENTS_1), ("for", A_BLOCK_STATEMENTS_2), ("def", A_BLOCK_STATEMENTS_3), ("class", A_BLOCK_STATEMENTS_4), ("try", A_BLOCK_STATEMENTS_5)]))
    (flt : HasFault l.prog K s_Fault___init__) :
    ∃ fd : FuncData, (∀ (s : Shared) (v : Value), BindsTo s fd ⟨[v], []⟩ [("script", v)]) ∧ ∀ base : Heap, K.In base → base.Ns mainGlobals mg → FnG l.prog w K mg base CX0 31 fa fd ["script"] (spLaw K) := by
  have T : Txt K mg := ⟨c0.g X G, c1.g X G, c2.g X G, c3.g X G, c4.g X G, c5.g X G, c6.g X G, c7.g X G, c8.g X G, c9.g X G, c10.g X G, c11.g X G, c12.g X G, c13.g X G, c14.g X G, c15.g X G, c16.g X G, c17.g X G, PySem.W.mg_none_of X G b_len, PySem.W.mg_none_of X G b_int, PySem.W.mg_none_of X G b_range, PySem.W.mg_none_of X G b_list, PySem.W.mg_none_of X G b_tuple, PySem.W.mg_none_of X G b_isinstance, PySem.W.mg_none_of X G b_bool, PySem.W.mg_none_of X G b_str, PySem.W.mg_none_of X G b_enumerate⟩
  refine law_use f68 X G hfa (fun _ _ _ _ _ _ _ => rfl) fun base X' G' fd F => ?_
  have U_ESCAPES : UseD l.prog w K mg "ESCAPES" _ := d_ESCAPES.g X G
  have U_OPENED_BY : UseD l.prog w K mg "OPENED_BY" _ := d_OPENED_BY.g X G
  have U_CONSTANTS : UseT l.prog w K mg "CONSTANTS" _ := d_CONSTANTS.g X G
  have U_BLOCK_STATEMENTS : UseI l.prog w K mg "BLOCK_STATEMENTS" _ := d_BLOCK_STATEMENTS.g X G
  obtain ⟨C, B, U_Fault⟩ := mk_useF (P := l.prog) (w := w) (mg := mg) (base := base) flt X G (nscope_by (by decide +kernel)) rfl rfl rfl rfl (fun env => ⟨_, rfl⟩) (fun _ _ _ _ _ us hl => match us, hl with | [_, _, _], _ => rfl)
  have UC_Reader := k_Reader.g X G
  have U_law_cell := mk_use (P := l.prog) (w := w) (mg := mg) (base := base) f0 X G (fun _ _ _ _ _ _ us hl => match us, hl with | [_, _], _ => rfl) fun f fd F => ok_cell F T
  have U_law_digits := mk_use (P := l.prog) (w := w) (mg := mg) (base := base) f1 X G (fun _ _ _ _ _ _ us hl => match us, hl with | [_, _, _], _ => rfl) fun f fd F => ok_digits F T (Use.up U_law_cell (by omega))
  have U_law_draw := mk_use (P := l.prog) (w := w) (mg := mg) (base := base) f2 X G (fun _ _ _ _ _ _ us hl => match us, hl with | [_, _], _ => rfl) fun f fd F => ok_draw F T
  have U_law_row := mk_use (P := l.prog) (w := w) (mg := mg) (base := base) f3 X G (fun _ _ _ _ _ _ us hl => match us, hl with | [_, _], _ => rfl) fun f fd F => ok_row05 F T (Use.up U_law_draw (by omega))
  have U_Reader___init__ := mk_useK (P := l.prog) (w := w) (mg := mg) (base := base) k_Reader f4 X G (fun _ _ _ _ _ _ us hl => match us, hl with | [_, _], _ => rfl) fun f fd F => ok_rdinit F T UC_Reader
  have U_Reader_found_kind := mk_useM (P := l.prog) (w := w) (mg := mg) (base := base) f5 (fun _ _ _ _ _ _ us hl => match us, hl with | [_], _ => rfl) fun f fd F => ok_kind F T UC_Reader
  have U_check_characters := mk_use (P := l.prog) (w := w) (mg := mg) (base := base) f6 X G (fun _ _ _ _ _ _ us hl => match us, hl with | [_], _ => rfl) fun f fd F => ok_check F T
  have U_is_blank := mk_use (P := l.prog) (w := w) (mg := mg) (base := base) f7 X G (fun _ _ _ _ _ _ us hl => match us, hl with | [_], _ => rfl) fun f fd F => ok_blank F T
  have U_add_indents := mk_use (P := l.prog) (w := w) (mg := mg) (base := base) f8 X G (fun _ _ _ _ _ _ us hl => match us, hl with | [_, _, _, _], _ => rfl) fun f fd F => ok_indents F T U_Fault
  have U_word_end := mk_use (P := l.prog) (w := w) (mg := mg) (base := base) f9 X G (fun _ _ _ _ _ _ us hl => match us, hl with | [_, _], _ => rfl) fun f fd F => ok_wordend F T
  have U_add_word := mk_use (P := l.prog) (w := w) (mg := mg) (base := base) f10 X G (fun _ _ _ _ _ _ us hl => match us, hl with | [_, _, _, _], _ => rfl) fun f fd F => ok_addword F T (Use.up U_word_end (by omega)) U_Fault
  have U_add_integer := mk_use (P := l.prog) (w := w) (mg := mg) (base := base) f11 X G (fun _ _ _ _ _ _ us hl => match us, hl with | [_, _, _, _], _ => rfl) fun f fd F => ok_addint F T (Use.up U_word_end (by omega)) U_Fault
  have U_escaped := mk_use (P := l.prog) (w := w) (mg := mg) (base := base) f12 X G (fun _ _ _ _ _ _ us hl => match us, hl with | [_, _, _], _ => rfl) fun f fd F => ok_escaped F T U_Fault U_ESCAPES
  have U_add_text := mk_use (P := l.prog) (w := w) (mg := mg) (base := base) f13 X G (fun _ _ _ _ _ _ us hl => match us, hl with | [_, _, _, _], _ => rfl) fun f fd F => ok_addtext F T (Use.up U_escaped (by omega)) U_Fault
  have U_follow_brackets := mk_use (P := l.prog) (w := w) (mg := mg) (base := base) f14 X G (fun _ _ _ _ _ _ us hl => match us, hl with | [_, _, _], _ => rfl) fun f fd F => ok_follow F T U_Fault U_OPENED_BY
  have U_add_sign := mk_use (P := l.prog) (w := w) (mg := mg) (base := base) f15 X G (fun _ _ _ _ _ _ us hl => match us, hl with | [_, _, _, _, _], _ => rfl) fun f fd F => ok_addsign F T (Use.up U_follow_brackets (by omega)) U_Fault
  have U_add_line := mk_use (P := l.prog) (w := w) (mg := mg) (base := base) f16 X G (fun _ _ _ _ _ _ us hl => match us, hl with | [_, _, _, _], _ => rfl) fun f fd F => ok_addline F T (Use.up U_add_word (by omega)) (Use.up U_add_integer (by omega)) (Use.up U_add_text (by omega)) (Use.up U_add_sign (by omega))
  have U_split := mk_use (P := l.prog) (w := w) (mg := mg) (base := base) f17 X G (fun _ _ _ _ _ _ us hl => match us, hl with | [_], _ => rfl) fun f fd F => ok_split0 F T (Use.up U_check_characters (by omega)) (Use.up U_is_blank (by omega)) (Use.up U_add_indents (by omega)) (Use.up U_add_line (by omega)) U_Fault
  have U_Reader_found_line := mk_useM (P := l.prog) (w := w) (mg := mg) (base := base) f18 (fun _ _ _ _ _ _ us hl => match us, hl with | [_], _ => rfl) fun f fd F => ok_line F T UC_Reader
  have U_Reader__is_mark := mk_useM (P := l.prog) (w := w) (mg := mg) (base := base) f19 (fun _ _ _ _ _ _ us hl => match us, hl with | [_, _, _], _ => rfl) fun f fd F => ok_mark F T UC_Reader
  have U_Reader_sees := mk_useM (P := l.prog) (w := w) (mg := mg) (base := base) f20 (fun _ _ _ _ _ _ us hl => match us, hl with | [_, _], _ => rfl) fun f fd F => ok_sees F T UC_Reader U_Reader__is_mark
  have U_Reader_skip := mk_useM (P := l.prog) (w := w) (mg := mg) (base := base) f21 (fun _ _ _ _ _ _ us hl => match us, hl with | [_, _], _ => rfl) fun f fd F => ok_skip F T UC_Reader U_Reader_sees
  have U_Reader_end_line := mk_useM (P := l.prog) (w := w) (mg := mg) (base := base) f22 (fun _ _ _ _ _ _ us hl => match us, hl with | [_], _ => rfl) fun f fd F => ok_endline F T UC_Reader U_Reader_found_kind U_Reader_found_line U_Fault
  have U_Reader_take := mk_useM (P := l.prog) (w := w) (mg := mg) (base := base) f23 (fun _ _ _ _ _ _ us hl => match us, hl with | [_], _ => rfl) fun f fd F => ok_take F T UC_Reader
  have U_Reader_take_name := mk_useM (P := l.prog) (w := w) (mg := mg) (base := base) f24 (fun _ _ _ _ _ _ us hl => match us, hl with | [_], _ => rfl) fun f fd F => ok_takename F T UC_Reader U_Reader_found_kind U_Reader_found_line U_Reader_take U_Fault
  have U_names := mk_use (P := l.prog) (w := w) (mg := mg) (base := base) f25 X G (fun _ _ _ _ _ _ us hl => match us, hl with | [_, _], _ => rfl) fun f fd F => ok_names F T UC_Reader U_Reader_skip U_Reader_take_name U_Fault
  have U_parts := mk_use (P := l.prog) (w := w) (mg := mg) (base := base) f26 X G (fun _ _ _ _ _ _ us hl => match us, hl with | [_], _ => rfl) fun f fd F => ok_parts F T
  have U_nodes := mk_use (P := l.prog) (w := w) (mg := mg) (base := base) f27 X G (fun _ _ _ _ _ _ us hl => match us, hl with | [_], _ => rfl) fun f fd F => ok_nodes F T (Use.up U_parts (by omega))
  have U_width := mk_use (P := l.prog) (w := w) (mg := mg) (base := base) f28 X G (fun _ _ _ _ _ _ us hl => match us, hl with | [_], _ => rfl) fun f fd F => ok_width F T
  have U_bounded := mk_use (P := l.prog) (w := w) (mg := mg) (base := base) f29 X G (fun _ _ _ _ _ _ us hl => match us, hl with | [_, _], _ => rfl) fun f fd F => ok_bounded F T (Use.up U_nodes (by omega)) (Use.up U_width (by omega)) U_Fault
  have U_Reader_sees_expression := mk_useM (P := l.prog) (w := w) (mg := mg) (base := base) f30 (fun _ _ _ _ _ _ us hl => match us, hl with | [_], _ => rfl) fun f fd F => ok_seesexpr F T UC_Reader
  have U_Reader_need := mk_useM (P := l.prog) (w := w) (mg := mg) (base := base) f31 (fun _ _ _ _ _ _ us hl => match us, hl with | [_, _], _ => rfl) fun f fd F => ok_need F T UC_Reader U_Reader_skip U_Reader_found_line U_Fault
  have U_Reader_sees_named := mk_useM (P := l.prog) (w := w) (mg := mg) (base := base) f32 (fun _ _ _ _ _ _ us hl => match us, hl with | [_], _ => rfl) fun f fd F => ok_seesnamed F T UC_Reader U_Reader_found_kind U_Reader__is_mark
  have U_choice : Use l.prog w K mg base (L2.CX l.prog w) "choice" 18 P_choice (spP K C_Reader C (choiceN 1)) := mk_useG (P := l.prog) (w := w) (mg := mg) (base := base) (fun n => spP K C_Reader C (choiceN n)) 5 13 f33.n X G (fun _ _ _ _ _ _ us hl => match us, hl with | [_], _ => rfl) (fun _ _ _ _ h => by obtain ⟨_, _, _, _, _, k⟩ := h; exact k) (fun n U_choice f fd F => by
      have U_row_parts := mk_use (P := l.prog) (w := w) (mg := mg) (base := base) f42 X G (fun _ _ _ _ _ _ us hl => match us, hl with | [_], _ => rfl) fun f fd F => ok_rowparts (kc := 5 + 13 * n) (ch := (choiceN n)) (by omega) F T UC_Reader U_Reader_skip U_Reader_sees_expression (Use.up U_choice (by omega))
      have U_row := mk_use (P := l.prog) (w := w) (mg := mg) (base := base) f43 X G (fun _ _ _ _ _ _ us hl => match us, hl with | [_], _ => rfl) fun f fd F => ok_row (kc := 5 + 13 * n) (ch := (choiceN n)) (by omega) F T (Use.up U_row_parts (by omega))
      have U_bracketed := mk_use (P := l.prog) (w := w) (mg := mg) (base := base) f46 X G (fun _ _ _ _ _ _ us hl => match us, hl with | [_], _ => rfl) fun f fd F => ok_bracketed (kc := 5 + 13 * n) (ch := (choiceN n)) (by omega) F T UC_Reader U_Reader_skip U_Reader_need (Use.up U_row (by omega))
      have U_list := mk_use (P := l.prog) (w := w) (mg := mg) (base := base) f47 X G (fun _ _ _ _ _ _ us hl => match us, hl with | [_], _ => rfl) fun f fd F => ok_list (kc := 5 + 13 * n) (ch := (choiceN n)) (by omega) F T UC_Reader U_Reader_skip U_Reader_need (Use.up U_row_parts (by omega))
      have U_dict := mk_use (P := l.prog) (w := w) (mg := mg) (base := base) f48 X G (fun _ _ _ _ _ _ us hl => match us, hl with | [_], _ => rfl) fun f fd F => ok_dict (kc := 5 + 13 * n) (ch := (choiceN n)) (by omega) F T UC_Reader U_Reader_skip U_Reader_sees U_Reader_need (Use.up U_choice (by omega))
      have U_named_argument := mk_use (P := l.prog) (w := w) (mg := mg) (base := base) f50 X G (fun _ _ _ _ _ _ us hl => match us, hl with | [_, _], _ => rfl) fun f fd F => ok_namedarg (kc := 5 + 13 * n) (ch := (choiceN n)) (by omega) F T UC_Reader U_Reader_found_line U_Reader_take_name U_Reader_need (Use.up U_choice (by omega)) U_Fault
      have U_arguments := mk_use (P := l.prog) (w := w) (mg := mg) (base := base) f51 X G (fun _ _ _ _ _ _ us hl => match us, hl with | [_], _ => rfl) fun f fd F => ok_arguments (kc := 5 + 13 * n) (ch := (choiceN n)) (by omega) F T UC_Reader U_Reader_skip U_Reader_sees U_Reader_need U_Reader_found_line U_Reader_sees_named (Use.up U_named_argument (by omega)) (Use.up U_choice (by omega)) U_Fault
      have U_indexed := mk_use (P := l.prog) (w := w) (mg := mg) (base := base) f52 X G (fun _ _ _ _ _ _ us hl => match us, hl with | [_, _], _ => rfl) fun f fd F => ok_indexed (kc := 5 + 13 * n) (ch := (choiceN n)) (by omega) F T UC_Reader U_Reader_skip U_Reader_sees U_Reader_need (Use.up U_choice (by omega))
      have U_atom := mk_use (P := l.prog) (w := w) (mg := mg) (base := base) f49 X G (fun _ _ _ _ _ _ us hl => match us, hl with | [_], _ => rfl) fun f fd F => ok_atom (kc := 5 + 13 * n) (ch := (choiceN n)) (by omega) F T UC_Reader U_Reader_skip U_Reader_found_kind U_Reader_found_line U_Reader_take (Use.up U_bracketed (by omega)) (Use.up U_list (by omega)) (Use.up U_dict (by omega)) U_CONSTANTS U_Fault
      have U_primary := mk_use (P := l.prog) (w := w) (mg := mg) (base := base) f53 X G (fun _ _ _ _ _ _ us hl => match us, hl with | [_], _ => rfl) fun f fd F => ok_primary (kc := 5 + 13 * n) (ch := (choiceN n)) (by omega) F T UC_Reader U_Reader_skip U_Reader_take_name (Use.up U_atom (by omega)) (Use.up U_arguments (by omega)) (Use.up U_indexed (by omega))
      have U_minus := mk_use (P := l.prog) (w := w) (mg := mg) (base := base) f41 X G (fun _ _ _ _ _ _ us hl => match us, hl with | [_], _ => rfl) fun f fd F => ok_minus (kc := 5 + 13 * n) (ch := (choiceN n)) (by omega) F T UC_Reader U_Reader_skip (Use.up U_primary (by omega))
      have U_term := mk_use (P := l.prog) (w := w) (mg := mg) (base := base) f40 X G (fun _ _ _ _ _ _ us hl => match us, hl with | [_], _ => rfl) fun f fd F => ok_term (kc := 5 + 13 * n) (ch := (choiceN n)) (by omega) F T UC_Reader U_Reader_sees U_Reader_take (Use.up U_minus (by omega))
      have U_sum := mk_use (P := l.prog) (w := w) (mg := mg) (base := base) f39 X G (fun _ _ _ _ _ _ us hl => match us, hl with | [_], _ => rfl) fun f fd F => ok_sum (kc := 5 + 13 * n) (ch := (choiceN n)) (by omega) F T UC_Reader U_Reader_sees U_Reader_take (Use.up U_term (by omega))
      have U_comparing := mk_use (P := l.prog) (w := w) (mg := mg) (base := base) f38 X G (fun _ _ _ _ _ _ us hl => match us, hl with | [_], _ => rfl) fun f fd F => ok_comparing F T UC_Reader U_Reader_skip U_Reader_need
      have U_comparison := mk_use (P := l.prog) (w := w) (mg := mg) (base := base) f37 X G (fun _ _ _ _ _ _ us hl => match us, hl with | [_], _ => rfl) fun f fd F => ok_comparison (kc := 5 + 13 * n) (ch := (choiceN n)) (by omega) F T UC_Reader (Use.up U_sum (by omega)) (Use.up U_comparing (by omega))
      have U_negation := mk_use (P := l.prog) (w := w) (mg := mg) (base := base) f36 X G (fun _ _ _ _ _ _ us hl => match us, hl with | [_], _ => rfl) fun f fd F => ok_negation (kc := 5 + 13 * n) (ch := (choiceN n)) (by omega) F T UC_Reader U_Reader_skip (Use.up U_comparison (by omega))
      have U_both := mk_use (P := l.prog) (w := w) (mg := mg) (base := base) f35 X G (fun _ _ _ _ _ _ us hl => match us, hl with | [_], _ => rfl) fun f fd F => ok_both (kc := 5 + 13 * n) (ch := (choiceN n)) (by omega) F T UC_Reader U_Reader_skip (Use.up U_negation (by omega))
      have U_either := mk_use (P := l.prog) (w := w) (mg := mg) (base := base) f34 X G (fun _ _ _ _ _ _ us hl => match us, hl with | [_], _ => rfl) fun f fd F => ok_either (kc := 5 + 13 * n) (ch := (choiceN n)) (by omega) F T UC_Reader U_Reader_skip (Use.up U_both (by omega))
      have h := ok_choice (kc := 5 + 13 * n) (ch := (choiceN n)) (by omega) F T UC_Reader U_Reader_skip U_Reader_need (Use.up U_either (by omega))
      have e : 5 + 13 * n + 13 = 5 + 13 * (n + 1) := by omega
      first | exact h | (rw [← e]; exact h)) 1
  have U_row_parts := mk_use (P := l.prog) (w := w) (mg := mg) (base := base) f42 X G (fun _ _ _ _ _ _ us hl => match us, hl with | [_], _ => rfl) fun f fd F => ok_rowparts (kc := 18) (ch := (choiceN 1)) (by omega) F T UC_Reader U_Reader_skip U_Reader_sees_expression (Use.up U_choice (by omega))
  have U_row := mk_use (P := l.prog) (w := w) (mg := mg) (base := base) f43 X G (fun _ _ _ _ _ _ us hl => match us, hl with | [_], _ => rfl) fun f fd F => ok_row (kc := 18) (ch := (choiceN 1)) (by omega) F T (Use.up U_row_parts (by omega))
  have U_row_or_none := mk_use (P := l.prog) (w := w) (mg := mg) (base := base) f44 X G (fun _ _ _ _ _ _ us hl => match us, hl with | [_, _], _ => rfl) fun f fd F => ok_rownone (ke := 23) (ch := (choiceN 1)) (by omega) F T UC_Reader U_Reader_found_kind (Use.up U_bounded (by omega)) (Use.up U_row (by omega))
  have U_raise := mk_use (P := l.prog) (w := w) (mg := mg) (base := base) f45 X G (fun _ _ _ _ _ _ us hl => match us, hl with | [_, _], _ => rfl) fun f fd F => ok_raise (ke := 23) (ch := (choiceN 1)) (by omega) F T UC_Reader U_Reader_found_kind (Use.up U_bounded (by omega)) (Use.up U_choice (by omega))
  have U_bracketed := mk_use (P := l.prog) (w := w) (mg := mg) (base := base) f46 X G (fun _ _ _ _ _ _ us hl => match us, hl with | [_], _ => rfl) fun f fd F => ok_bracketed (kc := 18) (ch := (choiceN 1)) (by omega) F T UC_Reader U_Reader_skip U_Reader_need (Use.up U_row (by omega))
  have U_list := mk_use (P := l.prog) (w := w) (mg := mg) (base := base) f47 X G (fun _ _ _ _ _ _ us hl => match us, hl with | [_], _ => rfl) fun f fd F => ok_list (kc := 18) (ch := (choiceN 1)) (by omega) F T UC_Reader U_Reader_skip U_Reader_need (Use.up U_row_parts (by omega))
  have U_dict := mk_use (P := l.prog) (w := w) (mg := mg) (base := base) f48 X G (fun _ _ _ _ _ _ us hl => match us, hl with | [_], _ => rfl) fun f fd F => ok_dict (kc := 18) (ch := (choiceN 1)) (by omega) F T UC_Reader U_Reader_skip U_Reader_sees U_Reader_need (Use.up U_choice (by omega))
  have U_atom := mk_use (P := l.prog) (w := w) (mg := mg) (base := base) f49 X G (fun _ _ _ _ _ _ us hl => match us, hl with | [_], _ => rfl) fun f fd F => ok_atom (kc := 18) (ch := (choiceN 1)) (by omega) F T UC_Reader U_Reader_skip U_Reader_found_kind U_Reader_found_line U_Reader_take (Use.up U_bracketed (by omega)) (Use.up U_list (by omega)) (Use.up U_dict (by omega)) U_CONSTANTS U_Fault
  have U_named_argument := mk_use (P := l.prog) (w := w) (mg := mg) (base := base) f50 X G (fun _ _ _ _ _ _ us hl => match us, hl with | [_, _], _ => rfl) fun f fd F => ok_namedarg (kc := 18) (ch := (choiceN 1)) (by omega) F T UC_Reader U_Reader_found_line U_Reader_take_name U_Reader_need (Use.up U_choice (by omega)) U_Fault
  have U_arguments := mk_use (P := l.prog) (w := w) (mg := mg) (base := base) f51 X G (fun _ _ _ _ _ _ us hl => match us, hl with | [_], _ => rfl) fun f fd F => ok_arguments (kc := 18) (ch := (choiceN 1)) (by omega) F T UC_Reader U_Reader_skip U_Reader_sees U_Reader_need U_Reader_found_line U_Reader_sees_named (Use.up U_named_argument (by omega)) (Use.up U_choice (by omega)) U_Fault
  have U_indexed := mk_use (P := l.prog) (w := w) (mg := mg) (base := base) f52 X G (fun _ _ _ _ _ _ us hl => match us, hl with | [_, _], _ => rfl) fun f fd F => ok_indexed (kc := 18) (ch := (choiceN 1)) (by omega) F T UC_Reader U_Reader_skip U_Reader_sees U_Reader_need (Use.up U_choice (by omega))
  have U_primary := mk_use (P := l.prog) (w := w) (mg := mg) (base := base) f53 X G (fun _ _ _ _ _ _ us hl => match us, hl with | [_], _ => rfl) fun f fd F => ok_primary (kc := 18) (ch := (choiceN 1)) (by omega) F T UC_Reader U_Reader_skip U_Reader_take_name (Use.up U_atom (by omega)) (Use.up U_arguments (by omega)) (Use.up U_indexed (by omega))
  have U_drop := mk_use (P := l.prog) (w := w) (mg := mg) (base := base) f54 X G (fun _ _ _ _ _ _ us hl => match us, hl with | [_, _], _ => rfl) fun f fd F => ok_drop (ke := 23) (ch := (choiceN 1)) (by omega) F T UC_Reader (Use.up U_bounded (by omega)) (Use.up U_primary (by omega)) U_Fault
  have U_is_target := mk_use (P := l.prog) (w := w) (mg := mg) (base := base) f55 X G (fun _ _ _ _ _ _ us hl => match us, hl with | [_], _ => rfl) fun f fd F => ok_istarget F T
  have U_checked_target := mk_use (P := l.prog) (w := w) (mg := mg) (base := base) f56 X G (fun _ _ _ _ _ _ us hl => match us, hl with | [_, _], _ => rfl) fun f fd F => ok_checkt F T (Use.up U_is_target (by omega)) U_Fault
  have U_store := mk_use (P := l.prog) (w := w) (mg := mg) (base := base) f57 X G (fun _ _ _ _ _ _ us hl => match us, hl with | [_, _, _], _ => rfl) fun f fd F => ok_store (ke := 23) (ch := (choiceN 1)) (by omega) F T UC_Reader U_Reader_skip (Use.up U_bounded (by omega)) (Use.up U_row (by omega)) (Use.up U_row_or_none (by omega))
  have U_row_statement := mk_use (P := l.prog) (w := w) (mg := mg) (base := base) f58 X G (fun _ _ _ _ _ _ us hl => match us, hl with | [_, _], _ => rfl) fun f fd F => ok_rowstmt (ke := 23) (ch := (choiceN 1)) (by omega) F T UC_Reader U_Reader_skip (Use.up U_bounded (by omega)) (Use.up U_row (by omega)) (Use.up U_checked_target (by omega)) (Use.up U_store (by omega)) U_Fault
  have U_statement_lines := mk_useY (P := l.prog) (w := w) (mg := mg) (base := base) f59 X G (fun _ _ _ _ _ _ us hl => match us, hl with | [_, _], _ => rfl) fun f fd F => ok_stmtlines (ke := 23) (ch := (choiceN 1)) (by omega) F T UC_Reader U_Reader_skip (Use.up U_names (by omega)) (Use.up U_row_or_none (by omega)) (Use.up U_raise (by omega)) (Use.up U_drop (by omega)) (Use.up U_row_statement (by omega))
  have U_line_statement := mk_use (P := l.prog) (w := w) (mg := mg) (base := base) f60 X G (fun _ _ _ _ _ _ us hl => match us, hl with | [_], _ => rfl) fun f fd F => ok_linestmt (ke := 23) (ch := (choiceN 1)) (by omega) F T UC_Reader U_Reader_found_line U_Reader_end_line (Use.up U_statement_lines (by omega))
  have U_statement_parsing := mk_useY (P := l.prog) (w := w) (mg := mg) (base := base) f61 X G (fun _ _ _ _ _ _ us hl => match us, hl with | [_, _], _ => rfl) fun f fd F => ok_stmtparse (ke := 23) (ch := (choiceN 1)) (by omega) rfl F T UC_Reader U_Reader_found_line U_Reader_skip (Use.up U_line_statement (by omega)) U_BLOCK_STATEMENTS
  have U_parse := mk_use (P := l.prog) (w := w) (mg := mg) (base := base) f62 X G (fun _ _ _ _ _ _ us hl => match us, hl with | [_], _ => rfl) fun f fd F => ok_parse0 (ke := 29) (by omega) F T UC_Reader U_Reader___init__ U_Reader_found_kind (Use.up U_split (by omega)) (Use.up U_statement_parsing (by omega))
  have U_law_cut := mk_use (P := l.prog) (w := w) (mg := mg) (base := base) f63 X G (fun _ _ _ _ _ _ us hl => match us, hl with | [_, _], _ => rfl) fun f fd F => ok_cut F T
  have U_law_unary := mk_use (P := l.prog) (w := w) (mg := mg) (base := base) f64 X G (fun _ _ _ _ _ _ us hl => match us, hl with | [_], _ => rfl) fun f fd F => ok_unary F T
  have U_law_lower : Use l.prog w K mg base CX0 "_law_lower" 16 P_law_lower (spLow K 7) := mk_useG (P := l.prog) (w := w) (mg := mg) (base := base) (fun n => spLow K n) 2 2 f65.n X G (fun _ _ _ _ _ _ us hl => match us, hl with | [_, _], _ => rfl) (fun _ _ _ _ h => by obtain ⟨_, _, _, h, _⟩ := h; exact absurd h (Nat.not_lt_zero _)) (fun n U_law_lower f fd F => by
      have U_law_binary := mk_use (P := l.prog) (w := w) (mg := mg) (base := base) f66 X G (fun _ _ _ _ _ _ us hl => match us, hl with | [_, _, _], _ => rfl) fun f fd F => ok_binary (n := n) F T (Use.up U_law_cut (by omega)) (Use.up U_law_lower (by omega))
      have h := ok_lower (n := n) F T (Use.up U_law_unary (by omega)) (Use.up U_law_cut (by omega)) (Use.up U_law_binary (by omega)) (Use.up U_law_lower (by omega))
      have e : 2 + 2 * n + 2 = 2 + 2 * (n + 1) := by omega
      first | exact h | (rw [← e]; exact h)) 7
  have U_law_tree := mk_use (P := l.prog) (w := w) (mg := mg) (base := base) f67 X G (fun _ _ _ _ _ _ us hl => match us, hl with | [_], _ => rfl) fun f fd F => ok_tree F T (Use.up U_law_lower (by omega))
  exact ok_law F T (Use.up U_law_digits (by omega)) (Use.up U_law_draw (by omega)) (Use.up U_law_row (by omega)) (Use.up U_parse (by omega)) (Use.up U_law_tree (by omega))
end K05
open PySem PySem.W PyProof.Rows
set_option maxRecDepth 100000 in
set_option maxHeartbeats 0 in
theorem PySem.Challenge.cw_pyhold_k05_strengths_holds : PySem.Challenge.rw_pyhold_k05_strengths.Holds := by
  w_on; o_law; k_head; (case hw => w_witness2)
  k_fill
  refine LK.walkG (l := PySem.Challenge.rw_pyhold_k05_strengths) (n := 63) (k := 31) (x := "script") (CX := L2.CX0) (sp := K05.spLaw) rfl (by decide) rfl ⟨rfl, by decide, by decide⟩ (fun w h Y => PySem.W.kIn_of Y) ?F (fun K H a ns hl _ hS => ⟨a, ns, rfl, hS, hl, fun _ => rfl⟩) (fun _ _ _ _ z => z)
  case F =>
    intro w mg fa h KX G hmg
    refine' K05.walk_mk KX G hmg ?k_Reader ?f0 ?f1 ?f2 ?f3 ?f4 ?f5 ?f6 ?f7 ?f8 ?f9 ?f10 ?f11 ?f12 ?f13 ?f14 ?f15 ?f16 ?f17 ?f18 ?f19 ?f20 ?f21 ?f22 ?f23 ?f24 ?f25 ?f26 ?f27 ?f28 ?f29 ?f30 ?f31 ?f32 ?f33 ?f34 ?f35 ?f36 ?f37 ?f38 ?f39 ?f40 ?f41 ?f42 ?f43 ?f44 ?f45 ?f46 ?f47 ?f48 ?f49 ?f50 ?f51 ?f52 ?f53 ?f54 ?f55 ?f56 ?f57 ?f58 ?f59 ?f60 ?f61 ?f62 ?f63 ?f64 ?f65 ?f66 ?f67 ?f68 ?c0 ?c1 ?c2 ?c3 ?c4 ?c5 ?c6 ?c7 ?c8 ?c9 ?c10 ?c11 ?c12 ?c13 ?c14 ?c15 ?c16 ?c17 ?b_len ?b_int ?b_range ?b_list ?b_tuple ?b_isinstance ?b_bool ?b_str ?b_enumerate ?d_ESCAPES ?d_OPENED_BY ?d_CONSTANTS ?d_BLOCK_STATEMENTS ?flt
    case k_Reader => refine' LK.ClsK.mk' ?a ?b ?c ?d ?e ?f ?g ?h; (case a => k_is); (case b => k_is); (case c => k_is); (case d => k_is); (case e => k_is); (case f => k_is); (case g => k_is); (case h => repeat (first | exact .nil | refine LK.NoAll.cons (by k_is) ?_))
    case f0 => refine' LK.HasFn.mk' ?a ?b ?c ?d; (case a => k_is); (case b => k_is); (case c => k_is); (case d => k_is)
    case f1 => refine' LK.HasFn.mk' ?a ?b ?c ?d; (case a => k_is); (case b => k_is); (case c => k_is); (case d => k_is)
    case f2 => refine' LK.HasFn.mk' ?a ?b ?c ?d; (case a => k_is); (case b => k_is); (case c => k_is); (case d => k_is)
    case f3 => refine' LK.HasFn.mk' ?a ?b ?c ?d; (case a => k_is); (case b => k_is); (case c => k_is); (case d => k_is)
    case f4 => refine' LK.HasMeth.mk' ?a ?b ?c ?d ?e; (case a => k_is); (case b => k_is); (case c => k_is); (case d => k_is); (case e => k_is)
    case f5 => refine' LK.HasMeth.mk' ?a ?b ?c ?d ?e; (case a => k_is); (case b => k_is); (case c => k_is); (case d => k_is); (case e => k_is)
    case f6 => refine' LK.HasFn.mk' ?a ?b ?c ?d; (case a => k_is); (case b => k_is); (case c => k_is); (case d => k_is)
    case f7 => refine' LK.HasFn.mk' ?a ?b ?c ?d; (case a => k_is); (case b => k_is); (case c => k_is); (case d => k_is)
    case f8 => refine' LK.HasFn.mk' ?a ?b ?c ?d; (case a => k_is); (case b => k_is); (case c => k_is); (case d => k_is)
    case f9 => refine' LK.HasFn.mk' ?a ?b ?c ?d; (case a => k_is); (case b => k_is); (case c => k_is); (case d => k_is)
    case f10 => refine' LK.HasFn.mk' ?a ?b ?c ?d; (case a => k_is); (case b => k_is); (case c => k_is); (case d => k_is)
    case f11 => refine' LK.HasFn.mk' ?a ?b ?c ?d; (case a => k_is); (case b => k_is); (case c => k_is); (case d => k_is)
    case f12 => refine' LK.HasFn.mk' ?a ?b ?c ?d; (case a => k_is); (case b => k_is); (case c => k_is); (case d => k_is)
    case f13 => refine' LK.HasFn.mk' ?a ?b ?c ?d; (case a => k_is); (case b => k_is); (case c => k_is); (case d => k_is)
    case f14 => refine' LK.HasFn.mk' ?a ?b ?c ?d; (case a => k_is); (case b => k_is); (case c => k_is); (case d => k_is)
    case f15 => refine' LK.HasFn.mk' ?a ?b ?c ?d; (case a => k_is); (case b => k_is); (case c => k_is); (case d => k_is)
    case f16 => refine' LK.HasFn.mk' ?a ?b ?c ?d; (case a => k_is); (case b => k_is); (case c => k_is); (case d => k_is)
    case f17 => refine' LK.HasFn.mk' ?a ?b ?c ?d; (case a => k_is); (case b => k_is); (case c => k_is); (case d => k_is)
    case f18 => refine' LK.HasMeth.mk' ?a ?b ?c ?d ?e; (case a => k_is); (case b => k_is); (case c => k_is); (case d => k_is); (case e => k_is)
    case f19 => refine' LK.HasMeth.mk' ?a ?b ?c ?d ?e; (case a => k_is); (case b => k_is); (case c => k_is); (case d => k_is); (case e => k_is)
    case f20 => refine' LK.HasMeth.mk' ?a ?b ?c ?d ?e; (case a => k_is); (case b => k_is); (case c => k_is); (case d => k_is); (case e => k_is)
    case f21 => refine' LK.HasMeth.mk' ?a ?b ?c ?d ?e; (case a => k_is); (case b => k_is); (case c => k_is); (case d => k_is); (case e => k_is)
    case f22 => refine' LK.HasMeth.mk' ?a ?b ?c ?d ?e; (case a => k_is); (case b => k_is); (case c => k_is); (case d => k_is); (case e => k_is)
    case f23 => refine' LK.HasMeth.mk' ?a ?b ?c ?d ?e; (case a => k_is); (case b => k_is); (case c => k_is); (case d => k_is); (case e => k_is)
    case f24 => refine' LK.HasMeth.mk' ?a ?b ?c ?d ?e; (case a => k_is); (case b => k_is); (case c => k_is); (case d => k_is); (case e => k_is)
    case f25 => refine' LK.HasFn.mk' ?a ?b ?c ?d; (case a => k_is); (case b => k_is); (case c => k_is); (case d => k_is)
    case f26 => refine' LK.HasFn.mk' ?a ?b ?c ?d; (case a => k_is); (case b => k_is); (case c => k_is); (case d => k_is)
    case f27 => refine' LK.HasFn.mk' ?a ?b ?c ?d; (case a => k_is); (case b => k_is); (case c => k_is); (case d => k_is)
    case f28 => refine' LK.HasFn.mk' ?a ?b ?c ?d; (case a => k_is); (case b => k_is); (case c => k_is); (case d => k_is)
    case f29 => refine' LK.HasFn.mk' ?a ?b ?c ?d; (case a => k_is); (case b => k_is); (case c => k_is); (case d => k_is)
    case f30 => refine' LK.HasMeth.mk' ?a ?b ?c ?d ?e; (case a => k_is); (case b => k_is); (case c => k_is); (case d => k_is); (case e => k_is)
    case f31 => refine' LK.HasMeth.mk' ?a ?b ?c ?d ?e; (case a => k_is); (case b => k_is); (case c => k_is); (case d => k_is); (case e => k_is)
    case f32 => refine' LK.HasMeth.mk' ?a ?b ?c ?d ?e; (case a => k_is); (case b => k_is); (case c => k_is); (case d => k_is); (case e => k_is)
    case f33 => refine' LK.HasFn.mk' ?a ?b ?c ?d; (case a => k_is); (case b => k_is); (case c => k_is); (case d => k_is)
    case f34 => refine' LK.HasFn.mk' ?a ?b ?c ?d; (case a => k_is); (case b => k_is); (case c => k_is); (case d => k_is)
    case f35 => refine' LK.HasFn.mk' ?a ?b ?c ?d; (case a => k_is); (case b => k_is); (case c => k_is); (case d => k_is)
    case f36 => refine' LK.HasFn.mk' ?a ?b ?c ?d; (case a => k_is); (case b => k_is); (case c => k_is); (case d => k_is)
    case f37 => refine' LK.HasFn.mk' ?a ?b ?c ?d; (case a => k_is); (case b => k_is); (case c => k_is); (case d => k_is)
    case f38 => refine' LK.HasFn.mk' ?a ?b ?c ?d; (case a => k_is); (case b => k_is); (case c => k_is); (case d => k_is)
    case f39 => refine' LK.HasFn.mk' ?a ?b ?c ?d; (case a => k_is); (case b => k_is); (case c => k_is); (case d => k_is)
    case f40 => refine' LK.HasFn.mk' ?a ?b ?c ?d; (case a => k_is); (case b => k_is); (case c => k_is); (case d => k_is)
    case f41 => refine' LK.HasFn.mk' ?a ?b ?c ?d; (case a => k_is); (case b => k_is); (case c => k_is); (case d => k_is)
    case f42 => refine' LK.HasFn.mk' ?a ?b ?c ?d; (case a => k_is); (case b => k_is); (case c => k_is); (case d => k_is)
    case f43 => refine' LK.HasFn.mk' ?a ?b ?c ?d; (case a => k_is); (case b => k_is); (case c => k_is); (case d => k_is)
    case f44 => refine' LK.HasFn.mk' ?a ?b ?c ?d; (case a => k_is); (case b => k_is); (case c => k_is); (case d => k_is)
    case f45 => refine' LK.HasFn.mk' ?a ?b ?c ?d; (case a => k_is); (case b => k_is); (case c => k_is); (case d => k_is)
    case f46 => refine' LK.HasFn.mk' ?a ?b ?c ?d; (case a => k_is); (case b => k_is); (case c => k_is); (case d => k_is)
    case f47 => refine' LK.HasFn.mk' ?a ?b ?c ?d; (case a => k_is); (case b => k_is); (case c => k_is); (case d => k_is)
    case f48 => refine' LK.HasFn.mk' ?a ?b ?c ?d; (case a => k_is); (case b => k_is); (case c => k_is); (case d => k_is)
    case f49 => refine' LK.HasFn.mk' ?a ?b ?c ?d; (case a => k_is); (case b => k_is); (case c => k_is); (case d => k_is)
    case f50 => refine' LK.HasFn.mk' ?a ?b ?c ?d; (case a => k_is); (case b => k_is); (case c => k_is); (case d => k_is)
    case f51 => refine' LK.HasFn.mk' ?a ?b ?c ?d; (case a => k_is); (case b => k_is); (case c => k_is); (case d => k_is)
    case f52 => refine' LK.HasFn.mk' ?a ?b ?c ?d; (case a => k_is); (case b => k_is); (case c => k_is); (case d => k_is)
    case f53 => refine' LK.HasFn.mk' ?a ?b ?c ?d; (case a => k_is); (case b => k_is); (case c => k_is); (case d => k_is)
    case f54 => refine' LK.HasFn.mk' ?a ?b ?c ?d; (case a => k_is); (case b => k_is); (case c => k_is); (case d => k_is)
    case f55 => refine' LK.HasFn.mk' ?a ?b ?c ?d; (case a => k_is); (case b => k_is); (case c => k_is); (case d => k_is)
    case f56 => refine' LK.HasFn.mk' ?a ?b ?c ?d; (case a => k_is); (case b => k_is); (case c => k_is); (case d => k_is)
    case f57 => refine' LK.HasFn.mk' ?a ?b ?c ?d; (case a => k_is); (case b => k_is); (case c => k_is); (case d => k_is)
    case f58 => refine' LK.HasFn.mk' ?a ?b ?c ?d; (case a => k_is); (case b => k_is); (case c => k_is); (case d => k_is)
    case f59 => refine' LK.HasFnN.mk' ?a ?b ?c ?d; (case a => k_is); (case b => k_is); (case c => k_is); (case d => k_is)
    case f60 => refine' LK.HasFn.mk' ?a ?b ?c ?d; (case a => k_is); (case b => k_is); (case c => k_is); (case d => k_is)
    case f61 => refine' LK.HasFnN.mk' ?a ?b ?c ?d; (case a => k_is); (case b => k_is); (case c => k_is); (case d => k_is)
    case f62 => refine' LK.HasFn.mk' ?a ?b ?c ?d; (case a => k_is); (case b => k_is); (case c => k_is); (case d => k_is)
    case f63 => refine' LK.HasFn.mk' ?a ?b ?c ?d; (case a => k_is); (case b => k_is); (case c => k_is); (case d => k_is)
    case f64 => refine' LK.HasFn.mk' ?a ?b ?c ?d; (case a => k_is); (case b => k_is); (case c => k_is); (case d => k_is)
    case f65 => refine' LK.HasFn.mk' ?a ?b ?c ?d; (case a => k_is); (case b => k_is); (case c => k_is); (case d => k_is)
    case f66 => refine' LK.HasFn.mk' ?a ?b ?c ?d; (case a => k_is); (case b => k_is); (case c => k_is); (case d => k_is)
    case f67 => refine' LK.HasFn.mk' ?a ?b ?c ?d; (case a => k_is); (case b => k_is); (case c => k_is); (case d => k_is)
    case f68 => refine' LK.HasFn.mk' ?a ?b ?c ?d; (case a => k_is); (case b => k_is); (case c => k_is); (case d => k_is)
    case c0 => refine' LK.HasInt.mk' ?a ?b; (case a => k_is); (case b => decide +kernel)
    case c1 => refine' LK.HasInt.mk' ?a ?b; (case a => k_is); (case b => decide +kernel)
    case c2 => refine' LK.HasInt.mk' ?a ?b; (case a => k_is); (case b => decide +kernel)
    case c3 => refine' LK.HasInt.mk' ?a ?b; (case a => k_is); (case b => decide +kernel)
    case c4 => refine' LK.HasInt.mk' ?a ?b; (case a => k_is); (case b => decide +kernel)
    case c5 => refine' LK.HasInt.mk' ?a ?b; (case a => k_is); (case b => decide +kernel)
    case c6 => refine' LK.HasInt.mk' ?a ?b; (case a => k_is); (case b => decide +kernel)
    case c7 => refine' LK.HasInt.mk' ?a ?b; (case a => k_is); (case b => decide +kernel)
    case c8 => refine' LK.HasInt.mk' ?a ?b; (case a => k_is); (case b => decide +kernel)
    case c9 => refine' LK.HasTup.mk' ?a ?b ?c ?d; (case a => k_is); (case b => k_is); (case c => decide); (case d => repeat (first | exact .nil | refine .cons ⟨_, rfl⟩ ?_))
    case c10 => refine' LK.HasTup.mk' ?a ?b ?c ?d; (case a => k_is); (case b => k_is); (case c => decide); (case d => repeat (first | exact .nil | refine .cons ⟨_, rfl⟩ ?_))
    case c11 => refine' LK.HasTup.mk' ?a ?b ?c ?d; (case a => k_is); (case b => k_is); (case c => decide); (case d => repeat (first | exact .nil | refine .cons ⟨_, rfl⟩ ?_))
    case c12 => refine' LK.HasTup.mk' ?a ?b ?c ?d; (case a => k_is); (case b => k_is); (case c => decide); (case d => repeat (first | exact .nil | refine .cons ⟨_, rfl⟩ ?_))
    case c13 => refine' LK.HasTup.mk' ?a ?b ?c ?d; (case a => k_is); (case b => k_is); (case c => decide); (case d => repeat (first | exact .nil | refine .cons ⟨_, rfl⟩ ?_))
    case c14 => refine' LK.HasTup.mk' ?a ?b ?c ?d; (case a => k_is); (case b => k_is); (case c => decide); (case d => repeat (first | exact .nil | refine .cons ⟨_, rfl⟩ ?_))
    case c15 => refine' LK.HasTup.mk' ?a ?b ?c ?d; (case a => k_is); (case b => k_is); (case c => decide); (case d => repeat (first | exact .nil | refine .cons ⟨_, rfl⟩ ?_))
    case c16 => refine' LK.HasDat.mk2 ?a ?b ?c ?d ?e ?f ?g; (case a => k_is); (case b => k_is); (case c => decide); (case d => exact .cons ⟨_, rfl⟩ (.cons rfl .nil)); (case e => k_is); (case f => decide); (case g => exact .cons ⟨_, rfl⟩ .nil)
    case c17 => refine' LK.HasStr.mk' ?a ?b; (case a => k_is); (case b => decide +kernel)
    case b_len => k_is
    case b_int => k_is
    case b_range => k_is
    case b_list => k_is
    case b_tuple => k_is
    case b_isinstance => k_is
    case b_bool => k_is
    case b_str => k_is
    case b_enumerate => k_is
    case d_ESCAPES => refine' LK.HasDct.mk' ?a ?b ?c ?d ?e; (case a => k_is); (case b => k_is); (case c => rfl); (case d => repeat (first | exact .nil | refine .cons rfl rfl rfl ?_)); (case e => decide +kernel)
    case d_OPENED_BY => refine' LK.HasDct.mk' ?a ?b ?c ?d ?e; (case a => k_is); (case b => k_is); (case c => rfl); (case d => repeat (first | exact .nil | refine .cons rfl rfl rfl ?_)); (case e => decide +kernel)
    case d_CONSTANTS => refine' LK.HasTupD.mk' ?a ?b ?c ?d ?e; (case a => k_is); (case b => k_is); (case c => rfl); (case d => refine' LK.TEnt.cons rfl rfl rfl ?x0 ?y0 ?z0 ?r0; (case x0 => k_is); (case y0 => decide); (case z0 => repeat (first | exact .nil | refine .cons ⟨_, rfl⟩ ?_ | refine .cons rfl ?_)); (case r0 => refine' LK.TEnt.cons rfl rfl rfl ?x1 ?y1 ?z1 ?r1; (case x1 => k_is); (case y1 => decide); (case z1 => repeat (first | exact .nil | refine .cons ⟨_, rfl⟩ ?_ | refine .cons rfl ?_)); (case r1 => refine' LK.TEnt.cons rfl rfl rfl ?x2 ?y2 ?z2 ?r2; (case x2 => k_is); (case y2 => decide); (case z2 => repeat (first | exact .nil | refine .cons ⟨_, rfl⟩ ?_ | refine .cons rfl ?_)); (case r2 => exact LK.TEnt.nil)))); (case e => decide +kernel)
    case d_BLOCK_STATEMENTS => refine' LK.HasDctI.mkF' ?a ?b ?c ?d ?e; (case a => k_is); (case b => k_is); (case c => rfl); (case d => repeat (first | exact .nil | refine .cons rfl rfl rfl ?_)); (case e => decide +kernel)
    case flt => refine' LK.HasFault.mk' ?a1 ?a2 ?a3 ?a4 ?a5 ?a6 ?a7 ?a8 ?b1 ?b2 ?b3 ?b4 ?b5 ?b6 ?b7 ?b8 ?c1 ?c2 ?c3 ?c4 ?c5 ?c6 ?d1 ?d2 ?d3 ?d4 ?d5 ?d6 ?d7 ?e1 ?e2 ?e3 ?e4 ?e5 ?e6; (case a1 => k_is); (case a2 => k_is); (case a3 => k_is); (case a4 => decide +kernel); (case a5 => k_is); (case a6 => k_is); (case a7 => k_is); (case a8 => k_is); (case b1 => k_is); (case b2 => k_is); (case b3 => k_is); (case b4 => k_is); (case b5 => k_is); (case b6 => rfl); (case b7 => decide +kernel); (case b8 => decide +kernel); (case c1 => k_is); (case c2 => k_is); (case c3 => k_is); (case c4 => ks_is); (case c5 => k_is); (case c6 => k_is); (case d1 => k_is); (case d2 => k_is); (case d3 => k_is); (case d4 => k_is); (case d5 => k_is); (case d6 => k_is); (case d7 => k_is); (case e1 => k_is); (case e2 => k_is); (case e3 => k_is); (case e4 => k_is); (case e5 => k_is); (case e6 => k_is)


