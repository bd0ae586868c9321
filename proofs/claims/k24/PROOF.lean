import PyProof.Rows.All
import Wide.All
import OpenK.AllK
import Wide.FinOn
import HandS.ForMost
import HandS.Wide
import HandS.WideMore
import HandS.TupAny
import HandS.TupLen
import HandS.Evl
import HandS.Codes
import PyProof.ReprLen
import PyProof.StrLawsRepr
import HandS.Walk
import HandS.Zip
import KE.GoesMore
import HandS.Style
import HandS.TupMul
import PyProof.StrOps2
import HandS.IsInst
import HandS.StrMore
import HandS.Dict
import HandS.Conv
import KE.KDictList
import HandS.Iter
import HandS.Rev
import HandS.RevTup
import KE.KRevIter
import HandS.FStr
import PyProof.ToksMono
import PyProof.GenQ
import PyProof.WalksS
import PyProof.ConsumeS
import HandS.AnyAll
import HandS.EndTab
import PyProof.EqKinds
import PySem.Challenge.RW_pyhold_k24_membership
set_option Elab.async false
set_option linter.all false
set_option maxRecDepth 100000
set_option maxHeartbeats 4000000
/-! A layer of one's own over the hand layer: defs by name, data, the helpers that the laws share. -/
namespace LK
open PySem PySem.Spec PyProof.Rows L2

/-! ### a def's promise where nothing is being shown (repr asks who is) -/
structure FnG (P : Program) (w : World) (K : PySem.W.Frag) (mg : Str → Option Value) (base : Heap) (CX : CXT) (k : Nat) (f : Addr) (fd : FuncData) (ps : List Str) (sp : Sp) : Prop where
  len : ∀ vs H Q E, sp vs H Q E → vs.length = ps.length
  run : ∀ (A : Around) (outer : List Env) (s : Shared) (H : Hp) (args : Args) (us : List Value) (vs : List V) (Q : VK) (E : XK), Room k A → A.guards = some [] →
    Env0 P w K mg base A outer s H → BindsTo s fd args (ps.zip us) → Vals vs us → sp vs H Q E → codeAny (model P w) A (.call (.ref f) args) (CR CX outer P w H s Q E) s
section
variable {P : Program} {w : World} {K : PySem.W.Frag} {mg : Str → Option Value} {base : Heap} {CX : CXT}
theorem FnG.imp {k : Nat} {f : Addr} {fd : FuncData} {ps : List Str} {sp sp' : Sp} (F : FnG P w K mg base CX k f fd ps sp) (h : ∀ vs H Q E, sp' vs H Q E → sp vs H Q E) : FnG P w K mg base CX k f fd ps sp' where
  len := fun vs H Q E q => F.len vs H Q E (h vs H Q E q)
  run := fun A outer s H args us vs Q E hr hg he hb hv hs => F.run A outer s H args us vs Q E hr hg he hb hv (h vs H Q E hs)
/-- the rule for a def: its body as a term of rules, and the reading of that term -/
theorem okG {x qual : Str} {st : Stmt} {f : Addr} {fd : FuncData} {N ps : List Str} {k : Nat} {sp : Sp} (F : Fun K x qual st f fd) (S : FnScope N ps (defScope st)) (len : ∀ vs H Q E, sp vs H Q E → vs.length = ps.length)
    (body : ∀ (cdv : Value) (A : Around) (outer : List Env) (s : Shared) (H : Hp) (vs : List V) (Q : VK) (E : XK), Room k (A.deeper (envOfC qual (defScope st) s.heap.objs.size f cdv)) →
      (A.deeper (envOfC qual (defScope st) s.heap.objs.size f cdv)).guards = some [] → sp vs H Q E →
      ∃ t, PSs (cxOf CX P w K mg base N qual (defScope st) f cdv A outer s H E) (defBody st) t ∧ t { nx := fun _ H' => Q .non H', rt := Q } (start N vs) H) :
    FnG P w K mg base CX (k + 1) f fd ps sp := by
  obtain ⟨oc, od, kV, doc, pm, an, cdv, ct, osl, rfl, lk, hcd⟩ := F.ex
  refine ⟨len, fun A outer s H args us vs Q E hr hgd e0 hb r hsp => ?_⟩
  have inn : K.In s.heap := e0.mod.kin.keeps fun b o e => (e0.bs b o e).1
  refine codeAny_call_function hr.depth (inn _ _ lk) rfl S.co S.gen rfl (PySem.W.codeRec_of inn hcd) (hb _ _ _ _ ?_)
  refine wpAny_newFunctionEnv_cells S.kind (fun y hy => ?_) fun env he s1 made => ?_
  · obtain ⟨n, v⟩ := y
    exact (S.par n (List.of_mem_zip hy).1).elim .inl fun q => .inr ⟨q, PySem.W.cellsFrom_some _ _ _ (.inl q)⟩
  · subst he
    have lim : s.heap.NoLimit := e0.mod.nolimit.keeps fun b o e => (e0.bs b o e).1
    refine ⟨lim.keeps made.toInCall.keep, codeAny_func ?_⟩
    obtain ⟨t, ht, hq⟩ := body cdv A outer s H vs Q E (hr.deeper _) hgd hsp
    refine wpAny_mono (ht.run [] s1 (start N vs) H _ (inv_start S hr.hd e0 (len _ _ _ _ hsp) r made) hq) (fun fl s' hs => ?_) fun e s' hs => hs
    cases fl with
    | ret u => exact let ⟨v, _, H', J, rv, q⟩ := hs; ⟨v, H', J.os, J.bare, J.base, J.hok, rv, q⟩
    | next => exact let ⟨_, H', J, q⟩ := hs; ⟨V.non, H', J.os, J.bare, J.base, J.hok, rfl, q⟩
    | brk => exact let ⟨_, _, _, q⟩ := hs; q.elim
    | cont => exact let ⟨_, _, _, q⟩ := hs; q.elim
/-- .. whose body lets no exception out -/
theorem okG0 {x qual : Str} {st : Stmt} {f : Addr} {fd : FuncData} {N ps : List Str} {k : Nat} {sp : Sp} (F : Fun K x qual st f fd) (S : FnScope N ps (defScope st)) (len : ∀ vs H Q E, sp vs H Q E → vs.length = ps.length)
    (body : ∀ (cdv : Value) (A : Around) (outer : List Env) (s : Shared) (H : Hp) (vs : List V) (Q : VK) (E : XK), Room k (A.deeper (envOfC qual (defScope st) s.heap.objs.size f cdv)) →
      (A.deeper (envOfC qual (defScope st) s.heap.objs.size f cdv)).guards = some [] → sp vs H Q E →
      ∃ t, PSs (cxOf CX0 P w K mg base N qual (defScope st) f cdv A outer s H E).nox (defBody st) t ∧ t { nx := fun _ H' => Q .non H', rt := Q } (start N vs) H) :
    FnG P w K mg base CX0 (k + 1) f fd ps sp :=
  okG F S len fun cdv A outer s H vs Q E hr hg hs => let ⟨t, ht, q⟩ := body cdv A outer s H vs Q E hr hg hs; ⟨t, ht.nox, q⟩
end
section
variable {X : Cx} {CX : CXT} {k : Nat} {f : Addr} {fd : FuncData} {ps : List Str} {sp : Sp} {E : XK} {x : Str} {p pos : Pos} {e : Expr} {es : List Expr} {t : TA}
theorem run_fnG {pins : List (Addr × Obj)} {σ : L2.St} {H : Hp} {s : Shared} {Q : VK} {us : List Value} {vs : List V} (F : FnG X.prog X.w X.K X.mg X.base CX k f fd ps sp) (hr : Room k X.A) (hg : X.A.guards = some []) (hb : Binds X.K fd ps [])
    (hx : Passes CX X E) (I : Inv X pins σ H s) (r : Vals vs us) (h : sp vs H Q E) : wpAny (model X.prog X.w) X.A (call (.ref f) us) (EP X pins σ Q) X.xe s := by
  have hl : (us ++ []).length = ps.length := by rw [List.append_nil, ← r.length, F.len _ _ _ _ h]
  have hbs := hb s us I.kIn hl
  rw [List.append_nil] at hbs
  refine wpAny_call (codeAny_mono (F.run X.A X.stack s H ⟨us, []⟩ us vs Q E hr hg I.env0 hbs r h) fun res s' hq => ?_)
  match res, hq with
  | .error e, hq => exact hx pins σ H s e s' I hq
  | .ok (.ret u), hq => exact I.after hq
  | .ok .next, hq => exact hq.elim
  | .ok .brk, hq => exact hq.elim
  | .ok .cont, hq => exact hq.elim
end

/-! ### defs of the text, by name -/
/-- what the top has left of the def x, whose statement is st -/
def HasFn (K : PySem.W.Frag) (x : Str) (st : Stmt) : Prop := ∃ (f : Addr) (oc : Value) (od an : Option Addr) (kV doc pm cdv ct : Value) (osl : Array (Option Value)),
  PySem.W.nsIn K mainGlobals x = some (some (.ref f)) ∧ K.lookup f = some ⟨oc, od, .func (PySem.W.fnOf x x (defArgs st) (defBody st) (defScope st) .none kV doc pm an cdv ct), osl⟩ ∧
  PySem.W.codeIn K cdv x = true ∧ PySem.W.keepIn K (.ref f) = true
/-- the def x may be called: its promise sp, by level k -/
structure Use (P : Program) (w : World) (K : PySem.W.Frag) (mg : Str → Option Value) (base : Heap) (CX : CXT) (x : Str) (k : Nat) (ps : List Str) (sp : Sp) : Prop where
  ex : ∃ (f : Addr) (fd : FuncData), FnG P w K mg base CX k f fd ps sp ∧ mg x = some (.ref f) ∧ PySem.W.keepIn K (.ref f) = true ∧ Binds K fd ps []
section
variable {P : Program} {w : World} {K : PySem.W.Frag} {mg : Str → Option Value} {base h : Heap} {CX : CXT}
theorem mk_use {x : Str} {st : Stmt} {k : Nat} {ps : List Str} {sp : Sp} (F : HasFn K x st) (X : K.In h) (G : h.Ns mainGlobals mg)
    (hb : ∀ (kV doc pm : Value) (an : Option Addr) (cdv ct : Value) (us : List Value), us.length = ps.length → bindArgs (PySem.W.fnOf x x (defArgs st) (defBody st) (defScope st) .none kV doc pm an cdv ct) ⟨us, []⟩ = pure (ps.zip us))
    (ok : ∀ (f : Addr) (fd : FuncData), Fun K x x st f fd → FnG P w K mg base CX k f fd ps sp) : Use P w K mg base CX x k ps sp := by
  obtain ⟨f, oc, od, an, kV, doc, pm, cdv, ct, osl, e, l, c, kp⟩ := F
  have Fn := fun_mk (st := st) l c kp
  exact ⟨f, _, ok f _ Fn, PySem.W.mg_of X G e, kp, Fn.binds hb⟩
theorem Use.imp {x : Str} {k : Nat} {ps : List Str} {sp sp' : Sp} (U : Use P w K mg base CX x k ps sp) (h : ∀ vs H Q E, sp' vs H Q E → sp vs H Q E) : Use P w K mg base CX x k ps sp' := by
  obtain ⟨f, fd, ok, r⟩ := U.ex
  exact ⟨f, fd, ok.imp h, r⟩
end
section
variable {X : Cx} {CX : CXT} {E : XK} {k : Nat} {x : Str} {ps : List Str} {sp : Sp} {p pos : Pos} {e : Expr} {es : List Expr} {t : TA}
theorem pe_useX (U : Use X.prog X.w X.K X.mg X.base CX x k ps sp) (hx : Passes CX X E) (hr : Room k X.A) (gd : X.A.guards = some []) (hg : Gl X x) (ha : PA X (e :: es) t) (hdb : (x == ("__debug__" : Str)) = false := by decide)
    (he : starEach (e :: es) X.env = (false, eval e X.env) :: starEach es X.env := by rfl) (hpl : (backTo pos (starEach es X.env)).any (·.1) = false := by rfl) : PE X (.Call (.Name x p) (e :: es) [] pos) (fun σ H Q => t σ H fun vs H1 => sp vs H1 Q E) := by
  obtain ⟨f, fd, ok, hm, kp, hb⟩ := U.ex
  refine ⟨fun pins s σ H Q I h => wpAny_Call_Name_kw (ld_glob I hg hm ?_ hdb)⟩
  exact PySem.W.callWith_K (h₀ := X.base) I.ok.mod.kin kp (thn (ha.run pos pins s σ H _ I h) fun us s1 ⟨vs, H1, I1, r, q⟩ => ⟨I1.kIn, run_fnG ok hr gd hb hx I1 r q⟩) he hpl
def tUse (sp : Sp) (E : XK) (t : TA) : TE := fun σ H Q => t σ H fun vs H1 => sp vs H1 Q E
theorem pe_use (U : Use X.prog X.w X.K X.mg X.base CX0 x k ps sp) (hr : Room k X.A) (gd : X.A.guards = some []) (hg : Gl X x) (ha : PA X (e :: es) t) (hdb : (x == ("__debug__" : Str)) = false := by decide)
    (he : starEach (e :: es) X.env = (false, eval e X.env) :: starEach es X.env := by rfl) (hpl : (backTo pos (starEach es X.env)).any (·.1) = false := by rfl) : PE X (.Call (.Name x p) (e :: es) [] pos) (tUse sp E0 t) := pe_useX U pass0 hr gd hg ha hdb he hpl
theorem pe_use0 (U : Use X.prog X.w X.K X.mg X.base CX0 x k ps sp) (hr : Room k X.A) (gd : X.A.guards = some []) (hg : Gl X x) (hdb : (x == ("__debug__" : Str)) = false := by decide) : PE X (.Call (.Name x p) [] [] pos) (tUse sp E0 tNil) := by
  obtain ⟨f, fd, ok, hm, kp, hb⟩ := U.ex
  exact ⟨fun pins s σ H Q I h => wpAny_Call_Name_kw (ld_glob I hg hm (PySem.W.callWith_K0 I.kIn kp (run_fnG (us := []) ok hr gd hb pass0 I .nil h)) hdb)⟩
end

/-! ### what stays -/
theorem Same.new {H : Hp} {p : Addr} {o : HO} (h : H p = none) : Same H (upd H p o) := fun b u e => by
  rw [upd_ne (ne_of_none e h)]; exact e
theorem Same.rd {H H' : Hp} {a : Addr} {u : HO} (e : Same H H') (h : Rd H a u) : Rd H' a u := by
  rcases h with h | ⟨o, h⟩
  · exact .inl (e _ _ h)
  · exact .inr ⟨o, e _ _ h⟩
theorem Same.tupl {K : PySem.W.Frag} {H H' : Hp} {a : Addr} {xs : List V} (e : Same H H') (h : SqT K H a xs) : SqT K H' a xs := by
  rcases h with h | h
  · exact .inl (Same.rd e h)
  · exact .inr h
theorem SqT.mono {K : PySem.W.Frag} {H H' : Hp} {a : Addr} {xs : List V} (h : SqT K H a xs) (e : Same H H') : SqT K H' a xs := Same.tupl e h
theorem SqL.mono {K : PySem.W.Frag} {H H' : Hp} {a : Addr} {xs : List V} (h : SqL K H a xs) (e : Same H H') : SqL K H' a xs := e.seq h

/-! ### data: none, bools, ints, texts, tuples (and lists that stand still) -/
mutual
theorem Dp.mono {K : PySem.W.Frag} {H H' : Hp} (e : Same H H') : ∀ {v : V} {d : PyData}, Dp K H v d → Dp K H' v d
  | _, _, .non => .non
  | _, _, .bl b => .bl b
  | _, _, .int i => .int i
  | _, _, .str x => .str x
  | _, _, .lst h a => .lst (e.seq h) (DpAll.mono e a)
  | _, _, .tup h a => .tup (Same.tupl e h) (DpAll.mono e a)
theorem DpAll.mono {K : PySem.W.Frag} {H H' : Hp} (e : Same H H') : ∀ {vs : List V} {ds : List PyData}, DpAll K H vs ds → DpAll K H' vs ds
  | _, _, .nil => .nil
  | _, _, .cons h a => .cons (Dp.mono e h) (DpAll.mono e a)
end
/-- a tuple just made -/
theorem Dp.made {K : PySem.W.Frag} {H : Hp} {p : Addr} {xs : List V} {ds : List PyData} (hp : H p = none) (h : DpAll K H xs ds) : Dp K (upd H p (.tup xs)) (.ref p) (.tuple ds) :=
  .tup (SqT.of upd_same) (DpAll.mono (Same.new hp) h)
theorem DpAll.length {K : PySem.W.Frag} {H : Hp} : ∀ {vs : List V} {ds : List PyData}, DpAll K H vs ds → vs.length = ds.length
  | _, _, .nil => rfl
  | _, _, .cons _ t => by simp [DpAll.length t]
theorem DpAll.app {K : PySem.W.Frag} {H : Hp} : ∀ {vs ws : List V} {ds es : List PyData}, DpAll K H vs ds → DpAll K H ws es → DpAll K H (vs ++ ws) (ds ++ es)
  | _, _, _, _, .nil, t => t
  | _, _, _, _, .cons h a, t => .cons h (DpAll.app a t)

/-! ### repr of data -/
mutual
theorem Dp.noDict {K : PySem.W.Frag} {H : Hp} : ∀ {v : V} {d : PyData}, Dp K H v d → d.hasDict = false
  | _, _, .non => rfl
  | _, _, .bl _ => rfl
  | _, _, .int _ => rfl
  | _, _, .str _ => rfl
  | _, _, .lst _ a => by simp only [PyData.hasDict]; exact DpAll.noDict a
  | _, _, .tup _ a => by simp only [PyData.hasDict]; exact DpAll.noDict a
theorem DpAll.noDict {K : PySem.W.Frag} {H : Hp} : ∀ {vs : List V} {ds : List PyData}, DpAll K H vs ds → PyData.hasDictAll ds = false
  | _, _, .nil => rfl
  | _, _, .cons h a => by simp only [PyData.hasDictAll, Dp.noDict h, DpAll.noDict a, Bool.or_self]
end
/-- what repr asks of data -/
structure ShowOk (d : PyData) : Prop where
  ok : d.showable = true
  dp : d.depth ≤ 60
  sz : d.shown.length ≤ sizeLine
def rRepr (K : PySem.W.Frag) : List V → Hp → VK → Prop := fun xs H Q => ∃ v d, xs = [v] ∧ Dp K H v d ∧ ShowOk d ∧ Q (.str d.shown) H
section
variable {X : Cx}
theorem call_repr_data (hg : X.A.guards = some []) (hu : X.A.units + 64 < cLine) : CallR X (.builtin "repr") (rRepr X.K) := by
  intro pins s σ H xs us Q I r h
  obtain ⟨v, d, rfl, hd, ⟨hs, hdp, hsz⟩, q⟩ := h
  obtain ⟨u, rfl, rv⟩ := vals1 r
  obtain ⟨as, rr⟩ := Dp.reads I d v u hd rv
  have nd := Dp.noDict hd
  cases d with
  | none => cases rr; exact PySem.P.repr_of_none ⟨.str _, H, I.tok _, ⟨_, rfl⟩, q⟩
  | bool b => cases rr; exact PySem.P.repr_of_bool ⟨.str _, H, I.tok _, ⟨_, rfl⟩, by simpa [PyData.shown] using q⟩
  | int i => cases rr; exact PySem.P.repr_of_int (of_decide_eq_true (by simpa [PyData.showable] using hs)) ⟨.str _, H, I.tok _, ⟨_, rfl⟩, by simpa [PyData.shown] using q⟩
  | str x => cases rr; exact PySem.P.repr_of_str (hsz := by simpa [PyData.shown] using hsz) ⟨.str _, H, I.tok _, ⟨_, rfl⟩, by simpa [PyData.shown] using q⟩
  | list ds =>
    obtain ⟨a, rfl⟩ := PyProof.Rows.isRef_of_reads rr rfl
    exact repr_of_reads' rr hs (PyData.noDict_hsm nd) hg (by omega) (fun _ _ e => e) (fun h' u tk hk => ⟨.str _, H, I.kept hk, ⟨_, rfl⟩, q⟩) hsz
  | tuple ds =>
    obtain ⟨a, rfl⟩ := PyProof.Rows.isRef_of_reads rr rfl
    exact repr_of_reads' rr hs (PyData.noDict_hsm nd) hg (by omega) (fun _ _ e => e) (fun h' u tk hk => ⟨.str _, H, I.kept hk, ⟨_, rfl⟩, q⟩) hsz
  | dict kv => cases hd
end

/-! ### the law's own call -/
/-- the heap behind the top, seen with the script at a locked, or with nothing tracked -/
theorem law_callG {P : Program} {w : World} {K : PySem.W.Frag} {mg mb : Str → Option Value} {CX : CXT} {k : Nat} {fa a : Addr} {fd : FuncData} {x : Str} {sp : Sp} {s₁ : Shared} {vs : List Value} {ns : List Int}
    (inn : K.In s₁.heap) (hns : s₁.heap.Ns mainGlobals mg) (hb : s₁.heap.Ns builtinsNs mb) (hbb : ∀ x : Str, x ≠ "__name__" → mb x = bootBuiltins x) (hlim : s₁.heap.NoLimit) (hgens : s₁.gens = #[])
    (ha : s₁.heap.get? a = some { cls := .type "list", data := .seq vs.toArray }) (hi : IntsAre vs ns) (hl : ns.length ≤ sizeLine) (hr : Room k callerA)
    (F : ∀ base : Heap, K.In base → base.Ns mainGlobals mg → FnG P w K mg base CX k fa fd [x] sp) (hbind : ∀ (s : Shared) (u : Value), BindsTo s fd ⟨[u], []⟩ [(x, u)])
    (hsp : ∀ H : Hp, Only H → SqL K H a (ns.map V.int) → sp [.ref a] H (fun v _ => v = .bl true) fun _ _ _ => False)
    (hCX : ∀ H e s', CX [] H s₁ (fun _ _ _ => False) e s' → False) :
    codeAny (model P w) callerA (.call (.ref fa) ⟨[.ref a], []⟩) (fun r s' => r = .ok (.ret (.bool true)) ∧ OldK s₁.heap s'.heap ∧ s'.os = s₁.os ∧ AllBare s'.gens) s₁ := by
  have rv := vals_ints hi
  have run : ∀ H : Hp, Only H → SqL K H a (ns.map V.int) → HOk P w H s₁.heap → (∀ b u, H b = some u → b = a ∧ K.lookup a = none) →
      codeAny (model P w) callerA (.call (.ref fa) ⟨[.ref a], []⟩) (fun r s' => r = .ok (.ret (.bool true)) ∧ OldK s₁.heap s'.heap ∧ s'.os = s₁.os ∧ AllBare s'.gens) s₁ := by
    intro H only hS hok at_a
    -- what is no list stays in the base
    have free : ∀ {b : Addr} {o : Obj}, s₁.heap.get? b = some o → (∀ its n, o.data ≠ .seq its n) → H b = none := fun {b o} e hd => by
      cases q : H b with
      | none => rfl
      | some u =>
        obtain ⟨rfl, _⟩ := at_a b u q
        rw [ha] at e; cases e
        exact absurd rfl (hd _ _)
    have names : ∀ {b : Addr} {m : Str → Option Value}, s₁.heap.Ns b m → (hidT s₁.heap H).Ns b m := fun {b m} hn => by
      obtain ⟨o, es, ep, e, d, r⟩ := hn
      exact ⟨o, es, ep, hidT_get e (free e fun its n z => by rw [d] at z; cases z), d, r⟩
    have inb : K.In (hidT s₁.heap H) := fun b o e => by
      refine hidT_get (inn b o e) ?_
      cases q : H b with
      | none => rfl
      | some u =>
        obtain ⟨rfl, hk⟩ := at_a b u q
        rw [e] at hk; cases hk
    have md : Mod K mg (hidT s₁.heap H) := by
      obtain ⟨mc, h1, h2⟩ := hlim
      exact ⟨inb, names hns, ⟨mb, names hb, hbb⟩, ⟨mc, names h1, h2⟩⟩
    have none_in : ∀ b : Addr, b ∉ ([] : List Addr) := fun b z => nomatch z
    have e0 : Env0 P w K mg (hidT s₁.heap H) callerA [] s₁ H := ⟨rfl, md, fun b o e => of_hidT e, Nat.le_of_eq (hidT_size _ _), trivial, fun b z => absurd z (none_in b), hok, .of_eq hgens⟩
    refine codeAny_mono ((F _ inb (names hns)).run callerA [] s₁ H ⟨[.ref a], []⟩ [.ref a] [.ref a] _ _ hr rfl e0 (hbind s₁ (.ref a)) (.cons rfl .nil) (hsp H only hS)) fun r s' h => ?_
    match r, h with
    | .error e, h => exact (hCX H e s' h).elim
    | .ok .next, h => exact False.elim h
    | .ok .brk, h => exact False.elim h
    | .ok .cont, h => exact False.elim h
    | .ok (.ret u), h =>
      obtain ⟨v, H', os, bare, un, hok', r', q⟩ := h
      obtain rfl : v = V.bl true := q
      obtain rfl : u = Value.bool true := r'
      refine ⟨rfl, OldK.of_keep fun b o e => ?_, os, bare⟩
      cases q : H b with
      | none => exact un.keep b o e q (none_in b) (none_in b)
      | some u =>
        rcases only b with z | ⟨ob, xs, z⟩
        · rw [q] at z; cases z
        · have e1 : s₁.heap.get? b = some ob := (hok b _ z).1
          rw [e] at e1; cases e1
          exact (hok' b _ (un.frzs b o _ z)).1
  cases hk : K.lookup a with
  | some o =>
    have e := inn a o hk
    rw [ha] at e; cases e
    have sz : vs.toArray.size ≤ sizeLine := by rw [List.size_toArray, hi.length]; exact hl
    exact run (fun _ => none) (fun _ => .inl rfl) (.inr ⟨_, vs.toArray, _, hk, rfl, rfl, rfl, sz, by simpa using rv⟩) (fun b u z => nomatch (show (none : Option HO) = some u from z)) fun b u z => nomatch (show (none : Option HO) = some u from z)
  | none =>
    let u0 : HO := .frz { cls := .type "list", data := .seq vs.toArray } (.lst (ns.map V.int))
    have at1 : ∀ b u, upd (fun _ => none) a u0 b = some u → b = a ∧ u = u0 := fun b u z => by
      by_cases hb : b = a
      · subst hb; rw [upd_same] at z; exact ⟨rfl, (Option.some.inj z).symm⟩
      · rw [upd_ne hb] at z; cases z
    refine run (upd (fun _ => none) a u0) (fun b => ?_) (.inl (.inr ⟨_, upd_same⟩)) (fun b u z => ?_) fun b u z => ⟨(at1 b u z).1, hk⟩
    · by_cases hb : b = a
      · subst hb; exact .inr ⟨_, _, upd_same⟩
      · exact .inl (by rw [upd_ne hb])
    · obtain ⟨rfl, rfl⟩ := at1 b u z
      exact ⟨ha, by rw [List.length_map]; exact hl, vs, _, rv, ha⟩
theorem walkG {l : PySem.W.OpenLaw} {n k : Nat} {q : Program} {loose : List Str} {XP : (Str → Option Value) → Heap → Prop} {YP : World → Heap → Prop} {d : DefRec} {K : Params → PySem.W.Frag} {CX : CXT} {sp : PySem.W.Frag → Sp} {x : Str}
    (hn : l.most = some n) (hn2 : n ≤ sizeLine) (hdf : d.params.defaults = []) (hr : Room k callerA)
    (hY : ∀ (w : World) (h : Heap), YP w h → (K w.params).In h)
    (F : ∀ (w : World) (mg : Str → Option Value) (fa : Addr) (h : Heap), (K w.params).In h → h.Ns mainGlobals mg → mg d.name = some (.ref fa) →
      ∃ fd : FuncData, (∀ (s : Shared) (u : Value), BindsTo s fd ⟨[u], []⟩ [(x, u)]) ∧
        ∀ base : Heap, (K w.params).In base → base.Ns mainGlobals mg → FnG l.prog w (K w.params) mg base CX k fa fd [x] (sp (K w.params)))
    (hsp : ∀ (K : PySem.W.Frag) (H : Hp) (a : Addr) (ns : List Int), ns.length ≤ n → Only H → SqL K H a (ns.map V.int) → sp K [.ref a] H (fun v _ => v = .bl true) fun _ _ _ => False)
    (hCX : ∀ (H : Hp) (s : Shared) (e : Value) (s' : Shared), CX [] H s (fun _ _ _ => False) e s' → False) :
    PySem.W.WalkO q loose XP YP l.row.toRowW d [] (fun f vs => PySem.call f vs) :=
  Att.attach_call hn hdf fun w s₀ s₁ mg mb fa o pm cd doc a vs ns G Y ho hd hcd hmg hobj hints hlen hg =>
    let ⟨fd, hb, hF⟩ := F w mg fa _ (hY w _ Y) G.T.g hmg
    law_callG (hY w _ Y) G.T.g G.T.b G.T.builtins G.T.nolimit hg hobj hints (Nat.le_trans hlen hn2) hr hF hb (fun H hO hS => hsp (K w.params) H a ns hlen hO hS) fun H e s' => hCX H s₁ e s'
/-- from the top's facts: the law's def and its arguments -/
theorem law_use {P : Program} {w : World} {K : PySem.W.Frag} {mg : Str → Option Value} {h : Heap} {CX : CXT} {k : Nat} {fa : Addr} {st : Stmt} {x : Str} {sp : Sp} (L : HasFn K "law" st) (X : K.In h) (G : h.Ns mainGlobals mg) (hfa : mg "law" = some (.ref fa))
    (hb : ∀ (kV doc pm : Value) (an : Option Addr) (cdv ct v : Value), bindArgs (PySem.W.fnOf "law" "law" (defArgs st) (defBody st) (defScope st) .none kV doc pm an cdv ct) ⟨[v], []⟩ = pure [(x, v)])
    (ok : ∀ base : Heap, K.In base → base.Ns mainGlobals mg → ∀ fd, Fun K "law" "law" st fa fd → FnG P w K mg base CX k fa fd [x] sp) :
    ∃ fd : FuncData, (∀ (s : Shared) (v : Value), BindsTo s fd ⟨[v], []⟩ [(x, v)]) ∧ ∀ base : Heap, K.In base → base.Ns mainGlobals mg → FnG P w K mg base CX k fa fd [x] sp := by
  obtain ⟨f, oc, od, an, kV, doc, pm, cdv, ct, osl, e, l, c, kp⟩ := L
  have z := hfa.symm.trans (PySem.W.mg_of X G e)
  cases z
  have Fn := fun_mk (st := st) l c kp
  exact ⟨_, fun s v => .of_eq (hb ..), fun base h1 h2 => ok base h1 h2 _ Fn⟩

/-! ### tests whose answer is known -/
theorem iteFb {c : Bool} {A B : Prop} (h : c = false) (b : B) : if c = true then A else B := by rw [h]; exact iteF b
theorem iteTb {c : Bool} {A B : Prop} (h : c = true) (a : A) : if c = true then A else B := by rw [h]; exact iteT a
theorem ite3 {c : Bool} {A B : Prop} (h1 : c = true → A) (h2 : c = false → B) : if c = true then A else B := by
  cases c with
  | true => exact iteT (h1 rfl)
  | false => exact iteF (h2 rfl)

/-! ### constants of the top -/
def HasInt (K : PySem.W.Frag) (x : Str) (n : Int) : Prop := ∃ (t : Tok) (m : Int), PySem.W.nsIn K mainGlobals x = some (some (.int m t)) ∧ m = n
def KTup (K : PySem.W.Frag) (a : Addr) (xs : List V) : Prop := ∃ (od : Option Addr) (its : Array Value) (n : Nat) (sl : Array (Option Value)), K.lookup a = some ⟨.type "tuple", od, .seq its n, sl⟩ ∧ its.size ≤ sizeLine ∧ Vals xs its.toList
def HasTup (K : PySem.W.Frag) (x : Str) (xs : List V) : Prop := ∃ a, PySem.W.nsIn K mainGlobals x = some (some (.ref a)) ∧ KTup K a xs
theorem KTup.sq {K : PySem.W.Frag} {a : Addr} {xs : List V} (h : KTup K a xs) (H : Hp) : SqT K H a xs := by
  obtain ⟨od, its, n, sl, e, z, v⟩ := h
  exact .inr ⟨_, its, n, e, rfl, rfl, z, v⟩
/-- the module's names, as the defs see them -/
def GInt (mg : Str → Option Value) (x : Str) (n : Int) : Prop := ∃ t, mg x = some (.int n t)
def GTup (K : PySem.W.Frag) (mg : Str → Option Value) (x : Str) (xs : List V) : Prop := ∃ a, mg x = some (.ref a) ∧ KTup K a xs
theorem HasInt.g {K : PySem.W.Frag} {mg : Str → Option Value} {h : Heap} {x : Str} {n : Int} (i : HasInt K x n) (X : K.In h) (G : h.Ns mainGlobals mg) : GInt mg x n := by
  obtain ⟨t, m, e, rfl⟩ := i
  exact ⟨t, PySem.W.mg_of X G e⟩
theorem HasTup.g {K : PySem.W.Frag} {mg : Str → Option Value} {h : Heap} {x : Str} {xs : List V} (i : HasTup K x xs) (X : K.In h) (G : h.Ns mainGlobals mg) : GTup K mg x xs := by
  obtain ⟨a, e, k⟩ := i
  exact ⟨a, PySem.W.mg_of X G e, k⟩
section
variable {X : Cx} {x : Str} {pos : Pos}
theorem pe_globI {n : Int} (h : GInt X.mg x n) (hg : Gl X x) (hd : (x == ("__debug__" : Str)) = false := by decide) : PE X (.Name x pos) (tC (.int n)) := by
  obtain ⟨t, e⟩ := h
  exact pe_glob hg e ⟨t, rfl⟩ hd
/-- a tuple of the top: it is read as xs, wherever it stands -/
def tGT (K : PySem.W.Frag) (xs : List V) : TE := fun _ H Q => ∀ a, KTup K a xs → Q (.ref a) H
theorem pe_globT {xs : List V} (h : GTup X.K X.mg x xs) (hg : Gl X x) (hd : (x == ("__debug__" : Str)) = false := by decide) : PE X (.Name x pos) (tGT X.K xs) := by
  obtain ⟨a, e, k⟩ := h
  exact ⟨fun pins s σ H Q I q => (pe_glob (v := .ref a) hg e rfl hd).run pins s σ H Q I (q a k)⟩
end

/-! ### // by any divisor but 0 -/
def CDivX (_ j : Int) : Prop := j ≠ 0 ∧ j.natAbs.log2 < 9000
theorem op_fdivX {X : Cx} : OpR X (binaryOp .FloorDiv) (rI CDivX fun i j => .int (i.fdiv j)) := opI fun _ _ _ _ _ _ _ hc q => floordiv_int hc.1 q (.inl (PyProof.noPylong_of_log2 hc.2))
theorem fdiv_le_pos (i : Int) {j : Int} (hj : 0 < j) : (i.fdiv j).natAbs ≤ i.natAbs + 1 := by
  have e := Int.mul_fdiv_add_fmod i j
  have h0 := Int.fmod_nonneg_of_pos i hj
  have h1 := Int.fmod_lt_of_pos i hj
  have a : (i.fdiv j).natAbs ≤ (j * i.fdiv j).natAbs := by
    rw [Int.natAbs_mul]; exact Nat.le_mul_of_pos_left _ (by omega)
  by_cases hi : 0 ≤ i
  · have : 0 ≤ i.fdiv j := Int.fdiv_nonneg hi (by omega)
    have : 0 ≤ j * i.fdiv j := Int.mul_nonneg (by omega) this
    omega
  · have q : i.fdiv j ≤ -1 := by
      by_cases z : 0 ≤ i.fdiv j
      · have := Int.mul_nonneg (show 0 ≤ j by omega) z
        omega
      · omega
    have r : -1 + i ≤ i.fdiv j := by
      have : i.fdiv j * (j - 1) ≤ (-1) * (j - 1) := Int.mul_le_mul_of_nonneg_right q (by omega)
      have e2 : j * i.fdiv j = i.fdiv j * (j - 1) + i.fdiv j := by rw [Int.mul_sub, Int.mul_one, Int.mul_comm]; omega
      omega
    omega
theorem fdiv_le (i j : Int) : (i.fdiv j).natAbs ≤ i.natAbs + 1 := by
  by_cases h : 0 < j
  · exact fdiv_le_pos i h
  · by_cases h2 : j = 0
    · subst h2; rw [Int.fdiv_zero]; omega
    · have e : i.fdiv j = (-i).fdiv (-j) := by rw [Int.neg_fdiv_neg]
      have := fdiv_le_pos (-i) (show 0 < -j by omega)
      rw [e]; omega

/-! ### how long a shown thing is at most -/
structure Sm (d : PyData) (dp N : Nat) : Prop where
  ok : d.showable = true
  dp : d.depth ≤ dp
  sz : d.shown.length ≤ N
structure SmAll (ds : List PyData) (dp n N : Nat) : Prop where
  ok : PyData.showableAll ds = true
  dp : PyData.depthAll ds ≤ dp
  len : ds.length ≤ n
  sz : ((PyData.shownAll ds).map (·.length)).sum ≤ N
theorem Sm.show {d : PyData} {dp N : Nat} (h : Sm d dp N) (h1 : dp ≤ 60) (h2 : N ≤ sizeLine) : ShowOk d := ⟨h.ok, Nat.le_trans h.dp h1, Nat.le_trans h.sz h2⟩
theorem Sm.mono {d : PyData} {dp N dp' N' : Nat} (h : Sm d dp N) (h1 : dp ≤ dp') (h2 : N ≤ N') : Sm d dp' N' := ⟨h.ok, Nat.le_trans h.dp h1, Nat.le_trans h.sz h2⟩
theorem shownAll_length : ∀ ds : List PyData, (PyData.shownAll ds).length = ds.length
  | [] => rfl
  | d :: ds => by simp [PyData.shownAll, shownAll_length ds]
theorem Sm.int {i : Int} (h : i.natAbs < 2 ^ 1900) : Sm (.int i) 0 2000 := by
  have hl : i.natAbs.log2 < 1900 := PySem.Flt.log2_lt_of (by decide) h
  refine ⟨?_, Nat.le_refl 0, ?_⟩
  · simp only [PyData.showable, decide_eq_true_eq]; omega
  · have e := int_text_length_le (k := 1900) (by decide) hl
    show (Str.ofString (toString i)).length ≤ 2000
    rw [PySem.ofString_length]; omega
theorem Sm.bool (b : Bool) : Sm (.bool b) 0 10 := ⟨rfl, Nat.le_refl 0, by cases b <;> decide +kernel⟩
theorem Sm.none : Sm .none 0 10 := ⟨rfl, Nat.le_refl 0, by decide +kernel⟩
theorem Sm.str {x : Str} {n : Nat} (h : x.length ≤ n) (hc : ∀ c ∈ x.cps.toList, c < 16 ^ 8) : Sm (.str x) 0 (10 * n + 2) := ⟨rfl, Nat.le_refl 0, by
  have e := PySem.StrLaws.reprText_len x hc
  show (reprText x).length ≤ _
  omega⟩
theorem SmAll.nil : SmAll [] 0 0 0 := ⟨rfl, Nat.le_refl 0, Nat.le_refl 0, Nat.le_refl 0⟩
theorem SmAll.cons {d : PyData} {ds : List PyData} {dp dp' n N M : Nat} (h : Sm d dp N) (t : SmAll ds dp' n M) : SmAll (d :: ds) (max dp dp') (n + 1) (N + M) := by
  have h1 := h.dp
  have h2 := t.dp
  refine ⟨by simp [PyData.showableAll, h.ok, t.ok], ?_, by have := t.len; simp; omega, ?_⟩
  · simp only [PyData.depthAll]; omega
  · have := h.sz
    have := t.sz
    simp only [PyData.shownAll, List.map_cons, List.sum_cons]; omega
theorem Sm.tup {ds : List PyData} {dp n N : Nat} (h : SmAll ds dp n N) : Sm (.tuple ds) (dp + 1) (N + 2 * n + 3) := by
  refine ⟨by simpa [PyData.showable] using h.ok, by simp only [PyData.depth]; have := h.dp; omega, ?_⟩
  have e := tupleText_len_le (PyData.shownAll ds)
  have := h.sz
  have := h.len
  rw [shownAll_length] at e
  show (tupleText (PyData.shownAll ds)).length ≤ _
  omega
theorem Sm.lst {ds : List PyData} {dp n N : Nat} (h : SmAll ds dp n N) : Sm (.list ds) (dp + 1) (N + 2 * n + 3) := by
  refine ⟨by simpa [PyData.showable] using h.ok, by simp only [PyData.depth]; have := h.dp; omega, ?_⟩
  have e := listText_len_le (PyData.shownAll ds)
  have := h.sz
  have := h.len
  rw [shownAll_length] at e
  show (listText (PyData.shownAll ds)).length ≤ _
  omega
theorem SmAll.many {dp N : Nat} : ∀ {ds : List PyData}, (∀ d ∈ ds, Sm d dp N) → SmAll ds dp ds.length (N * ds.length)
  | [], _ => ⟨rfl, Nat.zero_le _, Nat.le_refl 0, Nat.zero_le _⟩
  | d :: ds, h => by
    have t := SmAll.cons (h d (by simp)) (SmAll.many (fun e he => h e (List.mem_cons_of_mem _ he)))
    rw [Nat.max_self] at t
    refine ⟨t.ok, t.dp, t.len, Nat.le_trans t.sz ?_⟩
    rw [List.length_cons, Nat.mul_succ]; omega
theorem sz_0 : (0 : Nat) ≤ sizeLine := by decide
theorem sz_1 : (1 : Nat) ≤ sizeLine := by decide
theorem sz_2 : (2 : Nat) ≤ sizeLine := by decide
theorem sz_3 : (3 : Nat) ≤ sizeLine := by decide
theorem sz_4 : (4 : Nat) ≤ sizeLine := by decide
theorem sz_5 : (5 : Nat) ≤ sizeLine := by decide
/-! ### the ends: each premise a fact that k_is finds -/
theorem HasFn.mk' {K : PySem.W.Frag} {x : Str} {st : Stmt} {f : Addr} {oc : Value} {od an : Option Addr} {kV doc pm cdv ct : Value} {osl : Array (Option Value)} (a : PySem.W.nsIn K mainGlobals x = some (some (.ref f)))
    (b : K.lookup f = some ⟨oc, od, .func (PySem.W.fnOf x x (defArgs st) (defBody st) (defScope st) .none kV doc pm an cdv ct), osl⟩) (c : PySem.W.codeIn K cdv x = true) (d : PySem.W.keepIn K (.ref f) = true) : HasFn K x st :=
  ⟨f, oc, od, an, kV, doc, pm, cdv, ct, osl, a, b, c, d⟩
theorem HasInt.mk' {K : PySem.W.Frag} {x : Str} {n m : Int} {t : Tok} (a : PySem.W.nsIn K mainGlobals x = some (some (.int m t))) (e : m = n) : HasInt K x n := ⟨t, m, a, e⟩
theorem HasTup.mk' {K : PySem.W.Frag} {x : Str} {xs : List V} {a : Addr} {od : Option Addr} {its : Array Value} {n : Nat} {sl : Array (Option Value)} (h : PySem.W.nsIn K mainGlobals x = some (some (.ref a)))
    (b : K.lookup a = some ⟨.type "tuple", od, .seq its n, sl⟩) (z : its.size ≤ sizeLine) (v : Vals xs its.toList) : HasTup K x xs := ⟨a, h, od, its, n, sl, b, z, v⟩
/-! ### what the laws' helpers promise -/
/-! the digits and the place -/
def BoxAt (H : Hp) (p dl : Addr) : Prop := ∃ (ds : List Int) (k : Int), H p = some (.lst [.ref dl, .int k]) ∧ 0 ≤ k ∧ H dl = some (.lst (ds.map V.int)) ∧ ds.length ≤ 4000 ∧ ∀ d ∈ ds, 0 ≤ d ∧ d < 1000
theorem BoxAt.at_ {H : Hp} {p dl : Addr} (h : BoxAt H p dl) : ∃ xs, H p = some (.lst xs) := let ⟨_, _, a, _⟩ := h; ⟨_, a⟩
theorem BoxAt.dg {H : Hp} {p dl : Addr} (h : BoxAt H p dl) : ∃ xs, H dl = some (.lst xs) := let ⟨_, _, _, _, c, _⟩ := h; ⟨_, c⟩
def Keep (p : Addr) (H H' : Hp) : Prop := ∀ b o, H b = some o → b ≠ p → H' b = some o
def spDraw (K : PySem.W.Frag) : Sp := fun vs H Q _ => ∃ (p dl : Addr) (m : Int), vs = [.ref p, .int m] ∧ BoxAt H p dl ∧ 0 < m ∧ ∀ r H', 0 ≤ r → r < m → BoxAt H' p dl → Keep p H H' → Q (.int r) H'
def spCell (K : PySem.W.Frag) : Sp := fun vs H Q _ => ∃ (a : Addr) (ns : List Int) (i : Int), vs = [.ref a, .int i] ∧ SqL K H a (ns.map V.int) ∧ 0 ≤ i ∧ ∀ r, Q (.int r) H
def DigAt (H0 H : Hp) (dl : Addr) (n : Nat) : Prop := ∃ ds : List Int, H dl = some (.lst (ds.map V.int)) ∧ ds.length ≤ n ∧ (∀ d ∈ ds, 0 ≤ d ∧ d < 1000) ∧ Same H0 H
theorem DigAt.mono {H0 H : Hp} {dl : Addr} {n m : Nat} (h : DigAt H0 H dl n) (l : n ≤ m) : DigAt H0 H dl m := let ⟨ds, a, b, c, d⟩ := h; ⟨ds, a, by omega, c, d⟩
theorem DigAt.add {H0 H : Hp} {dl : Addr} {n : Nat} {r : Int} {xs : List V} (h : DigAt H0 H dl n) (hx : H dl = some (.lst xs)) (nd : H0 dl = none) (h0 : 0 ≤ r) (h1 : r < 1000) : DigAt H0 (upd H dl (.lst (xs ++ [.int r]))) dl (n + 1) := by
  obtain ⟨ds, a, b, c, d⟩ := h
  rw [hx] at a
  obtain rfl := HO.lst.inj (Option.some.inj a)
  refine ⟨ds ++ [r], by rw [upd_same, List.map_append]; rfl, by simp; omega, fun z hz => ?_, fun q o e => by rw [upd_ne (ne_of_none e nd)]; exact d q o e⟩
  rcases List.mem_append.mp hz with hz | hz
  · exact c z hz
  · have : z = r := by simpa using hz
    omega
def spDigits (K : PySem.W.Frag) : Sp := fun vs H Q _ => ∃ (a : Addr) (ns : List Int) (lo hi : Nat), vs = [.ref a, .int lo, .int hi] ∧ SqL K H a (ns.map V.int) ∧ lo ≤ hi ∧ hi ≤ 64 ∧
  ∀ (p : Addr) (H' : Hp), H p = none → DigAt H H' p 4000 → Q (.ref p) H'
def spBound : Sp := fun vs H Q _ => vs = [] ∧ Q (.int (2 ^ 256)) H
theorem Keep.trans {p : Addr} {H H1 H2 : Hp} (a : Keep p H H1) (b : Keep p H1 H2) : Keep p H H2 := fun c o h ne => b c o (a c o h ne) ne
theorem Keep.refl (p : Addr) (H : Hp) : Keep p H H := fun _ _ h _ => h
def Sgn (z : Int) : Prop := z = 1 ∨ z = -1
theorem Sgn.mul {z n : Int} (h : Sgn z) : (z * n).natAbs = n.natAbs := by
  rcases h with rfl | rfl <;> omega
theorem Sgn.wide {z n : Int} (h : Sgn z) (hn : n.natAbs < 2 ^ 300) : CMulW z n := wide_mul (a := 2) (b := 300) (by rcases h with rfl | rfl <;> decide) hn (by decide) (by decide) (by decide)
def spNumber (K : PySem.W.Frag) : Sp := fun vs H Q _ => ∃ (p dl : Addr), vs = [.ref p] ∧ BoxAt H p dl ∧ ∀ (n : Int) H', n.natAbs < 2 ^ 260 → BoxAt H' p dl → Keep p H H' → Q (.int n) H'
def spSame (K : PySem.W.Frag) : Sp := fun vs H Q _ => ∃ (x y : V) (d : PyData), vs = [x, y] ∧ Dp K H x d ∧ Dp K H y d ∧ ShowOk d ∧ Q (.bl true) H
theorem Same.keep {p : Addr} {H H' : Hp} (e : Same H H') : Keep p H H' := fun b o h _ => e b o h
theorem BoxAt.same {p dl : Addr} {H H' : Hp} (h : BoxAt H p dl) (e : Same H H') : BoxAt H' p dl := by
  obtain ⟨ds, k, a, b, c, d⟩ := h
  exact ⟨ds, k, e _ _ a, b, e _ _ c, d⟩
theorem BoxAt.upd {p dl l : Addr} {H : Hp} {o : HO} (h : BoxAt H p dl) (h1 : l ≠ p) (h2 : l ≠ dl) : BoxAt (L2.upd H l o) p dl := by
  obtain ⟨ds, k, a, b, c, d⟩ := h
  exact ⟨ds, k, by rw [upd_ne (Ne.symm h1)]; exact a, b, by rw [upd_ne (Ne.symm h2)]; exact c, d⟩
theorem strOk (s : Str) (h : s.cps.toList.all (fun c => decide (c < 16 ^ 8)) = true) : ∀ c ∈ s.cps.toList, c < 16 ^ 8 := fun c hc => of_decide_eq_true (List.all_eq_true.mp h c hc)

/-! ### data without lists: what no change of a list can reach -/
mutual
inductive Dt (K : PySem.W.Frag) (H : Hp) : V → PyData → Prop
  | non : Dt K H .non .none
  | bl (b : Bool) : Dt K H (.bl b) (.bool b)
  | int (i : Int) : Dt K H (.int i) (.int i)
  | str (x : Str) : Dt K H (.str x) (.str x)
  | tup {a : Addr} {xs : List V} {ds : List PyData} : SqT K H a xs → DtAll K H xs ds → Dt K H (.ref a) (.tuple ds)
inductive DtAll (K : PySem.W.Frag) (H : Hp) : List V → List PyData → Prop
  | nil : DtAll K H [] []
  | cons {v : V} {vs : List V} {d : PyData} {ds : List PyData} : Dt K H v d → DtAll K H vs ds → DtAll K H (v :: vs) (d :: ds)
end
mutual
theorem Dt.dp {K : PySem.W.Frag} {H : Hp} : ∀ {v : V} {d : PyData}, Dt K H v d → Dp K H v d
  | _, _, .non => .non
  | _, _, .bl b => .bl b
  | _, _, .int i => .int i
  | _, _, .str x => .str x
  | _, _, .tup h a => .tup h (DtAll.dp a)
theorem DtAll.dp {K : PySem.W.Frag} {H : Hp} : ∀ {vs : List V} {ds : List PyData}, DtAll K H vs ds → DpAll K H vs ds
  | _, _, .nil => .nil
  | _, _, .cons h a => .cons (Dt.dp h) (DtAll.dp a)
end
/-- every tuple that H reads H' reads as well -/
def KeepT (K : PySem.W.Frag) (H H' : Hp) : Prop := ∀ a xs, SqT K H a xs → SqT K H' a xs
mutual
theorem Dt.keepT {K : PySem.W.Frag} {H H' : Hp} (e : KeepT K H H') : ∀ {v : V} {d : PyData}, Dt K H v d → Dt K H' v d
  | _, _, .non => .non
  | _, _, .bl b => .bl b
  | _, _, .int i => .int i
  | _, _, .str x => .str x
  | _, _, .tup h a => .tup (e _ _ h) (DtAll.keepT e a)
theorem DtAll.keepT {K : PySem.W.Frag} {H H' : Hp} (e : KeepT K H H') : ∀ {vs : List V} {ds : List PyData}, DtAll K H vs ds → DtAll K H' vs ds
  | _, _, .nil => .nil
  | _, _, .cons h a => .cons (Dt.keepT e h) (DtAll.keepT e a)
end
theorem KeepT.refl (K : PySem.W.Frag) (H : Hp) : KeepT K H H := fun _ _ h => h
theorem KeepT.trans {K : PySem.W.Frag} {H H1 H2 : Hp} (a : KeepT K H H1) (b : KeepT K H1 H2) : KeepT K H H2 := fun c xs h => b c xs (a c xs h)
theorem Same.keepT {K : PySem.W.Frag} {H H' : Hp} (e : Same H H') : KeepT K H H' := fun _ _ h => Same.tupl e h
theorem Keep.keepT {K : PySem.W.Frag} {p : Addr} {H H' : Hp} (e : Keep p H H') (hp : ∃ xs, H p = some (.lst xs)) : KeepT K H H' := fun a xs h => by
  obtain ⟨ys, hp⟩ := hp
  rcases h with (h | ⟨o, h⟩) | h
  · exact .inl (.inl (e _ _ h (ne_of h hp (by intro z; cases z))))
  · exact .inl (.inr ⟨o, e _ _ h (ne_of h hp (by intro z; cases z))⟩)
  · exact .inr h
theorem KeepT.upd {K : PySem.W.Frag} {p : Addr} {H : Hp} {o : HO} {xs : List V} (hp : H p = some (.lst xs)) : KeepT K H (upd H p o) :=
  Keep.keepT (p := p) (fun b u e hb => by rw [upd_ne hb]; exact e) ⟨xs, hp⟩
theorem Dt.mono {K : PySem.W.Frag} {H H' : Hp} {v : V} {d : PyData} (e : Same H H') (h : Dt K H v d) : Dt K H' v d := h.keepT (Same.keepT e)
theorem DtAll.mono {K : PySem.W.Frag} {H H' : Hp} {v : List V} {d : List PyData} (e : Same H H') (h : DtAll K H v d) : DtAll K H' v d := h.keepT (Same.keepT e)
theorem Dt.made {K : PySem.W.Frag} {H : Hp} {p : Addr} {xs : List V} {ds : List PyData} (hp : H p = none) (h : DtAll K H xs ds) : Dt K (L2.upd H p (.tup xs)) (.ref p) (.tuple ds) := .tup (SqT.of upd_same) (DtAll.mono (Same.new hp) h)
theorem DtAll.length {K : PySem.W.Frag} {H : Hp} {vs : List V} {ds : List PyData} (h : DtAll K H vs ds) : vs.length = ds.length := LK.DpAll.length h.dp
theorem DtAll.app {K : PySem.W.Frag} {H : Hp} : ∀ {vs ws : List V} {ds es : List PyData}, DtAll K H vs ds → DtAll K H ws es → DtAll K H (vs ++ ws) (ds ++ es)
  | _, _, _, _, .nil, t => t
  | _, _, _, _, .cons h a, t => .cons h (DtAll.app a t)
theorem DtAll.get {K : PySem.W.Frag} {H : Hp} : ∀ {vs : List V} {ds : List PyData} {i : Nat} {d : PyData}, DtAll K H vs ds → ds[i]? = some d → ∃ v, vs[i]? = some v ∧ Dt K H v d
  | _, _, 0, _, .cons h _, e => ⟨_, rfl, Option.some.inj e ▸ h⟩
  | _, _, i + 1, _, .cons _ a, e => DtAll.get (i := i) a e
theorem DtAll.getV {K : PySem.W.Frag} {H : Hp} : ∀ {vs : List V} {ds : List PyData} {i : Nat} {v : V}, DtAll K H vs ds → vs[i]? = some v → ∃ d, ds[i]? = some d ∧ Dt K H v d
  | _, _, 0, _, .cons h _, e => ⟨_, rfl, Option.some.inj e ▸ h⟩
  | _, _, i + 1, _, .cons _ a, e => DtAll.getV (i := i) a e
theorem Dt.tuple_inv {K : PySem.W.Frag} {H : Hp} {v : V} {ds : List PyData} (h : Dt K H v (.tuple ds)) : ∃ a xs, v = .ref a ∧ SqT K H a xs ∧ DtAll K H xs ds := by
  cases h with
  | tup h a => exact ⟨_, _, rfl, h, a⟩
theorem DtAll.cons_inv {K : PySem.W.Frag} {H : Hp} {vs : List V} {d : PyData} {ds : List PyData} (h : DtAll K H vs (d :: ds)) : ∃ v ws, vs = v :: ws ∧ Dt K H v d ∧ DtAll K H ws ds := by
  cases h with
  | cons h a => exact ⟨_, _, rfl, h, a⟩
theorem DtAll.nil_inv {K : PySem.W.Frag} {H : Hp} {vs : List V} (h : DtAll K H vs []) : vs = [] := by cases h; rfl
theorem Dt.int_inv {K : PySem.W.Frag} {H : Hp} {v : V} {i : Int} (h : Dt K H v (.int i)) : v = .int i := by cases h; rfl
theorem Dt.str_inv {K : PySem.W.Frag} {H : Hp} {v : V} {x : Str} (h : Dt K H v (.str x)) : v = .str x := by cases h; rfl
theorem Dt.bool_inv {K : PySem.W.Frag} {H : Hp} {v : V} {b : Bool} (h : Dt K H v (.bool b)) : v = .bl b := by cases h; rfl
theorem dtStrs {K : PySem.W.Frag} {H : Hp} : ∀ xs : List Str, DtAll K H (xs.map V.str) (xs.map PyData.str)
  | [] => .nil
  | x :: xs => .cons (.str x) (dtStrs xs)
end LK

set_option Elab.async false
set_option linter.all false
set_option maxRecDepth 100000
set_option maxHeartbeats 4000000
/-! enumerate of a tuple. -/
namespace LK
open PySem PySem.Spec PyProof.Rows L2
open AutoSeq1 (wpAny_loadPart')
open Sem (wp)
def enumObj (it : Addr) : Obj := { cls := .type "enumerate", data := .fields #[.none, .bool false, .ref it, rawInt 0, .none, .none] }
def tupIt (t : Addr) : Obj := { cls := .type "tuple_iterator", data := .fields #[.ref t, .int 0 0] }
theorem meets_enumT (t : Addr) (items : Array Value) (n : Nat) (dct : Option Addr) (sl : Array (Option Value)) :
    Meets (Builtin.«enumerate.__new__» ⟨[.type "enumerate", .ref t], []⟩) (fun _ R s => s.heap.get? t = some { cls := .type "tuple", dict := dct, data := .seq items n, slots := sl } ∧
      R (.ok (.ret (.ref (s.heap.push (tupIt t)).objs.size))) { s with heap := (s.heap.push (tupIt t)).push (enumObj s.heap.objs.size) }) :=
  .of_wp fun prog w A R s h => by
    obtain ⟨hp, g, d, tk, os⟩ := s
    obtain ⟨hl, h⟩ := h
    have hsub := sub_enumerate
    have hT : Heap.IsTuple (Shared.heap ⟨hp, g, d, tk, os⟩) t items := ⟨_, hl, rfl, n, rfl⟩
    wp_walk using wpAny_loadPart' hl
    refine wpAny_stack_any fun st => wpAny_pure ?_
    split
    · rename_i c _ _ _ _ _
      cases (c == Value.type "enumerate") <;> (wp_walk using wpAny_loadPart' hl, wpAny_pyIter_tuple hT; exact ⟨_, rfl, h⟩)
    · wp_walk using wpAny_loadPart' hl, wpAny_pyIter_tuple hT
      exact ⟨_, rfl, h⟩
section
variable {prog : Program} {w : World} {A : Around} {E : Value → Shared → Prop} {s : Shared}
theorem call_enumT {t : Addr} {items : Array Value} {Q : Value → Shared → Prop} (hT : s.heap.IsTuple t items)
    (h : ∀ h', IsEnum h' (s.heap.objs.size + 1) s.heap.objs.size 0 .none → h'.IsTupleIter s.heap.objs.size t 0 → (∀ b o, s.heap.get? b = some o → h'.get? b = some o) → Q (.ref (s.heap.objs.size + 1)) { s with heap := h' }) :
    wpAny (model prog w) A (call (.type "enumerate") [.ref t]) Q E s := by
  obtain ⟨⟨c, dct, dt, sl⟩, hl, hc, n, hd⟩ := hT
  obtain rfl : c = .type "tuple" := hc
  obtain rfl : dt = .seq items n := hd
  refine callType_new F.called_enumerate (by decide) (F.typeCall_enumerate_1 _) (F.newCall_enumerate_1 _) (fun obj => F.args_object_init_2 obj _) F.entry_enumerate_new (meets_enumT t items n dct sl) ⟨hl, ?_⟩
  have hz : (s.heap.push (tupIt t)).objs.size = s.heap.objs.size + 1 := Heap.size_push ..
  have he : IsEnum ((s.heap.push (tupIt t)).push (enumObj s.heap.objs.size)) (s.heap.objs.size + 1) s.heap.objs.size 0 .none := by
    have q := Heap.get?_push_size (s.heap.push (tupIt t)) (o := enumObj s.heap.objs.size) rfl
    rw [hz] at q
    exact q
  show _ ∧ _
  rw [hz]
  exact ⟨⟨_, he, rfl⟩, h _ he (Heap.get?_push_of_some _ (Heap.get?_push_size _ rfl) |> fun q => ⟨_, q, rfl, rfl⟩) fun b o x => Heap.get?_push_of_some _ (Heap.get?_push_of_some _ x)⟩
end
/-- the tuple at a, each item in a new pair with its place -/
def IteT (K : PySem.W.Frag) (a : Addr) : It where
  go := fun i H => ∃ (xs : List V) (x : V), SqT K H a xs ∧ xs[i]? = some x
  yld := fun i H v H' => ∃ T x, v = .ref T ∧ H T = none ∧ H' = upd H T (.tup [.int (i : Nat), x]) ∧ ∀ xs, SqT K H a xs → xs[i]? = some x
  stop := fun i H => ∃ xs : List V, SqT K H a xs ∧ xs.length = i
theorem turn_enumT {P : Program} {w : World} {K : PySem.W.Frag} {elts : List Expr} {kk : Nat} {tpos : Pos} (a e it : Addr) :
    Turn P w K (.Tuple elts kk tpos) (IteT K a) [e, it] e (fun i h => (∃ old, IsEnum h e it ((i : Nat) : Int) old) ∧ h.IsTupleIter it a i ∧ e ≠ it) where
  mem := List.mem_cons_self
  obj := fun i h st b hb => by
    obtain ⟨⟨old, he⟩, ⟨o, ho, hc, hd⟩, _⟩ := st
    have hb : b = e ∨ b = it := by simpa using hb
    rcases hb with rfl | rfl
    · exact ⟨_, he, fun v q => nomatch q⟩
    · exact ⟨o, ho, fun v q => by rw [hd] at q; cases q⟩
  keep := fun i h h' st k => by
    obtain ⟨⟨old, he⟩, hi, hne⟩ := st
    exact ⟨⟨old, k e (by simp) _ he⟩, hi.at fun o q => k it (by simp) o q, hne⟩
  item := by
    intro X hP hw hK hc i pins s σ H E I hf st hg
    subst hP hw hK
    obtain ⟨⟨old, he⟩, hit, hne⟩ := st
    obtain ⟨xs, x, hq, hx⟩ := hg
    obtain ⟨its, rv, p, hz⟩ := I.tuple hq
    obtain ⟨u, hu, ru⟩ := rv.get hx
    have hel : e < s.heap.objs.size := Heap.lt_size he
    have hil : it < s.heap.objs.size := by obtain ⟨_, q, _⟩ := hit; exact Heap.lt_size q
    have hat : a ≠ it := by
      intro z
      subst z
      obtain ⟨o, q1, c1, _⟩ := hit
      obtain ⟨o', q2, c2, _⟩ := p
      rw [q1] at q2; cases q2
      exact absurd (Value.type.inj (c1.symm.trans c2)) (by decide)
    have D := Draws.tuple (prog := X.prog) (w := X.w) (A := X.A.in1) (I.ok.hd hc) it a hat its.toArray
    have Dst : (fun i (h : Heap) => h.IsTupleIter it a i ∧ h.IsTuple a its.toArray) i s.heap := ⟨hit, p⟩
    have eat : e ≠ a := by
      intro z
      subst z
      obtain ⟨o', q2, c2, _⟩ := p
      rw [he] at q2; cases q2
      exact absurd (Value.type.inj c2) (by decide)
    have hi : i < its.toArray.size := by
      have := (List.getElem?_eq_some_iff.mp hu).1
      simpa using this
    refine wpAny_pyNext_enum_itemD D he Dst hi hne (by simp [hne, eat]) fun v h' tk hv ho hst hT hsz hk => ?_
    obtain rfl : v = u := by
      have hv : its.toArray[i]? = some v := hv
      rw [show its.toArray[i]? = some u by simpa using hu] at hv
      exact (Option.some.inj hv).symm
    refine ⟨_, rfl, wpAny_letOwnedTupleGo_enum (s := { s with heap := h', toks := tk + 1 }) ho fun h'' he' sb => ?_⟩
    have hT2 := (sb.2 _ (Nat.ne_of_gt hel)).trans hT
    have new : ObjOk X.prog X.w (upd H s.heap.objs.size (.tup [.int (i : Nat), x])) h'' s.heap.objs.size (.tup [.int (i : Nat), x]) :=
      ⟨by show 2 ≤ sizeLine; decide, [.int i tk, v], .cons ⟨_, rfl⟩ (.cons ru .nil), ⟨_, hT2, rfl, _, rfl⟩⟩
    have I1 : Inv X pins σ (upd H s.heap.objs.size (.tup [.int (i : Nat), x])) { s with heap := h'', toks := tk + 1 } :=
      I.turnedNew (ch := [e, it]) (fun b ob hb q => (sb.2 b (fun z => hb (by simp [z]))).trans (hk b ob (fun z => hb (by simp [z])) (fun z => hb (by simp [z])) q)) hf (Nat.le_refl _) new
    refine ⟨.ref s.heap.objs.size, _, I1, rfl, ⟨_, x, rfl, I.hok.fresh (Nat.le_refl _), rfl, fun ys hy => by rw [I.tuple_inj hy hq]; exact hx⟩, ⟨⟨v, ?_⟩, hst.1.at fun o q => (sb.2 it (Ne.symm hne)).trans q, hne⟩, fun b hb => ?_⟩
    · rw [show ((i + 1 : Nat) : Int) = (i : Int) + 1 by omega]
      exact he'
    · have hb' : b < s.heap.objs.size := by
        have z : b = e ∨ b = it := by simpa using hb
        rcases z with rfl | rfl <;> assumption
      rw [upd_ne (Nat.ne_of_lt hb')]
      exact (hf b hb).1
  done := by
    intro X hP hw hK hc i pins s σ H E I hf st hg
    subst hP hw hK
    obtain ⟨⟨old, he⟩, hit, hne⟩ := st
    obtain ⟨xs, hq, hx⟩ := hg
    obtain ⟨its, rv, p, hz⟩ := I.tuple hq
    obtain ⟨f0, f1, f2, f3, f4, f5⟩ := hf it (by simp)
    have hl := rv.length
    have hat : a ≠ it := by
      intro z
      subst z
      obtain ⟨o, q1, c1, _⟩ := hit
      obtain ⟨o', q2, c2, _⟩ := p
      rw [q1] at q2; cases q2
      exact absurd (Value.type.inj (c1.symm.trans c2)) (by decide)
    have D := Draws.tuple (prog := X.prog) (w := X.w) (A := X.A.in1) (I.ok.hd hc) it a hat its.toArray
    have hn : i = its.toArray.size := by simp; omega
    subst hn
    exact wpAny_pyNext_enum_endD D he ⟨hit, p⟩ fun h' eb => ⟨rfl, I.turned (t' := s.toks) (fun b o hb q => eb b o hb q) f0 f1 f3 f4 f5⟩
  self := fun A i s Q E st h => let ⟨⟨_, he⟩, _⟩ := st; wpAny_pyIter_enum he h
def iEnumT (K : PySem.W.Frag) (ta : TA) : TI := fun σ H R => ta σ H fun vs H1 => ∃ a xs, vs = [.ref a] ∧ SqT K H1 a xs ∧ R (IteT K a) H1
theorem pi_enumT {X : Cx} {e : Expr} {ta : TA} {p pos tpos : Pos} {elts : List Expr} {kk : Nat} (hg : Gl X "enumerate") (hm : X.mg "enumerate" = none) (ha : PA X [e] ta) (hs : starEach [e] X.env = [(false, eval e X.env)] := by rfl) :
    PI X (.Tuple elts kk tpos) (.Call (.Name "enumerate" p) [e] [] pos) (iEnumT X.K ta) := by
  refine ⟨fun pins s σ H R I h => ?_⟩
  refine Call_ (ld_blt I hg hm boot_enumerate (PyProof.Rows.callWith_type1 (thn (ha.run pos pins s σ H _ I h) fun us s1 ⟨vs, H1, I1, r1, q1⟩ => ?_) hs rfl))
  obtain ⟨a, xs, rfl, hq, q⟩ := q1
  cases r1 with
  | cons r rr =>
    cases rr
    cases r
    obtain ⟨its, rv, p', hz⟩ := I1.tuple hq
    refine call_enumT (show s1.heap.IsTuple a its.toArray from p') fun h' he hit hk => wpAny_pyIter_enum he ?_
    refine ⟨s1.heap.objs.size + 1, [s1.heap.objs.size + 1, s1.heap.objs.size], _, _, H1, rfl, I1.kept (t' := s1.toks) hk, turn_enumT a (s1.heap.objs.size + 1) s1.heap.objs.size, ⟨⟨.none, he⟩, hit, Nat.succ_ne_self _⟩, fun b hb => ?_, q⟩
    have hle : s1.heap.objs.size ≤ b := by
      have z : b = s1.heap.objs.size + 1 ∨ b = s1.heap.objs.size := by simpa using hb
      rcases z with rfl | rfl <;> omega
    exact I1.fpOk hle (I1.hok.fresh hle)
theorem walk_enumT {K : PySem.W.Frag} {a : Addr} {xs : List V} : Walk (IteT K a) xs.length (fun H => SqT K H a xs) (YPair (fun i => some (.int (i : Nat))) (fun i => xs[i]?)) := by
  refine ⟨fun i _ hi q => ⟨xs, xs[i], q, by simp [hi]⟩, fun _ q => ⟨xs, q, rfl⟩, fun i H v H' _ q y => ?_⟩
  obtain ⟨T, x, h1, h2, h3, h4⟩ := y
  exact ⟨T, .int (i : Nat), x, h1, h2, h3, rfl, h4 xs q⟩

/-! ### comprehensions whose items are data -/
theorem tYes_of {σ : L2.St} {H : Hp} {P R : Hp → Prop} (h : P H) : tYes σ H fun b H3 => if b = true then P H3 else R H3 := by
  show (if true = true then P H else R H)
  rw [if_pos rfl]
  exact h
/-- each turn gives data and leaves what stood; no test -/
theorem lc_dt {K : PySem.W.Frag} {J : It} {n : Nat} {G : Hp → Prop} {Y : Nat → Hp → V → Hp → Prop} (w : Walk J n G Y) {g : TG} {te : TE} {vs : List Nat} {σ : L2.St} {H : Hp} {D : Addr} {Qd : Hp → Prop} (hD : H D = none) (ds : List PyData) (hn : ds.length = n) (hz : n < sizeLine)
    (hG : ∀ H', Same H H' → G H')
    (hs : ∀ i x H1 H2 d (Nx : V → Hp → Prop), i < n → ds[i]? = some d → Same H H1 → (∃ acc, H1 D = some (.lst acc)) → Y i H1 x H2 → (∀ y H5, Same H1 H5 → Dt K H5 y d → Nx y H5) →
      g x (wipe σ vs) H2 fun σ2 H3 => wipe σ2 vs = wipe σ vs ∧ te σ2 H3 Nx)
    (hd : ∀ H' acc, Same H H' → H' D = some (.lst acc) → DtAll K H' acc ds → Qd H')
    (mono : ∀ x σ H Q Q', (∀ σ' H', Q σ' H' → Q' σ' H') → g x σ H Q → g x σ H Q') :
    ∃ W : Nat → Nat → Hp → Prop, (∃ m, W 0 m (upd H D (.lst []))) ∧ ∀ i m H, W i m H →
      (J.stop i H ∧ Qd H) ∨ (J.go i H ∧ ∃ Nx : Hp → Prop, (∀ H', Nx H' → ∃ m', m' < m ∧ W (i + 1) m' H') ∧ ∀ x H', J.yld i H x H' → g x (wipe σ vs) H' fun σ2 H2 => wipe σ2 vs = wipe σ vs ∧ tYes σ2 H2 fun b H3 =>
        if b = true then te σ2 H3 fun y H4 => ∃ acc, H4 D = some (.lst acc) ∧ acc.length < sizeLine ∧ Nx (upd H4 D (.lst (acc ++ [y]))) else Nx H3) := by
  refine lc_it w (fun i H' => ∃ acc, H' D = some (.lst acc) ∧ DtAll K H' acc (ds.take i) ∧ Same H H') ⟨[], upd_same, .nil, Same.new hD⟩ (fun i H' _ h => let ⟨_, _, _, s⟩ := h; hG H' s) (fun i x H1 H2 hi h y => ?_) fun H' h => ?_
  · obtain ⟨acc, a1, a2, a3⟩ := h
    have hi' : i < ds.length := by omega
    have hg := hs i x H1 H2 ds[i] (fun y H4 => ∃ acc, H4 D = some (.lst acc) ∧ acc.length < sizeLine ∧ ∃ acc', upd H4 D (.lst (acc ++ [y])) D = some (.lst acc') ∧ DtAll K (upd H4 D (.lst (acc ++ [y]))) acc' (ds.take (i + 1)) ∧ Same H (upd H4 D (.lst (acc ++ [y]))))
      hi (List.getElem?_eq_getElem hi') a3 ⟨acc, a1⟩ y fun y H5 s hy => ?_
    · exact mono _ _ _ _ _ (fun σ2 H3 q => ⟨q.1, tYes_of q.2⟩) hg
    · have b1 := s _ _ a1
      have kt : KeepT K H5 (upd H5 D (.lst (acc ++ [y]))) := KeepT.upd b1
      refine ⟨acc, b1, ?_, _, upd_same, ?_, fun b o e => ?_⟩
      · rw [a2.length, List.length_take]; omega
      · rw [List.take_succ, List.getElem?_eq_getElem hi']
        exact DtAll.app (DtAll.keepT (KeepT.trans (Same.keepT s) kt) a2) (.cons (Dt.keepT kt hy) .nil)
      · rw [upd_ne (ne_of_none e hD)]
        exact s _ _ (a3 _ _ e)
  · obtain ⟨acc, a1, a2, a3⟩ := h
    rw [← hn, List.take_length] at a2
    exact hd H' acc a3 a1 a2
theorem mono_name {i : Nat} : ∀ x (σ : L2.St) (H : Hp) (Q Q' : L2.St → Hp → Prop), (∀ σ' H', Q σ' H' → Q' σ' H') → gName i x σ H Q → gName i x σ H Q' := fun _ _ _ _ _ h q => h _ _ q
theorem mono_tup2 {K : PySem.W.Frag} {i j n : Nat} : ∀ x (σ : L2.St) (H : Hp) (Q Q' : L2.St → Hp → Prop), (∀ σ' H', Q σ' H' → Q' σ' H') → gTup K n (gCons (gName i) (gCons (gName j) gNil)) x σ H Q → gTup K n (gCons (gName i) (gCons (gName j) gNil)) x σ H Q' := by
  rintro x σ H Q Q' h ⟨a, xs, e1, e2, e3, v, r, e4, v', r', e5, e6, q⟩
  exact ⟨a, xs, e1, e2, e3, v, r, e4, v', r', e5, e6, h _ _ q⟩
end LK

set_option Elab.async false
set_option linter.all false
set_option maxRecDepth 100000
set_option maxHeartbeats 4000000
set_option exponentiation.threshold 3000
/-! More rules: text * int, two rules at one place, what == says of data. -/
namespace LK
open PySem PySem.Spec PyProof.Rows L2
theorem at_of' {α : Type} {xs : List α} {z : Int} {j : Nat} {v : α} (e : z = (j : Int)) (h : xs[j]? = some v) : atI xs z = some v := by
  rw [e]
  exact atI_nat h
/-- z repeated k times, by its codes -/
def repC (z : List Nat) (k : Int) : List Nat := (List.replicate k.toNat z).flatten
def repS (z : Str) (k : Int) : Str := ⟨(repC z.cps.toList k).toArray⟩
theorem repC_length (z : List Nat) (k : Int) : (repC z k).length = k.toNat * z.length := by simp [repC]
theorem foldl_arr (z : Array Nat) : ∀ (n : Nat) (acc : Array Nat), (List.replicate n z).foldl (· ++ ·) acc = acc ++ (List.replicate n z.toList).flatten.toArray
  | 0, acc => by simp
  | n + 1, acc => by
    rw [List.replicate_succ, List.foldl_cons, foldl_arr z n, List.replicate_succ, List.flatten_cons]
    apply Array.ext'
    simp
def rRepS : R2 := fun x y H Q => ∃ (z : Str) (k : Int), x = .str z ∧ y = .int k ∧ -1000000000000 ≤ k ∧ k < 1000000000000 ∧ z.length * k.toNat ≤ 1000000 ∧ Q (.str (repS z k)) H
theorem repS_arr (z : Str) (k : Int) : (⟨(List.replicate k.toNat z.cps).foldl (· ++ ·) #[]⟩ : Str) = repS z k := by
  rw [foldl_arr]
  simp [repS, repC]
theorem op_rep_str {X : Cx} : OpR X (binaryOp .Mult) rRepS := by
  intro pins s σ H x y v u Q I rx ry h
  obtain ⟨z, k, rfl, rfl, h1, h2, h3, q⟩ := h
  obtain ⟨t, rfl⟩ := rx
  obtain ⟨t', rfl⟩ := ry
  have szl : (1000000 : Nat) ≤ sizeLine := by decide
  have e1 : ¬ k < 1 → k = (k.toNat : Int) := fun h => by omega
  refine PySem.P.mul_str ?_ (fun hk hz => ?_) (fun hk hz => ?_) ?_
  · rw [decide_eq_false (by omega), decide_eq_false (by omega)]; rfl
  · have e0 : z.length ≠ 0 := fun e => by rw [e] at hz; simp at hz
    have hd : (9223372036854775807 : Int) / k ≥ 1000000 := by
      apply Int.le_ediv_of_mul_le (by omega)
      have hlen : k.toNat ≤ 1000000 := Nat.le_trans (Nat.le_mul_of_pos_left _ (by omega)) h3
      omega
    have hl : z.length ≤ 1000000 := Nat.le_trans (Nat.le_mul_of_pos_right _ (by omega)) h3
    show ¬ ((z.length : Int) > 9223372036854775807 / k)
    omega
  · unfold Builtin.Str.tooLong
    simp
    omega
  · split
    · rename_i hk
      have e : repS z k = Str.empty := by
        have : k.toNat = 0 := by omega
        simp [repS, repC, this]; rfl
      refine ⟨by decide, .str _, H, I.tok _, ⟨_, rfl⟩, ?_⟩
      rw [← e]; exact q
    · rename_i hk
      split
      · rename_i hz
        have e : repS z k = z := by
          rcases Bool.or_eq_true_iff.mp hz with h | h
          · have : k = 1 := by simpa using h
            subst this
            simp [repS, repC]
          · have : z.cps.toList = [] := by
              have : z.cps.size = 0 := by simpa [Str.length] using h
              exact List.eq_nil_of_length_eq_zero (by simpa using this)
            have e2 : (List.replicate k.toNat ([] : List Nat)).flatten = [] := by simp
            unfold repS repC
            rw [this, e2]
            cases z with
            | mk c =>
              have : c = #[] := Array.toList_inj.mp (by simpa using this)
              subst this; rfl
        refine ⟨.str _, H, I, ⟨t, rfl⟩, ?_⟩
        rw [← e]; exact q
      · rw [repS_arr]
        refine ⟨?_, .str _, H, I.tok _, ⟨_, rfl⟩, q⟩
        show (repC z.cps.toList k).toArray.size ≤ sizeLine
        rw [List.size_toArray, repC_length]
        have : z.cps.toList.length = z.length := by simp [Str.length]
        rw [this, Nat.mul_comm]; omega
/-! ### the objects at the beginning -/
def clsNames : List Str := ["Exception", "ArithmeticError", "ZeroDivisionError", "OverflowError", "LookupError", "IndexError", "KeyError", "NameError", "AttributeError", "TypeError", "ValueError", "StopIteration", "RuntimeError", "RecursionError", "MemoryError", "HostError"]
def clsBases : List Int := [-1, 1, 2, 2, 1, 5, 5, 1, 1, 1, 1, 1, 1, 13, 1, 1]
def builtNames : List Str := ["print", "len", "range", "repr", "str", "int", "list", "tuple", "dict", "iter", "next", "isinstance", "abs"]
def clsVar (i : Nat) (n : Str) : PyData := .tuple [.str n, .tuple [.str "ref", .int ((i : Int) + 1)]]
def nameVar (k n : Str) : PyData := .tuple [.str n, .tuple [.str k, .str n]]
def clsObj (n : Str) (b : Int) : PyData := .tuple [.str "class", .str n, .int b, .tuple []]
def clsVars : List PyData := clsNames.mapIdx clsVar
def startVars (hs : List Str) : List PyData := clsVars ++ builtNames.map (nameVar "built") ++ hs.map (nameVar "host")
def startD (hs : List Str) : List PyData := .tuple [.str "scope", .tuple (startVars hs), .tuple [], .tuple [], .int (-1), .bool false] :: List.zipWith clsObj clsNames clsBases
/-- a list at p, of the data ds -/
def ListAt (K : PySem.W.Frag) (H : Hp) (p : Addr) (ds : List PyData) : Prop := ∃ xs, H p = some (.lst xs) ∧ DtAll K H xs ds
def spStart (K : PySem.W.Frag) : Sp := fun vs H Q _ => ∃ (t : Addr) (hs : List Str), vs = [.ref t] ∧ SqT K H t (hs.map V.str) ∧ hs.length ≤ 1000 ∧
  ∀ (p : Addr) (H' : Hp), H p = none → Same H H' → ListAt K H' p (startD hs) → Q (.ref p) H'
theorem at0 {α : Type} {x : α} {ws : List α} : atI (x :: ws) 0 = some x := at_of' (j := 0) rfl rfl
theorem at1 {α : Type} {x y : α} {ws : List α} : atI (x :: y :: ws) 1 = some y := at_of' (j := 1) rfl rfl
theorem at2 {α : Type} {x y z : α} {ws : List α} : atI (x :: y :: z :: ws) 2 = some z := at_of' (j := 2) rfl rfl
/-- a written pair, triple as it is read -/
theorem Dt.head {K : PySem.W.Frag} {H : Hp} {v : V} {z : Str} {rest : List PyData} (h : Dt K H v (.tuple (.str z :: rest))) : ∃ a ws, v = .ref a ∧ SqT K H a (.str z :: ws) ∧ DtAll K H ws rest := by
  obtain ⟨q, xs, rfl, hs, ha⟩ := h.tuple_inv
  obtain ⟨x, ws, rfl, h1, hw⟩ := ha.cons_inv
  cases h1.str_inv
  exact ⟨q, ws, rfl, hs, hw⟩
theorem Dt.pair {K : PySem.W.Frag} {H : Hp} {v : V} {z : Str} {d : PyData} (h : Dt K H v (.tuple [.str z, d])) : ∃ a x, v = .ref a ∧ SqT K H a [.str z, x] ∧ Dt K H x d := by
  obtain ⟨a, ws, rfl, hs, hw⟩ := h.head
  obtain ⟨x, ws', rfl, h1, hn⟩ := hw.cons_inv
  cases hn.nil_inv
  exact ⟨a, x, rfl, hs, h1⟩
theorem Dt.triple {K : PySem.W.Frag} {H : Hp} {v : V} {z : Str} {d e : PyData} (h : Dt K H v (.tuple [.str z, d, e])) : ∃ a x y, v = .ref a ∧ SqT K H a [.str z, x, y] ∧ Dt K H x d ∧ Dt K H y e := by
  obtain ⟨a, ws, rfl, hs, hw⟩ := h.head
  obtain ⟨x, ws', rfl, h1, hn⟩ := hw.cons_inv
  obtain ⟨y, ws'', rfl, h2, hn2⟩ := hn.cons_inv
  cases hn2.nil_inv
  exact ⟨a, x, y, rfl, hs, h1, h2⟩
theorem listAt_mono {K : PySem.W.Frag} {H H' : Hp} {p : Addr} {ds : List PyData} (h : ListAt K H p ds) (e : Same H H') : ListAt K H' p ds := by
  obtain ⟨xs, hx, ax⟩ := h
  exact ⟨xs, e _ _ hx, DtAll.mono e ax⟩
theorem eqv_nil (ds : List PyData) : PyData.eqv (.tuple ds) (.tuple []) = ds.isEmpty := by
  cases ds <;> simp [PyData.eqv, PyData.eqvAll]
theorem listAt_upd {K : PySem.W.Frag} {H : Hp} {l l' : Addr} {ds : List PyData} {xs : List V} {o : HO} (h : ListAt K H l ds) (ne : l ≠ l') (hl : H l' = some (.lst xs)) : ListAt K (upd H l' o) l ds := by
  obtain ⟨ys, hy, ay⟩ := h
  exact ⟨ys, by rw [upd_ne ne]; exact hy, DtAll.keepT (KeepT.upd hl) ay⟩
theorem listAt_app {K : PySem.W.Frag} {H : Hp} {l : Addr} {ds : List PyData} {xs : List V} {v : V} {d : PyData} (h : ListAt K H l ds) (hl : H l = some (.lst xs)) (hd : Dt K H v d) : ListAt K (upd H l (.lst (xs ++ [v]))) l (ds ++ [d]) := by
  obtain ⟨ys, hy, ay⟩ := h
  rw [hl] at hy
  obtain rfl := HO.lst.inj (Option.some.inj hy)
  exact ⟨_, upd_same, DtAll.app (DtAll.keepT (KeepT.upd hl) ay) (.cons (Dt.keepT (KeepT.upd hl) hd) .nil)⟩
theorem listAt_keep {K : PySem.W.Frag} {H H' : Hp} {l p : Addr} {ds : List PyData} (h : ListAt K H l ds) (e : Keep p H H') (ne : l ≠ p) (hp : ∃ xs, H p = some (.lst xs)) : ListAt K H' l ds := by
  obtain ⟨ys, hy, ay⟩ := h
  exact ⟨ys, e _ _ hy ne, DtAll.keepT (Keep.keepT e hp) ay⟩
theorem listAt_made {K : PySem.W.Frag} {H : Hp} {l : Addr} {xs : List V} {ds : List PyData} (hl : H l = none) (h : DtAll K H xs ds) : ListAt K (upd H l (.lst xs)) l ds := ⟨xs, upd_same, DtAll.mono (Same.new hl) h⟩
/-! how long the objects at the beginning are, shown -/
def shortS (n : Str) : Bool := decide (n.length ≤ 40) && n.cps.toList.all (fun c => decide (c < 16 ^ 8))
theorem Sm.short {n : Str} (h : shortS n = true) : Sm (.str n) 0 500 := by
  obtain ⟨h1, h2⟩ := Bool.and_eq_true_iff.mp h
  exact (Sm.str (of_decide_eq_true h1) (strOk n h2)).mono (by decide) (by decide)
theorem cls_short : ∀ n ∈ clsNames, shortS n = true := by decide +kernel
theorem built_short : ∀ n ∈ builtNames, shortS n = true := by decide +kernel
theorem Sm.nm {k n : Str} (hk : shortS k = true) (hn : shortS n = true) : Sm (nameVar k n) 3 4000 :=
  (Sm.tup (.cons (Sm.short hn) (.cons (Sm.tup (.cons (Sm.short hk) (.cons (Sm.short hn) .nil))) .nil))).mono (by decide) (by decide)
theorem Sm.cv {i : Nat} {n : Str} (hi : i < 1000) (hn : shortS n = true) : Sm (clsVar i n) 3 4000 :=
  (Sm.tup (.cons (Sm.short hn) (.cons (Sm.tup (.cons (Sm.short (n := "ref") (by decide +kernel)) (.cons (Sm.int (Nat.lt_of_lt_of_le (show ((i : Int) + 1).natAbs < 2 ^ 20 by omega) (Nat.pow_le_pow_right (by decide) (by decide)))) .nil))) .nil))).mono (by decide) (by decide)
theorem Sm.co {b : Int} {n : Str} (hb : b.natAbs < 1000) (hn : shortS n = true) : Sm (clsObj n b) 3 4000 :=
  (Sm.tup (.cons (Sm.short (n := "class") (by decide +kernel)) (.cons (Sm.short hn) (.cons (Sm.int (Nat.lt_of_lt_of_le (show b.natAbs < 2 ^ 20 by omega) (Nat.pow_le_pow_right (by decide) (by decide)))) (.cons (Sm.tup .nil) .nil))))).mono (by decide) (by decide)
theorem SmAll.mem {ds : List PyData} {dp n N m M : Nat} (h : SmAll ds dp n N) (h1 : n ≤ m) (h2 : N ≤ M) : SmAll ds dp m M := ⟨h.ok, h.dp, Nat.le_trans h.len h1, Nat.le_trans h.sz h2⟩
theorem sm_vars {hs : List Str} {L : Nat} (h : ∀ n ∈ hs, shortS n = true) (hl : hs.length ≤ L) : SmAll (startVars hs) 3 (29 + L) (4000 * (29 + L)) := by
  have h1 : ∀ d ∈ startVars hs, Sm d 3 4000 := fun d hd => by
    rcases List.mem_append.mp hd with hd | hd
    · rcases List.mem_append.mp hd with hd | hd
      · obtain ⟨i, hi, rfl⟩ := List.mem_mapIdx.mp hd
        exact Sm.cv (Nat.lt_trans hi (by decide)) (cls_short _ (List.getElem_mem hi))
      · obtain ⟨n, hn, rfl⟩ := List.mem_map.mp hd
        exact Sm.nm (by decide +kernel) (built_short n hn)
    · obtain ⟨n, hn, rfl⟩ := List.mem_map.mp hd
      exact Sm.nm (by decide +kernel) (h n hn)
  have hlen : (startVars hs).length = 29 + hs.length := by
    simp only [startVars, List.length_append, List.length_map]
    have : clsVars.length = 16 := by decide
    have : builtNames.length = 13 := by decide
    omega
  exact (SmAll.many h1).mem (by omega) (by omega)
theorem sm_start {hs : List Str} {L : Nat} (h : ∀ n ∈ hs, shortS n = true) (hl : hs.length ≤ L) : ∀ d ∈ startD hs, Sm d 5 (5000 * (30 + L)) := fun d hd => by
  rcases List.mem_cons.mp hd with rfl | hd
  · exact (Sm.tup (.cons (Sm.short (n := "scope") (by decide +kernel)) (.cons (Sm.tup (sm_vars h hl)) (.cons (Sm.tup .nil) (.cons (Sm.tup .nil) (.cons (Sm.int (by decide)) (.cons (Sm.bool false) .nil))))))).mono (by decide) (by omega)
  · have : ∃ n b, d = clsObj n b ∧ n ∈ clsNames ∧ b.natAbs < 1000 := by
      have key : ∀ q ∈ List.zip clsNames clsBases, q.1 ∈ clsNames ∧ q.2.natAbs < 1000 := by decide +kernel
      rw [← List.map_uncurry_zip_eq_zipWith] at hd
      obtain ⟨q, hq, rfl⟩ := List.mem_map.mp hd
      exact ⟨q.1, q.2, rfl, key q hq⟩
    obtain ⟨n, b, rfl, hn, hb⟩ := this
    exact (Sm.co hb (cls_short n hn)).mono (by decide) (by omega)
theorem start_cls {hs : List Str} {k : Nat} (h1 : 1 ≤ k) (h2 : k ≤ 16) : ∃ rest, (startD hs)[k]? = some (.tuple (.str "class" :: rest)) := by
  obtain ⟨j, rfl⟩ : ∃ j, k = j + 1 := ⟨k - 1, by omega⟩
  have l1 : clsNames.length = 16 := by decide
  have l2 : clsBases.length = 16 := by decide
  refine ⟨[.str clsNames[j]!, .int clsBases[j]!, .tuple []], ?_⟩
  have e1 : clsNames[j]? = some clsNames[j]! := by rw [List.getElem!_eq_getElem?_getD]; rw [List.getElem?_eq_getElem (by omega)]; rfl
  have e2 : clsBases[j]? = some clsBases[j]! := by rw [List.getElem!_eq_getElem?_getD]; rw [List.getElem?_eq_getElem (by omega)]; rfl
  show (List.zipWith clsObj clsNames clsBases)[j]? = _
  rw [List.getElem?_zipWith, e1, e2]
  rfl
end LK

set_option Elab.async false
set_option linter.all false
set_option maxRecDepth 100000
set_option maxHeartbeats 4000000
set_option exponentiation.threshold 3000
/-! tuple * 1; rows: texts or tuples at one place; the type of what is read as a tuple; data equal to itself. -/
namespace LK
open PySem PySem.Spec PyProof.Rows L2
theorem tuple_mul1 (l : Addr) (items : Array Value) (n : Nat) (dd : Option Addr) (sl : Array (Option Value)) (u : Tok) :
    Meets (Builtin.«tuple.__mul__» ⟨[.ref l, .int 1 u], []⟩) (fun _ R s => s.heap.get? l = some { cls := .type "tuple", dict := dd, data := .seq items n, slots := sl } ∧ R (.ok (.ret (Value.ref l))) s) :=
  .of_wp fun prog w A R s h => by
    obtain ⟨hp, g, d, tk, os⟩ := s
    obtain ⟨hl, h⟩ := h
    have f1 := AutoSeq1.idx_int
    have c0 : (decide ((1 : Int) < -(2 ^ 63)) || decide ((1 : Int) ≥ 2 ^ 63)) = false := by decide
    have c1 : (items.isEmpty || (1 : Int) == 1) = true := by simp
    wp_walk using wpAny_loadPart' hl
    exact ⟨_, rfl, h⟩
/-- a tuple times an int from 1 to 1000 -/
def rRepTA (K : PySem.W.Frag) : R2 := fun x y H Q => ∃ l k xs, x = .ref l ∧ y = .int k ∧ SqT K H l xs ∧ xs ≠ [] ∧ 1 ≤ k ∧ k ≤ 1000 ∧ xs.length ≤ 1000 ∧ (k = 1 → Q (.ref l) H) ∧ (k ≠ 1 → ∀ p, H p = none → Q (.ref p) (upd H p (.tup (List.replicate k.toNat xs).flatten)))
section
variable {X : Cx}
theorem op_repTA : OpR X (binaryOp .Mult) (rRepTA X.K) := by
  intro pins s σ H x y v u Q I rx ry h
  obtain ⟨l, k, xs, rfl, rfl, hT, hne, h1, h2, hz, q1, q2⟩ := h
  by_cases hk : k = 1
  · subst hk
    cases rx
    obtain ⟨t, rfl⟩ := ry
    obtain ⟨its, r, ⟨⟨cls, dd, data, sl⟩, ho, hc, n, hd⟩, hs⟩ := I.tuple hT
    simp only at hc hd
    subst hc hd
    refine wpAny_binaryOp_repeat_ref (T := "tuple") (U := "int") (by decide) ⟨_, ho, rfl⟩ (fun s' => typeIs_int s' 1 t) noFill_tuple_mul F.fills_int_mul F.slot_int_rmul repeat_tuple F.slot_int_index.lookup
      (call_meets F.slot_int_rmul (typeIs_int s 1 t) F.entry_int_rmul (F.args_int_rmul_2 _ _) (int_rmul_tuple 1 t l its.toArray n dd sl)
        ⟨ho, rfl, ⟨_, ho, rfl⟩, call_meets F.slot_tuple_mul ⟨_, ho, rfl⟩ F.entry_tuple_mul (F.args_tuple_mul_2 _ _) (tuple_mul1 l its.toArray n dd sl t) ⟨ho, ?_⟩⟩)
    exact ⟨.ref l, H, I, rfl, q1 rfl⟩
  · exact op_repT pins s σ H _ _ v u Q I rx ry ⟨l, k, xs, rfl, rfl, hT, hne, by omega, h2, hz, q2 hk⟩
end
theorem SqT.tyX {K : PySem.W.Frag} {H : Hp} {a : Addr} {xs : List V} (h : SqT K H a xs) : TyX K H (.ref a) (.type "tuple") := by
  rcases h with (h | ⟨o, h⟩) | ⟨o, its, n, e, c, _⟩
  · exact .base (.tup h)
  · exact .fTuple h
  · exact .kTuple e c
/-! ### data equal to itself -/
mutual
theorem eqv_self : ∀ {d : PyData}, d.canLay0 = true → PyData.eqv d d = true
  | .none, _ => by simp [PyData.eqv]
  | .bool _, _ => by simp [PyData.eqv]
  | .int _, _ => by simp [PyData.eqv]
  | .str _, _ => by simp [PyData.eqv]
  | .list xs, h => by rw [PyData.eqv]; exact eqvAll_self (by simpa [PyData.canLay0] using h)
  | .tuple xs, h => by rw [PyData.eqv]; exact eqvAll_self (by simpa [PyData.canLay0] using h)
  | .dict _, h => absurd h (by simp [PyData.canLay0])
theorem eqvAll_self : ∀ {xs : List PyData}, PyData.canLayAll0 xs = true → PyData.eqvAll xs xs = true
  | [], _ => by simp [PyData.eqvAll]
  | x :: xs, h => by
    rw [PyData.canLayAll0, Bool.and_eq_true] at h
    rw [PyData.eqvAll, eqv_self h.1, eqvAll_self h.2]; rfl
end
theorem canLayAll0_of {ds : List PyData} (h : ∀ d ∈ ds, d.canLay0 = true) : PyData.canLayAll0 ds = true := by
  induction ds with
  | nil => rfl
  | cons d ds ih => rw [PyData.canLayAll0, h d (by simp), ih fun e he => h e (List.mem_cons_of_mem _ he)]; rfl
theorem depthAll_of {ds : List PyData} {n : Nat} (h : ∀ d ∈ ds, d.depth ≤ n) : PyData.depthAll ds ≤ n := by
  induction ds with
  | nil => exact Nat.zero_le _
  | cons d ds ih => rw [PyData.depthAll]; exact Nat.max_le.mpr ⟨h d (by simp), ih fun e he => h e (List.mem_cons_of_mem _ he)⟩
/-! ### rows: a text, or a tuple of small ints -/
def Item (d : PyData) : Prop := ∃ i : Int, d = .tuple [.str "int", .int i] ∧ 0 ≤ i ∧ i < 11
def Low (z : Str) : Prop := ∀ c ∈ z.cps.toList, c < 128
inductive Row : Bool → PyData → Nat → Prop
  | txt {z : Str} {n : Nat} : z.length = n → Low z → Row true (.str z) n
  | tup {ds : List PyData} {n : Nat} : ds.length = n → (∀ d ∈ ds, Item d) → Row false (.tuple ds) n
def catD : PyData → PyData → PyData
  | .str a, .str b => .str (a ++ b)
  | .tuple a, .tuple b => .tuple (a ++ b)
  | a, _ => a
def repD (d : PyData) (k : Int) : PyData := match d with
  | .str a => .str (repS a k)
  | .tuple a => .tuple (List.replicate k.toNat a).flatten
  | a => a
def noneD : PyData → PyData
  | .str a => .str (cutS a none (some 0))
  | .tuple _ => .tuple []
  | a => a
theorem len_app (a b : Str) : (a ++ b).length = a.length + b.length := strLen_append a b
theorem len_rep (z : Str) (k : Int) : (repS z k).length = z.length * k.toNat := by
  show (repC z.cps.toList k).toArray.size = _
  rw [List.size_toArray, repC_length, Nat.mul_comm]
  simp [Str.length]
theorem Low.app {a b : Str} (h : Low a) (g : Low b) : Low (a ++ b) := by
  intro c hc
  have e : (a ++ b).cps.toList = a.cps.toList ++ b.cps.toList := by
    show (a.cps ++ b.cps).toList = _
    simp
  rw [e] at hc
  rcases List.mem_append.mp hc with hc | hc
  · exact h c hc
  · exact g c hc
theorem Low.rep {a : Str} (h : Low a) (k : Int) : Low (repS a k) := by
  intro c hc
  have hc : c ∈ (List.replicate k.toNat a.cps.toList).flatten := by simpa [repS, repC] using hc
  obtain ⟨l, hl, hcl⟩ := List.mem_flatten.mp hc
  exact h c (List.eq_of_mem_replicate hl ▸ hcl)
theorem Low.cut {a : Str} (h : Low a) (lo hi : Option Int) : Low (cutS a lo hi) := by
  intro c hc
  have hc : c ∈ (a.cps.toList.drop (HT.sIx a.length 0 lo)).take (HT.sIx a.length a.length hi - HT.sIx a.length 0 lo) := hc
  exact h c (List.mem_of_mem_drop (List.mem_of_mem_take hc))
theorem cut_to (a : Str) (m : Nat) : (cutS a none (some (m : Int))).length ≤ m := by
  show ((a.cps.toList.drop (HT.sIx a.length 0 none)).take (HT.sIx a.length a.length (some (m : Int)) - HT.sIx a.length 0 none)).toArray.size ≤ m
  rw [List.size_toArray, List.length_take, HT.sIx_nat]
  omega
theorem Row.cat {t : Bool} {a b : PyData} {n m : Nat} (h : Row t a n) (g : Row t b m) : Row t (catD a b) (n + m) := by
  cases h with
  | txt e l =>
    cases g with
    | txt e2 l2 => exact .txt (by rw [len_app, e, e2]) (l.app l2)
  | tup e l =>
    cases g with
    | tup e2 l2 => exact .tup (by rw [List.length_append, e, e2]) fun d hd => (List.mem_append.mp hd).elim (l d) (l2 d)
theorem Row.rep {t : Bool} {a : PyData} {n : Nat} (h : Row t a n) (k : Int) : Row t (repD a k) (n * k.toNat) := by
  cases h with
  | txt e l => exact .txt (by rw [len_rep, e]) (l.rep k)
  | tup e l =>
    refine .tup (by rw [PyProof.Rows.lm_len_rep_flat, e, Nat.mul_comm]) fun d hd => ?_
    obtain ⟨x, hx, hdx⟩ := List.mem_flatten.mp hd
    exact l d (List.eq_of_mem_replicate hx ▸ hdx)
theorem Row.none {t : Bool} {a : PyData} {n : Nat} (h : Row t a n) : Row t (noneD a) 0 := by
  cases h with
  | @txt z _ e l => exact .txt (Nat.le_zero.mp (cut_to z 0)) (l.cut _ _)
  | tup e l => exact .tup rfl fun d hd => by cases hd
theorem Item.sm {d : PyData} (h : Item d) : Sm d 1 3000 := by
  obtain ⟨i, rfl, h0, h1⟩ := h
  exact (Sm.tup (.cons (Sm.short (n := "int") (by decide +kernel)) (.cons (Sm.int (Nat.lt_of_lt_of_le (show i.natAbs < 2 ^ 20 by omega) (Nat.pow_le_pow_right (by decide) (by decide)))) .nil))).mono (by decide) (by decide)
theorem Row.sm {t : Bool} {d : PyData} {n : Nat} (h : Row t d n) (hn : n ≤ 1000) : Sm d 2 3100000 := by
  cases h with
  | txt e l => exact (Sm.str (n := 1000) (by omega) fun c hc => Nat.lt_of_lt_of_le (l c hc) (by decide)).mono (by decide) (by decide)
  | tup e l => exact (Sm.tup ((SmAll.many fun d hd => (l d hd).sm).mem (m := 1000) (M := 3000000) (by omega) (by omega))).mono (by decide) (by decide)
theorem Row.lay {t : Bool} {d : PyData} {n : Nat} (h : Row t d n) : d.canLay0 = true := by
  cases h with
  | @txt z _ e l =>
    rw [PyData.canLay0]
    exact Array.all_eq_true_iff_forall_mem.mpr fun c hc => by
      have := l c (Array.mem_toList_iff.mpr hc)
      exact decide_eq_true (by omega)
  | tup e l =>
    rw [PyData.canLay0]
    exact canLayAll0_of fun d hd => by obtain ⟨i, rfl, _⟩ := l d hd; simp only [PyData.canLay0, PyData.canLayAll0, Bool.and_true]; decide +kernel
section
variable {X : Cx}
/-- a + b, two rows -/
def rCatD (K : PySem.W.Frag) : R2 := fun x y H Q => ∃ (t : Bool) (a b : PyData) (n m : Nat), Row t a n ∧ Row t b m ∧ Dt K H x a ∧ Dt K H y b ∧ n + m ≤ 2000 ∧ ∀ v H', Same H H' → Dt K H' v (catD a b) → Q v H'
theorem op_catD : OpR X (binaryOp .Add) (rCatD X.K) := by
  intro pins s σ H x y v u Q I rx ry h
  obtain ⟨t, a, b, n, m, ha, hb, da, db, hz, q⟩ := h
  cases ha with
  | txt e l =>
    cases hb with
    | txt e2 l2 =>
      cases da.str_inv; cases db.str_inv
      exact op_add_str pins s σ H _ _ v u Q I rx ry ⟨_, _, rfl, rfl, by rw [e, e2]; exact Nat.le_trans hz (by decide), q _ _ (Same.refl _) (.str _)⟩
  | @tup ds _ e l =>
    cases hb with
    | @tup es _ e2 l2 =>
      obtain ⟨p, xs, rfl, hs, ax⟩ := da.tuple_inv
      obtain ⟨p2, ys, rfl, hs2, ay⟩ := db.tuple_inv
      have lx := ax.length
      have ly := ay.length
      refine op_catA pins s σ H _ _ v u Q I rx ry ⟨p, p2, xs, ys, rfl, rfl, hs, hs2, by rw [lx, ly, e, e2]; exact Nat.le_trans hz (by decide), fun h0 => ?_, fun _ h0 => ?_, fun _ _ z hz => ?_⟩
      · subst h0
        have : ds = [] := List.eq_nil_of_length_eq_zero (by rw [← lx]; rfl)
        subst this
        exact q _ _ (Same.refl _) db
      · subst h0
        have : es = [] := List.eq_nil_of_length_eq_zero (by rw [← ly]; rfl)
        subst this
        refine q _ _ (Same.refl _) ?_
        show Dt X.K H (.ref p) (.tuple (ds ++ []))
        rw [List.append_nil]; exact da
      · exact q _ _ (Same.new hz) (Dt.made hz (DtAll.app ax ay))
/-- a * k, a row and an int -/
def rRepD (K : PySem.W.Frag) : R2 := fun x y H Q => ∃ (t : Bool) (a : PyData) (n : Nat) (k : Int), Row t a n ∧ Dt K H x a ∧ y = .int k ∧ 1 ≤ n ∧ 1 ≤ k ∧ n * k ≤ 1000 ∧ ∀ v H', Same H H' → Dt K H' v (repD a k) → Q v H'
theorem dtRep {K : PySem.W.Frag} {H : Hp} {xs : List V} {ds : List PyData} (h : DtAll K H xs ds) : ∀ m : Nat, DtAll K H (List.replicate m xs).flatten (List.replicate m ds).flatten
  | 0 => .nil
  | m + 1 => by
    rw [List.replicate_succ, List.flatten_cons, List.replicate_succ, List.flatten_cons]
    exact DtAll.app h (dtRep h m)
theorem op_repD : OpR X (binaryOp .Mult) (rRepD X.K) := by
  intro pins s σ H x y v u Q I rx ry h
  obtain ⟨t, a, n, k, ha, da, rfl, hn, hk, hz, q⟩ := h
  have k1 : k ≤ 1000 := by
    have : 1 * k ≤ n * k := Int.mul_le_mul_of_nonneg_right (by omega) (by omega)
    omega
  have n1 : n ≤ 1000 := by
    have : (n : Int) * 1 ≤ n * k := Int.mul_le_mul_of_nonneg_left hk (by omega)
    omega
  cases ha with
  | txt e l =>
    cases da.str_inv
    refine op_rep_str pins s σ H _ _ v u Q I rx ry ⟨_, k, rfl, rfl, by omega, by omega, ?_, q _ _ (Same.refl _) (.str _)⟩
    rw [e]
    exact Nat.le_trans (Nat.mul_le_mul n1 (show k.toNat ≤ 1000 by omega)) (by decide)
  | @tup ds _ e l =>
    obtain ⟨p, xs, rfl, hs, ax⟩ := da.tuple_inv
    have lx := ax.length
    refine op_repTA pins s σ H _ _ v u Q I rx ry ⟨p, k, xs, rfl, rfl, hs, fun z => ?_, hk, k1, by omega, fun h1 => ?_, fun h1 z hz => ?_⟩
    · subst z
      rw [List.length_nil] at lx
      omega
    · subst h1
      refine q _ _ (Same.refl _) ?_
      show Dt X.K H (.ref p) (.tuple (List.replicate 1 ds).flatten)
      rw [show (List.replicate 1 ds).flatten = ds by simp]
      exact da
    · exact q _ _ (Same.new hz) (Dt.made hz (dtRep ax _))
/-- a[:0], a row -/
def rNoneD (K : PySem.W.Frag) : V → Option Int → Option Int → Hp → VK → Prop := fun x lo hi H Q => ∃ (t : Bool) (a : PyData) (n : Nat), Row t a n ∧ Dt K H x a ∧ n ≤ 2000 ∧ lo = none ∧ hi = some 0 ∧ ∀ v H', Same H H' → Dt K H' v (noneD a) → Q v H'
theorem sl_noneD : SlR X (rNoneD X.K) := by
  intro pins s σ H x v vl vu lo hi sl Q I rx hs pl pu h
  obtain ⟨t, a, n, ha, da, hn, rfl, rfl, q⟩ := h
  cases ha with
  | txt e l =>
    cases da.str_inv
    exact sl_str pins s σ H _ v vl vu _ _ sl Q I rx hs pl pu ⟨_, rfl, by rw [e]; exact Nat.le_trans hn (by decide), q _ _ (Same.refl _) (.str _)⟩
  | @tup ds _ e l =>
    obtain ⟨p, xs, rfl, hq, ax⟩ := da.tuple_inv
    have lx := ax.length
    refine sl_tupA pins s σ H _ v vl vu _ _ sl Q I rx hs pl pu ⟨p, xs, rfl, hq, fun hw => ?_, fun _ z hz => ?_⟩
    · have h0 : ds.length = 0 := by
        have := hw.2
        rw [show (some (0 : Int)) = some ((0 : Nat) : Int) from rfl, HT.sIx_nat] at this
        omega
      have := List.eq_nil_of_length_eq_zero h0
      subst this
      exact q _ _ (Same.refl _) da
    · refine q _ _ (Same.new hz) (Dt.made hz ?_)
      have : cutV xs none (some 0) = [] := by
        apply List.eq_nil_of_length_eq_zero
        unfold cutV
        rw [List.length_take, show (some (0 : Int)) = some ((0 : Nat) : Int) from rfl, HT.sIx_nat]
        omega
      rw [this]
      exact .nil
/-- len(a), a row -/
def rLenD (K : PySem.W.Frag) : List V → Hp → VK → Prop := fun vs H Q => ∃ (v : V) (t : Bool) (a : PyData) (n : Nat), vs = [v] ∧ Row t a n ∧ Dt K H v a ∧ n ≤ 2000 ∧ Q (.int (n : Int)) H
theorem call_lenD' : CallR X (.builtin "len") (rLenD X.K) := by
  intro pins s σ H xs us Q I r h
  obtain ⟨v, t, a, n, rfl, ha, da, hn, q⟩ := h
  cases ha with
  | txt e l =>
    cases da.str_inv
    exact call_len pins s σ H _ us Q I r ⟨_, n, rfl, ⟨by rw [e]; exact Nat.le_trans hn (by decide), e.symm⟩, q⟩
  | @tup ds _ e l =>
    obtain ⟨p, ys, rfl, hq, ax⟩ := da.tuple_inv
    exact call_len pins s σ H _ us Q I r ⟨_, n, rfl, .inr ⟨_, hq, by rw [ax.length, e]⟩, q⟩
end
end LK

set_option Elab.async false
set_option linter.all false
set_option maxRecDepth 100000
set_option maxHeartbeats 4000000
set_option exponentiation.threshold 3000
/-! Letters, digits, underscores; texts of the top. -/
namespace LK
open PySem PySem.Spec PyProof.Rows L2 SX
def isD (c : Nat) : Bool := decide (48 ≤ c) && decide (c ≤ 57)
def isL (c : Nat) : Bool := (decide (65 ≤ c) && decide (c ≤ 90)) || (decide (97 ≤ c) && decide (c ≤ 122)) || c == 95
def isW (c : Nat) : Bool := isD c || isL c
theorem isW_lt {c : Nat} (h : isW c = true) : c < 128 := by
  simp [isW, isD, isL] at h; omega
theorem uni_alpha : ∀ c < 128, Unicode.isAlpha c = (isL c && c != 95) := by decide +kernel
theorem uni_digit : ∀ c < 128, Unicode.isDigit c = isD c := by decide +kernel
theorem uni_alnum : ∀ c < 128, Unicode.isAlnum c = (isW c && c != 95) := by decide +kernel
theorem alpha1 {c : Nat} (h : c < 128) : Txt.isalpha (S [c]) = (isL c && c != 95) := by
  show (decide ((S [c]).length > 0) && (S [c]).cps.all Unicode.isAlpha) = _
  rw [S_len]; simp [S, uni_alpha c h]
theorem digit1 {c : Nat} (h : c < 128) : Txt.isdigit (S [c]) = isD c := by
  show (decide ((S [c]).length > 0) && (S [c]).cps.all Unicode.isDigit) = _
  rw [S_len]; simp [S, uni_digit c h]
theorem alnum1 {c : Nat} (h : c < 128) : Txt.isalnum (S [c]) = (isW c && c != 95) := by
  show (decide ((S [c]).length > 0) && (S [c]).cps.all Unicode.isAlnum) = _
  rw [S_len]; simp [S, uni_alnum c h]
theorem digitS {a : List Nat} (h : ∀ c ∈ a, c < 128) (hne : a ≠ []) : Txt.isdigit (S a) = a.all isD := by
  show (decide ((S a).length > 0) && (S a).cps.all Unicode.isDigit) = _
  have : 0 < a.length := List.length_pos_iff.mpr hne
  rw [S_len, decide_eq_true this, Bool.true_and]
  show a.toArray.all Unicode.isDigit = _
  rw [List.all_toArray]
  apply Bool.eq_iff_iff.mpr
  rw [List.all_eq_true, List.all_eq_true]
  exact ⟨fun g c hc => uni_digit c (h c hc) ▸ g c hc, fun g c hc => (uni_digit c (h c hc)).symm ▸ g c hc⟩
/-! texts of the top -/
def GStr (mg : Str → Option Value) (x : Str) (z : Str) : Prop := ∃ t, mg x = some (.str z t)
def HasStr (K : PySem.W.Frag) (x : Str) (p : Str → Prop) : Prop := ∃ (z : Str) (t : Tok), PySem.W.nsIn K mainGlobals x = some (some (.str z t)) ∧ p z
theorem HasStr.mk' {K : PySem.W.Frag} {x : Str} {p : Str → Prop} {z : Str} {t : Tok} (a : PySem.W.nsIn K mainGlobals x = some (some (.str z t))) (b : p z) : HasStr K x p := ⟨z, t, a, b⟩
theorem HasStr.g {K : PySem.W.Frag} {mg : Str → Option Value} {h : Heap} {x : Str} {p : Str → Prop} (i : HasStr K x p) (X : K.In h) (G : h.Ns mainGlobals mg) : ∃ z, GStr mg x z ∧ p z := by
  obtain ⟨z, t, e, hp⟩ := i
  exact ⟨z, ⟨t, PySem.W.mg_of X G e⟩, hp⟩
theorem pe_globS {X : Cx} {x z : Str} {pos : Pos} (h : GStr X.mg x z) (hg : Gl X x) (hd : (x == ("__debug__" : Str)) = false := by decide) : PE X (.Name x pos) (tC (.str z)) := by
  obtain ⟨t, e⟩ := h
  exact pe_glob hg e ⟨t, rfl⟩ hd
theorem split1 {a : List Nat} {c : Nat} (h : c ∉ a) (hc : c < 256) : Txt.split (S a) (S [c]) = [S a] := by
  rw [split_S (by simp) (by simpa using hc)]
  have := SX.spl_join (c := c) (sep := []) (parts := [a]) (by simp) (by simpa using h)
  have e : TL.joinL [c] [a] = a := by simp [TL.joinL]
  rw [e] at this
  rw [this]; rfl
theorem lstrip1 {a : List Nat} {b : List Nat} (h : ∀ c, a.head? = some c → c ∉ b) : Txt.lstripChars (S a) (S b) = S a := by
  have e1 : (S a).cps.toList.takeWhile (S b).cps.contains = [] := tw0 a fun c hc => by
    have := h c hc
    show b.toArray.contains c = false
    rw [List.contains_toArray]
    simpa using this
  have e0 : stripLo (S b).cps.contains true (S a) = 0 := by
    unfold stripLo
    rw [if_pos rfl, e1] <;> rfl
  have e3 : stripHi (S b).cps.contains false (S a) 0 = (S a).length := by
    unfold stripHi
    rw [if_neg Bool.false_ne_true]
  unfold Txt.lstripChars Txt.stripBy stripSame
  rw [e0, e3]
  exact if_pos (by simp)
/-! while, its test's reading made monotone -/
def tUp (c : TT) : TT := fun σ H Q => ∃ P : Bool → Hp → Prop, c σ H P ∧ ∀ b H1, P b H1 → Q b H1
theorem pt_up {X : Cx} {e : Expr} {c : TT} (h : PT X e c) : PT X e (tUp c) :=
  ⟨fun pins s σ H Q I ⟨P, hP, k⟩ => thn (h.run pins s σ H P I hP) fun b s1 ⟨H1, I1, q⟩ => ⟨H1, I1, k _ _ q⟩⟩
theorem while_up {c : TT} {tb : TS} {D : Ends} {σ : L2.St} {H : Hp} (Pv : L2.St → Hp → Prop) (μ : L2.St → Hp → Nat) (h0 : Pv σ H)
    (hs : ∀ σ H, Pv σ H → c σ H fun b H1 => if b = true then tb { D with nx := fun σ' H' => Pv σ' H' ∧ μ σ' H' < μ σ H, ct := fun σ' H' => Pv σ' H' ∧ μ σ' H' < μ σ H, bk := D.nx } σ H1 else D.nx σ H1) : tWhile (tUp c) tb D σ H :=
  while_by Pv μ h0 (fun σ H p => ⟨_, hs σ H p, fun _ _ h => h⟩) (fun σ H Q Q' hq ⟨P, hP, k⟩ => ⟨P, hP, fun b H1 h => hq b H1 (k b H1 h)⟩)
theorem nl_S : ("\n" : Str) = S [10] := by decide +kernel
theorem us_S : ("_" : Str) = S [95] := by decide +kernel
theorem sp_S : (" " : Str) = S [32] := by decide +kernel
theorem hash_S : ("#" : Str) = S [35] := by decide +kernel
theorem sign_eq {c d : Nat} : decide (V.str ⟨#[c]⟩ = V.str (S [d])) = decide (c = d) := by
  by_cases h : c = d
  · subst h; rw [decide_eq_true rfl, decide_eq_true rfl]
  · rw [decide_eq_false h, decide_eq_false]
    intro e
    have := S_inj (a := [c]) (b := [d]) (V.str.inj e)
    exact h (by simpa using this)
theorem str_eq {a b : List Nat} : decide (V.str (S a) = V.str (S b)) = decide (a = b) := by
  by_cases h : a = b
  · subst h; rw [decide_eq_true rfl, decide_eq_true rfl]
  · rw [decide_eq_false h, decide_eq_false]
    intro e
    exact h (S_inj (V.str.inj e))
theorem starts1 {c d : Nat} {r : List Nat} : Txt.startswith (S (c :: r)) (S [d]) = decide (c = d) := by
  show (decide (0 + (S [d]).length ≤ (S (c :: r)).length) && ((c :: r).toArray.extract 0 (0 + (S [d]).length) == [d].toArray)) = _
  rw [S_len, S_len]
  have e : (c :: r).toArray.extract 0 (0 + [d].length) = #[c] := by simp
  rw [e]
  by_cases h : c = d
  · subst h; simp
  · simp [h]
theorem at_S {a : List Nat} {j c : Nat} (h : a[j]? = some c) : atI (S a).cps.toList (j : Int) = some c := atI_nat h
theorem cut_all {a : List Nat} : cutS (S a) (some 0) (some ((a.length : Nat) : Int)) = S a := by
  unfold cutS
  rw [S_len, show (some (0 : Int)) = some ((0 : Nat) : Int) from rfl, HT.sIx_nat, HT.sIx_nat]
  show (⟨((a.drop (min 0 a.length)).take (min a.length a.length - min 0 a.length)).toArray⟩ : Str) = ⟨a.toArray⟩
  rw [Nat.zero_min, List.drop_zero, Nat.min_self, Nat.sub_zero, List.take_length]
/-! a promise at a higher level -/
theorem FnG.mono {P : Program} {w : World} {K : PySem.W.Frag} {mg : Str → Option Value} {base : Heap} {CX : CXT} {j k : Nat} {f : Addr} {fd : FuncData} {ps : List Str} {sp : Sp} (F : FnG P w K mg base CX j f fd ps sp) (h : j ≤ k) : FnG P w K mg base CX k f fd ps sp :=
  ⟨F.len, fun A outer s H args us vs Q E hr => F.run A outer s H args us vs Q E (hr.mono h)⟩
theorem Use.mono {P : Program} {w : World} {K : PySem.W.Frag} {mg : Str → Option Value} {base : Heap} {CX : CXT} {x : Str} {j k : Nat} {ps : List Str} {sp : Sp} (U : Use P w K mg base CX x j ps sp) (h : j ≤ k) : Use P w K mg base CX x k ps sp := by
  obtain ⟨f, fd, ok, r⟩ := U.ex
  exact ⟨f, fd, ok.mono h, r⟩
/-! the signs that a program may hold -/
def okC (c : Nat) : Bool := c == 10 || (decide (32 ≤ c) && decide (c ≤ 126) && c != 37)
theorem okC_lt {c : Nat} (h : okC c = true) : c < 128 := by
  simp [okC] at h; omega
theorem lstrip_sp (a : List Nat) : Txt.lstripChars (S a) (S [32]) = S (a.dropWhile (· == 32)) := by
  have e1 : (S a).cps.toList.takeWhile (S [32]).cps.contains = a.takeWhile (· == 32) := by
    show a.takeWhile _ = _
    congr 1
    funext c
    show #[32].contains c = _
    simp [Array.contains, BEq.comm]
  have el : (a.takeWhile (· == 32)).length ≤ a.length := (List.takeWhile_prefix _).length_le
  have ed : a.drop (a.takeWhile (· == 32)).length = a.dropWhile (· == 32) := by
    have h := List.takeWhile_append_dropWhile (p := (· == 32)) (l := a)
    have : (a.takeWhile (· == 32) ++ a.dropWhile (· == 32)).drop (a.takeWhile (· == 32)).length = a.dropWhile (· == 32) := List.drop_left
    rwa [h] at this
  have e0 : stripLo (S [32]).cps.contains true (S a) = (a.takeWhile (· == 32)).length := by
    unfold stripLo
    rw [if_pos rfl, e1] <;> rfl
  have e3 : stripHi (S [32]).cps.contains false (S a) (a.takeWhile (· == 32)).length = (S a).length := by
    unfold stripHi
    rw [if_neg Bool.false_ne_true]
  unfold Txt.lstripChars Txt.stripBy stripSame stripped
  rw [e0, e3]
  split
  · rename_i h
    simp at h
    have : (a.takeWhile (· == 32)).length = 0 := by simpa using h
    rw [this, List.drop_zero] at ed
    rw [← ed]
  · show (⟨a.toArray.extract (a.takeWhile (· == 32)).length (S a).length⟩ : Str) = _
    rw [S_len, ← ed]
    congr 1
    apply Array.toList_inj.mp
    simp only [Array.toList_extract, List.extract_eq_drop_take]
    exact List.take_of_length_le (by rw [List.length_drop]; omega)
/-- z[i:j] by codes -/
theorem cut_S {a : List Nat} {i j : Nat} (hi : i ≤ a.length) (hj : j ≤ a.length) : cutS (S a) (some ((i : Nat) : Int)) (some ((j : Nat) : Int)) = S ((a.drop i).take (j - i)) := by
  unfold cutS
  rw [S_len, HT.sIx_nat, HT.sIx_nat, Nat.min_eq_left hi, Nat.min_eq_left hj]
/-- a line: so many spaces, and perhaps a word -/
def lnT (s : Nat) (w : List Nat) : List Nat := List.replicate s 32 ++ w
theorem lnT_len (s : Nat) (w : List Nat) : (lnT s w).length = s + w.length := by simp [lnT]
theorem lnT_sp {s : Nat} {w : List Nat} {i : Nat} (h : i < s) : (lnT s w)[i]? = some 32 := by
  unfold lnT
  rw [List.getElem?_append_left (by simpa using h), List.getElem?_replicate, if_pos h]
theorem lnT_w {s : Nat} {w : List Nat} {i : Nat} : (lnT s w)[s + i]? = w[i]? := by
  unfold lnT
  rw [List.getElem?_append_right (by simp), List.length_replicate, Nat.add_sub_cancel_left]
theorem lnT_drop (s : Nat) (w : List Nat) : (lnT s w).drop s = w := by
  unfold lnT
  rw [List.drop_append_of_le_length (by simp)]
  simp
/-- a while by an invariant that carries its measure -/
theorem while_upN {c : TT} {tb : TS} {D : Ends} {σ : L2.St} {H : Hp} (W : Nat → L2.St → Hp → Prop) (h0 : ∃ m, W m σ H)
    (hs : ∀ m σ H, W m σ H → c σ H fun b H1 => if b = true then tb { D with nx := fun σ' H' => ∃ m', m' < m ∧ W m' σ' H', ct := fun σ' H' => ∃ m', m' < m ∧ W m' σ' H', bk := D.nx } σ H1 else D.nx σ H1) : tWhile (tUp c) tb D σ H := by
  refine ⟨W, h0, fun m σ H w => ⟨_, hs m σ H w, fun b H1 h => ?_⟩⟩
  cases b with
  | false => exact h
  | true => exact ⟨_, fun σ' H' q => q, h⟩
end LK

set_option Elab.async false
set_option linter.all false
set_option maxRecDepth 100000
set_option maxHeartbeats 4000000
set_option exponentiation.threshold 3000
/-! What several laws share: boxes and lists beside changes of other objects. -/
namespace LK
open PySem PySem.Spec PyProof.Rows L2
section
variable {K : PySem.W.Frag}
theorem BoxAt.ne_new {H : Hp} {p dl b : Addr} (B : BoxAt H p dl) (h : H b = none) : b ≠ p ∧ b ≠ dl := by
  obtain ⟨xs, g⟩ := B.at_
  obtain ⟨ys, g2⟩ := B.dg
  exact ⟨fun e => (by subst e; rw [h] at g; cases g), fun e => (by subst e; rw [h] at g2; cases g2)⟩
theorem BoxAt.kp {H H' : Hp} {p dl : Addr} (B : BoxAt H p dl) (h : ∀ b o, b = p ∨ b = dl → H b = some o → H' b = some o) : BoxAt H' p dl := by
  obtain ⟨ds, k, a, b, c, d⟩ := B
  exact ⟨ds, k, h _ _ (.inl rfl) a, b, h _ _ (.inr rfl) c, d⟩
theorem BoxAt.keep' {H H' : Hp} {p dl l : Addr} (B : BoxAt H p dl) (k : Keep l H H') (h1 : l ≠ p) (h2 : l ≠ dl) : BoxAt H' p dl :=
  B.kp fun b o hb e => k b o e (by
    rcases hb with rfl | rfl
    · exact Ne.symm h1
    · exact Ne.symm h2)
theorem BoxAt.keep2 {H H' : Hp} {p dl l m : Addr} (B : BoxAt H p dl) (k : ∀ b o, H b = some o → b ≠ l → b ≠ m → H' b = some o) (h1 : l ≠ p) (h2 : l ≠ dl) (h3 : m ≠ p) (h4 : m ≠ dl) : BoxAt H' p dl :=
  B.kp fun b o hb e => by
    rcases hb with rfl | rfl
    · exact k _ _ e (Ne.symm h1) (Ne.symm h3)
    · exact k _ _ e (Ne.symm h2) (Ne.symm h4)
theorem KeepT.ins {p C dx : Addr} {H : Hp} {o : HO} {fs : List (Str × V)} (hp : H p = some (.ins C dx fs)) : KeepT K H (L2.upd H p o) := fun a xs h => by
  rcases h with (h | ⟨o', h⟩) | h
  · exact .inl (.inl (by rw [upd_ne (ne_of h hp (by intro z; cases z))]; exact h))
  · exact .inl (.inr ⟨o', by rw [upd_ne (ne_of h hp (by intro z; cases z))]; exact h⟩)
  · exact .inr h
theorem listAt_ins {p C dx l : Addr} {H : Hp} {o : HO} {fs : List (Str × V)} {ds : List PyData} (h : ListAt K H l ds) (hp : H p = some (.ins C dx fs)) : ListAt K (upd H p o) l ds := by
  obtain ⟨xs, e, a⟩ := h
  exact ⟨xs, by rw [upd_ne (ne_of e hp (by intro z; cases z))]; exact e, DtAll.keepT (KeepT.ins hp) a⟩
theorem Low.zero : Low "" := fun c hc => by
  have e : ("" : Str).cps.toList = [] := by decide +kernel
  rw [e] at hc; cases hc
theorem DtAll.take {H : Hp} : ∀ (n : Nat) {vs : List V} {ds : List PyData}, DtAll K H vs ds → DtAll K H (vs.take n) (ds.take n)
  | 0, _, _, _ => .nil
  | _ + 1, _, _, .nil => .nil
  | n + 1, _, _, .cons h a => .cons h (DtAll.take n a)
theorem len_start0 : (startD []).length = 17 := by decide
theorem sm_start0 : ∀ d ∈ startD [], Sm d 5 150000 := fun d hd => sm_start (hs := []) (L := 0) (by simp) (by simp) d hd
theorem sm_heap {ds : List PyData} (h : ds.length ≤ 30) (sm : ∀ d ∈ ds, Sm d 5 150000) : ShowOk (.list ds) := (Sm.lst ((SmAll.many sm).mem (m := 30) (M := 4500000) h (by omega))).show (by decide) (by decide)
theorem ListAt.dp {H : Hp} {l : Addr} {ds : List PyData} (h : ListAt K H l ds) : Dp K H (.ref l) (.list ds) := let ⟨_, e, a⟩ := h; .lst (SqL.of e) a.dp
end
theorem FnG.or {P : Program} {w : World} {K : PySem.W.Frag} {mg : Str → Option Value} {base : Heap} {CX : CXT} {k : Nat} {f : Addr} {fd : FuncData} {ps : List Str} {sp sp' : Sp} (A : FnG P w K mg base CX k f fd ps sp) (B : FnG P w K mg base CX k f fd ps sp') :
    FnG P w K mg base CX k f fd ps (fun vs H Q E => sp vs H Q E ∨ sp' vs H Q E) where
  len := fun vs H Q E h => h.elim (A.len vs H Q E) (B.len vs H Q E)
  run := fun A' outer s H args us vs Q E hr hg he hb hv h => h.elim (A.run A' outer s H args us vs Q E hr hg he hb hv) (B.run A' outer s H args us vs Q E hr hg he hb hv)
/-- start_heap of a list of names -/
def spStartL (K : PySem.W.Frag) : Sp := fun vs H Q _ => ∃ (t : Addr) (hs : List Str), vs = [.ref t] ∧ SqL K H t (hs.map V.str) ∧ hs.length ≤ 1000 ∧
  ∀ (p : Addr) (H' : Hp), H p = none → Same H H' → ListAt K H' p (startD hs) → Q (.ref p) H'
def spStart2 (K : PySem.W.Frag) : Sp := fun vs H Q E => spStart K vs H Q E ∨ spStartL K vs H Q E
theorem ip_fdiv {X : Cx} : PIp X .FloorDiv (rI CDiv fun i j => .int (i / j)) := fun pins s σ H x y v u Q I r1 r2 h => iop_fdiv pins s σ H x y v u Q I r1 r2 h
theorem none_back0 {p np : Addr} {H H' : Hp} (K1 : Keep p H H') (B : ∃ xs, H' p = some (.lst xs)) (h : H' np = none) : H np = none := by
  cases e : H np with
  | none => rfl
  | some o =>
    by_cases ep : np = p
    · subst ep
      obtain ⟨xs, g⟩ := B
      rw [g] at h; cases h
    · rw [K1 _ _ e ep] at h; cases h
end LK

set_option Elab.async false
set_option linter.all false
set_option maxRecDepth 100000
set_option maxHeartbeats 4000000
/-! dicts of the top: what a literal dict of the program gives, read where it stands. -/
namespace LK
open PySem PySem.Spec PyProof.Rows L2
/-- at a lies a dict of the top with these entries -/
def KDct (P : Program) (w : World) (K : PySem.W.Frag) (a : Addr) (kvs : List (Key × V)) : Prop := (a == sysModules) = false ∧ ∃ vs, KV kvs vs ∧ ∀ h : Heap, K.In h → h.DictOf (mixKind P w) a vs
def tDGetK (P : Program) (w : World) (K : PySem.W.Frag) (td ty : TE) : TE := fun σ H Q => td σ H fun x H1 => ty σ H1 fun y H2 => ∃ a kvs k v, x = .ref a ∧ KDct P w K a kvs ∧ y = kV k ∧ valV kvs k = some v ∧ Q v H2
def tDInK (P : Program) (w : World) (K : PySem.W.Frag) (ty td : TE) : TE := fun σ H Q => ty σ H fun y H1 => td σ H1 fun x H2 => ∃ a kvs k, x = .ref a ∧ KDct P w K a kvs ∧ y = kV k ∧ Q (.bl (valV kvs k).isSome) H2
section
variable {X : Cx} {o i : Expr} {pos : Pos} {td ty : TE}
theorem pe_dgetK (ho : PE X o td) (hi : PE X i ty) (hs : NoSl i) : PE X (.Subscript o i pos) (tDGetK X.prog X.w X.K td ty) := by
  refine ⟨fun pins s σ H Q I h => ?_⟩
  refine subD_of PySem.F.slot_dict_getitem.lookup hs (thn (ho.run pins s σ H _ I h) fun u s1 ⟨x, H1, I1, rx, q1⟩ => thn (hi.run pins s1 σ H1 _ I1 q1) fun iv s2 ⟨y, H2, I2, ry, a, kvs, k, v, ex, ⟨hsys, vs, rel, dd⟩, ey, l, q2⟩ => ?_)
  subst ex ey
  obtain rfl : u = Value.ref a := rx
  have dd := dd _ I2.kIn
  refine ⟨dd.typeIs, ?_⟩
  obtain ⟨w', hw, rw'⟩ := RelO.some_of (v := v) (o := valueAt vs k) (by rw [← l]; exact rel.val k)
  exact wpAny_getItem_of (kV_is ry) dd.mapOf hw ⟨v, H2, I2.tok _, rw', q2⟩
theorem pc_dinK (hi : PE X i ty) (ho : PE X o td) : PC X .In i o (tDInK X.prog X.w X.K ty td) := by
  refine ⟨fun pins s σ H Q I h => ?_⟩
  refine thn (hi.run pins s σ H _ I h) fun iv s1 ⟨y, H1, I1, ry, q1⟩ => thn (ho.run pins s1 σ H1 _ I1 q1) fun u s2 ⟨x, H2, I2, rx, a, kvs, k, ex, ⟨hsys, vs, rel, dd⟩, ey, q2⟩ => ?_
  subst ex ey
  obtain rfl : u = Value.ref a := rx
  have dd := dd _ I2.kIn
  refine wpAny_in_of (kV_is ry) hsys dd.mapOf ?_
  rw [← (rel.val k).isSome_eq]
  exact ⟨.bl _, H2, I2.tok _, rfl, q2⟩
end
/-! its fact from the top -/
def HasDct (P : Program) (w : World) (K : PySem.W.Frag) (x : Str) (kvs : List (Key × V)) : Prop := ∃ a, PySem.W.nsIn K mainGlobals x = some (some (.ref a)) ∧ KDct P w K a kvs
structure UseD (P : Program) (w : World) (K : PySem.W.Frag) (mg : Str → Option Value) (x : Str) (kvs : List (Key × V)) : Prop where
  ex : ∃ a, mg x = some (.ref a) ∧ KDct P w K a kvs
/-- entries whose keys and values are texts -/
inductive DEnt (w : World) : List DictEntry → List (Str × Str) → Prop
  | nil : DEnt w [] []
  | cons {e : DictEntry} {es : List DictEntry} {k v : Str} {ps : List (Str × Str)} {t t' : Tok} : e.key = .str k t → e.hash = hashStr w k → e.val = .str v t' → DEnt w es ps → DEnt w (e :: es) ((k, v) :: ps)
def txtKV (ps : List (Str × Str)) : List (Key × V) := ps.map fun p => (.inr p.1, .str p.2)
theorem DEnt.pairs {P : Program} {w : World} : ∀ {es : List DictEntry} {ps : List (Str × Str)}, DEnt w es ps → ∃ vs : List (Key × Value), KV (txtKV ps) vs ∧ PySem.Pairs (mixKind P w) es vs ∧ vs.map (·.1) = ps.map (fun p => (Sum.inr p.1 : Key)) ∧ ∀ e ∈ es, ∃ k, (mixKind P w).is k e.key = true ∧ e.hash = (mixKind P w).hash k
  | _, _, .nil => ⟨[], .nil, .nil, rfl, fun _ h => by cases h⟩
  | _, _, .cons (k := k) (v := v) (t := t) (t' := t') hk hh hv r => by
    obtain ⟨vs, a, b, c, d⟩ := DEnt.pairs (P := P) r
    refine ⟨(.inr k, .str v t') :: vs, .cons ⟨rfl, ⟨_, rfl⟩⟩ a, .cons (by rw [hk]; exact mixKind_str P w k t) hv b, by rw [List.map_cons, c]; rfl, fun e he => ?_⟩
    rcases List.mem_cons.mp he with rfl | he
    · exact ⟨.inr k, by rw [hk]; exact mixKind_str P w k t, hh⟩
    · exact d e he
theorem nodup_inr : ∀ {xs : List Str}, xs.Nodup → (xs.map (Sum.inr : Str → Key)).Nodup
  | [], _ => .nil
  | x :: r, h => by
    obtain ⟨h1, h2⟩ := List.nodup_cons.mp h
    refine List.nodup_cons.mpr ⟨fun hm => ?_, nodup_inr h2⟩
    obtain ⟨y, hy, e⟩ := List.mem_map.mp hm
    exact h1 (Sum.inr.inj e ▸ hy)
theorem HasDct.mk' {P : Program} {w : World} {K : PySem.W.Frag} {x : Str} {ps : List (Str × Str)} {a : Addr} {es : Array DictEntry} {ep : Nat} (h : PySem.W.nsIn K mainGlobals x = some (some (.ref a)))
    (b : K.lookup a = some { cls := .type "dict", data := .dict es ep }) (hs : (a == sysModules) = false) (c : DEnt w es.toList ps) (nd : (ps.map (·.1)).Nodup) : HasDct P w K x (txtKV ps) := by
  obtain ⟨vs, v1, v2, v3, v4⟩ := DEnt.pairs (P := P) c
  refine ⟨a, h, hs, vs, v1, fun hh hK => ⟨_, es, ep, hK a _ b, ⟨rfl, rfl, rfl⟩, rfl, fun e he => v4 e (Array.mem_toList_iff.mpr he), v2, ?_⟩⟩
  rw [v3]
  have : ps.map (fun p => (Sum.inr p.1 : Key)) = (ps.map (·.1)).map Sum.inr := by rw [List.map_map]; rfl
  rw [this]
  exact nodup_inr nd
theorem HasDct.g {P : Program} {w : World} {K : PySem.W.Frag} {mg : Str → Option Value} {h : Heap} {x : Str} {kvs : List (Key × V)} (D : HasDct P w K x kvs) (X : K.In h) (G : h.Ns mainGlobals mg) : UseD P w K mg x kvs := by
  obtain ⟨a, e, k⟩ := D
  exact ⟨a, PySem.W.mg_of X G e, k⟩
end LK

set_option Elab.async false
set_option linter.all false
set_option maxRecDepth 100000
set_option maxHeartbeats 4000000
/-! Defs held by names and by dicts of the top: action = D[k]; action(x). The keys and the length of a dict of the top. -/
namespace LK
open PySem PySem.Spec PyProof.Rows L2
/-! ### a def that a local holds -/
def tCallV (X : Cx) (k : Nat) (i : Nat) (t : TA) : TE := fun σ H Q => ∃ (f : Addr) (fd : FuncData) (ps : List Str) (sp : Sp), σ[i]? = some (some (.ref f)) ∧ FnG X.prog X.w X.K X.mg X.base CX0 k f fd ps sp ∧ PySem.W.keepIn X.K (.ref f) = true ∧ Binds X.K fd ps [] ∧
  t σ H fun vs H1 => sp vs H1 Q E0
section
variable {X : Cx} {k i : Nat} {x : Str} {p pos : Pos} {e : Expr} {es : List Expr} {t : TA}
theorem pe_callV (hv : PE X (.Name x p) (tVar i)) (hr : Room k X.A) (gd : X.A.guards = some []) (ha : PA X (e :: es) t)
    (he : starEach (e :: es) X.env = (false, eval e X.env) :: starEach es X.env := by rfl) (hpl : (backTo pos (starEach es X.env)).any (·.1) = false := by rfl) : PE X (.Call (.Name x p) (e :: es) [] pos) (tCallV X k i t) := by
  refine ⟨fun pins s σ H Q I ⟨f, fd, ps, sp, eσ, F, kp, hb, h⟩ => ?_⟩
  refine wpAny_Call_Name_kw (thn (hv.run pins s σ H (fun v H' => v = V.ref f ∧ H' = H) I ⟨_, eσ, rfl, rfl⟩) fun u s1 ⟨v, H', I1, rv, ev, eH⟩ => ?_)
  subst ev eH
  obtain rfl : u = Value.ref f := rv
  exact PySem.W.callWith_K (h₀ := X.base) I1.ok.mod.kin kp (thn (ha.run pos pins s1 σ _ _ I1 h) fun us s2 ⟨vs, H2, I2, r, q⟩ => ⟨I2.kIn, run_fnG F hr gd hb pass0 I2 r q⟩) he hpl
end
/-! ### defs by name and place -/
def HasFnA (K : PySem.W.Frag) (x : Str) (st : Stmt) (f : Addr) : Prop := ∃ (oc : Value) (od an : Option Addr) (kV doc pm cdv ct : Value) (osl : Array (Option Value)),
  PySem.W.nsIn K mainGlobals x = some (some (.ref f)) ∧ K.lookup f = some ⟨oc, od, .func (PySem.W.fnOf x x (defArgs st) (defBody st) (defScope st) .none kV doc pm an cdv ct), osl⟩ ∧
  PySem.W.codeIn K cdv x = true ∧ PySem.W.keepIn K (.ref f) = true
theorem HasFnA.mk' {K : PySem.W.Frag} {x : Str} {st : Stmt} {f : Addr} {oc : Value} {od an : Option Addr} {kV doc pm cdv ct : Value} {osl : Array (Option Value)} (a : PySem.W.nsIn K mainGlobals x = some (some (.ref f)))
    (b : K.lookup f = some ⟨oc, od, .func (PySem.W.fnOf x x (defArgs st) (defBody st) (defScope st) .none kV doc pm an cdv ct), osl⟩) (c : PySem.W.codeIn K cdv x = true) (d : PySem.W.keepIn K (.ref f) = true) : HasFnA K x st f := ⟨oc, od, an, kV, doc, pm, cdv, ct, osl, a, b, c, d⟩
theorem HasFnA.fn {K : PySem.W.Frag} {x : Str} {st : Stmt} {f : Addr} (h : HasFnA K x st f) : HasFn K x st := by
  obtain ⟨oc, od, an, kV, doc, pm, cdv, ct, osl, a, b, c, d⟩ := h
  exact ⟨f, oc, od, an, kV, doc, pm, cdv, ct, osl, a, b, c, d⟩
structure UseA (P : Program) (w : World) (K : PySem.W.Frag) (mg : Str → Option Value) (base : Heap) (x : Str) (k : Nat) (ps : List Str) (sp : Sp) (f : Addr) : Prop where
  ex : ∃ fd : FuncData, FnG P w K mg base CX0 k f fd ps sp ∧ mg x = some (.ref f) ∧ PySem.W.keepIn K (.ref f) = true ∧ Binds K fd ps []
section
variable {P : Program} {w : World} {K : PySem.W.Frag} {mg : Str → Option Value} {base h : Heap}
theorem UseA.use {x : Str} {k : Nat} {ps : List Str} {sp : Sp} {f : Addr} (U : UseA P w K mg base x k ps sp f) : Use P w K mg base CX0 x k ps sp := by
  obtain ⟨fd, r⟩ := U.ex
  exact ⟨f, fd, r⟩
theorem mk_useA {x : Str} {st : Stmt} {k : Nat} {ps : List Str} {sp : Sp} {f : Addr} (F : HasFnA K x st f) (X : K.In h) (G : h.Ns mainGlobals mg)
    (hb : ∀ (kV doc pm : Value) (an : Option Addr) (cdv ct : Value) (us : List Value), us.length = ps.length → bindArgs (PySem.W.fnOf x x (defArgs st) (defBody st) (defScope st) .none kV doc pm an cdv ct) ⟨us, []⟩ = pure (ps.zip us))
    (ok : ∀ (f : Addr) (fd : FuncData), Fun K x x st f fd → FnG P w K mg base CX0 k f fd ps sp) : UseA P w K mg base x k ps sp f := by
  obtain ⟨oc, od, an, kV, doc, pm, cdv, ct, osl, e, l, c, kp⟩ := F
  have Fn := fun_mk (st := st) l c kp
  exact ⟨_, ok f _ Fn, PySem.W.mg_of X G e, kp, Fn.binds hb⟩
end
/-! ### a dict of the top whose values are defs -/
inductive FEnt (w : World) : List DictEntry → List (Str × Addr) → Prop
  | nil : FEnt w [] []
  | cons {e : DictEntry} {es : List DictEntry} {k : Str} {v : Addr} {ps : List (Str × Addr)} {t : Tok} : e.key = .str k t → e.hash = hashStr w k → e.val = .ref v → FEnt w es ps → FEnt w (e :: es) ((k, v) :: ps)
def fnKV (ps : List (Str × Addr)) : List (Key × V) := ps.map fun p => (.inr p.1, .ref p.2)
theorem FEnt.pairs {P : Program} {w : World} : ∀ {es : List DictEntry} {ps : List (Str × Addr)}, FEnt w es ps → ∃ vs : List (Key × Value), KV (fnKV ps) vs ∧ PySem.Pairs (mixKind P w) es vs ∧ vs.map (·.1) = ps.map (fun p => (Sum.inr p.1 : Key)) ∧ ∀ e ∈ es, ∃ k, (mixKind P w).is k e.key = true ∧ e.hash = (mixKind P w).hash k
  | _, _, .nil => ⟨[], .nil, .nil, rfl, fun _ h => by cases h⟩
  | _, _, .cons (k := k) (v := v) (t := t) hk hh hv r => by
    obtain ⟨vs, a, b, c, d⟩ := FEnt.pairs (P := P) r
    refine ⟨(.inr k, .ref v) :: vs, .cons ⟨rfl, rfl⟩ a, .cons (by rw [hk]; exact mixKind_str P w k t) hv b, by rw [List.map_cons, c]; rfl, fun e he => ?_⟩
    rcases List.mem_cons.mp he with rfl | he
    · exact ⟨.inr k, by rw [hk]; exact mixKind_str P w k t, hh⟩
    · exact d e he
theorem HasDct.mkF {P : Program} {w : World} {K : PySem.W.Frag} {x : Str} {ps : List (Str × Addr)} {a : Addr} {es : Array DictEntry} {ep : Nat} (h : PySem.W.nsIn K mainGlobals x = some (some (.ref a)))
    (b : K.lookup a = some { cls := .type "dict", data := .dict es ep }) (hs : (a == sysModules) = false) (c : FEnt w es.toList ps) (nd : (ps.map (·.1)).Nodup) : HasDct P w K x (fnKV ps) := by
  obtain ⟨vs, v1, v2, v3, v4⟩ := FEnt.pairs (P := P) c
  refine ⟨a, h, hs, vs, v1, fun hh hK => ⟨_, es, ep, hK a _ b, ⟨rfl, rfl, rfl⟩, rfl, fun e he => v4 e (Array.mem_toList_iff.mpr he), v2, ?_⟩⟩
  rw [v3]
  have : ps.map (fun p => (Sum.inr p.1 : Key)) = (ps.map (·.1)).map Sum.inr := by rw [List.map_map]; rfl
  rw [this]
  exact nodup_inr nd
/-! ### list(D), len(D) -/
def rListK (P : Program) (w : World) (K : PySem.W.Frag) : List V → Hp → VK → Prop := fun xs H Q => ∃ p kvs, xs = [.ref p] ∧ KDct P w K p kvs ∧ kvs.length ≤ 1000 ∧ ∀ q, H q = none → Q (.ref q) (upd H q (.lst (kvs.map fun kv => kV kv.1)))
theorem call_listK {X : Cx} (hc : X.calm = true) : CallR X (.type "list") (rListK X.prog X.w X.K) := by
  intro pins s σ H xs us Q I r h
  obtain ⟨p, kvs, rfl, ⟨hsys, vs, rel, dd⟩, hz, q⟩ := h
  obtain ⟨u, rfl, rx⟩ := vals1 r
  obtain rfl : u = Value.ref p := rx
  obtain ⟨ep, hat⟩ := (dd _ I.kIn).dictAt
  have hl : kvs.length = vs.length := Paired.length rel
  have hz2 : vs.length ≤ sizeLine := by rw [← hl]; exact Nat.le_trans hz (by decide)
  refine PySem.W.kdl_call (PySem.W.kdl_dict (knd := mixKind X.prog X.w) (kvs := vs) (ep := ep) hsys) (I.ok.hd hc) hat hz2 fun h2 tk acc c kk hS it => ?_
  have ok : ObjOk X.prog X.w (upd H s.heap.objs.size (.lst (kvs.map fun kv => kV kv.1))) h2 s.heap.objs.size (.lst (kvs.map fun kv => kV kv.1)) := by
    refine ⟨by rw [List.length_map, hl]; exact hz2, acc.toList, c, ?_, by rw [Array.toArray_toList]; exact hS⟩
    have el : acc.toList.length = acc.size := by simp
    refine vals_of_at (by rw [List.length_map, el, it.1, hl]) fun j x y h1 h2 => ?_
    obtain ⟨k, z, hkz, hi⟩ := it.2 j y (by rw [← Array.getElem?_toList]; exact h2)
    have e1 : (kvs.map (·.1))[j]? = some k := by
      rw [KV.keys rel, List.getElem?_map, hkz]
      rfl
    have e3 : (kvs.map fun kv => kV kv.1) = (kvs.map (·.1)).map kV := by rw [List.map_map]; rfl
    rw [e3, List.getElem?_map, e1] at h1
    cases h1
    exact keyIs_rel hi
  exact ⟨.ref s.heap.objs.size, _, I.laid kk (Nat.le_refl _) ok, rfl, q _ (I.hok.fresh (Nat.le_refl _))⟩
theorem call_lenDK {X : Cx} : CallR X (.builtin "len") (fun xs H Q => ∃ p kvs, xs = [V.ref p] ∧ KDct X.prog X.w X.K p kvs ∧ kvs.length ≤ 1000 ∧ Q (.int (kvs.length : Nat)) H) := by
  intro pins s σ H xs us Q I r h
  obtain ⟨p, kvs, rfl, ⟨hsys, vs, rel, dd⟩, hz, q⟩ := h
  obtain ⟨u, rfl, rx⟩ := vals1 r
  obtain rfl : u = Value.ref p := rx
  have hl : kvs.length = vs.length := Paired.length rel
  refine call_len_dict hsys (dd _ I.kIn) (by rw [← hl]; omega) ?_
  exact ⟨.int (kvs.length : Nat), H, I.tok _, ⟨_, by rw [hl]⟩, q⟩
end LK

set_option Elab.async false
set_option linter.all false
set_option maxRecDepth 100000
set_option maxHeartbeats 4000000
/-! for k in D, D a dict of the top; dicts of the top whose values are tuples of the top -/
namespace LK
open PySem PySem.Spec PyProof.Rows L2
/-- a dict of the top, its object written out -/
def KDctI (P : Program) (w : World) (K : PySem.W.Frag) (a : Addr) (kvs : List (Key × V)) : Prop := KDct P w K a kvs ∧ ∃ (es : Array DictEntry) (ep : Nat), K.lookup a = some { cls := .type "dict", data := .dict es ep }
def HasDctI (P : Program) (w : World) (K : PySem.W.Frag) (x : Str) (kvs : List (Key × V)) : Prop := ∃ a, PySem.W.nsIn K mainGlobals x = some (some (.ref a)) ∧ KDctI P w K a kvs
structure UseI (P : Program) (w : World) (K : PySem.W.Frag) (mg : Str → Option Value) (x : Str) (kvs : List (Key × V)) : Prop where
  ex : ∃ a, mg x = some (.ref a) ∧ KDctI P w K a kvs
theorem HasDctI.g {P : Program} {w : World} {K : PySem.W.Frag} {mg : Str → Option Value} {h : Heap} {x : Str} {kvs : List (Key × V)} (D : HasDctI P w K x kvs) (X : K.In h) (G : h.Ns mainGlobals mg) : UseI P w K mg x kvs := by
  obtain ⟨a, e, k⟩ := D
  exact ⟨a, PySem.W.mg_of X G e, k⟩
theorem HasDct.i {P : Program} {w : World} {K : PySem.W.Frag} {x : Str} {kvs : List (Key × V)} {a : Addr} {es : Array DictEntry} {ep : Nat} (D : HasDct P w K x kvs) (h : PySem.W.nsIn K mainGlobals x = some (some (.ref a)))
    (b : K.lookup a = some { cls := .type "dict", data := .dict es ep }) : HasDctI P w K x kvs := by
  obtain ⟨a', e, k⟩ := D
  rw [h] at e
  cases e
  exact ⟨a, h, k, es, ep, b⟩
/-- the keys of the dict of the top at a -/
def ItkK (a : Addr) (kvs : List (Key × V)) : It :=
  ⟨fun i _ => i < kvs.length, fun i H x H' => H' = H ∧ ∃ k v, kvs[i]? = some (k, v) ∧ x = kV k, fun i _ => kvs.length ≤ i⟩
theorem KDctI.at {P : Program} {w : World} {K : PySem.W.Frag} {a : Addr} {kvs : List (Key × V)} (D : KDctI P w K a kvs) : ∃ (es : Array DictEntry) (ep : Nat) (vs : List (Key × Value)), (a == sysModules) = false ∧ KV kvs vs ∧
    ∀ h : Heap, K.In h → es.size = kvs.length ∧ h.get? a = some { cls := .type "dict", data := .dict es ep } ∧ h.DictAt (mixKind P w) a vs ep := by
  obtain ⟨⟨hs, vs, rel, dd⟩, es, ep, lk⟩ := D
  refine ⟨es, ep, vs, hs, rel, fun h hK => ?_⟩
  obtain ⟨o, es', ep', ho, hx, hd, r⟩ := dd h hK
  have e := hK a _ lk
  rw [ho] at e
  cases e
  cases hd
  have l1 := r.2.1.length
  have l2 : kvs.length = vs.length := Paired.length rel
  rw [Array.length_toList] at l1
  exact ⟨by omega, ho, _, _, ho, hx, rfl, r⟩
section
variable {P : Program} {w : World} {K : PySem.W.Frag} {tg : Expr} {a : Addr} {es : Array DictEntry} {ep : Nat} {kvs : List (Key × V)} {vs : List (Key × Value)}
theorem turn_keysK (it : Addr) (kv : KV kvs vs) (at_ : ∀ h : Heap, K.In h → es.size = kvs.length ∧ h.get? a = some { cls := .type "dict", data := .dict es ep } ∧ h.DictAt (mixKind P w) a vs ep) :
    Turn P w K tg (ItkK a kvs) [it] it (fun i h => h.IsKeyIter it a i kvs.length ep) where
  mem := by simp
  obj := fun i h st b hb => by
    have e : b = it := by simpa using hb
    subst e
    obtain ⟨oi, e, c, dd⟩ := st
    exact ⟨oi, e, fun v z => by rw [dd] at z; cases z⟩
  keep := fun i h h' st k => st.at fun oi e => k it (by simp) oi e
  item := by
    intro X hP hw hK hc i pins s σ H E I hf st hg
    subst hP hw hK
    obtain ⟨f0, f1, f2, f3, f4, f5⟩ := hf it (by simp)
    obtain ⟨hsz, hgd, hm⟩ := at_ _ I.kIn
    obtain ⟨⟨k, v⟩, hkv⟩ : ∃ p, kvs[i]? = some p := ⟨kvs[i], List.getElem?_eq_getElem hg⟩
    obtain ⟨u, hu, ru⟩ := kv_get kv hkv
    have hl : kvs.length = vs.length := Paired.length kv
    rw [hl] at st
    refine wpAny_pyNext_dict_item st hm hu fun key h' hkey st' sb => ?_
    have I1 : Inv X pins σ H { s with heap := h' } := I.turned (t' := s.toks) (fun b ob hb e => (sb.2 b hb).trans e) f0 f1 f3 f4 f5
    obtain ⟨oi, e, c, dd⟩ := id st'
    refine ⟨key, rfl, go_of (s := { s with heap := h' }) e c dd (by decide) ⟨kV k, H, I1, relV_key (show keyIs k key = true from hkey), ⟨rfl, k, v, hkv, rfl⟩, ?_, fun b hb => (hf b hb).1⟩⟩
    show h'.IsKeyIter it a (i + 1) kvs.length _
    rw [hl]
    exact st'
  done := by
    intro X hP hw hK hc i pins s σ H E I hf st hg
    subst hP hw hK
    obtain ⟨f0, f1, f2, f3, f4, f5⟩ := hf it (by simp)
    obtain ⟨hsz, hgd, hm⟩ := at_ _ I.kIn
    exact next_key_end (I.ok.hd hc) st hgd rfl hsz hg fun h' eb => ⟨rfl, I.turned (t' := s.toks) (fun b ob hb e => eb b ob hb e) f0 f1 f3 f4 f5⟩
  self := fun A i s Q E st h => wpAny_pyIter_keyiter st h
end
def iKeysK (P : Program) (w : World) (K : PySem.W.Frag) (td : TE) : TI := fun σ H R => td σ H fun x H1 => ∃ a kvs, x = .ref a ∧ KDctI P w K a kvs ∧ R (ItkK a kvs) H1
theorem pi_keysK {X : Cx} {tg e : Expr} {td : TE} (he : PE X e td) : PI X tg e (iKeysK X.prog X.w X.K td) := by
  refine ⟨fun pins s σ H R I h => ?_⟩
  refine thn (he.run pins s σ H _ I h) fun u s1 ⟨x, H1, I1, rx, a, kvs, ex, D, q⟩ => ?_
  subst ex
  obtain rfl : u = Value.ref a := rx
  obtain ⟨es, ep, vs, hs, kv, at_⟩ := D.at
  obtain ⟨hsz, hgd, hm⟩ := at_ _ I1.kIn
  refine iter_keys hs hgd ⟨rfl, rfl, rfl⟩ rfl (pi_one (tk := s1.toks) I1 _ (turn_keysK _ kv at_) ⟨_, Heap.get?_push_size _ rfl, rfl, ?_⟩ q)
  rw [hsz] <;> rfl
theorem walk_keysK {a : Addr} {kvs : List (Key × V)} : Walk (ItkK a kvs) kvs.length (fun _ => True) (fun i H x H' => H' = H ∧ ∃ k v, kvs[i]? = some (k, v) ∧ x = kV k) :=
  ⟨fun _ _ hi _ => hi, fun _ _ => Nat.le_refl _, fun _ _ _ _ _ _ y => y⟩
/-! ### dicts of the top whose values are tuples of the top -/
inductive TEnt (w : World) (K : PySem.W.Frag) : List DictEntry → List (Str × List V) → List (Str × Addr) → Prop
  | nil : TEnt w K [] [] []
  | cons {e : DictEntry} {es : List DictEntry} {k : Str} {a : Addr} {xs : List V} {ps : List (Str × List V)} {qs : List (Str × Addr)} {t : Tok} {od : Option Addr} {its : Array Value} {n : Nat} {sl : Array (Option Value)} :
      e.key = .str k t → e.hash = hashStr w k → e.val = .ref a → K.lookup a = some ⟨.type "tuple", od, .seq its n, sl⟩ → its.size ≤ sizeLine → Vals xs its.toList → TEnt w K es ps qs → TEnt w K (e :: es) ((k, xs) :: ps) ((k, a) :: qs)
theorem TEnt.f {w : World} {K : PySem.W.Frag} : ∀ {es : List DictEntry} {ps : List (Str × List V)} {qs : List (Str × Addr)}, TEnt w K es ps qs → FEnt w es qs ∧ ps.map (·.1) = qs.map (·.1) ∧ Paired (fun q p => KTup K q.2 p.2) qs ps
  | _, _, _, .nil => ⟨.nil, rfl, .nil⟩
  | _, _, _, .cons h1 h2 h3 h4 h5 h6 r => by
    obtain ⟨a, b, c⟩ := r.f
    exact ⟨.cons h1 h2 h3 a, by rw [List.map_cons, List.map_cons, b], .cons ⟨_, _, _, _, h4, h5, h6⟩ c⟩
/-- the dict x of the top: each key's value is a tuple of the top -/
def HasTupD (P : Program) (w : World) (K : PySem.W.Frag) (x : Str) (ps : List (Str × List V)) : Prop := ∃ qs : List (Str × Addr), HasDctI P w K x (fnKV qs) ∧ ps.map (·.1) = qs.map (·.1) ∧ Paired (fun q p => KTup K q.2 p.2) qs ps
structure UseT (P : Program) (w : World) (K : PySem.W.Frag) (mg : Str → Option Value) (x : Str) (ps : List (Str × List V)) : Prop where
  ex : ∃ qs : List (Str × Addr), UseI P w K mg x (fnKV qs) ∧ ps.map (·.1) = qs.map (·.1) ∧ Paired (fun q p => KTup K q.2 p.2) qs ps
theorem HasTupD.g {P : Program} {w : World} {K : PySem.W.Frag} {mg : Str → Option Value} {h : Heap} {x : Str} {ps : List (Str × List V)} (D : HasTupD P w K x ps) (X : K.In h) (G : h.Ns mainGlobals mg) : UseT P w K mg x ps := by
  obtain ⟨qs, a, b, c⟩ := D
  exact ⟨qs, a.g X G, b, c⟩
theorem HasTupD.mk' {P : Program} {w : World} {K : PySem.W.Frag} {x : Str} {ps : List (Str × List V)} {qs : List (Str × Addr)} {a : Addr} {es : Array DictEntry} {ep : Nat} (h : PySem.W.nsIn K mainGlobals x = some (some (.ref a)))
    (b : K.lookup a = some { cls := .type "dict", data := .dict es ep }) (hs : (a == sysModules) = false) (c : TEnt w K es.toList ps qs) (nd : (ps.map (·.1)).Nodup) : HasTupD P w K x ps := by
  obtain ⟨c1, c2, c3⟩ := c.f
  exact ⟨qs, (HasDct.mkF (P := P) h b hs c1 (c2 ▸ nd)).i h b, c2, c3⟩
end LK
namespace LK
open PySem PySem.Spec PyProof.Rows L2
/-! a name of the top that is bound to a def of another name -/
def HasFnN (K : PySem.W.Frag) (x y : Str) (st : Stmt) : Prop := ∃ (f : Addr) (oc : Value) (od an : Option Addr) (kV doc pm cdv ct : Value) (osl : Array (Option Value)),
  PySem.W.nsIn K mainGlobals x = some (some (.ref f)) ∧ K.lookup f = some ⟨oc, od, .func (PySem.W.fnOf y y (defArgs st) (defBody st) (defScope st) .none kV doc pm an cdv ct), osl⟩ ∧
  PySem.W.codeIn K cdv y = true ∧ PySem.W.keepIn K (.ref f) = true
theorem HasFnN.mk' {K : PySem.W.Frag} {x y : Str} {st : Stmt} {f : Addr} {oc : Value} {od an : Option Addr} {kV doc pm cdv ct : Value} {osl : Array (Option Value)} (a : PySem.W.nsIn K mainGlobals x = some (some (.ref f)))
    (b : K.lookup f = some ⟨oc, od, .func (PySem.W.fnOf y y (defArgs st) (defBody st) (defScope st) .none kV doc pm an cdv ct), osl⟩) (c : PySem.W.codeIn K cdv y = true) (d : PySem.W.keepIn K (.ref f) = true) : HasFnN K x y st :=
  ⟨f, oc, od, an, kV, doc, pm, cdv, ct, osl, a, b, c, d⟩
theorem HasFn.n {K : PySem.W.Frag} {x : Str} {st : Stmt} (F : HasFn K x st) : HasFnN K x x st := F
section
variable {P : Program} {w : World} {K : PySem.W.Frag} {mg : Str → Option Value} {base h : Heap} {CX : CXT}
theorem mk_useY {x y : Str} {st : Stmt} {k : Nat} {ps : List Str} {sp : Sp} (F : HasFnN K x y st) (X : K.In h) (G : h.Ns mainGlobals mg)
    (hb : ∀ (kV doc pm : Value) (an : Option Addr) (cdv ct : Value) (us : List Value), us.length = ps.length → bindArgs (PySem.W.fnOf y y (defArgs st) (defBody st) (defScope st) .none kV doc pm an cdv ct) ⟨us, []⟩ = pure (ps.zip us))
    (ok : ∀ (f : Addr) (fd : FuncData), Fun K y y st f fd → FnG P w K mg base CX k f fd ps sp) : Use P w K mg base CX x k ps sp := by
  obtain ⟨f, oc, od, an, kV, doc, pm, cdv, ct, osl, e, l, c, kp⟩ := F
  have Fn := fun_mk (st := st) l c kp
  exact ⟨f, _, ok f _ Fn, PySem.W.mg_of X G e, kp, Fn.binds hb⟩
/-- defs that call one another: a promise by depth; at each depth all of them, from the depth before -/
theorem mk_useG {x y : Str} {st : Stmt} {ps : List Str} (sp : Nat → Sp) (k0 kn : Nat) (F : HasFnN K x y st) (X : K.In h) (G : h.Ns mainGlobals mg)
    (hb : ∀ (kV doc pm : Value) (an : Option Addr) (cdv ct : Value) (us : List Value), us.length = ps.length → bindArgs (PySem.W.fnOf y y (defArgs st) (defBody st) (defScope st) .none kV doc pm an cdv ct) ⟨us, []⟩ = pure (ps.zip us))
    (h0 : ∀ vs H Q E, ¬ sp 0 vs H Q E)
    (ok : ∀ (n : Nat), Use P w K mg base CX x (k0 + kn * n) ps (sp n) → ∀ (f : Addr) (fd : FuncData), Fun K y y st f fd → FnG P w K mg base CX (k0 + kn * (n + 1)) f fd ps (sp (n + 1))) : ∀ n, Use P w K mg base CX x (k0 + kn * n) ps (sp n)
  | 0 => by
    obtain ⟨f, oc, od, an, kV, doc, pm, cdv, ct, osl, e, l, c, kp⟩ := F
    have Fn := fun_mk (st := st) l c kp
    exact ⟨f, _, ⟨fun vs H Q E s => absurd s (h0 vs H Q E), fun _ _ _ _ _ _ vs Q E _ _ _ _ _ s => absurd s (h0 _ _ _ _)⟩, PySem.W.mg_of X G e, kp, Fn.binds hb⟩
  | n + 1 => mk_useY F X G hb (ok n (mk_useG sp k0 kn F X G hb h0 ok n))
end
end LK
namespace LK
open PySem PySem.Spec PyProof.Rows L2
/-! a nested tuple of the top, as data -/
def HasDat (K : PySem.W.Frag) (x : Str) (d : PyData) : Prop := ∃ a, PySem.W.nsIn K mainGlobals x = some (some (.ref a)) ∧ ∀ H, Dt K H (.ref a) d
def GDat (K : PySem.W.Frag) (mg : Str → Option Value) (x : Str) (d : PyData) : Prop := ∃ a, mg x = some (.ref a) ∧ ∀ H, Dt K H (.ref a) d
theorem HasDat.g {K : PySem.W.Frag} {mg : Str → Option Value} {h : Heap} {x : Str} {d : PyData} (i : HasDat K x d) (X : K.In h) (G : h.Ns mainGlobals mg) : GDat K mg x d := by
  obtain ⟨a, e, r⟩ := i
  exact ⟨a, PySem.W.mg_of X G e, r⟩
theorem KTup.dt {K : PySem.W.Frag} {a : Addr} {xs : List V} {ds : List PyData} (h : KTup K a xs) (H : Hp) (d : DtAll K H xs ds) : Dt K H (.ref a) (.tuple ds) := .tup (h.sq H) d
theorem HasDat.mk2 {K : PySem.W.Frag} {x s z : Str} {a b : Addr} {od od2 : Option Addr} {its its2 : Array Value} {n n2 : Nat} {sl sl2 : Array (Option Value)} (h : PySem.W.nsIn K mainGlobals x = some (some (.ref a)))
    (h1 : K.lookup a = some ⟨.type "tuple", od, .seq its n, sl⟩) (z1 : its.size ≤ sizeLine) (v1 : Vals [.str s, .ref b] its.toList) (h2 : K.lookup b = some ⟨.type "tuple", od2, .seq its2 n2, sl2⟩) (z2 : its2.size ≤ sizeLine) (v2 : Vals [.str z] its2.toList) :
    HasDat K x (.tuple [.str s, .tuple [.str z]]) :=
  ⟨a, h, fun H => KTup.dt ⟨_, _, _, _, h1, z1, v1⟩ H (.cons (.str _) (.cons (KTup.dt ⟨_, _, _, _, h2, z2, v2⟩ H (.cons (.str _) .nil)) .nil))⟩
def tGD (K : PySem.W.Frag) (d : PyData) : TE := fun _ H Q => ∀ v, (∀ H, Dt K H v d) → Q v H
theorem pe_globD {X : Cx} {x : Str} {pos : Pos} {d : PyData} (h : GDat X.K X.mg x d) (hg : Gl X x) (hd : (x == ("__debug__" : Str)) = false := by decide) : PE X (.Name x pos) (tGD X.K d) := by
  obtain ⟨a, e, r⟩ := h
  exact ⟨fun pins s σ H Q I q => (pe_glob (v := .ref a) hg e rfl hd).run pins s σ H Q I (q (.ref a) r)⟩
end LK

set_option linter.all false
namespace LK
section
open PySem PySem.Spec PyProof.Rows L2
theorem FnG.up {P : Program} {w : World} {K : PySem.W.Frag} {mg : Str → Option Value} {base : Heap} {CX : CXT} {k k' : Nat} {f : Addr} {fd : FuncData} {ps : List Str} {sp : Sp} (F : FnG P w K mg base CX k f fd ps sp) (h : k ≤ k') : FnG P w K mg base CX k' f fd ps sp :=
  ⟨F.len, fun A outer s H args us vs Q E hr => F.run A outer s H args us vs Q E (hr.mono h)⟩
theorem Use.up {P : Program} {w : World} {K : PySem.W.Frag} {mg : Str → Option Value} {base : Heap} {CX : CXT} {k k' : Nat} {x : Str} {ps : List Str} {sp : Sp} (U : Use P w K mg base CX x k ps sp) (h : k ≤ k') : Use P w K mg base CX x k' ps sp := by
  obtain ⟨f, fd, F, r⟩ := U.ex
  exact ⟨f, fd, F.up h, r⟩
theorem HasDctI.mkF' {P : Program} {w : World} {K : PySem.W.Frag} {x : Str} {qs : List (Str × Addr)} {a : Addr} {es : Array DictEntry} {ep : Nat} (h : PySem.W.nsIn K mainGlobals x = some (some (.ref a)))
    (b : K.lookup a = some { cls := .type "dict", data := .dict es ep }) (hs : (a == sysModules) = false) (c : FEnt w es.toList qs) (nd : (qs.map (·.1)).Nodup) : HasDctI P w K x (fnKV qs) :=
  (HasDct.mkF (P := P) h b hs c nd).i h b
end
end LK

set_option Elab.async false
set_option linter.all false
set_option maxRecDepth 100000
set_option maxHeartbeats 4000000
/-! list(reversed(x)) of a tuple -/
namespace LK
open PySem PySem.Spec PyProof.Rows L2 SX
theorem nolen_rt : typeLookup (.type "reversed") "__len__" = pure none := by rw [typeLookup_type, builtinLookup_eq_fast]; kernel_rfl
theorem slot_rt_hint : Slot "reversed" "__length_hint__" "reversed.__length_hint__" :=
  .of (owner := "reversed") (n := "__length_hint__") (by rw [typeLookup_type, builtinLookup_eq_fast]; kernel_rfl) (by decide +kernel) (by decide +kernel) (by decide +kernel)
    (by first | exact .inl (by decide +kernel) | exact .inr (by decide +kernel)) (by rw [isSubtype_type]; kernel_rfl)
theorem entry_rt_hint : entryFor table "reversed.__length_hint__" = some Builtin.«reversed.__length_hint__» := entryFor_of_tree (by kernel_rfl)
theorem args_rt_hint (a : Value) : argsOk "reversed.__length_hint__" ⟨[a], []⟩ := by
  unfold argsOk; rw [signature?_of (id := "reversed.__length_hint__") (n := ['_', '_', 't', 'n', 'i', 'h', '_', 'h', 't', 'g', 'n', 'e', 'l', '_', '_']) (o := ['d', 'e', 's', 'r', 'e', 'v', 'e', 'r']) (by kernel_rfl) RT.owner_rt]; kernel_rfl
section
variable {prog : Program} {w : World} {A : Around} {E : Value → Shared → Prop} {s : Shared}
theorem hint_rt {it t : Addr} {items : Array Value} {Q : Bool → Shared → Prop} (hit : RT.IsRt s.heap it t ((items.size : Int) - 1)) (ht : IsTup s.heap t items) (hn : items.size ≤ sizeLine)
    (hQ : ∀ b tk, Q b { s with toks := tk }) : wpAny (model prog w) A (Builtin.List.listLengthHint (.ref it)) Q E s := by
  have hT : s.TypeIs (.ref it) "reversed" := hit.typeIs
  obtain ⟨o, ho, hc, hd⟩ := id hit
  unfold Builtin.List.listLengthHint
  refine wpAny_bind (wpAny_specialOf hT nolen_rt ?_)
  show wpAny _ _ (specialOf (Value.ref it) (Str.ofString "__length_hint__") >>= _) _ _ _
  refine wpAny_bind (wpAny_specialOf hT slot_rt_hint.lookup ?_)
  generalize hid : ("reversed.__length_hint__" : String) = id0
  wp_delta
  rw [show splitId id0 = some ("reversed", "__length_hint__") from by subst hid; decide +kernel]
  subst hid
  refine wpAny_bind (wpAny_isInstance (b := true) hT (by rw [isSubtype_type]; kernel_rfl) ?_)
  rw [if_neg (by decide)]
  rw [if_neg (by decide +kernel)]
  refine wpAny_bind (wpAny_rule ?_)
  refine wpAny_bind (wpAny_of_eq (slot_rt_hint.bind (.ref it)) ?_)
  refine wpAny_bind (wpAny_attempt (wpAny_call_entry slot_rt_hint hT entry_rt_hint ?_ (args_rt_hint _)))
  unfold Builtin.«reversed.__length_hint__»
  refine wpAny_bind (wpAny_of_eq (a := Value.ref it) rfl ?_)
  refine wpAny_bind (wpAny_field ho hd (x := .ref t) rfl ?_)
  rw [if_neg (show ¬ ((Value.ref t == Value.none) = true) from Bool.false_ne_true)]
  refine wpAny_bind (len_tuple ht (by rw [sizeLine_eq] at hn; omega) ?_)
  refine wpAny_bind (wpAny_of_eq (a := some ((items.size : Nat) : Int)) rfl ?_)
  refine wpAny_bind (wpAny_field (s := { s with toks := s.toks + 1 + 1 }) ho hd (x := rawInt ((items.size : Int) - 1)) rfl ?_)
  show wpAny _ _ (if ((items.size : Nat) : Int) < (items.size : Int) - 1 + 1 then _ else _) _ _ _
  rw [if_neg (by omega)]
  have e1 : (items.size : Int) - 1 + 1 = ((items.size : Nat) : Int) := by omega
  rw [e1]
  have hz := hn
  rw [sizeLine_eq] at hz
  unfold retInt
  refine wpAny_bind (wpAny_mkInt ?_)
  refine wpAny_pure ⟨_, rfl, ?_⟩
  dsimp only
  have f0 : ¬ (((items.size : Nat) : Int) < 0) := Int.not_lt.mpr (Int.natCast_nonneg _)
  have f1 : Builtin.List.listFitsIndex ((items.size : Nat) : Int) = true := by
    unfold Builtin.List.listFitsIndex
    rw [Bool.and_eq_true]
    exact ⟨decide_eq_true (by omega), decide_eq_true (by omega)⟩
  have f2 : Builtin.List.listTooLong ((items.size : Nat) : Int).toNat = false := by
    unfold Builtin.List.listTooLong
    rw [Int.toNat_natCast]
    exact decide_eq_false (Nat.not_lt.mpr hn)
  have f3 : ∀ tk, asInt? (Value.int ((items.size : Nat) : Int) tk) = pure (some ((items.size : Nat) : Int)) := fun _ => rfl
  generalize ((items.size : Nat) : Int) = N at f0 f1 f2 f3 ⊢
  rw [f3]
  refine wpAny_bind (wpAny_pure ?_)
  dsimp only
  rw [f1, if_neg (show ¬ ((!true) = true) by decide), if_neg f0, f2, if_neg Bool.false_ne_true]
  exact wpAny_pure (hQ _ _)
theorem walks_rt {t it : Addr} {items : Array Value} (hh : A.handled = none) (hne : t ≠ it) (hn : items.size ≤ sizeLine) :
    Walks prog w A it [it, t] [it] items.size (fun i v => items[items.size - 1 - i]? = some v) (fun i h => i ≤ items.size ∧ RT.IsRt h it t ((items.size : Int) - 1 - (i : Nat)) ∧ IsTup h t items) where
  sub := fun b hb => by rw [List.mem_singleton.mp hb]; simp
  frame := fun i h h' st hk => ⟨st.1, st.2.1.at fun o e => hk it (by simp) o e, let ⟨o, ho, r⟩ := st.2.2; ⟨o, hk t (by simp) o ho, r⟩⟩
  item := fun i s Q E hi st hQ => by
    have e1 : (items.size : Int) - 1 - ((i : Nat) : Int) = ((items.size - 1 - i : Nat) : Int) := by omega
    have st2 := st.2.1
    rw [e1] at st2
    have hx : items[items.size - 1 - i]? = some (items[items.size - 1 - i]'(by omega)) := Array.getElem?_eq_getElem (by omega)
    refine RT.next_rt_item st2 st.2.2 hx hn fun h' hit' sb => ?_
    have e2 : ((items.size - 1 - i : Nat) : Int) - 1 = (items.size : Int) - 1 - ((i + 1 : Nat) : Int) := by omega
    rw [e2] at hit'
    exact hQ _ h' _ hx ⟨hi, hit', let ⟨o, ho, r⟩ := st.2.2; ⟨o, (sb.2 t hne).trans ho, r⟩⟩ fun b o hb e => (sb.2 b (fun h => hb (by simp [h]))).trans e
  done := fun s Q E st hQ => by
    have st2 := st.2.1
    rw [show (items.size : Int) - 1 - ((items.size : Nat) : Int) = -1 by omega] at st2
    exact RT.next_rt_end hh st2 fun h' he => hQ h' s.toks fun b o hb e => he b o (fun h => hb (by simp [h])) e
  self := fun i s Q E st h => RT.iter_rt st.2.1 h
theorem extend_rt {R : Result → Shared → Prop} {it t S : Addr} {items : Array Value} (res : Value) (c₀ : Nat) (hh : A.handled = none) (hit : RT.IsRt s.heap it t ((items.size : Int) - 1)) (ht : IsTup s.heap t items) (hne : t ≠ it) (hn : items.size ≤ sizeLine) (hSi : S ≠ it) (hSt : S ≠ t)
    (hS : s.heap.get? S = some { cls := .type "list", data := .seq #[] c₀ })
    (hR : ∀ h' tk acc' c', (∀ b o, b ≠ S → b ≠ it → s.heap.get? b = some o → h'.get? b = some o) → h'.get? S = some { cls := .type "list", dict := none, data := .seq acc' c', slots := #[] } → ItemsOf (fun i v => items[items.size - 1 - i]? = some v) acc' items.size → R (.ok (.ret res)) { s with heap := h', toks := tk }) :
    wpAny (model prog w) A.in1 (Builtin.List.listExtendWith (.ref S) (.ref it) res)
      (fun fin s' => match fin with | .done f => R (.ok f) s' | .again c' => c'.quiet = true ∧ codeAny (model prog w) A c' R s') (fun e s' => R (.error e) s') s := by
  have W := walks_rt (prog := prog) (w := w) (A := A.in1) (items := items) hh hne hn
  have hSf : S ∉ [it, t] := by simp only [List.mem_cons, List.not_mem_nil, or_false, not_or]; exact ⟨hSi, hSt⟩
  have key : ∀ (h : Heap) (c₁ tk : Nat), (∀ b o, b ≠ S → s.heap.get? b = some o → h.get? b = some o) →
      h.get? S = some { cls := .type "list", data := .seq #[] c₁ } → codeAny (model prog w) A (.builtin "list.extend.loop" ⟨[.ref S, .ref it, res], []⟩) R { s with heap := h, toks := tk } := by
    intro h c₁ tk hk hS₁
    have hst : (fun (i : Nat) (h : Heap) => i ≤ items.size ∧ RT.IsRt h it t ((items.size : Int) - 1 - (i : Nat)) ∧ IsTup h t items) 0 h :=
      ⟨Nat.zero_le _, by rw [show (items.size : Int) - 1 - ((0 : Nat) : Int) = (items.size : Int) - 1 by omega]; exact hit.at fun o e => hk it o (Ne.symm hSi) e, let ⟨o, ho, r⟩ := ht; ⟨o, hk t o (Ne.symm hSt) ho, r⟩⟩
    refine codeAny_extend_loopS W.toS hn S hSf res items.size 0 _ #[] c₁ rfl (Nat.zero_le _) hst hS₁ (ItemsOf.nil _) fun s' acc' c' hm hS' hacc => ?_
    rw [Moved.eq_with hm]
    refine hR s'.heap s'.toks acc' c' (fun b o hb hb2 e => hm.heap b o (fun hmem => ?_) (hk b o hb e)) hS' hacc
    rcases List.mem_cons.mp hmem with e' | hmem
    · exact hb e'
    · exact hb2 (List.mem_singleton.mp hmem)
  have hT : s.TypeIs (.ref it) "reversed" := hit.typeIs
  have h1 : Builtin.List.listSameRef (.ref S) (.ref it) = false := by simp [Builtin.List.listSameRef, hSi]
  unfold Builtin.List.listExtendWith
  refine wpAny_bind (wpAny_typeOf hT ?_)
  rw [if_neg (by rw [h1]; decide)]
  refine wpAny_bind (RT.iter_rt hit ?_)
  refine wpAny_bind (wpAny_holding (hint_rt hit ht hn fun b tk => ?_))
  refine wpAny_ite_split (fun _ => ?_) (fun _ => wpAny_pure ⟨plainId_quiet PySem.F.plain_extend_loop _, key _ c₀ _ (fun b o _ e => e) hS⟩)
  refine wpAny_bind (wpAny_rule ?_)
  refine wpAny_bind ?_
  show wpAny _ _ (updateSeq S (·.push .none) >>= fun _ => updateSeq S (·.pop)) _ _ _
  refine wpAny_bind (wpAny_updateSeq (s := { s with toks := tk }) hS rfl ?_)
  have hS₂ := Heap.get?_update_self (Obj.mapSeq (·.push Value.none)) hS rfl
  refine wpAny_updateSeq (hz := by seq_fits) hS₂ rfl ?_
  have hS₃ := Heap.get?_update_self (Obj.mapSeq (·.pop)) hS₂ rfl
  refine wpAny_pure ⟨plainId_quiet PySem.F.plain_extend_loop _, key _ _ _ (fun b o hb e => ?_) hS₃⟩
  exact (Heap.get?_update_other _ _ (Ne.symm hb)).trans ((Heap.get?_update_other _ _ (Ne.symm hb)).trans e)
theorem call_listRt {it t : Addr} {items : Array Value} {Q : Value → Shared → Prop} (hh : A.handled = none) (hit : RT.IsRt s.heap it t ((items.size : Int) - 1)) (ht : IsTup s.heap t items) (hne : t ≠ it) (hn : items.size ≤ sizeLine)
    (hQ : ∀ h' tk acc' c', (∀ b o, b ≠ it → s.heap.get? b = some o → h'.get? b = some o) → h'.get? s.heap.objs.size = some { cls := .type "list", dict := none, data := .seq acc' c', slots := #[] } → ItemsOf (fun i v => items[items.size - 1 - i]? = some v) acc' items.size → Q (.ref s.heap.objs.size) { s with heap := h', toks := tk }) :
    wpAny (model prog w) A (call (.type "list") [.ref it]) Q E s := by
  refine callType_codes (Q₁ := fun obj s₁ => obj = .ref s.heap.objs.size ∧ s₁ = { s with heap := s.heap.push { cls := .type "list", data := .seq #[] } }) PySem.F.called_list (PySem.F.typeCall_list_1 _) PySem.F.entry_list_init
    (code_list_new _ ⟨rfl, rfl⟩) fun obj s₁ h₁ => ?_
  obtain ⟨rfl, rfl⟩ := h₁
  have hS : (s.heap.push { cls := .type "list", data := .seq #[] }).get? s.heap.objs.size = some { cls := .type "list", data := .seq #[] } := Heap.get?_push_size _ rfl
  have li : it < s.heap.objs.size := let ⟨_, e, _⟩ := hit; Heap.lt_size e
  have lt : t < s.heap.objs.size := let ⟨_, e, _⟩ := ht; Heap.lt_size e
  refine ⟨⟨_, hS, rfl⟩, PySem.F.args_list_init_2 _ _, ?_⟩
  show wpAny _ _ (do let old ← Builtin.List.listItems (.ref s.heap.objs.size); Builtin.List.listUpdate (.ref s.heap.objs.size) (fun _ => #[]); letGo old.toList.reverse; Builtin.List.listExtendWith (.ref s.heap.objs.size) (.ref it) .none) _ _ _
  refine wpAny_bind ?_
  unfold Builtin.List.listItems
  refine wpAny_bind (wpAny_seqItems hS rfl (wpAny_pure ?_))
  show wpAny _ _ (updateSeq s.heap.objs.size (fun _ => #[]) >>= fun _ => letGo (#[] : Array Value).toList.reverse >>= fun _ => Builtin.List.listExtendWith (.ref s.heap.objs.size) (.ref it) .none) _ _ _
  refine wpAny_bind (wpAny_updateSeq hS rfl ?_)
  have hS₂ := Heap.get?_update_self (Obj.mapSeq (fun _ => (#[] : Array Value))) hS rfl
  have oth : ∀ b o, b ≠ s.heap.objs.size → s.heap.get? b = some o → ((s.heap.push { cls := .type "list", data := .seq #[] }).update s.heap.objs.size (Obj.mapSeq (fun _ => (#[] : Array Value)))).get? b = some o :=
    fun b o hb e => (Heap.get?_update_other _ _ (Ne.symm hb)).trans (Heap.get?_push_of_some _ e)
  refine wpAny_bind (wpAny_letGo ?_)
  refine extend_rt (A := A.in1) .none _ hh (hit.at fun o e => oth it o (Nat.ne_of_lt li) e) (let ⟨o, ho, r⟩ := ht; ⟨o, oth t o (Nat.ne_of_lt lt) ho, r⟩) hne hn (Nat.ne_of_gt li) (Nat.ne_of_gt lt) hS₂ fun h' tk acc' c' hk hS' hacc => ?_
  exact ⟨rfl, hQ h' tk acc' c' (fun b o hb e => hk b o (Nat.ne_of_lt (Heap.lt_size e)) hb (oth b o (Nat.ne_of_lt (Heap.lt_size e)) e)) hS' hacc⟩
end
def tListRev (K : PySem.W.Frag) (te : TE) : TE := fun σ H Q => te σ H fun v H1 => ∃ (a : Addr) (xs : List V), v = .ref a ∧ SqT K H1 a xs ∧ ∀ q, H1 q = none → Q (.ref q) (L2.upd H1 q (.lst xs.reverse))
theorem pe_listRevT {X : Cx} {e : Expr} {te : TE} {p p2 pos pos2 : Pos} (hc : X.calm = true) (hg : Gl X "list") (hm : X.mg "list" = none) (hg2 : Gl X "reversed") (hm2 : X.mg "reversed" = none) (he : PE X e te)
    (hs : starEach [e] X.env = (false, eval e X.env) :: starEach [] X.env := by rfl)
    (hs2 : starEach [.Call (.Name "reversed" p2) [e] [] pos2] X.env = (false, eval (.Call (.Name "reversed" p2) [e] [] pos2) X.env) :: starEach [] X.env := by rfl) :
    PE X (.Call (.Name "list" p) [.Call (.Name "reversed" p2) [e] [] pos2] [] pos) (tListRev X.K te) := by
  refine ⟨fun pins s σ H Q I h => ?_⟩
  refine Call_ (ld_blt I hg hm PyProof.Rows.boot_list (PyProof.Rows.callWith_type1 (args_cons (Call_ (ld_blt I hg2 hm2 PyProof.Rows.boot_reversed (PyProof.Rows.callWith_type1 (args_cons (thn (he.run pins s σ H _ I h) fun u s1 ⟨v, H1, I1, r1, q1⟩ => args_nil ?_) hs) hs rfl))) hs2) hs2 rfl))
  obtain ⟨a, xs, ev, hq, q⟩ := q1
  subst ev
  obtain rfl : u = Value.ref a := r1
  obtain ⟨its, rv, p', hz⟩ := I1.tuple hq
  have hn : its.toArray.size ≤ sizeLine := by rw [List.size_toArray, ← rv.length]; exact hz
  refine RT.call_reversed_tup p' (fun A E Q k => len_tuple p' (by rw [sizeLine_eq] at hn; omega) k) (args_nil ?_)
  have k0 : ∀ b o, s1.heap.get? b = some o → (s1.heap.push (RT.rtObj a ((its.toArray.size : Int) - 1))).get? b = some o := fun b o e => Heap.get?_push_of_some _ e
  have I2 : Inv X pins σ H1 { s1 with heap := s1.heap.push (RT.rtObj a ((its.toArray.size : Int) - 1)), toks := s1.toks + 1 + 1 } := I1.kept (t' := s1.toks + 1 + 1) k0
  obtain ⟨f0, f1, f2, f3, f4, f5⟩ := I1.fpOk (H' := H1) (b := s1.heap.objs.size) (Nat.le_refl _) (I1.hok.fresh (Nat.le_refl _))
  obtain ⟨oa, hoa, _⟩ := id p'
  have hne : a ≠ s1.heap.objs.size := Nat.ne_of_lt (Heap.lt_size hoa)
  refine call_listRt (s := { s1 with heap := s1.heap.push (RT.rtObj a ((its.toArray.size : Int) - 1)), toks := s1.toks + 1 + 1 }) (I1.ok.hd hc) ⟨_, Heap.get?_push_size _ rfl, rfl, rfl⟩ (p'.keeps k0) hne hn fun h' tk acc c hk hS' hi => ?_
  have szp : (s1.heap.push (RT.rtObj a ((its.toArray.size : Int) - 1))).objs.size = s1.heap.objs.size + 1 := Heap.size_push ..
  have kk : ∀ b o, s1.heap.get? b = some o → h'.get? b = some o := fun b o e => hk b o (Nat.ne_of_lt (Heap.lt_size e)) (k0 b o e)
  have le : s1.heap.objs.size ≤ (s1.heap.push (RT.rtObj a ((its.toArray.size : Int) - 1))).objs.size := by rw [szp]; exact Nat.le_succ _
  refine ⟨.ref (s1.heap.push (RT.rtObj a ((its.toArray.size : Int) - 1))).objs.size, L2.upd H1 _ (.lst xs.reverse), I1.laid (t' := tk) kk le (show ObjOk X.prog X.w _ _ _ (.lst xs.reverse) from ⟨by rw [List.length_reverse]; exact hz, acc.toList, c, RT.vals_rev rv hi, ?_⟩), rfl, q _ (I1.hok.fresh le)⟩
  rw [Array.toArray_toList]
  exact hS'
end LK

set_option Elab.async false
set_option linter.all false
set_option maxRecDepth 100000
set_option maxHeartbeats 4000000
/-! list(reversed(x)) of a list -/
namespace LK
open PySem PySem.Spec PyProof.Rows L2 SX
section
variable {prog : Program} {w : World} {A : Around} {E : Value → Shared → Prop} {s : Shared}
theorem extend_lr {R : Result → Shared → Prop} {it t S : Addr} {items : Array Value} (res : Value) (c₀ : Nat) (hh : A.handled = none) (hit : s.heap.IsRevIter it t ((items.size : Int) - 1)) (ht : s.heap.IsList t items) (hne : t ≠ it) (hn : items.size ≤ sizeLine) (hSi : S ≠ it) (hSt : S ≠ t)
    (hS : s.heap.get? S = some { cls := .type "list", data := .seq #[] c₀ })
    (hR : ∀ h' tk acc' c', (∀ b o, b ≠ S → b ≠ it → s.heap.get? b = some o → h'.get? b = some o) → h'.get? S = some { cls := .type "list", dict := none, data := .seq acc' c', slots := #[] } → ItemsOf (fun i v => items[items.size - 1 - i]? = some v) acc' items.size → R (.ok (.ret res)) { s with heap := h', toks := tk }) :
    wpAny (model prog w) A.in1 (Builtin.List.listExtendWith (.ref S) (.ref it) res)
      (fun fin s' => match fin with | .done f => R (.ok f) s' | .again c' => c'.quiet = true ∧ codeAny (model prog w) A c' R s') (fun e s' => R (.error e) s') s := by
  have W := (Walks.listRev (prog := prog) (w := w) (A := A.in1) hh it t hne items).toS
  have hSf : S ∉ [it, t] := by simp only [List.mem_cons, List.not_mem_nil, or_false, not_or]; exact ⟨hSi, hSt⟩
  have hT : s.TypeIs (.ref it) "list_reverseiterator" := hit.typeIs
  have h1 : Builtin.List.listSameRef (.ref S) (.ref it) = false := by simp [Builtin.List.listSameRef, hSi]
  unfold Builtin.List.listExtendWith
  refine wpAny_bind (wpAny_typeOf hT ?_)
  rw [if_neg (by rw [h1]; decide)]
  refine wpAny_bind (wpAny_pyIter_revIter hit ?_)
  refine wpAny_bind (wpAny_holding ?_)
  unfold Builtin.List.listLengthHint
  refine wpAny_bind (wpAny_specialOf hT RT.nolen_lri ?_)
  show wpAny _ A.in1 (specialOf (Value.ref it) (Str.ofString "__length_hint__") >>= _) _ _ _
  refine wpAny_bind (wpAny_specialOf hT RT.hint_lri ?_)
  generalize hid : ("list_reverseiterator.__length_hint__" : String) = id0
  wp_delta
  rw [show splitId id0 = some ("list_reverseiterator", "__length_hint__") from by subst hid; decide +kernel]
  subst hid
  refine wpAny_bind (wpAny_isInstance (b := true) hT (by rw [isSubtype_type]; kernel_rfl) ?_)
  refine wpAny_pure ?_
  rw [if_neg (by decide)]
  have e0 : ((items.size : Nat) : Int) - 1 - ((0 : Nat) : Int) = (items.size : Int) - 1 := by omega
  refine wpAny_pure ⟨plainId_quiet PySem.F.plain_extend_loop _, codeAny_extend_loopS W hn S hSf res items.size 0 _ _ _ rfl (Nat.zero_le _) ⟨Nat.zero_le _, by rw [e0]; exact hit, ht⟩ hS (ItemsOf.nil _) fun s' acc' c' hm hS' hacc => ?_⟩
  rw [Moved.eq_with hm]
  refine hR s'.heap s'.toks acc' c' (fun b o hb hb2 e => hm.heap b o (fun hmem => ?_) e) hS' hacc
  rcases List.mem_cons.mp hmem with e' | hmem
  · exact hb e'
  · exact hb2 (List.mem_singleton.mp hmem)
theorem call_listLr {it t : Addr} {items : Array Value} {Q : Value → Shared → Prop} (hh : A.handled = none) (hit : s.heap.IsRevIter it t ((items.size : Int) - 1)) (ht : s.heap.IsList t items) (hne : t ≠ it) (hn : items.size ≤ sizeLine)
    (hQ : ∀ h' tk acc' c', (∀ b o, b ≠ it → s.heap.get? b = some o → h'.get? b = some o) → h'.get? s.heap.objs.size = some { cls := .type "list", dict := none, data := .seq acc' c', slots := #[] } → ItemsOf (fun i v => items[items.size - 1 - i]? = some v) acc' items.size → Q (.ref s.heap.objs.size) { s with heap := h', toks := tk }) :
    wpAny (model prog w) A (call (.type "list") [.ref it]) Q E s := by
  refine callType_codes (Q₁ := fun obj s₁ => obj = .ref s.heap.objs.size ∧ s₁ = { s with heap := s.heap.push { cls := .type "list", data := .seq #[] } }) PySem.F.called_list (PySem.F.typeCall_list_1 _) PySem.F.entry_list_init
    (code_list_new _ ⟨rfl, rfl⟩) fun obj s₁ h₁ => ?_
  obtain ⟨rfl, rfl⟩ := h₁
  have hS : (s.heap.push { cls := .type "list", data := .seq #[] }).get? s.heap.objs.size = some { cls := .type "list", data := .seq #[] } := Heap.get?_push_size _ rfl
  have li : it < s.heap.objs.size := let ⟨_, e, _⟩ := hit; Heap.lt_size e
  have lt : t < s.heap.objs.size := let ⟨_, e, _⟩ := id ht; Heap.lt_size e
  refine ⟨⟨_, hS, rfl⟩, PySem.F.args_list_init_2 _ _, ?_⟩
  show wpAny _ _ (do let old ← Builtin.List.listItems (.ref s.heap.objs.size); Builtin.List.listUpdate (.ref s.heap.objs.size) (fun _ => #[]); letGo old.toList.reverse; Builtin.List.listExtendWith (.ref s.heap.objs.size) (.ref it) .none) _ _ _
  refine wpAny_bind ?_
  unfold Builtin.List.listItems
  refine wpAny_bind (wpAny_seqItems hS rfl (wpAny_pure ?_))
  show wpAny _ _ (updateSeq s.heap.objs.size (fun _ => #[]) >>= fun _ => letGo (#[] : Array Value).toList.reverse >>= fun _ => Builtin.List.listExtendWith (.ref s.heap.objs.size) (.ref it) .none) _ _ _
  refine wpAny_bind (wpAny_updateSeq hS rfl ?_)
  have hS₂ := Heap.get?_update_self (Obj.mapSeq (fun _ => (#[] : Array Value))) hS rfl
  have oth : ∀ b o, b ≠ s.heap.objs.size → s.heap.get? b = some o → ((s.heap.push { cls := .type "list", data := .seq #[] }).update s.heap.objs.size (Obj.mapSeq (fun _ => (#[] : Array Value)))).get? b = some o :=
    fun b o hb e => (Heap.get?_update_other _ _ (Ne.symm hb)).trans (Heap.get?_push_of_some _ e)
  refine wpAny_bind (wpAny_letGo ?_)
  refine extend_lr (A := A.in1) .none _ hh (hit.at fun o e => oth it o (Nat.ne_of_lt li) e) (let ⟨o, ho, r⟩ := ht; ⟨o, oth t o (Nat.ne_of_lt lt) ho, r⟩) hne hn (Nat.ne_of_gt li) (Nat.ne_of_gt lt) hS₂ fun h' tk acc' c' hk hS' hacc => ?_
  exact ⟨rfl, hQ h' tk acc' c' (fun b o hb e => hk b o (Nat.ne_of_lt (Heap.lt_size e)) hb (oth b o (Nat.ne_of_lt (Heap.lt_size e)) e)) hS' hacc⟩
end
def tListRevL (K : PySem.W.Frag) (te : TE) : TE := fun σ H Q => te σ H fun v H1 => ∃ (a : Addr) (xs : List V), v = .ref a ∧ SqL K H1 a xs ∧ ∀ q, H1 q = none → Q (.ref q) (L2.upd H1 q (.lst xs.reverse))
theorem pe_listRevL {X : Cx} {e : Expr} {te : TE} {p p2 pos pos2 : Pos} (hc : X.calm = true) (hg : Gl X "list") (hm : X.mg "list" = none) (hg2 : Gl X "reversed") (hm2 : X.mg "reversed" = none) (he : PE X e te)
    (hs : starEach [e] X.env = (false, eval e X.env) :: starEach [] X.env := by rfl)
    (hs2 : starEach [.Call (.Name "reversed" p2) [e] [] pos2] X.env = (false, eval (.Call (.Name "reversed" p2) [e] [] pos2) X.env) :: starEach [] X.env := by rfl) :
    PE X (.Call (.Name "list" p) [.Call (.Name "reversed" p2) [e] [] pos2] [] pos) (tListRevL X.K te) := by
  refine ⟨fun pins s σ H Q I h => ?_⟩
  refine Call_ (ld_blt I hg hm PyProof.Rows.boot_list (PyProof.Rows.callWith_type1 (args_cons (Call_ (ld_blt I hg2 hm2 PyProof.Rows.boot_reversed (PyProof.Rows.callWith_type1 (args_cons (thn (he.run pins s σ H _ I h) fun u s1 ⟨v, H1, I1, r1, q1⟩ => args_nil ?_) hs) hs rfl))) hs2) hs2 rfl))
  obtain ⟨a, xs, ev, hq, q⟩ := q1
  subst ev
  obtain rfl : u = Value.ref a := r1
  obtain ⟨its, rv, p', hz⟩ := I1.list hq
  refine call_reversed_list p'.isList (args_nil ?_)
  have k0 : ∀ b o, s1.heap.get? b = some o → (s1.heap.push (revObj a ((its.toArray.size : Int) - 1))).get? b = some o := fun b o e => Heap.get?_push_of_some _ e
  have hl := p'.isList
  obtain ⟨ol, hol, _⟩ := id hl
  have hne : a ≠ s1.heap.objs.size := Nat.ne_of_lt (Heap.lt_size hol)
  have hn : its.toArray.size ≤ sizeLine := by rw [List.size_toArray, ← rv.length]; exact hz
  refine call_listLr (s := { s1 with heap := s1.heap.push (revObj a ((its.toArray.size : Int) - 1)) }) (I1.ok.hd hc) ⟨_, Heap.get?_push_size _ rfl, rfl, rfl⟩ (hl.push _) hne hn fun h' tk acc c hk hS' hi => ?_
  have szp : (s1.heap.push (revObj a ((its.toArray.size : Int) - 1))).objs.size = s1.heap.objs.size + 1 := Heap.size_push ..
  have kk : ∀ b o, s1.heap.get? b = some o → h'.get? b = some o := fun b o e => hk b o (Nat.ne_of_lt (Heap.lt_size e)) (k0 b o e)
  have le : s1.heap.objs.size ≤ (s1.heap.push (revObj a ((its.toArray.size : Int) - 1))).objs.size := by rw [szp]; exact Nat.le_succ _
  refine ⟨.ref (s1.heap.push (revObj a ((its.toArray.size : Int) - 1))).objs.size, L2.upd H1 _ (.lst xs.reverse), I1.laid (t' := tk) kk le (show ObjOk X.prog X.w _ _ _ (.lst xs.reverse) from ⟨by rw [List.length_reverse]; exact hz, acc.toList, c, RT.vals_rev rv hi, ?_⟩), rfl, q _ (I1.hok.fresh le)⟩
  rw [Array.toArray_toList]
  exact hS'
end LK

set_option linter.all false
namespace LK
open PySem PySem.Spec PyProof.Rows L2
/-- str of a whole number or a boolean -/
inductive StrOf : V → Str → Prop
  | int {i : Int} : i.natAbs.log2 < 1920 → StrOf (.int i) (toString i)
  | bl {b : Bool} : StrOf (.bl b) (if b = true then "True" else "False")
theorem call_strBI {X : Cx} : CallR X (.type "str") (fun xs H Q => ∃ v z, xs = [v] ∧ StrOf v z ∧ Q (.str z) H) := by
  intro pins s σ H xs us Q I r h
  obtain ⟨v, z, rfl, hz, q⟩ := h
  cases hz with
  | int hl =>
    obtain ⟨u, rfl, t, rfl⟩ := vals1 r
    exact PySem.P.str_of_int hl ⟨.str _, H, I.tok _, ⟨_, rfl⟩, q⟩
  | bl =>
    obtain ⟨u, rfl, r1⟩ := vals1 r
    cases r1
    rename_i b
    cases b <;> exact PySem.P.str_of_bool ⟨.str _, H, I.tok _, ⟨_, rfl⟩, q⟩
/-- x += text -/
theorem ip_add_str {X : Cx} : PIp X .Add (fun x y H Q => ∃ i j, x = .str i ∧ y = .str j ∧ i.length + j.length ≤ sizeLine ∧ Q (.str (i ++ j)) H) := fun pins s σ H x y v u Q I r1 r2 h => iop_add_str pins s σ H x y v u Q I r1 r2 h
end LK

set_option Elab.async false
set_option linter.all false
set_option maxRecDepth 100000
/-! generators are never taken away -/
namespace GM
open PySem
theorem set_size (s : Shared) (g : Nat) (x : GenState) : (s.setGen g x).gens.size = s.gens.size := by simp [Shared.setGen]
theorem runs_le {M : Model} {Γ : Ctx} {p : Pos} {t : Sem Fin} {fs : List Frame} {s s' : Shared} {e : End} (h : Runs M Γ p t fs s e s') : s.gens.size ≤ s'.gens.size := by
  induction h <;> (try simp only [set_size, Array.size_push] at *) <;> omega
theorem returns_le {M : Model} {Γ : Ctx} {p : Pos} {s s' : Shared} {r : Result} (h : Returns M Γ p s r s') : s.gens.size ≤ s'.gens.size := runs_le h
theorem wakes_le {M : Model} {Γ : Ctx} {p : Pos} {g : Nat} {r : Resume} {s s' : Shared} {res : GenResult} (h : Wakes M Γ p g r s res s') : s.gens.size ≤ s'.gens.size := by
  unfold Wakes at h
  split at h
  · exact h.elim
  · split at h
    · obtain ⟨e₁, s₁, hr, _, _, rfl⟩ := h
      have := runs_le hr
      simp only [set_size] at *
      omega
    · first | (rw [h.2, set_size]; exact Nat.le_refl _) | (rw [h.2]; exact Nat.le_refl _)
    · first | (rw [h.2, set_size]; exact Nat.le_refl _) | (rw [h.2]; exact Nat.le_refl _)
  · obtain ⟨e₁, s₁, hr, _, _, rfl⟩ := h
    have := runs_le hr
    simp only [set_size] at *
    omega
  · first | (rw [h.2, set_size]; exact Nat.le_refl _) | (rw [h.2]; exact Nat.le_refl _)
  · first | (rw [h.2, set_size]; exact Nat.le_refl _) | (rw [h.2]; exact Nat.le_refl _)
theorem wp_le {α : Type} (M : Model) (Γ : Ctx) (n : Nat) (t : Sem α) : ∀ (Q : α → Pos → Shared → Prop) (E : Value → Pos → Shared → Prop) (p : Pos) (s : Shared), n ≤ s.gens.size → Sem.wp M Γ t Q E p s →
    Sem.wp M Γ t (fun a p' s' => n ≤ s'.gens.size ∧ Q a p' s') (fun e p' s' => n ≤ s'.gens.size ∧ E e p' s') p s := by
  induction t with
  | pure a => intro Q E p s hn h; exact ⟨hn, h⟩
  | raise e => intro Q E p s hn h; exact ⟨hn, h⟩
  | unsupported _ => intro Q E p s _ h; exact h
  | finish _ => intro Q E p s _ h; exact h
  | rule _ k ih => intro Q E p s hn h; exact ih () Q E p s hn h
  | «at» p' k ih => intro Q E p s hn h; exact ih () Q E p' s hn h
  | load a _ k ih => intro Q E p s hn h; obtain ⟨o, ho, h⟩ := h; exact ⟨o, ho, ih o Q E p s hn h⟩
  | update a _ f k ih => intro Q E p s hn h; exact ⟨h.1, ih () Q E p _ hn h.2⟩
  | loadIfAlive a k ih => intro Q E p s hn h; exact ih _ Q E p s hn h
  | point _ k ih => intro Q E p s hn h; exact ih () Q E p s hn h
  | register _ _ => intro Q E p s _ h; exact h
  | alloc o k ih => intro Q E p s hn h; exact ih _ Q E p _ hn h
  | fresh k ih => intro Q E p s hn h; exact ih _ Q E p _ hn h
  | ask k ih => intro Q E p s hn h; exact ih _ Q E p s hn h
  | choose src m k ih => intro Q E p s hn h; exact ⟨h.1, ih _ Q E p _ hn h.2⟩
  | os q _ k ih => intro Q E p s hn h; exact ih _ Q E p _ hn h
  | call c hd _ _ k ih => intro Q E p s hn h; obtain ⟨r, s', hr, h⟩ := h; exact ⟨r, s', hr, ih r Q E p s' (Nat.le_trans hn (returns_le hr)) h⟩
  | handled own k ih => intro Q E p s hn h; exact ih _ Q E p s hn h
  | genState g k ih => intro Q E p s hn h; obtain ⟨st, hs, h⟩ := h; exact ⟨st, hs, ih _ Q E p s hn h⟩
  | newGen c k ih => intro Q E p s hn h; exact ih _ Q E p _ (by simp only [Array.size_push]; omega) h
  | resume g r _ k ih => intro Q E p s hn h; obtain ⟨res, s', hw, h⟩ := h; exact ⟨res, s', hw, ih res Q E p s' (Nat.le_trans hn (wakes_le hw)) h⟩
  | yield _ _ _ _ => intro Q E p s _ h; exact h
  | stack k ih => intro Q E p s hn h; exact ih _ Q E p s hn h
  | fork _ _ => intro Q E p s _ h; exact h
  | thread k ih => intro Q E p s hn h; exact ih _ Q E p s hn h
  | await _ _ _ _ _ => intro Q E p s _ h; exact h
theorem wpAny_gens {α : Type} {M : Model} {A : Around} {s : Shared} {t : Sem α} {Q : α → Shared → Prop} {E : Value → Shared → Prop} {n : Nat} (hn : n ≤ s.gens.size) (h : wpAny M A t Q E s) :
    wpAny M A t (fun a s' => n ≤ s'.gens.size ∧ Q a s') (fun e s' => n ≤ s'.gens.size ∧ E e s') s :=
  fun Γ p hΓ => wp_le M Γ n t _ _ p s hn (h Γ p hΓ)
end GM

set_option Elab.async false
set_option linter.all false
set_option maxRecDepth 100000
/-! a generator expression walked over an invariant of states -/
namespace GI
open PySem
open Sem (wp)
section
variable {prog : Program} {w : World} {A : Around}
/-- one turn of the generator: the next one of what it walks, its name, its element -/
structure Turns (prog : Program) (w : World) (A : Around) (cenv : Env) (elt : Expr) (x : Str) (px : Pos) (I : Addr) (n : Nat) (F : Nat → Value → Prop) (J : Nat → Shared → Prop) : Prop where
  item : ∀ (E' : Value → Shared → Prop) (i : Nat) (s : Shared), i < n → J i s → wpAny (model prog w) A (pyNext (.ref I)) (fun r s1 => ∃ v, r = some v ∧
    wpAny (model prog w) A (assign (.Name x px) cenv v) (fun _ s2 => wpAny (model prog w) A (eval elt cenv) (fun y s3 => F i y ∧ J (i + 1) s3) E' s2) E' s1) E' s
  done : ∀ (E' : Value → Shared → Prop) (s : Shared), J n s → wpAny (model prog w) A (pyNext (.ref I)) (fun r s1 => r = none ∧ J (n + 1) s1) E' s
def proto (n : Nat) (F : Nat → Value → Prop) (J : Nat → Shared → Prop) : Protocol := fun m _ v s kap => ∃ i, i < n ∧ m = n - 1 - i ∧ F i v ∧ J (i + 1) s ∧ ∀ s'', J (i + 1) s'' → kap (.send .none) s''
def endJ (n : Nat) (J : Nat → Shared → Prop) : GenEnd := fun m _ r s => r = .ok .next ∧ (m = 0 ∧ J (n + 1) s)
theorem seg_loop {elt iter : Expr} {x : Str} {px : Pos} {scope : Scope} {pos : Pos} {I : Addr} {n : Nat} {F : Nat → Value → Prop} {J : Nat → Shared → Prop} {cenv : Env}
    (hco : cenv.scope.isCoroutine = false)
    (T : Turns prog w (A.over (.compLoop (.GeneratorExp elt [⟨.Name x px, iter, [], 0⟩] scope pos) 0 (.ref I) .none cenv) []) cenv elt x px I n F J) :
    ∀ (k i : Nat) (s₀ s : Shared), n - i = k → i ≤ n → J i s →
      Seg (model prog w) A (fun m s₀ r s₁ => r = .ok .next ∧ (m = 0 ∧ J (n + 1) s₁)) (proto n F J) k s₀
        (.compLoop (.GeneratorExp elt [⟨.Name x px, iter, [], 0⟩] scope pos) 0 (.ref I) .none cenv)
        ((model prog w).den (.compLoop (.GeneratorExp elt [⟨.Name x px, iter, [], 0⟩] scope pos) 0 (.ref I) .none cenv)) [] s := by
  intro k
  induction k with
  | zero =>
    intro i s₀ s hk hi hj
    have hin : i = n := by omega
    subst hin
    show Seg _ A _ _ _ s₀ _ ((compTurn (.GeneratorExp elt [⟨.Name x px, iter, [], 0⟩] scope pos) 0 (.ref I) .none cenv).onRaise (leaving cenv)) [] s
    rw [compTurn_gen, Sem.onRaise_eq_wrap]
    refine seg_bind_wrap (wpAny_standAt ?_)
    refine seg_bind_wrap (wpAny_mono (T.done _ s hj) (fun r s1 h => ?_) fun _ _ e => e)
    obtain ⟨rfl, hj1⟩ := h
    exact seg_end (.ok .next) ⟨rfl, rfl, hj1⟩
  | succ k ih =>
    intro i s₀ s hk hi hj
    have hlt : i < n := by omega
    show Seg _ A _ _ _ s₀ _ ((compTurn (.GeneratorExp elt [⟨.Name x px, iter, [], 0⟩] scope pos) 0 (.ref I) .none cenv).onRaise (leaving cenv)) [] s
    rw [compTurn_gen, Sem.onRaise_eq_wrap]
    refine seg_bind_wrap (wpAny_standAt ?_)
    refine seg_bind_wrap (wpAny_mono (T.item _ i s hlt hj) (fun r s1 h => ?_) fun _ _ e => e)
    obtain ⟨v, rfl, h⟩ := h
    refine seg_bind_wrap (wpAny_of_eq (rfl : letOwnedTupleGo (.Name x px) (.ref I) v = pure ()) ?_)
    refine seg_bind_wrap (wpAny_mono h (fun _ s2 h2 => ?_) fun _ _ e => e)
    refine seg_bind_wrap (wpAny_of_eq (a := true) (by simp only [List.forIn_nil]) ?_)
    simp only [if_true]
    have hy : ∀ v, yieldOut cenv v = yieldValue v := fun v => by simp only [yieldOut, hco, Bool.false_eq_true, if_false]
    simp only [hy]
    rw [Sem.bind_eq_wrap', Sem.bind_eq_wrap', Sem.wrap_wrap, Sem.wrap_wrap]
    refine seg_wrap (wpAny_mono h2 (fun y s3 h3 => ?_) fun _ _ e => e)
    obtain ⟨hF, hj3⟩ := h3
    refine seg_at (seg_yield rfl rfl rfl ⟨i, hlt, by omega, hF, hj3, fun s'' hal => ?_⟩)
    exact seg_again rfl (ih (i + 1) s'' s'' (by omega) hlt hal)
theorem seg_start {elt iter : Expr} {x : Str} {px : Pos} {scope : Scope} {pos : Pos} {I : Addr} {n : Nat} {F : Nat → Value → Prop} {J : Nat → Shared → Prop} {cenv : Env}
    (hco : cenv.scope.isCoroutine = false)
    (T : Turns prog w (A.over (.compLoop (.GeneratorExp elt [⟨.Name x px, iter, [], 0⟩] scope pos) 0 (.ref I) .none cenv) []) cenv elt x px I n F J)
    (hs : ∀ (E' : Value → Shared → Prop) (s : Shared) (Q : Value → Shared → Prop), J 0 s → Q (.ref I) s → wpAny (model prog w) (A.over (.compStart (.GeneratorExp elt [⟨.Name x px, iter, [], 0⟩] scope pos) 0 (.ref I) .none cenv) []) (pyIter (.ref I)) Q E' s)
    (s₀ s : Shared) (hj : J 0 s) :
    Seg (model prog w) A (fun m s₀ r s₁ => r = .ok .next ∧ (m = 0 ∧ J (n + 1) s₁)) (proto n F J) n s₀
      (.compStart (.GeneratorExp elt [⟨.Name x px, iter, [], 0⟩] scope pos) 0 (.ref I) .none cenv)
      ((model prog w).den (.compStart (.GeneratorExp elt [⟨.Name x px, iter, [], 0⟩] scope pos) 0 (.ref I) .none cenv)) [] s := by
  have loop := seg_loop (iter := iter) (scope := scope) (pos := pos) hco T n 0 s₀ s (Nat.sub_zero _) (Nat.zero_le _) hj
  show Seg _ A _ _ _ s₀ _ ((compStart (.GeneratorExp elt [⟨.Name x px, iter, [], 0⟩] scope pos) 0 (.ref I) .none cenv).onRaise (leaving cenv)) [] s
  unfold compStart
  rw [Sem.onRaise_eq_wrap]
  show Seg _ A _ _ _ s₀ _ ((ask >>= _).wrap _ _ _ _) [] s
  refine seg_bind_wrap (wpAny_askSetting ?_)
  split
  · exact seg_again rfl loop
  · first
      | exact seg_bind_wrap (wpAny_rule (seg_bind_wrap (wpAny_standAt (seg_bind_wrap (hs _ _ _ hj (seg_again rfl loop))))))
      | (refine seg_bind_wrap (wpAny_rule ?_); show Seg _ A _ _ _ s₀ _ ((standAt iter.pos >>= _).wrap _ _ _ _) [] s; exact seg_bind_wrap (wpAny_standAt (seg_bind_wrap (hs _ _ _ hj (seg_again rfl loop)))))
/-- the generator g at a, j elements out -/
def GenJ (prog : Program) (w : World) (A : Around) (a : Addr) (g : Nat) (n : Nat) (F : Nat → Value → Prop) (J : Nat → Shared → Prop) (j : Nat) (s : Shared) : Prop :=
  J j s ∧ ∃ gs, s.gens[g]? = some gs ∧ ∀ s'' : Shared, J j s'' → gs.Goes (model prog w) A.in1 (fun m s₀ r s₁ => r = .ok .next ∧ (m = 0 ∧ J (n + 1) s₁)) (proto n F J) (n - j) (.send .none) s''
/-- what the invariant stands: generators' states set, new objects -/
structure Firm (a : Addr) (g : Nat) (J : Nat → Shared → Prop) : Prop where
  gen : ∀ j s, J j s → s.heap.IsGen a g ∧ s.heap.NoLimit ∧ g < s.gens.size
  set : ∀ j s (x : GenState), x.bare = true → J j s → J j (s.setGen g x)
  push : ∀ j s h', (∀ b o, s.heap.get? b = some o → h'.get? b = some o) → J j s → J j { s with heap := h' }
theorem next_item {a : Addr} {g n j : Nat} {F : Nat → Value → Prop} {J : Nat → Shared → Prop} {s : Shared} {E : Value → Shared → Prop} (hh : A.handled = none) (hroom : A.depth < recursionLimit) (Fm : Firm a g J) (h : GenJ prog w A a g n F J j s) (hj : j < n) :
    wpAny (model prog w) A (pyNext (.ref a)) (fun r s1 => ∃ v, r = some v ∧ F j v ∧ GenJ prog w A a g n F J (j + 1) s1) E s := by
  obtain ⟨hJ, gs, hgs, hgo⟩ := h
  obtain ⟨hg, hl, hsz⟩ := Fm.gen _ _ hJ
  obtain ⟨m, hm⟩ : ∃ m, n - j = m + 1 := ⟨n - j - 1, by omega⟩
  rw [hm] at hgo
  refine wpAny_pyNext_genexpQ (P := fun m s₀ s₁ => m = 0 ∧ J (n + 1) s₁) hh hl hroom hg hgs (hgo _ (Fm.set _ _ _ rfl hJ)) (fun v s₁ gs' hb hv => ?_) (fun s₁ hp h' hk => ?_)
  · obtain ⟨i, hi, em, hF, hJ1, kap⟩ := hv
    have hij : i = j := by omega
    subst hij
    obtain ⟨_, _, hsz1⟩ := Fm.gen _ _ hJ1
    refine ⟨v, rfl, hF, Fm.set _ _ _ hb hJ1, gs', by simp [Shared.setGen, hsz1], fun s'' hs => ?_⟩
    have e : n - (i + 1) = m := by omega
    rw [e]
    exact kap s'' hs
  · exact absurd hp.1 (by omega)
theorem next_done {a : Addr} {g n : Nat} {F : Nat → Value → Prop} {J : Nat → Shared → Prop} {s : Shared} {E : Value → Shared → Prop} (hh : A.handled = none) (hroom : A.depth < recursionLimit) (Fm : Firm a g J) (h : GenJ prog w A a g n F J n s) :
    wpAny (model prog w) A (pyNext (.ref a)) (fun r s1 => r = none ∧ J (n + 1) s1) E s := by
  obtain ⟨hJ, gs, hgs, hgo⟩ := h
  obtain ⟨hg, hl, hsz⟩ := Fm.gen _ _ hJ
  rw [Nat.sub_self] at hgo
  refine wpAny_pyNext_genexpQ (P := fun m s₀ s₁ => m = 0 ∧ J (n + 1) s₁) hh hl hroom hg hgs (hgo _ (Fm.set _ _ _ rfl hJ)) (fun v s₁ gs' hb hv => ?_) (fun s₁ hp h' hk => ?_)
  · obtain ⟨i, hi, em, hF, hJ1, kap⟩ := hv
    exact (kap s₁ hJ1).elim
  · exact ⟨rfl, Fm.push _ _ _ (by exact hk) (Fm.set _ _ _ rfl hp.2)⟩
end
/-- any, all of what is walked over an invariant -/
structure Yields (prog : Program) (w : World) (A : Around) (I : Addr) (n : Nat) (tr : Nat → Bool) (St : Nat → Shared → Prop) (Aft : Shared → Prop) : Prop where
  item : ∀ (E : Value → Shared → Prop) (i : Nat) (s : Shared), i < n → St i s → wpAny (model prog w) A (pyNext (.ref I)) (fun r s1 => ∃ v, r = some v ∧ v = .bool (tr i) ∧ St (i + 1) s1 ∧ Aft s1) E s
  done : ∀ (E : Value → Shared → Prop) (s : Shared), St n s → wpAny (model prog w) A (pyNext (.ref I)) (fun r s1 => r = none ∧ Aft s1) E s
section
variable {prog : Program} {w : World} {A : Around} {R : Result → Shared → Prop} {I : Addr} {n : Nat} {tr : Nat → Bool} {St : Nat → Shared → Prop} {Aft : Shared → Prop}
theorem Yields.of_in1 (Y : Yields prog w A.in1 I n tr St Aft) : Yields prog w A I n tr St Aft := ⟨fun E i s hi h => wpAny_of_in1 (Y.item E i s hi h), fun E s h => wpAny_of_in1 (Y.done E s h)⟩
theorem Yields.in4_1 (Y : Yields prog w A.in4 I n tr St Aft) : Yields prog w A.in1 I n tr St Aft :=
  Yields.of_in1 (A := A.in1) (Yields.of_in1 (A := A.in1.in1) (Yields.of_in1 (A := A.in1.in1.in1) Y))
theorem any_loop (W : Yields prog w A.in1 I n tr St Aft) : ∀ (k i : Nat) (s : Shared), n - i = k → i ≤ n → St i s →
    (∀ s', Aft s' → R (.ok (.ret (.bool (((List.range n).drop i).any tr)))) s') → codeAny (model prog w) A (.builtin "any.loop" ⟨[.ref I], []⟩) R s := by
  intro k
  induction k with
  | zero =>
    intro i s hk hi hst hR
    have hin : i = n := by omega
    subst hin
    refine codeAny_builtin F.entry_any_loop ?_
    rw [Around.under_plainId F.plain_any_loop _]
    show wpAny _ A.in1 (pyNext (.ref I) >>= _) _ _ s
    refine wpAny_bind (wpAny_mono (W.done _ s hst) (fun r s1 h => ?_) fun _ _ e => e)
    obtain ⟨rfl, h1⟩ := h
    refine wpAny_bind (wpAny_rule (wpAny_pure ?_))
    have := hR s1 h1
    rw [List.drop_of_length_le (by simp)] at this
    exact this
  | succ k ih =>
    intro i s hk hi hst hR
    have hlt : i < n := by omega
    have hd : (List.range n).drop i = i :: (List.range n).drop (i + 1) := by
      rw [List.drop_eq_getElem_cons (by simpa using hlt)]; simp
    refine codeAny_builtin F.entry_any_loop ?_
    rw [Around.under_plainId F.plain_any_loop _]
    show wpAny _ A.in1 (pyNext (.ref I) >>= _) _ _ s
    refine wpAny_bind (wpAny_mono (W.item _ i s hlt hst) (fun r s1 h => ?_) fun _ _ e => e)
    obtain ⟨v, rfl, rfl, h1, ha⟩ := h
    refine wpAny_bind (wpAny_holding (wpAny_truthy_bool ?_))
    refine wpAny_bind (wpAny_letGo ?_)
    cases hb : tr i with
    | false =>
      simp only [Bool.false_eq_true, if_false]
      refine wpAny_pure ⟨plainId_quiet F.plain_any_loop _, ih (i + 1) _ (by omega) hlt h1 fun s'' hj => ?_⟩
      have := hR s'' hj
      rw [hd, List.any_cons, hb, Bool.false_or] at this
      exact this
    | true =>
      simp only [if_true]
      refine wpAny_bind (wpAny_rule (wpAny_pure ?_))
      have := hR s1 ha
      rw [hd, List.any_cons, hb, Bool.true_or] at this
      exact this
theorem all_loop (W : Yields prog w A.in1 I n tr St Aft) : ∀ (k i : Nat) (s : Shared), n - i = k → i ≤ n → St i s →
    (∀ s', Aft s' → R (.ok (.ret (.bool (((List.range n).drop i).all tr)))) s') → codeAny (model prog w) A (.builtin "all.loop" ⟨[.ref I], []⟩) R s := by
  intro k
  induction k with
  | zero =>
    intro i s hk hi hst hR
    have hin : i = n := by omega
    subst hin
    refine codeAny_builtin F.entry_all_loop ?_
    rw [Around.under_plainId F.plain_all_loop _]
    show wpAny _ A.in1 (pyNext (.ref I) >>= _) _ _ s
    refine wpAny_bind (wpAny_mono (W.done _ s hst) (fun r s1 h => ?_) fun _ _ e => e)
    obtain ⟨rfl, h1⟩ := h
    refine wpAny_bind (wpAny_rule (wpAny_pure ?_))
    have := hR s1 h1
    rw [List.drop_of_length_le (by simp)] at this
    exact this
  | succ k ih =>
    intro i s hk hi hst hR
    have hlt : i < n := by omega
    have hd : (List.range n).drop i = i :: (List.range n).drop (i + 1) := by
      rw [List.drop_eq_getElem_cons (by simpa using hlt)]; simp
    refine codeAny_builtin F.entry_all_loop ?_
    rw [Around.under_plainId F.plain_all_loop _]
    show wpAny _ A.in1 (pyNext (.ref I) >>= _) _ _ s
    refine wpAny_bind (wpAny_mono (W.item _ i s hlt hst) (fun r s1 h => ?_) fun _ _ e => e)
    obtain ⟨v, rfl, rfl, h1, ha⟩ := h
    refine wpAny_bind (wpAny_holding (wpAny_truthy_bool ?_))
    refine wpAny_bind (wpAny_letGo ?_)
    cases hb : tr i with
    | true =>
      simp only [if_true]
      refine wpAny_pure ⟨plainId_quiet F.plain_all_loop _, ih (i + 1) _ (by omega) hlt h1 fun s'' hj => ?_⟩
      have := hR s'' hj
      rw [hd, List.all_cons, hb, Bool.true_and] at this
      exact this
    | false =>
      simp only [Bool.false_eq_true, if_false]
      refine wpAny_bind (wpAny_rule (wpAny_pure ?_))
      have := hR s1 ha
      rw [hd, List.all_cons, hb, Bool.false_and] at this
      exact this
theorem call_any {a : Addr} {g : Nat} {Q : Value → Shared → Prop} {E : Value → Shared → Prop} {s : Shared} (hg : s.heap.IsGen a g) (W : Yields prog w A.in1 a n tr St Aft) (hst : St 0 s) (hQ : ∀ s', Aft s' → Q (.bool ((List.range n).any tr)) s') :
    wpAny (model prog w) A (call (.builtin "any") [.ref a]) Q E s := by
  refine call_function_tree F.kind_any F.plain_any F.entry_any (F.args_any1 _) ?_
  unfold Builtin.«any»
  refine wpAny_bind (m := oneArg "any" _) (wpAny_pure ?_)
  refine wpAny_bind (wpAny_pyIter_gen hg ?_)
  exact wpAny_pure ⟨plainId_quiet F.plain_any_loop _, any_loop W n 0 s rfl (Nat.zero_le _) hst fun s' hj => by simpa using hQ s' hj⟩
theorem call_all {a : Addr} {g : Nat} {Q : Value → Shared → Prop} {E : Value → Shared → Prop} {s : Shared} (hg : s.heap.IsGen a g) (W : Yields prog w A.in1 a n tr St Aft) (hst : St 0 s) (hQ : ∀ s', Aft s' → Q (.bool ((List.range n).all tr)) s') :
    wpAny (model prog w) A (call (.builtin "all") [.ref a]) Q E s := by
  refine call_function_tree F.kind_all F.plain_all F.entry_all (F.args_all1 _) ?_
  unfold Builtin.«all»
  refine wpAny_bind (m := oneArg "all" _) (wpAny_pure ?_)
  refine wpAny_bind (wpAny_pyIter_gen hg ?_)
  exact wpAny_pure ⟨plainId_quiet F.plain_all_loop _, all_loop W n 0 s rfl (Nat.zero_le _) hst fun s' hj => by simpa using hQ s' hj⟩
/-- a generator expression's elements -/
theorem GenJ.yields {a : Addr} {g : Nat} {F : Nat → Value → Prop} {J : Nat → Shared → Prop} (hh : A.handled = none) (hroom : A.depth < recursionLimit) (Fm : Firm a g J) (hF : ∀ i v, F i v → v = .bool (tr i)) :
    Yields prog w A a n tr (GenJ prog w A a g n F J) (fun s => ∃ j, J j s) := by
  refine ⟨fun E i s hi h => wpAny_mono (next_item hh hroom Fm h hi) (fun r s1 ⟨v, e, hv, h1⟩ => ⟨v, e, hF i v hv, h1, _, h1.1⟩) fun _ _ e => e, fun E s h => wpAny_mono (next_done hh hroom Fm h) (fun r s1 ⟨e, h1⟩ => ⟨e, _, h1⟩) fun _ _ e => e⟩
end
end GI

set_option Elab.async false
set_option linter.all false
set_option maxRecDepth 100000
/-! a call of a def in a generator expression's element -/
namespace GI
open PySem PySem.Spec PyProof.Rows L2 LK
/-- a call in a frame c that was made since -/
theorem un_new {fs : List Addr} {H H1 H2 : Hp} {h h1 h2 : Heap} {c : Addr} (a : Un fs [] H H1 h h1) (b : Un (c :: fs) [] H1 H2 h1 h2) (hc : h.get? c = none) : Un fs [] H H2 h h2 where
  keep := fun b' o e n nf nx => b.keep b' o (a.keep b' o e n nf nx) (a.free b' o e n nx) (fun m => by
    rcases List.mem_cons.mp m with z | z
    · rw [z, hc] at e; cases e
    · exact nf z) nx
  slot := fun b' o e n mf nx => by
    obtain ⟨sl, e1⟩ := a.slot b' o e n mf nx
    obtain ⟨sl2, e2⟩ := b.slot b' _ e1 (a.free b' o e n nx) (List.mem_cons_of_mem _ mf) nx
    exact ⟨sl2, e2⟩
  free := fun b' o e n nx => by
    obtain ⟨o1, e1⟩ := a.there b' o e nx
    exact b.free b' o1 e1 (a.free b' o e n nx) nx
  there := fun b' o e nx => by
    obtain ⟨o1, e1⟩ := a.there b' o e nx
    exact b.there b' o1 e1 nx
  tups := fun b' xs e => b.tups b' xs (a.tups b' xs e)
  frzs := fun b' o u e => b.frzs b' o u (a.frzs b' o u e)
  tbls := fun b' ps e => by
    obtain ⟨m1, e1⟩ := a.tbls b' ps e
    obtain ⟨m2, e2⟩ := b.tbls b' _ e1
    exact ⟨m1 ++ m2, by rw [e2, Array.append_assoc]⟩
theorem fun_up {base h h' : Heap} : ∀ {l : List Env}, h.FunFrames base l → (∀ b ∈ frs l, ∀ o, h.get? b = some o → ∃ o', h'.get? b = some o' ∧ o'.data = o.data) → h'.FunFrames base l
  | [], _, _ => trivial
  | env :: rest, hl, k => by
    obtain ⟨hk, ⟨L, o, hf, hn, ho, hd⟩, hr⟩ := hl
    have mem : L ∈ frs (env :: rest) := by
      show L ∈ (env :: rest).filterMap (·.frame)
      rw [List.filterMap_cons_some hf]
      exact List.mem_cons_self
    obtain ⟨o', ho', hd'⟩ := k L mem o ho
    refine ⟨hk, ⟨L, o', hf, hn, ho', fun vs => hd' ▸ hd vs⟩, fun_up hr fun b hb => k b ?_⟩
    show b ∈ (env :: rest).filterMap (·.frame)
    rw [List.filterMap_cons_some hf]
    exact List.mem_cons_of_mem _ hb
section
variable {X : Cx}
/-- between two elements: what the outer def holds since s1, the generator a (number g), its frame C, what it walks (It) -/
structure Mid (X : Cx) (H1 : Hp) (s1 : Shared) (C It a : Addr) (g : Nat) (cenv : Env) (m : Str → Option Value) (Hi : Hp) (s : Shared) : Prop where
  os : s.os = s1.os
  bare : AllBare s.gens
  un : Un (frs X.stack) [] H1 Hi s1.heap s.heap
  hok : HOk X.prog X.w Hi s.heap
  ns : s.heap.Ns C m
  fr : cenv.frame = some C
  knd : cenv.scope.kind ≠ .module
  nC : s1.heap.get? C = none ∧ Hi C = none
  nI : s1.heap.get? It = none ∧ It ≠ C
  na : s1.heap.get? a = none ∧ Hi a = none ∧ a ≠ C
  gen : s.heap.IsGen a g
  gsz : g < s.gens.size
  le : s1.heap.objs.size ≤ C
variable {pins : List (Addr × Obj)} {σ : L2.St} {H1 Hi : Hp} {s1 s : Shared} {C It a : Addr} {g : Nat} {cenv : Env} {m : Str → Option Value}
theorem Mid.env0 {A' : Around} (I : Inv X pins σ H1 s1) (M : Mid X H1 s1 C It a g cenv m Hi s) (hf : A'.frames = some (cenv :: X.stack)) : Env0 X.prog X.w X.K X.mg X.base A' (cenv :: X.stack) s Hi := by
  have E := I.env0
  have frn : ∀ b ∈ frs X.stack, ∃ o, s1.heap.get? b = some o := fun b hb => by
    obtain ⟨_, o, ho, _⟩ := Heap.FunFrames.mem E.funs hb
    exact ⟨o, ho⟩
  have bas : ∀ b o, X.base.get? b = some o → b ∉ frs X.stack := fun b o e hb => by
    have := (Heap.FunFrames.mem E.funs hb).1
    rw [e] at this
    cases this
  refine ⟨hf, E.mod, fun b o e => ?_, Nat.le_trans E.bsz (Nat.le_trans M.le (Nat.le_of_lt M.ns.lt)), ?_, fun b hb => ?_, M.hok, M.bare⟩
  · obtain ⟨e1, n1⟩ := E.bs b o e
    exact ⟨M.un.keep b o e1 n1 (bas b o e) (by simp), M.un.free b o e1 n1 (by simp)⟩
  · refine Heap.FunFrames.cons M.knd M.fr M.ns ?_ ?_
    · cases e : X.base.get? C with
      | none => rfl
      | some o => have := (E.bs C o e).1; rw [M.nC.1] at this; cases this
    · refine fun_up E.funs fun b hb o ho => ?_
      obtain ⟨sl, e⟩ := M.un.slot b o ho (E.frf b hb) hb (by simp)
      exact ⟨_, e, rfl⟩
  · have hb : b = C ∨ b ∈ frs X.stack := by
      have hb : b ∈ (cenv :: X.stack).filterMap (·.frame) := hb
      rw [List.filterMap_cons_some M.fr] at hb
      exact List.mem_cons.mp hb
    rcases hb with rfl | hb
    · exact M.nC.2
    · obtain ⟨o, ho⟩ := frn b hb
      exact M.un.free b o ho (E.frf b hb) (by simp)
/-- the call -/
theorem Mid.call {A' : Around} {k : Nat} {f : Addr} {fd : FuncData} {ps : List Str} {sp : Sp} {us : List Value} {vs : List V} {Q : VK} {E' : Value → Shared → Prop}
    (I : Inv X pins σ H1 s1) (M : Mid X H1 s1 C It a g cenv m Hi s) (F : FnG X.prog X.w X.K X.mg X.base CX0 k f fd ps sp) (hb : Binds X.K fd ps []) (hr : Room k A') (hg : A'.guards = some []) (hf : A'.frames = some (cenv :: X.stack))
    (r : Vals vs us) (h : sp vs Hi Q E0) : wpAny (model X.prog X.w) A' (call (.ref f) us) (fun u s' => ∃ v H', RelV v u ∧ Q v H' ∧ Mid X H1 s1 C It a g cenv m H' s' ∧ ∀ ob, Hi It = none → s.heap.get? It = some ob → H' It = none ∧ s'.heap.get? It = some ob) E' s := by
  have hl : (us ++ []).length = ps.length := by rw [List.append_nil, ← r.length, F.len _ _ _ _ h]
  have E := Mid.env0 I M hf
  have kin : X.K.In s.heap := E.mod.kin.keeps fun b o e => (E.bs b o e).1
  have hbs := hb s us kin hl
  rw [List.append_nil] at hbs
  refine wpAny_mono (GM.wpAny_gens (n := s.gens.size) (Nat.le_refl _) (wpAny_call (Q := fun u s' => ∃ v H', RelV v u ∧ Q v H' ∧ (g < s'.gens.size → Mid X H1 s1 C It a g cenv m H' s') ∧ ∀ ob, Hi It = none → s.heap.get? It = some ob → H' It = none ∧ s'.heap.get? It = some ob) (E := E') (codeAny_mono (F.run A' (cenv :: X.stack) s Hi ⟨us, []⟩ us vs Q E0 hr hg E hbs r h) fun res s' hq => ?_))) (fun u s' h2 => ?_) fun _ _ e => e.2
  · match res, hq with
    | .error e, hq => exact hq.elim
    | .ok (.ret u), hq =>
      obtain ⟨v, H', os, bare, un, hok, r, q⟩ := hq
      have nf : ∀ {b : Addr}, s1.heap.get? b = none → b ≠ C → b ∉ frs (cenv :: X.stack) := fun {b} e ne hb => by
        have hb : b ∈ (cenv :: X.stack).filterMap (·.frame) := hb
        rw [List.filterMap_cons_some M.fr] at hb
        rcases List.mem_cons.mp hb with z | z
        · exact ne z
        · obtain ⟨_, o, ho, _⟩ := Heap.FunFrames.mem I.env0.funs z
          rw [e] at ho; cases ho
      have un' : Un (C :: frs X.stack) [] Hi H' s.heap s'.heap := by
        have e : frs (cenv :: X.stack) = C :: frs X.stack := List.filterMap_cons_some M.fr
        rw [← e]
        exact un
      refine ⟨v, H', r, q, fun gz => ⟨os.trans M.os, bare, un_new M.un un' M.nC.1, hok, ?_, M.fr, M.knd, ⟨M.nC.1, ?_⟩, M.nI, ⟨M.na.1, ?_, M.na.2.2⟩, ?_, gz, M.le⟩, fun ob n e => ⟨un.free It ob e n (by simp), un.keep It ob e n (nf M.nI.1 M.nI.2) (by simp)⟩⟩
      · obtain ⟨o, es, ep, ho, hd, rest⟩ := M.ns
        obtain ⟨sl, e⟩ := un'.slot C o ho M.nC.2 List.mem_cons_self (by simp)
        exact ⟨_, es, ep, e, hd, rest⟩
      · obtain ⟨o, es, ep, ho, _⟩ := M.ns
        exact un.free C o ho M.nC.2 (by simp)
      · obtain ⟨o, x1, x2, ho, _⟩ := M.gen
        exact un.free a o ho M.na.2.1 (by simp)
      · obtain ⟨o, x1, x2, ho, rest⟩ := M.gen
        exact ⟨o, x1, x2, un.keep a o ho M.na.2.1 (nf M.na.1 M.na.2.2) (by simp), rest⟩
    | .ok .next, hq => exact hq.elim
    | .ok .brk, hq => exact hq.elim
    | .ok .cont, hq => exact hq.elim
  · obtain ⟨gz, v, H', r, q, M', hI⟩ := h2
    exact ⟨v, H', r, q, M' (Nat.lt_of_lt_of_le M.gsz gz), hI⟩
theorem hok_but {P : Program} {w : World} {H : Hp} {h h' : Heap} {c : Addr} (k : HOk P w H h) (n : H c = none) (hs : Heap.SameBut c h h') : HOk P w H h' := fun b ob e => by
  refine (k b ob e).stay (fun d w' hc q => (hs.2 d ?_).trans q) (fun _ q => q) fun _ _ q => q
  rintro rfl
  rcases hc with rfl | hc
  · rw [n] at e; cases e
  · rw [n] at hc; cases hc
theorem un_but {fs : List Addr} {H H1 : Hp} {h h1 h2 : Heap} {c : Addr} (a : Un fs [] H H1 h h1) (hs : Heap.SameBut c h1 h2) (hc : h.get? c = none) : Un fs [] H H1 h h2 where
  keep := fun b o e n nf nx => (hs.2 b (fun z => by rw [z, hc] at e; cases e)).trans (a.keep b o e n nf nx)
  slot := fun b o e n mf nx => by
    obtain ⟨sl, e1⟩ := a.slot b o e n mf nx
    exact ⟨sl, (hs.2 b (fun z => by rw [z, hc] at e; cases e)).trans e1⟩
  free := a.free
  there := fun b o e nx => by
    obtain ⟨o1, e1⟩ := a.there b o e nx
    exact ⟨o1, (hs.2 b (fun z => by rw [z, hc] at e; cases e)).trans e1⟩
  tups := a.tups
  frzs := a.frzs
  tbls := a.tbls
theorem hok_ext {P : Program} {w : World} {H : Hp} {h h' : Heap} {c : Addr} (k : HOk P w H h) (n : H c = none) (hs : Heap.ExtBut c h h') : HOk P w H h' := fun b ob e => by
  refine (k b ob e).stay (fun d w' hc q => hs d w' ?_ q) (fun _ q => q) fun _ _ q => q
  rintro rfl
  rcases hc with rfl | hc
  · rw [n] at e; cases e
  · rw [n] at hc; cases hc
theorem un_ext {fs : List Addr} {H H1 : Hp} {h h1 h2 : Heap} {c : Addr} (a : Un fs [] H H1 h h1) (hs : Heap.ExtBut c h1 h2) (hc : h.get? c = none) : Un fs [] H H1 h h2 where
  keep := fun b o e n nf nx => hs b o (fun z => by rw [z, hc] at e; cases e) (a.keep b o e n nf nx)
  slot := fun b o e n mf nx => by
    obtain ⟨sl, e1⟩ := a.slot b o e n mf nx
    exact ⟨sl, hs b _ (fun z => by rw [z, hc] at e; cases e) e1⟩
  free := a.free
  there := fun b o e nx => by
    obtain ⟨o1, e1⟩ := a.there b o e nx
    exact ⟨o1, hs b _ (fun z => by rw [z, hc] at e; cases e) e1⟩
  tups := a.tups
  frzs := a.frzs
  tbls := a.tbls
/-- what is walked has moved on -/
theorem Mid.stepI {h' : Heap} (M : Mid X H1 s1 C It a g cenv m Hi s) (ne : It ≠ a) (n : Hi It = none) (hs : Heap.ExtBut It s.heap h') : Mid X H1 s1 C It a g cenv m Hi { s with heap := h' } where
  os := M.os
  bare := M.bare
  un := un_ext M.un hs M.nI.1
  hok := hok_ext M.hok n hs
  ns := M.ns.at' fun o q => hs C o (fun z => M.nI.2 z.symm) q
  fr := M.fr
  knd := M.knd
  nC := M.nC
  nI := M.nI
  na := M.na
  gen := by
    obtain ⟨o, x1, x2, ho, rest⟩ := M.gen
    exact ⟨o, x1, x2, hs a o (fun z => ne z.symm) ho, rest⟩
  gsz := M.gsz
  le := M.le
/-- the name in the generator's own frame -/
theorem Mid.stepC {h' : Heap} {m' : Str → Option Value} (M : Mid X H1 s1 C It a g cenv m Hi s) (hs : Heap.SameBut C s.heap h') (e : h'.Ns C m') : Mid X H1 s1 C It a g cenv m' Hi { s with heap := h' } where
  os := M.os
  bare := M.bare
  un := un_but M.un hs M.nC.1
  hok := hok_but M.hok M.nC.2 hs
  ns := e
  fr := M.fr
  knd := M.knd
  nC := M.nC
  nI := M.nI
  na := M.na
  gen := by
    obtain ⟨o, x1, x2, ho, rest⟩ := M.gen
    exact ⟨o, x1, x2, (hs.2 a M.na.2.2).trans ho, rest⟩
  gsz := M.gsz
  le := M.le
theorem Mid.tok {t : Nat} (M : Mid X H1 s1 C It a g cenv m Hi s) : Mid X H1 s1 C It a g cenv m Hi { s with toks := t } := ⟨M.os, M.bare, M.un, M.hok, M.ns, M.fr, M.knd, M.nC, M.nI, M.na, M.gen, M.gsz, M.le⟩
theorem Mid.setG {g' : Nat} {x : GenState} (M : Mid X H1 s1 C It a g cenv m Hi s) (hx : x.bare = true) : Mid X H1 s1 C It a g cenv m Hi (s.setGen g' x) :=
  ⟨M.os, fun y hy => by
    rcases Array.mem_or_eq_of_mem_setIfInBounds hy with h | h
    · exact M.bare y h
    · rw [h]; exact hx, M.un, M.hok, M.ns, M.fr, M.knd, M.nC, M.nI, M.na, M.gen, by rw [GM.set_size]; exact M.gsz, M.le⟩
theorem Mid.push {h' : Heap} (M : Mid X H1 s1 C It a g cenv m Hi s) (k : ∀ b o, s.heap.get? b = some o → h'.get? b = some o) : Mid X H1 s1 C It a g cenv m Hi { s with heap := h' } :=
  ⟨M.os, M.bare, ⟨fun b o e n nf nx => k _ _ (M.un.keep b o e n nf nx), fun b o e n mf nx => let ⟨sl, e1⟩ := M.un.slot b o e n mf nx; ⟨sl, k _ _ e1⟩, M.un.free, fun b o e nx => let ⟨o1, e1⟩ := M.un.there b o e nx; ⟨o1, k _ _ e1⟩, M.un.tups, M.un.frzs, M.un.tbls⟩,
    M.hok.kept k, M.ns.at' fun o e => k _ _ e, M.fr, M.knd, M.nC, M.nI, M.na, let ⟨o, x1, x2, ho, r⟩ := M.gen; ⟨o, x1, x2, k _ _ ho, r⟩, M.gsz, M.le⟩
theorem Mid.kin (I : Inv X pins σ H1 s1) (M : Mid X H1 s1 C It a g cenv m Hi s) : X.K.In s.heap := by
  have E := I.env0
  refine E.mod.kin.keeps fun b o e => ?_
  obtain ⟨e1, n1⟩ := E.bs b o e
  refine M.un.keep b o e1 n1 (fun hb => ?_) (by simp)
  have := (Heap.FunFrames.mem E.funs hb).1
  rw [e] at this
  cases this
theorem Mid.tuple (I : Inv X pins σ H1 s1) (M : Mid X H1 s1 C It a g cenv m Hi s) {q : Addr} {xs : List V} (h : SqT X.K Hi q xs) : ∃ its : List Value, Vals xs its ∧ IsTup s.heap q its.toArray := by
  rcases h with h | ⟨o, its, n, hk, hc, hs, hz, r⟩
  · obtain ⟨z, its, r, p⟩ := h.ok M.hok
    exact ⟨its, r, p⟩
  · exact ⟨its.toList, r, ⟨o, M.kin I q o hk, hc, n, by simpa using hs⟩⟩
/-- behind the walk the outer def goes on -/
theorem Mid.out {Q : VK} {u : Value} {v : V} (I : Inv X pins σ H1 s1) (M : Mid X H1 s1 C It a g cenv m Hi s) (r : RelV v u) (q : Q v Hi) : EP X pins σ Q u s := I.after ⟨v, Hi, M.os, M.bare, M.un, M.hok, r, q⟩
end
end GI

set_option Elab.async false
set_option linter.all false
set_option maxRecDepth 100000
/-! any, all of f(.., x) for x in a tuple -/
namespace GI
open PySem PySem.Spec PyProof.Rows L2 LK
theorem sqT_un {K : PySem.W.Frag} {fs ex : List Addr} {H H' : Hp} {h h' : Heap} {q : Addr} {xs : List V} (u : Un fs ex H H' h h') (hq : SqT K H q xs) : SqT K H' q xs := by
  rcases hq with (hq | ⟨o, hq⟩) | hq
  · exact .inl (.inl (u.tups _ _ hq))
  · exact .inl (.inr ⟨o, u.frzs _ _ _ hq⟩)
  · exact .inr hq
section
variable {X : Cx} {pins : List (Addr × Obj)} {σ : L2.St} {H1 : Hp} {s1 : Shared} {C It a : Addr} {g : Nat} {cenv : Env} {q : Addr} {xs : List V} {R : Hp → Prop} {tr : Nat → Bool} {elt : Expr} {x : Str} {px : Pos} {A' : Around}
def JT (X : Cx) (H1 : Hp) (s1 : Shared) (C It a : Addr) (g : Nat) (cenv : Env) (q : Addr) (n : Nat) (R : Hp → Prop) : Nat → Shared → Prop := fun i s =>
  ∃ m Hi, Mid X H1 s1 C It a g cenv m Hi s ∧ (i ≤ n → s.heap.IsTupleIter It q i ∧ Hi It = none) ∧ R Hi
/-- the element, read in the generator's frame -/
def EltH (X : Cx) (A' : Around) (H1 : Hp) (s1 : Shared) (C It a : Addr) (g : Nat) (cenv : Env) (xs : List V) (R : Hp → Prop) (tr : Nat → Bool) (elt : Expr) (x : Str) : Prop :=
  ∀ (E' : Value → Shared → Prop) (i : Nat) (v : V) (u : Value) (s : Shared) (m : Str → Option Value) (Hi : Hp), xs[i]? = some v → RelV v u → m x = some u → Mid X H1 s1 C It a g cenv m Hi s → R Hi →
    wpAny (model X.prog X.w) A' (eval elt cenv) (fun y s' => ∃ H', y = .bool (tr i) ∧ Mid X H1 s1 C It a g cenv m H' s' ∧ R H' ∧ ∀ ob, Hi It = none → s.heap.get? It = some ob → H' It = none ∧ s'.heap.get? It = some ob) E' s
theorem turns_tup (I : Inv X pins σ H1 s1) (hh : A'.handled = none) (hq : SqT X.K H1 q xs) (hx : cenv.kindOf x = some .local) (hp : (cenv.scope.kind == .class || (cenv.scope.kind == .module && cenv.locals != cenv.globals)) = false)
    (hC : cenv.locals = C) (ne : It ≠ a) (hel : EltH X A' H1 s1 C It a g cenv xs R tr elt x) :
    Turns X.prog X.w A' cenv elt x px It xs.length (fun i v => v = .bool (tr i)) (JT X H1 s1 C It a g cenv q xs.length R) where
  item := fun E' i s hi hj => by
    obtain ⟨m, Hi, M, hit, hR⟩ := hj
    obtain ⟨hit, nI⟩ := hit (Nat.le_of_lt hi)
    have hqi := sqT_un M.un hq
    obtain ⟨its, vr, ht⟩ := M.tuple I hqi
    have hlen : xs.length = its.length := vr.length
    have hxi : its.toArray[i]? = some (its[i]'(by omega)) := by
      rw [List.getElem?_toArray]
      exact List.getElem?_eq_getElem (by omega)
    have hvi : xs[i]? = some (xs[i]) := List.getElem?_eq_getElem hi
    have hrel : RelV (xs[i]) (its[i]'(by omega)) := by
      obtain ⟨u, hu, r⟩ := Vals.get vr hvi
      rw [List.getElem?_eq_getElem (by omega)] at hu
      cases hu
      exact r
    refine wpAny_pyNext_tuple_item hit ht hxi fun h' hit' hs' => ⟨_, rfl, ?_⟩
    have M1 := M.stepI ne nI (fun b o hb e => (hs'.2 b hb).trans e)
    subst hC
    refine wpAny_assign_Name (wpAny_storeName_local hx M1.ns (fun h2 hn2 hs2 => ?_) hp)
    have M2 : Mid X H1 s1 cenv.locals It a g cenv (fun y => if y = x then some (its[i]'(by omega)) else m y) Hi { s with heap := h2, toks := s.toks + 1 } := (M1.stepC hs2 hn2).tok
    refine wpAny_mono (hel E' i _ _ _ _ Hi hvi hrel (by simp) M2 hR) (fun y s' hy => ?_) fun _ _ e => e
    obtain ⟨H', rfl, M3, hR3, hI⟩ := hy
    refine ⟨rfl, _, H', M3, fun hi1 => ?_, hR3⟩
    obtain ⟨o, ho, r⟩ := hit'
    have e2 : h2.get? It = some o := (hs2.2 It M.nI.2).trans ho
    obtain ⟨n', e'⟩ := hI o nI e2
    exact ⟨⟨o, e', r⟩, n'⟩
  done := fun E' s hj => by
    obtain ⟨m, Hi, M, hit, hR⟩ := hj
    obtain ⟨hit, nI⟩ := hit (Nat.le_refl _)
    have hqi := sqT_un M.un hq
    obtain ⟨its, vr, ht⟩ := M.tuple I hqi
    have hlen : xs.length = its.length := vr.length
    refine wpAny_pyNext_tuple_end hh hit ht (by rw [List.getElem?_toArray, hlen]; exact List.getElem?_eq_none (Nat.le_refl _)) fun h' hs => ⟨rfl, m, Hi, M.stepI ne nI hs, fun h => absurd h (by omega), hR⟩
theorem Mid.nolimit {s : Shared} {m : Str → Option Value} {Hi : Hp} (I : Inv X pins σ H1 s1) (M : Mid X H1 s1 C It a g cenv m Hi s) : s.heap.NoLimit := by
  have E := I.env0
  refine E.mod.nolimit.keeps fun b o e => ?_
  obtain ⟨e1, n1⟩ := E.bs b o e
  refine M.un.keep b o e1 n1 (fun hb => ?_) (by simp)
  have := (Heap.FunFrames.mem E.funs hb).1
  rw [e] at this
  cases this
theorem firm_tup {n : Nat} (I : Inv X pins σ H1 s1) : Firm a g (JT X H1 s1 C It a g cenv q n R) where
  gen := fun j s ⟨m, Hi, M, _, _⟩ => ⟨M.gen, M.nolimit I, M.gsz⟩
  set := fun j s x hx ⟨m, Hi, M, hit, hR⟩ => ⟨m, Hi, M.setG hx, hit, hR⟩
  push := fun j s h' k ⟨m, Hi, M, hit, hR⟩ => ⟨m, Hi, M.push k, fun hj => let ⟨⟨o, ho, r⟩, n⟩ := hit hj; ⟨⟨o, k _ _ ho, r⟩, n⟩, hR⟩
/-- the generator, made in s5 -/
theorem yields_tup {s5 : Shared} {iter : Expr} {scope : Scope} {pos : Pos} (I : Inv X pins σ H1 s1) (hh : X.A.handled = none) (hroom : X.A.in4.depth < recursionLimit) (hq : SqT X.K H1 q xs) (hx : cenv.kindOf x = some .local) (hp : (cenv.scope.kind == .class || (cenv.scope.kind == .module && cenv.locals != cenv.globals)) = false)
    (hC : cenv.locals = C) (ne : It ≠ a) (hco : cenv.scope.isCoroutine = false)
    (hel : EltH X (X.A.in4.in1.over (.compLoop (.GeneratorExp elt [⟨.Name x px, iter, [], 0⟩] scope pos) 0 (.ref It) .none cenv) []) H1 s1 C It a g cenv xs R tr elt x)
    (hg : s5.gens[g]? = some (.fresh (.compStart (.GeneratorExp elt [⟨.Name x px, iter, [], 0⟩] scope pos) 0 (.ref It) .none cenv))) (hj : JT X H1 s1 C It a g cenv q xs.length R 0 s5) :
    Yields X.prog X.w X.A.in1 a xs.length tr (GenJ X.prog X.w X.A.in4 a g xs.length (fun i v => v = .bool (tr i)) (JT X H1 s1 C It a g cenv q xs.length R)) (fun s => ∃ j, JT X H1 s1 C It a g cenv q xs.length R j s) ∧
      GenJ X.prog X.w X.A.in4 a g xs.length (fun i v => v = .bool (tr i)) (JT X H1 s1 C It a g cenv q xs.length R) 0 s5 := by
  refine ⟨Yields.in4_1 (GenJ.yields (A := X.A.in4) hh hroom (firm_tup I) fun i v e => e), hj, _, hg, fun s'' hj'' => ⟨rfl, ?_⟩⟩
  refine seg_start (A := X.A.in4.in1) hco (turns_tup I hh hq hx hp hC ne hel) (fun E' s Q hJ hQ => ?_) s'' s'' hj''
  obtain ⟨m, Hi, M, hit, hR⟩ := hJ
  obtain ⟨hit, _⟩ := hit (Nat.zero_le _)
  exact wpAny_pyIter_tupleiter hit hQ
end
section
variable {X : Cx} {pins : List (Addr × Obj)} {σ : L2.St} {H : Hp} {s : Shared}
/-- what the element asks, whatever the generator's frame -/
def EltAll (X : Cx) (σ : L2.St) (scope : Scope) (G : Expr) (H1 : Hp) (xs : List V) (R : Hp → Hp → Prop) (tr : Nat → Bool) (elt : Expr) (x : Str) : Prop :=
  ∀ (pins : List (Addr × Obj)) (s1 : Shared) (C It a g : Nat) (code : Value), Inv X pins σ H1 s1 →
    EltH X (X.A.in4.in1.over (.compLoop G 0 (.ref It) .none (genEnv scope (cloFrom X.env.cells scope.names []) C code builtinsNs X.env)) []) H1 s1 C It a g (genEnv scope (cloFrom X.env.cells scope.names []) C code builtinsNs X.env) xs (R H1) tr elt x
theorem gen_tup {c P : Addr} {elt iter : Expr} {x : Str} {px gpos : Pos} {scope : Scope} {te : TE} {k : Nat} {Q' : Value → Shared → Prop} {Rr : List V → (Nat → Bool) → (Hp → Hp → Prop) → Hp → Prop}
    (hr : Room k X.A) (TB : GxR.TabB X.base X.mg c P) (hcode : X.env.code = .ref c) (S : GxR.GenS X.env scope x) (hi : PE X iter te)
    (hs : ∀ v, genFold iter X.env v = pure v) (I : Inv X pins σ H s) (h : te σ H fun v H1 => ∃ (q : Addr) (xs : List V) (tr : Nat → Bool) (R : Hp → Hp → Prop), v = .ref q ∧ SqT X.K H1 q xs ∧ GxR.TabG H1 P ∧ EltAll X σ scope (.GeneratorExp elt [⟨.Name x px, iter, [], 0⟩] scope gpos) H1 xs R tr elt x ∧ (∀ H2, GxR.Tabbed P H1 H2 → R H1 H2) ∧ Rr xs tr R H1)
    (hQ : ∀ (xs : List V) (tr : Nat → Bool) (R : Hp → Hp → Prop) (H1 : Hp) (s1 : Shared) (a g : Addr) (s5 : Shared) (St : Nat → Shared → Prop) (Aft : Shared → Prop), Rr xs tr R H1 → s5.heap.IsGen a g → Yields X.prog X.w X.A.in1 a xs.length tr St Aft → St 0 s5 → (∀ s', Aft s' → ∃ H2, R H1 H2 ∧ Inv X pins σ H2 s') → Q' (.ref a) s5) :
    wpAny (model X.prog X.w) X.A (eval (.GeneratorExp elt [⟨.Name x px, iter, [], 0⟩] scope gpos) X.env) Q' X.xe s := by
  have hdp := hr.dp
  have hdp4 : X.A.in4.depth < recursionLimit := by
    first | (show X.A.depth < recursionLimit; omega) | (simp only [Around.in4, Around.in1, Around.under]; omega) | (unfold Around.in4; simp [Around.in1]; omega)
  refine wpAny_GeneratorExp_make S.co (closure_ok S.free) S.cell S.dot S.kind (by omega) ?_ hs
  refine thn (hi.run pins s σ H _ I h) fun xv s1 ⟨v, H1, I1, r1, q1⟩ => ?_
  obtain ⟨q, xs, tr, R, rfl, hq, ⟨ps, hP, ht⟩, hel, hR, hRr⟩ := q1
  cases r1
  obtain ⟨its, vr, htup, _⟩ := I1.tuple hq
  refine wpAny_pyIter_tuple htup ?_
  have hPs : s1.heap.get? P = some { cls := .none, data := .fields ps } := I1.hok P _ hP
  have hPlt : P < s1.heap.objs.size := Heap.lt_size hPs
  generalize ho : ({ cls := .type "tuple_iterator", data := .fields #[.ref q, .int 0 0] } : Obj) = o
  have hP2 : (s1.heap.push o).get? P = some { cls := .none, data := .fields ps } := Heap.get?_push_of_some _ hPs
  have cd : PySem.W.CodeHd (s1.heap.push o) c P := TB.code.keeps fun b u e => Heap.get?_push_of_some _ (I1.bk b u e)
  have lim2 : (s1.heap.push o).NoLimit := I1.nolimit.push o
  have hIt : (s1.heap.push o).get? s1.heap.objs.size = some o := by
    rw [← ho]
    exact Heap.get?_push_size _ rfl
  have cont : ∀ (code : Value) (h3 : Heap) (tk : Nat) (ps' : Array Value), Heap.ExtBut P (s1.heap.push o) h3 → (s1.heap.push o).objs.size ≤ h3.objs.size → h3.get? P = some { cls := .none, data := .fields ps' } → (∃ more, ps' = ps ++ more) → TriplesOk ps'.toList →
      wpAny (model X.prog X.w) X.A (builtinsFor X.env.globals X.env.builtins) (fun bi s₄ => ∀ h', h'.Ns s₄.heap.objs.size (fun y => if y = ".0" then some (.ref s1.heap.objs.size) else none) → Heap.SameBut s₄.heap.objs.size (s₄.heap.push { cls := .type "frame", data := .dict #[] }) h' →
          Q' (.ref h'.objs.size) { s₄ with
            gens := s₄.gens.push (.fresh (.compStart (.GeneratorExp elt [⟨.Name x px, iter, [], 0⟩] scope gpos) 0 (.ref s1.heap.objs.size) .none (genEnv scope (cloFrom X.env.cells scope.names []) s₄.heap.objs.size code bi X.env))),
            toks := s₄.toks + 1 + 1 + 1,
            heap := h'.push { cls := .type "generator", data := .fields #[.int s₄.gens.size 0, .str "<genexpr>" (s₄.toks + 1), .str (X.env.qual ++ "<genexpr>") (s₄.toks + 1 + 1)] } }) X.xe { s1 with heap := h3, toks := tk } := by
    intro code h3 tk ps' hx hsz hP3 hmore ht3
    obtain ⟨bm, ob, e1, e2, e3, e4, e5, e6, e7, e8⟩ := TB.bm
    have keep3 : ∀ b u, b ≠ P → s1.heap.get? b = some u → h3.get? b = some u := fun b u hb e => hx b u hb (Heap.get?_push_of_some _ e)
    have sz2 : (s1.heap.push o).objs.size = s1.heap.objs.size + 1 := Heap.size_push ..
    refine wpAny_builtinsFor (m := X.mg) (by rw [I1.ok.glob]; exact ((I1.mod.glob.keeps I1.bk).push o).extBut hx TB.gP) e1 e2 (keep3 _ _ e4 (I1.bk _ _ e5)) e6 e7 e8 ?_
    intro h' hn' hs'
    obtain ⟨more, em⟩ := hmore
    have hsz' : h'.objs.size = h3.objs.size + 1 := by rw [hs'.1, Heap.size_push]
    have lt3 : s1.heap.objs.size + 1 ≤ h3.objs.size := by omega
    have keep' : ∀ b u, h3.get? b = some u → h'.get? b = some u := fun b u e => hs'.extBut b u (Nat.ne_of_lt (Heap.lt_size e)) (Heap.get?_push_of_some _ e)
    obtain ⟨og, hgo⟩ : ∃ og : Obj, og = { cls := .type "generator", data := .fields #[.int s1.gens.size 0, .str "<genexpr>" (tk + 1), .str (X.env.qual ++ "<genexpr>") (tk + 1 + 1)] } := ⟨_, rfl⟩
    have keep5 : ∀ b u, h3.get? b = some u → (h'.push og).get? b = some u := fun b u e => Heap.get?_push_of_some _ (keep' b u e)
    have k5 : ∀ b u, b ≠ P → s1.heap.get? b = some u → (h'.push og).get? b = some u := fun b u hb e => keep5 b u (keep3 b u hb e)
    have hm : (h'.push og).get? P = some { cls := .none, data := .fields (ps ++ more) } := by rw [← em]; exact keep5 P _ hP3
    have none1 : ∀ {b : Addr}, s1.heap.objs.size ≤ b → s1.heap.get? b = none := fun hb => Heap.get?_none_of_le hb
    have none2 : ∀ {b : Addr}, s1.heap.objs.size ≤ b → upd H1 P (.tbl (ps ++ more)) b = none := fun {b} hb => by
      rw [upd_ne (fun z => by rw [z] at hb; exact absurd (Nat.lt_of_lt_of_le hPlt hb) (Nat.lt_irrefl _))]
      exact I1.hok.fresh hb
    have bare5 : AllBare (s1.gens.push (.fresh (.compStart (.GeneratorExp elt [⟨.Name x px, iter, [], 0⟩] scope gpos) 0 (.ref s1.heap.objs.size) .none (genEnv scope (cloFrom X.env.cells scope.names []) h3.objs.size code builtinsNs X.env)))) := I1.bare.push rfl
    have J := GxR.inv_tab (more := more) (h' := h'.push og) (g' := s1.gens.push (.fresh (.compStart (.GeneratorExp elt [⟨.Name x px, iter, [], 0⟩] scope gpos) 0 (.ref s1.heap.objs.size) .none (genEnv scope (cloFrom X.env.cells scope.names []) h3.objs.size code builtinsNs X.env)))) (d' := s1.drawn) (t' := tk + 1 + 1 + 1) I1 hP k5 hm bare5
    have nP : ∀ b, H1 b = none → b ≠ P := fun b e z => by rw [z, hP] at e; cases e
    have nT : ∀ b u, H1 b = some u → (∀ ws, u ≠ .tbl ws) → b ≠ P := fun b u e n z => by
      rw [z, hP] at e
      exact n ps (Option.some.inj e).symm
    have un5 : Un (frs X.stack) [] H1 (upd H1 P (.tbl (ps ++ more))) s1.heap (h'.push og) := by
      refine ⟨fun b u e n _ _ => k5 b u (nP b n) e, fun b u e n _ _ => ⟨u.slots, k5 b u (nP b n) e⟩, fun b u e n _ => by rw [upd_ne (nP b n)]; exact n, fun b u e _ => ?_, fun b ws e => ?_, fun b u u2 e => ?_, fun b ws e => ?_⟩
      · by_cases hb : b = P
        · rw [hb]; exact ⟨_, hm⟩
        · exact ⟨u, k5 b u hb e⟩
      · rw [upd_ne (nT b _ e (fun _ z => by cases z))]; exact e
      · rw [upd_ne (nT b _ e (fun _ z => by cases z))]; exact e
      · by_cases hb : b = P
        · subst hb
          rw [hP] at e
          cases e
          exact ⟨more, upd_same⟩
        · rw [upd_ne hb, e]
          exact ⟨#[], by simp⟩
    have itC : (s1.heap.objs.size : Addr) ≠ h3.objs.size := fun z => by
      have : s1.heap.objs.size = h3.objs.size := z
      omega
    have aC : (h'.objs.size : Addr) ≠ h3.objs.size := fun z => by
      have : h'.objs.size = h3.objs.size := z
      omega
    have itA : (s1.heap.objs.size : Addr) ≠ h'.objs.size := fun z => by
      have : s1.heap.objs.size = h'.objs.size := z
      omega
    have hit3 : h3.get? s1.heap.objs.size = some o := hx _ _ (fun z => by rw [z] at hPlt; exact Nat.lt_irrefl _ hPlt) hIt
    have isG : (h'.push og).IsGen h'.objs.size s1.gens.size := by
      rw [hgo]
      exact ⟨_, _, _, Heap.get?_push_size _ rfl, rfl, rfl, rfl⟩
    have M5 : Mid X H1 s1 h3.objs.size s1.heap.objs.size h'.objs.size s1.gens.size (genEnv scope (cloFrom X.env.cells scope.names []) h3.objs.size code builtinsNs X.env) (fun y => if y = ".0" then some (.ref s1.heap.objs.size) else none) (upd H1 P (.tbl (ps ++ more)))
        { s1 with gens := s1.gens.push (.fresh (.compStart (.GeneratorExp elt [⟨.Name x px, iter, [], 0⟩] scope gpos) 0 (.ref s1.heap.objs.size) .none (genEnv scope (cloFrom X.env.cells scope.names []) h3.objs.size code builtinsNs X.env))), toks := tk + 1 + 1 + 1, heap := h'.push og } := {
      os := rfl
      bare := bare5
      un := un5
      hok := J.hok
      ns := hn'.push _
      fr := rfl
      knd := by show scope.kind ≠ _; rw [S.kind]; decide
      nC := ⟨none1 (by omega), none2 (by omega)⟩
      nI := ⟨none1 (Nat.le_refl _), itC⟩
      na := ⟨none1 (by omega), none2 (by omega), aC⟩
      gen := isG
      gsz := by show s1.gens.size < (s1.gens.push _).size; rw [Array.size_push]; omega
      le := by omega }
    have Y := yields_tup (tr := tr) (R := R H1) (elt := elt) (x := x) (px := px) (iter := iter) (scope := scope) (pos := gpos) I1 hr.hd hdp4 hq (show (genEnv scope (cloFrom X.env.cells scope.names []) h3.objs.size code builtinsNs X.env).kindOf x = some .local from S.loc) (by simp [genEnv, S.kind]) rfl itA S.co
      (hel pins s1 _ _ _ _ _ I1) (Array.getElem?_push_size ..) (show JT X H1 s1 h3.objs.size s1.heap.objs.size h'.objs.size s1.gens.size _ q xs.length (R H1) 0 _ from ⟨_, _, M5, fun _ => ⟨⟨o, keep5 _ _ hit3, by rw [← ho], by rw [← ho]; rfl⟩, none2 (Nat.le_refl _)⟩, hR _ ⟨⟨ps ++ more, upd_same, by rw [← em]; exact ht3⟩, fun b hb => upd_ne hb⟩⟩)
    clear M5 J un5 hm k5 keep5 bare5
    subst hgo
    refine hQ xs tr R H1 s1 h'.objs.size s1.gens.size _ _ _ hRr isG Y.1 Y.2 fun s' ⟨j, m, Hi, M, _, hRi⟩ => ⟨Hi, hRi, ?_⟩
    obtain ⟨_, H', I', _, e⟩ := Mid.out (Q := fun _ H' => H' = Hi) (u := .none) (v := .non) I1 M rfl rfl
    rw [← e]
    exact I'
  refine ⟨lim2, ?_⟩
  cases hf : codeAmong gpos ps.toList with
  | none =>
    refine wpAny_genexprCodeX hcode (cd.code hP2 ht) (cd.tab hP2) hf fun c' h' tk hx hge hlt hco' _ htab' _ => ?_
    obtain ⟨o1, vs, f1, tf, fl, tg, inF, tx, tt, op, _, _, _, _, _, _, _, _, _, htr, _⟩ := hco'
    exact cont _ h' tk _ hx (Nat.le_trans hge (Nat.le_of_lt hlt)) htab'.2 ⟨_, rfl⟩ htr
  | some cv =>
    refine wpAny_genexprCode_hit hcode (cd.code hP2 ht) hf ?_
    exact cont cv (s1.heap.push o) s1.toks ps (Heap.ExtBut.refl _ _) (Nat.le_refl _) hP2 ⟨#[], by simp⟩ ht
/-- any(e for x in t), all(..): t a tuple; R H1 H2: what the elements keep -/
def tAnyT (X : Cx) (all : Bool) (P : Addr) (scope : Scope) (G elt : Expr) (x : Str) (te : TE) : TE := fun σ H Q => te σ H fun v H1 => ∃ (q : Addr) (xs : List V) (tr : Nat → Bool) (R : Hp → Hp → Prop), v = .ref q ∧ SqT X.K H1 q xs ∧ GxR.TabG H1 P ∧
  EltAll X σ scope G H1 xs R tr elt x ∧ (∀ H2, GxR.Tabbed P H1 H2 → R H1 H2) ∧ ∀ H2, R H1 H2 → Q (.bl (if all then (List.range xs.length).all tr else (List.range xs.length).any tr)) H2
end
section
variable {X : Cx} {c P : Addr} {elt iter : Expr} {x : Str} {px p pos gpos : Pos} {scope : Scope} {te : TE} {k : Nat}
theorem pe_anyT (hr : Room k X.A) (hg : Gl X "any") (hm : X.mg "any" = none) (hb : bootBuiltins "any" = some (.builtin "any")) (TB : GxR.TabB X.base X.mg c P) (hcode : X.env.code = .ref c) (S : GxR.GenS X.env scope x) (hi : PE X iter te)
    (hs : ∀ v, genFold iter X.env v = pure v)
    (he : starEach [.GeneratorExp elt [⟨.Name x px, iter, [], 0⟩] scope gpos] X.env = (false, eval (.GeneratorExp elt [⟨.Name x px, iter, [], 0⟩] scope gpos) X.env) :: starEach [] X.env := by rfl) :
    PE X (.Call (.Name "any" p) [.GeneratorExp elt [⟨.Name x px, iter, [], 0⟩] scope gpos] [] pos) (tAnyT X false P scope (.GeneratorExp elt [⟨.Name x px, iter, [], 0⟩] scope gpos) elt x te) := by
  refine ⟨fun pins s σ H Q I h => ?_⟩
  refine wpAny_Call_Name_kw (ld_blt I hg hm hb ?_)
  refine PyProof.Rows.callWith_builtin1 ?_ he (by rfl)
  rw [he]
  show wpAny _ _ (spliced ((false, eval (.GeneratorExp elt [⟨.Name x px, iter, [], 0⟩] scope gpos) X.env) :: backTo pos (starEach [] X.env))) _ _ s
  refine Calls.spliced_cons (gen_tup (Rr := fun xs tr R H1 => ∀ H2, R H1 H2 → Q (.bl ((List.range xs.length).any tr)) H2) hr TB hcode S hi hs I h fun xs tr R H1 s1 a g s5 St Aft hR hg5 Y h0 hI => ?_)
  refine Calls.spliced_nil ?_
  refine call_any hg5 Y h0 fun s' ha => ?_
  obtain ⟨H2, hR2, I2⟩ := hI s' ha
  exact ⟨.bl _, H2, I2, rfl, hR H2 hR2⟩
theorem pe_allT (hr : Room k X.A) (hg : Gl X "all") (hm : X.mg "all" = none) (hb : bootBuiltins "all" = some (.builtin "all")) (TB : GxR.TabB X.base X.mg c P) (hcode : X.env.code = .ref c) (S : GxR.GenS X.env scope x) (hi : PE X iter te)
    (hs : ∀ v, genFold iter X.env v = pure v)
    (he : starEach [.GeneratorExp elt [⟨.Name x px, iter, [], 0⟩] scope gpos] X.env = (false, eval (.GeneratorExp elt [⟨.Name x px, iter, [], 0⟩] scope gpos) X.env) :: starEach [] X.env := by rfl) :
    PE X (.Call (.Name "all" p) [.GeneratorExp elt [⟨.Name x px, iter, [], 0⟩] scope gpos] [] pos) (tAnyT X true P scope (.GeneratorExp elt [⟨.Name x px, iter, [], 0⟩] scope gpos) elt x te) := by
  refine ⟨fun pins s σ H Q I h => ?_⟩
  refine wpAny_Call_Name_kw (ld_blt I hg hm hb ?_)
  refine PyProof.Rows.callWith_builtin1 ?_ he (by rfl)
  rw [he]
  show wpAny _ _ (spliced ((false, eval (.GeneratorExp elt [⟨.Name x px, iter, [], 0⟩] scope gpos) X.env) :: backTo pos (starEach [] X.env))) _ _ s
  refine Calls.spliced_cons (gen_tup (Rr := fun xs tr R H1 => ∀ H2, R H1 H2 → Q (.bl ((List.range xs.length).all tr)) H2) hr TB hcode S hi hs I h fun xs tr R H1 s1 a g s5 St Aft hR hg5 Y h0 hI => ?_)
  refine Calls.spliced_nil ?_
  refine call_all hg5 Y h0 fun s' ha => ?_
  obtain ⟨H2, hR2, I2⟩ := hI s' ha
  exact ⟨.bl _, H2, I2, rfl, hR H2 hR2⟩
end
end GI

set_option Elab.async false
set_option linter.all false
set_option maxRecDepth 100000
/-! the element: a def called with captured names and the walked one -/
namespace GI
open PySem PySem.Spec PyProof.Rows L2 LK
section
variable {X : Cx} {pins : List (Addr × Obj)} {σ : L2.St} {H1 Hi : Hp} {s1 s : Shared} {C It a : Addr} {g : Nat} {cenv : Env} {m : Str → Option Value}
theorem Mid.bk (I : Inv X pins σ H1 s1) (M : Mid X H1 s1 C It a g cenv m Hi s) : ∀ b o, X.base.get? b = some o → s.heap.get? b = some o := fun b o e => by
  have E := I.env0
  obtain ⟨e1, n1⟩ := E.bs b o e
  refine M.un.keep b o e1 n1 (fun hb => ?_) (by simp)
  have := (Heap.FunFrames.mem E.funs hb).1
  rw [e] at this
  cases this
/-- a captured name -/
structure Cap (X : Cx) (scope : Scope) (j : Nat) (y : Str) : Prop where
  free : scope.names.lookup y = some .free
  at_ : X.N[j]? = some y
  cell : X.env.scope.names.lookup y = some .cell
  clo : ∀ c, X.env.cells.lookup y = some c → (cloFrom X.env.cells scope.names []).lookup y = some c
  dbg : (y == ("__debug__" : Str)) = false
  cls : (y == ("__classdict__" : Str)) = false
theorem cap_read {scope : Scope} {j : Nat} {y : Str} {v : V} {code : Value} (I : Inv X pins σ H1 s1) (hk : scope.kind = .function) (c : Cap X scope j y) (hσ : σ[j]? = some (some v)) :
    ∃ u, RelV v u ∧ ∀ {C It a : Addr} {g : Nat} {m : Str → Option Value} {Hi : Hp} {s : Shared} {A' : Around} {E' : Value → Shared → Prop} {Q : Value → Shared → Prop} {p : Pos},
      Mid X H1 s1 C It a g (genEnv scope (cloFrom X.env.cells scope.names []) C code builtinsNs X.env) m Hi s → Q u s → wpAny (model X.prog X.w) A' (eval (.Name y p) (genEnv scope (cloFrom X.env.cells scope.names []) C code builtinsNs X.env)) Q E' s := by
  obtain ⟨m0, _, look⟩ := I.loc
  obtain ⟨u, r, hl⟩ := look j y v c.at_ hσ (.inr (.inl c.cell))
  have hcell : ∃ cc, X.env.cells.lookup y = some cc ∧ s1.heap.IsCell cc (some u) := by
    rcases hl with ⟨h, _⟩ | ⟨_, h⟩
    · have : X.env.kindOf y = some .cell := c.cell
      rw [this] at h; cases h
    · exact h
  obtain ⟨cc, h1, o, ho, hd⟩ := hcell
  refine ⟨u, r, fun {C It a g m Hi s A' E' Q p} M q => ?_⟩
  obtain ⟨sl, e⟩ := M.un.any ho (I.freeC y cc h1) (by simp)
  exact wpAny_Name (wpAny_loadName_free (by exact hk) (by exact c.free) (by exact c.clo cc h1) ⟨_, e, hd⟩ q c.cls) c.dbg
end
section
variable {X : Cx} {pins : List (Addr × Obj)} {σ : L2.St} {H1 : Hp} {s1 : Shared} {elt target iter : Expr} {ifs : List Expr} {scope : Scope} {pos : Pos} {It : Value} {cenv : Env} {k : Nat} {C0 : Addr}
def genA (A : Around) (G : Expr) (It : Value) (cenv : Env) : Around := A.in4.in1.over (.compLoop G 0 It .none cenv) []
theorem genA_room (hr : Room (k + 1) X.A) : Room k (genA X.A (.GeneratorExp elt [⟨target, iter, ifs, 0⟩] scope pos) It cenv) :=
  ⟨hr.hd, by have := hr.dp; show X.A.depth + 1 + 3 * k + 5 < _; omega, by have := hr.un; show X.A.units + 1 + 1 + 1 + 1 + 1 + 3 + 16 * k + 200 < _; omega⟩
theorem genA_frames {A : Around} {l : List Env} (h : A.frames = some l) (hf : cenv.frame = some C0) : (genA A (.GeneratorExp elt [⟨target, iter, ifs, 0⟩] scope pos) It cenv).frames = some (cenv :: l) := by
  obtain ⟨x1, x2, fr, x4, x5⟩ := A
  obtain rfl : fr = some l := h
  first | rfl | simp [genA, Around.over, Around.in4, Around.in1, Around.under, pushEnvs, Code.envs, Code.isFrame, Code.env?, envsOf, hf]
theorem genA_guards {A : Around} (h : A.guards = some []) : (genA A (.GeneratorExp elt [⟨target, iter, ifs, 0⟩] scope pos) It cenv).guards = some [] := by
  obtain ⟨x1, x2, x3, gd, x5⟩ := A
  obtain rfl : gd = some [] := h
  first | rfl | simp [genA, Around.over, Around.in4, Around.in1, Around.under, pushGuards, Code.guards, Code.isGuard, guardsOf]
end
section
variable {X : Cx} {σ : L2.St} {H1 : Hp} {iter : Expr} {scope : Scope} {gpos px pf p1 p2 p3 ppos : Pos} {f y1 y2 x : Str} {j1 j2 k : Nat} {ps : List Str} {sp : Sp} {v1 v2 : V} {xs : List V} {R : Hp → Hp → Prop} {tr : Nat → Bool} {c : Addr}
/-- f(y1, y2, x): y1 and y2 captured -/
theorem elt3 (U : Use X.prog X.w X.K X.mg X.base CX0 f k ps sp) (hr : Room (k + 1) X.A) (gd : X.A.guards = some []) (S : GxR.GenS X.env scope x) (hgf : scope.names.lookup f = some .globalImplicit) (hdb : (f == ("__debug__" : Str)) = false) (hdx : (x == ("__debug__" : Str)) = false)
    (c1 : Cap X scope j1 y1) (c2 : Cap X scope j2 y2) (h1 : σ[j1]? = some (some v1)) (h2 : σ[j2]? = some (some v2))
    (hsp : ∀ Hi i v, xs[i]? = some v → R H1 Hi → sp [v1, v2, v] Hi (fun y H' => y = .bl (tr i) ∧ R H1 H') E0) :
    EltAll X σ scope (.GeneratorExp (.Call (.Name f pf) [.Name y1 p1, .Name y2 p2, .Name x p3] [] ppos) [⟨.Name x px, iter, [], 0⟩] scope gpos) H1 xs R tr (.Call (.Name f pf) [.Name y1 p1, .Name y2 p2, .Name x p3] [] ppos) x := by
  intro pins s1 C It a g code I1 E' i v u s m Hi hv r hm M hR
  obtain ⟨fa, fd, ok, hmg, kp, hb⟩ := U.ex
  obtain ⟨u1, r1, ld1⟩ := cap_read (code := code) I1 S.kind c1 h1
  obtain ⟨u2, r2, ld2⟩ := cap_read (code := code) I1 S.kind c2 h2
  refine wpAny_Call_Name_kw (Calls.Name_function_global S.kind hgf (Calls.loadGlobal_global (mg := X.mg) (by show s.heap.Ns X.env.globals _; rw [I1.ok.glob]; exact I1.mod.glob.keeps (M.bk I1)) hmg ?_) hdb)
  refine PySem.W.callWith_K (h₀ := X.base) I1.ok.mod.kin kp ?_ (by rfl) (by rfl)
  refine Calls.spliced_cons (ld1 M (Calls.spliced_cons (ld2 M (Calls.spliced_cons (wpAny_Name (wpAny_loadName_local S.kind S.loc M.ns hm (Calls.spliced_nil ⟨M.kin I1, ?_⟩)) hdx)))))
  refine wpAny_mono (Mid.call (us := [u1, u2, u]) (vs := [v1, v2, v]) I1 M ok hb (genA_room hr) (genA_guards gd) (genA_frames I1.ok.frames (C0 := C) rfl) (.cons r1 (.cons r2 (.cons r .nil))) (hsp Hi i v hv hR)) (fun y s' h => ?_) fun _ _ e => e
  obtain ⟨v', H', rv, ⟨rfl, hR'⟩, M', hI⟩ := h
  cases rv
  exact ⟨H', rfl, M', hR', hI⟩
/-- f(x) -/
theorem elt1 (U : Use X.prog X.w X.K X.mg X.base CX0 f k ps sp) (hr : Room (k + 1) X.A) (gd : X.A.guards = some []) (S : GxR.GenS X.env scope x) (hgf : scope.names.lookup f = some .globalImplicit) (hdb : (f == ("__debug__" : Str)) = false) (hdx : (x == ("__debug__" : Str)) = false)
    (hsp : ∀ Hi i v, xs[i]? = some v → R H1 Hi → sp [v] Hi (fun y H' => y = .bl (tr i) ∧ R H1 H') E0) :
    EltAll X σ scope (.GeneratorExp (.Call (.Name f pf) [.Name x p3] [] ppos) [⟨.Name x px, iter, [], 0⟩] scope gpos) H1 xs R tr (.Call (.Name f pf) [.Name x p3] [] ppos) x := by
  intro pins s1 C It a g code I1 E' i v u s m Hi hv r hm M hR
  obtain ⟨fa, fd, ok, hmg, kp, hb⟩ := U.ex
  refine wpAny_Call_Name_kw (Calls.Name_function_global S.kind hgf (Calls.loadGlobal_global (mg := X.mg) (by show s.heap.Ns X.env.globals _; rw [I1.ok.glob]; exact I1.mod.glob.keeps (M.bk I1)) hmg ?_) hdb)
  refine PySem.W.callWith_K (h₀ := X.base) I1.ok.mod.kin kp ?_ (by rfl) (by rfl)
  refine Calls.spliced_cons (wpAny_Name (wpAny_loadName_local S.kind S.loc M.ns hm (Calls.spliced_nil ⟨M.kin I1, ?_⟩)) hdx)
  refine wpAny_mono (Mid.call (us := [u]) (vs := [v]) I1 M ok hb (genA_room hr) (genA_guards gd) (genA_frames I1.ok.frames (C0 := C) rfl) (.cons r .nil) (hsp Hi i v hv hR)) (fun y s' h => ?_) fun _ _ e => e
  obtain ⟨v', H', rv, ⟨rfl, hR'⟩, M', hI⟩ := h
  cases rv
  exact ⟨H', rfl, M', hR', hI⟩
end
end GI

set_option Elab.async false
set_option linter.all false
set_option maxRecDepth 100000
/-! the end of a law whose defs have tables of code objects -/
namespace GI
open PySem PySem.Spec PyProof.Rows L2 LK
/-- what is tracked at the beginning: the script (standing still) and the tables -/
def OnlyT (cs : List (Addr × Addr)) (H : Hp) : Prop := ∀ b, H b = none ∨ (∃ p ∈ cs, b = p.2) ∨ ∃ o xs, H b = some (.frz o (.lst xs))
theorem law_callGT {P : Program} {w : World} {K : PySem.W.Frag} {mg mb : Str → Option Value} {CX : CXT} {k : Nat} {fa a : Addr} {fd : FuncData} {x : Str} {sp : Sp} {s₁ : Shared} {vs : List Value} {ns : List Int} {cs : List (Addr × Addr)}
    (inn : K.In s₁.heap) (hns : s₁.heap.Ns mainGlobals mg) (hb : s₁.heap.Ns builtinsNs mb) (hbb : ∀ x : Str, x ≠ "__name__" → mb x = bootBuiltins x) (hlim : s₁.heap.NoLimit) (hgens : s₁.gens = #[])
    (hT : ∀ p ∈ cs, s₁.heap.get? p.2 = some { cls := .none, data := .fields #[] }) (nT : ∀ p ∈ cs, K.lookup p.2 = none) (C : ∀ p ∈ cs, PySem.W.CodeHd s₁.heap p.1 p.2)
    (hTB : ∀ base : Heap, (∀ b o, s₁.heap.get? b = some o → o.data ≠ .fields #[] → (∀ its n, o.data ≠ .seq its n) → base.get? b = some o) → ∀ p ∈ cs, GxR.TabB base mg p.1 p.2)
    (ha : s₁.heap.get? a = some { cls := .type "list", data := .seq vs.toArray }) (hi : IntsAre vs ns) (hl : ns.length ≤ sizeLine) (hr : Room k callerA)
    (F : ∀ base : Heap, K.In base → base.Ns mainGlobals mg → (∀ p ∈ cs, GxR.TabB base mg p.1 p.2) → FnG P w K mg base CX k fa fd [x] sp) (hbind : ∀ (s : Shared) (u : Value), BindsTo s fd ⟨[u], []⟩ [(x, u)])
    (hsp : ∀ H : Hp, OnlyT cs H → (∀ p ∈ cs, H p.2 = some (.tbl #[])) → SqL K H a (ns.map V.int) → sp [.ref a] H (fun v _ => v = .bl true) fun _ _ _ => False)
    (hCX : ∀ H e s', CX [] H s₁ (fun _ _ _ => False) e s' → False) :
    codeAny (model P w) callerA (.call (.ref fa) ⟨[.ref a], []⟩) (fun r s' => r = .ok (.ret (.bool true)) ∧ OldK s₁.heap s'.heap ∧ s'.os = s₁.os ∧ AllBare s'.gens) s₁ := by
  have rv := vals_ints hi
  have aT : ∀ p ∈ cs, p.2 ≠ a := fun p hp z => by
    have e := hT p hp
    rw [z, ha] at e
    cases e
  have run : ∀ H : Hp, OnlyT cs H → (∀ p ∈ cs, H p.2 = some (.tbl #[])) → SqL K H a (ns.map V.int) → HOk P w H s₁.heap → (∀ b u, H b = some u → (b = a ∧ K.lookup a = none) ∨ ∃ p ∈ cs, b = p.2) →
      codeAny (model P w) callerA (.call (.ref fa) ⟨[.ref a], []⟩) (fun r s' => r = .ok (.ret (.bool true)) ∧ OldK s₁.heap s'.heap ∧ s'.os = s₁.os ∧ AllBare s'.gens) s₁ := by
    intro H only tabs hS hok at_a
    have free : ∀ {b : Addr} {o : Obj}, s₁.heap.get? b = some o → o.data ≠ .fields #[] → (∀ its n, o.data ≠ .seq its n) → H b = none := fun {b o} e hf hd => by
      cases q : H b with
      | none => rfl
      | some u =>
        rcases at_a b u q with ⟨rfl, _⟩ | ⟨p, hp, rfl⟩
        · rw [ha] at e; cases e
          exact absurd rfl (hd _ _)
        · rw [hT p hp] at e; cases e
          exact absurd rfl hf
    have names : ∀ {b : Addr} {m : Str → Option Value}, s₁.heap.Ns b m → (hidT s₁.heap H).Ns b m := fun {b m} hn => by
      obtain ⟨o, es, ep, e, d, r⟩ := hn
      exact ⟨o, es, ep, hidT_get e (free e (fun z => by rw [d] at z; cases z) fun its n z => by rw [d] at z; cases z), d, r⟩
    have inb : K.In (hidT s₁.heap H) := fun b o e => by
      refine hidT_get (inn b o e) ?_
      cases q : H b with
      | none => rfl
      | some u =>
        rcases at_a b u q with ⟨rfl, hk⟩ | ⟨p, hp, rfl⟩
        · rw [e] at hk; cases hk
        · rw [nT p hp] at e; cases e
    have md : Mod K mg (hidT s₁.heap H) := by
      obtain ⟨mc, h1, h2⟩ := hlim
      exact ⟨inb, names hns, ⟨mb, names hb, hbb⟩, ⟨mc, names h1, h2⟩⟩
    have none_in : ∀ b : Addr, b ∉ ([] : List Addr) := fun b z => nomatch z
    have e0 : Env0 P w K mg (hidT s₁.heap H) callerA [] s₁ H := ⟨rfl, md, fun b o e => of_hidT e, Nat.le_of_eq (hidT_size _ _), trivial, fun b z => absurd z (none_in b), hok, .of_eq hgens⟩
    refine codeAny_mono ((F _ inb (names hns) (hTB _ fun b o e h1 h2 => hidT_get e (free e h1 h2))).run callerA [] s₁ H ⟨[.ref a], []⟩ [.ref a] [.ref a] _ _ hr rfl e0 (hbind s₁ (.ref a)) (.cons rfl .nil) (hsp H only tabs hS)) fun r s' h => ?_
    match r, h with
    | .error e, h => exact (hCX H e s' h).elim
    | .ok .next, h => exact False.elim h
    | .ok .brk, h => exact False.elim h
    | .ok .cont, h => exact False.elim h
    | .ok (.ret u), h =>
      obtain ⟨v, H', os, bare, un, hok', r', q⟩ := h
      obtain rfl : v = V.bl true := q
      obtain rfl : u = Value.bool true := r'
      have other : ∀ b o, (∀ p ∈ cs, b ≠ p.2) → s₁.heap.get? b = some o → s'.heap.get? b = some o := fun b o nb e => by
        rcases only b with q | ⟨p, hp, z⟩ | ⟨ob, xs, z⟩
        · exact un.keep b o e q (none_in b) (none_in b)
        · exact absurd z (nb p hp)
        · have e1 : s₁.heap.get? b = some ob := (hok b _ z).1
          rw [e] at e1; cases e1
          exact (hok' b _ (un.frzs b o _ z)).1
      have grown : ∀ p ∈ cs, ∃ more : Array Value, s'.heap.get? p.2 = some { cls := .none, data := .fields more } := fun p hp => by
        obtain ⟨more, z⟩ := un.tbls p.2 #[] (tabs p hp)
        exact ⟨_, hok' p.2 _ z⟩
      refine ⟨rfl, ⟨fun b o e => ?_, fun b o e => ?_⟩, os, bare⟩
      · by_cases hb : ∃ p ∈ cs, b = p.2
        · obtain ⟨p, hp, rfl⟩ := hb
          obtain ⟨more, hm⟩ := grown p hp
          rw [hT p hp] at e
          cases e
          exact .inr (.inl ⟨((C p hp).tab (hT p hp)).isCodeTable, rfl, #[], more, rfl, by rw [Array.empty_append]; exact hm⟩)
        · exact .inl (other b o (fun p hp z => hb ⟨p, hp, z⟩) e)
      · by_cases hb : ∃ p ∈ cs, b = p.2
        · obtain ⟨p, hp, rfl⟩ := hb
          obtain ⟨more, hm⟩ := grown p hp
          exact ⟨_, hm⟩
        · exact ⟨o, other b o (fun p hp z => hb ⟨p, hp, z⟩) e⟩
  classical
  let tabH : Hp := fun b => if ∃ p ∈ cs, b = p.2 then some (.tbl #[]) else none
  have tab1 : ∀ p ∈ cs, tabH p.2 = some (.tbl #[]) := fun p hp => if_pos ⟨p, hp, rfl⟩
  have tab2 : ∀ b u, tabH b = some u → (∃ p ∈ cs, b = p.2) ∧ u = .tbl #[] := fun b u z => by
    by_cases hb : ∃ p ∈ cs, b = p.2
    · have z' := (if_pos hb).symm.trans z
      exact ⟨hb, (Option.some.inj z').symm⟩
    · have z' := (if_neg hb).symm.trans z
      cases z'
  have tab0 : tabH a = none := if_neg fun ⟨p, hp, z⟩ => aT p hp z.symm
  have tabO : ∀ b, tabH b = none ∨ ∃ p ∈ cs, b = p.2 := fun b => by
    by_cases hb : ∃ p ∈ cs, b = p.2
    · exact .inr hb
    · exact .inl (if_neg hb)
  cases hk : K.lookup a with
  | some o =>
    have e := inn a o hk
    rw [ha] at e; cases e
    have sz : vs.toArray.size ≤ sizeLine := by rw [List.size_toArray, hi.length]; exact hl
    refine run tabH (fun b => (tabO b).imp id .inl) tab1 (.inr ⟨_, vs.toArray, _, hk, rfl, rfl, rfl, sz, by simpa using rv⟩) (fun b u z => ?_) fun b u z => .inr (tab2 b u z).1
    obtain ⟨⟨p, hp, rfl⟩, rfl⟩ := tab2 b u z
    exact hT p hp
  | none =>
    let u0 : HO := .frz { cls := .type "list", data := .seq vs.toArray } (.lst (ns.map V.int))
    refine run (upd tabH a u0) (fun b => ?_) (fun p hp => by rw [upd_ne (aT p hp)]; exact tab1 p hp) (.inl (.inr ⟨_, upd_same⟩)) (fun b u z => ?_) fun b u z => ?_
    · by_cases hb : b = a
      · subst hb; exact .inr (.inr ⟨_, _, upd_same⟩)
      · rw [upd_ne hb]
        exact (tabO b).imp id .inl
    · by_cases hb : b = a
      · subst hb
        rw [upd_same] at z
        cases z
        exact ⟨ha, by rw [List.length_map]; exact hl, vs, _, rv, ha⟩
      · rw [upd_ne hb] at z
        obtain ⟨⟨p, hp, rfl⟩, rfl⟩ := tab2 b u z
        exact hT p hp
    · by_cases hb : b = a
      · exact .inl ⟨hb, hk⟩
      · rw [upd_ne hb] at z
        exact .inr (tab2 b u z).1
/-- the tables' facts in every base that keeps what is no list and no empty table -/
theorem tabB_of {mg : Str → Option Value} {h base : Heap} {c P : Addr} (hns : h.Ns mainGlobals mg) (hT : h.get? P = some { cls := .none, data := .fields #[] }) (C : PySem.W.CodeHd h c P)
    (hbm : ∃ (bm : Addr) (ob : Obj), mg "__builtins__" = some (.ref bm) ∧ bm ≠ builtinsNs ∧ h.get? bm = some ob ∧ ob.cls = .type "module" ∧ ob.dict = some builtinsNs ∧ ob.data = .plain)
    (k : ∀ b o, h.get? b = some o → o.data ≠ .fields #[] → (∀ its n, o.data ≠ .seq its n) → base.get? b = some o) : GxR.TabB base mg c P := by
  refine ⟨?_, ?_, fun z => ?_⟩
  · obtain ⟨o, us, file, tf, flags, tg, inF, text, tt, e1, r1, r2, r3, rest⟩ := C
    refine ⟨o, us, file, tf, flags, tg, inF, text, tt, k _ _ e1 (fun z => ?_) (fun its n z => ?_), r1, r2, r3, rest⟩
    · rw [r2] at z
      cases z
      simp at r3
    · rw [r2] at z
      cases z
  · obtain ⟨bm, ob, b1, b2, b3, b4, b5, b6⟩ := hbm
    refine ⟨bm, ob, b1, b2, fun q => ?_, fun q => ?_, k _ _ b3 (fun z => ?_) (fun its n z => ?_), b4, b5, b6⟩
    · obtain ⟨o, es, ep, e, hd, _⟩ := hns
      rw [q, e] at b3
      cases b3
      rw [hd] at b6
      cases b6
    · rw [q, hT] at b3
      cases b3
      cases b6
    · rw [b6] at z; cases z
    · rw [b6] at z; cases z
  · obtain ⟨o, es, ep, e, hd, _⟩ := hns
    rw [z, hT] at e
    cases e
    cases hd
/-- as walkG, with the tables of code objects -/
theorem walkGT {l : PySem.W.OpenLaw} {n k : Nat} {q : Program} {loose : List Str} {XP : (Str → Option Value) → Heap → Prop} {YP : World → Heap → Prop} {d : DefRec} {K : Params → PySem.W.Frag} {CX : CXT} {x : Str}
    (hn : l.most = some n) (hn2 : n ≤ sizeLine) (hdf : d.params.defaults = []) (hr : Room k callerA)
    (hY : ∀ (w : World) (h : Heap), YP w h → (K w.params).In h)
    (F : ∀ (w : World) (mg : Str → Option Value) (fa : Addr) (h : Heap), YP w h → (K w.params).In h → h.Ns mainGlobals mg → mg d.name = some (.ref fa) →
      ∃ (fd : FuncData) (cs : List (Addr × Addr)) (sp : Sp), (∀ p ∈ cs, h.get? p.2 = some { cls := .none, data := .fields #[] }) ∧ (∀ p ∈ cs, (K w.params).lookup p.2 = none) ∧ (∀ p ∈ cs, PySem.W.CodeHd h p.1 p.2) ∧ (∀ (s : Shared) (u : Value), BindsTo s fd ⟨[u], []⟩ [(x, u)]) ∧
        (∀ base : Heap, (K w.params).In base → base.Ns mainGlobals mg → (∀ p ∈ cs, GxR.TabB base mg p.1 p.2) → FnG l.prog w (K w.params) mg base CX k fa fd [x] sp) ∧
        ∀ (H : Hp) (a : Addr) (ns : List Int), ns.length ≤ n → OnlyT cs H → (∀ p ∈ cs, H p.2 = some (.tbl #[])) → SqL (K w.params) H a (ns.map V.int) → sp [.ref a] H (fun v _ => v = .bl true) fun _ _ _ => False)
    (hCX : ∀ (H : Hp) (s : Shared) (e : Value) (s' : Shared), CX [] H s (fun _ _ _ => False) e s' → False) :
    PySem.W.WalkO q loose XP YP l.row.toRowW d [] (fun f vs => PySem.call f vs) :=
  Att.attach_call hn hdf fun w s₀ s₁ mg mb fa o pm cd doc a vs ns G Y ho hd hcd hmg hobj hints hlen hg =>
    let ⟨fd, cs, sp, hT, nT, C, hb, hF, hsp⟩ := F w mg fa _ Y (hY w _ Y) G.T.g hmg
    law_callGT (hY w _ Y) G.T.g G.T.b G.T.builtins G.T.nolimit hg hT nT C (fun base hk p hp => tabB_of G.T.g (hT p hp) (C p hp) G.T.bmain hk) hobj hints (Nat.le_trans hlen hn2) hr hF hb (fun H hO hT hS => hsp H a ns hlen hO hT hS) fun H e s' => hCX H s₁ e s'
end GI

set_option Elab.async false
set_option linter.all false
set_option maxRecDepth 100000
/-! an int against an int or a boolean: less, at most -/
namespace LK
open PySem PySem.Spec PyProof.Rows L2
def NumI (x : V) (i : Int) : Prop := x = .int i ∨ ∃ b, x = .bl b ∧ i = if b then 1 else 0
section
open PySem.SeqAt
theorem g_lt_bi (x : Bool) (n : Int) (t : Tok) : Gives (Builtin.«int.__lt__» ⟨[.bool x, .int n t], []⟩) (.val (.bool (decide ((if x = true then (1 : Int) else 0) < n)))) := by
  refine .of_wp fun M A E s Q h => ?_
  rcases s with ⟨h1, h2, h3, h4, h5⟩
  wp_walk
  exact ⟨_, rfl, h⟩
theorem g_ge_bi (x : Bool) (n : Int) (t : Tok) : Gives (Builtin.«int.__ge__» ⟨[.bool x, .int n t], []⟩) (.val (.bool (decide ((if x = true then (1 : Int) else 0) ≥ n)))) := by
  refine .of_wp fun M A E s Q h => ?_
  rcases s with ⟨h1, h2, h3, h4, h5⟩
  wp_walk
  exact ⟨_, rfl, h⟩
theorem lt_bool_int {prog : Program} {w : World} {A : Around} {E : Value → Shared → Prop} {s : Shared} {Q : Value → Shared → Prop} {a : Bool} {b : Int} {u : Tok} (h : Q (.bool (decide ((if a then 1 else 0) < b))) s) : wpAny (model prog w) A (compareOp .Lt (.bool a) (.int b u)) Q E s := by
  show wpAny _ _ (richCompare .Lt (.bool a) (.int b u)) _ _ _
  exact rc_left_or (s := s) rfl (typeIs_int s b u) (by decide) F.sub_int_bool F.slot_bool_lt (call_gives F.slot_bool_lt rfl F.entry_int_lt (F.args_int_lt_2 _ _) (g_lt_bi a b u) ⟨nofun, h⟩) (.inl rfl)
theorem le_int_bool {prog : Program} {w : World} {A : Around} {E : Value → Shared → Prop} {s : Shared} {Q : Value → Shared → Prop} {a : Int} {t : Tok} {b : Bool} (h : Q (.bool (decide (a ≤ if b then 1 else 0))) s) : wpAny (model prog w) A (compareOp .LtE (.int a t) (.bool b)) Q E s := by
  show wpAny _ _ (richCompare .LtE (.int a t) (.bool b)) _ _ _
  exact rc_sub_first_or (s := s) (typeIs_int s a t) rfl (by decide) F.sub_bool_int F.slot_bool_ge_refl (call_gives F.slot_bool_ge_refl rfl F.entry_int_ge (F.args_int_ge_2 _ _) (g_ge_bi b a t) ⟨nofun, h⟩) (.inl rfl)
end
theorem op_leN {X : Cx} : OpR X (compareOp .LtE) (fun x y H Q => ∃ i j, x = .int i ∧ NumI y j ∧ Q (.bl (decide (i ≤ j))) H) := by
  intro pins s σ H x y v u Q I rx ry h
  obtain ⟨i, j, rfl, hy, q⟩ := h
  obtain ⟨t, rfl⟩ := rx
  rcases hy with rfl | ⟨b, rfl, rfl⟩
  · obtain ⟨t', rfl⟩ := ry
    exact le_int (fin_bl I q rfl)
  · cases ry
    exact le_int_bool (fin_bl I q rfl)
theorem op_ltN {X : Cx} : OpR X (compareOp .Lt) (fun x y H Q => ∃ i j, NumI x i ∧ y = .int j ∧ Q (.bl (decide (i < j))) H) := by
  intro pins s σ H x y v u Q I rx ry h
  obtain ⟨i, j, hx, rfl, q⟩ := h
  obtain ⟨t, rfl⟩ := ry
  rcases hx with rfl | ⟨b, rfl, rfl⟩
  · obtain ⟨t', rfl⟩ := rx
    exact lt_int (fin_bl I q rfl)
  · cases rx
    exact lt_bool_int (fin_bl I q rfl)
end LK

set_option Elab.async false
set_option linter.all false
set_option maxRecDepth 100000
/-! defs with a table of code objects: their promises, the end of a law -/
namespace LK
open PySem PySem.Spec PyProof.Rows L2
/-- all but tables of code objects is kept -/
def SameN (H H' : Hp) : Prop := ∀ b o, (∀ ps, o ≠ .tbl ps) → H b = some o → H' b = some o
theorem SameN.refl (H : Hp) : SameN H H := fun _ _ _ e => e
theorem SameN.trans {H H1 H2 : Hp} (a : SameN H H1) (b : SameN H1 H2) : SameN H H2 := fun c o n e => b c o n (a c o n e)
theorem same_n {H H' : Hp} (S : Same H H') : SameN H H' := fun b o _ e => S b o e
theorem SameN.lst {H H' : Hp} {p : Addr} {xs : List V} (S : SameN H H') (e : H p = some (.lst xs)) : H' p = some (.lst xs) := S p _ (fun _ z => by cases z) e
theorem SameN.keepT {K : PySem.W.Frag} {H H' : Hp} (S : SameN H H') : KeepT K H H' := fun a xs h => by
  rcases h with (h | ⟨o, h⟩) | h
  · exact .inl (.inl (S _ _ (fun _ z => by cases z) h))
  · exact .inl (.inr ⟨o, S _ _ (fun _ z => by cases z) h⟩)
  · exact .inr h
theorem SameN.dt {K : PySem.W.Frag} {H H' : Hp} {v : V} {d : PyData} (S : SameN H H') (h : Dt K H v d) : Dt K H' v d := h.keepT S.keepT
theorem SameN.list {K : PySem.W.Frag} {H H' : Hp} {p : Addr} {ds : List PyData} (S : SameN H H') (h : ListAt K H p ds) : ListAt K H' p ds := by
  obtain ⟨xs, e, a⟩ := h
  exact ⟨xs, S.lst e, a.keepT S.keepT⟩
theorem SameN.box {H H' : Hp} {p dl : Addr} (S : SameN H H') (h : BoxAt H p dl) : BoxAt H' p dl := by
  obtain ⟨ds, k, a, b, c, d⟩ := h
  exact ⟨ds, k, S.lst a, b, S.lst c, d⟩
theorem tabbed_n {P : Addr} {H H' : Hp} (g : GxR.TabG H P) (t : GxR.Tabbed P H H') : SameN H H' := fun b o n e => by
  by_cases hb : b = P
  · obtain ⟨ps, hP, _⟩ := g
    rw [hb, hP] at e
    exact absurd (Option.some.inj e).symm (n ps)
  · rw [t.2 b hb]; exact e
theorem tabG_same {P : Addr} {H H' : Hp} (g : GxR.TabG H P) (S : Same H H') : GxR.TabG H' P := let ⟨ps, e, t⟩ := g; ⟨ps, S _ _ e, t⟩
theorem tabG_keep {P p : Addr} {H H' : Hp} {xs : List V} (g : GxR.TabG H P) (hp : H p = some (.lst xs)) (S : Keep p H H') : GxR.TabG H' P := by
  obtain ⟨ps, e, t⟩ := g
  exact ⟨ps, S _ _ e (fun z => by rw [z, hp] at e; cases e), t⟩
/-- a def whose code object stands at c -/
def HasFnC (K : PySem.W.Frag) (x : Str) (st : Stmt) (c : Addr) : Prop := ∃ (f : Addr) (oc : Value) (od an : Option Addr) (kV doc pm ct : Value) (osl : Array (Option Value)),
  PySem.W.nsIn K mainGlobals x = some (some (.ref f)) ∧ K.lookup f = some ⟨oc, od, .func (PySem.W.fnOf x x (defArgs st) (defBody st) (defScope st) .none kV doc pm an (.ref c) ct), osl⟩ ∧
  PySem.W.codeIn K (.ref c) x = true ∧ PySem.W.keepIn K (.ref f) = true
theorem HasFnC.mk' {K : PySem.W.Frag} {x : Str} {st : Stmt} {f c : Addr} {oc : Value} {od an : Option Addr} {kV doc pm cdv ct : Value} {osl : Array (Option Value)} (a : PySem.W.nsIn K mainGlobals x = some (some (.ref f)))
    (b : K.lookup f = some ⟨oc, od, .func (PySem.W.fnOf x x (defArgs st) (defBody st) (defScope st) .none kV doc pm an cdv ct), osl⟩) (cc : PySem.W.codeIn K cdv x = true) (d : PySem.W.keepIn K (.ref f) = true) (e : cdv = .ref c) : HasFnC K x st c := by
  subst e
  exact ⟨f, oc, od, an, kV, doc, pm, ct, osl, a, b, cc, d⟩
section
variable {P : Program} {w : World} {K : PySem.W.Frag} {mg : Str → Option Value} {base h : Heap} {CX : CXT}
theorem mk_useC {x : Str} {st : Stmt} {c : Addr} {k : Nat} {ps : List Str} {sp : Sp} (F : HasFnC K x st c) (X : K.In h) (G : h.Ns mainGlobals mg)
    (hb : ∀ (kV doc pm : Value) (an : Option Addr) (cdv ct : Value) (us : List Value), us.length = ps.length → bindArgs (PySem.W.fnOf x x (defArgs st) (defBody st) (defScope st) .none kV doc pm an cdv ct) ⟨us, []⟩ = pure (ps.zip us))
    (ok : ∀ (f : Addr) (fd : FuncData), Fun K x x st f fd → fd.code = .ref c → FnG P w K mg base CX k f fd ps sp) : Use P w K mg base CX x k ps sp := by
  obtain ⟨f, oc, od, an, kV, doc, pm, ct, osl, e, l, cc, kp⟩ := F
  have Fn := fun_mk (st := st) l cc kp
  exact ⟨f, _, ok f _ Fn rfl, PySem.W.mg_of X G e, kp, Fn.binds hb⟩
/-- as okG0, the code object known -/
theorem okGC {x qual : Str} {st : Stmt} {f c : Addr} {fd : FuncData} {N ps : List Str} {k : Nat} {sp : Sp} (F : Fun K x qual st f fd) (hc : fd.code = .ref c) (S : FnScope N ps (defScope st)) (len : ∀ vs H Q E, sp vs H Q E → vs.length = ps.length)
    (body : ∀ (A : Around) (outer : List Env) (s : Shared) (H : Hp) (vs : List V) (Q : VK) (E : XK), Room k (A.deeper (envOfC qual (defScope st) s.heap.objs.size f (.ref c))) →
      (A.deeper (envOfC qual (defScope st) s.heap.objs.size f (.ref c))).guards = some [] → sp vs H Q E →
      ∃ t, PSs (cxOf CX0 P w K mg base N qual (defScope st) f (.ref c) A outer s H E).nox (defBody st) t ∧ t { nx := fun _ H' => Q .non H', rt := Q } (start N vs) H) :
    FnG P w K mg base CX0 (k + 1) f fd ps sp := by
  obtain ⟨oc, od, kV, doc, pm, an, cdv, ct, osl, rfl, lk, hcd⟩ := F.ex
  obtain rfl : cdv = .ref c := hc
  refine ⟨len, fun A outer s H args us vs Q E hr hgd e0 hb r hsp => ?_⟩
  have inn : K.In s.heap := e0.mod.kin.keeps fun b o e => (e0.bs b o e).1
  refine codeAny_call_function hr.depth (inn _ _ lk) rfl S.co S.gen rfl (PySem.W.codeRec_of inn hcd) (hb _ _ _ _ ?_)
  refine wpAny_newFunctionEnv_cells S.kind (fun y hy => ?_) fun env he s1 made => ?_
  · obtain ⟨n, v⟩ := y
    exact (S.par n (List.of_mem_zip hy).1).elim .inl fun q => .inr ⟨q, PySem.W.cellsFrom_some _ _ _ (.inl q)⟩
  · subst he
    have lim : s.heap.NoLimit := e0.mod.nolimit.keeps fun b o e => (e0.bs b o e).1
    refine ⟨lim.keeps made.toInCall.keep, codeAny_func ?_⟩
    obtain ⟨t, ht, hq⟩ := body A outer s H vs Q E (hr.deeper _) hgd hsp
    refine wpAny_mono (ht.nox.run [] s1 (start N vs) H _ (inv_start S hr.hd e0 (len _ _ _ _ hsp) r made) hq) (fun fl s' hs => ?_) fun e s' hs => hs
    cases fl with
    | ret u => exact let ⟨v, _, H', J, rv, q⟩ := hs; ⟨v, H', J.os, J.bare, J.base, J.hok, rv, q⟩
    | next => exact let ⟨_, H', J, q⟩ := hs; ⟨V.non, H', J.os, J.bare, J.base, J.hok, rfl, q⟩
    | brk => exact let ⟨_, _, _, q⟩ := hs; q.elim
    | cont => exact let ⟨_, _, _, q⟩ := hs; q.elim
theorem law_useT {TT : Addr → Heap → Prop} {k : Nat} {fa : Addr} {st : Stmt} {x : Str} {sp : Addr → Sp} (L : HasFn K "law" st) (X : K.In h) (G : h.Ns mainGlobals mg) (hfa : mg "law" = some (.ref fa))
    (hb : ∀ (kV doc pm : Value) (an : Option Addr) (cdv ct v : Value), bindArgs (PySem.W.fnOf "law" "law" (defArgs st) (defBody st) (defScope st) .none kV doc pm an cdv ct) ⟨[v], []⟩ = pure [(x, v)])
    (ok : ∀ (TP : Addr) (base : Heap), K.In base → base.Ns mainGlobals mg → TT TP base → ∀ fd, Fun K "law" "law" st fa fd → FnG P w K mg base CX k fa fd [x] (sp TP)) :
    ∃ fd : FuncData, (∀ (s : Shared) (v : Value), BindsTo s fd ⟨[v], []⟩ [(x, v)]) ∧ ∀ (TP : Addr) (base : Heap), K.In base → base.Ns mainGlobals mg → TT TP base → FnG P w K mg base CX k fa fd [x] (sp TP) := by
  obtain ⟨f, oc, od, an, kV, doc, pm, cdv, ct, osl, e, l, c, kp⟩ := L
  have z := hfa.symm.trans (PySem.W.mg_of X G e)
  cases z
  have Fn := fun_mk (st := st) l c kp
  exact ⟨_, fun s v => .of_eq (hb ..), fun TP base h1 h2 h3 => ok TP base h1 h2 h3 _ Fn⟩
end
theorem clo_look {cells : List (Str × Addr)} {y : Str} {c : Addr} (h : cells.lookup y = some c) : ∀ (names : List (Str × NameKind)) (acc : List (Str × Addr)), (names.lookup y = some .free ∨ acc.lookup y = some c) → (cloFrom cells names acc).lookup y = some c
  | [], acc, hy => by
    rcases hy with hy | hy
    · cases hy
    · exact hy
  | (n, k) :: r, acc, hy => by
    rw [cloFrom]
    by_cases e : n = y
    · subst e
      rw [List.lookup_cons_self] at hy
      by_cases f : k = .free
      · subst f
        rw [if_pos (by rfl)]
        exact clo_look h r _ (.inr (by rw [List.lookup_cons_self, h]; rfl))
      · rw [if_neg (by cases k <;> first | exact absurd rfl f | decide)]
        exact clo_look h r _ (.inr (hy.resolve_left fun z => f (Option.some.inj z)))
    · have ne : (y == n) = false := by simpa using fun z => e z.symm
      rw [List.lookup_cons, ne] at hy
      split
      · exact clo_look h r _ (hy.imp id fun z => by rw [List.lookup_cons, ne]; exact z)
      · exact clo_look h r _ hy
theorem cap_of {X : Cx} {scope : Scope} {j : Nat} {y : Str} (h1 : scope.names.lookup y = some .free) (h2 : X.N[j]? = some y) (h3 : X.env.scope.names.lookup y = some .cell) (h4 : (y == ("__debug__" : Str)) = false := by decide) (h5 : (y == ("__classdict__" : Str)) = false := by decide) : GI.Cap X scope j y :=
  ⟨h1, h2, h3, fun c h => clo_look h _ _ (.inl h1), h4, h5⟩
theorem genS_of {scope sc : Scope} {qual x : Str} {n : Nat} {f : Addr} {cdv : Value} (h1 : scope.kind = .function) (h2 : scope.isCoroutine = false) (h3 : ∀ y ∈ scope.names, y.2 ≠ .cell) (h4 : scope.names.lookup (".0" : Str) = some .local) (h5 : scope.names.lookup x = some .local)
    (h6 : ∀ y ∈ scope.names, y.2 = .free → sc.names.lookup y.1 = some .cell) : GxR.GenS (envOfC qual sc n f cdv) scope x :=
  ⟨h1, h2, h3, h4, h5, fun y hy hf => Option.isSome_iff_exists.mp (PySem.W.cellsFrom_some sc.names _ _ (.inl (h6 y hy hf)))⟩
/-- no empty table stands in the written part -/
def noTab (K : PySem.W.Frag) : Bool := K.all fun e => match e.2.data with
  | .fields vs => !vs.isEmpty
  | _ => true
theorem noTab_at {K : PySem.W.Frag} (h : noTab K = true) {a : Addr} {o : Obj} (e : K.lookup a = some o) : o.data ≠ .fields #[] := by
  unfold noTab at h
  induction K with
  | nil => cases e
  | cons p r ih =>
    obtain ⟨b, u⟩ := p
    rw [List.all_cons, Bool.and_eq_true] at h
    rw [List.lookup_cons] at e
    split at e
    · cases e
      intro z
      have h1 := h.1
      simp [z] at h1
    · exact ih h.2 e
/-- the end of a law of which one def, nm, has a table of code objects -/
theorem walkGX {l : PySem.W.OpenLaw} {n k : Nat} {q : Program} {loose : List Str} {XP : (Str → Option Value) → Heap → Prop} {YP : World → Heap → Prop} {d : DefRec} {K : Params → PySem.W.Frag} {CX : CXT} {sp : PySem.W.Frag → Addr → Sp} {x : Str} (nm : Str)
    (hn : l.most = some n) (hn2 : n ≤ sizeLine) (hdf : d.params.defaults = []) (hr : Room k callerA) (hrec : ((recsOf q).any fun e => e.name == nm) = true)
    (hY : ∀ (w : World) (h : Heap), YP w h → (K w.params).In h)
    (F : ∀ (w : World) (mg : Str → Option Value) (fa : Addr) (h : Heap), (K w.params).In h → h.Ns mainGlobals mg → mg d.name = some (.ref fa) →
      noTab (K w.params) = true ∧ ∃ (c : Addr) (st : Stmt), HasFnC (K w.params) nm st c ∧
      ∃ fd : FuncData, (∀ (s : Shared) (u : Value), BindsTo s fd ⟨[u], []⟩ [(x, u)]) ∧
        ∀ (P : Addr) (base : Heap), (K w.params).In base → base.Ns mainGlobals mg → GxR.TabB base mg c P → FnG l.prog w (K w.params) mg base CX k fa fd [x] (sp (K w.params) P))
    (hsp : ∀ (K : PySem.W.Frag) (P : Addr) (H : Hp) (a : Addr) (ns : List Int), ns.length ≤ n → GxR.TabG H P → SqL K H a (ns.map V.int) → sp K P [.ref a] H (fun v _ => v = .bl true) fun _ _ _ => False)
    (hCX : ∀ (H : Hp) (s : Shared) (e : Value) (s' : Shared), CX [] H s (fun _ _ _ => False) e s' → False) :
    PySem.W.WalkO q loose XP YP l.row.toRowW d [] (fun f vs => PySem.call f vs) :=
  Att.attach_call hn hdf fun w s₀ s₁ mg mb fa o pm cd doc a vs ns G Y ho hd hcd hmg hobj hints hlen hg => by
    have KX := hY w _ Y
    obtain ⟨nt, c, st, hf, fd, hb, hF⟩ := F w mg fa _ KX G.T.g hmg
    obtain ⟨P, C, hT⟩ : ∃ P, PySem.W.CodeHd s₁.heap c P ∧ s₁.heap.get? P = some { cls := .none, data := .fields #[] } := by
      obtain ⟨f, oc, od, an, kV, doc, pm, ct, osl, e, lk, _, _⟩ := hf
      obtain ⟨dL, hm, hn1⟩ := List.any_eq_true.mp hrec
      have hn2 : dL.name = nm := beq_iff_eq.mp hn1
      obtain ⟨a', o', fd', c', P', h1, h2, h3, h4, h5, h6⟩ := G.T.tab dL hm
      rw [hn2, PySem.W.mg_of KX G.T.g e] at h1
      cases h1
      rw [KX _ _ lk] at h2
      cases h2
      cases h3
      cases h4
      exact ⟨P', .of h5 h6, h6.2⟩
    have nP : (K w.params).lookup P = none := by
      cases e : (K w.params).lookup P with
      | none => rfl
      | some o =>
        have e1 := KX _ _ e
        rw [hT] at e1
        exact absurd (congrArg Obj.data (Option.some.inj e1)).symm (noTab_at nt e)
    exact GI.law_callGT (cs := [(c, P)]) KX G.T.g G.T.b G.T.builtins G.T.nolimit hg (by simpa using hT) (by simpa using nP) (by simpa using C)
      (fun base hk p hp => by
        rcases List.mem_singleton.mp hp with rfl
        exact GI.tabB_of G.T.g hT C G.T.bmain hk) hobj hints (Nat.le_trans hlen hn2) hr (fun base h1 h2 h3 => hF P base h1 h2 (h3 (c, P) (by simp))) hb
      (fun H hO hP hS => hsp (K w.params) P H a ns hlen ⟨#[], hP (c, P) (by simp), by simp [TriplesOk]⟩ hS) fun H e s' => hCX H s₁ e s'
end LK


set_option Elab.async false
set_option linter.all false
set_option maxRecDepth 100000
set_option maxHeartbeats 4000000
set_option exponentiation.threshold 3000
namespace K24
open PySem PySem.Spec PyProof.Rows LK SX L2
def top (i : Nat) : Stmt := PySem.Challenge.pw_pyhold_k24_membership.main.body.getD i (.Pass ⟨0, 0, 0, 0⟩)
structure Txt (K : PySem.W.Frag) (mg : Str → Option Value) : Prop where
  c_TYPE_ERROR : GInt mg "TYPE_ERROR" 10
  c_MOST_ENTRIES : GInt mg "MOST_ENTRIES" 1000
  c_TOO_LARGE : GTup K mg "TOO_LARGE" [V.str "raise", V.int 15, V.str "too large"]
  b_len : mg "len" = none
  b_int : mg "int" = none
  b_range : mg "range" = none
  b_list : mg "list" = none
  b_tuple : mg "tuple" = none
  b_str : mg "str" = none
  b_repr : mg "repr" = none
  b_reversed : mg "reversed" = none
  b_enumerate : mg "enumerate" = none
  b_any : mg "any" = none
abbrev s_law_cell : Stmt := top 34
abbrev N_law_cell : List Str := ["script", "k"]
abbrev P_law_cell : List Str := ["script", "k"]
theorem sc_law_cell : FnScope N_law_cell P_law_cell (defScope s_law_cell) := ⟨rfl, rfl, rfl, by decide +kernel, rfl, by decide +kernel, by decide +kernel⟩
abbrev s_law_digits : Stmt := top 35
abbrev N_law_digits : List Str := ["script", "first", "last", "digits", "k", "cell", "turn", "seed"]
abbrev P_law_digits : List Str := ["script", "first", "last"]
theorem sc_law_digits : FnScope N_law_digits P_law_digits (defScope s_law_digits) := ⟨rfl, rfl, rfl, by decide +kernel, rfl, by decide +kernel, by decide +kernel⟩
abbrev s_law_draw : Stmt := top 36
abbrev N_law_draw : List Str := ["box", "many", "at"]
abbrev P_law_draw : List Str := ["box", "many"]
theorem sc_law_draw : FnScope N_law_draw P_law_draw (defScope s_law_draw) := ⟨rfl, rfl, rfl, by decide +kernel, rfl, by decide +kernel, by decide +kernel⟩
section
variable {P : Program} {w : World} {K : PySem.W.Frag} {mg : Str → Option Value} {base : Heap}
theorem ok_draw {f : Addr} {fd : FuncData} (F : Fun K "_law_draw" "_law_draw" s_law_draw f fd) (T : Txt K mg) : FnG P w K mg base CX0 1 f fd P_law_draw (spDraw K) := by
  refine okG0 F sc_law_draw (fun vs H Q E h => ?_) fun cdv A outer s H vs Q E hr hg h => ?_
  · obtain ⟨p, dl, m, rfl, _⟩ := h
    rfl
  · obtain ⟨p, dl, m, rfl, B, hm, k⟩ := h
    obtain ⟨ds, n, hp, hn, hd, hl, hds⟩ := id B
    refine ⟨_, (pss_cons (ps_set (i := 2) sc_law_draw.nd rfl (Or.inl rfl) (pe_ix ix_list (pv 0) pe_int (fun _ _ => rfl)))
  (pss_cons (ps_asg (pe_op op_add (pv 2) pe_int) (pg_sub (pv 0) pe_int set_list))
  (pss_cons (ps_if (pt_cmpR op_lt (pv 2) (pe_callB call_len (by rfl) T.b_len PySem.boot_len (pa_cons (pe_ix ix_list (pv 0) pe_int (fun _ _ => rfl)) pa_nil)) (nomark _))
   (pss_one (ps_ret (pe_op op_mod (pe_callTy call_int1 (by rfl) T.b_int (by decide +kernel) (pa_cons (pe_ix ix_list (pe_ix ix_list (pv 0) pe_int (fun _ _ => rfl)) (pv 2) (fun _ _ => rfl)) pa_nil)) (pv 1))))
   pss_nil)
  (pss_one (ps_ret pe_int))))), ?_⟩
    -- at = box[1]; box[1] = at + 1
    refine ⟨_, rfl, p, _, _, _, rfl, rfl, SqL.of hp, rfl, ?_⟩
    refine ⟨_, rfl, _, _, rfl, rfl, _, rfl, p, _, _, _, rfl, rfl, hp, rfl, ?_⟩
    have npd : dl ≠ p := by
      intro e
      subst e
      rw [hp] at hd
      have e := HO.lst.inj (Option.some.inj hd)
      cases ds with
      | nil => cases e
      | cons d ds => cases (List.cons.inj e).1
    have B' : BoxAt (upd H p (.lst [.ref dl, .int (n + 1)])) p dl := ⟨ds, n + 1, upd_same, by omega, by rw [upd_ne npd]; exact hd, hl, hds⟩
    have kp : Keep p H (upd H p (.lst [.ref dl, .int (n + 1)])) := fun b o e hb => by rw [upd_ne hb]; exact e
    have hd' : upd H p (.lst [.ref dl, .int (n + 1)]) dl = some (.lst (ds.map V.int)) := by rw [upd_ne npd]; exact hd
    -- if at < len(box[0])
    refine ⟨_, rfl, _, rfl, p, _, _, _, rfl, rfl, SqL.of upd_same, rfl, _, _, rfl, .inl ⟨_, SqL.of hd', rfl⟩, ?_⟩
    refine ⟨_, _, rfl, rfl, _, rfl, ?_⟩
    refine ite2 (fun c => ?_) fun c => ?_
    · have c1 : n < (ds.length : Int) := by simpa using c
      have c2 : n.toNat < ds.length := by omega
      have mem := hds _ (List.getElem_mem c2)
      refine ⟨_, rfl, p, _, _, _, rfl, rfl, SqL.of upd_same, rfl, _, rfl, dl, _, _, .int ds[n.toNat], rfl, rfl, SqL.of hd', ?_, .inl ⟨_, rfl, ?_⟩⟩
      · have e : n = ((n.toNat : Nat) : Int) := by omega
        exact at_of e (by simp [c2])
      · refine ⟨_, rfl, _, _, rfl, rfl, hm, ?_⟩
        exact k _ _ (Int.emod_nonneg _ (by omega)) (Int.emod_lt_of_pos _ hm) B' kp
    · exact k 0 _ (Int.le_refl 0) hm B' kp
theorem ok_cell {f : Addr} {fd : FuncData} (F : Fun K "_law_cell" "_law_cell" s_law_cell f fd) (T : Txt K mg) : FnG P w K mg base CX0 1 f fd P_law_cell (spCell K) := by
  refine okG0 F sc_law_cell (fun vs H Q E h => ?_) fun cdv A outer s H vs Q E hr hg h => ?_
  · obtain ⟨a, ns, i, rfl, _⟩ := h
    rfl
  · obtain ⟨a, ns, i, rfl, hs, hi, k⟩ := h
    refine ⟨_, (pss_cons (ps_if (pt_cmpR op_lt (pv 1) (pe_callB call_len (by rfl) T.b_len PySem.boot_len (pa_cons (pv 0) pa_nil)) (nomark _))
   (pss_one (ps_ret (pe_ix ix_list (pv 0) (pv 1) (fun _ _ => rfl))))
   pss_nil)
  (pss_one (ps_ret pe_int))), ?_⟩
    refine ⟨_, rfl, _, rfl, _, _, rfl, .inl ⟨_, hs, rfl⟩, _, _, rfl, rfl, _, rfl, ?_⟩
    refine ite3 (fun c => ?_) fun _ => k 0
    have c1 : i < (ns.length : Int) := by simpa using c
    have c2 : i.toNat < ns.length := by omega
    exact ⟨_, rfl, _, rfl, a, _, _, .int ns[i.toNat], rfl, rfl, hs, at_of (show i = ((i.toNat : Nat) : Int) by omega) (by simp [c2]), k _⟩
theorem ok_digits {f : Addr} {fd : FuncData} (F : Fun K "_law_digits" "_law_digits" s_law_digits f fd) (T : Txt K mg) (U_law_cell : Use P w K mg base CX0 "_law_cell" 1 P_law_cell (spCell K)) : FnG P w K mg base CX0 2 f fd P_law_digits (spDigits K) := by
  refine okG0 F sc_law_digits (fun vs H Q E h => ?_) fun cdv A outer s H vs Q E hr hg h => ?_
  · obtain ⟨a, ns, lo, hi, rfl, _⟩ := h
    rfl
  · obtain ⟨a, ns, lo, hi, rfl, hs, hlo, hhi, k⟩ := h
    refine ⟨_, (pss_cons (ps_set (i := 3) sc_law_digits.nd rfl (Or.inl rfl) (pe_lst pa_nil))
  (pss_cons (ps_for PassesOwn.never rfl (pi_range2 (by rfl) T.b_range (pa_cons (pv 1) (pa_cons (pv 2) pa_nil))) (pg_name (i := 4) sc_law_digits.nd rfl (Or.inl rfl))
   (pss_cons (ps_set (i := 5) sc_law_digits.nd rfl (Or.inl rfl) (pe_use U_law_cell (hr.mono (by decide)) hg rfl (pa_cons (pv 0) (pa_cons (pv 4) pa_nil))))
  (C8.pss_cut (ps_if (pt_cmpR op_lt (pv 5) pe_int (nomark _))
   (pss_one (ps_set (i := 5) sc_law_digits.nd rfl (Or.inl rfl) (pe_op op_sub pe_int (pe_op op_mul pe_int (pv 5)))))
   pss_nil)
  (pss_one (ps_if (pt_cmpR op_ge (pv 5) (pe_op op_pow pe_int pe_int) (nomark _))
   (pss_one (ps_for PassesOwn.never rfl (pi_range1 (by rfl) T.b_range (pa_cons pe_int pa_nil)) (pg_name (i := 6) sc_law_digits.nd rfl (Or.inl rfl))
   (pss_one (ps_if (pt_cmpR op_gt (pv 5) pe_int (nomark _))
   (pss_cons (ps_expr (pe_bm PySem.F.plainAttrs_list PySem.F.slot_list_append PySem.F.type_list_append mt_append (pv 3) (pa_cons (pe_op op_mod (pe_callTy call_int1 (by rfl) T.b_int (by decide +kernel) (pa_cons (pv 5) pa_nil)) pe_int) pa_nil)))
  (pss_one (ps_set (i := 5) sc_law_digits.nd rfl (Or.inl rfl) (pe_op op_fdiv (pv 5) pe_int))))
   pss_nil))))
   (pss_cons (ps_set (i := 7) sc_law_digits.nd rfl (Or.inl rfl) (pe_op op_mod (pe_callTy call_int1 (by rfl) T.b_int (by decide +kernel) (pa_cons (pe_op op_add (pe_op op_add (pe_op op_mul (pv 5) pe_int) (pe_op op_mul (pv 4) pe_int)) pe_int) pa_nil)) pe_int))
  (pss_one (ps_for PassesOwn.never rfl (pi_range1 (by rfl) T.b_range (pa_cons pe_int pa_nil)) (pg_name (i := 6) sc_law_digits.nd rfl (Or.inl rfl))
   (pss_cons (ps_set (i := 7) sc_law_digits.nd rfl (Or.inl rfl) (pe_op op_mod (pe_callTy call_int1 (by rfl) T.b_int (by decide +kernel) (pa_cons (pe_op op_add (pe_op op_add (pe_op op_mul (pv 7) pe_int) (pe_op op_mul pe_int (pv 6))) pe_int) pa_nil)) pe_int))
  (pss_one (ps_expr (pe_bm PySem.F.plainAttrs_list PySem.F.slot_list_append PySem.F.type_list_append mt_append (pv 3) (pa_cons (pe_op op_mod (pe_callTy call_int1 (by rfl) T.b_int (by decide +kernel) (pa_cons (pe_op op_fdiv (pv 7) pe_int) pa_nil)) pe_int) pa_nil)))))))))))))
  (pss_one (ps_ret (pv 3))))), ?_⟩
    refine ⟨by decide, fun dl nd => ?_⟩
    have sz : (4000 : Nat) < sizeLine := by decide
    -- for k in range(first, last)
    refine ⟨_, rfl, _, rfl, _, _, rfl, ⟨by omega, by omega, by omega, by omega⟩, ?_⟩
    refine for_range (lo := (lo : Int)) (n := ((hi : Int) - (lo : Int)).toNat) (fun i σ H1 => ∃ x5 x6 x7 x4, σ = [some (.ref a), some (.int lo), some (.int hi), some (.ref dl), x4, x5, x6, x7] ∧ DigAt H H1 dl (60 * i)) ?_ ?_ ?_
    · exact ⟨none, none, none, none, rfl, [], upd_same, by simp, by simp, Same.new nd⟩
    · rintro i σ H1 hi' ⟨x5, x6, x7, x4, rfl, D⟩
      have S1 : Same H H1 := let ⟨_, _, _, _, z⟩ := D; z
      -- cell = _law_cell(script, k)
      refine ⟨_, rfl, _, rfl, a, ns, _, rfl, S1.seq hs, by omega, fun cell => ?_⟩
      -- if cell < 0: cell = 1 - 2 * cell
      refine ⟨fun σ H2 => ∃ c : Int, σ = [some (.ref a), some (.int lo), some (.int hi), some (.ref dl), some (.int ((lo : Int) + i)), some (.int c), x6, x7] ∧ H2 = H1, ?_, ?_⟩
      · refine ⟨_, rfl, _, _, rfl, rfl, _, rfl, ?_⟩
        refine ite3 (fun _ => ?_) fun _ => ⟨cell, rfl, rfl⟩
        exact ⟨_, rfl, _, _, rfl, rfl, .inl ⟨by decide, by decide⟩, _, _, rfl, rfl, _, rfl, rfl⟩
      · rintro _ _ ⟨c, rfl, rfl⟩
        -- if cell >= 10 ** 18
        refine ⟨_, rfl, _, _, rfl, rfl, ⟨by decide, by decide, by decide⟩, _, _, rfl, rfl, _, rfl, ?_⟩
        refine ite3 (fun hc => ?_) fun hc => ?_
        · refine ⟨_, rfl, by decide, by decide, ?_⟩
          refine for_range (lo := 0) (n := 60) (fun j σ H1 => ∃ (c : Int) (y6 : Option V), σ = [some (.ref a), some (.int lo), some (.int hi), some (.ref dl), some (.int ((lo : Int) + i)), some (.int c), y6, x7] ∧ DigAt H H1 dl (60 * i + j)) ⟨c, x6, rfl, D⟩ ?_ ?_
          · rintro j σ H2 hj ⟨c, y6, rfl, D2⟩
            obtain ⟨ds, hd, hl, _⟩ := id D2
            refine ⟨_, rfl, _, _, rfl, rfl, _, rfl, ?_⟩
            refine ite3 (fun hp => ?_) fun _ => ⟨c, _, rfl, D2.mono (by omega)⟩
            have hp : 0 < c := by simpa using hp
            refine ⟨_, rfl, .inl ⟨rfl, _, SqL.of hd⟩, _, rfl, .inl ⟨_, rfl, _, _, rfl, rfl, (by show (0 : Int) < 1000; decide), dl, _, _, rfl, rfl, hd, (by simp; omega), ?_⟩⟩
            refine ⟨_, rfl, _, _, rfl, rfl, ⟨by decide, by decide⟩, ?_⟩
            exact ⟨_, _, rfl, D2.add hd nd (Int.emod_nonneg _ (by decide)) (Int.emod_lt_of_pos _ (by decide))⟩
          · rintro σ H2 ⟨c, y6, rfl, D2⟩
            exact ⟨_, _, _, _, rfl, D2.mono (by omega)⟩
        · refine ⟨_, rfl, _, _, rfl, rfl, .inr ⟨by decide, by decide⟩, _, rfl, _, _, rfl, rfl, .inr ⟨by decide, by decide⟩, _, _, rfl, rfl, _, _, rfl, rfl, .inl ⟨_, rfl, _, _, rfl, rfl, (by show (0 : Int) < 2147483647; decide), ?_⟩⟩
          refine ⟨_, rfl, by decide, by decide, ?_⟩
          refine for_range (lo := 0) (n := 12) (fun j σ H1 => ∃ (sd : Int) (y6 : Option V), σ = [some (.ref a), some (.int lo), some (.int hi), some (.ref dl), some (.int ((lo : Int) + i)), some (.int c), y6, some (.int sd)] ∧ DigAt H H1 dl (60 * i + j)) ⟨_, x6, rfl, D⟩ ?_ ?_
          · rintro j σ H2 hj ⟨sd, y6, rfl, D2⟩
            obtain ⟨ds, hd, hl, _⟩ := id D2
            refine ⟨_, rfl, _, _, rfl, rfl, .inr ⟨by decide, by decide⟩, _, rfl, _, _, rfl, rfl, .inl ⟨by decide, by decide⟩, _, _, rfl, rfl, _, _, rfl, rfl, .inl ⟨_, rfl, _, _, rfl, rfl, (by show (0 : Int) < 2147483647; decide), ?_⟩⟩
            refine ⟨_, rfl, .inl ⟨rfl, _, SqL.of hd⟩, _, rfl, _, _, rfl, rfl, ⟨by decide, by decide⟩, .inl ⟨_, rfl, _, _, rfl, rfl, (by show (0 : Int) < 1000; decide), dl, _, _, rfl, rfl, hd, (by simp; omega), ?_⟩⟩
            exact ⟨_, _, rfl, D2.add hd nd (Int.emod_nonneg _ (by decide)) (Int.emod_lt_of_pos _ (by decide))⟩
          · rintro σ H2 ⟨sd, y6, rfl, D2⟩
            exact ⟨_, _, _, _, rfl, D2.mono (by omega)⟩
    · rintro σ H1 ⟨x5, x6, x7, x4, rfl, D⟩
      exact ⟨_, rfl, k dl H1 nd (D.mono (by omega))⟩
end

abbrev s_law_same : Stmt := top 39
abbrev N_law_same : List Str := ["actual", "due"]
abbrev P_law_same : List Str := ["actual", "due"]
theorem sc_law_same : FnScope N_law_same P_law_same (defScope s_law_same) := ⟨rfl, rfl, rfl, by decide +kernel, rfl, by decide +kernel, by decide +kernel⟩
section
variable {P : Program} {w : World} {K : PySem.W.Frag} {mg : Str → Option Value} {base : Heap}
theorem ok_same {f : Addr} {fd : FuncData} (F : Fun K "_law_same" "_law_same" s_law_same f fd) (T : Txt K mg) : FnG P w K mg base CX0 1 f fd P_law_same (spSame K) := by
  refine okG0 F sc_law_same (fun vs H Q E h => ?_) fun cdv A outer s H vs Q E hr hg h => ?_
  · obtain ⟨x, y, d, rfl, _⟩ := h
    rfl
  · obtain ⟨x, y, d, rfl, hx, hy, hs, k⟩ := h
    refine ⟨_, (pss_one (ps_ret (pe_cmpR op_eq (pe_callB (call_repr_data hg hr.units) (by rfl) T.b_repr (by decide +kernel) (pa_cons (pv 0) pa_nil)) (pe_callB (call_repr_data hg hr.units) (by rfl) T.b_repr (by decide +kernel) (pa_cons (pv 1) pa_nil)) (nomark _)))), ?_⟩
    refine ⟨_, rfl, _, d, rfl, hx, hs, _, rfl, _, d, rfl, hy, hs, rfl, ?_⟩
    rw [decide_eq_true rfl]
    exact k
end

section
/-! data whose texts are texts and that are not deep -/
def Shp (n : Nat) (d : PyData) : Prop := d.canLay0 = true ∧ d.depth ≤ n
theorem Shp.all {n : Nat} : ∀ {ds : List PyData}, (∀ d ∈ ds, Shp n d) → PyData.canLayAll0 ds = true ∧ PyData.depthAll ds ≤ n
  | [], _ => ⟨rfl, Nat.zero_le _⟩
  | d :: r, h => by
    obtain ⟨a, b⟩ := h d (by simp)
    obtain ⟨c, e⟩ := Shp.all (ds := r) fun x hx => h x (List.mem_cons_of_mem _ hx)
    exact ⟨by simp only [PyData.canLayAll0, a, c]; rfl, Nat.max_le.mpr ⟨b, e⟩⟩
theorem Shp.tup {n : Nat} {ds : List PyData} (h : ∀ d ∈ ds, Shp n d) : Shp (n + 1) (.tuple ds) := by
  obtain ⟨a, b⟩ := Shp.all h
  exact ⟨by simp only [PyData.canLay0]; exact a, show PyData.depthAll ds + 1 ≤ n + 1 by omega⟩
theorem Shp.lst {n : Nat} {ds : List PyData} (h : ∀ d ∈ ds, Shp n d) : Shp (n + 1) (.list ds) := by
  obtain ⟨a, b⟩ := Shp.all h
  exact ⟨by simp only [PyData.canLay0]; exact a, show PyData.depthAll ds + 1 ≤ n + 1 by omega⟩
theorem Shp.sh {n : Nat} {d : PyData} (h : Shp n d) (hn : n ≤ 64) : SeqAt.shaped d = true := by
  unfold SeqAt.shaped
  rw [h.1, decide_eq_true (Nat.le_trans h.2 hn)]; rfl
theorem Shp.mono {n m : Nat} {d : PyData} (h : Shp n d) (l : n ≤ m) : Shp m d := ⟨h.1, Nat.le_trans h.2 l⟩
theorem Shp.str {n : Nat} {x : Str} (h : PyData.canLay0 (.str x) = true) : Shp n (.str x) := ⟨h, Nat.zero_le _⟩
theorem Shp.int (n : Nat) (i : Int) : Shp n (.int i) := ⟨rfl, Nat.zero_le _⟩
theorem Shp.bool (n : Nat) (b : Bool) : Shp n (.bool b) := ⟨rfl, Nat.zero_le _⟩
theorem Shp.nil : Shp 1 (.tuple []) := Shp.tup (n := 0) fun _ h => by cases h
theorem Shp.cons2 {n : Nat} {d : PyData} {ds : List PyData} (h : Shp n d) (t : ∀ x ∈ ds, Shp n x) : ∀ x ∈ d :: ds, Shp n x := fun x hx => by
  rcases List.mem_cons.mp hx with rfl | hx
  · exact h
  · exact t x hx
theorem Shp.none2 {n : Nat} : ∀ x ∈ ([] : List PyData), Shp n x := fun _ h => by cases h
theorem Shp.strS {n : Nat} {a : List Nat} (h : ∀ c ∈ a, c < 128) : Shp n (.str (S a)) := by
  refine Shp.str ?_
  rw [PyData.canLay0]
  exact Array.all_eq_true_iff_forall_mem.mpr fun c hc => by
    have := h c (by simpa [S] using hc)
    exact decide_eq_true (by omega)
end

abbrev s_object_kind : Stmt := top 8
abbrev N_object_kind : List Str := ["heap", "value"]
abbrev P_object_kind : List Str := ["heap", "value"]
theorem sc_object_kind : FnScope N_object_kind P_object_kind (defScope s_object_kind) := ⟨rfl, rfl, rfl, by decide +kernel, rfl, by decide +kernel, by decide +kernel⟩
section
variable {P : Program} {w : World} {K : PySem.W.Frag} {mg : Str → Option Value} {base : Heap}
inductive KindIs (hds : List PyData) : PyData → Str → Prop
  | plain {z : Str} {rest : List PyData} : V.str z ≠ V.str "ref" → KindIs hds (.tuple (.str z :: rest)) ""
  | obj {k : Nat} {kd : Str} {rest : List PyData} : hds[k]? = some (.tuple (.str kd :: rest)) → KindIs hds (.tuple [.str "ref", .int (k : Nat)]) kd
def spKind (K : PySem.W.Frag) : Sp := fun vs H Q _ => ∃ (hp : Addr) (hds : List PyData) (v : V) (d : PyData) (kd : Str), vs = [.ref hp, v] ∧ ListAt K H hp hds ∧ Dt K H v d ∧ KindIs hds d kd ∧ Q (.str kd) H
theorem ok_kind {f : Addr} {fd : FuncData} (F : Fun K "object_kind" "object_kind" s_object_kind f fd) (T : Txt K mg) : FnG P w K mg base CX0 1 f fd P_object_kind (spKind K) := by
  refine okG0 F sc_object_kind (fun vs H Q E h => ?_) fun cdv A outer s H vs Q E hr hg h => ?_
  · obtain ⟨hp, hds, v, d, kd, rfl, _⟩ := h
    rfl
  · obtain ⟨hp, hds, v, d, kd, rfl, ⟨xs, hx, ax⟩, hd, hk, k⟩ := h
    refine ⟨_, (pss_cons (ps_if (pt_cmpR op_ne (pe_ix ix_tup (pv 1) pe_int (fun _ _ => rfl)) pe_str (nomark _))
   (pss_one (ps_ret pe_str))
   pss_nil)
  (pss_one (ps_ret (pe_ix ix_tup (pe_ix ix_list (pv 0) (pe_ix ix_tup (pv 1) pe_int (fun _ _ => rfl)) (fun _ _ => rfl)) pe_int (fun _ _ => rfl))))), ?_⟩
    cases hk with
    | plain hz =>
      obtain ⟨q, ws, rfl, hs, _⟩ := hd.head
      exact ⟨_, rfl, q, _, _, _, rfl, rfl, hs, at0, rfl, _, rfl, iteTb (by rw [decide_eq_false hz]; rfl) k⟩
    | @obj i _ rest hh =>
      obtain ⟨q, y, rfl, hs, h2⟩ := hd.pair
      cases h2.int_inv
      obtain ⟨o, ho, dO⟩ := ax.get hh
      obtain ⟨qo, zs, rfl, hso, _⟩ := dO.head
      refine ⟨_, rfl, q, _, _, _, rfl, rfl, hs, at0, rfl, _, rfl, iteFb (by decide +kernel) ?_⟩
      exact ⟨_, rfl, _, rfl, q, _, _, _, rfl, rfl, hs, at1, hp, _, _, _, rfl, rfl, SqL.of hx, atI_nat ho, qo, _, _, _, rfl, rfl, hso, at0, k⟩
end

abbrev s_kind_name : Stmt := top 6
abbrev N_kind_name : List Str := ["heap", "value", "found"]
abbrev P_kind_name : List Str := ["heap", "value"]
theorem sc_kind_name : FnScope N_kind_name P_kind_name (defScope s_kind_name) := ⟨rfl, rfl, rfl, by decide +kernel, rfl, by decide +kernel, by decide +kernel⟩
section
variable {P : Program} {w : World} {K : PySem.W.Frag} {mg : Str → Option Value} {base : Heap}
abbrev vks : List (Str × Str) := [("none", "NoneType"), ("bool", "bool"), ("int", "int"), ("text", "str"), ("span", "range"), ("built", "builtin"), ("host", "host")]
abbrev oks : List (Str × Str) := [("list", "list"), ("tuple", "tuple"), ("dict", "dict"), ("scope", "scope"), ("func", "function"), ("class", "class"), ("bound", "method"), ("iter", "iterator"), ("gen", "generator")]
def refD (j : Nat) : PyData := .tuple [.str "ref", .int (j : Nat)]
/-- the name of a value's kind -/
inductive NameOf (hds : List PyData) : PyData → Str → Prop
  | oth (j : Nat) (z : Str) (r : List PyData) (t : Str) : hds[j]? = some (.tuple (.str z :: r)) → z ≠ "inst" → valV (txtKV oks) (.inr z) = some (.str t) → NameOf hds (refD j) t
  | inst (j i : Nat) (r r2 : List PyData) (c : PyData) (n : Str) : hds[j]? = some (.tuple (.str "inst" :: .int (i : Nat) :: r)) → hds[i]? = some (.tuple (c :: .str n :: r2)) → NameOf hds (refD j) n
  | val (z : Str) (r : List PyData) (t : Str) : z ≠ "ref" → valV (txtKV vks) (.inr z) = some (.str t) → NameOf hds (.tuple (.str z :: r)) t
theorem dec_str {a b : Str} (h : a ≠ b) : decide (V.str a = V.str b) = false := decide_eq_false fun e => h (V.str.inj e)
theorem dec_str1 (a : Str) : decide (V.str a = V.str a) = true := decide_eq_true rfl
theorem hd_at {H : Hp} {hp : Addr} {hds : List PyData} {j : Nat} {d : PyData} (L : ListAt K H hp hds) (h : hds[j]? = some d) : ∃ xs y, H hp = some (.lst xs) ∧ atI xs ((j : Nat) : Int) = some y ∧ Dt K H y d := by
  obtain ⟨xs, e, a⟩ := L
  obtain ⟨y, hy, dy⟩ := a.get h
  exact ⟨xs, y, e, atI_nat hy, dy⟩
theorem dt_two {H : Hp} {v : V} {a b : PyData} {r : List PyData} (h : Dt K H v (.tuple (a :: b :: r))) : ∃ q x y ws, v = .ref q ∧ SqT K H q (x :: y :: ws) ∧ Dt K H x a ∧ Dt K H y b := by
  cases h with
  | tup hs ha =>
    cases ha with
    | cons h1 h2 =>
      cases h2 with
      | cons h3 h4 => exact ⟨_, _, _, _, rfl, hs, h1, h3⟩
theorem dt_str {H : Hp} {v : V} {z : Str} (h : Dt K H v (.str z)) : v = .str z := by cases h; rfl
def spKName (K : PySem.W.Frag) : Sp := fun vs H Q _ => ∃ hp hds v d t, vs = [.ref hp, v] ∧ ListAt K H hp hds ∧ Dt K H v d ∧ NameOf hds d t ∧ Q (.str t) H
theorem ok_kname {f : Addr} {fd : FuncData} (F : Fun K "kind_name" "kind_name" s_kind_name f fd) (T : Txt K mg) (U_VALUE_KINDS : UseD P w K mg "VALUE_KINDS" (txtKV vks)) (U_OBJECT_KINDS : UseD P w K mg "OBJECT_KINDS" (txtKV oks)) : FnG P w K mg base CX0 1 f fd P_kind_name (spKName K) := by
  refine okG0 F sc_kind_name (fun vs H Q E h => ?_) fun cdv A outer s H vs Q E hr hg h => ?_
  · obtain ⟨hp, hds, v, d, t, rfl, _⟩ := h
    rfl
  · obtain ⟨hp, hds, v, d, t, rfl, L, dv, hk, k⟩ := h
    obtain ⟨aD_VALUE_KINDS, gD_VALUE_KINDS, kD1⟩ := U_VALUE_KINDS.ex
    obtain ⟨aD_OBJECT_KINDS, gD_OBJECT_KINDS, kD2⟩ := U_OBJECT_KINDS.ex
    refine ⟨_, (pss_cons (ps_if (pt_cmpR op_ne (pe_ix ix_tup (pv 1) pe_int (fun _ _ => rfl)) pe_str (nomark _))
   (pss_one (ps_ret (pe_dgetK (pe_glob (v := .ref aD_VALUE_KINDS) (by rfl) gD_VALUE_KINDS rfl) (pe_ix ix_tup (pv 1) pe_int (fun _ _ => rfl)) (fun _ _ => rfl))))
   pss_nil)
  (pss_cons (ps_set (i := 2) sc_kind_name.nd rfl (Or.inl rfl) (pe_ix ix_list (pv 0) (pe_ix ix_tup (pv 1) pe_int (fun _ _ => rfl)) (fun _ _ => rfl)))
  (pss_cons (ps_if (pt_cmpR op_eq (pe_ix ix_tup (pv 2) pe_int (fun _ _ => rfl)) pe_str (nomark _))
   (pss_one (ps_ret (pe_ix ix_tup (pe_ix ix_list (pv 0) (pe_ix ix_tup (pv 2) pe_int (fun _ _ => rfl)) (fun _ _ => rfl)) pe_int (fun _ _ => rfl))))
   pss_nil)
  (pss_one (ps_ret (pe_dgetK (pe_glob (v := .ref aD_OBJECT_KINDS) (by rfl) gD_OBJECT_KINDS rfl) (pe_ix ix_tup (pv 2) pe_int (fun _ _ => rfl)) (fun _ _ => rfl))))))), ?_⟩
    cases hk with
    | oth j z r t ho hi ht =>
      obtain ⟨q, x, rfl, hq, hx⟩ := Dt.pair dv
      cases hx.int_inv
      obtain ⟨zs, y, ez, hy, dy⟩ := hd_at L ho
      obtain ⟨q2, ws, rfl, hq2, _⟩ := dy.head
      refine ⟨_, rfl, q, _, _, _, rfl, rfl, hq, at0, rfl, _, rfl, iteFb (by decide +kernel) ?_⟩
      refine ⟨_, rfl, _, rfl, q, _, _, _, rfl, rfl, hq, at1, hp, _, _, _, rfl, rfl, SqL.of ez, hy, ?_⟩
      refine ⟨_, rfl, q2, _, _, _, rfl, rfl, hq2, at0, rfl, _, rfl, iteFb (dec_str hi) ?_⟩
      exact ⟨_, rfl, q2, _, _, _, rfl, rfl, hq2, at0, aD_OBJECT_KINDS, _, .inr z, _, rfl, kD2, rfl, ht, k⟩
    | inst j i r r2 c n ho hi =>
      obtain ⟨q, x, rfl, hq, hx⟩ := Dt.pair dv
      cases hx.int_inv
      obtain ⟨zs, y, ez, hy, dy⟩ := hd_at L ho
      obtain ⟨q2, u, u2, ws, rfl, hq2, du, du2⟩ := dt_two dy
      cases dt_str du
      cases du2.int_inv
      obtain ⟨zs', y', ez', hy', dy'⟩ := hd_at L hi
      obtain ⟨q3, u', u3, ws', rfl, hq3, du', du3⟩ := dt_two dy'
      cases dt_str du3
      refine ⟨_, rfl, q, _, _, _, rfl, rfl, hq, at0, rfl, _, rfl, iteFb (by decide +kernel) ?_⟩
      refine ⟨_, rfl, _, rfl, q, _, _, _, rfl, rfl, hq, at1, hp, _, _, _, rfl, rfl, SqL.of ez, hy, ?_⟩
      refine ⟨_, rfl, q2, _, _, _, rfl, rfl, hq2, at0, rfl, _, rfl, iteTb (dec_str1 _) ?_⟩
      exact ⟨_, rfl, _, rfl, q2, _, _, _, rfl, rfl, hq2, at1, hp, _, _, _, rfl, rfl, SqL.of ez', hy', q3, _, _, _, rfl, rfl, hq3, at1, k⟩
    | val z r t hz ht =>
      obtain ⟨q, ws, rfl, hq, _⟩ := Dt.head dv
      refine ⟨_, rfl, q, _, _, _, rfl, rfl, hq, at0, rfl, _, rfl, iteTb (by rw [dec_str hz]; rfl) ?_⟩
      exact ⟨_, rfl, q, _, _, _, rfl, rfl, hq, at0, aD_VALUE_KINDS, _, .inr z, _, rfl, kD1, rfl, ht, k⟩
end

section
variable {P : Program} {w : World} {K : PySem.W.Frag} {mg : Str → Option Value} {base : Heap}
theorem strlen_cat (a b : Str) : (a ++ b).length = a.length + b.length := by
  show (a.cps ++ b.cps).size = _
  rw [Array.size_append]; rfl
theorem ss_le {n : Nat} (h : n ≤ 100000) : n ≤ sizeLine := Nat.le_trans h (by decide)
theorem js_lt {n : Nat} (h : n ≤ 5000) : n < sizeLine := Nat.lt_of_le_of_lt h (by decide)
theorem dtAll_rev {H : Hp} : ∀ {ds : List PyData} {vs : List V}, DtAll K H vs ds → DtAll K H vs.reverse ds.reverse
  | [], vs, h => by rw [h.nil_inv]; exact .nil
  | d :: ds, vs, h => by
    obtain ⟨v, ws, rfl, dv, hw⟩ := DtAll.cons_inv h
    rw [List.reverse_cons, List.reverse_cons]
    exact DtAll.app (dtAll_rev hw) (.cons dv .nil)
theorem same_none' {H H1 : Hp} {l : Addr} (S : Same H H1) (h : H1 l = none) : H l = none := by
  cases e : H l with
  | none => rfl
  | some o => have := S _ _ e; rw [h] at this; cases this
theorem dt_pr {H : Hp} {v : V} {a b : PyData} (h : Dt K H v (.tuple [a, b])) : ∃ q x y, v = .ref q ∧ SqT K H q [x, y] ∧ Dt K H x a ∧ Dt K H y b := by
  cases h with
  | tup hs ha =>
    cases ha with
    | cons h1 h2 =>
      cases h2 with
      | cons h3 h4 =>
        cases h4
        exact ⟨_, _, _, rfl, hs, h1, h3⟩
theorem dtAll_snoc {H : Hp} : ∀ {ds : List PyData} {d : PyData} {ws : List V}, DtAll K H ws (ds ++ [d]) → ∃ ws0 y, ws = ws0 ++ [y] ∧ DtAll K H ws0 ds ∧ Dt K H y d
  | [], d, ws, h => by
    cases h with
    | cons h1 h2 => cases h2; exact ⟨[], _, rfl, .nil, h1⟩
  | e :: ds, d, ws, h => by
    cases h with
    | cons h1 h2 =>
      obtain ⟨ws0, y, rfl, a, b⟩ := dtAll_snoc h2
      exact ⟨_ :: ws0, y, rfl, .cons h1 a, b⟩
theorem js_lt10 {n : Nat} (h : n ≤ 10000) : n < sizeLine := Nat.lt_of_le_of_lt h (by decide)
theorem inV_strs {x : Str} (ys : List Str) : inV (.str x) (ys.map V.str) = decide (x ∈ ys) := by
  unfold inV
  induction ys with
  | nil => rfl
  | cons y r ih =>
    rw [List.map_cons, List.any_cons, ih]
    have : eqV (.str y) (.str x) = decide (y = x) := by
      show (y == x) = _
      by_cases e : y = x
      · subst e; simp
      · simp [e]
    rw [this]
    by_cases e : y = x
    · subst e; simp
    · have : x ≠ y := fun h => e h.symm
      simp [e, this]
end

section
--SPLIT
end
abbrev s_is_number : Stmt := top 7
abbrev N_is_number : List Str := ["value"]
abbrev P_is_number : List Str := ["value"]
theorem sc_is_number : FnScope N_is_number P_is_number (defScope s_is_number) := ⟨rfl, rfl, rfl, by decide +kernel, rfl, by decide +kernel, by decide +kernel⟩
abbrev s_same_leaf : Stmt := top 10
abbrev N_same_leaf : List Str := ["a", "b"]
abbrev P_same_leaf : List Str := ["a", "b"]
theorem sc_same_leaf : FnScope N_same_leaf P_same_leaf (defScope s_same_leaf) := ⟨rfl, rfl, rfl, by decide +kernel, rfl, by decide +kernel, by decide +kernel⟩
section
/-! values and rows of a heap -/
inductive Vl
  | non | bool (b : Bool) | int (i : Int) | text (z : Str) | span (a b : Int) | ref (k : Nat) | built (n : Str) | host (n : Str)
  deriving DecidableEq
def vlD : Vl → PyData
  | .non => .tuple [.str "none"]
  | .bool b => .tuple [.str "bool", .bool b]
  | .int i => .tuple [.str "int", .int i]
  | .text z => .tuple [.str "text", .str z]
  | .span a b => .tuple [.str "span", .int a, .int b]
  | .ref k => .tuple [.str "ref", .int (k : Nat)]
  | .built n => .tuple [.str "built", .str n]
  | .host n => .tuple [.str "host", .str n]
def kn : Vl → Nat
  | .non => 0 | .bool _ => 1 | .int _ => 2 | .text _ => 3 | .span _ _ => 4 | .ref _ => 5 | .built _ => 6 | .host _ => 7
def nmK : Nat → Str
  | 0 => "none" | 1 => "bool" | 2 => "int" | 3 => "text" | 4 => "span" | 5 => "ref" | 6 => "built" | _ => "host"
def knd (x : Vl) : Str := nmK (kn x)
theorem kn_lt (x : Vl) : kn x < 8 := by cases x <;> simp [kn]
theorem nmK_inj : ∀ i < 8, ∀ j < 8, i ≠ j → nmK i ≠ nmK j := by decide +kernel
theorem knd_ne {x y : Vl} (h : kn x ≠ kn y) : knd x ≠ knd y := nmK_inj _ (kn_lt x) _ (kn_lt y) h
theorem knd_is (x : Vl) (n : Nat) (hn : n < 8) : decide (V.str (knd x) = V.str (nmK n)) = decide (kn x = n) := by
  by_cases h : kn x = n
  · rw [decide_eq_true h, ← h]; exact decide_eq_true rfl
  · rw [decide_eq_false h]; exact decide_eq_false fun e => nmK_inj _ (kn_lt x) _ hn h (V.str.inj e)
def resD : Vl → List PyData
  | .non => [] | .bool b => [.bool b] | .int i => [.int i] | .text z => [.str z] | .span a b => [.int a, .int b] | .ref k => [.int (k : Nat)] | .built n => [.str n] | .host n => [.str n]
theorem vlD_eq (x : Vl) : vlD x = .tuple (.str (knd x) :: resD x) := by cases x <;> rfl
def numV : Vl → Option Int
  | .bool b => some (if b then 1 else 0)
  | .int i => some i
  | _ => none
def slx (x y : Vl) : Bool := match numV x, numV y with
  | some i, some j => decide (i = j)
  | _, _ => decide (x = y)
def sl (x y : Vl) : Bool := match x, y with
  | .span a b, .span c d => if a = b then decide (c = d) else decide (a = c ∧ b = d)
  | x, y => slx x y
/-- what == can take -/
def vOk : Vl → Prop
  | .text z => PyData.canLay0 (.str z) = true
  | .built n => PyData.canLay0 (.str n) = true
  | .host n => PyData.canLay0 (.str n) = true
  | _ => True
theorem vOk.shp {x : Vl} (h : vOk x) : Shp 1 (vlD x) := by
  have s : ∀ z : Str, PyData.canLay0 (.str z) = true → Shp 0 (.str z) := fun z h => Shp.str h
  cases x with
  | non => exact Shp.tup (Shp.cons2 (s _ (by decide +kernel)) Shp.none2)
  | bool b => exact Shp.tup (Shp.cons2 (s _ (by decide +kernel)) (Shp.cons2 (Shp.bool 0 b) Shp.none2))
  | int i => exact Shp.tup (Shp.cons2 (s _ (by decide +kernel)) (Shp.cons2 (Shp.int 0 i) Shp.none2))
  | text z => exact Shp.tup (Shp.cons2 (s _ (by decide +kernel)) (Shp.cons2 (s z h) Shp.none2))
  | span a b => exact Shp.tup (Shp.cons2 (s _ (by decide +kernel)) (Shp.cons2 (Shp.int 0 a) (Shp.cons2 (Shp.int 0 b) Shp.none2)))
  | ref k => exact Shp.tup (Shp.cons2 (s _ (by decide +kernel)) (Shp.cons2 (Shp.int 0 _) Shp.none2))
  | built n => exact Shp.tup (Shp.cons2 (s _ (by decide +kernel)) (Shp.cons2 (s n h) Shp.none2))
  | host n => exact Shp.tup (Shp.cons2 (s _ (by decide +kernel)) (Shp.cons2 (s n h) Shp.none2))
theorem bD {α : Type} [BEq α] [LawfulBEq α] [DecidableEq α] (a b : α) : (a == b) = decide (a = b) := by
  by_cases e : a = b
  · subst e; simp
  · simp [e]
theorem kndNe : ∀ x y : Vl, kn x ≠ kn y → PyData.eqv (vlD x) (vlD y) = false := fun x y h => by
  rw [vlD_eq, vlD_eq]
  show (PyData.eqv (.str (knd x)) (.str (knd y)) && _) = false
  have : PyData.eqv (.str (knd x)) (.str (knd y)) = false := by
    show (knd x == knd y) = false
    simpa using knd_ne h
  rw [this]
  rfl
theorem eqv_vl (x y : Vl) (h : numV x = none ∨ numV y = none) : PyData.eqv (vlD x) (vlD y) = decide (x = y) := by
  by_cases hk : kn x = kn y
  · cases x <;> cases y <;> first | (simp [kn] at hk; done) | skip
    · rfl
    · rcases h with h | h <;> cases h
    · rcases h with h | h <;> cases h
    · simp [vlD, PyData.eqv, PyData.eqvAll, bD]
    · simp [vlD, PyData.eqv, PyData.eqvAll, bD]
    · rename_i a b
      simp [vlD, PyData.eqv, PyData.eqvAll, bD]
      omega
    · simp [vlD, PyData.eqv, PyData.eqvAll, bD]
    · simp [vlD, PyData.eqv, PyData.eqvAll, bD]
  · rw [kndNe x y hk, decide_eq_false fun e => hk (by rw [e])]
theorem sl_num {x y : Vl} {i j : Int} (hx : numV x = some i) (hy : numV y = some j) : sl x y = decide (i = j) := by
  cases x <;> cases hx <;> cases y <;> cases hy <;> rfl
theorem sl_oth {x y : Vl} (h : numV x = none ∨ numV y = none) (hs : ∀ a b c d, x = .span a b → y = .span c d → a ≠ b) : sl x y = decide (x = y) := by
  unfold sl
  split
  · rename_i a b c d
    rw [if_neg (hs a b c d rfl rfl)]
    simp
  · unfold slx
    rcases h with h | h
    · rw [h]
    · rw [h]; split <;> first | rfl | (rename_i h2; cases h2)
end
section
variable {P : Program} {w : World} {K : PySem.W.Frag} {mg : Str → Option Value} {base : Heap}
theorem dvl {H : Hp} {v : V} {x : Vl} (h : Dt K H v (vlD x)) : ∃ q ws, v = .ref q ∧ SqT K H q (.str (knd x) :: ws) ∧ DtAll K H ws (resD x) := by
  rw [vlD_eq] at h
  cases h with
  | tup hs ha =>
    cases ha with
    | cons h1 h2 =>
      cases dt_str h1
      exact ⟨_, _, rfl, hs, h2⟩
def spIsNumV (K : PySem.W.Frag) : Sp := fun vs H Q _ => ∃ (v : V) (x : Vl), vs = [v] ∧ Dt K H v (vlD x) ∧ ∀ H', Same H H' → Q (.bl (numV x).isSome) H'
theorem ok_isnumV {f : Addr} {fd : FuncData} (F : Fun K "is_number" "is_number" s_is_number f fd) (T : Txt K mg) : FnG P w K mg base CX0 1 f fd P_is_number (spIsNumV K) := by
  refine okG0 F sc_is_number (fun vs H Q E h => ?_) fun cdv A outer s H vs Q E hr hg h => ?_
  · obtain ⟨v, x, rfl, _⟩ := h
    rfl
  · obtain ⟨v, x, rfl, hd, k⟩ := h
    obtain ⟨q, ws, rfl, hs, _⟩ := dvl hd
    have e0 : ∀ i < 8, inV (V.str (nmK i)) [V.str "int", V.str "bool"] = (i == 1 || i == 2) := by decide +kernel
    have e : inV (V.str (knd x)) [V.str "int", V.str "bool"] = (numV x).isSome := (e0 _ (kn_lt x)).trans (by cases x <;> rfl)
    refine ⟨_, (pss_one (ps_ret (pe_cmpR op_in_seq (pe_ix ix_tup (pv 0) pe_int (fun _ _ => rfl)) (pe_tup (pa_cons pe_str (pa_cons pe_str pa_nil))) (by rfl)))), ?_⟩
    refine ⟨_, rfl, q, _, _, _, rfl, rfl, hs, at0, sz_2, fun u hu => ⟨u, _, rfl, .inr (SqT.of upd_same), rfl, rfl, ?_⟩⟩
    rw [if_neg Bool.false_ne_true, e]
    exact k _ (Same.new hu)
def spSameLeaf (K : PySem.W.Frag) : Sp := fun vs H Q _ => ∃ (v u : V) (x y : Vl), vs = [v, u] ∧ Dt K H v (vlD x) ∧ Dt K H u (vlD y) ∧ vOk x ∧ vOk y ∧ ∀ H', Same H H' → Q (.bl (sl x y)) H'
theorem num_d {x : Vl} {i : Int} (h : numV x = some i) : ∃ d, resD x = [d] ∧ Shp 0 d ∧ ((d = .int i) ∨ ∃ b, d = .bool b ∧ i = if b then 1 else 0) := by
  cases x <;> cases h
  · exact ⟨_, rfl, Shp.bool 0 _, .inr ⟨_, rfl, rfl⟩⟩
  · exact ⟨_, rfl, Shp.int 0 _, .inl rfl⟩
theorem ok_sameleaf {f : Addr} {fd : FuncData} (F : Fun K "same_leaf" "same_leaf" s_same_leaf f fd) (T : Txt K mg) (U_is_number : Use P w K mg base CX0 "is_number" 1 P_is_number (spIsNumV K)) : FnG P w K mg base CX0 2 f fd P_same_leaf (spSameLeaf K) := by
  refine okG0 F sc_same_leaf (fun vs H Q E h => ?_) fun cdv A outer s H vs Q E hr hg h => ?_
  · obtain ⟨v, u, x, y, rfl, _⟩ := h
    rfl
  · obtain ⟨v, u, x, y, rfl, hx, hy, ox, oy, k⟩ := h
    refine ⟨_, (C8.pss_cut (ps_if (PW.pt (pw_and (pt_val (pe_use U_is_number (hr.mono (by decide)) hg rfl (pa_cons (pv 0) pa_nil))) (pw_and1 (pt_val (pe_use U_is_number (hr.mono (by decide)) hg rfl (pa_cons (pv 1) pa_nil))))))
   (pss_one (ps_ret (pe_cmpR (op_eqD hr.units) (pe_ix ix_tup (pv 0) pe_int (fun _ _ => rfl)) (pe_ix ix_tup (pv 1) pe_int (fun _ _ => rfl)) (nomark _))))
   pss_nil)
  (C8.pss_cut (ps_if (PW.pt (pw_and (pt_cmpR op_eq (pe_ix ix_tup (pv 0) pe_int (fun _ _ => rfl)) pe_str (nomark _)) (pw_and (pt_cmpR op_eq (pe_ix ix_tup (pv 1) pe_int (fun _ _ => rfl)) pe_str (nomark _)) (pw_and1 (pt_cmpR (op_eqD hr.units) (pe_ix ix_tup (pv 0) pe_int (fun _ _ => rfl)) (pe_ix ix_tup (pv 0) pe_int (fun _ _ => rfl)) (nomark _))))))
   (pss_one (ps_ret (pe_cmpR (op_eqD hr.units) (pe_ix ix_tup (pv 1) pe_int (fun _ _ => rfl)) (pe_ix ix_tup (pv 1) pe_int (fun _ _ => rfl)) (nomark _))))
   pss_nil)
  (pss_one (ps_ret (pe_cmpR (op_eqD hr.units) (pv 0) (pv 1) (nomark _)))))), ?_⟩
    obtain ⟨q1, w1, rfl, hs1, da1⟩ := dvl hx
    obtain ⟨q2, w2, rfl, hs2, da2⟩ := dvl hy
    refine ⟨fun σ H1 => σ = [some (.ref q1), some (.ref q2)] ∧ Same H H1 ∧ (numV x = none ∨ numV y = none), ?_, ?_⟩
    · refine ⟨_, rfl, _, x, rfl, hx, fun H1 S1 => ⟨_, rfl, ?_⟩⟩
      cases hnx : numV x with
      | none => exact iteFb rfl ⟨rfl, S1, .inl rfl⟩
      | some i =>
        refine iteTb rfl ⟨_, rfl, _, y, rfl, hy.mono S1, fun H2 S2 => ⟨_, rfl, ?_⟩⟩
        cases hny : numV y with
        | none => exact iteFb rfl ⟨rfl, S1.trans S2, .inr rfl⟩
        | some j =>
          refine iteTb rfl ?_
          obtain ⟨d, ed, sd, hd⟩ := num_d hnx
          obtain ⟨e, ee, se, he⟩ := num_d hny
          rw [ed] at da1
          rw [ee] at da2
          obtain ⟨v1, _, rfl, dv1, _⟩ := da1.cons_inv
          obtain ⟨v2, _, rfl, dv2, _⟩ := da2.cons_inv
          have S := S1.trans S2
          refine ⟨_, rfl, q1, _, _, _, rfl, rfl, Same.tupl S hs1, at1, _, rfl, q2, _, _, _, rfl, rfl, Same.tupl S hs2, at1, d, e, (dv1.mono S).dp, (dv2.mono S).dp, sd.sh (by decide), se.sh (by decide), ?_⟩
          have eq : PyData.eqv d e = sl x y := by
            rw [sl_num hnx hny]
            rcases hd with rfl | ⟨b, rfl, rfl⟩ <;> rcases he with rfl | ⟨c, rfl, rfl⟩
            · exact bD _ _
            · exact bD _ _
            · exact bD _ _
            · show (b == c) = _
              cases b <;> cases c <;> rfl
          rw [eq]
          exact k _ S
    rintro _ H1 ⟨rfl, S1, hno⟩
    refine ⟨fun σ H2 => σ = [some (.ref q1), some (.ref q2)] ∧ Same H H2 ∧ ∀ a b c d, x = .span a b → y = .span c d → a ≠ b, ?_, ?_⟩
    · refine ⟨_, rfl, q1, _, _, _, rfl, rfl, Same.tupl S1 hs1, at0, rfl, _, rfl, ?_⟩
      by_cases c1 : kn x = 4
      · refine iteTb ((knd_is x 4 (by decide)).trans (decide_eq_true c1)) ?_
        refine ⟨_, rfl, q2, _, _, _, rfl, rfl, Same.tupl S1 hs2, at0, rfl, _, rfl, ?_⟩
        by_cases c2 : kn y = 4
        · refine iteTb ((knd_is y 4 (by decide)).trans (decide_eq_true c2)) ?_
          cases x with
          | span a b =>
            cases y with
            | span c d =>
              obtain ⟨v1, _, rfl, dv1, da1⟩ := da1.cons_inv
              obtain ⟨v2, _, rfl, dv2, da1⟩ := da1.cons_inv
              obtain ⟨u1, _, rfl, du1, da2⟩ := da2.cons_inv
              obtain ⟨u2, _, rfl, du2, da2⟩ := da2.cons_inv
              refine ⟨_, rfl, q1, _, _, _, rfl, rfl, Same.tupl S1 hs1, at1, _, rfl, q1, _, _, _, rfl, rfl, Same.tupl S1 hs1, at2, .int a, .int b, (dv1.mono S1).dp, (dv2.mono S1).dp, rfl, rfl, _, rfl, ?_⟩
              have e1 : PyData.eqv (.int a) (.int b) = decide (a = b) := bD _ _
              rw [e1]
              refine ite3 (fun hc => ?_) fun hc => ?_
              · have hab := of_decide_eq_true hc
                refine ⟨_, rfl, q2, _, _, _, rfl, rfl, Same.tupl S1 hs2, at1, _, rfl, q2, _, _, _, rfl, rfl, Same.tupl S1 hs2, at2, .int _, .int d, (du1.mono S1).dp, (du2.mono S1).dp, rfl, rfl, ?_⟩
                have e2 : ∀ c : Int, PyData.eqv (.int c) (.int d) = decide (c = d) := fun c => bD _ _
                rw [e2]
                have e3 : sl (.span a b) (.span c d) = decide (c = d) := by show (if a = b then decide (c = d) else decide (a = c ∧ b = d)) = _; rw [if_pos hab]
                rw [← e3]
                exact k _ S1
              · exact ⟨rfl, S1, fun a' b' c' d' h _ => by cases h; exact of_decide_eq_false hc⟩
            | _ => simp [kn] at c2
          | _ => simp [kn] at c1
        · exact iteFb ((knd_is y 4 (by decide)).trans (decide_eq_false c2)) (iteFb rfl ⟨rfl, S1, fun _ _ _ _ _ h => absurd (by rw [h]; rfl) c2⟩)
      · exact iteFb ((knd_is x 4 (by decide)).trans (decide_eq_false c1)) (iteFb rfl ⟨rfl, S1, fun _ _ _ _ h _ => absurd (by rw [h]; rfl) c1⟩)
    · rintro _ H2 ⟨rfl, S2, hsp⟩
      refine ⟨_, rfl, _, rfl, _, _, (hx.mono S2).dp, (hy.mono S2).dp, ox.shp.sh (by decide), oy.shp.sh (by decide), ?_⟩
      rw [eqv_vl x y hno, ← sl_oth hno hsp]
      exact k _ S2
end

section
--SPLIT
end
abbrev s_word : Stmt := top 15
abbrev N_word : List Str := ["heap", "value", "kind"]
abbrev P_word : List Str := ["heap", "value"]
theorem sc_word : FnScope N_word P_word (defScope s_word) := ⟨rfl, rfl, rfl, by decide +kernel, rfl, by decide +kernel, by decide +kernel⟩
abbrev s_key_text : Stmt := top 13
abbrev N_key_text : List Str := ["heap", "value", "words", "waiting", "part", "word"]
abbrev P_key_text : List Str := ["heap", "value"]
theorem sc_key_text : FnScope N_key_text P_key_text (defScope s_key_text) := ⟨rfl, rfl, rfl, by decide +kernel, rfl, by decide +kernel, by decide +kernel⟩
section
variable {P : Program} {w : World} {K : PySem.W.Frag} {mg : Str → Option Value} {base : Heap}
/-! rows of a heap -/
inductive Row
  | tup (vs : List Vl) | lst (vs : List Vl) | dct (es : List (Vl × Vl)) | oth (z : Str) (r : List PyData)
def entD (e : Vl × Vl) : PyData := .tuple [vlD e.1, vlD e.2]
def rkd : Row → Str
  | .tup _ => "tuple" | .lst _ => "list" | .dct _ => "dict" | .oth z _ => z
def rparts : Row → List PyData
  | .tup vs => vs.map vlD | .lst vs => vs.map vlD | .dct es => es.map entD | .oth _ _ => []
def rowD : Row → PyData
  | .oth z r => .tuple (.str z :: r)
  | .tup vs => .tuple [.str "tuple", .tuple (vs.map vlD)]
  | .lst vs => .tuple [.str "list", .tuple (vs.map vlD)]
  | .dct es => .tuple [.str "dict", .tuple (es.map entD)]
def isOth : Row → Prop
  | .oth z _ => z ≠ "tuple" ∧ z ≠ "list" ∧ z ≠ "dict"
  | _ => True
def rlen : Row → Nat
  | .tup vs => vs.length | .lst vs => vs.length | .dct es => es.length | .oth _ _ => 0
structure RowOk (r : Row) : Prop where
  oth : isOth r
  len : rlen r ≤ 1000
theorem rowD_hd (r : Row) : ∃ rest, rowD r = .tuple (.str (rkd r) :: rest) := by cases r <;> exact ⟨_, rfl⟩
theorem rowD_two {r : Row} (h : ∀ z q, r ≠ .oth z q) : rowD r = .tuple [.str (rkd r), .tuple (rparts r)] := by
  cases r with
  | oth z q => exact absurd rfl (h z q)
  | _ => rfl
def tsI (i : Int) : Str := Str.ofString (toString i)
def wordR (rows : List Row) : Vl → Str
  | .non => "none"
  | .bool b => tsI (if b = true then 1 else 0)
  | .int i => tsI i
  | .text z => (tsI ((z.length : Nat) : Int) ++ ":") ++ z
  | .ref k => match rows[k]? with
    | some (.tup vs) => "(" ++ tsI ((vs.length : Nat) : Int)
    | _ => ""
  | _ => ""
def wOk (rows : List Row) : Vl → Prop
  | .int i => i.natAbs < 2 ^ 260
  | .text z => z.length ≤ 2000
  | .ref k => ∃ r, rows[k]? = some r ∧ RowOk r
  | _ => True
theorem tsI_len {i : Int} (h : i.natAbs < 2 ^ 1900) : (tsI i).length ≤ 2000 := by
  have hl : i.natAbs.log2 < 1900 := PySem.Flt.log2_lt_of (by decide) h
  have e := int_text_length_le (k := 1900) (by decide) hl
  show (Str.ofString (toString i)).length ≤ 2000
  rw [PySem.ofString_length]; omega
theorem log_lt {i : Int} (h : i.natAbs < 2 ^ 300) : i.natAbs.log2 < 1920 := Nat.lt_of_lt_of_le (PySem.Flt.log2_lt_of (k := 300) (by decide) h) (by decide)
theorem small_lt {n : Nat} (h : n ≤ 2000) : ((n : Nat) : Int).natAbs < 2 ^ 300 := Nat.lt_of_le_of_lt (show _ ≤ 2000 by omega) (Nat.lt_of_lt_of_le (show 2000 < 2 ^ 11 by decide) (Nat.pow_le_pow_right (by decide) (by decide)))
theorem kindR {rows : List Row} {x : Vl} (h : ∀ k, x = .ref k → ∃ r, rows[k]? = some r ∧ RowOk r) : ∃ kd, KindIs (rows.map rowD) (vlD x) kd ∧ ((∀ k, x ≠ .ref k) → kd = "") ∧ ∀ k r, x = .ref k → rows[k]? = some r → kd = rkd r := by
  by_cases c : ∃ k, x = .ref k
  · obtain ⟨k, rfl⟩ := c
    obtain ⟨r, hr, _⟩ := h k rfl
    obtain ⟨rest, e⟩ := rowD_hd r
    exact ⟨rkd r, .obj (rest := rest) (by rw [List.getElem?_map, hr]; exact congrArg some e), fun h => absurd rfl (h k), fun k' r' h1 h2 => by cases h1; rw [hr] at h2; rw [Option.some.inj h2]⟩
  · have hk : kn x ≠ 5 := fun e => c (by cases x <;> simp [kn] at e; exact ⟨_, rfl⟩)
    exact ⟨"", by rw [vlD_eq]; exact .plain fun e => (knd_ne (y := .ref 0) hk) (V.str.inj e), fun _ => rfl, fun k _ e => absurd ⟨k, e⟩ c⟩
def spWord (K : PySem.W.Frag) : Sp := fun vs H Q _ => ∃ (hp : Addr) (rows : List Row) (v : V) (x : Vl), vs = [.ref hp, v] ∧ ListAt K H hp (rows.map rowD) ∧ Dt K H v (vlD x) ∧ wOk rows x ∧ ∀ H', Same H H' → Q (.str (wordR rows x)) H'
theorem ok_word {f : Addr} {fd : FuncData} (F : Fun K "_word" "_word" s_word f fd) (T : Txt K mg) (U_object_kind : Use P w K mg base CX0 "object_kind" 1 P_object_kind (spKind K)) : FnG P w K mg base CX0 2 f fd P_word (spWord K) := by
  refine okG0 F sc_word (fun vs H Q E h => ?_) fun cdv A outer s H vs Q E hr hg h => ?_
  · obtain ⟨hp, rows, v, x, rfl, _⟩ := h
    rfl
  · obtain ⟨hp, rows, v, x, rfl, L, dx, hw, k⟩ := h
    refine ⟨_, (pss_cons (ps_set (i := 2) sc_word.nd rfl (Or.inl rfl) (pe_ix ix_tup (pv 1) pe_int (fun _ _ => rfl)))
  (pss_cons (ps_if (pt_cmpR op_eq (pv 2) pe_str (nomark _))
   (pss_one (ps_ret pe_str))
   pss_nil)
  (pss_cons (ps_if (pt_cmpR op_in_seq (pv 2) (pe_tup (pa_cons pe_str (pa_cons pe_str pa_nil))) (by rfl))
   (pss_one (ps_ret (pe_callTy call_str_int (by rfl) T.b_str (by decide +kernel) (pa_cons (pe_callTy call_int1 (by rfl) T.b_int (by decide +kernel) (pa_cons (pe_ix ix_tup (pv 1) pe_int (fun _ _ => rfl)) pa_nil)) pa_nil))))
   pss_nil)
  (pss_cons (ps_if (pt_cmpR op_eq (pv 2) pe_str (nomark _))
   (pss_one (ps_ret (pe_op op_add_str (pe_op op_add_str (pe_callTy call_str_int (by rfl) T.b_str (by decide +kernel) (pa_cons (pe_callB call_len (by rfl) T.b_len PySem.boot_len (pa_cons (pe_ix ix_tup (pv 1) pe_int (fun _ _ => rfl)) pa_nil)) pa_nil)) pe_str) (pe_ix ix_tup (pv 1) pe_int (fun _ _ => rfl)))))
   pss_nil)
  (pss_cons (ps_if (pt_cmpR op_eq (pe_use U_object_kind (hr.mono (by decide)) hg rfl (pa_cons (pv 0) (pa_cons (pv 1) pa_nil))) pe_str (nomark _))
   (pss_one (ps_ret (pe_op op_add_str pe_str (pe_callTy call_str_int (by rfl) T.b_str (by decide +kernel) (pa_cons (pe_callB call_len (by rfl) T.b_len PySem.boot_len (pa_cons (pe_ix ix_tup (pe_ix ix_list (pv 0) (pe_ix ix_tup (pv 1) pe_int (fun _ _ => rfl)) (fun _ _ => rfl)) pe_int (fun _ _ => rfl)) pa_nil)) pa_nil)))))
   pss_nil)
  (pss_one (ps_ret pe_str))))))), ?_⟩
    obtain ⟨q, ws, rfl, hs, da⟩ := dvl dx
    refine ⟨_, rfl, q, _, _, _, rfl, rfl, hs, at0, ?_⟩
    have kd : ∀ n < 8, decide (V.str (knd x) = V.str (nmK n)) = decide (kn x = n) := fun n hn => knd_is x n hn
    refine ⟨_, rfl, rfl, _, rfl, ?_⟩
    by_cases c0 : kn x = 0
    · refine iteTb ((kd 0 (by decide)).trans (decide_eq_true c0)) ?_
      cases x <;> simp [kn] at c0
      exact k _ (Same.refl _)
    refine iteFb ((kd 0 (by decide)).trans (decide_eq_false c0)) ?_
    have e0 : ∀ i < 8, inV (V.str (nmK i)) [V.str "bool", V.str "int"] = (i == 1 || i == 2) := by decide +kernel
    refine ⟨_, rfl, sz_2, fun u hu => ⟨u, _, rfl, .inr (SqT.of upd_same), rfl, rfl, _, rfl, ?_⟩⟩
    have S1 := Same.new (o := .tup [V.str "bool", V.str "int"]) hu
    generalize upd H u _ = H1 at S1
    have num : ∀ i : Int, i.natAbs < 2 ^ 300 → i.natAbs.log2 < 1920 := fun i h => log_lt h
    by_cases c1 : kn x = 1 ∨ kn x = 2
    · refine iteTb (by rw [if_neg Bool.false_ne_true]; exact (e0 _ (kn_lt x)).trans (by rcases c1 with c | c <;> rw [c] <;> rfl)) ?_
      cases x with
      | bool b =>
        obtain ⟨v1, _, rfl, dv1, _⟩ := da.cons_inv
        cases dv1
        exact ⟨_, rfl, q, _, _, _, rfl, rfl, Same.tupl S1 hs, at1, .inr ⟨_, rfl, _, rfl, num _ (by cases b <;> exact Nat.lt_of_lt_of_le (show _ < 2 ^ 2 by decide) (Nat.pow_le_pow_right (by decide) (by decide))), k _ S1⟩⟩
      | int i =>
        obtain ⟨v1, _, rfl, dv1, _⟩ := da.cons_inv
        cases dv1.int_inv
        exact ⟨_, rfl, q, _, _, _, rfl, rfl, Same.tupl S1 hs, at1, .inl ⟨_, rfl, _, rfl, num _ (Nat.lt_of_lt_of_le hw (Nat.pow_le_pow_right (by decide) (by decide))), k _ S1⟩⟩
      | _ => simp [kn] at c1
    refine iteFb (by rw [if_neg Bool.false_ne_true]; exact (e0 _ (kn_lt x)).trans (by rw [not_or] at c1; simp [c1.1, c1.2])) ?_
    refine ⟨_, rfl, rfl, _, rfl, ?_⟩
    by_cases c3 : kn x = 3
    · refine iteTb ((kd 3 (by decide)).trans (decide_eq_true c3)) ?_
      cases x with
      | text z =>
        obtain ⟨v1, _, rfl, dv1, _⟩ := da.cons_inv
        cases dt_str dv1
        have hz : z.length ≤ 2000 := hw
        have ht := tsI_len (i := ((z.length : Nat) : Int)) (Nat.lt_of_lt_of_le (small_lt hz) (Nat.pow_le_pow_right (by decide) (by decide)))
        exact ⟨_, rfl, q, _, _, _, rfl, rfl, Same.tupl S1 hs, at1, _, _, rfl, ⟨ss_le (by omega), rfl⟩, _, rfl, num _ (small_lt hz), _, _, rfl, rfl, ss_le (by show (tsI _).length + 1 ≤ _; omega), _, rfl, q, _, _, _, rfl, rfl, Same.tupl S1 hs, at1, _, _, rfl, rfl, ss_le (by rw [strlen_cat]; show (tsI _).length + 1 + _ ≤ _; omega), k _ S1⟩
      | _ => simp [kn] at c3
    refine iteFb ((kd 3 (by decide)).trans (decide_eq_false c3)) ?_
    obtain ⟨kd1, hk, hk0, hk1⟩ := kindR (rows := rows) (x := x) (fun k e => by subst e; exact hw)
    refine ⟨_, rfl, _, rfl, hp, _, _, _, kd1, rfl, listAt_mono L S1, dx.mono S1, hk, rfl, _, rfl, ?_⟩
    by_cases c5 : kn x = 5
    · cases x with
      | ref j =>
        obtain ⟨r, hr, ok⟩ := hw
        obtain rfl := hk1 j r rfl hr
        cases r with
        | tup vs =>
          refine iteTb (dec_str1 _) ?_
          obtain ⟨xs, y, ez, hy, dy⟩ := hd_at (listAt_mono L S1) (j := j) (d := rowD (.tup vs)) (by rw [List.getElem?_map, hr]; rfl)
          obtain ⟨qo, x1, x2, rfl, hqo, d1, d2⟩ := dt_pr dy
          cases d2 with
          | @tup pt ps _ hps hd =>
          have lps := hd.length
          rw [List.length_map] at lps
          obtain ⟨v1, _, rfl, dv1, _⟩ := da.cons_inv
          cases dv1.int_inv
          have hlv : vs.length ≤ 1000 := ok.len
          refine ⟨_, rfl, _, rfl, q, _, _, _, rfl, rfl, Same.tupl S1 hs, at1, hp, _, _, _, rfl, rfl, SqL.of ez, hy, qo, _, _, _, rfl, rfl, hqo, at1, _, _, rfl, .inr ⟨_, hps, rfl⟩, ?_⟩
          rw [lps]
          have ht := tsI_len (i := ((vs.length : Nat) : Int)) (Nat.lt_of_lt_of_le (small_lt (by omega)) (Nat.pow_le_pow_right (by decide) (by decide)))
          have e : wordR rows (.ref j) = "(" ++ tsI ((vs.length : Nat) : Int) := by
            show (match rows[j]? with | some (.tup vs) => ("(" ++ tsI ((vs.length : Nat) : Int) : Str) | _ => "") = _
            rw [hr]
          rw [e] at k
          exact ⟨_, rfl, num _ (small_lt (by omega)), _, _, rfl, rfl, ss_le (by show 1 + (tsI _).length ≤ _; omega), k _ S1⟩
        | lst vs =>
          refine iteFb (dec_str (show ("list" : Str) ≠ "tuple" by decide)) ?_
          have e : wordR rows (.ref j) = "" := by
            show (match rows[j]? with | some (.tup vs) => ("(" ++ tsI ((vs.length : Nat) : Int) : Str) | _ => "") = _
            rw [hr]
          rw [e] at k
          exact k _ S1
        | dct es =>
          refine iteFb (dec_str (show ("dict" : Str) ≠ "tuple" by decide)) ?_
          have e : wordR rows (.ref j) = "" := by
            show (match rows[j]? with | some (.tup vs) => ("(" ++ tsI ((vs.length : Nat) : Int) : Str) | _ => "") = _
            rw [hr]
          rw [e] at k
          exact k _ S1
        | oth z rest =>
          refine iteFb (dec_str ok.oth.1) ?_
          have e : wordR rows (.ref j) = "" := by
            show (match rows[j]? with | some (.tup vs) => ("(" ++ tsI ((vs.length : Nat) : Int) : Str) | _ => "") = _
            rw [hr]
          rw [e] at k
          exact k _ S1
      | _ => simp [kn] at c5
    · rw [hk0 fun j e => c5 (by rw [e]; rfl)]
      refine iteFb (by decide +kernel) ?_
      have e : wordR rows x = "" := by
        cases x <;> simp [kn] at c0 c1 c3 c5 <;> rfl
      rw [e] at k
      exact k _ S1
/-- the words of a key: n turns, what waits (the next first); none: it is no key -/
inductive KW (rows : List Row) : Nat → List Vl → Option (List Str) → Prop
  | done : KW rows 1 [] (some [])
  | word {n : Nat} {x : Vl} {st : List Vl} {r : Option (List Str)} : wordR rows x ≠ "" → (∀ k, x ≠ .ref k) → wOk rows x → KW rows n st r → KW rows (n + 1) (x :: st) (r.map (wordR rows x :: ·))
  | tup {n k : Nat} {vs st : List Vl} {r : Option (List Str)} : rows[k]? = some (.tup vs) → vs.length ≤ 1000 → KW rows n (vs ++ st) r → KW rows (n + 1) (.ref k :: st) (r.map (wordR rows (.ref k) :: ·))
  | bad {x : Vl} {st : List Vl} : wordR rows x = "" → wOk rows x → KW rows 1 (x :: st) none
theorem wordR_len {rows : List Row} {x : Vl} (h : wOk rows x) : (wordR rows x).length ≤ 5000 := by
  have ti : ∀ i : Int, i.natAbs < 2 ^ 300 → (tsI i).length ≤ 2000 := fun i h => tsI_len (Nat.lt_of_lt_of_le h (Nat.pow_le_pow_right (by decide) (by decide)))
  cases x with
  | non => exact Nat.le_of_ble_eq_true rfl
  | bool b => exact Nat.le_trans (ti _ (by cases b <;> exact Nat.lt_of_lt_of_le (show _ < 2 ^ 2 by decide) (Nat.pow_le_pow_right (by decide) (by decide)))) (by decide)
  | int i => exact Nat.le_trans (ti i (Nat.lt_of_lt_of_le h (Nat.pow_le_pow_right (by decide) (by decide)))) (by decide)
  | text z =>
    have hz : z.length ≤ 2000 := h
    have := ti ((z.length : Nat) : Int) (small_lt hz)
    show ((tsI ((z.length : Nat) : Int) ++ ":") ++ z).length ≤ 5000
    rw [strlen_cat, strlen_cat]
    show _ + 1 + _ ≤ _
    omega
  | span a b => exact Nat.zero_le _
  | built n => exact Nat.zero_le _
  | host n => exact Nat.zero_le _
  | ref k =>
    obtain ⟨r, hr, ok⟩ := h
    show (match rows[k]? with | some (.tup vs) => ("(" ++ tsI ((vs.length : Nat) : Int) : Str) | _ => "").length ≤ _
    rw [hr]
    cases r with
    | tup vs =>
      have hv : vs.length ≤ 1000 := ok.len
      have := ti ((vs.length : Nat) : Int) (small_lt (by omega))
      show ("(" ++ tsI ((vs.length : Nat) : Int) : Str).length ≤ _
      rw [strlen_cat]
      show 1 + _ ≤ _
      omega
    | lst vs => exact Nat.zero_le _
    | dct vs => exact Nat.zero_le _
    | oth z r => exact Nat.zero_le _
def kresV (t : Str) : Option (List Str) → List V
  | some ws => [.str "ok", .str (Txt.join " " ws)]
  | none => [.str "raise", .int 10, .str ("not a key: " ++ t)]
def spKeyText (K : PySem.W.Frag) : Sp := fun vs H Q _ => ∃ (hp : Addr) (rows : List Row) (v : V) (x : Vl) (n : Nat) (r : Option (List Str)) (t : Str), vs = [.ref hp, v] ∧ ListAt K H hp (rows.map rowD) ∧ Dt K H v (vlD x) ∧ KW rows n [x] r ∧ n ≤ 900 ∧ (r = none → NameOf (rows.map rowD) (vlD x) t ∧ t.length ≤ 1000) ∧
  ∀ q H', Same H H' → H q = none → H' q = some (.tup (kresV t r)) → Q (.ref q) H'
theorem ok_keytext {f : Addr} {fd : FuncData} (F : Fun K "key_text" "key_text" s_key_text f fd) (T : Txt K mg) (U_word : Use P w K mg base CX0 "_word" 2 P_word (spWord K)) (U_kind_name : Use P w K mg base CX0 "kind_name" 1 P_kind_name (spKName K)) : FnG P w K mg base CX0 3 f fd P_key_text (spKeyText K) := by
  refine okG0 F sc_key_text (fun vs H Q E h => ?_) fun cdv A outer s H vs Q E hr hg h => ?_
  · obtain ⟨hp, rows, v, x, n, r, t, rfl, _⟩ := h
    rfl
  · obtain ⟨hp, rows, v, x, n, r, t, rfl, L, dx, kw, hn, hbad, k⟩ := h
    refine ⟨_, (pss_cons (ps_set (i := 2) sc_key_text.nd rfl (Or.inl rfl) (pe_lst pa_nil))
  (pss_cons (ps_set (i := 3) sc_key_text.nd rfl (Or.inl rfl) (pe_lst (pa_cons (pv 1) pa_nil)))
  (pss_cons (ps_while PassesOwn.never (pt_up (pt_truth (pv 3) (by intro _; rfl)))
   (pss_cons (ps_if (pt_cmpR op_eq (pe_callB call_len (by rfl) T.b_len PySem.boot_len (pa_cons (pv 2) pa_nil)) (pe_globI T.c_MOST_ENTRIES (by rfl)) (nomark _))
   (pss_one (ps_ret (pe_globT T.c_TOO_LARGE (by rfl))))
   pss_nil)
  (pss_cons (ps_set (i := 4) sc_key_text.nd rfl (Or.inl rfl) (pe_bm0 PySem.F.plainAttrs_list PySem.F.slot_list_pop PySem.F.type_list_pop mt_pop (pv 3)))
  (pss_cons (ps_set (i := 5) sc_key_text.nd rfl (Or.inl rfl) (pe_use U_word (hr.mono (by decide)) hg rfl (pa_cons (pv 0) (pa_cons (pv 4) pa_nil))))
  (pss_cons (ps_if (pt_cmpR op_eq (pv 5) pe_str (nomark _))
   (pss_one (ps_ret (pe_tup (pa_cons pe_str (pa_cons (pe_globI T.c_TYPE_ERROR (by rfl)) (pa_cons (pe_op op_add_str pe_str (pe_use U_kind_name (hr.mono (by decide)) hg rfl (pa_cons (pv 0) (pa_cons (pv 1) pa_nil)))) pa_nil))))))
   pss_nil)
  (pss_cons (ps_expr (pe_bm PySem.F.plainAttrs_list PySem.F.slot_list_append PySem.F.type_list_append mt_append (pv 2) (pa_cons (pv 5) pa_nil)))
  (pss_one (ps_if (pt_cmpR op_eq (pe_ix ix_tup (pv 4) pe_int (fun _ _ => rfl)) pe_str (nomark _))
   (pss_one (ps_expr (pe_bm PySem.F.plainAttrs_list PySem.F.slot_list_extend PySem.F.type_list_extend mt_extend (pv 3) (pa_cons (pe_listRevT rfl (by rfl) T.b_list (by rfl) T.b_reversed (pe_ix ix_tup (pe_ix ix_list (pv 0) (pe_ix ix_tup (pv 4) pe_int (fun _ _ => rfl)) (fun _ _ => rfl)) pe_int (fun _ _ => rfl))) pa_nil))))
   pss_nil))))))))
  (pss_one (ps_ret (pe_tup (pa_cons pe_str (pa_cons (pe_bm PySem.F.plainAttrs_str PySem.F.slot_str_join PySem.F.type_str_join mt_join pe_str (pa_cons (pv 2) pa_nil)) pa_nil)))))))), ?_⟩
    refine ⟨sz_0, fun wl hwl => ⟨_, rfl, sz_1, fun tl htl => ?_⟩⟩
    have S1 := Same.new (o := .lst []) hwl
    have ew1 : upd H wl (.lst []) wl = some (.lst []) := upd_same
    have S2 := S1.trans (Same.new (o := .lst [v]) htl)
    have nwt : wl ≠ tl := ne_of_none ew1 htl
    have hw0 : H wl = none := hwl
    have ht0 : H tl = none := same_none' S1 htl
    have ew2 : upd (upd H wl (.lst [])) tl (.lst [v]) wl = some (.lst []) := by rw [upd_ne nwt]; exact ew1
    have et2 : upd (upd H wl (.lst [])) tl (.lst [v]) tl = some (.lst [v]) := upd_same
    generalize upd (upd H wl (.lst [])) tl (.lst [v]) = H2 at S2 ew2 et2
    clear hwl htl S1 ew1
    have sp1 : (" " : Str).length = 1 := rfl
    refine while_upN (fun m σ H4 => ∃ (ws : List Str) (zs : List V) (st : List Vl) (r' : Option (List Str)) (x4 x5 : Option V), σ = [some (.ref hp), some v, some (.ref wl), some (.ref tl), x4, x5] ∧ Same H H4 ∧ H4 wl = some (.lst (ws.map V.str)) ∧ H4 tl = some (.lst zs) ∧ DtAll K H4 zs (st.reverse.map vlD) ∧ KW rows m st r' ∧ r = r'.map (ws ++ ·) ∧
        ws.length + m ≤ 900 ∧ (ws.map (·.length)).sum ≤ 5000 * ws.length ∧ st.length ≤ 1 + 1000 * ws.length)
      ⟨n, [], [v], [x], r, none, none, rfl, S2, ew2, et2, .cons (dx.mono S2) .nil, kw, by cases r <;> rfl, by simpa using hn, by simp, by simp⟩ ?_
    clear ew2 et2 S2
    rintro m σ H4 ⟨ws, zs, st, r', x4, x5, rfl, S4, ew, et, az, kw, hr', hm, hsum, hst⟩
    have lz := az.length
    rw [List.length_map, List.length_reverse] at lz
    refine ⟨_, rfl, !zs.isEmpty, .inl ⟨zs, SqL.of et, rfl⟩, ?_⟩
    cases st with
    | nil =>
      obtain rfl : zs = [] := List.length_eq_zero_iff.mp lz
      refine iteFb rfl ?_
      cases kw
      refine ⟨rfl, _, rfl, " ", wl, ws, rfl, rfl, .inl (SqL.of ew), by rw [sp1]; omega, sz_2, fun q hq => ?_⟩
      have e : r = some ws := by rw [hr']; show some (ws ++ []) = _; rw [List.append_nil]
      refine k q _ (S4.trans (Same.new hq)) (same_none' S4 hq) ?_
      rw [e]
      exact upd_same
    | cons y st =>
      have hne : (!zs.isEmpty) = true := by cases zs <;> simp at lz ⊢
      refine iteTb hne ?_
      rw [List.length_cons] at lz
      refine ⟨_, rfl, _, _, rfl, .inl ⟨_, SqL.of ew, rfl⟩, rfl, _, rfl, iteFb ?_ ?_⟩
      · rw [List.length_map]
        exact decide_eq_false fun e => by have := V.int.inj e; omega
      rw [List.reverse_cons, List.map_append] at az
      obtain ⟨zs0, u, rfl, az0, du⟩ := dtAll_snoc az
      refine ⟨_, rfl, .inl ⟨rfl, _, SqL.of et⟩, tl, _, u, rfl, rfl, et, by simp, ?_⟩
      rw [List.dropLast_concat]
      have kT : KeepT K H4 (upd H4 tl (.lst zs0)) := KeepT.upd et
      have S5 : Same H (upd H4 tl (.lst zs0)) := fun b o e => by rw [upd_ne (ne_of_none e ht0)]; exact S4 b o e
      have ew5 : upd H4 tl (.lst zs0) wl = some (.lst (ws.map V.str)) := by rw [upd_ne nwt]; exact ew
      have et5 : upd H4 tl (.lst zs0) tl = some (.lst zs0) := upd_same
      have az5 := az0.keepT kT
      have du5 := du.keepT kT
      generalize upd H4 tl (.lst zs0) = H5 at S5 ew5 et5 az5 du5
      clear kT az az0 du et ew S4
      obtain ⟨hwk, hcase⟩ : wOk rows y ∧ ((wordR rows y = "" ∧ r' = none) ∨ (wordR rows y ≠ "" ∧ (((∀ k, y ≠ .ref k) ∧ ∃ n' r2, m = n' + 1 ∧ KW rows n' st r2 ∧ r' = r2.map (wordR rows y :: ·)) ∨ (∃ k vs n' r2, y = .ref k ∧ rows[k]? = some (.tup vs) ∧ vs.length ≤ 1000 ∧ m = n' + 1 ∧ KW rows n' (vs ++ st) r2 ∧ r' = r2.map (wordR rows y :: ·))))) := by
        cases kw with
        | @word n' _ _ r2 h1 h2 h3 h4 => exact ⟨h3, .inr ⟨h1, .inl ⟨h2, n', r2, rfl, h4, rfl⟩⟩⟩
        | @tup n' kk vs _ r2 h1 h2 h3 =>
          refine ⟨⟨_, h1, trivial, h2⟩, .inr ⟨?_, .inr ⟨kk, vs, n', r2, rfl, h1, h2, rfl, h3, rfl⟩⟩⟩
          have e : wordR rows (.ref kk) = "(" ++ tsI ((vs.length : Nat) : Int) := by
            show (match rows[kk]? with | some (.tup vs) => ("(" ++ tsI ((vs.length : Nat) : Int) : Str) | _ => "") = _
            rw [h1]
          rw [e]
          intro h
          have := congrArg Str.length h
          rw [strlen_cat] at this
          have e2 : ("(" : Str).length = 1 ∧ ("" : Str).length = 0 := ⟨rfl, rfl⟩
          omega
        | bad h1 h2 => exact ⟨h2, .inl ⟨h1, rfl⟩⟩
      refine ⟨_, rfl, _, rfl, hp, rows, _, y, rfl, listAt_mono L S5, du5, hwk, fun H6 S6 => ?_⟩
      have S56 := S5.trans S6
      have ew6 := S6 _ _ ew5
      have et6 := S6 _ _ et5
      have az6 := DtAll.mono S6 az5
      have du6 := du5.mono S6
      have hwl6 := wordR_len hwk
      clear ew5 et5 az5 du5
      refine ⟨_, rfl, rfl, _, rfl, ?_⟩
      rcases hcase with ⟨h1, rfl⟩ | ⟨h1, hcase⟩
      · refine iteTb (by rw [h1]; rfl) ?_
        have er : r = none := hr'
        obtain ⟨hb1, hb2⟩ := hbad er
        have ln : ("not a key: " : Str).length = 11 := rfl
        refine ⟨_, rfl, _, rfl, hp, _, v, _, t, rfl, listAt_mono L S56, dx.mono S56, hb1, _, _, rfl, rfl, ss_le (by rw [ln]; omega), sz_3, fun q hq => ?_⟩
        refine k q _ (S56.trans (Same.new hq)) (same_none' S56 hq) ?_
        rw [er]
        exact upd_same
      refine iteFb (dec_str h1) ?_
      refine ⟨_, rfl, .inl ⟨rfl, _, SqL.of ew6⟩, _, rfl, wl, _, _, rfl, rfl, ew6, by rw [List.length_map]; exact js_lt (by omega), ?_⟩
      have kT : KeepT K H6 (upd H6 wl (.lst (ws.map V.str ++ [.str (wordR rows y)]))) := KeepT.upd ew6
      have S7 : Same H (upd H6 wl (.lst (ws.map V.str ++ [.str (wordR rows y)]))) := fun b o e => by rw [upd_ne (ne_of_none e hw0)]; exact S56 b o e
      have ew7 : upd H6 wl (.lst (ws.map V.str ++ [.str (wordR rows y)])) wl = some (.lst ((ws ++ [wordR rows y]).map V.str)) := by rw [upd_same, List.map_append]; rfl
      have et7 : upd H6 wl (.lst (ws.map V.str ++ [.str (wordR rows y)])) tl = some (.lst zs0) := by rw [upd_ne (Ne.symm nwt)]; exact et6
      have az7 := az6.keepT kT
      have du7 := du6.keepT kT
      generalize upd H6 wl (.lst (ws.map V.str ++ [.str (wordR rows y)])) = H7 at S7 ew7 et7 az7 du7
      clear kT ew6 et6 az6 du6
      obtain ⟨q, wq, rfl, hq, dq⟩ := dvl du7
      have hsum2 : ((ws ++ [wordR rows y]).map (·.length)).sum ≤ 5000 * (ws ++ [wordR rows y]).length := by
        rw [List.map_append, List.sum_append, List.length_append]
        show _ + ((wordR rows y).length + 0) ≤ 5000 * (ws.length + 1)
        omega
      have hl2 : (ws ++ [wordR rows y]).length = ws.length + 1 := by rw [List.length_append]; rfl
      have hr2 : ∀ r2 : Option (List Str), r' = r2.map (wordR rows y :: ·) → r = r2.map ((ws ++ [wordR rows y]) ++ ·) := fun r2 e => by
        rw [hr', e]
        cases r2 with
        | none => rfl
        | some l => show some (ws ++ (_ :: l)) = some ((ws ++ [_]) ++ l); rw [List.append_assoc]; rfl
      refine ⟨_, rfl, q, _, _, _, rfl, rfl, hq, at0, rfl, _, rfl, ?_⟩
      rcases hcase with ⟨h2, n', r2, rfl, h3, h4⟩ | ⟨kk, vs, n', r2, rfl, h2, h3, rfl, h4, h5⟩
      · have n5 : kn y ≠ 5 := fun e => by
          cases y <;> simp [kn] at e
          exact h2 _ rfl
        refine iteFb ((knd_is y 5 (by decide)).trans (decide_eq_false n5)) ?_
        exact ⟨n', Nat.lt_succ_self _, ws ++ [wordR rows y], zs0, st, r2, _, _, rfl, S7, ew7, et7, az7, h3, hr2 _ h4, by rw [hl2]; omega, hsum2, by rw [hl2]; rw [List.length_cons] at hst; omega⟩
      · refine iteTb ((knd_is (.ref kk) 5 (by decide)).trans (decide_eq_true rfl)) ?_
        obtain ⟨xs, o, ez, ho, dO⟩ := hd_at (listAt_mono L S7) (j := kk) (d := rowD (.tup vs)) (by rw [List.getElem?_map, h2]; rfl)
        obtain ⟨qo, x1, x2, rfl, hqo, d1, d2⟩ := dt_pr dO
        cases d2 with
        | @tup pt ps _ hps hd =>
        obtain ⟨v1, _, rfl, dv1, _⟩ := dq.cons_inv
        cases dv1.int_inv
        have lps := hd.length
        rw [List.length_map] at lps
        have lz0 := az7.length
        rw [List.length_map, List.length_reverse] at lz0
        rw [List.length_cons] at hst
        refine ⟨_, rfl, .inl ⟨rfl, _, SqL.of et7⟩, _, rfl, _, rfl, q, _, _, _, rfl, rfl, hq, at1, hp, _, _, _, rfl, rfl, SqL.of ez, ho, qo, _, _, _, rfl, rfl, hqo, at1, pt, ps, rfl, hps, fun rl hrl => ?_⟩
        have S8 := Same.new (o := .lst ps.reverse) hrl
        refine ⟨tl, rl, zs0, ps.reverse, rfl, rfl, S8 _ _ et7, upd_same, Nat.le_trans (show zs0.length + ps.reverse.length ≤ 5000000 by rw [List.length_reverse]; omega) (by decide), ?_⟩
        have et8 := S8 _ _ et7
        have kT8 : KeepT K (upd H7 rl (.lst ps.reverse)) (upd (upd H7 rl (.lst ps.reverse)) tl (.lst (zs0 ++ ps.reverse))) := KeepT.upd et8
        refine ⟨n', Nat.lt_succ_self _, ws ++ [wordR rows (.ref kk)], zs0 ++ ps.reverse, vs ++ st, r2, _, _, rfl, fun b o e => by rw [upd_ne (ne_of_none e ht0)]; exact (S7.trans S8) b o e, by rw [upd_ne nwt]; exact S8 _ _ ew7, upd_same, ?_, h4, hr2 _ h5, by rw [hl2]; omega, hsum2, by rw [hl2, List.length_append]; omega⟩
        rw [List.reverse_append, List.map_append, List.map_reverse (l := vs)]
        exact DtAll.app ((DtAll.mono S8 az7).keepT kT8) ((DtAll.mono S8 (dtAll_rev hd)).keepT kT8)
def KTx (rows : List Row) (kt : Vl → Str) (x : Vl) : Prop := ∃ n ws, KW rows n [x] (some ws) ∧ n ≤ 900 ∧ kt x = Txt.join " " ws
def bothR (p : Vl × Vl) : Bool := match p with
  | (.ref _, .ref _) => true
  | _ => false
theorem dt_ent {H : Hp} {v : V} {e : Vl × Vl} (h : Dt K H v (entD e)) : ∃ q x y, v = .ref q ∧ SqT K H q [x, y] ∧ Dt K H x (vlD e.1) ∧ Dt K H y (vlD e.2) := dt_pr h
end

section
--SPLIT
end
abbrev s_find_key : Stmt := top 14
abbrev N_find_key : List Str := ["heap", "entries", "key", "text", "at", "other", "_"]
abbrev P_find_key : List Str := ["heap", "entries", "key"]
theorem sc_find_key : FnScope N_find_key P_find_key (defScope s_find_key) := ⟨rfl, rfl, rfl, by decide +kernel, rfl, by decide +kernel, by decide +kernel⟩
section
/-! keys of a dict -/
structure KOk (rows : List Row) (kt : Vl → Str) (x : Vl) : Prop where
  k : KTx rows kt x
  v : vOk x
  s : PyData.canLay0 (.str (kt x)) = true
def mt (kt : Vl → Str) (e k : Vl) : Bool := if bothR (k, e) = true then decide (kt e = kt k) else sl e k
def findK (kt : Vl → Str) (es : List (Vl × Vl)) (k : Vl) : Option Nat := es.findIdx? fun e => mt kt e.1 k
def placeI : Option Nat → Int
  | some i => (i : Nat)
  | none => -1
theorem findK_some {kt : Vl → Str} {es : List (Vl × Vl)} {k : Vl} {i : Nat} {e : Vl × Vl} (h : es[i]? = some e) (hm : mt kt e.1 k = true) (hb : ∀ (j : Nat) (e' : Vl × Vl), j < i → es[j]? = some e' → mt kt e'.1 k = false) : findK kt es k = some i := by
  unfold findK
  rw [List.findIdx?_eq_some_iff_getElem]
  obtain ⟨hi, he⟩ := List.getElem?_eq_some_iff.mp h
  refine ⟨hi, by rw [he]; exact hm, fun j hj => ?_⟩
  have := hb j _ hj (List.getElem?_eq_getElem (by omega))
  rw [this]
  exact Bool.false_ne_true
theorem findK_none {kt : Vl → Str} {es : List (Vl × Vl)} {k : Vl} (hb : ∀ (j : Nat) (e' : Vl × Vl), es[j]? = some e' → mt kt e'.1 k = false) : findK kt es k = none := by
  unfold findK
  rw [List.findIdx?_eq_none_iff]
  intro e he
  obtain ⟨j, hj⟩ := List.getElem?_of_mem he
  exact hb j e hj
theorem findK_lt {kt : Vl → Str} {es : List (Vl × Vl)} {k : Vl} {i : Nat} (h : findK kt es k = some i) : ∃ e, es[i]? = some e ∧ mt kt e.1 k = true := by
  unfold findK at h
  rw [List.findIdx?_eq_some_iff_getElem] at h
  obtain ⟨hi, hp, _⟩ := h
  exact ⟨es[i], List.getElem?_eq_getElem hi, hp⟩
def okTD (t : Str) : PyData := .tuple [.str "ok", .str t]
theorem okT_shp {t : Str} (h : PyData.canLay0 (.str t) = true) : Shp 1 (okTD t) := Shp.tup (Shp.cons2 (Shp.str (by decide +kernel)) (Shp.cons2 (Shp.str h) Shp.none2))
theorem okT_eqv (a b : Str) : PyData.eqv (okTD a) (okTD b) = decide (a = b) := by
  simp [okTD, PyData.eqv, PyData.eqvAll, bD]
end
section
variable {P : Program} {w : World} {K : PySem.W.Frag} {mg : Str → Option Value} {base : Heap}
def spFindKey (K : PySem.W.Frag) : Sp := fun vs H Q _ => ∃ (kt : Vl → Str) (hp : Addr) (rows : List Row) (ve vk : V) (es : List (Vl × Vl)) (x : Vl), vs = [.ref hp, ve, vk] ∧ ListAt K H hp (rows.map rowD) ∧ Dt K H ve (.tuple (es.map entD)) ∧ Dt K H vk (vlD x) ∧ KOk rows kt x ∧ (∀ e ∈ es, KOk rows kt e.1) ∧ es.length ≤ 1000 ∧
  ∀ H', Same H H' → Q (.int (placeI (findK kt es x))) H'
theorem ok_findkey {f : Addr} {fd : FuncData} (F : Fun K "find_key" "find_key" s_find_key f fd) (T : Txt K mg) (U_key_text : Use P w K mg base CX0 "key_text" 3 P_key_text (spKeyText K)) (U_same_leaf : Use P w K mg base CX0 "same_leaf" 2 P_same_leaf (spSameLeaf K)) : FnG P w K mg base CX0 4 f fd P_find_key (spFindKey K) := by
  refine okG0 F sc_find_key (fun vs H Q E h => ?_) fun cdv A outer s H vs Q E hr hg h => ?_
  · obtain ⟨kt, hp, rows, ve, vk, es, x, rfl, _⟩ := h
    rfl
  · obtain ⟨kt, hp, rows, ve, vk, es, x, rfl, L, de, dk, kx, ke, hl, k⟩ := h
    refine ⟨_, (pss_cons (ps_set (i := 3) sc_find_key.nd rfl (Or.inl rfl) (pe_use U_key_text (hr.mono (by decide)) hg rfl (pa_cons (pv 0) (pa_cons (pv 2) pa_nil))))
  (pss_cons (ps_for PassesOwn.never rfl (pi_enumT (by rfl) T.b_enumerate (pa_cons (pv 1) pa_nil)) (pg_tup (by rfl) (pgs_cons (pg_name (i := 4) sc_find_key.nd rfl (Or.inl rfl)) (pgs_cons (pg_tup (by rfl) (pgs_cons (pg_name (i := 5) sc_find_key.nd rfl (Or.inl rfl)) (pgs_cons (pg_name (i := 6) sc_find_key.nd rfl (Or.inl rfl)) pgs_nil))) pgs_nil)))
   (pss_one (ps_if (PW.pt (pw_or (pt_cmpR op_ne (pe_ix ix_tup (pv 2) pe_int (fun _ _ => rfl)) pe_str (nomark _)) (pw_or1 (pt_cmpR op_ne (pe_ix ix_tup (pv 5) pe_int (fun _ _ => rfl)) pe_str (nomark _)))))
   (pss_one (ps_if (pt_val (pe_use U_same_leaf (hr.mono (by decide)) hg rfl (pa_cons (pv 5) (pa_cons (pv 2) pa_nil))))
   (pss_one (ps_ret (pv 4)))
   pss_nil))
   (pss_one (ps_if (pt_cmpR (op_eqD hr.units) (pe_use U_key_text (hr.mono (by decide)) hg rfl (pa_cons (pv 0) (pa_cons (pv 5) pa_nil))) (pv 3) (nomark _))
   (pss_one (ps_ret (pv 4)))
   pss_nil)))))
  (pss_one (ps_ret (pe_un un_neg pe_int))))), ?_⟩
    obtain ⟨n, ws, hkw, hn9, hkt⟩ := kx.k
    refine ⟨_, rfl, _, rfl, hp, rows, vk, x, n, some ws, "", rfl, L, dk, hkw, hn9, (fun h => nomatch h), fun qt H1 S1 hqn eqt => ?_⟩
    have dqt : Dt K H1 (.ref qt) (okTD (kt x)) := by rw [hkt]; exact .tup (SqT.of eqt) (.cons (.str _) (.cons (.str _) .nil))
    cases de with
    | @tup ea xs _ hes ae =>
    have lxs := ae.length
    rw [List.length_map] at lxs
    obtain ⟨qk, wk, rfl, hqk, ddk⟩ := dvl dk
    refine ⟨_, rfl, ea, xs, rfl, Same.tupl S1 hes, ?_⟩
    refine for_it (walk_enumT (xs := xs)) (fun i σ H4 => ∃ (x4 x5 x6 : Option V), σ = [some (.ref hp), some (.ref ea), some (.ref qk), some (.ref qt), x4, x5, x6] ∧ Same H1 H4 ∧ ∀ (j : Nat) (e' : Vl × Vl), j < i → es[j]? = some e' → mt kt e'.1 x = false) ⟨none, none, none, rfl, Same.refl _, fun j _ hj => absurd hj (Nat.not_lt_zero _)⟩ (fun _ _ _ _ h => let ⟨_, _, _, _, S, _⟩ := h; Same.tupl (S1.trans S) hes) ?_ ?_
    · rintro i v σ H4 H5 hi ⟨x4, x5, x6, rfl, S4, hno⟩ ⟨u, y1, y2, rfl, hu, rfl, e1, e2⟩
      cases e1
      have hdi : es[i]? = some es[i] := List.getElem?_eq_getElem (by omega)
      have hmem := List.getElem_mem (l := es) (n := i) (by omega)
      generalize es[i] = g at hdi hmem
      obtain ⟨v', hv', dv⟩ := ae.get (i := i) (d := entD g) (by rw [List.getElem?_map, hdi]; rfl)
      have e2 : xs[i]? = some y2 := e2
      rw [e2] at hv'
      cases hv'
      have S5 : Same H (upd H4 u (.tup [V.int ((i : Nat) : Int), y2])) := (S1.trans S4).trans (Same.new hu)
      have S5' : Same H1 (upd H4 u (.tup [V.int ((i : Nat) : Int), y2])) := S4.trans (Same.new hu)
      have eu : SqT K (upd H4 u (.tup [V.int ((i : Nat) : Int), y2])) u [V.int ((i : Nat) : Int), y2] := SqT.of upd_same
      generalize upd H4 u (.tup [V.int ((i : Nat) : Int), y2]) = H5 at S5 S5' eu
      obtain ⟨q, z1, z2, rfl, hq, d1, d2⟩ := dt_ent (dv.mono S5)
      refine ⟨u, _, rfl, eu, rfl, _, _, rfl, _, _, rfl, q, _, rfl, hq, rfl, _, _, rfl, _, _, rfl, rfl, rfl, ?_⟩
      obtain ⟨qo, wo, rfl, hqo, ddo⟩ := dvl d1
      have ko := ke g hmem
      have step : mt kt g.1 x = false → ∀ (j : Nat) (e' : Vl × Vl), j < i + 1 → es[j]? = some e' → mt kt e'.1 x = false := fun hm j e' hj he => by
        by_cases c : j = i
        · rw [c, hdi] at he; cases he; exact hm
        · exact hno j e' (by omega) he
      have found : mt kt g.1 x = true → ∀ H', Same H H' → Q (.int ((i : Nat) : Int)) H' := fun hm H' S' => by
        have e := findK_some hdi hm hno
        have kk := k H' S'
        rw [e] at kk
        exact kk
      refine ⟨_, rfl, qk, _, _, _, rfl, rfl, Same.tupl S5 hqk, at0, rfl, _, rfl, ?_⟩
      by_cases ca : kn x = 5
      · refine iteFb (by rw [show decide (V.str (knd x) = V.str "ref") = decide (kn x = 5) from knd_is _ 5 (by decide), ca]; rfl) ?_
        refine ⟨_, rfl, qo, _, _, _, rfl, rfl, hqo, at0, rfl, _, rfl, ?_⟩
        by_cases cb : kn g.1 = 5
        · refine iteFb (by rw [show decide (V.str (knd g.1) = V.str "ref") = decide (kn g.1 = 5) from knd_is _ 5 (by decide), cb]; rfl) ?_
          have hb : bothR (x, g.1) = true := by
            cases hx : x <;> cases hg : g.1 <;> first | rfl | (rw [hx] at ca; simp [kn] at ca; done) | (rw [hg] at cb; simp [kn] at cb; done)
          obtain ⟨n2, ws2, hkw2, hn92, hkt2⟩ := ko.k
          refine ⟨_, rfl, _, rfl, hp, rows, _, g.1, n2, some ws2, "", rfl, listAt_mono L S5, d1, hkw2, hn92, (fun h => nomatch h), fun q2 H6 S6 hqn2 eq2 => ?_⟩
          have dq2 : Dt K H6 (.ref q2) (okTD (kt g.1)) := by rw [hkt2]; exact .tup (SqT.of eq2) (.cons (.str _) (.cons (.str _) .nil))
          refine ⟨_, rfl, _, _, dq2.dp, (dqt.mono (S5'.trans S6)).dp, (okT_shp ko.s).sh (by decide), (okT_shp kx.s).sh (by decide), _, rfl, ?_⟩
          rw [okT_eqv]
          have hm : mt kt g.1 x = decide (kt g.1 = kt x) := by unfold mt; rw [if_pos hb]
          rw [← hm]
          cases hmm : mt kt g.1 x with
          | true => exact iteTb rfl ⟨_, rfl, found hmm _ (S5.trans S6)⟩
          | false => exact iteFb rfl ⟨_, _, _, rfl, S5'.trans S6, step hmm⟩
        · have hb : bothR (x, g.1) = false := by
            cases hx : x <;> cases hg : g.1 <;> first | rfl | (exfalso; rw [hg] at cb; exact cb rfl)
          refine iteTb (by rw [show decide (V.str (knd g.1) = V.str "ref") = decide (kn g.1 = 5) from knd_is _ 5 (by decide), decide_eq_false cb]; rfl) ?_
          have hm : mt kt g.1 x = sl g.1 x := by unfold mt; rw [if_neg (by rw [hb]; exact Bool.false_ne_true)]
          refine ⟨_, rfl, _, rfl, _, _, g.1, x, rfl, d1, dk.mono S5, ko.v, kx.v, fun H' S' => ⟨_, rfl, ?_⟩⟩
          cases hs : sl g.1 x with
          | true => exact iteTb rfl ⟨_, rfl, found (by rw [hm]; exact hs) _ (S5.trans S')⟩
          | false => exact iteFb rfl ⟨_, _, _, rfl, S5'.trans S', step (by rw [hm]; exact hs)⟩
      · have hb : bothR (x, g.1) = false := by
          cases hx : x <;> first | rfl | (exfalso; rw [hx] at ca; exact ca rfl)
        refine iteTb (by rw [show decide (V.str (knd x) = V.str "ref") = decide (kn x = 5) from knd_is _ 5 (by decide), decide_eq_false ca]; rfl) (iteTb rfl ?_)
        have hm : mt kt g.1 x = sl g.1 x := by unfold mt; rw [if_neg (by rw [hb]; exact Bool.false_ne_true)]
        refine ⟨_, rfl, _, rfl, _, _, g.1, x, rfl, d1, dk.mono S5, ko.v, kx.v, fun H' S' => ⟨_, rfl, ?_⟩⟩
        cases hs : sl g.1 x with
        | true => exact iteTb rfl ⟨_, rfl, found (by rw [hm]; exact hs) _ (S5.trans S')⟩
        | false => exact iteFb rfl ⟨_, _, _, rfl, S5'.trans S', step (by rw [hm]; exact hs)⟩
    · rintro σ H4 ⟨x4, x5, x6, rfl, S4, hno⟩
      have e : findK kt es x = none := findK_none fun j e' he => hno j e' (by have := (List.getElem?_eq_some_iff.mp he).1; omega) he
      have kk := k H4 (S1.trans S4)
      rw [e] at kk
      exact ⟨_, rfl, kk⟩
/-- a key, or none: what its kind is called -/
inductive KIn (rows : List Row) (kt : Vl → Str) (x : Vl) : Option Str → Prop
  | ok : KOk rows kt x → KIn rows kt x none
  | bad {n : Nat} {t : Str} : KW rows n [x] none → n ≤ 900 → NameOf (rows.map rowD) (vlD x) t → t.length ≤ 1000 → PyData.canLay0 (.str ("not a key: " ++ t)) = true → KIn rows kt x (some t)
def badD (t : Str) : PyData := .tuple [.str "raise", .int 10, .str ("not a key: " ++ t)]
end

section
--SPLIT
end
abbrev s_alike : Stmt := top 22
abbrev N_alike : List Str := ["heap", "a", "b", "unequal", "leaders", "trail", "waiting", "at", "one", "other", "_"]
abbrev P_alike : List Str := ["heap", "a", "b", "unequal"]
theorem sc_alike : FnScope N_alike P_alike (defScope s_alike) := ⟨rfl, rfl, rfl, by decide +kernel, rfl, by decide +kernel, by decide +kernel⟩
abbrev s_equal : Stmt := top 17
abbrev N_equal : List Str := ["heap", "a", "b"]
abbrev P_equal : List Str := ["heap", "a", "b"]
theorem sc_equal : FnScope N_equal P_equal (defScope s_equal) := ⟨rfl, rfl, rfl, by decide +kernel, rfl, by decide +kernel, by decide +kernel⟩
abbrev s_row_of : Stmt := top 9
abbrev N_row_of : List Str := ["heap", "value"]
abbrev P_row_of : List Str := ["heap", "value"]
theorem sc_row_of : FnScope N_row_of P_row_of (defScope s_row_of) := ⟨rfl, rfl, rfl, by decide +kernel, rfl, by decide +kernel, by decide +kernel⟩
abbrev s_is_key : Stmt := top 19
abbrev N_is_key : List Str := ["heap", "value", "outcome"]
abbrev P_is_key : List Str := ["heap", "value"]
theorem sc_is_key : FnScope N_is_key P_is_key (defScope s_is_key) := ⟨rfl, rfl, rfl, by decide +kernel, rfl, by decide +kernel, by decide +kernel⟩
abbrev s_answer : Stmt := top 20
abbrev N_answer : List Str := ["holds"]
abbrev P_answer : List Str := ["holds"]
theorem sc_answer : FnScope N_answer P_answer (defScope s_answer) := ⟨rfl, rfl, rfl, by decide +kernel, rfl, by decide +kernel, by decide +kernel⟩
abbrev s_membership : Stmt := top 32
abbrev N_membership : List Str := ["heap", "a", "b", "kind", "each", "outcome"]
abbrev P_membership : List Str := ["heap", "a", "b"]
theorem sc_membership : FnScope N_membership P_membership (defScope s_membership) := ⟨rfl, rfl, rfl, by decide +kernel, rfl, by decide +kernel, by decide +kernel⟩
abbrev s_opposite : Stmt := top 21
abbrev N_opposite : List Str := ["outcome"]
abbrev P_opposite : List Str := ["outcome"]
theorem sc_opposite : FnScope N_opposite P_opposite (defScope s_opposite) := ⟨rfl, rfl, rfl, by decide +kernel, rfl, by decide +kernel, by decide +kernel⟩
abbrev s_compare : Stmt := top 18
abbrev N_compare : List Str := ["heap", "op", "a", "b"]
abbrev P_compare : List Str := ["heap", "op", "a", "b"]
theorem sc_compare : FnScope N_compare P_compare (defScope s_compare) := ⟨rfl, rfl, rfl, by decide +kernel, rfl, by decide +kernel, by decide +kernel⟩
section
variable {P : Program} {w : World} {K : PySem.W.Frag} {mg : Str → Option Value} {base : Heap}
/-! equality of leaves -/
def spEqL (K : PySem.W.Frag) : Sp := fun vs H Q _ => ∃ (h v u : V) (x y : Vl), vs = [h, v, u] ∧ Dt K H v (vlD x) ∧ Dt K H u (vlD y) ∧ vOk x ∧ vOk y ∧ kn x ≠ 5 ∧ ∀ H', Same H H' → Q (.bl (sl x y)) H'
def spAlikeL (K : PySem.W.Frag) : Sp := fun vs H Q _ => ∃ (h v u d : V) (x y : Vl), vs = [h, v, u, d] ∧ Dt K H v (vlD x) ∧ Dt K H u (vlD y) ∧ vOk x ∧ vOk y ∧ kn x ≠ 5 ∧ ∀ H', Same H H' → Q (.bl (sl x y)) H'
theorem ok_alikeL {f : Addr} {fd : FuncData} (F : Fun K "_alike" "_alike" s_alike f fd) (T : Txt K mg) (U_same_leaf : Use P w K mg base CX0 "same_leaf" 2 P_same_leaf (spSameLeaf K)) : FnG P w K mg base CX0 3 f fd P_alike (spAlikeL K) := by
  refine okG0 F sc_alike (fun vs H Q E h => ?_) fun cdv A outer s H vs Q E hr hg h => ?_
  · obtain ⟨h, v, u, d, x, y, rfl, _⟩ := h
    rfl
  · obtain ⟨h, v, u, d, x, y, rfl, dv, du, ox, oy, hx, k⟩ := h
    refine ⟨_, (pss_cons (ps_if (PW.pt (pw_or (pt_cmpR op_ne (pe_ix ix_tup (pv 1) pe_int (fun _ _ => rfl)) pe_str (nomark _)) (pw_or1 (pt_cmpR op_ne (pe_ix ix_tup (pv 2) pe_int (fun _ _ => rfl)) pe_str (nomark _)))))
   (pss_one (ps_ret (pe_use U_same_leaf (hr.mono (by decide)) hg rfl (pa_cons (pv 1) (pa_cons (pv 2) pa_nil)))))
   pss_nil)
  pss_never), ?_⟩
    have dv0 := dv
    obtain ⟨q, ws, rfl, hq, da⟩ := dvl dv
    refine ⟨_, rfl, q, _, _, _, rfl, rfl, hq, at0, rfl, _, rfl, ?_⟩
    refine iteTb (by rw [show decide (V.str (knd x) = V.str "ref") = decide (kn x = 5) from knd_is _ 5 (by decide), decide_eq_false hx]; rfl) ?_
    exact iteTb rfl ⟨_, rfl, _, rfl, _, _, x, y, rfl, dv0, du, ox, oy, k⟩
theorem ok_equalL {f : Addr} {fd : FuncData} (F : Fun K "equal" "equal" s_equal f fd) (T : Txt K mg) (U_alike : Use P w K mg base CX0 "_alike" 3 P_alike (spAlikeL K)) : FnG P w K mg base CX0 4 f fd P_equal (spEqL K) := by
  refine okG0 F sc_equal (fun vs H Q E h => ?_) fun cdv A outer s H vs Q E hr hg h => ?_
  · obtain ⟨h, v, u, x, y, rfl, _⟩ := h
    rfl
  · obtain ⟨h, v, u, x, y, rfl, dv, du, ox, oy, hx, k⟩ := h
    refine ⟨_, (pss_one (ps_ret (pe_use U_alike (hr.mono (by decide)) hg rfl (pa_cons (pv 0) (pa_cons (pv 1) (pa_cons (pv 2) (pa_cons pe_dnewT pa_nil))))))), ?_⟩
    refine ⟨_, rfl, _, rfl, _, rfl, fun d hd => ?_⟩
    have S := Same.new (o := .dT []) hd
    exact ⟨h, v, u, _, x, y, rfl, dv.mono S, du.mono S, ox, oy, hx, fun H' S' => k H' (S.trans S')⟩
/-! a row of the heap -/
theorem row_rd {H : Hp} {hp : Addr} {rows : List Row} {j : Nat} {r : Row} {va : V} (L : ListAt K H hp (rows.map rowD)) (e : rows[j]? = some r) (hr : ∀ z q, r ≠ .oth z q) (a : Dt K H va (vlD (.ref j))) :
    ∃ q zs y q2 x2, va = .ref q ∧ SqT K H q [.str "ref", .int ((j : Nat) : Int)] ∧ H hp = some (.lst zs) ∧ atI zs ((j : Nat) : Int) = some y ∧ y = .ref q2 ∧ SqT K H q2 [.str (rkd r), x2] ∧ Dt K H x2 (.tuple (rparts r)) := by
  obtain ⟨q, ws, rfl, hq, da⟩ := dvl a
  obtain ⟨v1, w1, rfl, dv1, dw⟩ := da.cons_inv
  have := dw.nil_inv
  subst this
  cases dv1.int_inv
  obtain ⟨zs, ez, az⟩ := L
  obtain ⟨y, hy, dy⟩ := az.get (i := j) (d := rowD r) (by rw [List.getElem?_map, e]; rfl)
  rw [rowD_two hr] at dy
  obtain ⟨q2, x1, x2, rfl, hq2, d1, d2⟩ := dt_pr dy
  cases dt_str d1
  exact ⟨q, zs, _, q2, x2, rfl, hq, ez, atI_nat hy, rfl, hq2, d2⟩
def spRowOf (K : PySem.W.Frag) : Sp := fun vs H Q _ => ∃ (hp : Addr) (rows : List Row) (j : Nat) (r : Row) (va : V), vs = [.ref hp, va] ∧ ListAt K H hp (rows.map rowD) ∧ rows[j]? = some r ∧ (∀ z q, r ≠ .oth z q) ∧ Dt K H va (vlD (.ref j)) ∧ ∀ v, Dt K H v (.tuple (rparts r)) → Q v H
theorem ok_rowof {f : Addr} {fd : FuncData} (F : Fun K "row_of" "row_of" s_row_of f fd) (T : Txt K mg) : FnG P w K mg base CX0 1 f fd P_row_of (spRowOf K) := by
  refine okG0 F sc_row_of (fun vs H Q E h => ?_) fun cdv A outer s H vs Q E hr hg h => ?_
  · obtain ⟨hp, rows, j, r, va, rfl, _⟩ := h
    rfl
  · obtain ⟨hp, rows, j, r, va, rfl, L, e, ho, a, k⟩ := h
    refine ⟨_, (pss_cons (ps_if (pt_cmpR op_eq (pe_ix ix_tup (pv 1) pe_int (fun _ _ => rfl)) pe_str (nomark _))
   pss_never
   pss_nil)
  (pss_one (ps_ret (pe_ix ix_tup (pe_ix ix_list (pv 0) (pe_ix ix_tup (pv 1) pe_int (fun _ _ => rfl)) (fun _ _ => rfl)) pe_int (fun _ _ => rfl))))), ?_⟩
    obtain ⟨q, zs, y, q2, x2, rfl, hq, ez, hy, rfl, hq2, d2⟩ := row_rd L e ho a
    refine ⟨_, rfl, q, _, _, _, rfl, rfl, hq, at0, rfl, _, rfl, iteFb (by decide +kernel) ?_⟩
    exact ⟨_, rfl, _, rfl, q, _, _, _, rfl, rfl, hq, at1, hp, _, _, _, rfl, rfl, SqL.of ez, hy, q2, _, _, _, rfl, rfl, hq2, at1, k _ d2⟩
def ansD (b : Bool) : PyData := .tuple [.str "ok", .tuple [.str "bool", .bool b]]
def spAnswer (K : PySem.W.Frag) : Sp := fun vs H Q _ => ∃ b : Bool, vs = [.bl b] ∧ ∀ v H', Same H H' → Dt K H' v (ansD b) → Q v H'
theorem ok_answer {f : Addr} {fd : FuncData} (F : Fun K "_answer" "_answer" s_answer f fd) (T : Txt K mg) : FnG P w K mg base CX0 1 f fd P_answer (spAnswer K) := by
  refine okG0 F sc_answer (fun vs H Q E h => ?_) fun cdv A outer s H vs Q E hr hg h => ?_
  · obtain ⟨b, rfl, _⟩ := h
    rfl
  · obtain ⟨b, rfl, k⟩ := h
    refine ⟨_, (pss_one (ps_ret (pe_tup (pa_cons pe_str (pa_cons (pe_tup (pa_cons pe_str (pa_cons (pv 0) pa_nil))) pa_nil))))), ?_⟩
    exact ⟨_, rfl, sz_2, fun u hu => ⟨sz_2, fun t ht => k _ _ ((Same.new hu).trans (Same.new ht)) (Dt.made ht (.cons (.str _) (.cons (Dt.made hu (.cons (.str _) (.cons (.bl _) .nil))) .nil)))⟩⟩
/-! a key -/
def keyD : Option Str → PyData
  | some t => badD t
  | none => ansD true
def spIsKey (K : PySem.W.Frag) : Sp := fun vs H Q _ => ∃ (kt : Vl → Str) (hp : Addr) (rows : List Row) (v : V) (x : Vl) (b : Option Str), vs = [.ref hp, v] ∧ ListAt K H hp (rows.map rowD) ∧ Dt K H v (vlD x) ∧ KIn rows kt x b ∧ ∀ u H', Same H H' → Dt K H' u (keyD b) → Q u H'
theorem ok_iskey {f : Addr} {fd : FuncData} (F : Fun K "is_key" "is_key" s_is_key f fd) (T : Txt K mg) (U_key_text : Use P w K mg base CX0 "key_text" 3 P_key_text (spKeyText K)) (U_answer : Use P w K mg base CX0 "_answer" 1 P_answer (spAnswer K)) : FnG P w K mg base CX0 4 f fd P_is_key (spIsKey K) := by
  refine okG0 F sc_is_key (fun vs H Q E h => ?_) fun cdv A outer s H vs Q E hr hg h => ?_
  · obtain ⟨kt, hp, rows, v, x, b, rfl, _⟩ := h
    rfl
  · obtain ⟨kt, hp, rows, v, x, b, rfl, L, dv, hk, k⟩ := h
    refine ⟨_, (pss_cons (ps_set (i := 2) sc_is_key.nd rfl (Or.inl rfl) (pe_use U_key_text (hr.mono (by decide)) hg rfl (pa_cons (pv 0) (pa_cons (pv 1) pa_nil))))
  (pss_cons (ps_if (pt_cmpR op_eq (pe_ix ix_tup (pv 2) pe_int (fun _ _ => rfl)) pe_str (nomark _))
   (pss_one (ps_ret (pv 2)))
   pss_nil)
  (pss_one (ps_ret (pe_use U_answer (hr.mono (by decide)) hg rfl (pa_cons pe_bl pa_nil)))))), ?_⟩
    cases hk with
    | ok kx =>
      obtain ⟨n, ws, hkw, hn9, hkt⟩ := kx.k
      refine ⟨_, rfl, _, rfl, hp, rows, v, x, n, some ws, "", rfl, L, dv, hkw, hn9, (fun h => nomatch h), fun qt H1 S1 hqn eqt => ?_⟩
      refine ⟨_, rfl, qt, _, _, _, rfl, rfl, SqT.of eqt, at0, rfl, _, rfl, iteFb (by decide +kernel) ?_⟩
      exact ⟨true, rfl, fun u H' S' du => k u H' (S1.trans S') du⟩
    | @bad n t hkw hn9 hnm hl hs =>
      refine ⟨_, rfl, _, rfl, hp, rows, v, x, n, none, t, rfl, L, dv, hkw, hn9, (fun _ => ⟨hnm, hl⟩), fun qt H1 S1 hqn eqt => ?_⟩
      refine ⟨_, rfl, qt, _, _, _, rfl, rfl, SqT.of eqt, at0, rfl, _, rfl, iteTb (by decide +kernel) ?_⟩
      exact ⟨_, rfl, k _ _ S1 (.tup (SqT.of eqt) (.cons (.str _) (.cons (.int _) (.cons (.str _) .nil))))⟩
def oppD (b : Bool) : PyData := ansD (!b)
inductive OppIs : PyData → PyData → Prop
  | ans (b : Bool) : OppIs (ansD b) (ansD (!b))
  | bad (t : Str) : OppIs (badD t) (badD t)
def spOpp (K : PySem.W.Frag) : Sp := fun vs H Q _ => ∃ (v : V) (d e : PyData), vs = [v] ∧ Dt K H v d ∧ OppIs d e ∧ ∀ u H', Same H H' → Dt K H' u e → Q u H'
theorem ok_opp {f : Addr} {fd : FuncData} (F : Fun K "_opposite" "_opposite" s_opposite f fd) (T : Txt K mg) (U_answer : Use P w K mg base CX0 "_answer" 1 P_answer (spAnswer K)) : FnG P w K mg base CX0 2 f fd P_opposite (spOpp K) := by
  refine okG0 F sc_opposite (fun vs H Q E h => ?_) fun cdv A outer s H vs Q E hr hg h => ?_
  · obtain ⟨v, d, e, rfl, _⟩ := h
    rfl
  · obtain ⟨v, d, e, rfl, dv, ho, k⟩ := h
    refine ⟨_, (pss_cons (ps_if (pt_cmpR op_eq (pe_ix ix_tup (pv 0) pe_int (fun _ _ => rfl)) pe_str (nomark _))
   (pss_one (ps_ret (pv 0)))
   pss_nil)
  (pss_one (ps_ret (pe_use U_answer (hr.mono (by decide)) hg rfl (pa_cons (pe_not (pe_ix ix_tup (pe_ix ix_tup (pv 0) pe_int (fun _ _ => rfl)) pe_int (fun _ _ => rfl))) pa_nil))))), ?_⟩
    cases ho with
    | ans b =>
      obtain ⟨q, x, y, rfl, hq, dx, dy⟩ := dt_pr dv
      cases dt_str dx
      obtain ⟨q2, x2, y2, rfl, hq2, dx2, dy2⟩ := dt_pr dy
      cases dt_str dx2
      cases dy2.bool_inv
      refine ⟨_, rfl, q, _, _, _, rfl, rfl, hq, at0, rfl, _, rfl, iteFb (by decide +kernel) ?_⟩
      refine ⟨_, rfl, q, _, _, _, rfl, rfl, hq, at1, q2, _, _, _, rfl, rfl, hq2, at1, ?_⟩
      exact ⟨b, rfl, !b, rfl, fun u H' S du => k _ _ S du⟩
    | bad t =>
      have dv0 := dv
      obtain ⟨q, ws, rfl, hq, _⟩ := dv.head
      exact ⟨_, rfl, q, _, _, _, rfl, rfl, hq, at0, rfl, _, rfl, iteTb (by decide +kernel) ⟨_, rfl, k _ _ (Same.refl _) dv0⟩⟩
/-! in -/
inductive MemIs (rows : List Row) (kt : Vl → Str) : Vl → Vl → PyData → Prop
  | text (z u : Str) : MemIs rows kt (.text z) (.text u) (ansD (!(Builtin.Str.occurrences u z 0 u.length 1).isEmpty))
  | num (x : Vl) (a b i : Int) : numV x = some i → MemIs rows kt x (.span a b) (ansD (decide (a ≤ i) && decide (i < b)))
  | not (x : Vl) (a b : Int) : numV x = none → MemIs rows kt x (.span a b) (ansD false)
  | row (x : Vl) (j : Nat) (r : Row) (vs : List Vl) : rows[j]? = some r → (r = .tup vs ∨ r = .lst vs) → kn x ≠ 5 → vOk x → (∀ v ∈ vs, vOk v) → MemIs rows kt x (.ref j) (ansD (vs.any (sl x)))
  | dct (x : Vl) (j : Nat) (es : List (Vl × Vl)) (b : Option Str) : rows[j]? = some (.dct es) → (∀ e ∈ es, KOk rows kt e.1) → es.length ≤ 1000 → KIn rows kt x b → MemIs rows kt x (.ref j) (match b with | some t => badD t | none => ansD (findK kt es x).isSome)
def spMem (K : PySem.W.Frag) (TP : Addr) : Sp := fun vs H Q _ => ∃ (kt : Vl → Str) (hp : Addr) (rows : List Row) (v v2 : V) (x y : Vl) (d : PyData), vs = [.ref hp, v, v2] ∧ GxR.TabG H TP ∧ ListAt K H hp (rows.map rowD) ∧ Dt K H v (vlD x) ∧ Dt K H v2 (vlD y) ∧ MemIs rows kt x y d ∧
  ∀ u H', SameN H H' → GxR.TabG H' TP → Dt K H' u d → Q u H'
theorem ok_mem {f c TP : Addr} {fd : FuncData} (F : Fun K "_membership" "_membership" s_membership f fd) (hc : fd.code = .ref c) (TB : GxR.TabB base mg c TP) (T : Txt K mg) (U_answer : Use P w K mg base CX0 "_answer" 1 P_answer (spAnswer K)) (U_is_number : Use P w K mg base CX0 "is_number" 1 P_is_number (spIsNumV K))
    (U_object_kind : Use P w K mg base CX0 "object_kind" 1 P_object_kind (spKind K)) (U_equal : Use P w K mg base CX0 "equal" 4 P_equal (spEqL K)) (U_row_of : Use P w K mg base CX0 "row_of" 1 P_row_of (spRowOf K))
    (U_is_key : Use P w K mg base CX0 "is_key" 4 P_is_key (spIsKey K)) (U_find_key : Use P w K mg base CX0 "find_key" 4 P_find_key (spFindKey K)) : FnG P w K mg base CX0 7 f fd P_membership (spMem K TP) := by
  refine okGC F hc sc_membership (fun vs H Q E h => ?_) fun A outer s H vs Q E hr hg h => ?_
  · obtain ⟨kt, hp, rows, v, v2, x, y, d, rfl, _⟩ := h
    rfl
  · obtain ⟨kt, hp, rows, v, v2, x, y, d, rfl, tg, L, dv, dv2, hm, k⟩ := h
    refine ⟨_, (C8.pss_cut (ps_if (PW.pt (pw_and (pt_cmpR op_eq (pe_ix ix_tup (pv 2) pe_int (fun _ _ => rfl)) pe_str (nomark _)) (pw_and1 (pt_cmpR op_eq (pe_ix ix_tup (pv 1) pe_int (fun _ _ => rfl)) pe_str (nomark _)))))
   (pss_one (ps_ret (pe_use U_answer (hr.mono (by decide)) hg rfl (pa_cons (pe_cmpR op_in_str (pe_ix ix_tup (pv 1) pe_int (fun _ _ => rfl)) (pe_ix ix_tup (pv 2) pe_int (fun _ _ => rfl)) (by rfl)) pa_nil))))
   pss_nil)
  (pss_cons (ps_if (pt_cmpR op_eq (pe_ix ix_tup (pv 2) pe_int (fun _ _ => rfl)) pe_str (nomark _))
   (pss_one (ps_ret (pe_use U_answer (hr.mono (by decide)) hg rfl (pa_cons (pe_and (pe_use U_is_number (hr.mono (by decide)) hg rfl (pa_cons (pv 1) pa_nil)) (pe_one (pe_chain op_leN op_ltN (pe_ix ix_tup (pv 2) pe_int (fun _ _ => rfl)) (pe_ix ix_tup (pv 1) pe_int (fun _ _ => rfl)) (pe_ix ix_tup (pv 2) pe_int (fun _ _ => rfl))))) pa_nil))))
   pss_nil)
  (pss_cons (ps_set (i := 3) sc_membership.nd rfl (Or.inl rfl) (pe_use U_object_kind (hr.mono (by decide)) hg rfl (pa_cons (pv 0) (pa_cons (pv 2) pa_nil))))
  (pss_cons (ps_if (pt_cmpR op_in_seq (pv 3) (pe_tup (pa_cons pe_str (pa_cons pe_str pa_nil))) (by rfl))
   (pss_one (ps_ret (pe_use U_answer (hr.mono (by decide)) hg rfl (pa_cons (GI.pe_anyT hr (by rfl) T.b_any (by decide +kernel) TB rfl (genS_of rfl rfl (by decide +kernel) (by decide +kernel) (by decide +kernel) (by decide +kernel)) (pe_use U_row_of (hr.mono (by decide)) hg rfl (pa_cons (pv 0) (pa_cons (pv 2) pa_nil))) (fun _ => rfl)) pa_nil))))
   pss_nil)
  (pss_cons (ps_if (pt_cmpR op_eq (pv 3) pe_str (nomark _))
   (pss_cons (ps_set (i := 5) sc_membership.nd rfl (Or.inl rfl) (pe_use U_is_key (hr.mono (by decide)) hg rfl (pa_cons (pv 0) (pa_cons (pv 1) pa_nil))))
  (pss_cons (ps_if (pt_cmpR op_eq (pe_ix ix_tup (pv 5) pe_int (fun _ _ => rfl)) pe_str (nomark _))
   (pss_one (ps_ret (pv 5)))
   pss_nil)
  (pss_one (ps_ret (pe_use U_answer (hr.mono (by decide)) hg rfl (pa_cons (pe_cmpR op_ge (pe_use U_find_key (hr.mono (by decide)) hg rfl (pa_cons (pv 0) (pa_cons (pe_ix ix_tup (pe_ix ix_list (pv 0) (pe_ix ix_tup (pv 2) pe_int (fun _ _ => rfl)) (fun _ _ => rfl)) pe_int (fun _ _ => rfl)) (pa_cons (pv 1) pa_nil)))) pe_int (nomark _)) pa_nil))))))
   pss_nil)
  pss_never))))), ?_⟩
    have dv0 := dv
    have dv20 := dv2
    obtain ⟨q1, w1, rfl, hq1, a1⟩ := dvl dv0
    obtain ⟨q2, w2, rfl, hq2, a2⟩ := dvl dv20
    have ans : ∀ {b : Bool} {v : V} {H1 H2 : Hp}, d = ansD b → SameN H H1 → GxR.TabG H1 TP → Same H1 H2 → Dt K H2 v (ansD b) → Q v H2 := fun {b v H1 H2} e S t S2 dd => k _ _ (S.trans (same_n S2)) (tabG_same t S2) (by rw [e]; exact dd)
    cases hm with
    | text z u =>
      obtain ⟨z1, _, rfl, dz1, _⟩ := a1.cons_inv
      obtain ⟨z2, _, rfl, dz2, _⟩ := a2.cons_inv
      cases dt_str dz1
      cases dt_str dz2
      refine ⟨fun _ _ => False, ?_, fun _ _ h => h.elim⟩
      refine ⟨_, rfl, q2, _, _, _, rfl, rfl, hq2, at0, rfl, _, rfl, iteTb ((knd_is (.text u) 3 (by decide)).trans (decide_eq_true rfl)) ?_⟩
      refine ⟨_, rfl, q1, _, _, _, rfl, rfl, hq1, at0, rfl, _, rfl, iteTb ((knd_is (.text z) 3 (by decide)).trans (decide_eq_true rfl)) ?_⟩
      exact ⟨_, rfl, q1, _, _, _, rfl, rfl, hq1, at1, _, rfl, q2, _, _, _, rfl, rfl, hq2, at1, _, _, rfl, rfl, _, rfl, fun v H2 S2 dd => ans rfl (.refl _) tg S2 dd⟩
    | num x a b i hi =>
      obtain ⟨z1, _, rfl, dz1, a3⟩ := a2.cons_inv
      obtain ⟨z2, _, rfl, dz2, _⟩ := a3.cons_inv
      cases dz1.int_inv
      cases dz2.int_inv
      obtain ⟨n1, w2, rfl, nn⟩ : ∃ n1 w2, w1 = n1 :: w2 ∧ NumI n1 i := by
        cases x with
        | bool b =>
          cases hi
          obtain ⟨v1, _, rfl, dv1, _⟩ := a1.cons_inv
          exact ⟨_, _, rfl, .inr ⟨b, dv1.bool_inv, rfl⟩⟩
        | int i =>
          cases hi
          obtain ⟨v1, _, rfl, dv1, _⟩ := a1.cons_inv
          exact ⟨_, _, rfl, .inl dv1.int_inv⟩
        | _ => cases hi
      refine ⟨fun σ H1 => σ = [some (.ref hp), some (.ref q1), some (.ref q2), none, none, none] ∧ H1 = H, ?_, ?_⟩
      · exact ⟨_, rfl, q2, _, _, _, rfl, rfl, hq2, at0, rfl, _, rfl, iteFb ((knd_is (.span a b) 3 (by decide)).trans (decide_eq_false (by simp [kn]))) (iteFb rfl ⟨rfl, rfl⟩)⟩
      rintro _ _ ⟨rfl, rfl⟩
      refine ⟨_, rfl, q2, _, _, _, rfl, rfl, hq2, at0, rfl, _, rfl, iteTb ((knd_is (.span a b) 4 (by decide)).trans (decide_eq_true rfl)) ?_⟩
      refine ⟨_, rfl, _, x, rfl, dv, fun H1 S1 => ⟨_, rfl, iteTb (by rw [hi]; rfl) ?_⟩⟩
      refine ⟨_, rfl, q2, _, _, _, rfl, rfl, Same.tupl S1 hq2, at1, _, rfl, q1, _, _, _, rfl, rfl, Same.tupl S1 hq1, at1, _, _, rfl, nn, _, rfl, ite3 (fun hc => ?_) fun hc => ?_⟩
      · refine ⟨_, rfl, q2, _, _, _, rfl, rfl, Same.tupl S1 hq2, at2, _, _, nn, rfl, _, rfl, fun v H2 S2 dd => ans (by rw [hc]; rfl) (same_n S1) (tabG_same tg S1) S2 dd⟩
      · exact ⟨_, rfl, fun v H2 S2 dd => ans (by rw [hc]; rfl) (same_n S1) (tabG_same tg S1) S2 dd⟩
    | not x a b hi =>
      refine ⟨fun σ H1 => σ = [some (.ref hp), some (.ref q1), some (.ref q2), none, none, none] ∧ H1 = H, ?_, ?_⟩
      · exact ⟨_, rfl, q2, _, _, _, rfl, rfl, hq2, at0, rfl, _, rfl, iteFb ((knd_is (.span a b) 3 (by decide)).trans (decide_eq_false (by simp [kn]))) (iteFb rfl ⟨rfl, rfl⟩)⟩
      rintro _ _ ⟨rfl, rfl⟩
      refine ⟨_, rfl, q2, _, _, _, rfl, rfl, hq2, at0, rfl, _, rfl, iteTb ((knd_is (.span a b) 4 (by decide)).trans (decide_eq_true rfl)) ?_⟩
      refine ⟨_, rfl, _, x, rfl, dv, fun H1 S1 => ⟨_, rfl, iteFb (by rw [hi]; rfl) ?_⟩⟩
      exact ⟨_, rfl, fun v H2 S2 dd => ans rfl (same_n S1) (tabG_same tg S1) S2 dd⟩
    | row x j r vs e hrw hx ox ovs =>
      obtain ⟨z1, _, rfl, dz1, _⟩ := a2.cons_inv
      cases dz1.int_inv
      have rn : ∀ z q, r ≠ .oth z q := by rcases hrw with rfl | rfl <;> exact fun _ _ h => by cases h
      have rp : rparts r = vs.map vlD := by rcases hrw with rfl | rfl <;> rfl
      have rk : inV (.str (rkd r)) [V.str "tuple", V.str "list"] = true := by
        have : rkd r = "tuple" ∨ rkd r = "list" := by rcases hrw with rfl | rfl; exact .inl rfl; exact .inr rfl
        rcases this with e | e <;> (rw [e]; decide +kernel)
      obtain ⟨rest, er⟩ := rowD_hd r
      refine ⟨fun σ H1 => σ = [some (.ref hp), some (.ref q1), some (.ref q2), none, none, none] ∧ H1 = H, ?_, ?_⟩
      · exact ⟨_, rfl, q2, _, _, _, rfl, rfl, hq2, at0, rfl, _, rfl, iteFb ((knd_is (.ref j) 3 (by decide)).trans (decide_eq_false (by simp [kn]))) (iteFb rfl ⟨rfl, rfl⟩)⟩
      rintro _ H ⟨rfl, rfl⟩
      refine ⟨_, rfl, q2, _, _, _, rfl, rfl, hq2, at0, rfl, _, rfl, iteFb ((knd_is (.ref j) 4 (by decide)).trans (decide_eq_false (by simp [kn]))) ?_⟩
      refine ⟨_, rfl, _, rfl, hp, _, _, _, rkd r, rfl, L, dv2, .obj (rest := rest) (by rw [List.getElem?_map, e, Option.map_some, er]), ?_⟩
      refine ⟨_, rfl, sz_2, fun u hu => ⟨u, _, rfl, .inr (SqT.of upd_same), rfl, rfl, _, rfl, ?_⟩⟩
      rw [if_neg Bool.false_ne_true, rk]
      have S1 := Same.new (o := .tup [V.str "tuple", V.str "list"]) hu
      generalize upd H u _ = H1 at S1
      refine iteTb rfl ?_
      refine ⟨_, rfl, _, rfl, hp, rows, j, r, _, rfl, listAt_mono L S1, e, rn, dv2.mono S1, fun va da => ?_⟩
      rw [rp] at da
      obtain ⟨qa, xs, rfl, hqa, axs⟩ := da.tuple_inv
      have lxs := axs.length
      rw [List.length_map] at lxs
      have tg1 := tabG_same tg S1
      refine ⟨qa, xs, fun i => sl x (vs.getD i .non), fun H2 H3 => SameN H2 H3 ∧ GxR.TabG H3 TP, rfl, hqa, tg1, ?_, fun H2 t => ⟨tabbed_n tg1 t, t.1⟩, fun H2 ⟨S2, tg2⟩ => ?_⟩
      · refine GI.elt3 (k := 4) (j1 := 0) (j2 := 1) (v1 := .ref hp) (v2 := .ref q1) U_equal (hr.mono (by decide)) hg (genS_of rfl rfl (by decide +kernel) (by decide +kernel) (by decide +kernel) (by decide +kernel)) (by decide +kernel) (by decide) (by decide) (cap_of (by decide +kernel) rfl (show (defScope s_membership).names.lookup ("heap" : Str) = some NameKind.cell by decide +kernel)) (cap_of (by decide +kernel) rfl (show (defScope s_membership).names.lookup ("a" : Str) = some NameKind.cell by decide +kernel)) rfl rfl ?_
        intro Hi i va hv ⟨S2, tg2⟩
        obtain ⟨dd, hd, dva⟩ := axs.getV hv
        rw [List.getElem?_map] at hd
        obtain ⟨y, hy, rfl⟩ := Option.map_eq_some_iff.mp hd
        have dx := S2.dt (dv.mono S1)
        refine ⟨_, _, _, x, y, rfl, dx, S2.dt dva, ox, ovs y (List.mem_of_getElem? hy), hx, fun H' S3 => ⟨?_, S2.trans (same_n S3), tabG_same tg2 S3⟩⟩
        show V.bl (sl x y) = .bl (sl x (vs.getD i .non))
        rw [List.getD_eq_getElem?_getD, hy]
        rfl
      · refine ⟨_, rfl, fun v H4 S4 dd => ans (H1 := H2) ?_ ((same_n S1).trans S2) tg2 S4 dd⟩
        rw [if_neg Bool.false_ne_true]
        congr 1
        rw [lxs]
        rw [Bool.eq_iff_iff]
        simp only [List.any_eq_true, List.mem_range]
        constructor
        · rintro ⟨y, hy, h⟩
          obtain ⟨i, hi⟩ := List.getElem?_of_mem hy
          exact ⟨i, (List.getElem?_eq_some_iff.mp hi).1, by rw [List.getD_eq_getElem?_getD, hi]; exact h⟩
        · rintro ⟨i, hi, h⟩
          rw [List.getD_eq_getElem?_getD, List.getElem?_eq_getElem hi] at h
          exact ⟨_, List.getElem_mem hi, h⟩
    | dct x j es b e ke hl kx =>
      obtain ⟨z1, _, rfl, dz1, _⟩ := a2.cons_inv
      cases dz1.int_inv
      refine ⟨fun σ H1 => σ = [some (.ref hp), some (.ref q1), some (.ref q2), none, none, none] ∧ H1 = H, ?_, ?_⟩
      · exact ⟨_, rfl, q2, _, _, _, rfl, rfl, hq2, at0, rfl, _, rfl, iteFb ((knd_is (.ref j) 3 (by decide)).trans (decide_eq_false (by simp [kn]))) (iteFb rfl ⟨rfl, rfl⟩)⟩
      rintro _ H ⟨rfl, rfl⟩
      refine ⟨_, rfl, q2, _, _, _, rfl, rfl, hq2, at0, rfl, _, rfl, iteFb ((knd_is (.ref j) 4 (by decide)).trans (decide_eq_false (by simp [kn]))) ?_⟩
      refine ⟨_, rfl, _, rfl, hp, _, _, _, "dict", rfl, L, dv2, .obj (rest := [.tuple (es.map entD)]) (by rw [List.getElem?_map, e]; rfl), ?_⟩
      refine ⟨_, rfl, sz_2, fun u hu => ⟨u, _, rfl, .inr (SqT.of upd_same), rfl, rfl, _, rfl, iteFb (by decide +kernel) ?_⟩⟩
      have S1 := Same.new (o := .tup [V.str "tuple", V.str "list"]) hu
      generalize upd H u _ = H1 at S1
      refine ⟨_, rfl, rfl, _, rfl, iteTb (by decide +kernel) ?_⟩
      refine ⟨_, rfl, _, rfl, kt, hp, rows, _, x, b, rfl, listAt_mono L S1, dv.mono S1, kx, fun uk H2 S2 duk => ?_⟩
      have S12 := S1.trans S2
      have tg2 := tabG_same tg S12
      cases b with
      | some t =>
        have duk0 := duk
        obtain ⟨q3, ws, rfl, hq3, _⟩ := duk.head
        exact ⟨_, rfl, q3, _, _, _, rfl, rfl, hq3, at0, rfl, _, rfl, iteTb (by decide +kernel) ⟨_, rfl, k _ _ (same_n S12) tg2 duk0⟩⟩
      | none =>
        obtain ⟨q3, ws, rfl, hq3, _⟩ := duk.head
        refine ⟨_, rfl, q3, _, _, _, rfl, rfl, hq3, at0, rfl, _, rfl, iteFb (by decide +kernel) ?_⟩
        obtain ⟨q, zs, y, qr, x2, eq, hq, ez, hy, rfl, hqr, d2⟩ := row_rd L e (fun _ _ h => by cases h) dv2
        cases eq
        have kk := by
          cases kx with
          | ok kk => exact kk
        refine ⟨_, rfl, _, rfl, _, rfl, q2, _, _, _, rfl, rfl, Same.tupl S12 hq2, at1, hp, _, _, _, rfl, rfl, SqL.of (S12 _ _ ez), hy, qr, _, _, _, rfl, rfl, Same.tupl S12 hqr, at1, _, rfl, kt, hp, rows, x2, _, es, x, rfl, listAt_mono L S12, d2.mono S12, dv.mono S12, kk, ke, hl, fun H3 S3 => ?_⟩
        refine ⟨_, _, rfl, rfl, _, rfl, fun v H4 S4 dd => ans (H1 := H3) ?_ (same_n (S12.trans S3)) (tabG_same tg2 S3) S4 dd⟩
        cases hf : findK kt es x with
        | none => rfl
        | some i => show ansD true = ansD (decide (0 ≤ ((i : Nat) : Int))); rw [decide_eq_true (by omega)]
end

section
--SPLIT
end
abbrev s_law_plain : Stmt := top 40
abbrev N_law_plain : List Str := ["box", "kind"]
abbrev P_law_plain : List Str := ["box"]
theorem sc_law_plain : FnScope N_law_plain P_law_plain (defScope s_law_plain) := ⟨rfl, rfl, rfl, by decide +kernel, rfl, by decide +kernel, by decide +kernel⟩
abbrev s_law_plainly : Stmt := top 41
abbrev N_law_plainly : List Str := ["one", "two"]
abbrev P_law_plainly : List Str := ["one", "two"]
theorem sc_law_plainly : FnScope N_law_plainly P_law_plainly (defScope s_law_plainly) := ⟨rfl, rfl, rfl, by decide +kernel, rfl, by decide +kernel, by decide +kernel⟩
abbrev s_law_text : Stmt := top 42
abbrev N_law_text : List Str := ["box", "text", "k"]
abbrev P_law_text : List Str := ["box"]
theorem sc_law_text : FnScope N_law_text P_law_text (defScope s_law_text) := ⟨rfl, rfl, rfl, by decide +kernel, rfl, by decide +kernel, by decide +kernel⟩
abbrev s_law_found : Stmt := top 43
abbrev N_law_found : List Str := ["text", "other", "k"]
abbrev P_law_found : List Str := ["text", "other"]
theorem sc_law_found : FnScope N_law_found P_law_found (defScope s_law_found) := ⟨rfl, rfl, rfl, by decide +kernel, rfl, by decide +kernel, by decide +kernel⟩
abbrev s_law_holds : Stmt := top 44
abbrev N_law_holds : List Str := ["box", "heap", "a", "b", "due", "op"]
abbrev P_law_holds : List Str := ["box", "heap", "a", "b", "due"]
theorem sc_law_holds : FnScope N_law_holds P_law_holds (defScope s_law_holds) := ⟨rfl, rfl, rfl, by decide +kernel, rfl, by decide +kernel, by decide +kernel⟩
section
/-! what the law draws -/
def dom24 : List Vl := [.non, .bool true, .bool false, .text "", .text "a", .text "ab", .int (-1), .int 0, .int 1, .int 2, .int 3]
theorem d24_kn : ∀ x ∈ dom24, kn x ≠ 5 := by decide +kernel
theorem d24_sy : ∀ x ∈ dom24, ∀ y ∈ dom24, sl x y = sl y x := by decide +kernel
theorem d24_rf : ∀ x ∈ dom24, sl x x = true := by decide +kernel
theorem d24_tr : ∀ x ∈ dom24, ∀ y ∈ dom24, sl x y = true → ∀ z ∈ dom24, sl y z = true → sl x z = true := by decide +kernel
theorem d24_mt : ∀ x ∈ dom24, ∀ y ∈ dom24, mt (wordR []) x y = sl x y := by decide +kernel
theorem d24_wd : ∀ x ∈ dom24, wordR [] x ≠ "" := by decide +kernel
theorem d24_ly : ∀ x ∈ dom24, PyData.canLay0 (.str (wordR [] x)) = true := by decide +kernel
theorem d24_ok {x : Vl} (h : x ∈ dom24) : vOk x := by
  simp only [dom24, List.mem_cons, List.not_mem_nil, or_false] at h
  rcases h with rfl | rfl | rfl | rfl | rfl | rfl | rfl | rfl | rfl | rfl | rfl <;> first | trivial | (show PyData.canLay0 _ = true; decide +kernel)
theorem d24_key (rows : List Row) {x : Vl} (h : x ∈ dom24) : KOk rows (wordR []) x := by
  have nr : ∀ k, x ≠ .ref k := fun k e => d24_kn x h (by rw [e]; rfl)
  have e : wordR rows x = wordR [] x := by cases x <;> first | rfl | exact absurd rfl (nr _)
  refine ⟨⟨2, [wordR [] x], ?_, by decide, by rw [TL.join_eq]; rfl⟩, d24_ok h, d24_ly x h⟩
  rw [← e]
  refine KW.word (by rw [e]; exact d24_wd x h) nr ?_ .done
  simp only [dom24, List.mem_cons, List.not_mem_nil, or_false] at h
  rcases h with rfl | rfl | rfl | rfl | rfl | rfl | rfl | rfl | rfl | rfl | rfl <;> first | trivial | (show Str.length _ ≤ 2000; decide +kernel) | (show Int.natAbs _ < 2 ^ 260; exact Nat.lt_of_lt_of_le (show _ < 2 ^ 3 by decide) (Nat.pow_le_pow_right (by decide) (by decide)))
/-! a text in a text -/
theorem cut_is (z t : Str) (i : Nat) (hi : i ≤ z.length) : decide (cutS z (some ((i : Nat) : Int)) (some (((i : Nat) : Int) + ((t.length : Nat) : Int))) = t) = decide (i + t.length ≤ z.length ∧ Builtin.Str.subAt z t i = true) := by
  have zl : z.length = z.cps.toList.length := by show z.cps.size = _; simp
  have tl : t.length = t.cps.toList.length := by show t.cps.size = _; simp
  have e : cutS z (some ((i : Nat) : Int)) (some (((i : Nat) : Int) + ((t.length : Nat) : Int))) = ⟨((z.cps.toList.drop i).take (min (i + t.length) z.length - i)).toArray⟩ := by
    unfold cutS
    rw [show ((i : Nat) : Int) + ((t.length : Nat) : Int) = ((i + t.length : Nat) : Int) by omega, HT.sIx_nat, HT.sIx_nat, Nat.min_eq_left hi]
  have x : z.cps.extract i (i + t.length) = ((z.cps.toList.drop i).take t.length).toArray := by
    apply Array.ext'
    simp only [Array.toList_extract, List.extract_eq_drop_take]
    rw [show i + t.length - i = t.length by omega]
  rw [e]
  refine decide_eq_decide.mpr ⟨fun h => ?_, fun ⟨h1, h2⟩ => ?_⟩
  · have h1 : ((z.cps.toList.drop i).take (min (i + t.length) z.length - i)).length = t.length := (congrArg (fun s : Str => s.cps.toList.length) h).trans tl.symm
    rw [List.length_take, List.length_drop, ← zl] at h1
    have le : i + t.length ≤ z.length := by omega
    refine ⟨le, ?_⟩
    unfold Builtin.Str.subAt
    rw [x, beq_iff_eq, ← congrArg Str.cps h]
    simp only
    rw [Nat.min_eq_left le, show i + t.length - i = t.length by omega]
  · unfold Builtin.Str.subAt at h2
    rw [x, beq_iff_eq] at h2
    rw [Nat.min_eq_left h1, show i + t.length - i = t.length by omega, h2]
theorem found_is (z t : Str) : (!(Builtin.Str.occurrences z t 0 z.length 1).isEmpty) = (List.range (z.length + 1)).any fun i => decide (cutS z (some ((i : Nat) : Int)) (some (((i : Nat) : Int) + ((t.length : Nat) : Int))) = t) := by
  rw [Bool.eq_iff_iff, PySem.StrLaws.found_iff, List.any_eq_true]
  constructor
  · rintro ⟨i, h1, h2⟩
    refine ⟨i, List.mem_range.mpr (by omega), ?_⟩
    rw [cut_is z t i (by omega)]
    exact decide_eq_true ⟨h1, h2⟩
  · rintro ⟨i, hi, h⟩
    rw [cut_is z t i (by have := List.mem_range.mp hi; omega)] at h
    exact ⟨i, of_decide_eq_true h⟩
theorem show_ans (b : Bool) : ShowOk (ansD b) := (Sm.tup (.cons (Sm.short (n := "ok") (by decide +kernel)) (.cons (Sm.tup (.cons (Sm.short (n := "bool") (by decide +kernel)) (.cons (Sm.bool b) .nil))) .nil))).show (by decide) (by decide)
theorem show_bad {t : Str} (h : shortS ("not a key: " ++ t) = true) : ShowOk (badD t) := (Sm.tup (.cons (Sm.short (n := "raise") (by decide +kernel)) (.cons (Sm.int (by decide)) (.cons (Sm.short h) .nil)))).show (by decide) (by decide)
end
section
variable {P : Program} {w : World} {K : PySem.W.Frag} {mg : Str → Option Value} {base : Heap}
def spCmp (K : PySem.W.Frag) (TP : Addr) : Sp := fun vs H Q _ => ∃ (kt : Vl → Str) (hp : Addr) (rows : List Row) (op : Str) (v v2 : V) (x y : Vl) (d e : PyData), vs = [.ref hp, .str op, v, v2] ∧ GxR.TabG H TP ∧ ListAt K H hp (rows.map rowD) ∧ Dt K H v (vlD x) ∧ Dt K H v2 (vlD y) ∧ MemIs rows kt x y d ∧ ((op = "in" ∧ e = d) ∨ (op = "notin" ∧ OppIs d e)) ∧
  ∀ u H', SameN H H' → GxR.TabG H' TP → Dt K H' u e → Q u H'
theorem ok_cmp {f TP : Addr} {fd : FuncData} (F : Fun K "compare" "compare" s_compare f fd) (T : Txt K mg) (U_membership : Use P w K mg base CX0 "_membership" 7 P_membership (spMem K TP)) (U_opposite : Use P w K mg base CX0 "_opposite" 2 P_opposite (spOpp K)) : FnG P w K mg base CX0 8 f fd P_compare (spCmp K TP) := by
  refine okG0 F sc_compare (fun vs H Q E h => ?_) fun cdv A outer s H vs Q E hr hg h => ?_
  · obtain ⟨kt, hp, rows, op, v, v2, x, y, d, e, rfl, _⟩ := h
    rfl
  · obtain ⟨kt, hp, rows, op, v, v2, x, y, d, e, rfl, tg, L, dv, dv2, hm, hop, k⟩ := h
    refine ⟨_, (C8.pss_cut (ps_if (pt_cmpR op_in_seq (pv 1) (pe_tup (pa_cons pe_str (pa_cons pe_str pa_nil))) (by rfl))
   pss_never
   pss_nil)
  (C8.pss_cut (ps_if (pt_cmpR op_in_seq (pv 1) (pe_tup (pa_cons pe_str (pa_cons pe_str pa_nil))) (by rfl))
   pss_never
   pss_nil)
  (pss_cons (ps_if (pt_cmpR op_eq (pv 1) pe_str (nomark _))
   (pss_one (ps_ret (pe_use U_membership (hr.mono (by decide)) hg rfl (pa_cons (pv 0) (pa_cons (pv 2) (pa_cons (pv 3) pa_nil))))))
   pss_nil)
  (pss_cons (ps_if (pt_cmpR op_eq (pv 1) pe_str (nomark _))
   (pss_one (ps_ret (pe_use U_opposite (hr.mono (by decide)) hg rfl (pa_cons (pe_use U_membership (hr.mono (by decide)) hg rfl (pa_cons (pv 0) (pa_cons (pv 2) (pa_cons (pv 3) pa_nil)))) pa_nil))))
   pss_nil)
  pss_never)))), ?_⟩
    have ho : op ∈ (["in", "notin"] : List Str) := by rcases hop with ⟨rfl, _⟩ | ⟨rfl, _⟩ <;> decide +kernel
    have no1 : inV (V.str op) [V.str "==", V.str "!="] = false := (by decide +kernel : ∀ o ∈ (["in", "notin"] : List Str), inV (V.str o) [V.str "==", V.str "!="] = false) op ho
    have no2 : inV (V.str op) [V.str "is", V.str "isnot"] = false := (by decide +kernel : ∀ o ∈ (["in", "notin"] : List Str), inV (V.str o) [V.str "is", V.str "isnot"] = false) op ho
    refine ⟨fun σ H1 => σ = [some (.ref hp), some (.str op), some v, some v2] ∧ Same H H1, ?_, ?_⟩
    · refine ⟨_, rfl, sz_2, fun u hu => ⟨u, _, rfl, .inr (SqT.of upd_same), rfl, rfl, _, rfl, ?_⟩⟩
      rw [if_neg Bool.false_ne_true, no1]
      exact iteFb rfl ⟨rfl, Same.new hu⟩
    rintro _ H1 ⟨rfl, S1⟩
    refine ⟨fun σ H1 => σ = [some (.ref hp), some (.str op), some v, some v2] ∧ Same H H1, ?_, ?_⟩
    · refine ⟨_, rfl, sz_2, fun u hu => ⟨u, _, rfl, .inr (SqT.of upd_same), rfl, rfl, _, rfl, ?_⟩⟩
      rw [if_neg Bool.false_ne_true, no2]
      exact iteFb rfl ⟨rfl, S1.trans (Same.new hu)⟩
    rintro _ H1 ⟨rfl, S1⟩
    have tg1 := tabG_same tg S1
    rcases hop with ⟨rfl, rfl⟩ | ⟨rfl, hopp⟩
    · refine ⟨_, rfl, rfl, _, rfl, iteTb rfl ?_⟩
      exact ⟨_, rfl, _, rfl, _, rfl, kt, hp, rows, _, _, x, y, _, rfl, tg1, listAt_mono L S1, dv.mono S1, dv2.mono S1, hm, fun u H' S2 t2 du => k _ _ ((same_n S1).trans S2) t2 du⟩
    · refine ⟨_, rfl, rfl, _, rfl, iteFb (by decide +kernel) ⟨_, rfl, rfl, _, rfl, iteTb rfl ?_⟩⟩
      exact ⟨_, rfl, _, rfl, _, rfl, kt, hp, rows, _, _, x, y, _, rfl, tg1, listAt_mono L S1, dv.mono S1, dv2.mono S1, hm, fun u H' S2 t2 du => ⟨_, _, _, rfl, du, hopp, fun u2 H2 S3 du2 => k _ _ (((same_n S1).trans S2).trans (same_n S3)) (tabG_same t2 S3) du2⟩⟩
/-! the law's own -/
def spLPlain (K : PySem.W.Frag) : Sp := fun vs H Q _ => ∃ (p dl : Addr), vs = [.ref p] ∧ BoxAt H p dl ∧ ∀ v H' x, BoxAt H' p dl → Keep p H H' → Dt K H' v (vlD x) → x ∈ dom24 → Q v H'
theorem ok_lplain {f : Addr} {fd : FuncData} (F : Fun K "_law_plain" "_law_plain" s_law_plain f fd) (T : Txt K mg) (U_law_draw : Use P w K mg base CX0 "_law_draw" 1 P_law_draw (spDraw K)) : FnG P w K mg base CX0 2 f fd P_law_plain (spLPlain K) := by
  refine okG0 F sc_law_plain (fun vs H Q E h => ?_) fun cdv A outer s H vs Q E hr hg h => ?_
  · obtain ⟨p, dl, rfl, _⟩ := h
    rfl
  · obtain ⟨p, dl, rfl, B, k⟩ := h
    refine ⟨_, (pss_cons (ps_set (i := 1) sc_law_plain.nd rfl (Or.inl rfl) (pe_use U_law_draw (hr.mono (by decide)) hg rfl (pa_cons (pv 0) (pa_cons pe_int pa_nil))))
  (pss_cons (ps_if (pt_cmpR op_eq (pv 1) pe_int (nomark _))
   (pss_one (ps_ret (pe_tup (pa_cons pe_str pa_nil))))
   pss_nil)
  (pss_cons (ps_if (pt_cmpR op_eq (pv 1) pe_int (nomark _))
   (pss_one (ps_ret (pe_tup (pa_cons pe_str (pa_cons (pe_cmpR op_eq (pe_use U_law_draw (hr.mono (by decide)) hg rfl (pa_cons (pv 0) (pa_cons pe_int pa_nil))) pe_int (nomark _)) pa_nil)))))
   pss_nil)
  (pss_cons (ps_if (pt_cmpR op_eq (pv 1) pe_int (nomark _))
   (pss_one (ps_ret (pe_tup (pa_cons pe_str (pa_cons (pe_slice sl_str pe_str po_none (po_some (pe_use U_law_draw (hr.mono (by decide)) hg rfl (pa_cons (pv 0) (pa_cons pe_int pa_nil))))) pa_nil)))))
   pss_nil)
  (pss_one (ps_ret (pe_tup (pa_cons pe_str (pa_cons (pe_op op_sub (pe_use U_law_draw (hr.mono (by decide)) hg rfl (pa_cons (pv 0) (pa_cons pe_int pa_nil))) pe_int) pa_nil))))))))), ?_⟩
    have fin : ∀ {H1 : Hp} {u : Addr} {vs : List V} {x : Vl}, BoxAt H1 p dl → Keep p H H1 → H1 u = none → DtAll K H1 vs (.str (knd x) :: resD x) → x ∈ dom24 → Q (.ref u) (upd H1 u (.tup vs)) := fun {H1 u vs x} B1 K1 hu d hx =>
      k _ _ x (B1.same (Same.new hu)) (K1.trans (Same.keep (Same.new hu))) (by rw [vlD_eq]; exact Dt.made hu d) hx
    refine ⟨_, rfl, p, dl, 4, rfl, B, by decide, fun r H1 r0 r1 B1 K1 => ?_⟩
    refine ⟨_, rfl, rfl, _, rfl, ite3 (fun c => ?_) fun c => ?_⟩
    · exact ⟨sz_1, fun u hu => fin (x := .non) B1 K1 hu (.cons (.str _) .nil) (by decide +kernel)⟩
    refine ⟨_, rfl, rfl, _, rfl, ite3 (fun c1 => ?_) fun c1 => ?_⟩
    · refine ⟨_, rfl, p, dl, 2, rfl, B1, by decide, fun r2 H2 q0 q1 B2 K2 => ⟨rfl, sz_2, fun u hu => ?_⟩⟩
      exact fin (x := .bool _) B2 (K1.trans K2) hu (.cons (.str _) (.cons (.bl _) .nil)) (by cases decide (V.int r2 = V.int 0) <;> simp [dom24])
    refine ⟨_, rfl, rfl, _, rfl, ite3 (fun c2 => ?_) fun c2 => ?_⟩
    · refine ⟨_, rfl, p, dl, 3, rfl, B1, by decide, fun r2 H2 q0 q1 B2 K2 => ?_⟩
      have hz : L2.cutS "abc" none (some r2) ∈ (["", "a", "ab"] : List Str) := by
        obtain rfl | rfl | rfl : r2 = 0 ∨ r2 = 1 ∨ r2 = 2 := by omega
        all_goals decide +kernel
      refine ⟨_, rfl, "abc", rfl, by decide +kernel, sz_2, fun u hu => ?_⟩
      refine fin (x := .text (L2.cutS "abc" none (some r2))) B2 (K1.trans K2) hu (.cons (.str _) (.cons (.str _) .nil)) ?_
      generalize L2.cutS "abc" none (some r2) = z at hz
      simp only [List.mem_cons, List.not_mem_nil, or_false] at hz
      rcases hz with rfl | rfl | rfl <;> simp [dom24]
    · refine ⟨_, rfl, p, dl, 5, rfl, B1, by decide, fun r2 H2 q0 q1 B2 K2 => ⟨_, _, rfl, rfl, sz_2, fun u hu => ?_⟩⟩
      refine fin (x := .int (r2 - 1)) B2 (K1.trans K2) hu (.cons (.str _) (.cons (.int _) .nil)) ?_
      obtain rfl | rfl | rfl | rfl | rfl : r2 = 0 ∨ r2 = 1 ∨ r2 = 2 ∨ r2 = 3 ∨ r2 = 4 := by omega
      all_goals decide +kernel
def spPlainly (K : PySem.W.Frag) : Sp := fun vs H Q _ => ∃ (v u : V) (x y : Vl), vs = [v, u] ∧ Dt K H v (vlD x) ∧ Dt K H u (vlD y) ∧ x ∈ dom24 ∧ y ∈ dom24 ∧ ∀ H', Same H H' → Q (.bl (sl x y)) H'
theorem d24_in : ∀ x ∈ dom24, inV (V.str (knd x)) [V.str "int", V.str "bool"] = (numV x).isSome := by decide +kernel
theorem d24_sp : ∀ x ∈ dom24, kn x ≠ 4 := by decide +kernel
theorem ok_plainly {f : Addr} {fd : FuncData} (F : Fun K "_law_plainly" "_law_plainly" s_law_plainly f fd) (T : Txt K mg) : FnG P w K mg base CX0 1 f fd P_law_plainly (spPlainly K) := by
  refine okG0 F sc_law_plainly (fun vs H Q E h => ?_) fun cdv A outer s H vs Q E hr hg h => ?_
  · obtain ⟨v, u, x, y, rfl, _⟩ := h
    rfl
  · obtain ⟨v, u, x, y, rfl, dx, dy, hx, hy, k⟩ := h
    refine ⟨_, (C8.pss_cut (ps_if (PW.pt (pw_and (pt_cmpR op_in_seq (pe_ix ix_tup (pv 0) pe_int (fun _ _ => rfl)) (pe_tup (pa_cons pe_str (pa_cons pe_str pa_nil))) (by rfl)) (pw_and1 (pt_cmpR op_in_seq (pe_ix ix_tup (pv 1) pe_int (fun _ _ => rfl)) (pe_tup (pa_cons pe_str (pa_cons pe_str pa_nil))) (by rfl)))))
   (pss_one (ps_ret (pe_cmpR op_eq (pe_callTy call_int1 (by rfl) T.b_int (by decide +kernel) (pa_cons (pe_ix ix_tup (pv 0) pe_int (fun _ _ => rfl)) pa_nil)) (pe_callTy call_int1 (by rfl) T.b_int (by decide +kernel) (pa_cons (pe_ix ix_tup (pv 1) pe_int (fun _ _ => rfl)) pa_nil)) (nomark _))))
   pss_nil)
  (pss_one (ps_ret (pe_cmpR (op_eqD hr.units) (pv 0) (pv 1) (nomark _))))), ?_⟩
    obtain ⟨q1, w1, rfl, hs1, da1⟩ := dvl dx
    obtain ⟨q2, w2, rfl, hs2, da2⟩ := dvl dy
    refine ⟨fun σ H1 => σ = [some (.ref q1), some (.ref q2)] ∧ Same H H1 ∧ (numV x = none ∨ numV y = none), ?_, ?_⟩
    · refine ⟨_, rfl, q1, _, _, _, rfl, rfl, hs1, at0, sz_2, fun u hu => ⟨u, _, rfl, .inr (SqT.of upd_same), rfl, rfl, _, rfl, ?_⟩⟩
      have S1 := Same.new (o := .tup [V.str "int", V.str "bool"]) hu
      generalize upd H u _ = H1 at S1
      rw [if_neg Bool.false_ne_true, d24_in x hx]
      cases hnx : numV x with
      | none => exact iteFb rfl (iteFb rfl ⟨rfl, S1, .inl rfl⟩)
      | some i =>
        refine iteTb rfl ⟨_, rfl, q2, _, _, _, rfl, rfl, Same.tupl S1 hs2, at0, sz_2, fun u2 hu2 => ⟨u2, _, rfl, .inr (SqT.of upd_same), rfl, rfl, _, rfl, ?_⟩⟩
        have S2 := S1.trans (Same.new (o := .tup [V.str "int", V.str "bool"]) hu2)
        generalize upd H1 u2 _ = H2 at S2
        rw [if_neg Bool.false_ne_true, d24_in y hy]
        cases hny : numV y with
        | none => exact iteFb rfl ⟨rfl, S2, .inr rfl⟩
        | some j =>
          refine iteTb rfl ?_
          have rd : ∀ {x : Vl} {i : Int} {ws : List V}, numV x = some i → DtAll K H ws (resD x) → ∃ v1, ws = [v1] ∧ ((v1 = .int i) ∨ ∃ b, v1 = .bl b ∧ i = if b = true then 1 else 0) := fun h d => by
            obtain ⟨e, ee, _, he⟩ := num_d h
            rw [ee] at d
            obtain ⟨v1, ws, rfl, dv, dw⟩ := d.cons_inv
            have := dw.nil_inv
            subst this
            rcases he with rfl | ⟨b, rfl, rfl⟩
            · exact ⟨v1, rfl, .inl dv.int_inv⟩
            · exact ⟨v1, rfl, .inr ⟨b, dv.bool_inv, rfl⟩⟩
          obtain ⟨v1, rfl, h1⟩ := rd hnx da1
          obtain ⟨v2, rfl, h2⟩ := rd hny da2
          have e : sl x y = decide (V.int i = V.int j) := by
            rw [sl_num hnx hny]
            exact decide_eq_decide.mpr ⟨fun e => by rw [e], fun e => V.int.inj e⟩
          have kk := k H2 S2
          rw [e] at kk
          have t1 := Same.tupl S2 hs1
          have t2 := Same.tupl S2 hs2
          rcases h1 with rfl | ⟨b1, rfl, rfl⟩ <;> rcases h2 with rfl | ⟨b2, rfl, rfl⟩
          · exact ⟨_, rfl, q1, _, _, _, rfl, rfl, t1, at1, .inl ⟨_, rfl, _, rfl, q2, _, _, _, rfl, rfl, t2, at1, .inl ⟨_, rfl, rfl, kk⟩⟩⟩
          · exact ⟨_, rfl, q1, _, _, _, rfl, rfl, t1, at1, .inl ⟨_, rfl, _, rfl, q2, _, _, _, rfl, rfl, t2, at1, .inr ⟨_, rfl, rfl, kk⟩⟩⟩
          · exact ⟨_, rfl, q1, _, _, _, rfl, rfl, t1, at1, .inr ⟨_, rfl, _, rfl, q2, _, _, _, rfl, rfl, t2, at1, .inl ⟨_, rfl, rfl, kk⟩⟩⟩
          · exact ⟨_, rfl, q1, _, _, _, rfl, rfl, t1, at1, .inr ⟨_, rfl, _, rfl, q2, _, _, _, rfl, rfl, t2, at1, .inr ⟨_, rfl, rfl, kk⟩⟩⟩
    · rintro _ H1 ⟨rfl, S1, hno⟩
      refine ⟨_, rfl, _, rfl, _, _, (dx.mono S1).dp, (dy.mono S1).dp, (d24_ok hx).shp.sh (by decide), (d24_ok hy).shp.sh (by decide), ?_⟩
      rw [eqv_vl x y hno, ← sl_oth hno (fun a b _ _ h _ => absurd (by rw [h]; rfl) (d24_sp x hx))]
      exact k _ S1
def spText (K : PySem.W.Frag) : Sp := fun vs H Q _ => ∃ (p dl : Addr), vs = [.ref p] ∧ BoxAt H p dl ∧ ∀ (z : Str) H', z.length ≤ 8 → BoxAt H' p dl → Keep p H H' → Q (.str z) H'
theorem ok_text {f : Addr} {fd : FuncData} (F : Fun K "_law_text" "_law_text" s_law_text f fd) (T : Txt K mg) (U_law_draw : Use P w K mg base CX0 "_law_draw" 1 P_law_draw (spDraw K)) : FnG P w K mg base CX0 2 f fd P_law_text (spText K) := by
  refine okG0 F sc_law_text (fun vs H Q E h => ?_) fun cdv A outer s H vs Q E hr hg h => ?_
  · obtain ⟨p, dl, rfl, _⟩ := h
    rfl
  · obtain ⟨p, dl, rfl, B, k⟩ := h
    refine ⟨_, (pss_cons (ps_set (i := 1) sc_law_text.nd rfl (Or.inl rfl) pe_str)
  (pss_cons (ps_for PassesOwn.never rfl (pi_range1 (by rfl) T.b_range (pa_cons (pe_use U_law_draw (hr.mono (by decide)) hg rfl (pa_cons (pv 0) (pa_cons pe_int pa_nil))) pa_nil)) (pg_name (i := 2) sc_law_text.nd rfl (Or.inl rfl))
   (pss_one (ps_set (i := 1) sc_law_text.nd rfl (Or.inl rfl) (pe_op op_add_str (pv 1) (pe_ix ix_str pe_str (pe_use U_law_draw (hr.mono (by decide)) hg rfl (pa_cons (pv 0) (pa_cons pe_int pa_nil))) (fun _ _ => rfl))))))
  (pss_one (ps_ret (pv 1))))), ?_⟩
    refine ⟨_, rfl, p, dl, 9, rfl, B, by decide, fun m H1 m0 m1 B1 K1 => ⟨m, rfl, by omega, by omega, ?_⟩⟩
    refine for_range (lo := 0) (n := m.toNat) (fun i σ H3 => ∃ (z : Str) (x2 : Option V), σ = [some (.ref p), some (.str z), x2] ∧ z.length ≤ i ∧ BoxAt H3 p dl ∧ Keep p H H3) ⟨"", none, rfl, by decide +kernel, B1, K1⟩ ?_ ?_
    · rintro i σ H3 hi ⟨z, x2, rfl, hz, B3, K3⟩
      refine ⟨_, rfl, _, rfl, p, dl, 2, rfl, B3, by decide, fun r H4 q0 q1 B4 K4 => ?_⟩
      have fin : ∀ c : Nat, ∃ (z' : Str) (x2 : Option V), [some (V.ref p), some (.str (z ++ ⟨#[c]⟩)), some (.int (0 + (i : Int)))] = [some (.ref p), some (.str z'), x2] ∧ z'.length ≤ i + 1 ∧ BoxAt H4 p dl ∧ Keep p H H4 := fun c => ⟨_, _, rfl, by rw [strlen_cat]; exact Nat.succ_le_succ hz, B4, K3.trans K4⟩
      have ln : ∀ c : Nat, z.length + (⟨#[c]⟩ : Str).length ≤ sizeLine := fun c => ss_le (by show z.length + 1 ≤ _; omega)
      obtain rfl | rfl : r = 0 ∨ r = 1 := by omega
      · exact ⟨"ab", 0, 97, rfl, rfl, by decide +kernel, by decide +kernel, _, _, rfl, rfl, ln _, fin _⟩
      · exact ⟨"ab", 1, 98, rfl, rfl, by decide +kernel, by decide +kernel, _, _, rfl, rfl, ln _, fin _⟩
    · rintro σ H3 ⟨z, x2, rfl, hz, B3, K3⟩
      exact ⟨_, rfl, k z H3 (by omega) B3 K3⟩
def spFound (K : PySem.W.Frag) : Sp := fun vs H Q _ => ∃ (t z : Str), vs = [.str t, .str z] ∧ t.length ≤ 1000 ∧ z.length ≤ 1000 ∧ Q (.bl (!(Builtin.Str.occurrences z t 0 z.length 1).isEmpty)) H
theorem ok_found {f : Addr} {fd : FuncData} (F : Fun K "_law_found" "_law_found" s_law_found f fd) (T : Txt K mg) : FnG P w K mg base CX0 1 f fd P_law_found (spFound K) := by
  refine okG0 F sc_law_found (fun vs H Q E h => ?_) fun cdv A outer s H vs Q E hr hg h => ?_
  · obtain ⟨t, z, rfl, _⟩ := h
    rfl
  · obtain ⟨t, z, rfl, ht, hz, k⟩ := h
    refine ⟨_, (pss_cons (ps_for PassesOwn.never rfl (pi_range1 (by rfl) T.b_range (pa_cons (pe_op op_add (pe_callB call_len (by rfl) T.b_len PySem.boot_len (pa_cons (pv 1) pa_nil)) pe_int) pa_nil)) (pg_name (i := 2) sc_law_found.nd rfl (Or.inl rfl))
   (pss_one (ps_if (pt_cmpR op_eq (pe_slice sl_str (pv 1) (po_some (pv 2)) (po_some (pe_op op_add (pv 2) (pe_callB call_len (by rfl) T.b_len PySem.boot_len (pa_cons (pv 0) pa_nil))))) (pv 0) (nomark _))
   (pss_one (ps_ret pe_bl))
   pss_nil)))
  (pss_one (ps_ret pe_bl))), ?_⟩
    rw [found_is] at k
    refine ⟨_, rfl, _, _, rfl, ⟨ss_le (by omega), rfl⟩, _, _, rfl, rfl, _, rfl, by omega, by omega, ?_⟩
    rw [show (((z.length : Nat) : Int) + 1).toNat = z.length + 1 by omega]
    refine for_range (lo := 0) (n := z.length + 1) (fun i σ H' => ∃ x2 : Option V, σ = [some (.str t), some (.str z), x2] ∧ H' = H ∧ ∀ j < i, decide (cutS z (some ((j : Nat) : Int)) (some (((j : Nat) : Int) + ((t.length : Nat) : Int))) = t) = false) ⟨none, rfl, rfl, fun j hj => absurd hj (Nat.not_lt_zero _)⟩ ?_ ?_
    · rintro i σ H hi ⟨x2, rfl, rfl, hno⟩
      rw [Int.zero_add]
      refine ⟨_, rfl, _, rfl, _, rfl, _, rfl, _, rfl, _, _, rfl, ⟨ss_le (by omega), rfl⟩, _, _, rfl, rfl, _, rfl, z, rfl, ss_le (by omega), _, rfl, rfl, _, rfl, ite3 (fun c => ?_) fun c => ?_⟩
      · have c1 := of_decide_eq_true c
        have e : ((List.range (z.length + 1)).any fun i => decide (cutS z (some ((i : Nat) : Int)) (some (((i : Nat) : Int) + ((t.length : Nat) : Int))) = t)) = true := List.any_eq_true.mpr ⟨i, List.mem_range.mpr hi, decide_eq_true (V.str.inj c1)⟩
        rw [e] at k
        exact k
      · refine ⟨_, rfl, rfl, fun j hj => ?_⟩
        by_cases e : j = i
        · subst e
          exact decide_eq_false fun e => of_decide_eq_false c (by rw [e])
        · exact hno j (by omega)
    · rintro σ H ⟨x2, rfl, rfl, hno⟩
      have e : ((List.range (z.length + 1)).any fun i => decide (cutS z (some ((i : Nat) : Int)) (some (((i : Nat) : Int) + ((t.length : Nat) : Int))) = t)) = false := by
        rw [List.any_eq_false]
        intro i hi
        rw [hno i (List.mem_range.mp hi)]
        exact Bool.false_ne_true
      rw [e] at k
      exact k
def spHolds (K : PySem.W.Frag) (TP : Addr) : Sp := fun vs H Q _ => ∃ (kt : Vl → Str) (b0 u : V) (hp : Addr) (rows : List Row) (v v2 : V) (x y : Vl) (d : PyData), vs = [b0, .ref hp, v, v2, u] ∧ GxR.TabG H TP ∧ ListAt K H hp (rows.map rowD) ∧ Dt K H v (vlD x) ∧ Dt K H v2 (vlD y) ∧ MemIs rows kt x y d ∧ ((∃ b, u = .bl b ∧ d = ansD b) ∨ (u = .str "key" ∧ d = badD "list")) ∧
  ∀ H', SameN H H' → GxR.TabG H' TP → Q (.bl true) H'
theorem ok_holds {f TP : Addr} {fd : FuncData} (F : Fun K "_law_holds" "_law_holds" s_law_holds f fd) (T : Txt K mg) (U_compare : Use P w K mg base CX0 "compare" 8 P_compare (spCmp K TP)) (U_law_same : Use P w K mg base CX0 "_law_same" 1 P_law_same (spSame K)) : FnG P w K mg base CX0 9 f fd P_law_holds (spHolds K TP) := by
  refine okG0 F sc_law_holds (fun vs H Q E h => ?_) fun cdv A outer s H vs Q E hr hg h => ?_
  · obtain ⟨kt, b0, u, hp, rows, v, v2, x, y, d, rfl, _⟩ := h
    rfl
  · obtain ⟨kt, b0, u, hp, rows, v, v2, x, y, d, rfl, tg, L, dv, dv2, hm, hd, k⟩ := h
    refine ⟨_, (pss_cons (ps_if (pt_cmpR op_eq (pv 4) pe_str (nomark _))
   (pss_cons (ps_for PassesOwn.never rfl (pi_list (pe_lst (pa_cons pe_str (pa_cons pe_str pa_nil)))) (pg_name (i := 5) sc_law_holds.nd rfl (Or.inl rfl))
   (pss_one (ps_if (pt_not (pt_val (pe_use U_law_same (hr.mono (by decide)) hg rfl (pa_cons (pe_use U_compare (hr.mono (by decide)) hg rfl (pa_cons (pv 1) (pa_cons (pv 5) (pa_cons (pv 2) (pa_cons (pv 3) pa_nil))))) (pa_cons (pe_tup (pa_cons pe_str (pa_cons pe_int (pa_cons pe_str pa_nil)))) pa_nil)))))
   (pss_one (ps_ret pe_bl))
   pss_nil)))
  (pss_one (ps_ret pe_bl)))
   pss_nil)
  (pss_cons (ps_if (pt_not (pt_val (pe_use U_law_same (hr.mono (by decide)) hg rfl (pa_cons (pe_use U_compare (hr.mono (by decide)) hg rfl (pa_cons (pv 1) (pa_cons pe_str (pa_cons (pv 2) (pa_cons (pv 3) pa_nil))))) (pa_cons (pe_tup (pa_cons pe_str (pa_cons (pe_tup (pa_cons pe_str (pa_cons (pv 4) pa_nil))) pa_nil))) pa_nil)))))
   (pss_one (ps_ret pe_bl))
   pss_nil)
  (pss_one (ps_ret (pe_use U_law_same (hr.mono (by decide)) hg rfl (pa_cons (pe_use U_compare (hr.mono (by decide)) hg rfl (pa_cons (pv 1) (pa_cons pe_str (pa_cons (pv 2) (pa_cons (pv 3) pa_nil))))) (pa_cons (pe_tup (pa_cons pe_str (pa_cons (pe_tup (pa_cons pe_str (pa_cons (pe_not (pv 4)) pa_nil))) pa_nil))) pa_nil))))))), ?_⟩
    rcases hd with ⟨b, rfl, rfl⟩ | ⟨rfl, rfl⟩
    · refine ⟨_, rfl, rfl, _, rfl, iteFb (decide_eq_false fun h => by cases h) ?_⟩
      refine ⟨_, rfl, _, rfl, _, rfl, kt, hp, rows, "in", v, v2, x, y, _, _, rfl, tg, L, dv, dv2, hm, .inl ⟨rfl, rfl⟩, fun r1 H1 S1 t1 d1 => ⟨_, rfl, sz_2, fun u1 hu1 => ⟨sz_2, fun u2 hu2 => ?_⟩⟩⟩
      have M1 := Same.new (o := .tup [V.str "bool", V.bl b]) hu1
      have M2 := Same.new (o := .tup [V.str "ok", V.ref u1]) hu2
      have du2 : Dt K _ (.ref u2) (ansD b) := Dt.made hu2 (.cons (.str _) (.cons (Dt.made hu1 (.cons (.str _) (.cons (.bl _) .nil))) .nil))
      have S2 := S1.trans (same_n (M1.trans M2))
      have t2 := tabG_same t1 (M1.trans M2)
      refine ⟨_, _, ansD b, rfl, (d1.mono (M1.trans M2)).dp, du2.dp, show_ans b, true, rfl, iteFb rfl ?_⟩
      generalize upd _ u2 _ = H2 at S2 t2
      refine ⟨_, rfl, _, rfl, _, rfl, kt, hp, rows, "notin", v, v2, x, y, _, _, rfl, t2, S2.list L, S2.dt dv, S2.dt dv2, hm, .inr ⟨rfl, .ans b⟩, fun r3 H3 S3 t3 d3 => ⟨_, rfl, _, rfl, sz_2, fun u3 hu3 => ⟨sz_2, fun u4 hu4 => ?_⟩⟩⟩
      have M3 := Same.new (o := .tup [V.str "bool", V.bl (!b)]) hu3
      have M4 := Same.new (o := .tup [V.str "ok", V.ref u3]) hu4
      have du4 : Dt K _ (.ref u4) (ansD (!b)) := Dt.made hu4 (.cons (.str _) (.cons (Dt.made hu3 (.cons (.str _) (.cons (.bl _) .nil))) .nil))
      exact ⟨_, _, ansD (!b), rfl, (d3.mono (M3.trans M4)).dp, du4.dp, show_ans (!b), k _ ((S2.trans S3).trans (same_n (M3.trans M4))) (tabG_same t3 (M3.trans M4))⟩
    · refine ⟨_, rfl, rfl, _, rfl, iteTb rfl ?_⟩
      refine ⟨sz_2, fun l hl => ⟨l, rfl, ⟨_, SqL.of upd_same⟩, ?_⟩⟩
      have S0 := Same.new (o := .lst [V.str "in", V.str "notin"]) hl
      have e0 : upd H l (.lst [V.str "in", V.str "notin"]) l = some (.lst [V.str "in", V.str "notin"]) := upd_same
      have t0 := tabG_same tg S0
      generalize upd H l (.lst [V.str "in", V.str "notin"]) = H0 at S0 e0 t0
      refine for_it (walk_list (xs := [V.str "in", V.str "notin"])) (fun j σ H5 => ∃ x5 : Option V, σ = [some b0, some (.ref hp), some v, some v2, some (.str "key"), x5] ∧ SameN H H5 ∧ GxR.TabG H5 TP ∧ SqL K H5 l [V.str "in", V.str "notin"]) ⟨_, rfl, same_n S0, t0, SqL.of e0⟩ (fun _ _ _ _ h => let ⟨_, _, _, _, e⟩ := h; e) ?_ ?_
      · rintro j w2 σ H5 H6 hj ⟨x5, rfl, S5, t5, sq5⟩ ⟨rfl, hx⟩
        have hop : ∃ op : Str, w2 = .str op ∧ ((op = "in" ∧ badD "list" = badD "list") ∨ (op = "notin" ∧ OppIs (badD "list") (badD "list"))) := by
          match j, hx with
          | 0, hx => cases hx; exact ⟨_, rfl, .inl ⟨rfl, rfl⟩⟩
          | 1, hx => cases hx; exact ⟨_, rfl, .inr ⟨rfl, .bad _⟩⟩
        obtain ⟨op, rfl, hop⟩ := hop
        refine ⟨_, rfl, _, rfl, _, rfl, _, rfl, kt, hp, rows, op, v, v2, x, y, _, _, rfl, t5, S5.list L, S5.dt dv, S5.dt dv2, hm, hop, fun r1 H1 S1 t1 d1 => ⟨sz_3, fun u1 hu1 => ?_⟩⟩
        have M1 := Same.new (o := .tup [V.str "raise", V.int 10, V.str "not a key: list"]) hu1
        have du1 : Dt K _ (.ref u1) (badD "list") := Dt.made hu1 (.cons (.str _) (.cons (.int _) (.cons (.str _) .nil)))
        have S6 := S1.trans (same_n M1)
        refine ⟨_, _, badD "list", rfl, (d1.mono M1).dp, du1.dp, show_bad (by decide +kernel), true, rfl, iteFb rfl ?_⟩
        refine ⟨_, rfl, S5.trans S6, tabG_same t1 M1, ?_⟩
        rcases sq5 with (h | ⟨o, h⟩) | h
        · exact .inl (.inl (S6.lst h))
        · exact .inl (.inr ⟨o, S6 _ _ (fun _ z => by cases z) h⟩)
        · exact .inr h
      · rintro σ H5 ⟨x5, rfl, S5, t5, _⟩
        exact k _ S5 t5
end

section
--SPLIT
end
abbrev s_law : Stmt := top 45
abbrev N_law : List Str := ["script", "box", "one", "two", "items", "entries", "k", "free", "entry", "low", "high", "heap", "a", "due", "part", "inside"]
abbrev P_law : List Str := ["script"]
theorem sc_law : FnScope N_law P_law (defScope s_law) := ⟨rfl, rfl, rfl, by decide +kernel, rfl, by decide +kernel, by decide +kernel⟩
section
def rows24 (is : List Vl) (es : List (Vl × Vl)) : List Row := [.tup is, .lst is, .dct es, .lst [.int 1], .tup [.ref 3]]
structure EntOk (is : List Vl) (es : List (Vl × Vl)) : Prop where
  dom : ∀ e ∈ es, e.1 ∈ dom24
  len : es.length ≤ is.length
  any : ∀ y ∈ dom24, (es.any fun e => sl e.1 y) = is.any fun v => sl v y
theorem EntOk.nil : EntOk [] [] := ⟨(fun _ h => nomatch h), Nat.le_refl _, fun _ _ => rfl⟩
theorem EntOk.skip {is : List Vl} {es : List (Vl × Vl)} {x : Vl} (h : EntOk is es) (hx : x ∈ dom24) (hf : (es.all fun e => !sl e.1 x) = false) : EntOk (is ++ [x]) es := by
  refine ⟨h.dom, by have := h.len; rw [List.length_append]; omega, fun y hy => ?_⟩
  rw [List.any_append, ← h.any y hy]
  have e : ([x].any fun v => sl v y) = sl x y := by simp
  rw [e]
  cases hs : sl x y with
  | false => rw [Bool.or_false]
  | true =>
    rw [Bool.or_true, List.any_eq_true]
    rw [List.all_eq_false] at hf
    obtain ⟨g, hg, hn⟩ := hf
    have hgx : sl g.1 x = true := by simpa using hn
    exact ⟨g, hg, d24_tr _ (h.dom g hg) _ hx hgx _ hy hs⟩
theorem EntOk.add {is : List Vl} {es : List (Vl × Vl)} {x w : Vl} (h : EntOk is es) (hx : x ∈ dom24) : EntOk (is ++ [x]) (es ++ [(x, w)]) := by
  refine ⟨fun e he => ?_, by have := h.len; rw [List.length_append, List.length_append]; exact Nat.add_le_add_right this 1, fun y hy => ?_⟩
  · rcases List.mem_append.mp he with he | he
    · exact h.dom e he
    · rw [List.mem_singleton.mp he]; exact hx
  · rw [List.any_append, List.any_append, h.any y hy]
    simp
theorem find_is {is : List Vl} {es : List (Vl × Vl)} {x : Vl} (h : EntOk is es) (hx : x ∈ dom24) : (findK (wordR []) es x).isSome = is.any fun v => sl v x := by
  rw [← h.any x hx]
  unfold findK
  rw [List.findIdx?_isSome]
  have key : ∀ l : List (Vl × Vl), (∀ e ∈ l, e.1 ∈ dom24) → (l.any fun e => mt (wordR []) e.1 x) = l.any fun e => sl e.1 x := by
    intro l
    induction l with
    | nil => intro _; rfl
    | cons e r ih =>
      intro hd
      rw [List.any_cons, List.any_cons, d24_mt _ (hd e (by simp)) _ hx, ih fun e he => hd e (List.mem_cons_of_mem _ he)]
  exact key es h.dom
theorem row_any {is : List Vl} {x : Vl} (hi : ∀ v ∈ is, v ∈ dom24) (hx : x ∈ dom24) : is.any (sl x) = is.any fun v => sl v x := by
  induction is with
  | nil => rfl
  | cons v r ih => rw [List.any_cons, List.any_cons, d24_sy _ hx _ (hi v (by simp)), ih fun v hv => hi v (List.mem_cons_of_mem _ hv)]
end
section
variable {P : Program} {w : World} {K : PySem.W.Frag} {mg : Str → Option Value} {base : Heap}
theorem mem24 {is : List Vl} {es : List (Vl × Vl)} {x : Vl} (ok : EntOk is es) (hi : ∀ v ∈ is, v ∈ dom24) (hl : is.length ≤ 5) (hx : x ∈ dom24) : ∀ i < 3, MemIs (rows24 is es) (wordR []) x (.ref i) (ansD (is.any fun v => sl v x)) := fun i h => by
  have ie : i = 0 ∨ i = 1 ∨ i = 2 := by omega
  rcases ie with rfl | rfl | rfl
  · rw [← row_any hi hx]
    exact .row x 0 (.tup is) is rfl (.inl rfl) (d24_kn x hx) (d24_ok hx) fun v hv => d24_ok (hi v hv)
  · rw [← row_any hi hx]
    exact .row x 1 (.lst is) is rfl (.inr rfl) (d24_kn x hx) (d24_ok hx) fun v hv => d24_ok (hi v hv)
  · rw [← find_is ok hx]
    exact .dct x 2 es none rfl (fun e he => d24_key _ (ok.dom e he)) (Nat.le_trans ok.len (by omega)) (.ok (d24_key _ hx))
theorem lst_bad (is : List Vl) (es : List (Vl × Vl)) : KIn (rows24 is es) (wordR []) (.ref 3) (some "list") :=
  .bad (n := 1) (.bad rfl ⟨_, rfl, trivial, by decide⟩) (by decide) (.oth 3 "list" [.tuple [vlD (.int 1)]] "list" rfl (by decide +kernel) rfl) (by decide +kernel) (by decide +kernel)
theorem tup_bad (is : List Vl) (es : List (Vl × Vl)) : KIn (rows24 is es) (wordR []) (.ref 4) (some "tuple") :=
  .bad (n := 2) (.tup (r := none) (vs := [.ref 3]) (st := []) rfl (by decide) (.bad rfl ⟨_, rfl, trivial, by decide⟩)) (by decide) (.oth 4 "tuple" [.tuple [vlD (.ref 3)]] "tuple" rfl (by decide +kernel) rfl) (by decide +kernel) (by decide +kernel)
def inside (x : Vl) (lo hi : Int) : Bool := match numV x with
  | some i => decide (lo ≤ i) && decide (i < hi)
  | none => false
theorem mem_span {x : Vl} {lo hi : Int} {rows : List Row} {kt : Vl → Str} : MemIs rows kt x (.span lo hi) (ansD (inside x lo hi)) := by
  unfold inside
  cases h : numV x with
  | none => exact .not x lo hi h
  | some i => exact .num x lo hi i h
structure Lw (K : PySem.W.Frag) (TP p dl il el : Addr) (H : Hp) (is : List Vl) (es : List (Vl × Vl)) : Prop where
  B : BoxAt H p dl
  T : GxR.TabG H TP
  L : ListAt K H il (is.map vlD)
  E : ListAt K H el (es.map entD)
  n1 : il ≠ p ∧ il ≠ dl
  n2 : el ≠ p ∧ el ≠ dl
  n3 : il ≠ el
theorem Lw.keep {TP p dl il el : Addr} {H H' : Hp} {is : List Vl} {es : List (Vl × Vl)} (h : Lw K TP p dl il el H is es) (B : BoxAt H' p dl) (k : Keep p H H') : Lw K TP p dl il el H' is es :=
  ⟨B, (let ⟨_, e⟩ := h.B.at_; tabG_keep h.T e k), listAt_keep h.L k h.n1.1 h.B.at_, listAt_keep h.E k h.n2.1 h.B.at_, h.n1, h.n2, h.n3⟩
theorem Lw.same {TP p dl il el : Addr} {H H' : Hp} {is : List Vl} {es : List (Vl × Vl)} (h : Lw K TP p dl il el H is es) (S : Same H H') : Lw K TP p dl il el H' is es :=
  ⟨h.B.same S, tabG_same h.T S, listAt_mono h.L S, listAt_mono h.E S, h.n1, h.n2, h.n3⟩
def spLaw (K : PySem.W.Frag) (TP : Addr) : Sp := fun vs H Q _ => ∃ (a : Addr) (ns : List Int), vs = [.ref a] ∧ GxR.TabG H TP ∧ SqL K H a (ns.map V.int) ∧ ns.length ≤ 63 ∧ ∀ H', Q (.bl true) H'
theorem ok_law {f TP : Addr} {fd : FuncData} (F : Fun K "law" "law" s_law f fd) (T : Txt K mg) (U_law_digits : Use P w K mg base CX0 "_law_digits" 2 P_law_digits (spDigits K)) (U_law_draw : Use P w K mg base CX0 "_law_draw" 1 P_law_draw (spDraw K)) (U_law_text : Use P w K mg base CX0 "_law_text" 2 P_law_text (spText K)) (U_law_plain : Use P w K mg base CX0 "_law_plain" 2 P_law_plain (spLPlain K)) (U_law_plainly : Use P w K mg base CX0 "_law_plainly" 1 P_law_plainly (spPlainly K))
    (U_law_holds : Use P w K mg base CX0 "_law_holds" 9 P_law_holds (spHolds K TP)) (U_law_found : Use P w K mg base CX0 "_law_found" 1 P_law_found (spFound K)) (U_law_same : Use P w K mg base CX0 "_law_same" 1 P_law_same (spSame K)) (U_is_key : Use P w K mg base CX0 "is_key" 4 P_is_key (spIsKey K)) : FnG P w K mg base CX0 10 f fd P_law (spLaw K TP) := by
  refine okG0 F sc_law (fun vs H Q E h => ?_) fun cdv A outer s H vs Q E hr hg h => ?_
  · obtain ⟨a, ns, rfl, _⟩ := h
    rfl
  · obtain ⟨a, ns, rfl, tg, hs, hn, k⟩ := h
    refine ⟨_, (pss_cons (ps_set (i := 1) sc_law.nd rfl (Or.inl rfl) (pe_lst (pa_cons (pe_use U_law_digits (hr.mono (by decide)) hg rfl (pa_cons (pv 0) (pa_cons pe_int (pa_cons pe_int pa_nil)))) (pa_cons pe_int pa_nil))))
  (pss_cons (ps_set (i := 2) sc_law.nd rfl (Or.inl rfl) (pe_slice sl_str (pe_use U_law_text (hr.mono (by decide)) hg rfl (pa_cons (pv 1) pa_nil)) po_none (po_some (pe_use U_law_draw (hr.mono (by decide)) hg rfl (pa_cons (pv 1) (pa_cons pe_int pa_nil))))))
  (pss_cons (ps_set (i := 3) sc_law.nd rfl (Or.inl rfl) (pe_use U_law_text (hr.mono (by decide)) hg rfl (pa_cons (pv 1) pa_nil)))
  (pss_cons (ps_set (i := 4) sc_law.nd rfl (Or.inl rfl) (pe_lst pa_nil))
  (pss_cons (ps_set (i := 5) sc_law.nd rfl (Or.inl rfl) (pe_lst pa_nil))
  (C8.pss_cut (ps_for PassesOwn.never rfl (pi_range1 (by rfl) T.b_range (pa_cons (pe_use U_law_draw (hr.mono (by decide)) hg rfl (pa_cons (pv 1) (pa_cons pe_int pa_nil))) pa_nil)) (pg_name (i := 6) sc_law.nd rfl (Or.inl rfl))
   (pss_one (ps_expr (pe_bm PySem.F.plainAttrs_list PySem.F.slot_list_append PySem.F.type_list_append mt_append (pv 4) (pa_cons (pe_use U_law_plain (hr.mono (by decide)) hg rfl (pa_cons (pv 1) pa_nil)) pa_nil)))))
  (C8.pss_cut (ps_for PassesOwn.never rfl (pi_range1 (by rfl) T.b_range (pa_cons (pe_callB call_len (by rfl) T.b_len PySem.boot_len (pa_cons (pv 4) pa_nil)) pa_nil)) (pg_name (i := 6) sc_law.nd rfl (Or.inl rfl))
   (pss_cons (ps_set (i := 7) sc_law.nd rfl (Or.inl rfl) pe_bl)
  (pss_cons (ps_for PassesOwn.never rfl (pi_list (pv 5)) (pg_name (i := 8) sc_law.nd rfl (Or.inl rfl))
   (pss_one (ps_if (pt_val (pe_use U_law_plainly (hr.mono (by decide)) hg rfl (pa_cons (pe_ix ix_tup (pv 8) pe_int (fun _ _ => rfl)) (pa_cons (pe_ix ix_list (pv 4) (pv 6) (fun _ _ => rfl)) pa_nil))))
   (pss_one (ps_set (i := 7) sc_law.nd rfl (Or.inl rfl) pe_bl))
   pss_nil)))
  (pss_one (ps_if (pt_val (pv 7))
   (pss_one (ps_expr (pe_bm PySem.F.plainAttrs_list PySem.F.slot_list_append PySem.F.type_list_append mt_append (pv 5) (pa_cons (pe_tup (pa_cons (pe_ix ix_list (pv 4) (pv 6) (fun _ _ => rfl)) (pa_cons (pe_tup (pa_cons pe_str (pa_cons (pv 6) pa_nil))) pa_nil))) pa_nil))))
   pss_nil)))))
  (pss_cons (ps_set (i := 9) sc_law.nd rfl (Or.inl rfl) (pe_op op_sub (pe_use U_law_draw (hr.mono (by decide)) hg rfl (pa_cons (pv 1) (pa_cons pe_int pa_nil))) pe_int))
  (pss_cons (ps_set (i := 10) sc_law.nd rfl (Or.inl rfl) (pe_op op_add (pv 9) (pe_use U_law_draw (hr.mono (by decide)) hg rfl (pa_cons (pv 1) (pa_cons pe_int pa_nil)))))
  (pss_cons (ps_set (i := 11) sc_law.nd rfl (Or.inl rfl) (pe_lst (pa_cons (pe_tup (pa_cons pe_str (pa_cons (pe_callTy call_tuple_of (by rfl) T.b_tuple (by decide +kernel) (pa_cons (pv 4) pa_nil)) pa_nil))) (pa_cons (pe_tup (pa_cons pe_str (pa_cons (pe_callTy call_tuple_of (by rfl) T.b_tuple (by decide +kernel) (pa_cons (pv 4) pa_nil)) pa_nil))) (pa_cons (pe_tup (pa_cons pe_str (pa_cons (pe_callTy call_tuple_of (by rfl) T.b_tuple (by decide +kernel) (pa_cons (pv 5) pa_nil)) pa_nil))) (pa_cons (pe_tup (pa_cons pe_str (pa_cons (pe_tup (pa_cons (pe_tup (pa_cons pe_str (pa_cons pe_int pa_nil))) pa_nil)) pa_nil))) pa_nil))))))
  (pss_cons (ps_expr (pe_bm PySem.F.plainAttrs_list PySem.F.slot_list_append PySem.F.type_list_append mt_append (pv 11) (pa_cons (pe_tup (pa_cons pe_str (pa_cons (pe_tup (pa_cons (pe_tup (pa_cons pe_str (pa_cons pe_int pa_nil))) pa_nil)) pa_nil))) pa_nil)))
  (pss_cons (ps_set (i := 12) sc_law.nd rfl (Or.inl rfl) (pe_use U_law_plain (hr.mono (by decide)) hg rfl (pa_cons (pv 1) pa_nil)))
  (pss_cons (ps_set (i := 13) sc_law.nd rfl (Or.inl rfl) pe_bl)
  (C8.pss_cut (ps_for PassesOwn.never rfl (pi_list (pv 4)) (pg_name (i := 14) sc_law.nd rfl (Or.inl rfl))
   (pss_one (ps_if (pt_val (pe_use U_law_plainly (hr.mono (by decide)) hg rfl (pa_cons (pv 14) (pa_cons (pv 12) pa_nil))))
   (pss_one (ps_set (i := 13) sc_law.nd rfl (Or.inl rfl) pe_bl))
   pss_nil)))
  (pss_cons (ps_if (pt_not (pt_val (pe_use U_law_holds (hr.mono (by decide)) hg rfl (pa_cons (pv 1) (pa_cons (pv 11) (pa_cons (pe_tup (pa_cons pe_str (pa_cons (pv 2) pa_nil))) (pa_cons (pe_tup (pa_cons pe_str (pa_cons (pv 3) pa_nil))) (pa_cons (pe_use U_law_found (hr.mono (by decide)) hg rfl (pa_cons (pv 2) (pa_cons (pv 3) pa_nil))) pa_nil))))))))
   (pss_one (ps_ret pe_bl))
   pss_nil)
  (pss_cons (ps_for PassesOwn.never rfl (pi_range1 (by rfl) T.b_range (pa_cons pe_int pa_nil)) (pg_name (i := 6) sc_law.nd rfl (Or.inl rfl))
   (pss_one (ps_if (pt_not (pt_val (pe_use U_law_holds (hr.mono (by decide)) hg rfl (pa_cons (pv 1) (pa_cons (pv 11) (pa_cons (pv 12) (pa_cons (pe_tup (pa_cons pe_str (pa_cons (pv 6) pa_nil))) (pa_cons (pv 13) pa_nil))))))))
   (pss_one (ps_ret pe_bl))
   pss_nil)))
  (C8.pss_cut (ps_set (i := 15) sc_law.nd rfl (Or.inl rfl) (pe_and (pe_cmpR op_in_seq (pe_ix ix_tup (pv 12) pe_int (fun _ _ => rfl)) (pe_tup (pa_cons pe_str (pa_cons pe_str pa_nil))) (by rfl)) (pe_one (pe_chain op_le op_lt (pv 9) (pe_callTy call_int1 (by rfl) T.b_int (by decide +kernel) (pa_cons (pe_and (pe_cmpR op_in_seq (pe_ix ix_tup (pv 12) pe_int (fun _ _ => rfl)) (pe_tup (pa_cons pe_str (pa_cons pe_str pa_nil))) (by rfl)) (pe_one (pe_ix ix_tup (pv 12) pe_int (fun _ _ => rfl)))) pa_nil)) (pv 10)))))
  (pss_cons (ps_if (pt_not (pt_val (pe_use U_law_holds (hr.mono (by decide)) hg rfl (pa_cons (pv 1) (pa_cons (pv 11) (pa_cons (pv 12) (pa_cons (pe_tup (pa_cons pe_str (pa_cons (pv 9) (pa_cons (pv 10) pa_nil)))) (pa_cons (pv 15) pa_nil))))))))
   (pss_one (ps_ret pe_bl))
   pss_nil)
  (pss_cons (ps_if (pt_not (pt_val (pe_use U_law_same (hr.mono (by decide)) hg rfl (pa_cons (pe_use U_is_key (hr.mono (by decide)) hg rfl (pa_cons (pv 11) (pa_cons (pv 12) pa_nil))) (pa_cons (pe_tup (pa_cons pe_str (pa_cons (pe_tup (pa_cons pe_str (pa_cons pe_bl pa_nil))) pa_nil))) pa_nil)))))
   (pss_one (ps_ret pe_bl))
   pss_nil)
  (pss_cons (ps_if (pt_not (pt_val (pe_use U_law_same (hr.mono (by decide)) hg rfl (pa_cons (pe_use U_is_key (hr.mono (by decide)) hg rfl (pa_cons (pv 11) (pa_cons (pe_tup (pa_cons pe_str (pa_cons pe_int pa_nil))) pa_nil))) (pa_cons (pe_tup (pa_cons pe_str (pa_cons pe_int (pa_cons pe_str pa_nil)))) pa_nil)))))
   (pss_one (ps_ret pe_bl))
   pss_nil)
  (pss_one (ps_ret (pe_use U_law_holds (hr.mono (by decide)) hg rfl (pa_cons (pv 1) (pa_cons (pv 11) (pa_cons (pe_tup (pa_cons pe_str (pa_cons pe_int pa_nil))) (pa_cons (pe_tup (pa_cons pe_str (pa_cons pe_int pa_nil))) (pa_cons pe_str pa_nil)))))))))))))))))))))))))))), ?_⟩
    refine ⟨_, rfl, a, ns, 0, 63, rfl, hs, by decide, by decide, fun dl H1 nd D => ?_⟩
    obtain ⟨ds, hd, hl, hds, S1⟩ := D
    have tg1 := tabG_same tg S1
    refine ⟨sz_2, fun p hp0 => ?_⟩
    have B0 : BoxAt (upd H1 p (.lst [.ref dl, .int 0])) p dl := ⟨ds, 0, upd_same, by decide, by rw [upd_ne (ne_of_none hd hp0)]; exact hd, hl, hds⟩
    have tg2 := tabG_same tg1 (Same.new (o := .lst [.ref dl, .int 0]) hp0)
    generalize upd H1 p (.lst [.ref dl, .int 0]) = H2 at B0 tg2
    clear hd hds S1 hp0 tg tg1
    dsimp only [gName, tSeq, tAsg]
    have tk : ∀ {H H' : Hp}, GxR.TabG H TP → BoxAt H p dl → Keep p H H' → GxR.TabG H' TP := fun t B K => let ⟨xs, e⟩ := B.at_; tabG_keep t e K
    refine ⟨_, rfl, p, dl, rfl, B0, fun z0 H3 hz0 B3 K3 => ⟨_, rfl, p, dl, 4, rfl, B3, by decide, fun r1 H4 q0 q1 B4 K4 => ?_⟩⟩
    refine ⟨r1, rfl, z0, rfl, ss_le (by omega), ?_⟩
    have hz1 : (cutS z0 none (some r1)).length ≤ 8 := Nat.le_trans (cutS_length _ _ _) hz0
    generalize cutS z0 none (some r1) = z1 at hz1
    have tg4 := tk (tk tg2 B0 K3) B3 K4
    refine ⟨_, rfl, p, dl, rfl, B4, fun z2 H5 hz2 B5 K5 => ?_⟩
    have tg5 := tk tg4 B4 K5
    refine ⟨sz_0, fun il hil => ⟨sz_0, fun el hel => ?_⟩⟩
    have W7 : Lw K TP p dl il el (upd (upd H5 il (.lst [])) el (.lst [])) [] [] := by
      have S6 := Same.new (o := .lst []) hil
      have S7 := Same.new (o := .lst []) hel
      have B6 := B5.same S6
      refine ⟨B6.same S7, tabG_same tg5 (S6.trans S7), listAt_mono (listAt_made hil .nil) S7, listAt_made hel .nil, B5.ne_new hil, B6.ne_new hel, fun e => ?_⟩
      rw [← e, upd_same] at hel
      cases hel
    generalize upd (upd H5 il (.lst [])) el (.lst []) = H7 at W7
    clear B5 B4 B3 B0 K3 K4 K5 tg2 tg4 tg5 hil hel hz0
    refine ⟨fun σ H' => ∃ (is : List Vl) (x6 : Option V), σ = [some (.ref a), some (.ref p), some (.str z1), some (.str z2), some (.ref il), some (.ref el), x6, none, none, none, none, none, none, none, none, none] ∧ Lw K TP p dl il el H' is [] ∧ (∀ v ∈ is, v ∈ dom24) ∧ is.length ≤ 5, ?_, ?_⟩
    · refine ⟨_, rfl, p, dl, 6, rfl, W7.B, by decide, fun m H8 m0 m1 B8 K8 => ⟨m, rfl, by omega, by omega, ?_⟩⟩
      refine for_range (lo := 0) (n := m.toNat) (fun i σ H' => ∃ (is : List Vl) (x6 : Option V), σ = [some (.ref a), some (.ref p), some (.str z1), some (.str z2), some (.ref il), some (.ref el), x6, none, none, none, none, none, none, none, none, none] ∧ Lw K TP p dl il el H' is [] ∧ (∀ v ∈ is, v ∈ dom24) ∧ is.length ≤ i) ⟨[], none, rfl, W7.keep B8 K8, (fun _ h => nomatch h), Nat.le_refl _⟩ ?_ ?_
      · rintro i σ H9 hi ⟨is, x6, rfl, W9, hd, hl⟩
        obtain ⟨zs, ez, az⟩ := id W9.L
        have lz := az.length
        rw [List.length_map] at lz
        refine ⟨_, rfl, .inl ⟨rfl, _, SqL.of ez⟩, _, rfl, p, dl, rfl, W9.B, fun v H10 x B10 K10 dv hx => ?_⟩
        have W10 := W9.keep B10 K10
        have ez10 := K10 _ _ ez W9.n1.1
        refine ⟨il, _, _, rfl, rfl, ez10, js_lt (by omega), ?_⟩
        refine ⟨is ++ [x], _, rfl, ⟨W10.B.upd W9.n1.1 W9.n1.2, ?_, ?_, listAt_upd W10.E (Ne.symm W9.n3) ez10, W9.n1, W9.n2, W9.n3⟩, fun v hv => ?_, by rw [List.length_append]; exact Nat.succ_le_succ hl⟩
        · obtain ⟨ps, eP, tP⟩ := W10.T
          exact ⟨ps, by rw [upd_ne (fun e => by rw [← e, eP] at ez10; cases ez10)]; exact eP, tP⟩
        · rw [List.map_append]
          exact listAt_app W10.L ez10 dv
        · rcases List.mem_append.mp hv with h | h
          · exact hd v h
          · rw [List.mem_singleton.mp h]; exact hx
      · rintro σ H9 ⟨is, x6, rfl, W9, hd, hl⟩
        exact ⟨is, x6, rfl, W9, hd, by omega⟩
    rintro _ H8 ⟨is, x6, rfl, W8, hd, hl⟩
    clear W7
    refine ⟨fun σ H' => ∃ (es : List (Vl × Vl)) (x6 x7 x8 : Option V), σ = [some (.ref a), some (.ref p), some (.str z1), some (.str z2), some (.ref il), some (.ref el), x6, x7, x8, none, none, none, none, none, none, none] ∧ Lw K TP p dl il el H' is es ∧ EntOk is es, ?_, ?_⟩
    · obtain ⟨zs, ez, az⟩ := id W8.L
      have lz := az.length
      rw [List.length_map] at lz
      refine ⟨_, rfl, _, _, rfl, .inl ⟨_, SqL.of ez, rfl⟩, _, rfl, by omega, by omega, ?_⟩
      rw [lz, Int.toNat_natCast]
      refine for_range (lo := 0) (n := is.length) (fun i σ H' => ∃ (es : List (Vl × Vl)) (x6 x7 x8 : Option V), σ = [some (.ref a), some (.ref p), some (.str z1), some (.str z2), some (.ref il), some (.ref el), x6, x7, x8, none, none, none, none, none, none, none] ∧ Lw K TP p dl il el H' is es ∧ EntOk (is.take i) es) ⟨[], x6, none, none, rfl, W8, .nil⟩ ?_ ?_
      · rintro i σ H9 hi ⟨es, x6, x7, x8, rfl, W9, ok⟩
        rw [Int.zero_add]
        obtain ⟨ys, ey, ay⟩ := id W9.L
        obtain ⟨ws, ew, aw⟩ := id W9.E
        have lw := aw.length
        rw [List.length_map] at lw
        have hxi : is[i]? = some is[i] := List.getElem?_eq_getElem hi
        have hxm := List.getElem_mem (l := is) (n := i) hi
        generalize is[i] = x at hxi hxm
        obtain ⟨vx, hvx, dvx⟩ := ay.get (i := i) (d := vlD x) (by rw [List.getElem?_map, hxi]; rfl)
        have tk1 : is.take (i + 1) = is.take i ++ [x] := by rw [List.take_succ, hxi]; rfl
        have les : es.length ≤ 5 := Nat.le_trans ok.len (by rw [List.length_take]; omega)
        dsimp only [gName, tSeq, tAsg]
        refine ⟨_, rfl, el, rfl, ⟨_, SqL.of ew⟩, ?_⟩
        refine for_it (walk_list (xs := ws)) (fun j σ H' => ∃ (x8 : Option V), σ = [some (.ref a), some (.ref p), some (.str z1), some (.str z2), some (.ref il), some (.ref el), some (.int ((i : Nat) : Int)), some (.bl ((es.take j).all fun e => !sl e.1 x)), x8, none, none, none, none, none, none, none] ∧ Same H9 H') ⟨x8, rfl, Same.refl _⟩ (fun _ _ _ _ h => let ⟨_, _, S⟩ := h; SqL.of (S _ _ ew)) ?_ ?_
        · rintro j u σ H10 H11 hj ⟨x8, rfl, S10⟩ ⟨rfl, hu⟩
          have hdi : es[j]? = some es[j] := List.getElem?_eq_getElem (by omega)
          have hmem := List.getElem_mem (l := es) (n := j) (by omega)
          generalize es[j] = g at hdi hmem
          obtain ⟨v', hv', dv⟩ := aw.get (i := j) (d := entD g) (by rw [List.getElem?_map, hdi]; rfl)
          rw [hu] at hv'
          cases hv'
          obtain ⟨q, y1, y2, rfl, hq, d1, d2⟩ := dt_ent (dv.mono S10)
          have hst : ((es.take (j + 1)).all fun e => !sl e.1 x) = (((es.take j).all fun e => !sl e.1 x) && !sl g.1 x) := by
            rw [List.take_succ, hdi]
            show ((es.take j ++ [g]).all fun e => !sl e.1 x) = _
            rw [List.all_append]
            simp
          rw [hst]
          refine ⟨_, rfl, q, _, _, _, rfl, rfl, hq, at0, _, rfl, _, rfl, il, _, _, _, rfl, rfl, SqL.of (S10 _ _ ey), atI_nat hvx, _, _, g.1, x, rfl, d1, dvx.mono S10, ok.dom g hmem, hd x hxm, fun H' S' => ⟨_, rfl, ?_⟩⟩
          cases hs : sl g.1 x with
          | true => exact iteTb rfl ⟨_, by rw [Bool.not_true, Bool.and_false]; rfl, S10.trans S'⟩
          | false => exact iteFb rfl ⟨_, by rw [Bool.not_false, Bool.and_true]; rfl, S10.trans S'⟩
        · rintro σ H10 ⟨x8, rfl, S10⟩
          rw [lw, List.take_length]
          have W10 := W9.same S10
          refine ⟨_, rfl, _, rfl, ?_⟩
          cases hf : es.all fun e => !sl e.1 x with
          | false => exact iteFb rfl ⟨es, _, _, _, rfl, W10, by rw [tk1]; exact ok.skip (hd x hxm) hf⟩
          | true =>
            refine iteTb rfl ?_
            refine ⟨_, rfl, .inl ⟨rfl, _, SqL.of (S10 _ _ ew)⟩, _, rfl, _, rfl, il, _, _, _, rfl, rfl, SqL.of (S10 _ _ ey), atI_nat hvx, _, rfl, sz_2, fun u1 hu1 => ⟨sz_2, fun u2 hu2 => ?_⟩⟩
            have M1 := Same.new (o := .tup [V.str "int", V.int ((i : Nat) : Int)]) hu1
            have M2 := Same.new (o := .tup [vx, V.ref u1]) hu2
            have d2 : Dt K _ (.ref u2) (entD (x, .int ((i : Nat) : Int))) := Dt.made hu2 (.cons ((dvx.mono S10).mono M1) (.cons (Dt.made hu1 (.cons (.str _) (.cons (.int _) .nil))) .nil))
            have W12 := W10.same (M1.trans M2)
            have ew12 := (S10.trans (M1.trans M2)) _ _ ew
            generalize upd _ u2 _ = H12 at W12 ew12 d2
            refine ⟨el, _, _, rfl, rfl, ew12, js_lt (by omega), ?_⟩
            refine ⟨es ++ [(x, .int ((i : Nat) : Int))], _, _, _, rfl, ⟨W12.B.upd W9.n2.1 W9.n2.2, ?_, listAt_upd W12.L W9.n3 ew12, ?_, W9.n1, W9.n2, W9.n3⟩, by rw [tk1]; exact ok.add (hd x hxm)⟩
            · obtain ⟨ps, eP, tP⟩ := W12.T
              exact ⟨ps, by rw [upd_ne (fun e => by rw [← e, eP] at ew12; cases ew12)]; exact eP, tP⟩
            · rw [List.map_append]
              exact listAt_app W12.E ew12 d2
      · rintro σ H9 ⟨es, x6, x7, x8, rfl, W9, ok⟩
        rw [List.take_length] at ok
        exact ⟨es, x6, x7, x8, rfl, W9, ok⟩
    rintro _ H9 ⟨es, x6, x7, x8, rfl, W9, ok⟩
    clear W8 tk
    refine ⟨_, rfl, p, dl, 9, rfl, W9.B, by decide, fun r9 H10 l0 l1 B10 K10 => ⟨_, _, rfl, rfl, ?_⟩⟩
    have W10 := W9.keep B10 K10
    dsimp only
    generalize r9 - 4 = lo
    refine ⟨_, rfl, _, rfl, p, dl, 5, rfl, B10, by decide, fun r10 H11 h0 h1 B11 K11 => ⟨_, _, rfl, rfl, ?_⟩⟩
    have W11 := W10.keep B11 K11
    dsimp only
    generalize lo + r10 = hi
    clear W9 W10 B10 B11 K10 K11
    obtain ⟨ys, ey, ay⟩ := id W11.L
    obtain ⟨ws, ew, aw⟩ := id W11.E
    refine ⟨_, rfl, il, _, rfl, .inl ⟨SqL.of ey, fun t1 ht1 => ⟨sz_2, fun u1 hu1 => ?_⟩⟩⟩
    have A1 := Same.new (o := .tup ys) ht1
    have A2 := Same.new (o := .tup [V.str "tuple", V.ref t1]) hu1
    have A12 := A1.trans A2
    have D1 : Dt K _ (.ref u1) (rowD (.tup is)) := Dt.made hu1 (.cons (.str _) (.cons (Dt.made ht1 ay) .nil))
    generalize upd (upd H11 t1 _) u1 _ = H12 at A12 D1
    refine ⟨_, rfl, il, _, rfl, .inl ⟨SqL.of (A12 _ _ ey), fun t2 ht2 => ⟨sz_2, fun u2 hu2 => ?_⟩⟩⟩
    have A3 := Same.new (o := .tup ys) ht2
    have A4 := Same.new (o := .tup [V.str "list", V.ref t2]) hu2
    have A34 := A3.trans A4
    have D2 : Dt K _ (.ref u2) (rowD (.lst is)) := Dt.made hu2 (.cons (.str _) (.cons (Dt.made ht2 (ay.mono A12)) .nil))
    generalize upd (upd H12 t2 _) u2 _ = H13 at A34 D2
    refine ⟨_, rfl, el, _, rfl, .inl ⟨SqL.of (A34 _ _ (A12 _ _ ew)), fun t3 ht3 => ⟨sz_2, fun u3 hu3 => ?_⟩⟩⟩
    have A5 := Same.new (o := .tup ws) ht3
    have A6 := Same.new (o := .tup [V.str "dict", V.ref t3]) hu3
    have A56 := A5.trans A6
    have D3 : Dt K _ (.ref u3) (rowD (.dct es)) := Dt.made hu3 (.cons (.str _) (.cons (Dt.made ht3 ((aw.mono A12).mono A34)) .nil))
    generalize upd (upd H13 t3 _) u3 _ = H14 at A56 D3
    refine ⟨sz_2, fun t4 ht4 => ⟨sz_1, fun t5 ht5 => ⟨sz_2, fun u4 hu4 => ?_⟩⟩⟩
    have A7 := Same.new (o := .tup [V.str "int", V.int 1]) ht4
    have A8 := Same.new (o := .tup [V.ref t4]) ht5
    have A9 := Same.new (o := .tup [V.str "list", V.ref t5]) hu4
    have A789 := (A7.trans A8).trans A9
    have D4 : Dt K _ (.ref u4) (rowD (.lst [.int 1])) := Dt.made hu4 (.cons (.str _) (.cons (Dt.made ht5 (.cons (Dt.made ht4 (.cons (.str _) (.cons (.int _) .nil))) .nil)) .nil))
    generalize upd (upd (upd H14 t4 _) t5 _) u4 _ = H15 at A789 D4
    have W15 := (((W11.same A12).same A34).same A56).same A789
    have D1 := ((D1.mono A34).mono A56).mono A789
    have D2 := (D2.mono A56).mono A789
    have D3 := D3.mono A789
    clear A1 A2 A12 A3 A4 A34 A5 A6 A56 A7 A8 A9 A789 ht1 ht2 ht3 ht4 ht5 hu1 hu2 hu3 hu4 W11 ey ay ew aw
    refine ⟨sz_4, fun hp hhp => ?_⟩
    have nh := W15.B.ne_new hhp
    have W16 := W15.same (Same.new (o := .lst [V.ref u1, V.ref u2, V.ref u3, V.ref u4]) hhp)
    have L16 : ListAt K (upd H15 hp (.lst [V.ref u1, V.ref u2, V.ref u3, V.ref u4])) hp ([Row.tup is, .lst is, .dct es, .lst [.int 1]].map rowD) := listAt_made hhp (.cons D1 (.cons D2 (.cons D3 (.cons D4 .nil))))
    have nhi : hp ≠ il := fun e => by
      obtain ⟨_, e1, _⟩ := W15.L
      rw [← e, hhp] at e1; cases e1
    have nhe : hp ≠ el := fun e => by
      obtain ⟨_, e1, _⟩ := W15.E
      rw [← e, hhp] at e1; cases e1
    generalize upd H15 hp _ = H16 at W16 L16
    clear W15 D1 D2 D3 D4 hhp
    dsimp only
    obtain ⟨zs, ez, az⟩ := id L16
    have lz : zs.length = 4 := az.length
    refine ⟨_, rfl, .inl ⟨rfl, _, SqL.of ez⟩, sz_2, fun t6 ht6 => ⟨sz_1, fun t7 ht7 => ⟨sz_2, fun u5 hu5 => ?_⟩⟩⟩
    have A1 := Same.new (o := .tup [V.str "ref", V.int 3]) ht6
    have A2 := Same.new (o := .tup [V.ref t6]) ht7
    have A3 := Same.new (o := .tup [V.str "tuple", V.ref t7]) hu5
    have A123 := (A1.trans A2).trans A3
    have D5 : Dt K _ (.ref u5) (rowD (.tup [.ref 3])) := Dt.made hu5 (.cons (.str _) (.cons (Dt.made ht7 (.cons (Dt.made ht6 (.cons (.str _) (.cons (.int _) .nil))) .nil)) .nil))
    generalize upd (upd (upd H16 t6 _) t7 _) u5 _ = H17 at A123 D5
    have W17 := W16.same A123
    have ez17 := A123 _ _ ez
    refine ⟨hp, _, _, rfl, rfl, ez17, js_lt (by omega), ?_⟩
    have W18 : Lw K TP p dl il el (upd H17 hp (.lst (zs ++ [V.ref u5]))) is es := by
      refine ⟨W17.B.upd nh.1 nh.2, ?_, listAt_upd W17.L (Ne.symm nhi) ez17, listAt_upd W17.E (Ne.symm nhe) ez17, W17.n1, W17.n2, W17.n3⟩
      obtain ⟨ps, eP, tP⟩ := W17.T
      exact ⟨ps, by rw [upd_ne (fun e => by rw [← e, eP] at ez17; cases ez17)]; exact eP, tP⟩
    have R18 : ListAt K (upd H17 hp (.lst (zs ++ [V.ref u5]))) hp ((rows24 is es).map rowD) := listAt_app (listAt_mono L16 A123) ez17 D5
    generalize upd H17 hp _ = H18 at W18 R18
    clear W16 W17 L16 D5 A1 A2 A3 A123 ez ez17 az lz ht6 ht7 hu5
    dsimp only
    refine ⟨_, rfl, p, dl, rfl, W18.B, fun va H19 x B19 K19 dx hx => ?_⟩
    have R19 := listAt_keep R18 K19 nh.1 W18.B.at_
    have W19 := W18.keep B19 K19
    clear W18 R18 B19 K19
    dsimp only
    have R0 := R19
    have T0 := W19.T
    obtain ⟨ys, ey, ay⟩ := W19.L
    have ly := ay.length
    rw [List.length_map] at ly
    clear W19 R19
    refine ⟨fun σ H' => ∃ x14 : Option V, σ = [some (.ref a), some (.ref p), some (.str z1), some (.str z2), some (.ref il), some (.ref el), x6, x7, x8, some (.int lo), some (.int hi), some (.ref hp), some va, some (.bl (is.any fun v => sl v x)), x14, none] ∧ Same H19 H', ?_, ?_⟩
    · refine ⟨_, rfl, il, rfl, ⟨_, SqL.of ey⟩, ?_⟩
      refine for_it (walk_list (xs := ys)) (fun j σ H' => ∃ x14 : Option V, σ = [some (.ref a), some (.ref p), some (.str z1), some (.str z2), some (.ref il), some (.ref el), x6, x7, x8, some (.int lo), some (.int hi), some (.ref hp), some va, some (.bl ((is.take j).any fun v => sl v x)), x14, none] ∧ Same H19 H') ⟨none, rfl, Same.refl _⟩ (fun _ _ _ _ h => let ⟨_, _, S⟩ := h; SqL.of (S _ _ ey)) ?_ ?_
      · rintro j u σ H20 H21 hj ⟨x14, rfl, S20⟩ ⟨rfl, hu⟩
        have hdi : is[j]? = some is[j] := List.getElem?_eq_getElem (by omega)
        have hmem := List.getElem_mem (l := is) (n := j) (by omega)
        generalize is[j] = g at hdi hmem
        obtain ⟨v', hv', dv⟩ := ay.get (i := j) (d := vlD g) (by rw [List.getElem?_map, hdi]; rfl)
        rw [hu] at hv'
        cases hv'
        have hst : ((is.take (j + 1)).any fun v => sl v x) = (((is.take j).any fun v => sl v x) || sl g x) := by
          rw [List.take_succ, hdi]
          show ((is.take j ++ [g]).any fun v => sl v x) = _
          rw [List.any_append]
          simp
        rw [hst]
        refine ⟨_, rfl, _, rfl, _, _, g, x, rfl, dv.mono S20, dx.mono S20, hd g hmem, hx, fun H' S' => ⟨_, rfl, ?_⟩⟩
        cases hs : sl g x with
        | true => exact iteTb rfl ⟨_, by rw [Bool.or_true]; rfl, S20.trans S'⟩
        | false => exact iteFb rfl ⟨_, by rw [Bool.or_false]; rfl, S20.trans S'⟩
      · rintro σ H20 ⟨x14, rfl, S20⟩
        rw [ly, List.take_length]
        exact ⟨_, rfl, S20⟩
    rintro _ H20 ⟨x14, rfl, S20⟩
    have R20 := listAt_mono R0 S20
    have dx20 := dx.mono S20
    have T20 := tabG_same T0 S20
    clear R0 T0 S20 ey ay ly dx
    -- a text in a text
    refine ⟨_, rfl, _, rfl, _, rfl, sz_2, fun u1 hu1 => ⟨_, rfl, sz_2, fun u2 hu2 => ?_⟩⟩
    have M1 := Same.new (o := .tup [V.str "text", V.str z1]) hu1
    have M2 := Same.new (o := .tup [V.str "text", V.str z2]) hu2
    have e1 : Dt K _ (.ref u1) (vlD (.text z1)) := (Dt.made hu1 (.cons (.str _) (.cons (.str _) .nil))).mono M2
    have e2 : Dt K _ (.ref u2) (vlD (.text z2)) := Dt.made hu2 (.cons (.str _) (.cons (.str _) .nil))
    have M12 := M1.trans M2
    refine ⟨_, rfl, _, rfl, z1, z2, rfl, by omega, by omega, wordR [], _, _, hp, rows24 is es, _, _, .text z1, .text z2, _, rfl, tabG_same T20 M12, listAt_mono R20 M12, e1, e2, .text z1 z2, .inl ⟨_, rfl, rfl⟩, fun H21 S21 T21 => ⟨true, rfl, iteFb rfl ?_⟩⟩
    have R21 := S21.list (listAt_mono R20 M12)
    have dx21 := S21.dt (dx20.mono M12)
    clear M1 M2 M12 e1 e2 S21 R20 dx20 T20
    -- a value in a tuple, a list, a dict
    have mem := mem24 ok hd hl hx
    refine ⟨_, rfl, by omega, by omega, ?_⟩
    refine for_range (lo := 0) (n := 3) (fun i σ H' => ∃ x6 : Option V, σ = [some (.ref a), some (.ref p), some (.str z1), some (.str z2), some (.ref il), some (.ref el), x6, x7, x8, some (.int lo), some (.int hi), some (.ref hp), some va, some (.bl (is.any fun v => sl v x)), x14, none] ∧ ListAt K H' hp ((rows24 is es).map rowD) ∧ Dt K H' va (vlD x) ∧ GxR.TabG H' TP) ⟨x6, rfl, R21, dx21, T21⟩ ?_ ?_
    · rintro i σ H22 hi3 ⟨x6, rfl, R22, dx22, T22⟩
      rw [Int.zero_add]
      refine ⟨_, rfl, _, rfl, _, rfl, _, rfl, sz_2, fun u1 hu1 => ?_⟩
      have M1 := Same.new (o := .tup [V.str "ref", V.int ((i : Nat) : Int)]) hu1
      have e1 : Dt K _ (.ref u1) (vlD (.ref i)) := Dt.made hu1 (.cons (.str _) (.cons (.int _) .nil))
      refine ⟨_, rfl, wordR [], _, _, hp, rows24 is es, _, _, x, .ref i, _, rfl, tabG_same T22 M1, listAt_mono R22 M1, dx22.mono M1, e1, mem i hi3, .inl ⟨_, rfl, rfl⟩, fun H23 S23 T23 => ⟨true, rfl, iteFb rfl ?_⟩⟩
      exact ⟨_, rfl, S23.list (listAt_mono R22 M1), S23.dt (dx22.mono M1), T23⟩
    rintro σ H22 ⟨x6', rfl, R22, dx22, T22⟩
    clear R21 dx21 T21
    refine ⟨fun σ H' => σ = [some (.ref a), some (.ref p), some (.str z1), some (.str z2), some (.ref il), some (.ref el), x6', x7, x8, some (.int lo), some (.int hi), some (.ref hp), some va, some (.bl (is.any fun v => sl v x)), x14, some (.bl (inside x lo hi))] ∧ Same H22 H', ?_, ?_⟩
    · obtain ⟨q, ws, rfl, hq, da⟩ := dvl dx22
      refine ⟨_, rfl, q, _, _, _, rfl, rfl, hq, at0, sz_2, fun u hu => ⟨u, _, rfl, .inr (SqT.of upd_same), rfl, rfl, _, rfl, ?_⟩⟩
      have M1 := Same.new (o := .tup [V.str "int", V.str "bool"]) hu
      generalize upd H22 u _ = H23 at M1
      rw [if_neg Bool.false_ne_true, d24_in x hx]
      cases hnx : numV x with
      | none =>
        have eI : inside x lo hi = false := by unfold inside; rw [hnx]
        exact iteFb rfl ⟨by rw [eI]; rfl, M1⟩
      | some i =>
        obtain ⟨v1, rfl, hv⟩ : ∃ v1, ws = [v1] ∧ NumI v1 i := by
          obtain ⟨e, ee, _, he⟩ := num_d hnx
          rw [ee] at da
          obtain ⟨v1, ws, rfl, dv, dw⟩ := da.cons_inv
          have := dw.nil_inv
          subst this
          rcases he with rfl | ⟨b, rfl, rfl⟩
          · exact ⟨v1, rfl, .inl dv.int_inv⟩
          · exact ⟨v1, rfl, .inr ⟨b, dv.bool_inv, rfl⟩⟩
        refine iteTb rfl ⟨_, rfl, _, rfl, q, _, _, _, rfl, rfl, Same.tupl M1 hq, at0, sz_2, fun u2 hu2 => ⟨u2, _, rfl, .inr (SqT.of upd_same), rfl, rfl, _, rfl, ?_⟩⟩
        have M2 := M1.trans (Same.new (o := .tup [V.str "int", V.str "bool"]) hu2)
        generalize upd H23 u2 _ = H24 at M2
        rw [if_neg Bool.false_ne_true, d24_in x hx, hnx]
        refine iteTb rfl ⟨_, rfl, q, _, _, _, rfl, rfl, Same.tupl M2 hq, at1, ?_⟩
        have eI : inside x lo hi = (decide (lo ≤ i) && decide (i < hi)) := by unfold inside; rw [hnx]
        rcases hv with rfl | ⟨b, rfl, hb⟩
        · refine .inl ⟨_, rfl, _, _, rfl, rfl, _, rfl, ite3 (fun c => ?_) fun c => ?_⟩
          · refine ⟨_, rfl, _, _, rfl, rfl, ?_⟩
            exact ⟨by rw [eI, c, Bool.true_and]; rfl, M2⟩
          · exact ⟨by rw [eI, c, Bool.false_and]; rfl, M2⟩
        · subst hb
          refine .inr ⟨_, rfl, _, _, rfl, rfl, _, rfl, ite3 (fun c => ?_) fun c => ?_⟩
          · refine ⟨_, rfl, _, _, rfl, rfl, ?_⟩
            exact ⟨by rw [eI, c, Bool.true_and]; rfl, M2⟩
          · exact ⟨by rw [eI, c, Bool.false_and]; rfl, M2⟩
    rintro _ H23 ⟨rfl, S23⟩
    have R23 := listAt_mono R22 S23
    have dx23 := dx22.mono S23
    have T23 := tabG_same T22 S23
    clear S23 R22 dx22 T22
    refine ⟨_, rfl, _, rfl, _, rfl, _, rfl, _, rfl, sz_3, fun u1 hu1 => ?_⟩
    have M1 := Same.new (o := .tup [V.str "span", V.int lo, V.int hi]) hu1
    have e1 : Dt K _ (.ref u1) (vlD (.span lo hi)) := Dt.made hu1 (.cons (.str _) (.cons (.int _) (.cons (.int _) .nil)))
    refine ⟨_, rfl, wordR [], _, _, hp, rows24 is es, _, _, x, .span lo hi, _, rfl, tabG_same T23 M1, listAt_mono R23 M1, dx23.mono M1, e1, mem_span, .inl ⟨_, rfl, rfl⟩, fun H24 S24 T24 => ⟨true, rfl, iteFb rfl ?_⟩⟩
    have R24 := S24.list (listAt_mono R23 M1)
    have dx24 := S24.dt (dx23.mono M1)
    clear M1 e1 S24 R23 dx23 T23
    -- keys
    refine ⟨_, rfl, _, rfl, wordR [], hp, rows24 is es, _, x, none, rfl, R24, dx24, .ok (d24_key _ hx), fun u2 H25 S25 d2 => ⟨sz_2, fun u3 hu3 => ⟨sz_2, fun u4 hu4 => ?_⟩⟩⟩
    have M3 := Same.new (o := .tup [V.str "bool", V.bl true]) hu3
    have M4 := Same.new (o := .tup [V.str "ok", V.ref u3]) hu4
    have M34 := M3.trans M4
    have d4 : Dt K _ (.ref u4) (ansD true) := Dt.made hu4 (.cons (.str _) (.cons (Dt.made hu3 (.cons (.str _) (.cons (.bl _) .nil))) .nil))
    refine ⟨_, _, ansD true, rfl, (d2.mono M34).dp, d4.dp, show_ans true, true, rfl, iteFb rfl ?_⟩
    have S26 := S25.trans M34
    have R26 := listAt_mono R24 S26
    have T26 := tabG_same T24 S26
    generalize upd _ u4 _ = H26 at R26 T26
    clear M3 M4 M34 d2 d4 S25 S26 R24 dx24 T24 hu3 hu4
    refine ⟨_, rfl, sz_2, fun u1 hu1 => ?_⟩
    have M1 := Same.new (o := .tup [V.str "ref", V.int 4]) hu1
    have e1 : Dt K _ (.ref u1) (vlD (.ref 4)) := Dt.made hu1 (.cons (.str _) (.cons (.int _) .nil))
    refine ⟨wordR [], hp, rows24 is es, _, .ref 4, some "tuple", rfl, listAt_mono R26 M1, e1, tup_bad is es, fun u2 H27 S27 d2 => ⟨sz_3, fun u3 hu3 => ?_⟩⟩
    have M3 := Same.new (o := .tup [V.str "raise", V.int 10, V.str "not a key: tuple"]) hu3
    have d3 : Dt K _ (.ref u3) (badD "tuple") := Dt.made hu3 (.cons (.str _) (.cons (.int _) (.cons (.str _) .nil)))
    refine ⟨_, _, badD "tuple", rfl, (d2.mono M3).dp, d3.dp, show_bad (by decide +kernel), true, rfl, iteFb rfl ?_⟩
    have S28 := (M1.trans S27).trans M3
    have R28 := listAt_mono R26 S28
    have T28 := tabG_same T26 S28
    generalize upd _ u3 _ = H28 at R28 T28
    clear M1 M3 e1 d2 d3 S27 S28 R26 T26 hu1 hu3
    refine ⟨_, rfl, _, rfl, sz_2, fun u1 hu1 => ⟨sz_2, fun u2 hu2 => ?_⟩⟩
    have M1 := Same.new (o := .tup [V.str "ref", V.int 3]) hu1
    have M2 := Same.new (o := .tup [V.str "ref", V.int 2]) hu2
    have e1 : Dt K _ (.ref u1) (vlD (.ref 3)) := (Dt.made hu1 (.cons (.str _) (.cons (.int _) .nil))).mono M2
    have e2 : Dt K _ (.ref u2) (vlD (.ref 2)) := Dt.made hu2 (.cons (.str _) (.cons (.int _) .nil))
    have M12 := M1.trans M2
    exact ⟨wordR [], _, _, hp, rows24 is es, _, _, .ref 3, .ref 2, _, rfl, tabG_same T28 M12, listAt_mono R28 M12, e1, e2, .dct (.ref 3) 2 es (some "list") rfl (fun e he => d24_key _ (ok.dom e he)) (Nat.le_trans ok.len (by omega)) (lst_bad is es), .inr ⟨rfl, rfl⟩, fun H' _ _ => k H'⟩
end

theorem walk_mk {l : PySem.W.OpenLaw} {w : World} {K : PySem.W.Frag} {h : Heap} {mg : Str → Option Value} {fa : Addr} (X : K.In h) (G : h.Ns mainGlobals mg) (hfa : mg "law" = some (.ref fa))
    (f0 : HasFn K "_law_cell" s_law_cell)
    (f1 : HasFn K "_law_digits" s_law_digits)
    (f2 : HasFn K "_law_draw" s_law_draw)
    (f3 : HasFn K "_law_text" s_law_text)
    (f4 : HasFn K "_law_plain" s_law_plain)
    (f5 : HasFn K "_law_plainly" s_law_plainly)
    (f6 : HasFn K "_answer" s_answer)
    (f7 : HasFn K "is_number" s_is_number)
    (f8 : HasFn K "object_kind" s_object_kind)
    (f9 : HasFn K "same_leaf" s_same_leaf)
    (f10 : HasFn K "_alike" s_alike)
    (f11 : HasFn K "equal" s_equal)
    (f12 : HasFn K "row_of" s_row_of)
    (f13 : HasFn K "_word" s_word)
    (f14 : HasFn K "kind_name" s_kind_name)
    (f15 : HasFn K "key_text" s_key_text)
    (f16 : HasFn K "is_key" s_is_key)
    (f17 : HasFn K "find_key" s_find_key)
    {c_T : Addr} (f18 : HasFnC K "_membership" s_membership c_T)
    (f19 : HasFn K "_opposite" s_opposite)
    (f20 : HasFn K "compare" s_compare)
    (f21 : HasFn K "_law_same" s_law_same)
    (f22 : HasFn K "_law_holds" s_law_holds)
    (f23 : HasFn K "_law_found" s_law_found)
    (f24 : HasFn K "law" s_law)
    (c0 : HasInt K "TYPE_ERROR" 10)
    (c1 : HasInt K "MOST_ENTRIES" 1000)
    (c2 : HasTup K "TOO_LARGE" [V.str "raise", V.int 15, V.str "too large"])
    (b_len : PySem.W.nsIn K mainGlobals "len" = some none)
    (b_int : PySem.W.nsIn K mainGlobals "int" = some none)
    (b_range : PySem.W.nsIn K mainGlobals "range" = some none)
    (b_list : PySem.W.nsIn K mainGlobals "list" = some none)
    (b_tuple : PySem.W.nsIn K mainGlobals "tuple" = some none)
    (b_str : PySem.W.nsIn K mainGlobals "str" = some none)
    (b_repr : PySem.W.nsIn K mainGlobals "repr" = some none)
    (b_reversed : PySem.W.nsIn K mainGlobals "reversed" = some none)
    (b_enumerate : PySem.W.nsIn K mainGlobals "enumerate" = some none)
    (b_any : PySem.W.nsIn K mainGlobals "any" = some none)
    (d_VALUE_KINDS : HasDct l.prog w K "VALUE_KINDS" (txtKV vks))
    (d_OBJECT_KINDS : HasDct l.prog w K "OBJECT_KINDS" (txtKV oks)) :
    ∃ fd : FuncData, (∀ (s : Shared) (v : Value), BindsTo s fd ⟨[v], []⟩ [("script", v)]) ∧ ∀ (TP : Addr) (base : Heap), K.In base → base.Ns mainGlobals mg → GxR.TabB base mg c_T TP → FnG l.prog w K mg base CX0 10 fa fd ["script"] (spLaw K TP) := by
  have T : Txt K mg := ⟨c0.g X G, c1.g X G, c2.g X G, PySem.W.mg_none_of X G b_len, PySem.W.mg_none_of X G b_int, PySem.W.mg_none_of X G b_range, PySem.W.mg_none_of X G b_list, PySem.W.mg_none_of X G b_tuple, PySem.W.mg_none_of X G b_str, PySem.W.mg_none_of X G b_repr, PySem.W.mg_none_of X G b_reversed, PySem.W.mg_none_of X G b_enumerate, PySem.W.mg_none_of X G b_any⟩
  refine law_useT (TT := fun TP base => GxR.TabB base mg c_T TP) f24 X G hfa (fun _ _ _ _ _ _ _ => rfl) fun TP base X' G' TB fd F => ?_
  have U_VALUE_KINDS : UseD l.prog w K mg "VALUE_KINDS" _ := d_VALUE_KINDS.g X G
  have U_OBJECT_KINDS : UseD l.prog w K mg "OBJECT_KINDS" _ := d_OBJECT_KINDS.g X G
  have U_law_cell := mk_use (P := l.prog) (w := w) (mg := mg) (base := base) f0 X G (fun _ _ _ _ _ _ us hl => match us, hl with | [_, _], _ => rfl) fun f fd F => ok_cell F T
  have U_law_digits := mk_use (P := l.prog) (w := w) (mg := mg) (base := base) f1 X G (fun _ _ _ _ _ _ us hl => match us, hl with | [_, _, _], _ => rfl) fun f fd F => ok_digits F T (Use.up U_law_cell (by omega))
  have U_law_draw := mk_use (P := l.prog) (w := w) (mg := mg) (base := base) f2 X G (fun _ _ _ _ _ _ us hl => match us, hl with | [_, _], _ => rfl) fun f fd F => ok_draw F T
  have U_law_text := mk_use (P := l.prog) (w := w) (mg := mg) (base := base) f3 X G (fun _ _ _ _ _ _ us hl => match us, hl with | [_], _ => rfl) fun f fd F => ok_text F T (Use.up U_law_draw (by omega))
  have U_law_plain := mk_use (P := l.prog) (w := w) (mg := mg) (base := base) f4 X G (fun _ _ _ _ _ _ us hl => match us, hl with | [_], _ => rfl) fun f fd F => ok_lplain F T (Use.up U_law_draw (by omega))
  have U_law_plainly := mk_use (P := l.prog) (w := w) (mg := mg) (base := base) f5 X G (fun _ _ _ _ _ _ us hl => match us, hl with | [_, _], _ => rfl) fun f fd F => ok_plainly F T
  have U_answer := mk_use (P := l.prog) (w := w) (mg := mg) (base := base) f6 X G (fun _ _ _ _ _ _ us hl => match us, hl with | [_], _ => rfl) fun f fd F => ok_answer F T
  have U_is_number := mk_use (P := l.prog) (w := w) (mg := mg) (base := base) f7 X G (fun _ _ _ _ _ _ us hl => match us, hl with | [_], _ => rfl) fun f fd F => ok_isnumV F T
  have U_object_kind := mk_use (P := l.prog) (w := w) (mg := mg) (base := base) f8 X G (fun _ _ _ _ _ _ us hl => match us, hl with | [_, _], _ => rfl) fun f fd F => ok_kind F T
  have U_same_leaf := mk_use (P := l.prog) (w := w) (mg := mg) (base := base) f9 X G (fun _ _ _ _ _ _ us hl => match us, hl with | [_, _], _ => rfl) fun f fd F => ok_sameleaf F T (Use.up U_is_number (by omega))
  have U_alike := mk_use (P := l.prog) (w := w) (mg := mg) (base := base) f10 X G (fun _ _ _ _ _ _ us hl => match us, hl with | [_, _, _, _], _ => rfl) fun f fd F => ok_alikeL F T (Use.up U_same_leaf (by omega))
  have U_equal := mk_use (P := l.prog) (w := w) (mg := mg) (base := base) f11 X G (fun _ _ _ _ _ _ us hl => match us, hl with | [_, _, _], _ => rfl) fun f fd F => ok_equalL F T (Use.up U_alike (by omega))
  have U_row_of := mk_use (P := l.prog) (w := w) (mg := mg) (base := base) f12 X G (fun _ _ _ _ _ _ us hl => match us, hl with | [_, _], _ => rfl) fun f fd F => ok_rowof F T
  have U_word := mk_use (P := l.prog) (w := w) (mg := mg) (base := base) f13 X G (fun _ _ _ _ _ _ us hl => match us, hl with | [_, _], _ => rfl) fun f fd F => ok_word F T (Use.up U_object_kind (by omega))
  have U_kind_name := mk_use (P := l.prog) (w := w) (mg := mg) (base := base) f14 X G (fun _ _ _ _ _ _ us hl => match us, hl with | [_, _], _ => rfl) fun f fd F => ok_kname F T U_VALUE_KINDS U_OBJECT_KINDS
  have U_key_text := mk_use (P := l.prog) (w := w) (mg := mg) (base := base) f15 X G (fun _ _ _ _ _ _ us hl => match us, hl with | [_, _], _ => rfl) fun f fd F => ok_keytext F T (Use.up U_word (by omega)) (Use.up U_kind_name (by omega))
  have U_is_key := mk_use (P := l.prog) (w := w) (mg := mg) (base := base) f16 X G (fun _ _ _ _ _ _ us hl => match us, hl with | [_, _], _ => rfl) fun f fd F => ok_iskey F T (Use.up U_key_text (by omega)) (Use.up U_answer (by omega))
  have U_find_key := mk_use (P := l.prog) (w := w) (mg := mg) (base := base) f17 X G (fun _ _ _ _ _ _ us hl => match us, hl with | [_, _, _], _ => rfl) fun f fd F => ok_findkey F T (Use.up U_key_text (by omega)) (Use.up U_same_leaf (by omega))
  have U_membership := mk_useC (P := l.prog) (w := w) (mg := mg) (base := base) f18 X G (fun _ _ _ _ _ _ us hl => match us, hl with | [_, _, _], _ => rfl) fun f fd F hc => ok_mem F hc TB T (Use.up U_answer (by omega)) (Use.up U_is_number (by omega)) (Use.up U_object_kind (by omega)) (Use.up U_equal (by omega)) (Use.up U_row_of (by omega)) (Use.up U_is_key (by omega)) (Use.up U_find_key (by omega))
  have U_opposite := mk_use (P := l.prog) (w := w) (mg := mg) (base := base) f19 X G (fun _ _ _ _ _ _ us hl => match us, hl with | [_], _ => rfl) fun f fd F => ok_opp F T (Use.up U_answer (by omega))
  have U_compare := mk_use (P := l.prog) (w := w) (mg := mg) (base := base) f20 X G (fun _ _ _ _ _ _ us hl => match us, hl with | [_, _, _, _], _ => rfl) fun f fd F => ok_cmp F T (Use.up U_membership (by omega)) (Use.up U_opposite (by omega))
  have U_law_same := mk_use (P := l.prog) (w := w) (mg := mg) (base := base) f21 X G (fun _ _ _ _ _ _ us hl => match us, hl with | [_, _], _ => rfl) fun f fd F => ok_same F T
  have U_law_holds := mk_use (P := l.prog) (w := w) (mg := mg) (base := base) f22 X G (fun _ _ _ _ _ _ us hl => match us, hl with | [_, _, _, _, _], _ => rfl) fun f fd F => ok_holds F T (Use.up U_compare (by omega)) (Use.up U_law_same (by omega))
  have U_law_found := mk_use (P := l.prog) (w := w) (mg := mg) (base := base) f23 X G (fun _ _ _ _ _ _ us hl => match us, hl with | [_, _], _ => rfl) fun f fd F => ok_found F T
  exact ok_law F T (Use.up U_law_digits (by omega)) (Use.up U_law_draw (by omega)) (Use.up U_law_text (by omega)) (Use.up U_law_plain (by omega)) (Use.up U_law_plainly (by omega)) (Use.up U_law_holds (by omega)) (Use.up U_law_found (by omega)) (Use.up U_law_same (by omega)) (Use.up U_is_key (by omega))
end K24
open PySem PySem.W PyProof.Rows
set_option maxRecDepth 100000 in
set_option maxHeartbeats 0 in
theorem PySem.Challenge.cw_pyhold_k24_membership_holds : PySem.Challenge.rw_pyhold_k24_membership.Holds := by
  w_on; o_law; k_head; (case hw => w_witness2)
  k_fill
  refine LK.walkGX (l := PySem.Challenge.rw_pyhold_k24_membership) (n := 63) (k := 10) (x := "script") (CX := L2.CX0) (sp := K24.spLaw) "_membership" rfl (by decide) rfl ⟨rfl, by decide, by decide⟩ (by kernel_rfl) (fun w h Y => PySem.W.kIn_of Y) ?F (fun K TP H a ns hl tg hS => ⟨a, ns, rfl, tg, hS, hl, fun _ => rfl⟩) (fun _ _ _ _ z => z)
  case F =>
    intro w mg fa h KX G hmg
    refine' ⟨?nt, _, K24.s_membership, ?fT, K24.walk_mk KX G hmg ?f0 ?f1 ?f2 ?f3 ?f4 ?f5 ?f6 ?f7 ?f8 ?f9 ?f10 ?f11 ?f12 ?f13 ?f14 ?f15 ?f16 ?f17 ?f18 ?f19 ?f20 ?f21 ?f22 ?f23 ?f24 ?c0 ?c1 ?c2 ?b_len ?b_int ?b_range ?b_list ?b_tuple ?b_str ?b_repr ?b_reversed ?b_enumerate ?b_any ?d_VALUE_KINDS ?d_OBJECT_KINDS⟩
    case nt => kernel_rfl
    case fT => refine' LK.HasFnC.mk' ?a ?b ?c ?d ?e; (case a => k_is); (case b => k_is); (case c => k_is); (case d => k_is); (case e => rfl)
    case f0 => refine' LK.HasFn.mk' ?a ?b ?c ?d; (case a => k_is); (case b => k_is); (case c => k_is); (case d => k_is)
    case f1 => refine' LK.HasFn.mk' ?a ?b ?c ?d; (case a => k_is); (case b => k_is); (case c => k_is); (case d => k_is)
    case f2 => refine' LK.HasFn.mk' ?a ?b ?c ?d; (case a => k_is); (case b => k_is); (case c => k_is); (case d => k_is)
    case f3 => refine' LK.HasFn.mk' ?a ?b ?c ?d; (case a => k_is); (case b => k_is); (case c => k_is); (case d => k_is)
    case f4 => refine' LK.HasFn.mk' ?a ?b ?c ?d; (case a => k_is); (case b => k_is); (case c => k_is); (case d => k_is)
    case f5 => refine' LK.HasFn.mk' ?a ?b ?c ?d; (case a => k_is); (case b => k_is); (case c => k_is); (case d => k_is)
    case f6 => refine' LK.HasFn.mk' ?a ?b ?c ?d; (case a => k_is); (case b => k_is); (case c => k_is); (case d => k_is)
    case f7 => refine' LK.HasFn.mk' ?a ?b ?c ?d; (case a => k_is); (case b => k_is); (case c => k_is); (case d => k_is)
    case f8 => refine' LK.HasFn.mk' ?a ?b ?c ?d; (case a => k_is); (case b => k_is); (case c => k_is); (case d => k_is)
    case f9 => refine' LK.HasFn.mk' ?a ?b ?c ?d; (case a => k_is); (case b => k_is); (case c => k_is); (case d => k_is)
    case f10 => refine' LK.HasFn.mk' ?a ?b ?c ?d; (case a => k_is); (case b => k_is); (case c => k_is); (case d => k_is)
    case f11 => refine' LK.HasFn.mk' ?a ?b ?c ?d; (case a => k_is); (case b => k_is); (case c => k_is); (case d => k_is)
    case f12 => refine' LK.HasFn.mk' ?a ?b ?c ?d; (case a => k_is); (case b => k_is); (case c => k_is); (case d => k_is)
    case f13 => refine' LK.HasFn.mk' ?a ?b ?c ?d; (case a => k_is); (case b => k_is); (case c => k_is); (case d => k_is)
    case f14 => refine' LK.HasFn.mk' ?a ?b ?c ?d; (case a => k_is); (case b => k_is); (case c => k_is); (case d => k_is)
    case f15 => refine' LK.HasFn.mk' ?a ?b ?c ?d; (case a => k_is); (case b => k_is); (case c => k_is); (case d => k_is)
    case f16 => refine' LK.HasFn.mk' ?a ?b ?c ?d; (case a => k_is); (case b => k_is); (case c => k_is); (case d => k_is)
    case f17 => refine' LK.HasFn.mk' ?a ?b ?c ?d; (case a => k_is); (case b => k_is); (case c => k_is); (case d => k_is)
    case f18 => refine' LK.HasFnC.mk' ?a ?b ?c ?d ?e; (case a => k_is); (case b => k_is); (case c => k_is); (case d => k_is); (case e => rfl)
    case f19 => refine' LK.HasFn.mk' ?a ?b ?c ?d; (case a => k_is); (case b => k_is); (case c => k_is); (case d => k_is)
    case f20 => refine' LK.HasFn.mk' ?a ?b ?c ?d; (case a => k_is); (case b => k_is); (case c => k_is); (case d => k_is)
    case f21 => refine' LK.HasFn.mk' ?a ?b ?c ?d; (case a => k_is); (case b => k_is); (case c => k_is); (case d => k_is)
    case f22 => refine' LK.HasFn.mk' ?a ?b ?c ?d; (case a => k_is); (case b => k_is); (case c => k_is); (case d => k_is)
    case f23 => refine' LK.HasFn.mk' ?a ?b ?c ?d; (case a => k_is); (case b => k_is); (case c => k_is); (case d => k_is)
    case f24 => refine' LK.HasFn.mk' ?a ?b ?c ?d; (case a => k_is); (case b => k_is); (case c => k_is); (case d => k_is)
    case c0 => refine' LK.HasInt.mk' ?a ?b; (case a => k_is); (case b => decide +kernel)
    case c1 => refine' LK.HasInt.mk' ?a ?b; (case a => k_is); (case b => decide +kernel)
    case c2 => refine' LK.HasTup.mk' ?a ?b ?c ?d; (case a => k_is); (case b => k_is); (case c => decide); (case d => repeat (first | exact .nil | refine .cons ⟨_, rfl⟩ ?_))
    case b_len => k_is
    case b_int => k_is
    case b_range => k_is
    case b_list => k_is
    case b_tuple => k_is
    case b_str => k_is
    case b_repr => k_is
    case b_reversed => k_is
    case b_enumerate => k_is
    case b_any => k_is
    case d_VALUE_KINDS => refine' LK.HasDct.mk' ?a ?b ?c ?d ?e; (case a => k_is); (case b => k_is); (case c => rfl); (case d => repeat (first | exact .nil | refine .cons rfl rfl rfl ?_)); (case e => decide +kernel)
    case d_OBJECT_KINDS => refine' LK.HasDct.mk' ?a ?b ?c ?d ?e; (case a => k_is); (case b => k_is); (case c => rfl); (case d => repeat (first | exact .nil | refine .cons rfl rfl rfl ?_)); (case e => decide +kernel)


