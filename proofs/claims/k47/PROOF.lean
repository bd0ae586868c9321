import PyProof.Rows.All
import Wide.All
import OpenK.AllK
import Wide.FinOn
import HandS.ForMost
import HandS.Wide
import HandS.WideMore
import HandS.TupAny
import HandS.TupLen
import HandS.Evl
import HandS.Codes
import PyProof.ReprLen
import PyProof.StrLawsRepr
import HandS.Walk
import HandS.Zip
import KE.GoesMore
import HandS.Style
import HandS.TupMul
import PyProof.StrOps2
import HandS.IsInst
import HandS.StrMore
import HandS.Dict
import HandS.Conv
import KE.KDictList
import HandS.Iter
import HandS.Rev
import HandS.RevTup
import KE.KRevIter
import HandS.FStr
import HandS.Replace
import HandS.ReplaceDef
import HandS.ReplaceLit
import HandS.ReplaceList
import HandS.MapJoin
import PySem.Challenge.RW_pyhold_k47_built_in_dicts
set_option Elab.async false
set_option linter.all false
set_option maxRecDepth 100000
set_option maxHeartbeats 4000000
/-! A layer of one's own over the hand layer: defs by name, data, the helpers that the laws share. -/
namespace LK
open PySem PySem.Spec PyProof.Rows L2

/-! ### a def's promise where nothing is being shown (repr asks who is) -/
structure FnG (P : Program) (w : World) (K : PySem.W.Frag) (mg : Str → Option Value) (base : Heap) (CX : CXT) (k : Nat) (f : Addr) (fd : FuncData) (ps : List Str) (sp : Sp) : Prop where
  len : ∀ vs H Q E, sp vs H Q E → vs.length = ps.length
  run : ∀ (A : Around) (outer : List Env) (s : Shared) (H : Hp) (args : Args) (us : List Value) (vs : List V) (Q : VK) (E : XK), Room k A → A.guards = some [] →
    Env0 P w K mg base A outer s H → BindsTo s fd args (ps.zip us) → Vals vs us → sp vs H Q E → codeAny (model P w) A (.call (.ref f) args) (CR CX outer P w H s Q E) s
section
variable {P : Program} {w : World} {K : PySem.W.Frag} {mg : Str → Option Value} {base : Heap} {CX : CXT}
theorem FnG.imp {k : Nat} {f : Addr} {fd : FuncData} {ps : List Str} {sp sp' : Sp} (F : FnG P w K mg base CX k f fd ps sp) (h : ∀ vs H Q E, sp' vs H Q E → sp vs H Q E) : FnG P w K mg base CX k f fd ps sp' where
  len := fun vs H Q E q => F.len vs H Q E (h vs H Q E q)
  run := fun A outer s H args us vs Q E hr hg he hb hv hs => F.run A outer s H args us vs Q E hr hg he hb hv (h vs H Q E hs)
/-- the rule for a def: its body as a term of rules, and the reading of that term -/
theorem okG {x qual : Str} {st : Stmt} {f : Addr} {fd : FuncData} {N ps : List Str} {k : Nat} {sp : Sp} (F : Fun K x qual st f fd) (S : FnScope N ps (defScope st)) (len : ∀ vs H Q E, sp vs H Q E → vs.length = ps.length)
    (body : ∀ (cdv : Value) (A : Around) (outer : List Env) (s : Shared) (H : Hp) (vs : List V) (Q : VK) (E : XK), Room k (A.deeper (envOfC qual (defScope st) s.heap.objs.size f cdv)) →
      (A.deeper (envOfC qual (defScope st) s.heap.objs.size f cdv)).guards = some [] → sp vs H Q E →
      ∃ t, PSs (cxOf CX P w K mg base N qual (defScope st) f cdv A outer s H E) (defBody st) t ∧ t { nx := fun _ H' => Q .non H', rt := Q } (start N vs) H) :
    FnG P w K mg base CX (k + 1) f fd ps sp := by
  obtain ⟨oc, od, kV, doc, pm, an, cdv, ct, osl, rfl, lk, hcd⟩ := F.ex
  refine ⟨len, fun A outer s H args us vs Q E hr hgd e0 hb r hsp => ?_⟩
  have inn : K.In s.heap := e0.mod.kin.keeps fun b o e => (e0.bs b o e).1
  refine codeAny_call_function hr.depth (inn _ _ lk) rfl S.co S.gen rfl (PySem.W.codeRec_of inn hcd) (hb _ _ _ _ ?_)
  refine wpAny_newFunctionEnv_cells S.kind (fun y hy => ?_) fun env he s1 made => ?_
  · obtain ⟨n, v⟩ := y
    exact (S.par n (List.of_mem_zip hy).1).elim .inl fun q => .inr ⟨q, PySem.W.cellsFrom_some _ _ _ (.inl q)⟩
  · subst he
    have lim : s.heap.NoLimit := e0.mod.nolimit.keeps fun b o e => (e0.bs b o e).1
    refine ⟨lim.keeps made.toInCall.keep, codeAny_func ?_⟩
    obtain ⟨t, ht, hq⟩ := body cdv A outer s H vs Q E (hr.deeper _) hgd hsp
    refine wpAny_mono (ht.run [] s1 (start N vs) H _ (inv_start S hr.hd e0 (len _ _ _ _ hsp) r made) hq) (fun fl s' hs => ?_) fun e s' hs => hs
    cases fl with
    | ret u => exact let ⟨v, _, H', J, rv, q⟩ := hs; ⟨v, H', J.os, J.bare, J.base, J.hok, rv, q⟩
    | next => exact let ⟨_, H', J, q⟩ := hs; ⟨V.non, H', J.os, J.bare, J.base, J.hok, rfl, q⟩
    | brk => exact let ⟨_, _, _, q⟩ := hs; q.elim
    | cont => exact let ⟨_, _, _, q⟩ := hs; q.elim
/-- .. whose body lets no exception out -/
theorem okG0 {x qual : Str} {st : Stmt} {f : Addr} {fd : FuncData} {N ps : List Str} {k : Nat} {sp : Sp} (F : Fun K x qual st f fd) (S : FnScope N ps (defScope st)) (len : ∀ vs H Q E, sp vs H Q E → vs.length = ps.length)
    (body : ∀ (cdv : Value) (A : Around) (outer : List Env) (s : Shared) (H : Hp) (vs : List V) (Q : VK) (E : XK), Room k (A.deeper (envOfC qual (defScope st) s.heap.objs.size f cdv)) →
      (A.deeper (envOfC qual (defScope st) s.heap.objs.size f cdv)).guards = some [] → sp vs H Q E →
      ∃ t, PSs (cxOf CX0 P w K mg base N qual (defScope st) f cdv A outer s H E).nox (defBody st) t ∧ t { nx := fun _ H' => Q .non H', rt := Q } (start N vs) H) :
    FnG P w K mg base CX0 (k + 1) f fd ps sp :=
  okG F S len fun cdv A outer s H vs Q E hr hg hs => let ⟨t, ht, q⟩ := body cdv A outer s H vs Q E hr hg hs; ⟨t, ht.nox, q⟩
end
section
variable {X : Cx} {CX : CXT} {k : Nat} {f : Addr} {fd : FuncData} {ps : List Str} {sp : Sp} {E : XK} {x : Str} {p pos : Pos} {e : Expr} {es : List Expr} {t : TA}
theorem run_fnG {pins : List (Addr × Obj)} {σ : L2.St} {H : Hp} {s : Shared} {Q : VK} {us : List Value} {vs : List V} (F : FnG X.prog X.w X.K X.mg X.base CX k f fd ps sp) (hr : Room k X.A) (hg : X.A.guards = some []) (hb : Binds X.K fd ps [])
    (hx : Passes CX X E) (I : Inv X pins σ H s) (r : Vals vs us) (h : sp vs H Q E) : wpAny (model X.prog X.w) X.A (call (.ref f) us) (EP X pins σ Q) X.xe s := by
  have hl : (us ++ []).length = ps.length := by rw [List.append_nil, ← r.length, F.len _ _ _ _ h]
  have hbs := hb s us I.kIn hl
  rw [List.append_nil] at hbs
  refine wpAny_call (codeAny_mono (F.run X.A X.stack s H ⟨us, []⟩ us vs Q E hr hg I.env0 hbs r h) fun res s' hq => ?_)
  match res, hq with
  | .error e, hq => exact hx pins σ H s e s' I hq
  | .ok (.ret u), hq => exact I.after hq
  | .ok .next, hq => exact hq.elim
  | .ok .brk, hq => exact hq.elim
  | .ok .cont, hq => exact hq.elim
end

/-! ### defs of the text, by name -/
/-- what the top has left of the def x, whose statement is st -/
def HasFn (K : PySem.W.Frag) (x : Str) (st : Stmt) : Prop := ∃ (f : Addr) (oc : Value) (od an : Option Addr) (kV doc pm cdv ct : Value) (osl : Array (Option Value)),
  PySem.W.nsIn K mainGlobals x = some (some (.ref f)) ∧ K.lookup f = some ⟨oc, od, .func (PySem.W.fnOf x x (defArgs st) (defBody st) (defScope st) .none kV doc pm an cdv ct), osl⟩ ∧
  PySem.W.codeIn K cdv x = true ∧ PySem.W.keepIn K (.ref f) = true
/-- the def x may be called: its promise sp, by level k -/
structure Use (P : Program) (w : World) (K : PySem.W.Frag) (mg : Str → Option Value) (base : Heap) (CX : CXT) (x : Str) (k : Nat) (ps : List Str) (sp : Sp) : Prop where
  ex : ∃ (f : Addr) (fd : FuncData), FnG P w K mg base CX k f fd ps sp ∧ mg x = some (.ref f) ∧ PySem.W.keepIn K (.ref f) = true ∧ Binds K fd ps []
section
variable {P : Program} {w : World} {K : PySem.W.Frag} {mg : Str → Option Value} {base h : Heap} {CX : CXT}
theorem mk_use {x : Str} {st : Stmt} {k : Nat} {ps : List Str} {sp : Sp} (F : HasFn K x st) (X : K.In h) (G : h.Ns mainGlobals mg)
    (hb : ∀ (kV doc pm : Value) (an : Option Addr) (cdv ct : Value) (us : List Value), us.length = ps.length → bindArgs (PySem.W.fnOf x x (defArgs st) (defBody st) (defScope st) .none kV doc pm an cdv ct) ⟨us, []⟩ = pure (ps.zip us))
    (ok : ∀ (f : Addr) (fd : FuncData), Fun K x x st f fd → FnG P w K mg base CX k f fd ps sp) : Use P w K mg base CX x k ps sp := by
  obtain ⟨f, oc, od, an, kV, doc, pm, cdv, ct, osl, e, l, c, kp⟩ := F
  have Fn := fun_mk (st := st) l c kp
  exact ⟨f, _, ok f _ Fn, PySem.W.mg_of X G e, kp, Fn.binds hb⟩
theorem Use.imp {x : Str} {k : Nat} {ps : List Str} {sp sp' : Sp} (U : Use P w K mg base CX x k ps sp) (h : ∀ vs H Q E, sp' vs H Q E → sp vs H Q E) : Use P w K mg base CX x k ps sp' := by
  obtain ⟨f, fd, ok, r⟩ := U.ex
  exact ⟨f, fd, ok.imp h, r⟩
end
section
variable {X : Cx} {CX : CXT} {E : XK} {k : Nat} {x : Str} {ps : List Str} {sp : Sp} {p pos : Pos} {e : Expr} {es : List Expr} {t : TA}
theorem pe_useX (U : Use X.prog X.w X.K X.mg X.base CX x k ps sp) (hx : Passes CX X E) (hr : Room k X.A) (gd : X.A.guards = some []) (hg : Gl X x) (ha : PA X (e :: es) t) (hdb : (x == ("__debug__" : Str)) = false := by decide)
    (he : starEach (e :: es) X.env = (false, eval e X.env) :: starEach es X.env := by rfl) (hpl : (backTo pos (starEach es X.env)).any (·.1) = false := by rfl) : PE X (.Call (.Name x p) (e :: es) [] pos) (fun σ H Q => t σ H fun vs H1 => sp vs H1 Q E) := by
  obtain ⟨f, fd, ok, hm, kp, hb⟩ := U.ex
  refine ⟨fun pins s σ H Q I h => wpAny_Call_Name_kw (ld_glob I hg hm ?_ hdb)⟩
  exact PySem.W.callWith_K (h₀ := X.base) I.ok.mod.kin kp (thn (ha.run pos pins s σ H _ I h) fun us s1 ⟨vs, H1, I1, r, q⟩ => ⟨I1.kIn, run_fnG ok hr gd hb hx I1 r q⟩) he hpl
def tUse (sp : Sp) (E : XK) (t : TA) : TE := fun σ H Q => t σ H fun vs H1 => sp vs H1 Q E
theorem pe_use (U : Use X.prog X.w X.K X.mg X.base CX0 x k ps sp) (hr : Room k X.A) (gd : X.A.guards = some []) (hg : Gl X x) (ha : PA X (e :: es) t) (hdb : (x == ("__debug__" : Str)) = false := by decide)
    (he : starEach (e :: es) X.env = (false, eval e X.env) :: starEach es X.env := by rfl) (hpl : (backTo pos (starEach es X.env)).any (·.1) = false := by rfl) : PE X (.Call (.Name x p) (e :: es) [] pos) (tUse sp E0 t) := pe_useX U pass0 hr gd hg ha hdb he hpl
theorem pe_use0 (U : Use X.prog X.w X.K X.mg X.base CX0 x k ps sp) (hr : Room k X.A) (gd : X.A.guards = some []) (hg : Gl X x) (hdb : (x == ("__debug__" : Str)) = false := by decide) : PE X (.Call (.Name x p) [] [] pos) (tUse sp E0 tNil) := by
  obtain ⟨f, fd, ok, hm, kp, hb⟩ := U.ex
  exact ⟨fun pins s σ H Q I h => wpAny_Call_Name_kw (ld_glob I hg hm (PySem.W.callWith_K0 I.kIn kp (run_fnG (us := []) ok hr gd hb pass0 I .nil h)) hdb)⟩
end

/-! ### what stays -/
theorem Same.new {H : Hp} {p : Addr} {o : HO} (h : H p = none) : Same H (upd H p o) := fun b u e => by
  rw [upd_ne (ne_of_none e h)]; exact e
theorem Same.rd {H H' : Hp} {a : Addr} {u : HO} (e : Same H H') (h : Rd H a u) : Rd H' a u := by
  rcases h with h | ⟨o, h⟩
  · exact .inl (e _ _ h)
  · exact .inr ⟨o, e _ _ h⟩
theorem Same.tupl {K : PySem.W.Frag} {H H' : Hp} {a : Addr} {xs : List V} (e : Same H H') (h : SqT K H a xs) : SqT K H' a xs := by
  rcases h with h | h
  · exact .inl (Same.rd e h)
  · exact .inr h
theorem SqT.mono {K : PySem.W.Frag} {H H' : Hp} {a : Addr} {xs : List V} (h : SqT K H a xs) (e : Same H H') : SqT K H' a xs := Same.tupl e h
theorem SqL.mono {K : PySem.W.Frag} {H H' : Hp} {a : Addr} {xs : List V} (h : SqL K H a xs) (e : Same H H') : SqL K H' a xs := e.seq h

/-! ### data: none, bools, ints, texts, tuples (and lists that stand still) -/
mutual
theorem Dp.mono {K : PySem.W.Frag} {H H' : Hp} (e : Same H H') : ∀ {v : V} {d : PyData}, Dp K H v d → Dp K H' v d
  | _, _, .non => .non
  | _, _, .bl b => .bl b
  | _, _, .int i => .int i
  | _, _, .str x => .str x
  | _, _, .lst h a => .lst (e.seq h) (DpAll.mono e a)
  | _, _, .tup h a => .tup (Same.tupl e h) (DpAll.mono e a)
theorem DpAll.mono {K : PySem.W.Frag} {H H' : Hp} (e : Same H H') : ∀ {vs : List V} {ds : List PyData}, DpAll K H vs ds → DpAll K H' vs ds
  | _, _, .nil => .nil
  | _, _, .cons h a => .cons (Dp.mono e h) (DpAll.mono e a)
end
/-- a tuple just made -/
theorem Dp.made {K : PySem.W.Frag} {H : Hp} {p : Addr} {xs : List V} {ds : List PyData} (hp : H p = none) (h : DpAll K H xs ds) : Dp K (upd H p (.tup xs)) (.ref p) (.tuple ds) :=
  .tup (SqT.of upd_same) (DpAll.mono (Same.new hp) h)
theorem DpAll.length {K : PySem.W.Frag} {H : Hp} : ∀ {vs : List V} {ds : List PyData}, DpAll K H vs ds → vs.length = ds.length
  | _, _, .nil => rfl
  | _, _, .cons _ t => by simp [DpAll.length t]
theorem DpAll.app {K : PySem.W.Frag} {H : Hp} : ∀ {vs ws : List V} {ds es : List PyData}, DpAll K H vs ds → DpAll K H ws es → DpAll K H (vs ++ ws) (ds ++ es)
  | _, _, _, _, .nil, t => t
  | _, _, _, _, .cons h a, t => .cons h (DpAll.app a t)

/-! ### repr of data -/
mutual
theorem Dp.noDict {K : PySem.W.Frag} {H : Hp} : ∀ {v : V} {d : PyData}, Dp K H v d → d.hasDict = false
  | _, _, .non => rfl
  | _, _, .bl _ => rfl
  | _, _, .int _ => rfl
  | _, _, .str _ => rfl
  | _, _, .lst _ a => by simp only [PyData.hasDict]; exact DpAll.noDict a
  | _, _, .tup _ a => by simp only [PyData.hasDict]; exact DpAll.noDict a
theorem DpAll.noDict {K : PySem.W.Frag} {H : Hp} : ∀ {vs : List V} {ds : List PyData}, DpAll K H vs ds → PyData.hasDictAll ds = false
  | _, _, .nil => rfl
  | _, _, .cons h a => by simp only [PyData.hasDictAll, Dp.noDict h, DpAll.noDict a, Bool.or_self]
end
/-- what repr asks of data -/
structure ShowOk (d : PyData) : Prop where
  ok : d.showable = true
  dp : d.depth ≤ 60
  sz : d.shown.length ≤ sizeLine
def rRepr (K : PySem.W.Frag) : List V → Hp → VK → Prop := fun xs H Q => ∃ v d, xs = [v] ∧ Dp K H v d ∧ ShowOk d ∧ Q (.str d.shown) H
section
variable {X : Cx}
theorem call_repr_data (hg : X.A.guards = some []) (hu : X.A.units + 64 < cLine) : CallR X (.builtin "repr") (rRepr X.K) := by
  intro pins s σ H xs us Q I r h
  obtain ⟨v, d, rfl, hd, ⟨hs, hdp, hsz⟩, q⟩ := h
  obtain ⟨u, rfl, rv⟩ := vals1 r
  obtain ⟨as, rr⟩ := Dp.reads I d v u hd rv
  have nd := Dp.noDict hd
  cases d with
  | none => cases rr; exact PySem.P.repr_of_none ⟨.str _, H, I.tok _, ⟨_, rfl⟩, q⟩
  | bool b => cases rr; exact PySem.P.repr_of_bool ⟨.str _, H, I.tok _, ⟨_, rfl⟩, by simpa [PyData.shown] using q⟩
  | int i => cases rr; exact PySem.P.repr_of_int (of_decide_eq_true (by simpa [PyData.showable] using hs)) ⟨.str _, H, I.tok _, ⟨_, rfl⟩, by simpa [PyData.shown] using q⟩
  | str x => cases rr; exact PySem.P.repr_of_str (hsz := by simpa [PyData.shown] using hsz) ⟨.str _, H, I.tok _, ⟨_, rfl⟩, by simpa [PyData.shown] using q⟩
  | list ds =>
    obtain ⟨a, rfl⟩ := PyProof.Rows.isRef_of_reads rr rfl
    exact repr_of_reads' rr hs (PyData.noDict_hsm nd) hg (by omega) (fun _ _ e => e) (fun h' u tk hk => ⟨.str _, H, I.kept hk, ⟨_, rfl⟩, q⟩) hsz
  | tuple ds =>
    obtain ⟨a, rfl⟩ := PyProof.Rows.isRef_of_reads rr rfl
    exact repr_of_reads' rr hs (PyData.noDict_hsm nd) hg (by omega) (fun _ _ e => e) (fun h' u tk hk => ⟨.str _, H, I.kept hk, ⟨_, rfl⟩, q⟩) hsz
  | dict kv => cases hd
end

/-! ### the law's own call -/
/-- the heap behind the top, seen with the script at a locked, or with nothing tracked -/
theorem law_callG {P : Program} {w : World} {K : PySem.W.Frag} {mg mb : Str → Option Value} {CX : CXT} {k : Nat} {fa a : Addr} {fd : FuncData} {x : Str} {sp : Sp} {s₁ : Shared} {vs : List Value} {ns : List Int}
    (inn : K.In s₁.heap) (hns : s₁.heap.Ns mainGlobals mg) (hb : s₁.heap.Ns builtinsNs mb) (hbb : ∀ x : Str, x ≠ "__name__" → mb x = bootBuiltins x) (hlim : s₁.heap.NoLimit) (hgens : s₁.gens = #[])
    (ha : s₁.heap.get? a = some { cls := .type "list", data := .seq vs.toArray }) (hi : IntsAre vs ns) (hl : ns.length ≤ sizeLine) (hr : Room k callerA)
    (F : ∀ base : Heap, K.In base → base.Ns mainGlobals mg → FnG P w K mg base CX k fa fd [x] sp) (hbind : ∀ (s : Shared) (u : Value), BindsTo s fd ⟨[u], []⟩ [(x, u)])
    (hsp : ∀ H : Hp, Only H → SqL K H a (ns.map V.int) → sp [.ref a] H (fun v _ => v = .bl true) fun _ _ _ => False)
    (hCX : ∀ H e s', CX [] H s₁ (fun _ _ _ => False) e s' → False) :
    codeAny (model P w) callerA (.call (.ref fa) ⟨[.ref a], []⟩) (fun r s' => r = .ok (.ret (.bool true)) ∧ OldK s₁.heap s'.heap ∧ s'.os = s₁.os ∧ AllBare s'.gens) s₁ := by
  have rv := vals_ints hi
  have run : ∀ H : Hp, Only H → SqL K H a (ns.map V.int) → HOk P w H s₁.heap → (∀ b u, H b = some u → b = a ∧ K.lookup a = none) →
      codeAny (model P w) callerA (.call (.ref fa) ⟨[.ref a], []⟩) (fun r s' => r = .ok (.ret (.bool true)) ∧ OldK s₁.heap s'.heap ∧ s'.os = s₁.os ∧ AllBare s'.gens) s₁ := by
    intro H only hS hok at_a
    -- what is no list stays in the base
    have free : ∀ {b : Addr} {o : Obj}, s₁.heap.get? b = some o → (∀ its n, o.data ≠ .seq its n) → H b = none := fun {b o} e hd => by
      cases q : H b with
      | none => rfl
      | some u =>
        obtain ⟨rfl, _⟩ := at_a b u q
        rw [ha] at e; cases e
        exact absurd rfl (hd _ _)
    have names : ∀ {b : Addr} {m : Str → Option Value}, s₁.heap.Ns b m → (hidT s₁.heap H).Ns b m := fun {b m} hn => by
      obtain ⟨o, es, ep, e, d, r⟩ := hn
      exact ⟨o, es, ep, hidT_get e (free e fun its n z => by rw [d] at z; cases z), d, r⟩
    have inb : K.In (hidT s₁.heap H) := fun b o e => by
      refine hidT_get (inn b o e) ?_
      cases q : H b with
      | none => rfl
      | some u =>
        obtain ⟨rfl, hk⟩ := at_a b u q
        rw [e] at hk; cases hk
    have md : Mod K mg (hidT s₁.heap H) := by
      obtain ⟨mc, h1, h2⟩ := hlim
      exact ⟨inb, names hns, ⟨mb, names hb, hbb⟩, ⟨mc, names h1, h2⟩⟩
    have none_in : ∀ b : Addr, b ∉ ([] : List Addr) := fun b z => nomatch z
    have e0 : Env0 P w K mg (hidT s₁.heap H) callerA [] s₁ H := ⟨rfl, md, fun b o e => of_hidT e, Nat.le_of_eq (hidT_size _ _), trivial, fun b z => absurd z (none_in b), hok, .of_eq hgens⟩
    refine codeAny_mono ((F _ inb (names hns)).run callerA [] s₁ H ⟨[.ref a], []⟩ [.ref a] [.ref a] _ _ hr rfl e0 (hbind s₁ (.ref a)) (.cons rfl .nil) (hsp H only hS)) fun r s' h => ?_
    match r, h with
    | .error e, h => exact (hCX H e s' h).elim
    | .ok .next, h => exact False.elim h
    | .ok .brk, h => exact False.elim h
    | .ok .cont, h => exact False.elim h
    | .ok (.ret u), h =>
      obtain ⟨v, H', os, bare, un, hok', r', q⟩ := h
      obtain rfl : v = V.bl true := q
      obtain rfl : u = Value.bool true := r'
      refine ⟨rfl, OldK.of_keep fun b o e => ?_, os, bare⟩
      cases q : H b with
      | none => exact un.keep b o e q (none_in b) (none_in b)
      | some u =>
        rcases only b with z | ⟨ob, xs, z⟩
        · rw [q] at z; cases z
        · have e1 : s₁.heap.get? b = some ob := (hok b _ z).1
          rw [e] at e1; cases e1
          exact (hok' b _ (un.frzs b o _ z)).1
  cases hk : K.lookup a with
  | some o =>
    have e := inn a o hk
    rw [ha] at e; cases e
    have sz : vs.toArray.size ≤ sizeLine := by rw [List.size_toArray, hi.length]; exact hl
    exact run (fun _ => none) (fun _ => .inl rfl) (.inr ⟨_, vs.toArray, _, hk, rfl, rfl, rfl, sz, by simpa using rv⟩) (fun b u z => nomatch (show (none : Option HO) = some u from z)) fun b u z => nomatch (show (none : Option HO) = some u from z)
  | none =>
    let u0 : HO := .frz { cls := .type "list", data := .seq vs.toArray } (.lst (ns.map V.int))
    have at1 : ∀ b u, upd (fun _ => none) a u0 b = some u → b = a ∧ u = u0 := fun b u z => by
      by_cases hb : b = a
      · subst hb; rw [upd_same] at z; exact ⟨rfl, (Option.some.inj z).symm⟩
      · rw [upd_ne hb] at z; cases z
    refine run (upd (fun _ => none) a u0) (fun b => ?_) (.inl (.inr ⟨_, upd_same⟩)) (fun b u z => ?_) fun b u z => ⟨(at1 b u z).1, hk⟩
    · by_cases hb : b = a
      · subst hb; exact .inr ⟨_, _, upd_same⟩
      · exact .inl (by rw [upd_ne hb])
    · obtain ⟨rfl, rfl⟩ := at1 b u z
      exact ⟨ha, by rw [List.length_map]; exact hl, vs, _, rv, ha⟩
theorem walkG {l : PySem.W.OpenLaw} {n k : Nat} {q : Program} {loose : List Str} {XP : (Str → Option Value) → Heap → Prop} {YP : World → Heap → Prop} {d : DefRec} {K : Params → PySem.W.Frag} {CX : CXT} {sp : PySem.W.Frag → Sp} {x : Str}
    (hn : l.most = some n) (hn2 : n ≤ sizeLine) (hdf : d.params.defaults = []) (hr : Room k callerA)
    (hY : ∀ (w : World) (h : Heap), YP w h → (K w.params).In h)
    (F : ∀ (w : World) (mg : Str → Option Value) (fa : Addr) (h : Heap), (K w.params).In h → h.Ns mainGlobals mg → mg d.name = some (.ref fa) →
      ∃ fd : FuncData, (∀ (s : Shared) (u : Value), BindsTo s fd ⟨[u], []⟩ [(x, u)]) ∧
        ∀ base : Heap, (K w.params).In base → base.Ns mainGlobals mg → FnG l.prog w (K w.params) mg base CX k fa fd [x] (sp (K w.params)))
    (hsp : ∀ (K : PySem.W.Frag) (H : Hp) (a : Addr) (ns : List Int), ns.length ≤ n → Only H → SqL K H a (ns.map V.int) → sp K [.ref a] H (fun v _ => v = .bl true) fun _ _ _ => False)
    (hCX : ∀ (H : Hp) (s : Shared) (e : Value) (s' : Shared), CX [] H s (fun _ _ _ => False) e s' → False) :
    PySem.W.WalkO q loose XP YP l.row.toRowW d [] (fun f vs => PySem.call f vs) :=
  Att.attach_call hn hdf fun w s₀ s₁ mg mb fa o pm cd doc a vs ns G Y ho hd hcd hmg hobj hints hlen hg =>
    let ⟨fd, hb, hF⟩ := F w mg fa _ (hY w _ Y) G.T.g hmg
    law_callG (hY w _ Y) G.T.g G.T.b G.T.builtins G.T.nolimit hg hobj hints (Nat.le_trans hlen hn2) hr hF hb (fun H hO hS => hsp (K w.params) H a ns hlen hO hS) fun H e s' => hCX H s₁ e s'
/-- from the top's facts: the law's def and its arguments -/
theorem law_use {P : Program} {w : World} {K : PySem.W.Frag} {mg : Str → Option Value} {h : Heap} {CX : CXT} {k : Nat} {fa : Addr} {st : Stmt} {x : Str} {sp : Sp} (L : HasFn K "law" st) (X : K.In h) (G : h.Ns mainGlobals mg) (hfa : mg "law" = some (.ref fa))
    (hb : ∀ (kV doc pm : Value) (an : Option Addr) (cdv ct v : Value), bindArgs (PySem.W.fnOf "law" "law" (defArgs st) (defBody st) (defScope st) .none kV doc pm an cdv ct) ⟨[v], []⟩ = pure [(x, v)])
    (ok : ∀ base : Heap, K.In base → base.Ns mainGlobals mg → ∀ fd, Fun K "law" "law" st fa fd → FnG P w K mg base CX k fa fd [x] sp) :
    ∃ fd : FuncData, (∀ (s : Shared) (v : Value), BindsTo s fd ⟨[v], []⟩ [(x, v)]) ∧ ∀ base : Heap, K.In base → base.Ns mainGlobals mg → FnG P w K mg base CX k fa fd [x] sp := by
  obtain ⟨f, oc, od, an, kV, doc, pm, cdv, ct, osl, e, l, c, kp⟩ := L
  have z := hfa.symm.trans (PySem.W.mg_of X G e)
  cases z
  have Fn := fun_mk (st := st) l c kp
  exact ⟨_, fun s v => .of_eq (hb ..), fun base h1 h2 => ok base h1 h2 _ Fn⟩

/-! ### tests whose answer is known -/
theorem iteFb {c : Bool} {A B : Prop} (h : c = false) (b : B) : if c = true then A else B := by rw [h]; exact iteF b
theorem iteTb {c : Bool} {A B : Prop} (h : c = true) (a : A) : if c = true then A else B := by rw [h]; exact iteT a
theorem ite3 {c : Bool} {A B : Prop} (h1 : c = true → A) (h2 : c = false → B) : if c = true then A else B := by
  cases c with
  | true => exact iteT (h1 rfl)
  | false => exact iteF (h2 rfl)

/-! ### constants of the top -/
def HasInt (K : PySem.W.Frag) (x : Str) (n : Int) : Prop := ∃ (t : Tok) (m : Int), PySem.W.nsIn K mainGlobals x = some (some (.int m t)) ∧ m = n
def KTup (K : PySem.W.Frag) (a : Addr) (xs : List V) : Prop := ∃ (od : Option Addr) (its : Array Value) (n : Nat) (sl : Array (Option Value)), K.lookup a = some ⟨.type "tuple", od, .seq its n, sl⟩ ∧ its.size ≤ sizeLine ∧ Vals xs its.toList
def HasTup (K : PySem.W.Frag) (x : Str) (xs : List V) : Prop := ∃ a, PySem.W.nsIn K mainGlobals x = some (some (.ref a)) ∧ KTup K a xs
theorem KTup.sq {K : PySem.W.Frag} {a : Addr} {xs : List V} (h : KTup K a xs) (H : Hp) : SqT K H a xs := by
  obtain ⟨od, its, n, sl, e, z, v⟩ := h
  exact .inr ⟨_, its, n, e, rfl, rfl, z, v⟩
/-- the module's names, as the defs see them -/
def GInt (mg : Str → Option Value) (x : Str) (n : Int) : Prop := ∃ t, mg x = some (.int n t)
def GTup (K : PySem.W.Frag) (mg : Str → Option Value) (x : Str) (xs : List V) : Prop := ∃ a, mg x = some (.ref a) ∧ KTup K a xs
theorem HasInt.g {K : PySem.W.Frag} {mg : Str → Option Value} {h : Heap} {x : Str} {n : Int} (i : HasInt K x n) (X : K.In h) (G : h.Ns mainGlobals mg) : GInt mg x n := by
  obtain ⟨t, m, e, rfl⟩ := i
  exact ⟨t, PySem.W.mg_of X G e⟩
theorem HasTup.g {K : PySem.W.Frag} {mg : Str → Option Value} {h : Heap} {x : Str} {xs : List V} (i : HasTup K x xs) (X : K.In h) (G : h.Ns mainGlobals mg) : GTup K mg x xs := by
  obtain ⟨a, e, k⟩ := i
  exact ⟨a, PySem.W.mg_of X G e, k⟩
section
variable {X : Cx} {x : Str} {pos : Pos}
theorem pe_globI {n : Int} (h : GInt X.mg x n) (hg : Gl X x) (hd : (x == ("__debug__" : Str)) = false := by decide) : PE X (.Name x pos) (tC (.int n)) := by
  obtain ⟨t, e⟩ := h
  exact pe_glob hg e ⟨t, rfl⟩ hd
/-- a tuple of the top: it is read as xs, wherever it stands -/
def tGT (K : PySem.W.Frag) (xs : List V) : TE := fun _ H Q => ∀ a, KTup K a xs → Q (.ref a) H
theorem pe_globT {xs : List V} (h : GTup X.K X.mg x xs) (hg : Gl X x) (hd : (x == ("__debug__" : Str)) = false := by decide) : PE X (.Name x pos) (tGT X.K xs) := by
  obtain ⟨a, e, k⟩ := h
  exact ⟨fun pins s σ H Q I q => (pe_glob (v := .ref a) hg e rfl hd).run pins s σ H Q I (q a k)⟩
end

/-! ### // by any divisor but 0 -/
def CDivX (_ j : Int) : Prop := j ≠ 0 ∧ j.natAbs.log2 < 9000
theorem op_fdivX {X : Cx} : OpR X (binaryOp .FloorDiv) (rI CDivX fun i j => .int (i.fdiv j)) := opI fun _ _ _ _ _ _ _ hc q => floordiv_int hc.1 q (.inl (PyProof.noPylong_of_log2 hc.2))
theorem fdiv_le_pos (i : Int) {j : Int} (hj : 0 < j) : (i.fdiv j).natAbs ≤ i.natAbs + 1 := by
  have e := Int.mul_fdiv_add_fmod i j
  have h0 := Int.fmod_nonneg_of_pos i hj
  have h1 := Int.fmod_lt_of_pos i hj
  have a : (i.fdiv j).natAbs ≤ (j * i.fdiv j).natAbs := by
    rw [Int.natAbs_mul]; exact Nat.le_mul_of_pos_left _ (by omega)
  by_cases hi : 0 ≤ i
  · have : 0 ≤ i.fdiv j := Int.fdiv_nonneg hi (by omega)
    have : 0 ≤ j * i.fdiv j := Int.mul_nonneg (by omega) this
    omega
  · have q : i.fdiv j ≤ -1 := by
      by_cases z : 0 ≤ i.fdiv j
      · have := Int.mul_nonneg (show 0 ≤ j by omega) z
        omega
      · omega
    have r : -1 + i ≤ i.fdiv j := by
      have : i.fdiv j * (j - 1) ≤ (-1) * (j - 1) := Int.mul_le_mul_of_nonneg_right q (by omega)
      have e2 : j * i.fdiv j = i.fdiv j * (j - 1) + i.fdiv j := by rw [Int.mul_sub, Int.mul_one, Int.mul_comm]; omega
      omega
    omega
theorem fdiv_le (i j : Int) : (i.fdiv j).natAbs ≤ i.natAbs + 1 := by
  by_cases h : 0 < j
  · exact fdiv_le_pos i h
  · by_cases h2 : j = 0
    · subst h2; rw [Int.fdiv_zero]; omega
    · have e : i.fdiv j = (-i).fdiv (-j) := by rw [Int.neg_fdiv_neg]
      have := fdiv_le_pos (-i) (show 0 < -j by omega)
      rw [e]; omega

/-! ### how long a shown thing is at most -/
structure Sm (d : PyData) (dp N : Nat) : Prop where
  ok : d.showable = true
  dp : d.depth ≤ dp
  sz : d.shown.length ≤ N
structure SmAll (ds : List PyData) (dp n N : Nat) : Prop where
  ok : PyData.showableAll ds = true
  dp : PyData.depthAll ds ≤ dp
  len : ds.length ≤ n
  sz : ((PyData.shownAll ds).map (·.length)).sum ≤ N
theorem Sm.show {d : PyData} {dp N : Nat} (h : Sm d dp N) (h1 : dp ≤ 60) (h2 : N ≤ sizeLine) : ShowOk d := ⟨h.ok, Nat.le_trans h.dp h1, Nat.le_trans h.sz h2⟩
theorem Sm.mono {d : PyData} {dp N dp' N' : Nat} (h : Sm d dp N) (h1 : dp ≤ dp') (h2 : N ≤ N') : Sm d dp' N' := ⟨h.ok, Nat.le_trans h.dp h1, Nat.le_trans h.sz h2⟩
theorem shownAll_length : ∀ ds : List PyData, (PyData.shownAll ds).length = ds.length
  | [] => rfl
  | d :: ds => by simp [PyData.shownAll, shownAll_length ds]
theorem Sm.int {i : Int} (h : i.natAbs < 2 ^ 1900) : Sm (.int i) 0 2000 := by
  have hl : i.natAbs.log2 < 1900 := PySem.Flt.log2_lt_of (by decide) h
  refine ⟨?_, Nat.le_refl 0, ?_⟩
  · simp only [PyData.showable, decide_eq_true_eq]; omega
  · have e := int_text_length_le (k := 1900) (by decide) hl
    show (Str.ofString (toString i)).length ≤ 2000
    rw [PySem.ofString_length]; omega
theorem Sm.bool (b : Bool) : Sm (.bool b) 0 10 := ⟨rfl, Nat.le_refl 0, by cases b <;> decide +kernel⟩
theorem Sm.none : Sm .none 0 10 := ⟨rfl, Nat.le_refl 0, by decide +kernel⟩
theorem Sm.str {x : Str} {n : Nat} (h : x.length ≤ n) (hc : ∀ c ∈ x.cps.toList, c < 16 ^ 8) : Sm (.str x) 0 (10 * n + 2) := ⟨rfl, Nat.le_refl 0, by
  have e := PySem.StrLaws.reprText_len x hc
  show (reprText x).length ≤ _
  omega⟩
theorem SmAll.nil : SmAll [] 0 0 0 := ⟨rfl, Nat.le_refl 0, Nat.le_refl 0, Nat.le_refl 0⟩
theorem SmAll.cons {d : PyData} {ds : List PyData} {dp dp' n N M : Nat} (h : Sm d dp N) (t : SmAll ds dp' n M) : SmAll (d :: ds) (max dp dp') (n + 1) (N + M) := by
  have h1 := h.dp
  have h2 := t.dp
  refine ⟨by simp [PyData.showableAll, h.ok, t.ok], ?_, by have := t.len; simp; omega, ?_⟩
  · simp only [PyData.depthAll]; omega
  · have := h.sz
    have := t.sz
    simp only [PyData.shownAll, List.map_cons, List.sum_cons]; omega
theorem Sm.tup {ds : List PyData} {dp n N : Nat} (h : SmAll ds dp n N) : Sm (.tuple ds) (dp + 1) (N + 2 * n + 3) := by
  refine ⟨by simpa [PyData.showable] using h.ok, by simp only [PyData.depth]; have := h.dp; omega, ?_⟩
  have e := tupleText_len_le (PyData.shownAll ds)
  have := h.sz
  have := h.len
  rw [shownAll_length] at e
  show (tupleText (PyData.shownAll ds)).length ≤ _
  omega
theorem Sm.lst {ds : List PyData} {dp n N : Nat} (h : SmAll ds dp n N) : Sm (.list ds) (dp + 1) (N + 2 * n + 3) := by
  refine ⟨by simpa [PyData.showable] using h.ok, by simp only [PyData.depth]; have := h.dp; omega, ?_⟩
  have e := listText_len_le (PyData.shownAll ds)
  have := h.sz
  have := h.len
  rw [shownAll_length] at e
  show (listText (PyData.shownAll ds)).length ≤ _
  omega
theorem SmAll.many {dp N : Nat} : ∀ {ds : List PyData}, (∀ d ∈ ds, Sm d dp N) → SmAll ds dp ds.length (N * ds.length)
  | [], _ => ⟨rfl, Nat.zero_le _, Nat.le_refl 0, Nat.zero_le _⟩
  | d :: ds, h => by
    have t := SmAll.cons (h d (by simp)) (SmAll.many (fun e he => h e (List.mem_cons_of_mem _ he)))
    rw [Nat.max_self] at t
    refine ⟨t.ok, t.dp, t.len, Nat.le_trans t.sz ?_⟩
    rw [List.length_cons, Nat.mul_succ]; omega
theorem sz_0 : (0 : Nat) ≤ sizeLine := by decide
theorem sz_1 : (1 : Nat) ≤ sizeLine := by decide
theorem sz_2 : (2 : Nat) ≤ sizeLine := by decide
theorem sz_3 : (3 : Nat) ≤ sizeLine := by decide
theorem sz_4 : (4 : Nat) ≤ sizeLine := by decide
theorem sz_5 : (5 : Nat) ≤ sizeLine := by decide
/-! ### the ends: each premise a fact that k_is finds -/
theorem HasFn.mk' {K : PySem.W.Frag} {x : Str} {st : Stmt} {f : Addr} {oc : Value} {od an : Option Addr} {kV doc pm cdv ct : Value} {osl : Array (Option Value)} (a : PySem.W.nsIn K mainGlobals x = some (some (.ref f)))
    (b : K.lookup f = some ⟨oc, od, .func (PySem.W.fnOf x x (defArgs st) (defBody st) (defScope st) .none kV doc pm an cdv ct), osl⟩) (c : PySem.W.codeIn K cdv x = true) (d : PySem.W.keepIn K (.ref f) = true) : HasFn K x st :=
  ⟨f, oc, od, an, kV, doc, pm, cdv, ct, osl, a, b, c, d⟩
theorem HasInt.mk' {K : PySem.W.Frag} {x : Str} {n m : Int} {t : Tok} (a : PySem.W.nsIn K mainGlobals x = some (some (.int m t))) (e : m = n) : HasInt K x n := ⟨t, m, a, e⟩
theorem HasTup.mk' {K : PySem.W.Frag} {x : Str} {xs : List V} {a : Addr} {od : Option Addr} {its : Array Value} {n : Nat} {sl : Array (Option Value)} (h : PySem.W.nsIn K mainGlobals x = some (some (.ref a)))
    (b : K.lookup a = some ⟨.type "tuple", od, .seq its n, sl⟩) (z : its.size ≤ sizeLine) (v : Vals xs its.toList) : HasTup K x xs := ⟨a, h, od, its, n, sl, b, z, v⟩
/-! ### what the laws' helpers promise -/
/-! the digits and the place -/
def BoxAt (H : Hp) (p dl : Addr) : Prop := ∃ (ds : List Int) (k : Int), H p = some (.lst [.ref dl, .int k]) ∧ 0 ≤ k ∧ H dl = some (.lst (ds.map V.int)) ∧ ds.length ≤ 4000 ∧ ∀ d ∈ ds, 0 ≤ d ∧ d < 1000
theorem BoxAt.at_ {H : Hp} {p dl : Addr} (h : BoxAt H p dl) : ∃ xs, H p = some (.lst xs) := let ⟨_, _, a, _⟩ := h; ⟨_, a⟩
theorem BoxAt.dg {H : Hp} {p dl : Addr} (h : BoxAt H p dl) : ∃ xs, H dl = some (.lst xs) := let ⟨_, _, _, _, c, _⟩ := h; ⟨_, c⟩
def Keep (p : Addr) (H H' : Hp) : Prop := ∀ b o, H b = some o → b ≠ p → H' b = some o
def spDraw (K : PySem.W.Frag) : Sp := fun vs H Q _ => ∃ (p dl : Addr) (m : Int), vs = [.ref p, .int m] ∧ BoxAt H p dl ∧ 0 < m ∧ ∀ r H', 0 ≤ r → r < m → BoxAt H' p dl → Keep p H H' → Q (.int r) H'
def spCell (K : PySem.W.Frag) : Sp := fun vs H Q _ => ∃ (a : Addr) (ns : List Int) (i : Int), vs = [.ref a, .int i] ∧ SqL K H a (ns.map V.int) ∧ 0 ≤ i ∧ ∀ r, Q (.int r) H
def DigAt (H0 H : Hp) (dl : Addr) (n : Nat) : Prop := ∃ ds : List Int, H dl = some (.lst (ds.map V.int)) ∧ ds.length ≤ n ∧ (∀ d ∈ ds, 0 ≤ d ∧ d < 1000) ∧ Same H0 H
theorem DigAt.mono {H0 H : Hp} {dl : Addr} {n m : Nat} (h : DigAt H0 H dl n) (l : n ≤ m) : DigAt H0 H dl m := let ⟨ds, a, b, c, d⟩ := h; ⟨ds, a, by omega, c, d⟩
theorem DigAt.add {H0 H : Hp} {dl : Addr} {n : Nat} {r : Int} {xs : List V} (h : DigAt H0 H dl n) (hx : H dl = some (.lst xs)) (nd : H0 dl = none) (h0 : 0 ≤ r) (h1 : r < 1000) : DigAt H0 (upd H dl (.lst (xs ++ [.int r]))) dl (n + 1) := by
  obtain ⟨ds, a, b, c, d⟩ := h
  rw [hx] at a
  obtain rfl := HO.lst.inj (Option.some.inj a)
  refine ⟨ds ++ [r], by rw [upd_same, List.map_append]; rfl, by simp; omega, fun z hz => ?_, fun q o e => by rw [upd_ne (ne_of_none e nd)]; exact d q o e⟩
  rcases List.mem_append.mp hz with hz | hz
  · exact c z hz
  · have : z = r := by simpa using hz
    omega
def spDigits (K : PySem.W.Frag) : Sp := fun vs H Q _ => ∃ (a : Addr) (ns : List Int) (lo hi : Nat), vs = [.ref a, .int lo, .int hi] ∧ SqL K H a (ns.map V.int) ∧ lo ≤ hi ∧ hi ≤ 64 ∧
  ∀ (p : Addr) (H' : Hp), H p = none → DigAt H H' p 4000 → Q (.ref p) H'
def spBound : Sp := fun vs H Q _ => vs = [] ∧ Q (.int (2 ^ 256)) H
theorem Keep.trans {p : Addr} {H H1 H2 : Hp} (a : Keep p H H1) (b : Keep p H1 H2) : Keep p H H2 := fun c o h ne => b c o (a c o h ne) ne
theorem Keep.refl (p : Addr) (H : Hp) : Keep p H H := fun _ _ h _ => h
def Sgn (z : Int) : Prop := z = 1 ∨ z = -1
theorem Sgn.mul {z n : Int} (h : Sgn z) : (z * n).natAbs = n.natAbs := by
  rcases h with rfl | rfl <;> omega
theorem Sgn.wide {z n : Int} (h : Sgn z) (hn : n.natAbs < 2 ^ 300) : CMulW z n := wide_mul (a := 2) (b := 300) (by rcases h with rfl | rfl <;> decide) hn (by decide) (by decide) (by decide)
def spNumber (K : PySem.W.Frag) : Sp := fun vs H Q _ => ∃ (p dl : Addr), vs = [.ref p] ∧ BoxAt H p dl ∧ ∀ (n : Int) H', n.natAbs < 2 ^ 260 → BoxAt H' p dl → Keep p H H' → Q (.int n) H'
def spSame (K : PySem.W.Frag) : Sp := fun vs H Q _ => ∃ (x y : V) (d : PyData), vs = [x, y] ∧ Dp K H x d ∧ Dp K H y d ∧ ShowOk d ∧ Q (.bl true) H
theorem Same.keep {p : Addr} {H H' : Hp} (e : Same H H') : Keep p H H' := fun b o h _ => e b o h
theorem BoxAt.same {p dl : Addr} {H H' : Hp} (h : BoxAt H p dl) (e : Same H H') : BoxAt H' p dl := by
  obtain ⟨ds, k, a, b, c, d⟩ := h
  exact ⟨ds, k, e _ _ a, b, e _ _ c, d⟩
theorem BoxAt.upd {p dl l : Addr} {H : Hp} {o : HO} (h : BoxAt H p dl) (h1 : l ≠ p) (h2 : l ≠ dl) : BoxAt (L2.upd H l o) p dl := by
  obtain ⟨ds, k, a, b, c, d⟩ := h
  exact ⟨ds, k, by rw [upd_ne (Ne.symm h1)]; exact a, b, by rw [upd_ne (Ne.symm h2)]; exact c, d⟩
theorem strOk (s : Str) (h : s.cps.toList.all (fun c => decide (c < 16 ^ 8)) = true) : ∀ c ∈ s.cps.toList, c < 16 ^ 8 := fun c hc => of_decide_eq_true (List.all_eq_true.mp h c hc)

/-! ### data without lists: what no change of a list can reach -/
mutual
inductive Dt (K : PySem.W.Frag) (H : Hp) : V → PyData → Prop
  | non : Dt K H .non .none
  | bl (b : Bool) : Dt K H (.bl b) (.bool b)
  | int (i : Int) : Dt K H (.int i) (.int i)
  | str (x : Str) : Dt K H (.str x) (.str x)
  | tup {a : Addr} {xs : List V} {ds : List PyData} : SqT K H a xs → DtAll K H xs ds → Dt K H (.ref a) (.tuple ds)
inductive DtAll (K : PySem.W.Frag) (H : Hp) : List V → List PyData → Prop
  | nil : DtAll K H [] []
  | cons {v : V} {vs : List V} {d : PyData} {ds : List PyData} : Dt K H v d → DtAll K H vs ds → DtAll K H (v :: vs) (d :: ds)
end
mutual
theorem Dt.dp {K : PySem.W.Frag} {H : Hp} : ∀ {v : V} {d : PyData}, Dt K H v d → Dp K H v d
  | _, _, .non => .non
  | _, _, .bl b => .bl b
  | _, _, .int i => .int i
  | _, _, .str x => .str x
  | _, _, .tup h a => .tup h (DtAll.dp a)
theorem DtAll.dp {K : PySem.W.Frag} {H : Hp} : ∀ {vs : List V} {ds : List PyData}, DtAll K H vs ds → DpAll K H vs ds
  | _, _, .nil => .nil
  | _, _, .cons h a => .cons (Dt.dp h) (DtAll.dp a)
end
/-- every tuple that H reads H' reads as well -/
def KeepT (K : PySem.W.Frag) (H H' : Hp) : Prop := ∀ a xs, SqT K H a xs → SqT K H' a xs
mutual
theorem Dt.keepT {K : PySem.W.Frag} {H H' : Hp} (e : KeepT K H H') : ∀ {v : V} {d : PyData}, Dt K H v d → Dt K H' v d
  | _, _, .non => .non
  | _, _, .bl b => .bl b
  | _, _, .int i => .int i
  | _, _, .str x => .str x
  | _, _, .tup h a => .tup (e _ _ h) (DtAll.keepT e a)
theorem DtAll.keepT {K : PySem.W.Frag} {H H' : Hp} (e : KeepT K H H') : ∀ {vs : List V} {ds : List PyData}, DtAll K H vs ds → DtAll K H' vs ds
  | _, _, .nil => .nil
  | _, _, .cons h a => .cons (Dt.keepT e h) (DtAll.keepT e a)
end
theorem KeepT.refl (K : PySem.W.Frag) (H : Hp) : KeepT K H H := fun _ _ h => h
theorem KeepT.trans {K : PySem.W.Frag} {H H1 H2 : Hp} (a : KeepT K H H1) (b : KeepT K H1 H2) : KeepT K H H2 := fun c xs h => b c xs (a c xs h)
theorem Same.keepT {K : PySem.W.Frag} {H H' : Hp} (e : Same H H') : KeepT K H H' := fun _ _ h => Same.tupl e h
theorem Keep.keepT {K : PySem.W.Frag} {p : Addr} {H H' : Hp} (e : Keep p H H') (hp : ∃ xs, H p = some (.lst xs)) : KeepT K H H' := fun a xs h => by
  obtain ⟨ys, hp⟩ := hp
  rcases h with (h | ⟨o, h⟩) | h
  · exact .inl (.inl (e _ _ h (ne_of h hp (by intro z; cases z))))
  · exact .inl (.inr ⟨o, e _ _ h (ne_of h hp (by intro z; cases z))⟩)
  · exact .inr h
theorem KeepT.upd {K : PySem.W.Frag} {p : Addr} {H : Hp} {o : HO} {xs : List V} (hp : H p = some (.lst xs)) : KeepT K H (upd H p o) :=
  Keep.keepT (p := p) (fun b u e hb => by rw [upd_ne hb]; exact e) ⟨xs, hp⟩
theorem Dt.mono {K : PySem.W.Frag} {H H' : Hp} {v : V} {d : PyData} (e : Same H H') (h : Dt K H v d) : Dt K H' v d := h.keepT (Same.keepT e)
theorem DtAll.mono {K : PySem.W.Frag} {H H' : Hp} {v : List V} {d : List PyData} (e : Same H H') (h : DtAll K H v d) : DtAll K H' v d := h.keepT (Same.keepT e)
theorem Dt.made {K : PySem.W.Frag} {H : Hp} {p : Addr} {xs : List V} {ds : List PyData} (hp : H p = none) (h : DtAll K H xs ds) : Dt K (L2.upd H p (.tup xs)) (.ref p) (.tuple ds) := .tup (SqT.of upd_same) (DtAll.mono (Same.new hp) h)
theorem DtAll.length {K : PySem.W.Frag} {H : Hp} {vs : List V} {ds : List PyData} (h : DtAll K H vs ds) : vs.length = ds.length := LK.DpAll.length h.dp
theorem DtAll.app {K : PySem.W.Frag} {H : Hp} : ∀ {vs ws : List V} {ds es : List PyData}, DtAll K H vs ds → DtAll K H ws es → DtAll K H (vs ++ ws) (ds ++ es)
  | _, _, _, _, .nil, t => t
  | _, _, _, _, .cons h a, t => .cons h (DtAll.app a t)
theorem DtAll.get {K : PySem.W.Frag} {H : Hp} : ∀ {vs : List V} {ds : List PyData} {i : Nat} {d : PyData}, DtAll K H vs ds → ds[i]? = some d → ∃ v, vs[i]? = some v ∧ Dt K H v d
  | _, _, 0, _, .cons h _, e => ⟨_, rfl, Option.some.inj e ▸ h⟩
  | _, _, i + 1, _, .cons _ a, e => DtAll.get (i := i) a e
theorem DtAll.getV {K : PySem.W.Frag} {H : Hp} : ∀ {vs : List V} {ds : List PyData} {i : Nat} {v : V}, DtAll K H vs ds → vs[i]? = some v → ∃ d, ds[i]? = some d ∧ Dt K H v d
  | _, _, 0, _, .cons h _, e => ⟨_, rfl, Option.some.inj e ▸ h⟩
  | _, _, i + 1, _, .cons _ a, e => DtAll.getV (i := i) a e
theorem Dt.tuple_inv {K : PySem.W.Frag} {H : Hp} {v : V} {ds : List PyData} (h : Dt K H v (.tuple ds)) : ∃ a xs, v = .ref a ∧ SqT K H a xs ∧ DtAll K H xs ds := by
  cases h with
  | tup h a => exact ⟨_, _, rfl, h, a⟩
theorem DtAll.cons_inv {K : PySem.W.Frag} {H : Hp} {vs : List V} {d : PyData} {ds : List PyData} (h : DtAll K H vs (d :: ds)) : ∃ v ws, vs = v :: ws ∧ Dt K H v d ∧ DtAll K H ws ds := by
  cases h with
  | cons h a => exact ⟨_, _, rfl, h, a⟩
theorem DtAll.nil_inv {K : PySem.W.Frag} {H : Hp} {vs : List V} (h : DtAll K H vs []) : vs = [] := by cases h; rfl
theorem Dt.int_inv {K : PySem.W.Frag} {H : Hp} {v : V} {i : Int} (h : Dt K H v (.int i)) : v = .int i := by cases h; rfl
theorem Dt.str_inv {K : PySem.W.Frag} {H : Hp} {v : V} {x : Str} (h : Dt K H v (.str x)) : v = .str x := by cases h; rfl
theorem Dt.bool_inv {K : PySem.W.Frag} {H : Hp} {v : V} {b : Bool} (h : Dt K H v (.bool b)) : v = .bl b := by cases h; rfl
theorem dtStrs {K : PySem.W.Frag} {H : Hp} : ∀ xs : List Str, DtAll K H (xs.map V.str) (xs.map PyData.str)
  | [] => .nil
  | x :: xs => .cons (.str x) (dtStrs xs)
end LK

set_option Elab.async false
set_option linter.all false
set_option maxRecDepth 100000
set_option maxHeartbeats 4000000
/-! enumerate of a tuple. -/
namespace LK
open PySem PySem.Spec PyProof.Rows L2
open AutoSeq1 (wpAny_loadPart')
open Sem (wp)
def enumObj (it : Addr) : Obj := { cls := .type "enumerate", data := .fields #[.none, .bool false, .ref it, rawInt 0, .none, .none] }
def tupIt (t : Addr) : Obj := { cls := .type "tuple_iterator", data := .fields #[.ref t, .int 0 0] }
theorem meets_enumT (t : Addr) (items : Array Value) (n : Nat) (dct : Option Addr) (sl : Array (Option Value)) :
    Meets (Builtin.«enumerate.__new__» ⟨[.type "enumerate", .ref t], []⟩) (fun _ R s => s.heap.get? t = some { cls := .type "tuple", dict := dct, data := .seq items n, slots := sl } ∧
      R (.ok (.ret (.ref (s.heap.push (tupIt t)).objs.size))) { s with heap := (s.heap.push (tupIt t)).push (enumObj s.heap.objs.size) }) :=
  .of_wp fun prog w A R s h => by
    obtain ⟨hp, g, d, tk, os⟩ := s
    obtain ⟨hl, h⟩ := h
    have hsub := sub_enumerate
    have hT : Heap.IsTuple (Shared.heap ⟨hp, g, d, tk, os⟩) t items := ⟨_, hl, rfl, n, rfl⟩
    wp_walk using wpAny_loadPart' hl
    refine wpAny_stack_any fun st => wpAny_pure ?_
    split
    · rename_i c _ _ _ _ _
      cases (c == Value.type "enumerate") <;> (wp_walk using wpAny_loadPart' hl, wpAny_pyIter_tuple hT; exact ⟨_, rfl, h⟩)
    · wp_walk using wpAny_loadPart' hl, wpAny_pyIter_tuple hT
      exact ⟨_, rfl, h⟩
section
variable {prog : Program} {w : World} {A : Around} {E : Value → Shared → Prop} {s : Shared}
theorem call_enumT {t : Addr} {items : Array Value} {Q : Value → Shared → Prop} (hT : s.heap.IsTuple t items)
    (h : ∀ h', IsEnum h' (s.heap.objs.size + 1) s.heap.objs.size 0 .none → h'.IsTupleIter s.heap.objs.size t 0 → (∀ b o, s.heap.get? b = some o → h'.get? b = some o) → Q (.ref (s.heap.objs.size + 1)) { s with heap := h' }) :
    wpAny (model prog w) A (call (.type "enumerate") [.ref t]) Q E s := by
  obtain ⟨⟨c, dct, dt, sl⟩, hl, hc, n, hd⟩ := hT
  obtain rfl : c = .type "tuple" := hc
  obtain rfl : dt = .seq items n := hd
  refine callType_new F.called_enumerate (by decide) (F.typeCall_enumerate_1 _) (F.newCall_enumerate_1 _) (fun obj => F.args_object_init_2 obj _) F.entry_enumerate_new (meets_enumT t items n dct sl) ⟨hl, ?_⟩
  have hz : (s.heap.push (tupIt t)).objs.size = s.heap.objs.size + 1 := Heap.size_push ..
  have he : IsEnum ((s.heap.push (tupIt t)).push (enumObj s.heap.objs.size)) (s.heap.objs.size + 1) s.heap.objs.size 0 .none := by
    have q := Heap.get?_push_size (s.heap.push (tupIt t)) (o := enumObj s.heap.objs.size) rfl
    rw [hz] at q
    exact q
  show _ ∧ _
  rw [hz]
  exact ⟨⟨_, he, rfl⟩, h _ he (Heap.get?_push_of_some _ (Heap.get?_push_size _ rfl) |> fun q => ⟨_, q, rfl, rfl⟩) fun b o x => Heap.get?_push_of_some _ (Heap.get?_push_of_some _ x)⟩
end
/-- the tuple at a, each item in a new pair with its place -/
def IteT (K : PySem.W.Frag) (a : Addr) : It where
  go := fun i H => ∃ (xs : List V) (x : V), SqT K H a xs ∧ xs[i]? = some x
  yld := fun i H v H' => ∃ T x, v = .ref T ∧ H T = none ∧ H' = upd H T (.tup [.int (i : Nat), x]) ∧ ∀ xs, SqT K H a xs → xs[i]? = some x
  stop := fun i H => ∃ xs : List V, SqT K H a xs ∧ xs.length = i
theorem turn_enumT {P : Program} {w : World} {K : PySem.W.Frag} {elts : List Expr} {kk : Nat} {tpos : Pos} (a e it : Addr) :
    Turn P w K (.Tuple elts kk tpos) (IteT K a) [e, it] e (fun i h => (∃ old, IsEnum h e it ((i : Nat) : Int) old) ∧ h.IsTupleIter it a i ∧ e ≠ it) where
  mem := List.mem_cons_self
  obj := fun i h st b hb => by
    obtain ⟨⟨old, he⟩, ⟨o, ho, hc, hd⟩, _⟩ := st
    have hb : b = e ∨ b = it := by simpa using hb
    rcases hb with rfl | rfl
    · exact ⟨_, he, fun v q => nomatch q⟩
    · exact ⟨o, ho, fun v q => by rw [hd] at q; cases q⟩
  keep := fun i h h' st k => by
    obtain ⟨⟨old, he⟩, hi, hne⟩ := st
    exact ⟨⟨old, k e (by simp) _ he⟩, hi.at fun o q => k it (by simp) o q, hne⟩
  item := by
    intro X hP hw hK hc i pins s σ H E I hf st hg
    subst hP hw hK
    obtain ⟨⟨old, he⟩, hit, hne⟩ := st
    obtain ⟨xs, x, hq, hx⟩ := hg
    obtain ⟨its, rv, p, hz⟩ := I.tuple hq
    obtain ⟨u, hu, ru⟩ := rv.get hx
    have hel : e < s.heap.objs.size := Heap.lt_size he
    have hil : it < s.heap.objs.size := by obtain ⟨_, q, _⟩ := hit; exact Heap.lt_size q
    have hat : a ≠ it := by
      intro z
      subst z
      obtain ⟨o, q1, c1, _⟩ := hit
      obtain ⟨o', q2, c2, _⟩ := p
      rw [q1] at q2; cases q2
      exact absurd (Value.type.inj (c1.symm.trans c2)) (by decide)
    have D := Draws.tuple (prog := X.prog) (w := X.w) (A := X.A.in1) (I.ok.hd hc) it a hat its.toArray
    have Dst : (fun i (h : Heap) => h.IsTupleIter it a i ∧ h.IsTuple a its.toArray) i s.heap := ⟨hit, p⟩
    have eat : e ≠ a := by
      intro z
      subst z
      obtain ⟨o', q2, c2, _⟩ := p
      rw [he] at q2; cases q2
      exact absurd (Value.type.inj c2) (by decide)
    have hi : i < its.toArray.size := by
      have := (List.getElem?_eq_some_iff.mp hu).1
      simpa using this
    refine wpAny_pyNext_enum_itemD D he Dst hi hne (by simp [hne, eat]) fun v h' tk hv ho hst hT hsz hk => ?_
    obtain rfl : v = u := by
      have hv : its.toArray[i]? = some v := hv
      rw [show its.toArray[i]? = some u by simpa using hu] at hv
      exact (Option.some.inj hv).symm
    refine ⟨_, rfl, wpAny_letOwnedTupleGo_enum (s := { s with heap := h', toks := tk + 1 }) ho fun h'' he' sb => ?_⟩
    have hT2 := (sb.2 _ (Nat.ne_of_gt hel)).trans hT
    have new : ObjOk X.prog X.w (upd H s.heap.objs.size (.tup [.int (i : Nat), x])) h'' s.heap.objs.size (.tup [.int (i : Nat), x]) :=
      ⟨by show 2 ≤ sizeLine; decide, [.int i tk, v], .cons ⟨_, rfl⟩ (.cons ru .nil), ⟨_, hT2, rfl, _, rfl⟩⟩
    have I1 : Inv X pins σ (upd H s.heap.objs.size (.tup [.int (i : Nat), x])) { s with heap := h'', toks := tk + 1 } :=
      I.turnedNew (ch := [e, it]) (fun b ob hb q => (sb.2 b (fun z => hb (by simp [z]))).trans (hk b ob (fun z => hb (by simp [z])) (fun z => hb (by simp [z])) q)) hf (Nat.le_refl _) new
    refine ⟨.ref s.heap.objs.size, _, I1, rfl, ⟨_, x, rfl, I.hok.fresh (Nat.le_refl _), rfl, fun ys hy => by rw [I.tuple_inj hy hq]; exact hx⟩, ⟨⟨v, ?_⟩, hst.1.at fun o q => (sb.2 it (Ne.symm hne)).trans q, hne⟩, fun b hb => ?_⟩
    · rw [show ((i + 1 : Nat) : Int) = (i : Int) + 1 by omega]
      exact he'
    · have hb' : b < s.heap.objs.size := by
        have z : b = e ∨ b = it := by simpa using hb
        rcases z with rfl | rfl <;> assumption
      rw [upd_ne (Nat.ne_of_lt hb')]
      exact (hf b hb).1
  done := by
    intro X hP hw hK hc i pins s σ H E I hf st hg
    subst hP hw hK
    obtain ⟨⟨old, he⟩, hit, hne⟩ := st
    obtain ⟨xs, hq, hx⟩ := hg
    obtain ⟨its, rv, p, hz⟩ := I.tuple hq
    obtain ⟨f0, f1, f2, f3, f4, f5⟩ := hf it (by simp)
    have hl := rv.length
    have hat : a ≠ it := by
      intro z
      subst z
      obtain ⟨o, q1, c1, _⟩ := hit
      obtain ⟨o', q2, c2, _⟩ := p
      rw [q1] at q2; cases q2
      exact absurd (Value.type.inj (c1.symm.trans c2)) (by decide)
    have D := Draws.tuple (prog := X.prog) (w := X.w) (A := X.A.in1) (I.ok.hd hc) it a hat its.toArray
    have hn : i = its.toArray.size := by simp; omega
    subst hn
    exact wpAny_pyNext_enum_endD D he ⟨hit, p⟩ fun h' eb => ⟨rfl, I.turned (t' := s.toks) (fun b o hb q => eb b o hb q) f0 f1 f3 f4 f5⟩
  self := fun A i s Q E st h => let ⟨⟨_, he⟩, _⟩ := st; wpAny_pyIter_enum he h
def iEnumT (K : PySem.W.Frag) (ta : TA) : TI := fun σ H R => ta σ H fun vs H1 => ∃ a xs, vs = [.ref a] ∧ SqT K H1 a xs ∧ R (IteT K a) H1
theorem pi_enumT {X : Cx} {e : Expr} {ta : TA} {p pos tpos : Pos} {elts : List Expr} {kk : Nat} (hg : Gl X "enumerate") (hm : X.mg "enumerate" = none) (ha : PA X [e] ta) (hs : starEach [e] X.env = [(false, eval e X.env)] := by rfl) :
    PI X (.Tuple elts kk tpos) (.Call (.Name "enumerate" p) [e] [] pos) (iEnumT X.K ta) := by
  refine ⟨fun pins s σ H R I h => ?_⟩
  refine Call_ (ld_blt I hg hm boot_enumerate (PyProof.Rows.callWith_type1 (thn (ha.run pos pins s σ H _ I h) fun us s1 ⟨vs, H1, I1, r1, q1⟩ => ?_) hs rfl))
  obtain ⟨a, xs, rfl, hq, q⟩ := q1
  cases r1 with
  | cons r rr =>
    cases rr
    cases r
    obtain ⟨its, rv, p', hz⟩ := I1.tuple hq
    refine call_enumT (show s1.heap.IsTuple a its.toArray from p') fun h' he hit hk => wpAny_pyIter_enum he ?_
    refine ⟨s1.heap.objs.size + 1, [s1.heap.objs.size + 1, s1.heap.objs.size], _, _, H1, rfl, I1.kept (t' := s1.toks) hk, turn_enumT a (s1.heap.objs.size + 1) s1.heap.objs.size, ⟨⟨.none, he⟩, hit, Nat.succ_ne_self _⟩, fun b hb => ?_, q⟩
    have hle : s1.heap.objs.size ≤ b := by
      have z : b = s1.heap.objs.size + 1 ∨ b = s1.heap.objs.size := by simpa using hb
      rcases z with rfl | rfl <;> omega
    exact I1.fpOk hle (I1.hok.fresh hle)
theorem walk_enumT {K : PySem.W.Frag} {a : Addr} {xs : List V} : Walk (IteT K a) xs.length (fun H => SqT K H a xs) (YPair (fun i => some (.int (i : Nat))) (fun i => xs[i]?)) := by
  refine ⟨fun i _ hi q => ⟨xs, xs[i], q, by simp [hi]⟩, fun _ q => ⟨xs, q, rfl⟩, fun i H v H' _ q y => ?_⟩
  obtain ⟨T, x, h1, h2, h3, h4⟩ := y
  exact ⟨T, .int (i : Nat), x, h1, h2, h3, rfl, h4 xs q⟩

/-! ### comprehensions whose items are data -/
theorem tYes_of {σ : L2.St} {H : Hp} {P R : Hp → Prop} (h : P H) : tYes σ H fun b H3 => if b = true then P H3 else R H3 := by
  show (if true = true then P H else R H)
  rw [if_pos rfl]
  exact h
/-- each turn gives data and leaves what stood; no test -/
theorem lc_dt {K : PySem.W.Frag} {J : It} {n : Nat} {G : Hp → Prop} {Y : Nat → Hp → V → Hp → Prop} (w : Walk J n G Y) {g : TG} {te : TE} {vs : List Nat} {σ : L2.St} {H : Hp} {D : Addr} {Qd : Hp → Prop} (hD : H D = none) (ds : List PyData) (hn : ds.length = n) (hz : n < sizeLine)
    (hG : ∀ H', Same H H' → G H')
    (hs : ∀ i x H1 H2 d (Nx : V → Hp → Prop), i < n → ds[i]? = some d → Same H H1 → (∃ acc, H1 D = some (.lst acc)) → Y i H1 x H2 → (∀ y H5, Same H1 H5 → Dt K H5 y d → Nx y H5) →
      g x (wipe σ vs) H2 fun σ2 H3 => wipe σ2 vs = wipe σ vs ∧ te σ2 H3 Nx)
    (hd : ∀ H' acc, Same H H' → H' D = some (.lst acc) → DtAll K H' acc ds → Qd H')
    (mono : ∀ x σ H Q Q', (∀ σ' H', Q σ' H' → Q' σ' H') → g x σ H Q → g x σ H Q') :
    ∃ W : Nat → Nat → Hp → Prop, (∃ m, W 0 m (upd H D (.lst []))) ∧ ∀ i m H, W i m H →
      (J.stop i H ∧ Qd H) ∨ (J.go i H ∧ ∃ Nx : Hp → Prop, (∀ H', Nx H' → ∃ m', m' < m ∧ W (i + 1) m' H') ∧ ∀ x H', J.yld i H x H' → g x (wipe σ vs) H' fun σ2 H2 => wipe σ2 vs = wipe σ vs ∧ tYes σ2 H2 fun b H3 =>
        if b = true then te σ2 H3 fun y H4 => ∃ acc, H4 D = some (.lst acc) ∧ acc.length < sizeLine ∧ Nx (upd H4 D (.lst (acc ++ [y]))) else Nx H3) := by
  refine lc_it w (fun i H' => ∃ acc, H' D = some (.lst acc) ∧ DtAll K H' acc (ds.take i) ∧ Same H H') ⟨[], upd_same, .nil, Same.new hD⟩ (fun i H' _ h => let ⟨_, _, _, s⟩ := h; hG H' s) (fun i x H1 H2 hi h y => ?_) fun H' h => ?_
  · obtain ⟨acc, a1, a2, a3⟩ := h
    have hi' : i < ds.length := by omega
    have hg := hs i x H1 H2 ds[i] (fun y H4 => ∃ acc, H4 D = some (.lst acc) ∧ acc.length < sizeLine ∧ ∃ acc', upd H4 D (.lst (acc ++ [y])) D = some (.lst acc') ∧ DtAll K (upd H4 D (.lst (acc ++ [y]))) acc' (ds.take (i + 1)) ∧ Same H (upd H4 D (.lst (acc ++ [y]))))
      hi (List.getElem?_eq_getElem hi') a3 ⟨acc, a1⟩ y fun y H5 s hy => ?_
    · exact mono _ _ _ _ _ (fun σ2 H3 q => ⟨q.1, tYes_of q.2⟩) hg
    · have b1 := s _ _ a1
      have kt : KeepT K H5 (upd H5 D (.lst (acc ++ [y]))) := KeepT.upd b1
      refine ⟨acc, b1, ?_, _, upd_same, ?_, fun b o e => ?_⟩
      · rw [a2.length, List.length_take]; omega
      · rw [List.take_succ, List.getElem?_eq_getElem hi']
        exact DtAll.app (DtAll.keepT (KeepT.trans (Same.keepT s) kt) a2) (.cons (Dt.keepT kt hy) .nil)
      · rw [upd_ne (ne_of_none e hD)]
        exact s _ _ (a3 _ _ e)
  · obtain ⟨acc, a1, a2, a3⟩ := h
    rw [← hn, List.take_length] at a2
    exact hd H' acc a3 a1 a2
theorem mono_name {i : Nat} : ∀ x (σ : L2.St) (H : Hp) (Q Q' : L2.St → Hp → Prop), (∀ σ' H', Q σ' H' → Q' σ' H') → gName i x σ H Q → gName i x σ H Q' := fun _ _ _ _ _ h q => h _ _ q
theorem mono_tup2 {K : PySem.W.Frag} {i j n : Nat} : ∀ x (σ : L2.St) (H : Hp) (Q Q' : L2.St → Hp → Prop), (∀ σ' H', Q σ' H' → Q' σ' H') → gTup K n (gCons (gName i) (gCons (gName j) gNil)) x σ H Q → gTup K n (gCons (gName i) (gCons (gName j) gNil)) x σ H Q' := by
  rintro x σ H Q Q' h ⟨a, xs, e1, e2, e3, v, r, e4, v', r', e5, e6, q⟩
  exact ⟨a, xs, e1, e2, e3, v, r, e4, v', r', e5, e6, h _ _ q⟩
end LK

set_option Elab.async false
set_option linter.all false
set_option maxRecDepth 100000
set_option maxHeartbeats 4000000
set_option exponentiation.threshold 3000
/-! More rules: text * int, two rules at one place, what == says of data. -/
namespace LK
open PySem PySem.Spec PyProof.Rows L2
theorem at_of' {α : Type} {xs : List α} {z : Int} {j : Nat} {v : α} (e : z = (j : Int)) (h : xs[j]? = some v) : atI xs z = some v := by
  rw [e]
  exact atI_nat h
/-- z repeated k times, by its codes -/
def repC (z : List Nat) (k : Int) : List Nat := (List.replicate k.toNat z).flatten
def repS (z : Str) (k : Int) : Str := ⟨(repC z.cps.toList k).toArray⟩
theorem repC_length (z : List Nat) (k : Int) : (repC z k).length = k.toNat * z.length := by simp [repC]
theorem foldl_arr (z : Array Nat) : ∀ (n : Nat) (acc : Array Nat), (List.replicate n z).foldl (· ++ ·) acc = acc ++ (List.replicate n z.toList).flatten.toArray
  | 0, acc => by simp
  | n + 1, acc => by
    rw [List.replicate_succ, List.foldl_cons, foldl_arr z n, List.replicate_succ, List.flatten_cons]
    apply Array.ext'
    simp
def rRepS : R2 := fun x y H Q => ∃ (z : Str) (k : Int), x = .str z ∧ y = .int k ∧ -1000000000000 ≤ k ∧ k < 1000000000000 ∧ z.length * k.toNat ≤ 1000000 ∧ Q (.str (repS z k)) H
theorem repS_arr (z : Str) (k : Int) : (⟨(List.replicate k.toNat z.cps).foldl (· ++ ·) #[]⟩ : Str) = repS z k := by
  rw [foldl_arr]
  simp [repS, repC]
theorem op_rep_str {X : Cx} : OpR X (binaryOp .Mult) rRepS := by
  intro pins s σ H x y v u Q I rx ry h
  obtain ⟨z, k, rfl, rfl, h1, h2, h3, q⟩ := h
  obtain ⟨t, rfl⟩ := rx
  obtain ⟨t', rfl⟩ := ry
  have szl : (1000000 : Nat) ≤ sizeLine := by decide
  have e1 : ¬ k < 1 → k = (k.toNat : Int) := fun h => by omega
  refine PySem.P.mul_str ?_ (fun hk hz => ?_) (fun hk hz => ?_) ?_
  · rw [decide_eq_false (by omega), decide_eq_false (by omega)]; rfl
  · have e0 : z.length ≠ 0 := fun e => by rw [e] at hz; simp at hz
    have hd : (9223372036854775807 : Int) / k ≥ 1000000 := by
      apply Int.le_ediv_of_mul_le (by omega)
      have hlen : k.toNat ≤ 1000000 := Nat.le_trans (Nat.le_mul_of_pos_left _ (by omega)) h3
      omega
    have hl : z.length ≤ 1000000 := Nat.le_trans (Nat.le_mul_of_pos_right _ (by omega)) h3
    show ¬ ((z.length : Int) > 9223372036854775807 / k)
    omega
  · unfold Builtin.Str.tooLong
    simp
    omega
  · split
    · rename_i hk
      have e : repS z k = Str.empty := by
        have : k.toNat = 0 := by omega
        simp [repS, repC, this]; rfl
      refine ⟨by decide, .str _, H, I.tok _, ⟨_, rfl⟩, ?_⟩
      rw [← e]; exact q
    · rename_i hk
      split
      · rename_i hz
        have e : repS z k = z := by
          rcases Bool.or_eq_true_iff.mp hz with h | h
          · have : k = 1 := by simpa using h
            subst this
            simp [repS, repC]
          · have : z.cps.toList = [] := by
              have : z.cps.size = 0 := by simpa [Str.length] using h
              exact List.eq_nil_of_length_eq_zero (by simpa using this)
            have e2 : (List.replicate k.toNat ([] : List Nat)).flatten = [] := by simp
            unfold repS repC
            rw [this, e2]
            cases z with
            | mk c =>
              have : c = #[] := Array.toList_inj.mp (by simpa using this)
              subst this; rfl
        refine ⟨.str _, H, I, ⟨t, rfl⟩, ?_⟩
        rw [← e]; exact q
      · rw [repS_arr]
        refine ⟨?_, .str _, H, I.tok _, ⟨_, rfl⟩, q⟩
        show (repC z.cps.toList k).toArray.size ≤ sizeLine
        rw [List.size_toArray, repC_length]
        have : z.cps.toList.length = z.length := by simp [Str.length]
        rw [this, Nat.mul_comm]; omega
/-! ### the objects at the beginning -/
def clsNames : List Str := ["Exception", "ArithmeticError", "ZeroDivisionError", "OverflowError", "LookupError", "IndexError", "KeyError", "NameError", "AttributeError", "TypeError", "ValueError", "StopIteration", "RuntimeError", "RecursionError", "MemoryError", "HostError"]
def clsBases : List Int := [-1, 1, 2, 2, 1, 5, 5, 1, 1, 1, 1, 1, 1, 13, 1, 1]
def builtNames : List Str := ["print", "len", "range", "repr", "str", "int", "list", "tuple", "dict", "iter", "next", "isinstance", "abs"]
def clsVar (i : Nat) (n : Str) : PyData := .tuple [.str n, .tuple [.str "ref", .int ((i : Int) + 1)]]
def nameVar (k n : Str) : PyData := .tuple [.str n, .tuple [.str k, .str n]]
def clsObj (n : Str) (b : Int) : PyData := .tuple [.str "class", .str n, .int b, .tuple []]
def clsVars : List PyData := clsNames.mapIdx clsVar
def startVars (hs : List Str) : List PyData := clsVars ++ builtNames.map (nameVar "built") ++ hs.map (nameVar "host")
def startD (hs : List Str) : List PyData := .tuple [.str "scope", .tuple (startVars hs), .tuple [], .tuple [], .int (-1), .bool false] :: List.zipWith clsObj clsNames clsBases
/-- a list at p, of the data ds -/
def ListAt (K : PySem.W.Frag) (H : Hp) (p : Addr) (ds : List PyData) : Prop := ∃ xs, H p = some (.lst xs) ∧ DtAll K H xs ds
def spStart (K : PySem.W.Frag) : Sp := fun vs H Q _ => ∃ (t : Addr) (hs : List Str), vs = [.ref t] ∧ SqT K H t (hs.map V.str) ∧ hs.length ≤ 1000 ∧
  ∀ (p : Addr) (H' : Hp), H p = none → Same H H' → ListAt K H' p (startD hs) → Q (.ref p) H'
theorem at0 {α : Type} {x : α} {ws : List α} : atI (x :: ws) 0 = some x := at_of' (j := 0) rfl rfl
theorem at1 {α : Type} {x y : α} {ws : List α} : atI (x :: y :: ws) 1 = some y := at_of' (j := 1) rfl rfl
theorem at2 {α : Type} {x y z : α} {ws : List α} : atI (x :: y :: z :: ws) 2 = some z := at_of' (j := 2) rfl rfl
/-- a written pair, triple as it is read -/
theorem Dt.head {K : PySem.W.Frag} {H : Hp} {v : V} {z : Str} {rest : List PyData} (h : Dt K H v (.tuple (.str z :: rest))) : ∃ a ws, v = .ref a ∧ SqT K H a (.str z :: ws) ∧ DtAll K H ws rest := by
  obtain ⟨q, xs, rfl, hs, ha⟩ := h.tuple_inv
  obtain ⟨x, ws, rfl, h1, hw⟩ := ha.cons_inv
  cases h1.str_inv
  exact ⟨q, ws, rfl, hs, hw⟩
theorem Dt.pair {K : PySem.W.Frag} {H : Hp} {v : V} {z : Str} {d : PyData} (h : Dt K H v (.tuple [.str z, d])) : ∃ a x, v = .ref a ∧ SqT K H a [.str z, x] ∧ Dt K H x d := by
  obtain ⟨a, ws, rfl, hs, hw⟩ := h.head
  obtain ⟨x, ws', rfl, h1, hn⟩ := hw.cons_inv
  cases hn.nil_inv
  exact ⟨a, x, rfl, hs, h1⟩
theorem Dt.triple {K : PySem.W.Frag} {H : Hp} {v : V} {z : Str} {d e : PyData} (h : Dt K H v (.tuple [.str z, d, e])) : ∃ a x y, v = .ref a ∧ SqT K H a [.str z, x, y] ∧ Dt K H x d ∧ Dt K H y e := by
  obtain ⟨a, ws, rfl, hs, hw⟩ := h.head
  obtain ⟨x, ws', rfl, h1, hn⟩ := hw.cons_inv
  obtain ⟨y, ws'', rfl, h2, hn2⟩ := hn.cons_inv
  cases hn2.nil_inv
  exact ⟨a, x, y, rfl, hs, h1, h2⟩
theorem listAt_mono {K : PySem.W.Frag} {H H' : Hp} {p : Addr} {ds : List PyData} (h : ListAt K H p ds) (e : Same H H') : ListAt K H' p ds := by
  obtain ⟨xs, hx, ax⟩ := h
  exact ⟨xs, e _ _ hx, DtAll.mono e ax⟩
theorem eqv_nil (ds : List PyData) : PyData.eqv (.tuple ds) (.tuple []) = ds.isEmpty := by
  cases ds <;> simp [PyData.eqv, PyData.eqvAll]
theorem listAt_upd {K : PySem.W.Frag} {H : Hp} {l l' : Addr} {ds : List PyData} {xs : List V} {o : HO} (h : ListAt K H l ds) (ne : l ≠ l') (hl : H l' = some (.lst xs)) : ListAt K (upd H l' o) l ds := by
  obtain ⟨ys, hy, ay⟩ := h
  exact ⟨ys, by rw [upd_ne ne]; exact hy, DtAll.keepT (KeepT.upd hl) ay⟩
theorem listAt_app {K : PySem.W.Frag} {H : Hp} {l : Addr} {ds : List PyData} {xs : List V} {v : V} {d : PyData} (h : ListAt K H l ds) (hl : H l = some (.lst xs)) (hd : Dt K H v d) : ListAt K (upd H l (.lst (xs ++ [v]))) l (ds ++ [d]) := by
  obtain ⟨ys, hy, ay⟩ := h
  rw [hl] at hy
  obtain rfl := HO.lst.inj (Option.some.inj hy)
  exact ⟨_, upd_same, DtAll.app (DtAll.keepT (KeepT.upd hl) ay) (.cons (Dt.keepT (KeepT.upd hl) hd) .nil)⟩
theorem listAt_keep {K : PySem.W.Frag} {H H' : Hp} {l p : Addr} {ds : List PyData} (h : ListAt K H l ds) (e : Keep p H H') (ne : l ≠ p) (hp : ∃ xs, H p = some (.lst xs)) : ListAt K H' l ds := by
  obtain ⟨ys, hy, ay⟩ := h
  exact ⟨ys, e _ _ hy ne, DtAll.keepT (Keep.keepT e hp) ay⟩
theorem listAt_made {K : PySem.W.Frag} {H : Hp} {l : Addr} {xs : List V} {ds : List PyData} (hl : H l = none) (h : DtAll K H xs ds) : ListAt K (upd H l (.lst xs)) l ds := ⟨xs, upd_same, DtAll.mono (Same.new hl) h⟩
/-! how long the objects at the beginning are, shown -/
def shortS (n : Str) : Bool := decide (n.length ≤ 40) && n.cps.toList.all (fun c => decide (c < 16 ^ 8))
theorem Sm.short {n : Str} (h : shortS n = true) : Sm (.str n) 0 500 := by
  obtain ⟨h1, h2⟩ := Bool.and_eq_true_iff.mp h
  exact (Sm.str (of_decide_eq_true h1) (strOk n h2)).mono (by decide) (by decide)
theorem cls_short : ∀ n ∈ clsNames, shortS n = true := by decide +kernel
theorem built_short : ∀ n ∈ builtNames, shortS n = true := by decide +kernel
theorem Sm.nm {k n : Str} (hk : shortS k = true) (hn : shortS n = true) : Sm (nameVar k n) 3 4000 :=
  (Sm.tup (.cons (Sm.short hn) (.cons (Sm.tup (.cons (Sm.short hk) (.cons (Sm.short hn) .nil))) .nil))).mono (by decide) (by decide)
theorem Sm.cv {i : Nat} {n : Str} (hi : i < 1000) (hn : shortS n = true) : Sm (clsVar i n) 3 4000 :=
  (Sm.tup (.cons (Sm.short hn) (.cons (Sm.tup (.cons (Sm.short (n := "ref") (by decide +kernel)) (.cons (Sm.int (Nat.lt_of_lt_of_le (show ((i : Int) + 1).natAbs < 2 ^ 20 by omega) (Nat.pow_le_pow_right (by decide) (by decide)))) .nil))) .nil))).mono (by decide) (by decide)
theorem Sm.co {b : Int} {n : Str} (hb : b.natAbs < 1000) (hn : shortS n = true) : Sm (clsObj n b) 3 4000 :=
  (Sm.tup (.cons (Sm.short (n := "class") (by decide +kernel)) (.cons (Sm.short hn) (.cons (Sm.int (Nat.lt_of_lt_of_le (show b.natAbs < 2 ^ 20 by omega) (Nat.pow_le_pow_right (by decide) (by decide)))) (.cons (Sm.tup .nil) .nil))))).mono (by decide) (by decide)
theorem SmAll.mem {ds : List PyData} {dp n N m M : Nat} (h : SmAll ds dp n N) (h1 : n ≤ m) (h2 : N ≤ M) : SmAll ds dp m M := ⟨h.ok, h.dp, Nat.le_trans h.len h1, Nat.le_trans h.sz h2⟩
theorem sm_vars {hs : List Str} {L : Nat} (h : ∀ n ∈ hs, shortS n = true) (hl : hs.length ≤ L) : SmAll (startVars hs) 3 (29 + L) (4000 * (29 + L)) := by
  have h1 : ∀ d ∈ startVars hs, Sm d 3 4000 := fun d hd => by
    rcases List.mem_append.mp hd with hd | hd
    · rcases List.mem_append.mp hd with hd | hd
      · obtain ⟨i, hi, rfl⟩ := List.mem_mapIdx.mp hd
        exact Sm.cv (Nat.lt_trans hi (by decide)) (cls_short _ (List.getElem_mem hi))
      · obtain ⟨n, hn, rfl⟩ := List.mem_map.mp hd
        exact Sm.nm (by decide +kernel) (built_short n hn)
    · obtain ⟨n, hn, rfl⟩ := List.mem_map.mp hd
      exact Sm.nm (by decide +kernel) (h n hn)
  have hlen : (startVars hs).length = 29 + hs.length := by
    simp only [startVars, List.length_append, List.length_map]
    have : clsVars.length = 16 := by decide
    have : builtNames.length = 13 := by decide
    omega
  exact (SmAll.many h1).mem (by omega) (by omega)
theorem sm_start {hs : List Str} {L : Nat} (h : ∀ n ∈ hs, shortS n = true) (hl : hs.length ≤ L) : ∀ d ∈ startD hs, Sm d 5 (5000 * (30 + L)) := fun d hd => by
  rcases List.mem_cons.mp hd with rfl | hd
  · exact (Sm.tup (.cons (Sm.short (n := "scope") (by decide +kernel)) (.cons (Sm.tup (sm_vars h hl)) (.cons (Sm.tup .nil) (.cons (Sm.tup .nil) (.cons (Sm.int (by decide)) (.cons (Sm.bool false) .nil))))))).mono (by decide) (by omega)
  · have : ∃ n b, d = clsObj n b ∧ n ∈ clsNames ∧ b.natAbs < 1000 := by
      have key : ∀ q ∈ List.zip clsNames clsBases, q.1 ∈ clsNames ∧ q.2.natAbs < 1000 := by decide +kernel
      rw [← List.map_uncurry_zip_eq_zipWith] at hd
      obtain ⟨q, hq, rfl⟩ := List.mem_map.mp hd
      exact ⟨q.1, q.2, rfl, key q hq⟩
    obtain ⟨n, b, rfl, hn, hb⟩ := this
    exact (Sm.co hb (cls_short n hn)).mono (by decide) (by omega)
theorem start_cls {hs : List Str} {k : Nat} (h1 : 1 ≤ k) (h2 : k ≤ 16) : ∃ rest, (startD hs)[k]? = some (.tuple (.str "class" :: rest)) := by
  obtain ⟨j, rfl⟩ : ∃ j, k = j + 1 := ⟨k - 1, by omega⟩
  have l1 : clsNames.length = 16 := by decide
  have l2 : clsBases.length = 16 := by decide
  refine ⟨[.str clsNames[j]!, .int clsBases[j]!, .tuple []], ?_⟩
  have e1 : clsNames[j]? = some clsNames[j]! := by rw [List.getElem!_eq_getElem?_getD]; rw [List.getElem?_eq_getElem (by omega)]; rfl
  have e2 : clsBases[j]? = some clsBases[j]! := by rw [List.getElem!_eq_getElem?_getD]; rw [List.getElem?_eq_getElem (by omega)]; rfl
  show (List.zipWith clsObj clsNames clsBases)[j]? = _
  rw [List.getElem?_zipWith, e1, e2]
  rfl
end LK

set_option Elab.async false
set_option linter.all false
set_option maxRecDepth 100000
set_option maxHeartbeats 4000000
set_option exponentiation.threshold 3000
/-! tuple * 1; rows: texts or tuples at one place; the type of what is read as a tuple; data equal to itself. -/
namespace LK
open PySem PySem.Spec PyProof.Rows L2
theorem tuple_mul1 (l : Addr) (items : Array Value) (n : Nat) (dd : Option Addr) (sl : Array (Option Value)) (u : Tok) :
    Meets (Builtin.«tuple.__mul__» ⟨[.ref l, .int 1 u], []⟩) (fun _ R s => s.heap.get? l = some { cls := .type "tuple", dict := dd, data := .seq items n, slots := sl } ∧ R (.ok (.ret (Value.ref l))) s) :=
  .of_wp fun prog w A R s h => by
    obtain ⟨hp, g, d, tk, os⟩ := s
    obtain ⟨hl, h⟩ := h
    have f1 := AutoSeq1.idx_int
    have c0 : (decide ((1 : Int) < -(2 ^ 63)) || decide ((1 : Int) ≥ 2 ^ 63)) = false := by decide
    have c1 : (items.isEmpty || (1 : Int) == 1) = true := by simp
    wp_walk using wpAny_loadPart' hl
    exact ⟨_, rfl, h⟩
/-- a tuple times an int from 1 to 1000 -/
def rRepTA (K : PySem.W.Frag) : R2 := fun x y H Q => ∃ l k xs, x = .ref l ∧ y = .int k ∧ SqT K H l xs ∧ xs ≠ [] ∧ 1 ≤ k ∧ k ≤ 1000 ∧ xs.length ≤ 1000 ∧ (k = 1 → Q (.ref l) H) ∧ (k ≠ 1 → ∀ p, H p = none → Q (.ref p) (upd H p (.tup (List.replicate k.toNat xs).flatten)))
section
variable {X : Cx}
theorem op_repTA : OpR X (binaryOp .Mult) (rRepTA X.K) := by
  intro pins s σ H x y v u Q I rx ry h
  obtain ⟨l, k, xs, rfl, rfl, hT, hne, h1, h2, hz, q1, q2⟩ := h
  by_cases hk : k = 1
  · subst hk
    cases rx
    obtain ⟨t, rfl⟩ := ry
    obtain ⟨its, r, ⟨⟨cls, dd, data, sl⟩, ho, hc, n, hd⟩, hs⟩ := I.tuple hT
    simp only at hc hd
    subst hc hd
    refine wpAny_binaryOp_repeat_ref (T := "tuple") (U := "int") (by decide) ⟨_, ho, rfl⟩ (fun s' => typeIs_int s' 1 t) noFill_tuple_mul F.fills_int_mul F.slot_int_rmul repeat_tuple F.slot_int_index.lookup
      (call_meets F.slot_int_rmul (typeIs_int s 1 t) F.entry_int_rmul (F.args_int_rmul_2 _ _) (int_rmul_tuple 1 t l its.toArray n dd sl)
        ⟨ho, rfl, ⟨_, ho, rfl⟩, call_meets F.slot_tuple_mul ⟨_, ho, rfl⟩ F.entry_tuple_mul (F.args_tuple_mul_2 _ _) (tuple_mul1 l its.toArray n dd sl t) ⟨ho, ?_⟩⟩)
    exact ⟨.ref l, H, I, rfl, q1 rfl⟩
  · exact op_repT pins s σ H _ _ v u Q I rx ry ⟨l, k, xs, rfl, rfl, hT, hne, by omega, h2, hz, q2 hk⟩
end
theorem SqT.tyX {K : PySem.W.Frag} {H : Hp} {a : Addr} {xs : List V} (h : SqT K H a xs) : TyX K H (.ref a) (.type "tuple") := by
  rcases h with (h | ⟨o, h⟩) | ⟨o, its, n, e, c, _⟩
  · exact .base (.tup h)
  · exact .fTuple h
  · exact .kTuple e c
/-! ### data equal to itself -/
mutual
theorem eqv_self : ∀ {d : PyData}, d.canLay0 = true → PyData.eqv d d = true
  | .none, _ => by simp [PyData.eqv]
  | .bool _, _ => by simp [PyData.eqv]
  | .int _, _ => by simp [PyData.eqv]
  | .str _, _ => by simp [PyData.eqv]
  | .list xs, h => by rw [PyData.eqv]; exact eqvAll_self (by simpa [PyData.canLay0] using h)
  | .tuple xs, h => by rw [PyData.eqv]; exact eqvAll_self (by simpa [PyData.canLay0] using h)
  | .dict _, h => absurd h (by simp [PyData.canLay0])
theorem eqvAll_self : ∀ {xs : List PyData}, PyData.canLayAll0 xs = true → PyData.eqvAll xs xs = true
  | [], _ => by simp [PyData.eqvAll]
  | x :: xs, h => by
    rw [PyData.canLayAll0, Bool.and_eq_true] at h
    rw [PyData.eqvAll, eqv_self h.1, eqvAll_self h.2]; rfl
end
theorem canLayAll0_of {ds : List PyData} (h : ∀ d ∈ ds, d.canLay0 = true) : PyData.canLayAll0 ds = true := by
  induction ds with
  | nil => rfl
  | cons d ds ih => rw [PyData.canLayAll0, h d (by simp), ih fun e he => h e (List.mem_cons_of_mem _ he)]; rfl
theorem depthAll_of {ds : List PyData} {n : Nat} (h : ∀ d ∈ ds, d.depth ≤ n) : PyData.depthAll ds ≤ n := by
  induction ds with
  | nil => exact Nat.zero_le _
  | cons d ds ih => rw [PyData.depthAll]; exact Nat.max_le.mpr ⟨h d (by simp), ih fun e he => h e (List.mem_cons_of_mem _ he)⟩
/-! ### rows: a text, or a tuple of small ints -/
def Item (d : PyData) : Prop := ∃ i : Int, d = .tuple [.str "int", .int i] ∧ 0 ≤ i ∧ i < 11
def Low (z : Str) : Prop := ∀ c ∈ z.cps.toList, c < 128
inductive Row : Bool → PyData → Nat → Prop
  | txt {z : Str} {n : Nat} : z.length = n → Low z → Row true (.str z) n
  | tup {ds : List PyData} {n : Nat} : ds.length = n → (∀ d ∈ ds, Item d) → Row false (.tuple ds) n
def catD : PyData → PyData → PyData
  | .str a, .str b => .str (a ++ b)
  | .tuple a, .tuple b => .tuple (a ++ b)
  | a, _ => a
def repD (d : PyData) (k : Int) : PyData := match d with
  | .str a => .str (repS a k)
  | .tuple a => .tuple (List.replicate k.toNat a).flatten
  | a => a
def noneD : PyData → PyData
  | .str a => .str (cutS a none (some 0))
  | .tuple _ => .tuple []
  | a => a
theorem len_app (a b : Str) : (a ++ b).length = a.length + b.length := strLen_append a b
theorem len_rep (z : Str) (k : Int) : (repS z k).length = z.length * k.toNat := by
  show (repC z.cps.toList k).toArray.size = _
  rw [List.size_toArray, repC_length, Nat.mul_comm]
  simp [Str.length]
theorem Low.app {a b : Str} (h : Low a) (g : Low b) : Low (a ++ b) := by
  intro c hc
  have e : (a ++ b).cps.toList = a.cps.toList ++ b.cps.toList := by
    show (a.cps ++ b.cps).toList = _
    simp
  rw [e] at hc
  rcases List.mem_append.mp hc with hc | hc
  · exact h c hc
  · exact g c hc
theorem Low.rep {a : Str} (h : Low a) (k : Int) : Low (repS a k) := by
  intro c hc
  have hc : c ∈ (List.replicate k.toNat a.cps.toList).flatten := by simpa [repS, repC] using hc
  obtain ⟨l, hl, hcl⟩ := List.mem_flatten.mp hc
  exact h c (List.eq_of_mem_replicate hl ▸ hcl)
theorem Low.cut {a : Str} (h : Low a) (lo hi : Option Int) : Low (cutS a lo hi) := by
  intro c hc
  have hc : c ∈ (a.cps.toList.drop (HT.sIx a.length 0 lo)).take (HT.sIx a.length a.length hi - HT.sIx a.length 0 lo) := hc
  exact h c (List.mem_of_mem_drop (List.mem_of_mem_take hc))
theorem cut_to (a : Str) (m : Nat) : (cutS a none (some (m : Int))).length ≤ m := by
  show ((a.cps.toList.drop (HT.sIx a.length 0 none)).take (HT.sIx a.length a.length (some (m : Int)) - HT.sIx a.length 0 none)).toArray.size ≤ m
  rw [List.size_toArray, List.length_take, HT.sIx_nat]
  omega
theorem Row.cat {t : Bool} {a b : PyData} {n m : Nat} (h : Row t a n) (g : Row t b m) : Row t (catD a b) (n + m) := by
  cases h with
  | txt e l =>
    cases g with
    | txt e2 l2 => exact .txt (by rw [len_app, e, e2]) (l.app l2)
  | tup e l =>
    cases g with
    | tup e2 l2 => exact .tup (by rw [List.length_append, e, e2]) fun d hd => (List.mem_append.mp hd).elim (l d) (l2 d)
theorem Row.rep {t : Bool} {a : PyData} {n : Nat} (h : Row t a n) (k : Int) : Row t (repD a k) (n * k.toNat) := by
  cases h with
  | txt e l => exact .txt (by rw [len_rep, e]) (l.rep k)
  | tup e l =>
    refine .tup (by rw [PyProof.Rows.lm_len_rep_flat, e, Nat.mul_comm]) fun d hd => ?_
    obtain ⟨x, hx, hdx⟩ := List.mem_flatten.mp hd
    exact l d (List.eq_of_mem_replicate hx ▸ hdx)
theorem Row.none {t : Bool} {a : PyData} {n : Nat} (h : Row t a n) : Row t (noneD a) 0 := by
  cases h with
  | @txt z _ e l => exact .txt (Nat.le_zero.mp (cut_to z 0)) (l.cut _ _)
  | tup e l => exact .tup rfl fun d hd => by cases hd
theorem Item.sm {d : PyData} (h : Item d) : Sm d 1 3000 := by
  obtain ⟨i, rfl, h0, h1⟩ := h
  exact (Sm.tup (.cons (Sm.short (n := "int") (by decide +kernel)) (.cons (Sm.int (Nat.lt_of_lt_of_le (show i.natAbs < 2 ^ 20 by omega) (Nat.pow_le_pow_right (by decide) (by decide)))) .nil))).mono (by decide) (by decide)
theorem Row.sm {t : Bool} {d : PyData} {n : Nat} (h : Row t d n) (hn : n ≤ 1000) : Sm d 2 3100000 := by
  cases h with
  | txt e l => exact (Sm.str (n := 1000) (by omega) fun c hc => Nat.lt_of_lt_of_le (l c hc) (by decide)).mono (by decide) (by decide)
  | tup e l => exact (Sm.tup ((SmAll.many fun d hd => (l d hd).sm).mem (m := 1000) (M := 3000000) (by omega) (by omega))).mono (by decide) (by decide)
theorem Row.lay {t : Bool} {d : PyData} {n : Nat} (h : Row t d n) : d.canLay0 = true := by
  cases h with
  | @txt z _ e l =>
    rw [PyData.canLay0]
    exact Array.all_eq_true_iff_forall_mem.mpr fun c hc => by
      have := l c (Array.mem_toList_iff.mpr hc)
      exact decide_eq_true (by omega)
  | tup e l =>
    rw [PyData.canLay0]
    exact canLayAll0_of fun d hd => by obtain ⟨i, rfl, _⟩ := l d hd; simp only [PyData.canLay0, PyData.canLayAll0, Bool.and_true]; decide +kernel
section
variable {X : Cx}
/-- a + b, two rows -/
def rCatD (K : PySem.W.Frag) : R2 := fun x y H Q => ∃ (t : Bool) (a b : PyData) (n m : Nat), Row t a n ∧ Row t b m ∧ Dt K H x a ∧ Dt K H y b ∧ n + m ≤ 2000 ∧ ∀ v H', Same H H' → Dt K H' v (catD a b) → Q v H'
theorem op_catD : OpR X (binaryOp .Add) (rCatD X.K) := by
  intro pins s σ H x y v u Q I rx ry h
  obtain ⟨t, a, b, n, m, ha, hb, da, db, hz, q⟩ := h
  cases ha with
  | txt e l =>
    cases hb with
    | txt e2 l2 =>
      cases da.str_inv; cases db.str_inv
      exact op_add_str pins s σ H _ _ v u Q I rx ry ⟨_, _, rfl, rfl, by rw [e, e2]; exact Nat.le_trans hz (by decide), q _ _ (Same.refl _) (.str _)⟩
  | @tup ds _ e l =>
    cases hb with
    | @tup es _ e2 l2 =>
      obtain ⟨p, xs, rfl, hs, ax⟩ := da.tuple_inv
      obtain ⟨p2, ys, rfl, hs2, ay⟩ := db.tuple_inv
      have lx := ax.length
      have ly := ay.length
      refine op_catA pins s σ H _ _ v u Q I rx ry ⟨p, p2, xs, ys, rfl, rfl, hs, hs2, by rw [lx, ly, e, e2]; exact Nat.le_trans hz (by decide), fun h0 => ?_, fun _ h0 => ?_, fun _ _ z hz => ?_⟩
      · subst h0
        have : ds = [] := List.eq_nil_of_length_eq_zero (by rw [← lx]; rfl)
        subst this
        exact q _ _ (Same.refl _) db
      · subst h0
        have : es = [] := List.eq_nil_of_length_eq_zero (by rw [← ly]; rfl)
        subst this
        refine q _ _ (Same.refl _) ?_
        show Dt X.K H (.ref p) (.tuple (ds ++ []))
        rw [List.append_nil]; exact da
      · exact q _ _ (Same.new hz) (Dt.made hz (DtAll.app ax ay))
/-- a * k, a row and an int -/
def rRepD (K : PySem.W.Frag) : R2 := fun x y H Q => ∃ (t : Bool) (a : PyData) (n : Nat) (k : Int), Row t a n ∧ Dt K H x a ∧ y = .int k ∧ 1 ≤ n ∧ 1 ≤ k ∧ n * k ≤ 1000 ∧ ∀ v H', Same H H' → Dt K H' v (repD a k) → Q v H'
theorem dtRep {K : PySem.W.Frag} {H : Hp} {xs : List V} {ds : List PyData} (h : DtAll K H xs ds) : ∀ m : Nat, DtAll K H (List.replicate m xs).flatten (List.replicate m ds).flatten
  | 0 => .nil
  | m + 1 => by
    rw [List.replicate_succ, List.flatten_cons, List.replicate_succ, List.flatten_cons]
    exact DtAll.app h (dtRep h m)
theorem op_repD : OpR X (binaryOp .Mult) (rRepD X.K) := by
  intro pins s σ H x y v u Q I rx ry h
  obtain ⟨t, a, n, k, ha, da, rfl, hn, hk, hz, q⟩ := h
  have k1 : k ≤ 1000 := by
    have : 1 * k ≤ n * k := Int.mul_le_mul_of_nonneg_right (by omega) (by omega)
    omega
  have n1 : n ≤ 1000 := by
    have : (n : Int) * 1 ≤ n * k := Int.mul_le_mul_of_nonneg_left hk (by omega)
    omega
  cases ha with
  | txt e l =>
    cases da.str_inv
    refine op_rep_str pins s σ H _ _ v u Q I rx ry ⟨_, k, rfl, rfl, by omega, by omega, ?_, q _ _ (Same.refl _) (.str _)⟩
    rw [e]
    exact Nat.le_trans (Nat.mul_le_mul n1 (show k.toNat ≤ 1000 by omega)) (by decide)
  | @tup ds _ e l =>
    obtain ⟨p, xs, rfl, hs, ax⟩ := da.tuple_inv
    have lx := ax.length
    refine op_repTA pins s σ H _ _ v u Q I rx ry ⟨p, k, xs, rfl, rfl, hs, fun z => ?_, hk, k1, by omega, fun h1 => ?_, fun h1 z hz => ?_⟩
    · subst z
      rw [List.length_nil] at lx
      omega
    · subst h1
      refine q _ _ (Same.refl _) ?_
      show Dt X.K H (.ref p) (.tuple (List.replicate 1 ds).flatten)
      rw [show (List.replicate 1 ds).flatten = ds by simp]
      exact da
    · exact q _ _ (Same.new hz) (Dt.made hz (dtRep ax _))
/-- a[:0], a row -/
def rNoneD (K : PySem.W.Frag) : V → Option Int → Option Int → Hp → VK → Prop := fun x lo hi H Q => ∃ (t : Bool) (a : PyData) (n : Nat), Row t a n ∧ Dt K H x a ∧ n ≤ 2000 ∧ lo = none ∧ hi = some 0 ∧ ∀ v H', Same H H' → Dt K H' v (noneD a) → Q v H'
theorem sl_noneD : SlR X (rNoneD X.K) := by
  intro pins s σ H x v vl vu lo hi sl Q I rx hs pl pu h
  obtain ⟨t, a, n, ha, da, hn, rfl, rfl, q⟩ := h
  cases ha with
  | txt e l =>
    cases da.str_inv
    exact sl_str pins s σ H _ v vl vu _ _ sl Q I rx hs pl pu ⟨_, rfl, by rw [e]; exact Nat.le_trans hn (by decide), q _ _ (Same.refl _) (.str _)⟩
  | @tup ds _ e l =>
    obtain ⟨p, xs, rfl, hq, ax⟩ := da.tuple_inv
    have lx := ax.length
    refine sl_tupA pins s σ H _ v vl vu _ _ sl Q I rx hs pl pu ⟨p, xs, rfl, hq, fun hw => ?_, fun _ z hz => ?_⟩
    · have h0 : ds.length = 0 := by
        have := hw.2
        rw [show (some (0 : Int)) = some ((0 : Nat) : Int) from rfl, HT.sIx_nat] at this
        omega
      have := List.eq_nil_of_length_eq_zero h0
      subst this
      exact q _ _ (Same.refl _) da
    · refine q _ _ (Same.new hz) (Dt.made hz ?_)
      have : cutV xs none (some 0) = [] := by
        apply List.eq_nil_of_length_eq_zero
        unfold cutV
        rw [List.length_take, show (some (0 : Int)) = some ((0 : Nat) : Int) from rfl, HT.sIx_nat]
        omega
      rw [this]
      exact .nil
/-- len(a), a row -/
def rLenD (K : PySem.W.Frag) : List V → Hp → VK → Prop := fun vs H Q => ∃ (v : V) (t : Bool) (a : PyData) (n : Nat), vs = [v] ∧ Row t a n ∧ Dt K H v a ∧ n ≤ 2000 ∧ Q (.int (n : Int)) H
theorem call_lenD' : CallR X (.builtin "len") (rLenD X.K) := by
  intro pins s σ H xs us Q I r h
  obtain ⟨v, t, a, n, rfl, ha, da, hn, q⟩ := h
  cases ha with
  | txt e l =>
    cases da.str_inv
    exact call_len pins s σ H _ us Q I r ⟨_, n, rfl, ⟨by rw [e]; exact Nat.le_trans hn (by decide), e.symm⟩, q⟩
  | @tup ds _ e l =>
    obtain ⟨p, ys, rfl, hq, ax⟩ := da.tuple_inv
    exact call_len pins s σ H _ us Q I r ⟨_, n, rfl, .inr ⟨_, hq, by rw [ax.length, e]⟩, q⟩
end
end LK

set_option Elab.async false
set_option linter.all false
set_option maxRecDepth 100000
set_option maxHeartbeats 4000000
set_option exponentiation.threshold 3000
/-! Letters, digits, underscores; texts of the top. -/
namespace LK
open PySem PySem.Spec PyProof.Rows L2 SX
def isD (c : Nat) : Bool := decide (48 ≤ c) && decide (c ≤ 57)
def isL (c : Nat) : Bool := (decide (65 ≤ c) && decide (c ≤ 90)) || (decide (97 ≤ c) && decide (c ≤ 122)) || c == 95
def isW (c : Nat) : Bool := isD c || isL c
theorem isW_lt {c : Nat} (h : isW c = true) : c < 128 := by
  simp [isW, isD, isL] at h; omega
theorem uni_alpha : ∀ c < 128, Unicode.isAlpha c = (isL c && c != 95) := by decide +kernel
theorem uni_digit : ∀ c < 128, Unicode.isDigit c = isD c := by decide +kernel
theorem uni_alnum : ∀ c < 128, Unicode.isAlnum c = (isW c && c != 95) := by decide +kernel
theorem alpha1 {c : Nat} (h : c < 128) : Txt.isalpha (S [c]) = (isL c && c != 95) := by
  show (decide ((S [c]).length > 0) && (S [c]).cps.all Unicode.isAlpha) = _
  rw [S_len]; simp [S, uni_alpha c h]
theorem digit1 {c : Nat} (h : c < 128) : Txt.isdigit (S [c]) = isD c := by
  show (decide ((S [c]).length > 0) && (S [c]).cps.all Unicode.isDigit) = _
  rw [S_len]; simp [S, uni_digit c h]
theorem alnum1 {c : Nat} (h : c < 128) : Txt.isalnum (S [c]) = (isW c && c != 95) := by
  show (decide ((S [c]).length > 0) && (S [c]).cps.all Unicode.isAlnum) = _
  rw [S_len]; simp [S, uni_alnum c h]
theorem digitS {a : List Nat} (h : ∀ c ∈ a, c < 128) (hne : a ≠ []) : Txt.isdigit (S a) = a.all isD := by
  show (decide ((S a).length > 0) && (S a).cps.all Unicode.isDigit) = _
  have : 0 < a.length := List.length_pos_iff.mpr hne
  rw [S_len, decide_eq_true this, Bool.true_and]
  show a.toArray.all Unicode.isDigit = _
  rw [List.all_toArray]
  apply Bool.eq_iff_iff.mpr
  rw [List.all_eq_true, List.all_eq_true]
  exact ⟨fun g c hc => uni_digit c (h c hc) ▸ g c hc, fun g c hc => (uni_digit c (h c hc)).symm ▸ g c hc⟩
/-! texts of the top -/
def GStr (mg : Str → Option Value) (x : Str) (z : Str) : Prop := ∃ t, mg x = some (.str z t)
def HasStr (K : PySem.W.Frag) (x : Str) (p : Str → Prop) : Prop := ∃ (z : Str) (t : Tok), PySem.W.nsIn K mainGlobals x = some (some (.str z t)) ∧ p z
theorem HasStr.mk' {K : PySem.W.Frag} {x : Str} {p : Str → Prop} {z : Str} {t : Tok} (a : PySem.W.nsIn K mainGlobals x = some (some (.str z t))) (b : p z) : HasStr K x p := ⟨z, t, a, b⟩
theorem HasStr.g {K : PySem.W.Frag} {mg : Str → Option Value} {h : Heap} {x : Str} {p : Str → Prop} (i : HasStr K x p) (X : K.In h) (G : h.Ns mainGlobals mg) : ∃ z, GStr mg x z ∧ p z := by
  obtain ⟨z, t, e, hp⟩ := i
  exact ⟨z, ⟨t, PySem.W.mg_of X G e⟩, hp⟩
theorem pe_globS {X : Cx} {x z : Str} {pos : Pos} (h : GStr X.mg x z) (hg : Gl X x) (hd : (x == ("__debug__" : Str)) = false := by decide) : PE X (.Name x pos) (tC (.str z)) := by
  obtain ⟨t, e⟩ := h
  exact pe_glob hg e ⟨t, rfl⟩ hd
theorem split1 {a : List Nat} {c : Nat} (h : c ∉ a) (hc : c < 256) : Txt.split (S a) (S [c]) = [S a] := by
  rw [split_S (by simp) (by simpa using hc)]
  have := SX.spl_join (c := c) (sep := []) (parts := [a]) (by simp) (by simpa using h)
  have e : TL.joinL [c] [a] = a := by simp [TL.joinL]
  rw [e] at this
  rw [this]; rfl
theorem lstrip1 {a : List Nat} {b : List Nat} (h : ∀ c, a.head? = some c → c ∉ b) : Txt.lstripChars (S a) (S b) = S a := by
  have e1 : (S a).cps.toList.takeWhile (S b).cps.contains = [] := tw0 a fun c hc => by
    have := h c hc
    show b.toArray.contains c = false
    rw [List.contains_toArray]
    simpa using this
  have e0 : stripLo (S b).cps.contains true (S a) = 0 := by
    unfold stripLo
    rw [if_pos rfl, e1] <;> rfl
  have e3 : stripHi (S b).cps.contains false (S a) 0 = (S a).length := by
    unfold stripHi
    rw [if_neg Bool.false_ne_true]
  unfold Txt.lstripChars Txt.stripBy stripSame
  rw [e0, e3]
  exact if_pos (by simp)
/-! while, its test's reading made monotone -/
def tUp (c : TT) : TT := fun σ H Q => ∃ P : Bool → Hp → Prop, c σ H P ∧ ∀ b H1, P b H1 → Q b H1
theorem pt_up {X : Cx} {e : Expr} {c : TT} (h : PT X e c) : PT X e (tUp c) :=
  ⟨fun pins s σ H Q I ⟨P, hP, k⟩ => thn (h.run pins s σ H P I hP) fun b s1 ⟨H1, I1, q⟩ => ⟨H1, I1, k _ _ q⟩⟩
theorem while_up {c : TT} {tb : TS} {D : Ends} {σ : L2.St} {H : Hp} (Pv : L2.St → Hp → Prop) (μ : L2.St → Hp → Nat) (h0 : Pv σ H)
    (hs : ∀ σ H, Pv σ H → c σ H fun b H1 => if b = true then tb { D with nx := fun σ' H' => Pv σ' H' ∧ μ σ' H' < μ σ H, ct := fun σ' H' => Pv σ' H' ∧ μ σ' H' < μ σ H, bk := D.nx } σ H1 else D.nx σ H1) : tWhile (tUp c) tb D σ H :=
  while_by Pv μ h0 (fun σ H p => ⟨_, hs σ H p, fun _ _ h => h⟩) (fun σ H Q Q' hq ⟨P, hP, k⟩ => ⟨P, hP, fun b H1 h => hq b H1 (k b H1 h)⟩)
theorem nl_S : ("\n" : Str) = S [10] := by decide +kernel
theorem us_S : ("_" : Str) = S [95] := by decide +kernel
theorem sp_S : (" " : Str) = S [32] := by decide +kernel
theorem hash_S : ("#" : Str) = S [35] := by decide +kernel
theorem sign_eq {c d : Nat} : decide (V.str ⟨#[c]⟩ = V.str (S [d])) = decide (c = d) := by
  by_cases h : c = d
  · subst h; rw [decide_eq_true rfl, decide_eq_true rfl]
  · rw [decide_eq_false h, decide_eq_false]
    intro e
    have := S_inj (a := [c]) (b := [d]) (V.str.inj e)
    exact h (by simpa using this)
theorem str_eq {a b : List Nat} : decide (V.str (S a) = V.str (S b)) = decide (a = b) := by
  by_cases h : a = b
  · subst h; rw [decide_eq_true rfl, decide_eq_true rfl]
  · rw [decide_eq_false h, decide_eq_false]
    intro e
    exact h (S_inj (V.str.inj e))
theorem starts1 {c d : Nat} {r : List Nat} : Txt.startswith (S (c :: r)) (S [d]) = decide (c = d) := by
  show (decide (0 + (S [d]).length ≤ (S (c :: r)).length) && ((c :: r).toArray.extract 0 (0 + (S [d]).length) == [d].toArray)) = _
  rw [S_len, S_len]
  have e : (c :: r).toArray.extract 0 (0 + [d].length) = #[c] := by simp
  rw [e]
  by_cases h : c = d
  · subst h; simp
  · simp [h]
theorem at_S {a : List Nat} {j c : Nat} (h : a[j]? = some c) : atI (S a).cps.toList (j : Int) = some c := atI_nat h
theorem cut_all {a : List Nat} : cutS (S a) (some 0) (some ((a.length : Nat) : Int)) = S a := by
  unfold cutS
  rw [S_len, show (some (0 : Int)) = some ((0 : Nat) : Int) from rfl, HT.sIx_nat, HT.sIx_nat]
  show (⟨((a.drop (min 0 a.length)).take (min a.length a.length - min 0 a.length)).toArray⟩ : Str) = ⟨a.toArray⟩
  rw [Nat.zero_min, List.drop_zero, Nat.min_self, Nat.sub_zero, List.take_length]
/-! a promise at a higher level -/
theorem FnG.mono {P : Program} {w : World} {K : PySem.W.Frag} {mg : Str → Option Value} {base : Heap} {CX : CXT} {j k : Nat} {f : Addr} {fd : FuncData} {ps : List Str} {sp : Sp} (F : FnG P w K mg base CX j f fd ps sp) (h : j ≤ k) : FnG P w K mg base CX k f fd ps sp :=
  ⟨F.len, fun A outer s H args us vs Q E hr => F.run A outer s H args us vs Q E (hr.mono h)⟩
theorem Use.mono {P : Program} {w : World} {K : PySem.W.Frag} {mg : Str → Option Value} {base : Heap} {CX : CXT} {x : Str} {j k : Nat} {ps : List Str} {sp : Sp} (U : Use P w K mg base CX x j ps sp) (h : j ≤ k) : Use P w K mg base CX x k ps sp := by
  obtain ⟨f, fd, ok, r⟩ := U.ex
  exact ⟨f, fd, ok.mono h, r⟩
/-! the signs that a program may hold -/
def okC (c : Nat) : Bool := c == 10 || (decide (32 ≤ c) && decide (c ≤ 126) && c != 37)
theorem okC_lt {c : Nat} (h : okC c = true) : c < 128 := by
  simp [okC] at h; omega
theorem lstrip_sp (a : List Nat) : Txt.lstripChars (S a) (S [32]) = S (a.dropWhile (· == 32)) := by
  have e1 : (S a).cps.toList.takeWhile (S [32]).cps.contains = a.takeWhile (· == 32) := by
    show a.takeWhile _ = _
    congr 1
    funext c
    show #[32].contains c = _
    simp [Array.contains, BEq.comm]
  have el : (a.takeWhile (· == 32)).length ≤ a.length := (List.takeWhile_prefix _).length_le
  have ed : a.drop (a.takeWhile (· == 32)).length = a.dropWhile (· == 32) := by
    have h := List.takeWhile_append_dropWhile (p := (· == 32)) (l := a)
    have : (a.takeWhile (· == 32) ++ a.dropWhile (· == 32)).drop (a.takeWhile (· == 32)).length = a.dropWhile (· == 32) := List.drop_left
    rwa [h] at this
  have e0 : stripLo (S [32]).cps.contains true (S a) = (a.takeWhile (· == 32)).length := by
    unfold stripLo
    rw [if_pos rfl, e1] <;> rfl
  have e3 : stripHi (S [32]).cps.contains false (S a) (a.takeWhile (· == 32)).length = (S a).length := by
    unfold stripHi
    rw [if_neg Bool.false_ne_true]
  unfold Txt.lstripChars Txt.stripBy stripSame stripped
  rw [e0, e3]
  split
  · rename_i h
    simp at h
    have : (a.takeWhile (· == 32)).length = 0 := by simpa using h
    rw [this, List.drop_zero] at ed
    rw [← ed]
  · show (⟨a.toArray.extract (a.takeWhile (· == 32)).length (S a).length⟩ : Str) = _
    rw [S_len, ← ed]
    congr 1
    apply Array.toList_inj.mp
    simp only [Array.toList_extract, List.extract_eq_drop_take]
    exact List.take_of_length_le (by rw [List.length_drop]; omega)
/-- z[i:j] by codes -/
theorem cut_S {a : List Nat} {i j : Nat} (hi : i ≤ a.length) (hj : j ≤ a.length) : cutS (S a) (some ((i : Nat) : Int)) (some ((j : Nat) : Int)) = S ((a.drop i).take (j - i)) := by
  unfold cutS
  rw [S_len, HT.sIx_nat, HT.sIx_nat, Nat.min_eq_left hi, Nat.min_eq_left hj]
/-- a line: so many spaces, and perhaps a word -/
def lnT (s : Nat) (w : List Nat) : List Nat := List.replicate s 32 ++ w
theorem lnT_len (s : Nat) (w : List Nat) : (lnT s w).length = s + w.length := by simp [lnT]
theorem lnT_sp {s : Nat} {w : List Nat} {i : Nat} (h : i < s) : (lnT s w)[i]? = some 32 := by
  unfold lnT
  rw [List.getElem?_append_left (by simpa using h), List.getElem?_replicate, if_pos h]
theorem lnT_w {s : Nat} {w : List Nat} {i : Nat} : (lnT s w)[s + i]? = w[i]? := by
  unfold lnT
  rw [List.getElem?_append_right (by simp), List.length_replicate, Nat.add_sub_cancel_left]
theorem lnT_drop (s : Nat) (w : List Nat) : (lnT s w).drop s = w := by
  unfold lnT
  rw [List.drop_append_of_le_length (by simp)]
  simp
/-- a while by an invariant that carries its measure -/
theorem while_upN {c : TT} {tb : TS} {D : Ends} {σ : L2.St} {H : Hp} (W : Nat → L2.St → Hp → Prop) (h0 : ∃ m, W m σ H)
    (hs : ∀ m σ H, W m σ H → c σ H fun b H1 => if b = true then tb { D with nx := fun σ' H' => ∃ m', m' < m ∧ W m' σ' H', ct := fun σ' H' => ∃ m', m' < m ∧ W m' σ' H', bk := D.nx } σ H1 else D.nx σ H1) : tWhile (tUp c) tb D σ H := by
  refine ⟨W, h0, fun m σ H w => ⟨_, hs m σ H w, fun b H1 h => ?_⟩⟩
  cases b with
  | false => exact h
  | true => exact ⟨_, fun σ' H' q => q, h⟩
end LK

set_option Elab.async false
set_option linter.all false
set_option maxRecDepth 100000
set_option maxHeartbeats 4000000
set_option exponentiation.threshold 3000
/-! What several laws share: boxes and lists beside changes of other objects. -/
namespace LK
open PySem PySem.Spec PyProof.Rows L2
section
variable {K : PySem.W.Frag}
theorem BoxAt.ne_new {H : Hp} {p dl b : Addr} (B : BoxAt H p dl) (h : H b = none) : b ≠ p ∧ b ≠ dl := by
  obtain ⟨xs, g⟩ := B.at_
  obtain ⟨ys, g2⟩ := B.dg
  exact ⟨fun e => (by subst e; rw [h] at g; cases g), fun e => (by subst e; rw [h] at g2; cases g2)⟩
theorem BoxAt.kp {H H' : Hp} {p dl : Addr} (B : BoxAt H p dl) (h : ∀ b o, b = p ∨ b = dl → H b = some o → H' b = some o) : BoxAt H' p dl := by
  obtain ⟨ds, k, a, b, c, d⟩ := B
  exact ⟨ds, k, h _ _ (.inl rfl) a, b, h _ _ (.inr rfl) c, d⟩
theorem BoxAt.keep' {H H' : Hp} {p dl l : Addr} (B : BoxAt H p dl) (k : Keep l H H') (h1 : l ≠ p) (h2 : l ≠ dl) : BoxAt H' p dl :=
  B.kp fun b o hb e => k b o e (by
    rcases hb with rfl | rfl
    · exact Ne.symm h1
    · exact Ne.symm h2)
theorem BoxAt.keep2 {H H' : Hp} {p dl l m : Addr} (B : BoxAt H p dl) (k : ∀ b o, H b = some o → b ≠ l → b ≠ m → H' b = some o) (h1 : l ≠ p) (h2 : l ≠ dl) (h3 : m ≠ p) (h4 : m ≠ dl) : BoxAt H' p dl :=
  B.kp fun b o hb e => by
    rcases hb with rfl | rfl
    · exact k _ _ e (Ne.symm h1) (Ne.symm h3)
    · exact k _ _ e (Ne.symm h2) (Ne.symm h4)
theorem KeepT.ins {p C dx : Addr} {H : Hp} {o : HO} {fs : List (Str × V)} (hp : H p = some (.ins C dx fs)) : KeepT K H (L2.upd H p o) := fun a xs h => by
  rcases h with (h | ⟨o', h⟩) | h
  · exact .inl (.inl (by rw [upd_ne (ne_of h hp (by intro z; cases z))]; exact h))
  · exact .inl (.inr ⟨o', by rw [upd_ne (ne_of h hp (by intro z; cases z))]; exact h⟩)
  · exact .inr h
theorem listAt_ins {p C dx l : Addr} {H : Hp} {o : HO} {fs : List (Str × V)} {ds : List PyData} (h : ListAt K H l ds) (hp : H p = some (.ins C dx fs)) : ListAt K (upd H p o) l ds := by
  obtain ⟨xs, e, a⟩ := h
  exact ⟨xs, by rw [upd_ne (ne_of e hp (by intro z; cases z))]; exact e, DtAll.keepT (KeepT.ins hp) a⟩
theorem Low.zero : Low "" := fun c hc => by
  have e : ("" : Str).cps.toList = [] := by decide +kernel
  rw [e] at hc; cases hc
theorem DtAll.take {H : Hp} : ∀ (n : Nat) {vs : List V} {ds : List PyData}, DtAll K H vs ds → DtAll K H (vs.take n) (ds.take n)
  | 0, _, _, _ => .nil
  | _ + 1, _, _, .nil => .nil
  | n + 1, _, _, .cons h a => .cons h (DtAll.take n a)
theorem len_start0 : (startD []).length = 17 := by decide
theorem sm_start0 : ∀ d ∈ startD [], Sm d 5 150000 := fun d hd => sm_start (hs := []) (L := 0) (by simp) (by simp) d hd
theorem sm_heap {ds : List PyData} (h : ds.length ≤ 30) (sm : ∀ d ∈ ds, Sm d 5 150000) : ShowOk (.list ds) := (Sm.lst ((SmAll.many sm).mem (m := 30) (M := 4500000) h (by omega))).show (by decide) (by decide)
theorem ListAt.dp {H : Hp} {l : Addr} {ds : List PyData} (h : ListAt K H l ds) : Dp K H (.ref l) (.list ds) := let ⟨_, e, a⟩ := h; .lst (SqL.of e) a.dp
end
theorem FnG.or {P : Program} {w : World} {K : PySem.W.Frag} {mg : Str → Option Value} {base : Heap} {CX : CXT} {k : Nat} {f : Addr} {fd : FuncData} {ps : List Str} {sp sp' : Sp} (A : FnG P w K mg base CX k f fd ps sp) (B : FnG P w K mg base CX k f fd ps sp') :
    FnG P w K mg base CX k f fd ps (fun vs H Q E => sp vs H Q E ∨ sp' vs H Q E) where
  len := fun vs H Q E h => h.elim (A.len vs H Q E) (B.len vs H Q E)
  run := fun A' outer s H args us vs Q E hr hg he hb hv h => h.elim (A.run A' outer s H args us vs Q E hr hg he hb hv) (B.run A' outer s H args us vs Q E hr hg he hb hv)
/-- start_heap of a list of names -/
def spStartL (K : PySem.W.Frag) : Sp := fun vs H Q _ => ∃ (t : Addr) (hs : List Str), vs = [.ref t] ∧ SqL K H t (hs.map V.str) ∧ hs.length ≤ 1000 ∧
  ∀ (p : Addr) (H' : Hp), H p = none → Same H H' → ListAt K H' p (startD hs) → Q (.ref p) H'
def spStart2 (K : PySem.W.Frag) : Sp := fun vs H Q E => spStart K vs H Q E ∨ spStartL K vs H Q E
theorem ip_fdiv {X : Cx} : PIp X .FloorDiv (rI CDiv fun i j => .int (i / j)) := fun pins s σ H x y v u Q I r1 r2 h => iop_fdiv pins s σ H x y v u Q I r1 r2 h
theorem none_back0 {p np : Addr} {H H' : Hp} (K1 : Keep p H H') (B : ∃ xs, H' p = some (.lst xs)) (h : H' np = none) : H np = none := by
  cases e : H np with
  | none => rfl
  | some o =>
    by_cases ep : np = p
    · subst ep
      obtain ⟨xs, g⟩ := B
      rw [g] at h; cases h
    · rw [K1 _ _ e ep] at h; cases h
end LK

set_option Elab.async false
set_option linter.all false
set_option maxRecDepth 100000
set_option maxHeartbeats 4000000
/-! dicts of the top: what a literal dict of the program gives, read where it stands. -/
namespace LK
open PySem PySem.Spec PyProof.Rows L2
/-- at a lies a dict of the top with these entries -/
def KDct (P : Program) (w : World) (K : PySem.W.Frag) (a : Addr) (kvs : List (Key × V)) : Prop := (a == sysModules) = false ∧ ∃ vs, KV kvs vs ∧ ∀ h : Heap, K.In h → h.DictOf (mixKind P w) a vs
def tDGetK (P : Program) (w : World) (K : PySem.W.Frag) (td ty : TE) : TE := fun σ H Q => td σ H fun x H1 => ty σ H1 fun y H2 => ∃ a kvs k v, x = .ref a ∧ KDct P w K a kvs ∧ y = kV k ∧ valV kvs k = some v ∧ Q v H2
def tDInK (P : Program) (w : World) (K : PySem.W.Frag) (ty td : TE) : TE := fun σ H Q => ty σ H fun y H1 => td σ H1 fun x H2 => ∃ a kvs k, x = .ref a ∧ KDct P w K a kvs ∧ y = kV k ∧ Q (.bl (valV kvs k).isSome) H2
section
variable {X : Cx} {o i : Expr} {pos : Pos} {td ty : TE}
theorem pe_dgetK (ho : PE X o td) (hi : PE X i ty) (hs : NoSl i) : PE X (.Subscript o i pos) (tDGetK X.prog X.w X.K td ty) := by
  refine ⟨fun pins s σ H Q I h => ?_⟩
  refine subD_of PySem.F.slot_dict_getitem.lookup hs (thn (ho.run pins s σ H _ I h) fun u s1 ⟨x, H1, I1, rx, q1⟩ => thn (hi.run pins s1 σ H1 _ I1 q1) fun iv s2 ⟨y, H2, I2, ry, a, kvs, k, v, ex, ⟨hsys, vs, rel, dd⟩, ey, l, q2⟩ => ?_)
  subst ex ey
  obtain rfl : u = Value.ref a := rx
  have dd := dd _ I2.kIn
  refine ⟨dd.typeIs, ?_⟩
  obtain ⟨w', hw, rw'⟩ := RelO.some_of (v := v) (o := valueAt vs k) (by rw [← l]; exact rel.val k)
  exact wpAny_getItem_of (kV_is ry) dd.mapOf hw ⟨v, H2, I2.tok _, rw', q2⟩
theorem pc_dinK (hi : PE X i ty) (ho : PE X o td) : PC X .In i o (tDInK X.prog X.w X.K ty td) := by
  refine ⟨fun pins s σ H Q I h => ?_⟩
  refine thn (hi.run pins s σ H _ I h) fun iv s1 ⟨y, H1, I1, ry, q1⟩ => thn (ho.run pins s1 σ H1 _ I1 q1) fun u s2 ⟨x, H2, I2, rx, a, kvs, k, ex, ⟨hsys, vs, rel, dd⟩, ey, q2⟩ => ?_
  subst ex ey
  obtain rfl : u = Value.ref a := rx
  have dd := dd _ I2.kIn
  refine wpAny_in_of (kV_is ry) hsys dd.mapOf ?_
  rw [← (rel.val k).isSome_eq]
  exact ⟨.bl _, H2, I2.tok _, rfl, q2⟩
end
/-! its fact from the top -/
def HasDct (P : Program) (w : World) (K : PySem.W.Frag) (x : Str) (kvs : List (Key × V)) : Prop := ∃ a, PySem.W.nsIn K mainGlobals x = some (some (.ref a)) ∧ KDct P w K a kvs
structure UseD (P : Program) (w : World) (K : PySem.W.Frag) (mg : Str → Option Value) (x : Str) (kvs : List (Key × V)) : Prop where
  ex : ∃ a, mg x = some (.ref a) ∧ KDct P w K a kvs
/-- entries whose keys and values are texts -/
inductive DEnt (w : World) : List DictEntry → List (Str × Str) → Prop
  | nil : DEnt w [] []
  | cons {e : DictEntry} {es : List DictEntry} {k v : Str} {ps : List (Str × Str)} {t t' : Tok} : e.key = .str k t → e.hash = hashStr w k → e.val = .str v t' → DEnt w es ps → DEnt w (e :: es) ((k, v) :: ps)
def txtKV (ps : List (Str × Str)) : List (Key × V) := ps.map fun p => (.inr p.1, .str p.2)
theorem DEnt.pairs {P : Program} {w : World} : ∀ {es : List DictEntry} {ps : List (Str × Str)}, DEnt w es ps → ∃ vs : List (Key × Value), KV (txtKV ps) vs ∧ PySem.Pairs (mixKind P w) es vs ∧ vs.map (·.1) = ps.map (fun p => (Sum.inr p.1 : Key)) ∧ ∀ e ∈ es, ∃ k, (mixKind P w).is k e.key = true ∧ e.hash = (mixKind P w).hash k
  | _, _, .nil => ⟨[], .nil, .nil, rfl, fun _ h => by cases h⟩
  | _, _, .cons (k := k) (v := v) (t := t) (t' := t') hk hh hv r => by
    obtain ⟨vs, a, b, c, d⟩ := DEnt.pairs (P := P) r
    refine ⟨(.inr k, .str v t') :: vs, .cons ⟨rfl, ⟨_, rfl⟩⟩ a, .cons (by rw [hk]; exact mixKind_str P w k t) hv b, by rw [List.map_cons, c]; rfl, fun e he => ?_⟩
    rcases List.mem_cons.mp he with rfl | he
    · exact ⟨.inr k, by rw [hk]; exact mixKind_str P w k t, hh⟩
    · exact d e he
theorem nodup_inr : ∀ {xs : List Str}, xs.Nodup → (xs.map (Sum.inr : Str → Key)).Nodup
  | [], _ => .nil
  | x :: r, h => by
    obtain ⟨h1, h2⟩ := List.nodup_cons.mp h
    refine List.nodup_cons.mpr ⟨fun hm => ?_, nodup_inr h2⟩
    obtain ⟨y, hy, e⟩ := List.mem_map.mp hm
    exact h1 (Sum.inr.inj e ▸ hy)
theorem HasDct.mk' {P : Program} {w : World} {K : PySem.W.Frag} {x : Str} {ps : List (Str × Str)} {a : Addr} {es : Array DictEntry} {ep : Nat} (h : PySem.W.nsIn K mainGlobals x = some (some (.ref a)))
    (b : K.lookup a = some { cls := .type "dict", data := .dict es ep }) (hs : (a == sysModules) = false) (c : DEnt w es.toList ps) (nd : (ps.map (·.1)).Nodup) : HasDct P w K x (txtKV ps) := by
  obtain ⟨vs, v1, v2, v3, v4⟩ := DEnt.pairs (P := P) c
  refine ⟨a, h, hs, vs, v1, fun hh hK => ⟨_, es, ep, hK a _ b, ⟨rfl, rfl, rfl⟩, rfl, fun e he => v4 e (Array.mem_toList_iff.mpr he), v2, ?_⟩⟩
  rw [v3]
  have : ps.map (fun p => (Sum.inr p.1 : Key)) = (ps.map (·.1)).map Sum.inr := by rw [List.map_map]; rfl
  rw [this]
  exact nodup_inr nd
theorem HasDct.g {P : Program} {w : World} {K : PySem.W.Frag} {mg : Str → Option Value} {h : Heap} {x : Str} {kvs : List (Key × V)} (D : HasDct P w K x kvs) (X : K.In h) (G : h.Ns mainGlobals mg) : UseD P w K mg x kvs := by
  obtain ⟨a, e, k⟩ := D
  exact ⟨a, PySem.W.mg_of X G e, k⟩
end LK

set_option Elab.async false
set_option linter.all false
set_option maxRecDepth 100000
set_option maxHeartbeats 4000000
/-! Defs held by names and by dicts of the top: action = D[k]; action(x). The keys and the length of a dict of the top. -/
namespace LK
open PySem PySem.Spec PyProof.Rows L2
/-! ### a def that a local holds -/
def tCallV (X : Cx) (k : Nat) (i : Nat) (t : TA) : TE := fun σ H Q => ∃ (f : Addr) (fd : FuncData) (ps : List Str) (sp : Sp), σ[i]? = some (some (.ref f)) ∧ FnG X.prog X.w X.K X.mg X.base CX0 k f fd ps sp ∧ PySem.W.keepIn X.K (.ref f) = true ∧ Binds X.K fd ps [] ∧
  t σ H fun vs H1 => sp vs H1 Q E0
section
variable {X : Cx} {k i : Nat} {x : Str} {p pos : Pos} {e : Expr} {es : List Expr} {t : TA}
theorem pe_callV (hv : PE X (.Name x p) (tVar i)) (hr : Room k X.A) (gd : X.A.guards = some []) (ha : PA X (e :: es) t)
    (he : starEach (e :: es) X.env = (false, eval e X.env) :: starEach es X.env := by rfl) (hpl : (backTo pos (starEach es X.env)).any (·.1) = false := by rfl) : PE X (.Call (.Name x p) (e :: es) [] pos) (tCallV X k i t) := by
  refine ⟨fun pins s σ H Q I ⟨f, fd, ps, sp, eσ, F, kp, hb, h⟩ => ?_⟩
  refine wpAny_Call_Name_kw (thn (hv.run pins s σ H (fun v H' => v = V.ref f ∧ H' = H) I ⟨_, eσ, rfl, rfl⟩) fun u s1 ⟨v, H', I1, rv, ev, eH⟩ => ?_)
  subst ev eH
  obtain rfl : u = Value.ref f := rv
  exact PySem.W.callWith_K (h₀ := X.base) I1.ok.mod.kin kp (thn (ha.run pos pins s1 σ _ _ I1 h) fun us s2 ⟨vs, H2, I2, r, q⟩ => ⟨I2.kIn, run_fnG F hr gd hb pass0 I2 r q⟩) he hpl
end
/-! ### defs by name and place -/
def HasFnA (K : PySem.W.Frag) (x : Str) (st : Stmt) (f : Addr) : Prop := ∃ (oc : Value) (od an : Option Addr) (kV doc pm cdv ct : Value) (osl : Array (Option Value)),
  PySem.W.nsIn K mainGlobals x = some (some (.ref f)) ∧ K.lookup f = some ⟨oc, od, .func (PySem.W.fnOf x x (defArgs st) (defBody st) (defScope st) .none kV doc pm an cdv ct), osl⟩ ∧
  PySem.W.codeIn K cdv x = true ∧ PySem.W.keepIn K (.ref f) = true
theorem HasFnA.mk' {K : PySem.W.Frag} {x : Str} {st : Stmt} {f : Addr} {oc : Value} {od an : Option Addr} {kV doc pm cdv ct : Value} {osl : Array (Option Value)} (a : PySem.W.nsIn K mainGlobals x = some (some (.ref f)))
    (b : K.lookup f = some ⟨oc, od, .func (PySem.W.fnOf x x (defArgs st) (defBody st) (defScope st) .none kV doc pm an cdv ct), osl⟩) (c : PySem.W.codeIn K cdv x = true) (d : PySem.W.keepIn K (.ref f) = true) : HasFnA K x st f := ⟨oc, od, an, kV, doc, pm, cdv, ct, osl, a, b, c, d⟩
theorem HasFnA.fn {K : PySem.W.Frag} {x : Str} {st : Stmt} {f : Addr} (h : HasFnA K x st f) : HasFn K x st := by
  obtain ⟨oc, od, an, kV, doc, pm, cdv, ct, osl, a, b, c, d⟩ := h
  exact ⟨f, oc, od, an, kV, doc, pm, cdv, ct, osl, a, b, c, d⟩
structure UseA (P : Program) (w : World) (K : PySem.W.Frag) (mg : Str → Option Value) (base : Heap) (x : Str) (k : Nat) (ps : List Str) (sp : Sp) (f : Addr) : Prop where
  ex : ∃ fd : FuncData, FnG P w K mg base CX0 k f fd ps sp ∧ mg x = some (.ref f) ∧ PySem.W.keepIn K (.ref f) = true ∧ Binds K fd ps []
section
variable {P : Program} {w : World} {K : PySem.W.Frag} {mg : Str → Option Value} {base h : Heap}
theorem UseA.use {x : Str} {k : Nat} {ps : List Str} {sp : Sp} {f : Addr} (U : UseA P w K mg base x k ps sp f) : Use P w K mg base CX0 x k ps sp := by
  obtain ⟨fd, r⟩ := U.ex
  exact ⟨f, fd, r⟩
theorem mk_useA {x : Str} {st : Stmt} {k : Nat} {ps : List Str} {sp : Sp} {f : Addr} (F : HasFnA K x st f) (X : K.In h) (G : h.Ns mainGlobals mg)
    (hb : ∀ (kV doc pm : Value) (an : Option Addr) (cdv ct : Value) (us : List Value), us.length = ps.length → bindArgs (PySem.W.fnOf x x (defArgs st) (defBody st) (defScope st) .none kV doc pm an cdv ct) ⟨us, []⟩ = pure (ps.zip us))
    (ok : ∀ (f : Addr) (fd : FuncData), Fun K x x st f fd → FnG P w K mg base CX0 k f fd ps sp) : UseA P w K mg base x k ps sp f := by
  obtain ⟨oc, od, an, kV, doc, pm, cdv, ct, osl, e, l, c, kp⟩ := F
  have Fn := fun_mk (st := st) l c kp
  exact ⟨_, ok f _ Fn, PySem.W.mg_of X G e, kp, Fn.binds hb⟩
end
/-! ### a dict of the top whose values are defs -/
inductive FEnt (w : World) : List DictEntry → List (Str × Addr) → Prop
  | nil : FEnt w [] []
  | cons {e : DictEntry} {es : List DictEntry} {k : Str} {v : Addr} {ps : List (Str × Addr)} {t : Tok} : e.key = .str k t → e.hash = hashStr w k → e.val = .ref v → FEnt w es ps → FEnt w (e :: es) ((k, v) :: ps)
def fnKV (ps : List (Str × Addr)) : List (Key × V) := ps.map fun p => (.inr p.1, .ref p.2)
theorem FEnt.pairs {P : Program} {w : World} : ∀ {es : List DictEntry} {ps : List (Str × Addr)}, FEnt w es ps → ∃ vs : List (Key × Value), KV (fnKV ps) vs ∧ PySem.Pairs (mixKind P w) es vs ∧ vs.map (·.1) = ps.map (fun p => (Sum.inr p.1 : Key)) ∧ ∀ e ∈ es, ∃ k, (mixKind P w).is k e.key = true ∧ e.hash = (mixKind P w).hash k
  | _, _, .nil => ⟨[], .nil, .nil, rfl, fun _ h => by cases h⟩
  | _, _, .cons (k := k) (v := v) (t := t) hk hh hv r => by
    obtain ⟨vs, a, b, c, d⟩ := FEnt.pairs (P := P) r
    refine ⟨(.inr k, .ref v) :: vs, .cons ⟨rfl, rfl⟩ a, .cons (by rw [hk]; exact mixKind_str P w k t) hv b, by rw [List.map_cons, c]; rfl, fun e he => ?_⟩
    rcases List.mem_cons.mp he with rfl | he
    · exact ⟨.inr k, by rw [hk]; exact mixKind_str P w k t, hh⟩
    · exact d e he
theorem HasDct.mkF {P : Program} {w : World} {K : PySem.W.Frag} {x : Str} {ps : List (Str × Addr)} {a : Addr} {es : Array DictEntry} {ep : Nat} (h : PySem.W.nsIn K mainGlobals x = some (some (.ref a)))
    (b : K.lookup a = some { cls := .type "dict", data := .dict es ep }) (hs : (a == sysModules) = false) (c : FEnt w es.toList ps) (nd : (ps.map (·.1)).Nodup) : HasDct P w K x (fnKV ps) := by
  obtain ⟨vs, v1, v2, v3, v4⟩ := FEnt.pairs (P := P) c
  refine ⟨a, h, hs, vs, v1, fun hh hK => ⟨_, es, ep, hK a _ b, ⟨rfl, rfl, rfl⟩, rfl, fun e he => v4 e (Array.mem_toList_iff.mpr he), v2, ?_⟩⟩
  rw [v3]
  have : ps.map (fun p => (Sum.inr p.1 : Key)) = (ps.map (·.1)).map Sum.inr := by rw [List.map_map]; rfl
  rw [this]
  exact nodup_inr nd
/-! ### list(D), len(D) -/
def rListK (P : Program) (w : World) (K : PySem.W.Frag) : List V → Hp → VK → Prop := fun xs H Q => ∃ p kvs, xs = [.ref p] ∧ KDct P w K p kvs ∧ kvs.length ≤ 1000 ∧ ∀ q, H q = none → Q (.ref q) (upd H q (.lst (kvs.map fun kv => kV kv.1)))
theorem call_listK {X : Cx} (hc : X.calm = true) : CallR X (.type "list") (rListK X.prog X.w X.K) := by
  intro pins s σ H xs us Q I r h
  obtain ⟨p, kvs, rfl, ⟨hsys, vs, rel, dd⟩, hz, q⟩ := h
  obtain ⟨u, rfl, rx⟩ := vals1 r
  obtain rfl : u = Value.ref p := rx
  obtain ⟨ep, hat⟩ := (dd _ I.kIn).dictAt
  have hl : kvs.length = vs.length := Paired.length rel
  have hz2 : vs.length ≤ sizeLine := by rw [← hl]; exact Nat.le_trans hz (by decide)
  refine PySem.W.kdl_call (PySem.W.kdl_dict (knd := mixKind X.prog X.w) (kvs := vs) (ep := ep) hsys) (I.ok.hd hc) hat hz2 fun h2 tk acc c kk hS it => ?_
  have ok : ObjOk X.prog X.w (upd H s.heap.objs.size (.lst (kvs.map fun kv => kV kv.1))) h2 s.heap.objs.size (.lst (kvs.map fun kv => kV kv.1)) := by
    refine ⟨by rw [List.length_map, hl]; exact hz2, acc.toList, c, ?_, by rw [Array.toArray_toList]; exact hS⟩
    have el : acc.toList.length = acc.size := by simp
    refine vals_of_at (by rw [List.length_map, el, it.1, hl]) fun j x y h1 h2 => ?_
    obtain ⟨k, z, hkz, hi⟩ := it.2 j y (by rw [← Array.getElem?_toList]; exact h2)
    have e1 : (kvs.map (·.1))[j]? = some k := by
      rw [KV.keys rel, List.getElem?_map, hkz]
      rfl
    have e3 : (kvs.map fun kv => kV kv.1) = (kvs.map (·.1)).map kV := by rw [List.map_map]; rfl
    rw [e3, List.getElem?_map, e1] at h1
    cases h1
    exact keyIs_rel hi
  exact ⟨.ref s.heap.objs.size, _, I.laid kk (Nat.le_refl _) ok, rfl, q _ (I.hok.fresh (Nat.le_refl _))⟩
theorem call_lenDK {X : Cx} : CallR X (.builtin "len") (fun xs H Q => ∃ p kvs, xs = [V.ref p] ∧ KDct X.prog X.w X.K p kvs ∧ kvs.length ≤ 1000 ∧ Q (.int (kvs.length : Nat)) H) := by
  intro pins s σ H xs us Q I r h
  obtain ⟨p, kvs, rfl, ⟨hsys, vs, rel, dd⟩, hz, q⟩ := h
  obtain ⟨u, rfl, rx⟩ := vals1 r
  obtain rfl : u = Value.ref p := rx
  have hl : kvs.length = vs.length := Paired.length rel
  refine call_len_dict hsys (dd _ I.kIn) (by rw [← hl]; omega) ?_
  exact ⟨.int (kvs.length : Nat), H, I.tok _, ⟨_, by rw [hl]⟩, q⟩
end LK

set_option Elab.async false
set_option linter.all false
set_option maxRecDepth 100000
set_option maxHeartbeats 4000000
/-! for k in D, D a dict of the top; dicts of the top whose values are tuples of the top -/
namespace LK
open PySem PySem.Spec PyProof.Rows L2
/-- a dict of the top, its object written out -/
def KDctI (P : Program) (w : World) (K : PySem.W.Frag) (a : Addr) (kvs : List (Key × V)) : Prop := KDct P w K a kvs ∧ ∃ (es : Array DictEntry) (ep : Nat), K.lookup a = some { cls := .type "dict", data := .dict es ep }
def HasDctI (P : Program) (w : World) (K : PySem.W.Frag) (x : Str) (kvs : List (Key × V)) : Prop := ∃ a, PySem.W.nsIn K mainGlobals x = some (some (.ref a)) ∧ KDctI P w K a kvs
structure UseI (P : Program) (w : World) (K : PySem.W.Frag) (mg : Str → Option Value) (x : Str) (kvs : List (Key × V)) : Prop where
  ex : ∃ a, mg x = some (.ref a) ∧ KDctI P w K a kvs
theorem HasDctI.g {P : Program} {w : World} {K : PySem.W.Frag} {mg : Str → Option Value} {h : Heap} {x : Str} {kvs : List (Key × V)} (D : HasDctI P w K x kvs) (X : K.In h) (G : h.Ns mainGlobals mg) : UseI P w K mg x kvs := by
  obtain ⟨a, e, k⟩ := D
  exact ⟨a, PySem.W.mg_of X G e, k⟩
theorem HasDct.i {P : Program} {w : World} {K : PySem.W.Frag} {x : Str} {kvs : List (Key × V)} {a : Addr} {es : Array DictEntry} {ep : Nat} (D : HasDct P w K x kvs) (h : PySem.W.nsIn K mainGlobals x = some (some (.ref a)))
    (b : K.lookup a = some { cls := .type "dict", data := .dict es ep }) : HasDctI P w K x kvs := by
  obtain ⟨a', e, k⟩ := D
  rw [h] at e
  cases e
  exact ⟨a, h, k, es, ep, b⟩
/-- the keys of the dict of the top at a -/
def ItkK (a : Addr) (kvs : List (Key × V)) : It :=
  ⟨fun i _ => i < kvs.length, fun i H x H' => H' = H ∧ ∃ k v, kvs[i]? = some (k, v) ∧ x = kV k, fun i _ => kvs.length ≤ i⟩
theorem KDctI.at {P : Program} {w : World} {K : PySem.W.Frag} {a : Addr} {kvs : List (Key × V)} (D : KDctI P w K a kvs) : ∃ (es : Array DictEntry) (ep : Nat) (vs : List (Key × Value)), (a == sysModules) = false ∧ KV kvs vs ∧
    ∀ h : Heap, K.In h → es.size = kvs.length ∧ h.get? a = some { cls := .type "dict", data := .dict es ep } ∧ h.DictAt (mixKind P w) a vs ep := by
  obtain ⟨⟨hs, vs, rel, dd⟩, es, ep, lk⟩ := D
  refine ⟨es, ep, vs, hs, rel, fun h hK => ?_⟩
  obtain ⟨o, es', ep', ho, hx, hd, r⟩ := dd h hK
  have e := hK a _ lk
  rw [ho] at e
  cases e
  cases hd
  have l1 := r.2.1.length
  have l2 : kvs.length = vs.length := Paired.length rel
  rw [Array.length_toList] at l1
  exact ⟨by omega, ho, _, _, ho, hx, rfl, r⟩
section
variable {P : Program} {w : World} {K : PySem.W.Frag} {tg : Expr} {a : Addr} {es : Array DictEntry} {ep : Nat} {kvs : List (Key × V)} {vs : List (Key × Value)}
theorem turn_keysK (it : Addr) (kv : KV kvs vs) (at_ : ∀ h : Heap, K.In h → es.size = kvs.length ∧ h.get? a = some { cls := .type "dict", data := .dict es ep } ∧ h.DictAt (mixKind P w) a vs ep) :
    Turn P w K tg (ItkK a kvs) [it] it (fun i h => h.IsKeyIter it a i kvs.length ep) where
  mem := by simp
  obj := fun i h st b hb => by
    have e : b = it := by simpa using hb
    subst e
    obtain ⟨oi, e, c, dd⟩ := st
    exact ⟨oi, e, fun v z => by rw [dd] at z; cases z⟩
  keep := fun i h h' st k => st.at fun oi e => k it (by simp) oi e
  item := by
    intro X hP hw hK hc i pins s σ H E I hf st hg
    subst hP hw hK
    obtain ⟨f0, f1, f2, f3, f4, f5⟩ := hf it (by simp)
    obtain ⟨hsz, hgd, hm⟩ := at_ _ I.kIn
    obtain ⟨⟨k, v⟩, hkv⟩ : ∃ p, kvs[i]? = some p := ⟨kvs[i], List.getElem?_eq_getElem hg⟩
    obtain ⟨u, hu, ru⟩ := kv_get kv hkv
    have hl : kvs.length = vs.length := Paired.length kv
    rw [hl] at st
    refine wpAny_pyNext_dict_item st hm hu fun key h' hkey st' sb => ?_
    have I1 : Inv X pins σ H { s with heap := h' } := I.turned (t' := s.toks) (fun b ob hb e => (sb.2 b hb).trans e) f0 f1 f3 f4 f5
    obtain ⟨oi, e, c, dd⟩ := id st'
    refine ⟨key, rfl, go_of (s := { s with heap := h' }) e c dd (by decide) ⟨kV k, H, I1, relV_key (show keyIs k key = true from hkey), ⟨rfl, k, v, hkv, rfl⟩, ?_, fun b hb => (hf b hb).1⟩⟩
    show h'.IsKeyIter it a (i + 1) kvs.length _
    rw [hl]
    exact st'
  done := by
    intro X hP hw hK hc i pins s σ H E I hf st hg
    subst hP hw hK
    obtain ⟨f0, f1, f2, f3, f4, f5⟩ := hf it (by simp)
    obtain ⟨hsz, hgd, hm⟩ := at_ _ I.kIn
    exact next_key_end (I.ok.hd hc) st hgd rfl hsz hg fun h' eb => ⟨rfl, I.turned (t' := s.toks) (fun b ob hb e => eb b ob hb e) f0 f1 f3 f4 f5⟩
  self := fun A i s Q E st h => wpAny_pyIter_keyiter st h
end
def iKeysK (P : Program) (w : World) (K : PySem.W.Frag) (td : TE) : TI := fun σ H R => td σ H fun x H1 => ∃ a kvs, x = .ref a ∧ KDctI P w K a kvs ∧ R (ItkK a kvs) H1
theorem pi_keysK {X : Cx} {tg e : Expr} {td : TE} (he : PE X e td) : PI X tg e (iKeysK X.prog X.w X.K td) := by
  refine ⟨fun pins s σ H R I h => ?_⟩
  refine thn (he.run pins s σ H _ I h) fun u s1 ⟨x, H1, I1, rx, a, kvs, ex, D, q⟩ => ?_
  subst ex
  obtain rfl : u = Value.ref a := rx
  obtain ⟨es, ep, vs, hs, kv, at_⟩ := D.at
  obtain ⟨hsz, hgd, hm⟩ := at_ _ I1.kIn
  refine iter_keys hs hgd ⟨rfl, rfl, rfl⟩ rfl (pi_one (tk := s1.toks) I1 _ (turn_keysK _ kv at_) ⟨_, Heap.get?_push_size _ rfl, rfl, ?_⟩ q)
  rw [hsz] <;> rfl
theorem walk_keysK {a : Addr} {kvs : List (Key × V)} : Walk (ItkK a kvs) kvs.length (fun _ => True) (fun i H x H' => H' = H ∧ ∃ k v, kvs[i]? = some (k, v) ∧ x = kV k) :=
  ⟨fun _ _ hi _ => hi, fun _ _ => Nat.le_refl _, fun _ _ _ _ _ _ y => y⟩
/-! ### dicts of the top whose values are tuples of the top -/
inductive TEnt (w : World) (K : PySem.W.Frag) : List DictEntry → List (Str × List V) → List (Str × Addr) → Prop
  | nil : TEnt w K [] [] []
  | cons {e : DictEntry} {es : List DictEntry} {k : Str} {a : Addr} {xs : List V} {ps : List (Str × List V)} {qs : List (Str × Addr)} {t : Tok} {od : Option Addr} {its : Array Value} {n : Nat} {sl : Array (Option Value)} :
      e.key = .str k t → e.hash = hashStr w k → e.val = .ref a → K.lookup a = some ⟨.type "tuple", od, .seq its n, sl⟩ → its.size ≤ sizeLine → Vals xs its.toList → TEnt w K es ps qs → TEnt w K (e :: es) ((k, xs) :: ps) ((k, a) :: qs)
theorem TEnt.f {w : World} {K : PySem.W.Frag} : ∀ {es : List DictEntry} {ps : List (Str × List V)} {qs : List (Str × Addr)}, TEnt w K es ps qs → FEnt w es qs ∧ ps.map (·.1) = qs.map (·.1) ∧ Paired (fun q p => KTup K q.2 p.2) qs ps
  | _, _, _, .nil => ⟨.nil, rfl, .nil⟩
  | _, _, _, .cons h1 h2 h3 h4 h5 h6 r => by
    obtain ⟨a, b, c⟩ := r.f
    exact ⟨.cons h1 h2 h3 a, by rw [List.map_cons, List.map_cons, b], .cons ⟨_, _, _, _, h4, h5, h6⟩ c⟩
/-- the dict x of the top: each key's value is a tuple of the top -/
def HasTupD (P : Program) (w : World) (K : PySem.W.Frag) (x : Str) (ps : List (Str × List V)) : Prop := ∃ qs : List (Str × Addr), HasDctI P w K x (fnKV qs) ∧ ps.map (·.1) = qs.map (·.1) ∧ Paired (fun q p => KTup K q.2 p.2) qs ps
structure UseT (P : Program) (w : World) (K : PySem.W.Frag) (mg : Str → Option Value) (x : Str) (ps : List (Str × List V)) : Prop where
  ex : ∃ qs : List (Str × Addr), UseI P w K mg x (fnKV qs) ∧ ps.map (·.1) = qs.map (·.1) ∧ Paired (fun q p => KTup K q.2 p.2) qs ps
theorem HasTupD.g {P : Program} {w : World} {K : PySem.W.Frag} {mg : Str → Option Value} {h : Heap} {x : Str} {ps : List (Str × List V)} (D : HasTupD P w K x ps) (X : K.In h) (G : h.Ns mainGlobals mg) : UseT P w K mg x ps := by
  obtain ⟨qs, a, b, c⟩ := D
  exact ⟨qs, a.g X G, b, c⟩
theorem HasTupD.mk' {P : Program} {w : World} {K : PySem.W.Frag} {x : Str} {ps : List (Str × List V)} {qs : List (Str × Addr)} {a : Addr} {es : Array DictEntry} {ep : Nat} (h : PySem.W.nsIn K mainGlobals x = some (some (.ref a)))
    (b : K.lookup a = some { cls := .type "dict", data := .dict es ep }) (hs : (a == sysModules) = false) (c : TEnt w K es.toList ps qs) (nd : (ps.map (·.1)).Nodup) : HasTupD P w K x ps := by
  obtain ⟨c1, c2, c3⟩ := c.f
  exact ⟨qs, (HasDct.mkF (P := P) h b hs c1 (c2 ▸ nd)).i h b, c2, c3⟩
end LK
namespace LK
open PySem PySem.Spec PyProof.Rows L2
/-! a name of the top that is bound to a def of another name -/
def HasFnN (K : PySem.W.Frag) (x y : Str) (st : Stmt) : Prop := ∃ (f : Addr) (oc : Value) (od an : Option Addr) (kV doc pm cdv ct : Value) (osl : Array (Option Value)),
  PySem.W.nsIn K mainGlobals x = some (some (.ref f)) ∧ K.lookup f = some ⟨oc, od, .func (PySem.W.fnOf y y (defArgs st) (defBody st) (defScope st) .none kV doc pm an cdv ct), osl⟩ ∧
  PySem.W.codeIn K cdv y = true ∧ PySem.W.keepIn K (.ref f) = true
theorem HasFnN.mk' {K : PySem.W.Frag} {x y : Str} {st : Stmt} {f : Addr} {oc : Value} {od an : Option Addr} {kV doc pm cdv ct : Value} {osl : Array (Option Value)} (a : PySem.W.nsIn K mainGlobals x = some (some (.ref f)))
    (b : K.lookup f = some ⟨oc, od, .func (PySem.W.fnOf y y (defArgs st) (defBody st) (defScope st) .none kV doc pm an cdv ct), osl⟩) (c : PySem.W.codeIn K cdv y = true) (d : PySem.W.keepIn K (.ref f) = true) : HasFnN K x y st :=
  ⟨f, oc, od, an, kV, doc, pm, cdv, ct, osl, a, b, c, d⟩
theorem HasFn.n {K : PySem.W.Frag} {x : Str} {st : Stmt} (F : HasFn K x st) : HasFnN K x x st := F
section
variable {P : Program} {w : World} {K : PySem.W.Frag} {mg : Str → Option Value} {base h : Heap} {CX : CXT}
theorem mk_useY {x y : Str} {st : Stmt} {k : Nat} {ps : List Str} {sp : Sp} (F : HasFnN K x y st) (X : K.In h) (G : h.Ns mainGlobals mg)
    (hb : ∀ (kV doc pm : Value) (an : Option Addr) (cdv ct : Value) (us : List Value), us.length = ps.length → bindArgs (PySem.W.fnOf y y (defArgs st) (defBody st) (defScope st) .none kV doc pm an cdv ct) ⟨us, []⟩ = pure (ps.zip us))
    (ok : ∀ (f : Addr) (fd : FuncData), Fun K y y st f fd → FnG P w K mg base CX k f fd ps sp) : Use P w K mg base CX x k ps sp := by
  obtain ⟨f, oc, od, an, kV, doc, pm, cdv, ct, osl, e, l, c, kp⟩ := F
  have Fn := fun_mk (st := st) l c kp
  exact ⟨f, _, ok f _ Fn, PySem.W.mg_of X G e, kp, Fn.binds hb⟩
/-- defs that call one another: a promise by depth; at each depth all of them, from the depth before -/
theorem mk_useG {x y : Str} {st : Stmt} {ps : List Str} (sp : Nat → Sp) (k0 kn : Nat) (F : HasFnN K x y st) (X : K.In h) (G : h.Ns mainGlobals mg)
    (hb : ∀ (kV doc pm : Value) (an : Option Addr) (cdv ct : Value) (us : List Value), us.length = ps.length → bindArgs (PySem.W.fnOf y y (defArgs st) (defBody st) (defScope st) .none kV doc pm an cdv ct) ⟨us, []⟩ = pure (ps.zip us))
    (h0 : ∀ vs H Q E, ¬ sp 0 vs H Q E)
    (ok : ∀ (n : Nat), Use P w K mg base CX x (k0 + kn * n) ps (sp n) → ∀ (f : Addr) (fd : FuncData), Fun K y y st f fd → FnG P w K mg base CX (k0 + kn * (n + 1)) f fd ps (sp (n + 1))) : ∀ n, Use P w K mg base CX x (k0 + kn * n) ps (sp n)
  | 0 => by
    obtain ⟨f, oc, od, an, kV, doc, pm, cdv, ct, osl, e, l, c, kp⟩ := F
    have Fn := fun_mk (st := st) l c kp
    exact ⟨f, _, ⟨fun vs H Q E s => absurd s (h0 vs H Q E), fun _ _ _ _ _ _ vs Q E _ _ _ _ _ s => absurd s (h0 _ _ _ _)⟩, PySem.W.mg_of X G e, kp, Fn.binds hb⟩
  | n + 1 => mk_useY F X G hb (ok n (mk_useG sp k0 kn F X G hb h0 ok n))
end
end LK
namespace LK
open PySem PySem.Spec PyProof.Rows L2
/-! a nested tuple of the top, as data -/
def HasDat (K : PySem.W.Frag) (x : Str) (d : PyData) : Prop := ∃ a, PySem.W.nsIn K mainGlobals x = some (some (.ref a)) ∧ ∀ H, Dt K H (.ref a) d
def GDat (K : PySem.W.Frag) (mg : Str → Option Value) (x : Str) (d : PyData) : Prop := ∃ a, mg x = some (.ref a) ∧ ∀ H, Dt K H (.ref a) d
theorem HasDat.g {K : PySem.W.Frag} {mg : Str → Option Value} {h : Heap} {x : Str} {d : PyData} (i : HasDat K x d) (X : K.In h) (G : h.Ns mainGlobals mg) : GDat K mg x d := by
  obtain ⟨a, e, r⟩ := i
  exact ⟨a, PySem.W.mg_of X G e, r⟩
theorem KTup.dt {K : PySem.W.Frag} {a : Addr} {xs : List V} {ds : List PyData} (h : KTup K a xs) (H : Hp) (d : DtAll K H xs ds) : Dt K H (.ref a) (.tuple ds) := .tup (h.sq H) d
theorem HasDat.mk2 {K : PySem.W.Frag} {x s z : Str} {a b : Addr} {od od2 : Option Addr} {its its2 : Array Value} {n n2 : Nat} {sl sl2 : Array (Option Value)} (h : PySem.W.nsIn K mainGlobals x = some (some (.ref a)))
    (h1 : K.lookup a = some ⟨.type "tuple", od, .seq its n, sl⟩) (z1 : its.size ≤ sizeLine) (v1 : Vals [.str s, .ref b] its.toList) (h2 : K.lookup b = some ⟨.type "tuple", od2, .seq its2 n2, sl2⟩) (z2 : its2.size ≤ sizeLine) (v2 : Vals [.str z] its2.toList) :
    HasDat K x (.tuple [.str s, .tuple [.str z]]) :=
  ⟨a, h, fun H => KTup.dt ⟨_, _, _, _, h1, z1, v1⟩ H (.cons (.str _) (.cons (KTup.dt ⟨_, _, _, _, h2, z2, v2⟩ H (.cons (.str _) .nil)) .nil))⟩
def tGD (K : PySem.W.Frag) (d : PyData) : TE := fun _ H Q => ∀ v, (∀ H, Dt K H v d) → Q v H
theorem pe_globD {X : Cx} {x : Str} {pos : Pos} {d : PyData} (h : GDat X.K X.mg x d) (hg : Gl X x) (hd : (x == ("__debug__" : Str)) = false := by decide) : PE X (.Name x pos) (tGD X.K d) := by
  obtain ⟨a, e, r⟩ := h
  exact ⟨fun pins s σ H Q I q => (pe_glob (v := .ref a) hg e rfl hd).run pins s σ H Q I (q (.ref a) r)⟩
end LK

set_option linter.all false
namespace LK
section
open PySem PySem.Spec PyProof.Rows L2
theorem FnG.up {P : Program} {w : World} {K : PySem.W.Frag} {mg : Str → Option Value} {base : Heap} {CX : CXT} {k k' : Nat} {f : Addr} {fd : FuncData} {ps : List Str} {sp : Sp} (F : FnG P w K mg base CX k f fd ps sp) (h : k ≤ k') : FnG P w K mg base CX k' f fd ps sp :=
  ⟨F.len, fun A outer s H args us vs Q E hr => F.run A outer s H args us vs Q E (hr.mono h)⟩
theorem Use.up {P : Program} {w : World} {K : PySem.W.Frag} {mg : Str → Option Value} {base : Heap} {CX : CXT} {k k' : Nat} {x : Str} {ps : List Str} {sp : Sp} (U : Use P w K mg base CX x k ps sp) (h : k ≤ k') : Use P w K mg base CX x k' ps sp := by
  obtain ⟨f, fd, F, r⟩ := U.ex
  exact ⟨f, fd, F.up h, r⟩
theorem HasDctI.mkF' {P : Program} {w : World} {K : PySem.W.Frag} {x : Str} {qs : List (Str × Addr)} {a : Addr} {es : Array DictEntry} {ep : Nat} (h : PySem.W.nsIn K mainGlobals x = some (some (.ref a)))
    (b : K.lookup a = some { cls := .type "dict", data := .dict es ep }) (hs : (a == sysModules) = false) (c : FEnt w es.toList qs) (nd : (qs.map (·.1)).Nodup) : HasDctI P w K x (fnKV qs) :=
  (HasDct.mkF (P := P) h b hs c nd).i h b
end
end LK

set_option Elab.async false
set_option linter.all false
set_option maxRecDepth 100000
set_option maxHeartbeats 4000000
/-! list(reversed(x)) of a tuple -/
namespace LK
open PySem PySem.Spec PyProof.Rows L2 SX
theorem nolen_rt : typeLookup (.type "reversed") "__len__" = pure none := by rw [typeLookup_type, builtinLookup_eq_fast]; kernel_rfl
theorem slot_rt_hint : Slot "reversed" "__length_hint__" "reversed.__length_hint__" :=
  .of (owner := "reversed") (n := "__length_hint__") (by rw [typeLookup_type, builtinLookup_eq_fast]; kernel_rfl) (by decide +kernel) (by decide +kernel) (by decide +kernel)
    (by first | exact .inl (by decide +kernel) | exact .inr (by decide +kernel)) (by rw [isSubtype_type]; kernel_rfl)
theorem entry_rt_hint : entryFor table "reversed.__length_hint__" = some Builtin.«reversed.__length_hint__» := entryFor_of_tree (by kernel_rfl)
theorem args_rt_hint (a : Value) : argsOk "reversed.__length_hint__" ⟨[a], []⟩ := by
  unfold argsOk; rw [signature?_of (id := "reversed.__length_hint__") (n := ['_', '_', 't', 'n', 'i', 'h', '_', 'h', 't', 'g', 'n', 'e', 'l', '_', '_']) (o := ['d', 'e', 's', 'r', 'e', 'v', 'e', 'r']) (by kernel_rfl) RT.owner_rt]; kernel_rfl
section
variable {prog : Program} {w : World} {A : Around} {E : Value → Shared → Prop} {s : Shared}
theorem hint_rt {it t : Addr} {items : Array Value} {Q : Bool → Shared → Prop} (hit : RT.IsRt s.heap it t ((items.size : Int) - 1)) (ht : IsTup s.heap t items) (hn : items.size ≤ sizeLine)
    (hQ : ∀ b tk, Q b { s with toks := tk }) : wpAny (model prog w) A (Builtin.List.listLengthHint (.ref it)) Q E s := by
  have hT : s.TypeIs (.ref it) "reversed" := hit.typeIs
  obtain ⟨o, ho, hc, hd⟩ := id hit
  unfold Builtin.List.listLengthHint
  refine wpAny_bind (wpAny_specialOf hT nolen_rt ?_)
  show wpAny _ _ (specialOf (Value.ref it) (Str.ofString "__length_hint__") >>= _) _ _ _
  refine wpAny_bind (wpAny_specialOf hT slot_rt_hint.lookup ?_)
  generalize hid : ("reversed.__length_hint__" : String) = id0
  wp_delta
  rw [show splitId id0 = some ("reversed", "__length_hint__") from by subst hid; decide +kernel]
  subst hid
  refine wpAny_bind (wpAny_isInstance (b := true) hT (by rw [isSubtype_type]; kernel_rfl) ?_)
  rw [if_neg (by decide)]
  rw [if_neg (by decide +kernel)]
  refine wpAny_bind (wpAny_rule ?_)
  refine wpAny_bind (wpAny_of_eq (slot_rt_hint.bind (.ref it)) ?_)
  refine wpAny_bind (wpAny_attempt (wpAny_call_entry slot_rt_hint hT entry_rt_hint ?_ (args_rt_hint _)))
  unfold Builtin.«reversed.__length_hint__»
  refine wpAny_bind (wpAny_of_eq (a := Value.ref it) rfl ?_)
  refine wpAny_bind (wpAny_field ho hd (x := .ref t) rfl ?_)
  rw [if_neg (show ¬ ((Value.ref t == Value.none) = true) from Bool.false_ne_true)]
  refine wpAny_bind (len_tuple ht (by rw [sizeLine_eq] at hn; omega) ?_)
  refine wpAny_bind (wpAny_of_eq (a := some ((items.size : Nat) : Int)) rfl ?_)
  refine wpAny_bind (wpAny_field (s := { s with toks := s.toks + 1 + 1 }) ho hd (x := rawInt ((items.size : Int) - 1)) rfl ?_)
  show wpAny _ _ (if ((items.size : Nat) : Int) < (items.size : Int) - 1 + 1 then _ else _) _ _ _
  rw [if_neg (by omega)]
  have e1 : (items.size : Int) - 1 + 1 = ((items.size : Nat) : Int) := by omega
  rw [e1]
  have hz := hn
  rw [sizeLine_eq] at hz
  unfold retInt
  refine wpAny_bind (wpAny_mkInt ?_)
  refine wpAny_pure ⟨_, rfl, ?_⟩
  dsimp only
  have f0 : ¬ (((items.size : Nat) : Int) < 0) := Int.not_lt.mpr (Int.natCast_nonneg _)
  have f1 : Builtin.List.listFitsIndex ((items.size : Nat) : Int) = true := by
    unfold Builtin.List.listFitsIndex
    rw [Bool.and_eq_true]
    exact ⟨decide_eq_true (by omega), decide_eq_true (by omega)⟩
  have f2 : Builtin.List.listTooLong ((items.size : Nat) : Int).toNat = false := by
    unfold Builtin.List.listTooLong
    rw [Int.toNat_natCast]
    exact decide_eq_false (Nat.not_lt.mpr hn)
  have f3 : ∀ tk, asInt? (Value.int ((items.size : Nat) : Int) tk) = pure (some ((items.size : Nat) : Int)) := fun _ => rfl
  generalize ((items.size : Nat) : Int) = N at f0 f1 f2 f3 ⊢
  rw [f3]
  refine wpAny_bind (wpAny_pure ?_)
  dsimp only
  rw [f1, if_neg (show ¬ ((!true) = true) by decide), if_neg f0, f2, if_neg Bool.false_ne_true]
  exact wpAny_pure (hQ _ _)
theorem walks_rt {t it : Addr} {items : Array Value} (hh : A.handled = none) (hne : t ≠ it) (hn : items.size ≤ sizeLine) :
    Walks prog w A it [it, t] [it] items.size (fun i v => items[items.size - 1 - i]? = some v) (fun i h => i ≤ items.size ∧ RT.IsRt h it t ((items.size : Int) - 1 - (i : Nat)) ∧ IsTup h t items) where
  sub := fun b hb => by rw [List.mem_singleton.mp hb]; simp
  frame := fun i h h' st hk => ⟨st.1, st.2.1.at fun o e => hk it (by simp) o e, let ⟨o, ho, r⟩ := st.2.2; ⟨o, hk t (by simp) o ho, r⟩⟩
  item := fun i s Q E hi st hQ => by
    have e1 : (items.size : Int) - 1 - ((i : Nat) : Int) = ((items.size - 1 - i : Nat) : Int) := by omega
    have st2 := st.2.1
    rw [e1] at st2
    have hx : items[items.size - 1 - i]? = some (items[items.size - 1 - i]'(by omega)) := Array.getElem?_eq_getElem (by omega)
    refine RT.next_rt_item st2 st.2.2 hx hn fun h' hit' sb => ?_
    have e2 : ((items.size - 1 - i : Nat) : Int) - 1 = (items.size : Int) - 1 - ((i + 1 : Nat) : Int) := by omega
    rw [e2] at hit'
    exact hQ _ h' _ hx ⟨hi, hit', let ⟨o, ho, r⟩ := st.2.2; ⟨o, (sb.2 t hne).trans ho, r⟩⟩ fun b o hb e => (sb.2 b (fun h => hb (by simp [h]))).trans e
  done := fun s Q E st hQ => by
    have st2 := st.2.1
    rw [show (items.size : Int) - 1 - ((items.size : Nat) : Int) = -1 by omega] at st2
    exact RT.next_rt_end hh st2 fun h' he => hQ h' s.toks fun b o hb e => he b o (fun h => hb (by simp [h])) e
  self := fun i s Q E st h => RT.iter_rt st.2.1 h
theorem extend_rt {R : Result → Shared → Prop} {it t S : Addr} {items : Array Value} (res : Value) (c₀ : Nat) (hh : A.handled = none) (hit : RT.IsRt s.heap it t ((items.size : Int) - 1)) (ht : IsTup s.heap t items) (hne : t ≠ it) (hn : items.size ≤ sizeLine) (hSi : S ≠ it) (hSt : S ≠ t)
    (hS : s.heap.get? S = some { cls := .type "list", data := .seq #[] c₀ })
    (hR : ∀ h' tk acc' c', (∀ b o, b ≠ S → b ≠ it → s.heap.get? b = some o → h'.get? b = some o) → h'.get? S = some { cls := .type "list", dict := none, data := .seq acc' c', slots := #[] } → ItemsOf (fun i v => items[items.size - 1 - i]? = some v) acc' items.size → R (.ok (.ret res)) { s with heap := h', toks := tk }) :
    wpAny (model prog w) A.in1 (Builtin.List.listExtendWith (.ref S) (.ref it) res)
      (fun fin s' => match fin with | .done f => R (.ok f) s' | .again c' => c'.quiet = true ∧ codeAny (model prog w) A c' R s') (fun e s' => R (.error e) s') s := by
  have W := walks_rt (prog := prog) (w := w) (A := A.in1) (items := items) hh hne hn
  have hSf : S ∉ [it, t] := by simp only [List.mem_cons, List.not_mem_nil, or_false, not_or]; exact ⟨hSi, hSt⟩
  have key : ∀ (h : Heap) (c₁ tk : Nat), (∀ b o, b ≠ S → s.heap.get? b = some o → h.get? b = some o) →
      h.get? S = some { cls := .type "list", data := .seq #[] c₁ } → codeAny (model prog w) A (.builtin "list.extend.loop" ⟨[.ref S, .ref it, res], []⟩) R { s with heap := h, toks := tk } := by
    intro h c₁ tk hk hS₁
    have hst : (fun (i : Nat) (h : Heap) => i ≤ items.size ∧ RT.IsRt h it t ((items.size : Int) - 1 - (i : Nat)) ∧ IsTup h t items) 0 h :=
      ⟨Nat.zero_le _, by rw [show (items.size : Int) - 1 - ((0 : Nat) : Int) = (items.size : Int) - 1 by omega]; exact hit.at fun o e => hk it o (Ne.symm hSi) e, let ⟨o, ho, r⟩ := ht; ⟨o, hk t o (Ne.symm hSt) ho, r⟩⟩
    refine codeAny_extend_loopS W.toS hn S hSf res items.size 0 _ #[] c₁ rfl (Nat.zero_le _) hst hS₁ (ItemsOf.nil _) fun s' acc' c' hm hS' hacc => ?_
    rw [Moved.eq_with hm]
    refine hR s'.heap s'.toks acc' c' (fun b o hb hb2 e => hm.heap b o (fun hmem => ?_) (hk b o hb e)) hS' hacc
    rcases List.mem_cons.mp hmem with e' | hmem
    · exact hb e'
    · exact hb2 (List.mem_singleton.mp hmem)
  have hT : s.TypeIs (.ref it) "reversed" := hit.typeIs
  have h1 : Builtin.List.listSameRef (.ref S) (.ref it) = false := by simp [Builtin.List.listSameRef, hSi]
  unfold Builtin.List.listExtendWith
  refine wpAny_bind (wpAny_typeOf hT ?_)
  rw [if_neg (by rw [h1]; decide)]
  refine wpAny_bind (RT.iter_rt hit ?_)
  refine wpAny_bind (wpAny_holding (hint_rt hit ht hn fun b tk => ?_))
  refine wpAny_ite_split (fun _ => ?_) (fun _ => wpAny_pure ⟨plainId_quiet PySem.F.plain_extend_loop _, key _ c₀ _ (fun b o _ e => e) hS⟩)
  refine wpAny_bind (wpAny_rule ?_)
  refine wpAny_bind ?_
  show wpAny _ _ (updateSeq S (·.push .none) >>= fun _ => updateSeq S (·.pop)) _ _ _
  refine wpAny_bind (wpAny_updateSeq (s := { s with toks := tk }) hS rfl ?_)
  have hS₂ := Heap.get?_update_self (Obj.mapSeq (·.push Value.none)) hS rfl
  refine wpAny_updateSeq (hz := by seq_fits) hS₂ rfl ?_
  have hS₃ := Heap.get?_update_self (Obj.mapSeq (·.pop)) hS₂ rfl
  refine wpAny_pure ⟨plainId_quiet PySem.F.plain_extend_loop _, key _ _ _ (fun b o hb e => ?_) hS₃⟩
  exact (Heap.get?_update_other _ _ (Ne.symm hb)).trans ((Heap.get?_update_other _ _ (Ne.symm hb)).trans e)
theorem call_listRt {it t : Addr} {items : Array Value} {Q : Value → Shared → Prop} (hh : A.handled = none) (hit : RT.IsRt s.heap it t ((items.size : Int) - 1)) (ht : IsTup s.heap t items) (hne : t ≠ it) (hn : items.size ≤ sizeLine)
    (hQ : ∀ h' tk acc' c', (∀ b o, b ≠ it → s.heap.get? b = some o → h'.get? b = some o) → h'.get? s.heap.objs.size = some { cls := .type "list", dict := none, data := .seq acc' c', slots := #[] } → ItemsOf (fun i v => items[items.size - 1 - i]? = some v) acc' items.size → Q (.ref s.heap.objs.size) { s with heap := h', toks := tk }) :
    wpAny (model prog w) A (call (.type "list") [.ref it]) Q E s := by
  refine callType_codes (Q₁ := fun obj s₁ => obj = .ref s.heap.objs.size ∧ s₁ = { s with heap := s.heap.push { cls := .type "list", data := .seq #[] } }) PySem.F.called_list (PySem.F.typeCall_list_1 _) PySem.F.entry_list_init
    (code_list_new _ ⟨rfl, rfl⟩) fun obj s₁ h₁ => ?_
  obtain ⟨rfl, rfl⟩ := h₁
  have hS : (s.heap.push { cls := .type "list", data := .seq #[] }).get? s.heap.objs.size = some { cls := .type "list", data := .seq #[] } := Heap.get?_push_size _ rfl
  have li : it < s.heap.objs.size := let ⟨_, e, _⟩ := hit; Heap.lt_size e
  have lt : t < s.heap.objs.size := let ⟨_, e, _⟩ := ht; Heap.lt_size e
  refine ⟨⟨_, hS, rfl⟩, PySem.F.args_list_init_2 _ _, ?_⟩
  show wpAny _ _ (do let old ← Builtin.List.listItems (.ref s.heap.objs.size); Builtin.List.listUpdate (.ref s.heap.objs.size) (fun _ => #[]); letGo old.toList.reverse; Builtin.List.listExtendWith (.ref s.heap.objs.size) (.ref it) .none) _ _ _
  refine wpAny_bind ?_
  unfold Builtin.List.listItems
  refine wpAny_bind (wpAny_seqItems hS rfl (wpAny_pure ?_))
  show wpAny _ _ (updateSeq s.heap.objs.size (fun _ => #[]) >>= fun _ => letGo (#[] : Array Value).toList.reverse >>= fun _ => Builtin.List.listExtendWith (.ref s.heap.objs.size) (.ref it) .none) _ _ _
  refine wpAny_bind (wpAny_updateSeq hS rfl ?_)
  have hS₂ := Heap.get?_update_self (Obj.mapSeq (fun _ => (#[] : Array Value))) hS rfl
  have oth : ∀ b o, b ≠ s.heap.objs.size → s.heap.get? b = some o → ((s.heap.push { cls := .type "list", data := .seq #[] }).update s.heap.objs.size (Obj.mapSeq (fun _ => (#[] : Array Value)))).get? b = some o :=
    fun b o hb e => (Heap.get?_update_other _ _ (Ne.symm hb)).trans (Heap.get?_push_of_some _ e)
  refine wpAny_bind (wpAny_letGo ?_)
  refine extend_rt (A := A.in1) .none _ hh (hit.at fun o e => oth it o (Nat.ne_of_lt li) e) (let ⟨o, ho, r⟩ := ht; ⟨o, oth t o (Nat.ne_of_lt lt) ho, r⟩) hne hn (Nat.ne_of_gt li) (Nat.ne_of_gt lt) hS₂ fun h' tk acc' c' hk hS' hacc => ?_
  exact ⟨rfl, hQ h' tk acc' c' (fun b o hb e => hk b o (Nat.ne_of_lt (Heap.lt_size e)) hb (oth b o (Nat.ne_of_lt (Heap.lt_size e)) e)) hS' hacc⟩
end
def tListRev (K : PySem.W.Frag) (te : TE) : TE := fun σ H Q => te σ H fun v H1 => ∃ (a : Addr) (xs : List V), v = .ref a ∧ SqT K H1 a xs ∧ ∀ q, H1 q = none → Q (.ref q) (L2.upd H1 q (.lst xs.reverse))
theorem pe_listRevT {X : Cx} {e : Expr} {te : TE} {p p2 pos pos2 : Pos} (hc : X.calm = true) (hg : Gl X "list") (hm : X.mg "list" = none) (hg2 : Gl X "reversed") (hm2 : X.mg "reversed" = none) (he : PE X e te)
    (hs : starEach [e] X.env = (false, eval e X.env) :: starEach [] X.env := by rfl)
    (hs2 : starEach [.Call (.Name "reversed" p2) [e] [] pos2] X.env = (false, eval (.Call (.Name "reversed" p2) [e] [] pos2) X.env) :: starEach [] X.env := by rfl) :
    PE X (.Call (.Name "list" p) [.Call (.Name "reversed" p2) [e] [] pos2] [] pos) (tListRev X.K te) := by
  refine ⟨fun pins s σ H Q I h => ?_⟩
  refine Call_ (ld_blt I hg hm PyProof.Rows.boot_list (PyProof.Rows.callWith_type1 (args_cons (Call_ (ld_blt I hg2 hm2 PyProof.Rows.boot_reversed (PyProof.Rows.callWith_type1 (args_cons (thn (he.run pins s σ H _ I h) fun u s1 ⟨v, H1, I1, r1, q1⟩ => args_nil ?_) hs) hs rfl))) hs2) hs2 rfl))
  obtain ⟨a, xs, ev, hq, q⟩ := q1
  subst ev
  obtain rfl : u = Value.ref a := r1
  obtain ⟨its, rv, p', hz⟩ := I1.tuple hq
  have hn : its.toArray.size ≤ sizeLine := by rw [List.size_toArray, ← rv.length]; exact hz
  refine RT.call_reversed_tup p' (fun A E Q k => len_tuple p' (by rw [sizeLine_eq] at hn; omega) k) (args_nil ?_)
  have k0 : ∀ b o, s1.heap.get? b = some o → (s1.heap.push (RT.rtObj a ((its.toArray.size : Int) - 1))).get? b = some o := fun b o e => Heap.get?_push_of_some _ e
  have I2 : Inv X pins σ H1 { s1 with heap := s1.heap.push (RT.rtObj a ((its.toArray.size : Int) - 1)), toks := s1.toks + 1 + 1 } := I1.kept (t' := s1.toks + 1 + 1) k0
  obtain ⟨f0, f1, f2, f3, f4, f5⟩ := I1.fpOk (H' := H1) (b := s1.heap.objs.size) (Nat.le_refl _) (I1.hok.fresh (Nat.le_refl _))
  obtain ⟨oa, hoa, _⟩ := id p'
  have hne : a ≠ s1.heap.objs.size := Nat.ne_of_lt (Heap.lt_size hoa)
  refine call_listRt (s := { s1 with heap := s1.heap.push (RT.rtObj a ((its.toArray.size : Int) - 1)), toks := s1.toks + 1 + 1 }) (I1.ok.hd hc) ⟨_, Heap.get?_push_size _ rfl, rfl, rfl⟩ (p'.keeps k0) hne hn fun h' tk acc c hk hS' hi => ?_
  have szp : (s1.heap.push (RT.rtObj a ((its.toArray.size : Int) - 1))).objs.size = s1.heap.objs.size + 1 := Heap.size_push ..
  have kk : ∀ b o, s1.heap.get? b = some o → h'.get? b = some o := fun b o e => hk b o (Nat.ne_of_lt (Heap.lt_size e)) (k0 b o e)
  have le : s1.heap.objs.size ≤ (s1.heap.push (RT.rtObj a ((its.toArray.size : Int) - 1))).objs.size := by rw [szp]; exact Nat.le_succ _
  refine ⟨.ref (s1.heap.push (RT.rtObj a ((its.toArray.size : Int) - 1))).objs.size, L2.upd H1 _ (.lst xs.reverse), I1.laid (t' := tk) kk le (show ObjOk X.prog X.w _ _ _ (.lst xs.reverse) from ⟨by rw [List.length_reverse]; exact hz, acc.toList, c, RT.vals_rev rv hi, ?_⟩), rfl, q _ (I1.hok.fresh le)⟩
  rw [Array.toArray_toList]
  exact hS'
end LK

set_option Elab.async false
set_option linter.all false
set_option maxRecDepth 100000
set_option maxHeartbeats 4000000
/-! list(reversed(x)) of a list -/
namespace LK
open PySem PySem.Spec PyProof.Rows L2 SX
section
variable {prog : Program} {w : World} {A : Around} {E : Value → Shared → Prop} {s : Shared}
theorem extend_lr {R : Result → Shared → Prop} {it t S : Addr} {items : Array Value} (res : Value) (c₀ : Nat) (hh : A.handled = none) (hit : s.heap.IsRevIter it t ((items.size : Int) - 1)) (ht : s.heap.IsList t items) (hne : t ≠ it) (hn : items.size ≤ sizeLine) (hSi : S ≠ it) (hSt : S ≠ t)
    (hS : s.heap.get? S = some { cls := .type "list", data := .seq #[] c₀ })
    (hR : ∀ h' tk acc' c', (∀ b o, b ≠ S → b ≠ it → s.heap.get? b = some o → h'.get? b = some o) → h'.get? S = some { cls := .type "list", dict := none, data := .seq acc' c', slots := #[] } → ItemsOf (fun i v => items[items.size - 1 - i]? = some v) acc' items.size → R (.ok (.ret res)) { s with heap := h', toks := tk }) :
    wpAny (model prog w) A.in1 (Builtin.List.listExtendWith (.ref S) (.ref it) res)
      (fun fin s' => match fin with | .done f => R (.ok f) s' | .again c' => c'.quiet = true ∧ codeAny (model prog w) A c' R s') (fun e s' => R (.error e) s') s := by
  have W := (Walks.listRev (prog := prog) (w := w) (A := A.in1) hh it t hne items).toS
  have hSf : S ∉ [it, t] := by simp only [List.mem_cons, List.not_mem_nil, or_false, not_or]; exact ⟨hSi, hSt⟩
  have hT : s.TypeIs (.ref it) "list_reverseiterator" := hit.typeIs
  have h1 : Builtin.List.listSameRef (.ref S) (.ref it) = false := by simp [Builtin.List.listSameRef, hSi]
  unfold Builtin.List.listExtendWith
  refine wpAny_bind (wpAny_typeOf hT ?_)
  rw [if_neg (by rw [h1]; decide)]
  refine wpAny_bind (wpAny_pyIter_revIter hit ?_)
  refine wpAny_bind (wpAny_holding ?_)
  unfold Builtin.List.listLengthHint
  refine wpAny_bind (wpAny_specialOf hT RT.nolen_lri ?_)
  show wpAny _ A.in1 (specialOf (Value.ref it) (Str.ofString "__length_hint__") >>= _) _ _ _
  refine wpAny_bind (wpAny_specialOf hT RT.hint_lri ?_)
  generalize hid : ("list_reverseiterator.__length_hint__" : String) = id0
  wp_delta
  rw [show splitId id0 = some ("list_reverseiterator", "__length_hint__") from by subst hid; decide +kernel]
  subst hid
  refine wpAny_bind (wpAny_isInstance (b := true) hT (by rw [isSubtype_type]; kernel_rfl) ?_)
  refine wpAny_pure ?_
  rw [if_neg (by decide)]
  have e0 : ((items.size : Nat) : Int) - 1 - ((0 : Nat) : Int) = (items.size : Int) - 1 := by omega
  refine wpAny_pure ⟨plainId_quiet PySem.F.plain_extend_loop _, codeAny_extend_loopS W hn S hSf res items.size 0 _ _ _ rfl (Nat.zero_le _) ⟨Nat.zero_le _, by rw [e0]; exact hit, ht⟩ hS (ItemsOf.nil _) fun s' acc' c' hm hS' hacc => ?_⟩
  rw [Moved.eq_with hm]
  refine hR s'.heap s'.toks acc' c' (fun b o hb hb2 e => hm.heap b o (fun hmem => ?_) e) hS' hacc
  rcases List.mem_cons.mp hmem with e' | hmem
  · exact hb e'
  · exact hb2 (List.mem_singleton.mp hmem)
theorem call_listLr {it t : Addr} {items : Array Value} {Q : Value → Shared → Prop} (hh : A.handled = none) (hit : s.heap.IsRevIter it t ((items.size : Int) - 1)) (ht : s.heap.IsList t items) (hne : t ≠ it) (hn : items.size ≤ sizeLine)
    (hQ : ∀ h' tk acc' c', (∀ b o, b ≠ it → s.heap.get? b = some o → h'.get? b = some o) → h'.get? s.heap.objs.size = some { cls := .type "list", dict := none, data := .seq acc' c', slots := #[] } → ItemsOf (fun i v => items[items.size - 1 - i]? = some v) acc' items.size → Q (.ref s.heap.objs.size) { s with heap := h', toks := tk }) :
    wpAny (model prog w) A (call (.type "list") [.ref it]) Q E s := by
  refine callType_codes (Q₁ := fun obj s₁ => obj = .ref s.heap.objs.size ∧ s₁ = { s with heap := s.heap.push { cls := .type "list", data := .seq #[] } }) PySem.F.called_list (PySem.F.typeCall_list_1 _) PySem.F.entry_list_init
    (code_list_new _ ⟨rfl, rfl⟩) fun obj s₁ h₁ => ?_
  obtain ⟨rfl, rfl⟩ := h₁
  have hS : (s.heap.push { cls := .type "list", data := .seq #[] }).get? s.heap.objs.size = some { cls := .type "list", data := .seq #[] } := Heap.get?_push_size _ rfl
  have li : it < s.heap.objs.size := let ⟨_, e, _⟩ := hit; Heap.lt_size e
  have lt : t < s.heap.objs.size := let ⟨_, e, _⟩ := id ht; Heap.lt_size e
  refine ⟨⟨_, hS, rfl⟩, PySem.F.args_list_init_2 _ _, ?_⟩
  show wpAny _ _ (do let old ← Builtin.List.listItems (.ref s.heap.objs.size); Builtin.List.listUpdate (.ref s.heap.objs.size) (fun _ => #[]); letGo old.toList.reverse; Builtin.List.listExtendWith (.ref s.heap.objs.size) (.ref it) .none) _ _ _
  refine wpAny_bind ?_
  unfold Builtin.List.listItems
  refine wpAny_bind (wpAny_seqItems hS rfl (wpAny_pure ?_))
  show wpAny _ _ (updateSeq s.heap.objs.size (fun _ => #[]) >>= fun _ => letGo (#[] : Array Value).toList.reverse >>= fun _ => Builtin.List.listExtendWith (.ref s.heap.objs.size) (.ref it) .none) _ _ _
  refine wpAny_bind (wpAny_updateSeq hS rfl ?_)
  have hS₂ := Heap.get?_update_self (Obj.mapSeq (fun _ => (#[] : Array Value))) hS rfl
  have oth : ∀ b o, b ≠ s.heap.objs.size → s.heap.get? b = some o → ((s.heap.push { cls := .type "list", data := .seq #[] }).update s.heap.objs.size (Obj.mapSeq (fun _ => (#[] : Array Value)))).get? b = some o :=
    fun b o hb e => (Heap.get?_update_other _ _ (Ne.symm hb)).trans (Heap.get?_push_of_some _ e)
  refine wpAny_bind (wpAny_letGo ?_)
  refine extend_lr (A := A.in1) .none _ hh (hit.at fun o e => oth it o (Nat.ne_of_lt li) e) (let ⟨o, ho, r⟩ := ht; ⟨o, oth t o (Nat.ne_of_lt lt) ho, r⟩) hne hn (Nat.ne_of_gt li) (Nat.ne_of_gt lt) hS₂ fun h' tk acc' c' hk hS' hacc => ?_
  exact ⟨rfl, hQ h' tk acc' c' (fun b o hb e => hk b o (Nat.ne_of_lt (Heap.lt_size e)) hb (oth b o (Nat.ne_of_lt (Heap.lt_size e)) e)) hS' hacc⟩
end
def tListRevL (K : PySem.W.Frag) (te : TE) : TE := fun σ H Q => te σ H fun v H1 => ∃ (a : Addr) (xs : List V), v = .ref a ∧ SqL K H1 a xs ∧ ∀ q, H1 q = none → Q (.ref q) (L2.upd H1 q (.lst xs.reverse))
theorem pe_listRevL {X : Cx} {e : Expr} {te : TE} {p p2 pos pos2 : Pos} (hc : X.calm = true) (hg : Gl X "list") (hm : X.mg "list" = none) (hg2 : Gl X "reversed") (hm2 : X.mg "reversed" = none) (he : PE X e te)
    (hs : starEach [e] X.env = (false, eval e X.env) :: starEach [] X.env := by rfl)
    (hs2 : starEach [.Call (.Name "reversed" p2) [e] [] pos2] X.env = (false, eval (.Call (.Name "reversed" p2) [e] [] pos2) X.env) :: starEach [] X.env := by rfl) :
    PE X (.Call (.Name "list" p) [.Call (.Name "reversed" p2) [e] [] pos2] [] pos) (tListRevL X.K te) := by
  refine ⟨fun pins s σ H Q I h => ?_⟩
  refine Call_ (ld_blt I hg hm PyProof.Rows.boot_list (PyProof.Rows.callWith_type1 (args_cons (Call_ (ld_blt I hg2 hm2 PyProof.Rows.boot_reversed (PyProof.Rows.callWith_type1 (args_cons (thn (he.run pins s σ H _ I h) fun u s1 ⟨v, H1, I1, r1, q1⟩ => args_nil ?_) hs) hs rfl))) hs2) hs2 rfl))
  obtain ⟨a, xs, ev, hq, q⟩ := q1
  subst ev
  obtain rfl : u = Value.ref a := r1
  obtain ⟨its, rv, p', hz⟩ := I1.list hq
  refine call_reversed_list p'.isList (args_nil ?_)
  have k0 : ∀ b o, s1.heap.get? b = some o → (s1.heap.push (revObj a ((its.toArray.size : Int) - 1))).get? b = some o := fun b o e => Heap.get?_push_of_some _ e
  have hl := p'.isList
  obtain ⟨ol, hol, _⟩ := id hl
  have hne : a ≠ s1.heap.objs.size := Nat.ne_of_lt (Heap.lt_size hol)
  have hn : its.toArray.size ≤ sizeLine := by rw [List.size_toArray, ← rv.length]; exact hz
  refine call_listLr (s := { s1 with heap := s1.heap.push (revObj a ((its.toArray.size : Int) - 1)) }) (I1.ok.hd hc) ⟨_, Heap.get?_push_size _ rfl, rfl, rfl⟩ (hl.push _) hne hn fun h' tk acc c hk hS' hi => ?_
  have szp : (s1.heap.push (revObj a ((its.toArray.size : Int) - 1))).objs.size = s1.heap.objs.size + 1 := Heap.size_push ..
  have kk : ∀ b o, s1.heap.get? b = some o → h'.get? b = some o := fun b o e => hk b o (Nat.ne_of_lt (Heap.lt_size e)) (k0 b o e)
  have le : s1.heap.objs.size ≤ (s1.heap.push (revObj a ((its.toArray.size : Int) - 1))).objs.size := by rw [szp]; exact Nat.le_succ _
  refine ⟨.ref (s1.heap.push (revObj a ((its.toArray.size : Int) - 1))).objs.size, L2.upd H1 _ (.lst xs.reverse), I1.laid (t' := tk) kk le (show ObjOk X.prog X.w _ _ _ (.lst xs.reverse) from ⟨by rw [List.length_reverse]; exact hz, acc.toList, c, RT.vals_rev rv hi, ?_⟩), rfl, q _ (I1.hok.fresh le)⟩
  rw [Array.toArray_toList]
  exact hS'
end LK

set_option linter.all false
namespace LK
open PySem PySem.Spec PyProof.Rows L2
/-- str of a whole number or a boolean -/
inductive StrOf : V → Str → Prop
  | int {i : Int} : i.natAbs.log2 < 1920 → StrOf (.int i) (toString i)
  | bl {b : Bool} : StrOf (.bl b) (if b = true then "True" else "False")
theorem call_strBI {X : Cx} : CallR X (.type "str") (fun xs H Q => ∃ v z, xs = [v] ∧ StrOf v z ∧ Q (.str z) H) := by
  intro pins s σ H xs us Q I r h
  obtain ⟨v, z, rfl, hz, q⟩ := h
  cases hz with
  | int hl =>
    obtain ⟨u, rfl, t, rfl⟩ := vals1 r
    exact PySem.P.str_of_int hl ⟨.str _, H, I.tok _, ⟨_, rfl⟩, q⟩
  | bl =>
    obtain ⟨u, rfl, r1⟩ := vals1 r
    cases r1
    rename_i b
    cases b <;> exact PySem.P.str_of_bool ⟨.str _, H, I.tok _, ⟨_, rfl⟩, q⟩
/-- x += text -/
theorem ip_add_str {X : Cx} : PIp X .Add (fun x y H Q => ∃ i j, x = .str i ∧ y = .str j ∧ i.length + j.length ≤ sizeLine ∧ Q (.str (i ++ j)) H) := fun pins s σ H x y v u Q I r1 r2 h => iop_add_str pins s σ H x y v u Q I r1 r2 h
end LK

set_option Elab.async false
set_option linter.all false
set_option maxRecDepth 100000
set_option maxHeartbeats 4000000
/-! Defs whose body replaces signs (a token is out when it begins); not in, of a dict of the top. -/
namespace LK
open PySem PySem.Spec PyProof.Rows L2 SX
section
variable {P : Program} {w : World} {K : PySem.W.Frag} {mg : Str → Option Value} {base : Heap} {CX : CXT}
theorem okT {x qual : Str} {st : Stmt} {f : Addr} {fd : FuncData} {N ps : List Str} {k : Nat} {sp : Sp} (F : Fun K x qual st f fd) (S : FnScope N ps (defScope st)) (hnc : ∀ y ∈ (defScope st).names, y.2 ≠ .cell) (hps : 1 ≤ ps.length)
    (len : ∀ vs H Q E, sp vs H Q E → vs.length = ps.length)
    (body : ∀ (cdv : Value) (A : Around) (outer : List Env) (s : Shared) (H : Hp) (vs : List V) (Q : VK) (E : XK), Room k (A.deeper (envOfC qual (defScope st) s.heap.objs.size f cdv)) → sp vs H Q E →
      ∃ t, PSsT (cxOf CX P w K mg base N qual (defScope st) f cdv A outer s H E) (defBody st) t ∧ t { nx := fun _ H' => Q .non H', rt := Q } (start N vs) H) :
    FnG P w K mg base CX (k + 1) f fd ps sp := by
  obtain ⟨oc, od, kV, doc, pm, an, cdv, ct, osl, rfl, lk, hcd⟩ := F.ex
  have G := fn_ofT (CX := CX) (P := P) (w := w) (mg := mg) (base := base) lk hcd S hnc hps len (body cdv)
  exact ⟨len, fun A outer s H args us vs Q E hr _ e0 hb r hs => G.run A outer s H args us vs Q E hr e0 hb r hs⟩
end
section
variable {X : Cx}
theorem pst_set {i : Nat} {x : Str} {e : Expr} {te : TE} {pos pos' : Pos} (hN : X.N.Nodup) (hi : X.N[i]? = some x) (hx : Loc X.env.scope x) (he : PET X e te) (hs : swapsWith e (some (.Name x pos')) pos.line X.env = pure false := by rfl)
    (hf : X.fn x = true ∨ X.env.scope.names.lookup x = some .local := by first | exact .inl rfl | exact .inr rfl) : PST X (.Assign [.Name x pos'] e pos) (tAsg te (gName i)) := by
  intro pins s σ H D h0 I h
  exact wpAny_Assign_Name (thn (he pins s σ H _ h0 I h) fun v s1 ⟨y, H1, I1, r1, q1⟩ => store_ok I1 hN hi hx r1 (fun s2 I2 => ⟨_, H1, I2, q1⟩) hf) hs
def tNotInK (P : Program) (w : World) (K : PySem.W.Frag) (ty td : TE) : TE := fun σ H Q => ty σ H fun y H1 => td σ H1 fun x H2 => ∃ a kvs k, x = .ref a ∧ KDct P w K a kvs ∧ y = kV k ∧ Q (.bl (!(valV kvs k).isSome)) H2
theorem pc_dnotinK {o i : Expr} {td ty : TE} (hi : PE X i ty) (ho : PE X o td) : PC X .NotIn i o (tNotInK X.prog X.w X.K ty td) := by
  refine ⟨fun pins s σ H Q I h => ?_⟩
  refine thn (hi.run pins s σ H _ I h) fun iv s1 ⟨y, H1, I1, ry, q1⟩ => thn (ho.run pins s1 σ H1 _ I1 q1) fun u s2 ⟨x, H2, I2, rx, a, kvs, k, ex, ⟨low, vs, rel, dd⟩, ey, q2⟩ => ?_
  subst ex ey
  obtain rfl : u = Value.ref a := rx
  refine wpAny_notIn_of (kV_is ry) low (dd _ I2.kIn).mapOf ?_
  rw [← (rel.val k).isSome_eq]
  exact ⟨.bl _, H2, I2.tok _, rfl, q2⟩
end
/-- each c of a text by z -/
theorem replace_S (a z : List Nat) (c : Nat) : Txt.replace (S a) (S [c]) (S z) = S (a.flatMap fun x => if x = c then z else [x]) := by
  refine TL.ext_tl ?_
  refine (StrLaws.replace_list (x := S a) (y := S [c]) (z := S z) (by rw [S_len]; exact Nat.le_refl _)).trans ?_
  show StrLaws.replL [c] z a = _
  have go : ∀ l : List Nat, StrLaws.replL [c] z l = l.flatMap fun x => if x = c then z else [x] := fun l => by
    induction l with
    | nil => exact StrLaws.replL_nil
    | cons d r ih =>
      rw [List.flatMap_cons]
      by_cases e : d = c
      · subst e
        rw [StrLaws.replL_hit (by simp) (by simp), if_pos rfl]
        exact congrArg (z ++ ·) ih
      · rw [StrLaws.replL_miss (by simpa using e), if_neg e, ih]
        rfl
  exact go a
end LK

set_option Elab.async false
set_option linter.all false
set_option maxRecDepth 100000
set_option maxHeartbeats 4000000
/-! x.replace(q, ..) where q is a local that holds a written text: its token is told along -/
namespace LK
open PySem PySem.Spec PyProof.Rows L2
section
variable {X : Cx} {pins : List (Addr × Obj)} {σ : L2.St} {H : Hp} {s : Shared} {i : Nat} {x z : Str}
/-- the local x holds the text z, with a token that was given out -/
def RT (X : Cx) (s : Shared) (x z : Str) : Prop := ∃ m t, s.heap.Ns X.env.locals m ∧ m x = some (.str z t) ∧ t ≠ 0 ∧ t < s.toks
theorem RT.tok {k : Nat} (h : RT X s x z) (hk : s.toks ≤ k) : RT X { s with toks := k } x z :=
  let ⟨m, t, a, b, c, d⟩ := h; ⟨m, t, a, b, c, Nat.lt_of_lt_of_le d hk⟩
theorem RT.pos (h : RT X s x z) : s.toks ≠ 0 := let ⟨_, _, _, _, _, d⟩ := h; fun e => by rw [e] at d; exact Nat.not_lt_zero _ d
theorem wroteI {v : V} {u : Value} {h' : Heap} {n : Nat} {m : Str → Option Value} (I : Inv X pins σ H s) (hN : X.N.Nodup) (hi : X.N[i]? = some x) (hk : X.env.kindOf x = some .local) (r : RelV v u) (hm : s.heap.Ns X.env.locals m)
    (hl : ∀ (i : Nat) (x : Str) (v : V), X.N[i]? = some x → σ[i]? = some (some v) → Vis X.env.scope x → ∃ u, RelV v u ∧ Look X.env s.heap m x u)
    (hn : h'.Ns X.env.locals fun y => if y = x then some u else m y) (hs : Heap.SameBut X.env.locals s.heap h') : Inv X pins (σ.set i (some v)) H { s with heap := h', toks := n } := by
  have oth : ∀ b, b ≠ X.env.locals → h'.get? b = s.heap.get? b := fun b hb => hs.2 b hb
  have low : ∀ {b o}, X.s_0.heap.get? b = some o → b ≠ X.env.locals := fun e => Nat.ne_of_lt (Nat.lt_of_lt_of_le (Heap.lt_size e) I.ok.above)
  have hiσ : i < σ.length := by rw [I.len]; exact (List.getElem?_eq_some_iff.mp hi).1
  have hfree := I.free
  refine { ok := I.ok, os := I.os, bare := I.bare, base := ?_, loc := ⟨_, hn, fun j y v' e1 e2 e3 => ?_⟩, cell := fun y c e => ?_, free := I.free, freeC := I.freeC, pin := fun p hp => ?_, hok := fun b ob e => ?_, len := by simpa using I.len }
  · exact { keep := fun b o e n hb hx => (oth b (low e)).trans (I.base.keep b o e n hb hx)
            slot := fun b o e n hb hx => let ⟨sl, q⟩ := I.base.slot b o e n hb hx; ⟨sl, (oth b (low e)).trans q⟩
            free := I.base.free
            there := fun b o e hx => let ⟨o', q⟩ := I.base.there b o e hx; ⟨o', (oth b (low e)).trans q⟩
            tups := I.base.tups, frzs := I.base.frzs, tbls := I.base.tbls }
  · by_cases hj : j = i
    · subst hj
      rw [hi] at e1
      cases e1
      rw [List.getElem?_set_self hiσ] at e2
      cases e2
      exact ⟨u, r, .inl ⟨hk, by simp⟩⟩
    · rw [List.getElem?_set_ne (Ne.symm hj)] at e2
      obtain ⟨u', r', q⟩ := hl j y v' e1 e2 e3
      have ny : y ≠ x := fun e => hj (nodup_ix hN e1 (e ▸ hi))
      rcases q with ⟨k, e⟩ | ⟨k, c, e, w⟩
      · exact ⟨u', r', .inl ⟨k, by simp [ny, e]⟩⟩
      · exact ⟨u', r', .inr ⟨k, c, e, w.sameBut hs (I.cne y c e)⟩⟩
  · obtain ⟨w, q⟩ := I.cell y c e
    exact ⟨w, q.sameBut hs (I.cne y c e)⟩
  · obtain ⟨e, n, ne, nf, d⟩ := I.pin p hp
    exact ⟨(oth p.1 ne).trans e, n, ne, nf, d⟩
  · refine (I.hok b ob e).stay (fun c w' hc q => (oth c ?_).trans q) (fun _ q => q) fun _ _ q => q
    rintro rfl
    rcases hc with rfl | hc
    · rw [hfree] at e; cases e
    · rw [hfree] at hc; cases hc
theorem store_RT {M : Model} {A : Around} {E : Value → Shared → Prop} {Q : Unit → Shared → Prop} {t : Tok} (I : Inv X pins σ H s) (hN : X.N.Nodup) (hi : X.N[i]? = some x) (hk : X.env.kindOf x = some .local) (t0 : t ≠ 0) (t1 : t < s.toks)
    (h : ∀ s', Inv X pins (σ.set i (some (.str z))) H s' → RT X s' x z → Q () s') : wpAny M A (storeName X.env x (.str z t)) Q E s := by
  obtain ⟨m, hn, hl⟩ := id I.loc
  exact wpAny_storeName_local hk hn (fun h' hn' hs => h _ (wroteI I hN hi hk ⟨t, rfl⟩ hn hl hn' hs) ⟨_, t, hn', by simp, t0, Nat.lt_succ_of_lt t1⟩) (by rw [I.ok.kind]; rfl)
theorem name_RT {Q E : Value → Shared → Prop} {pos : Pos} (I : Inv X pins σ H s) (hk : X.env.kindOf x = some .local) (h : RT X s x z) (fin : ∀ t, t ≠ 0 → t < s.toks → Q (.str z t) s) (hd : (x == ("__debug__" : Str)) = false := by decide) : wpAny (model X.prog X.w) X.A (eval (.Name x pos) X.env) Q E s := by
  obtain ⟨m, t, hn, hm, h0, h1⟩ := h
  exact wpAny_Name (wpAny_loadName_local I.ok.kind hk hn hm (fin t h0 h1)) hd
end
end LK
namespace LK
open PySem PySem.Spec PyProof.Rows L2
section
variable {X : Cx} {pins : List (Addr × Obj)} {σ : L2.St} {H : Hp} {s : Shared} {x z : Str}
theorem repl_to {prog : Program} {w : World} {A : Around} {a y z : Str} {ta t u : Tok} {Q E : Value → Shared → Prop} (ht : t ≠ 0) (hu : u ≠ 0) (htu : t ≠ u) (hyz : (y == z) = false) (hb : a.length + (a.length + 1) * z.length ≤ 16777216)
    (fin : ∀ t' k, s.toks ≤ k → Q (.str (Txt.replace a y z) t') { s with toks := k }) : wpAny (model prog w) A (call (.builtin "str.replace") [.str a ta, .str y t, .str z u]) Q E s := by
  refine wpAny_mono (PySem.wpAny_toks (PySem.SC.replace (Q := fun v s' => ∃ t' k, v = .str (Txt.replace a y z) t' ∧ s' = { s with toks := k }) (E := E) ht hu htu hyz hb fun t' k => ⟨t', k, rfl, rfl⟩)) (fun v s' q => ?_) fun _ _ z => z.2
  obtain ⟨hk, t', k, rfl, rfl⟩ := q
  exact fin t' k hk
/-- a written text within the local y, or not -/
theorem in_raw {j : Nat} {y a c : Str} {jc : Nat} {cp pos p2 : Pos} {Q : Bool → Shared → Prop} {E : Value → Shared → Prop} (hN : X.N[j]? = some y) (hv : Vis X.env.scope y) (I : Inv X pins σ H s) (hσ : σ[j]? = some (some (.str a)))
    (fin : ∀ k, s.toks ≤ k → Q (!(Builtin.Str.occurrences a c 0 a.length 1).isEmpty) { s with toks := k }) (hm : behindInMarks .In (.Name y pos) = false := by with_unfolding_all rfl) (hd : (y == ("__debug__" : Str)) = false := by decide) (hcd : (y == ("__classdict__" : Str)) = false := by decide) :
    wpAny (model X.prog X.w) X.A (isTrue (.Compare (.Constant (.str c) jc cp) [.In] [.Name y pos] p2) X.env (eval (.Compare (.Constant (.str c) jc cp) [.In] [.Name y pos] p2) X.env)) Q E s := by
  refine wpAny_isTrue_Compare1 (Calls.Constant_str (raw_name hN hv (I.tok _) hσ (fun u r => ?_) hd hcd)) hm
  obtain ⟨t, rfl⟩ := r
  exact in_str (wpAny_truthy_bool (fin _ (Nat.le_succ _)))
theorem notIn_raw {j : Nat} {y a c : Str} {jc : Nat} {cp pos p2 : Pos} {Q : Bool → Shared → Prop} {E : Value → Shared → Prop} (hN : X.N[j]? = some y) (hv : Vis X.env.scope y) (I : Inv X pins σ H s) (hσ : σ[j]? = some (some (.str a)))
    (fin : ∀ k, s.toks ≤ k → Q (!(!(Builtin.Str.occurrences a c 0 a.length 1).isEmpty)) { s with toks := k }) (hm : behindInMarks .NotIn (.Name y pos) = false := by with_unfolding_all rfl) (hd : (y == ("__debug__" : Str)) = false := by decide) (hcd : (y == ("__classdict__" : Str)) = false := by decide) :
    wpAny (model X.prog X.w) X.A (isTrue (.Compare (.Constant (.str c) jc cp) [.NotIn] [.Name y pos] p2) X.env (eval (.Compare (.Constant (.str c) jc cp) [.NotIn] [.Name y pos] p2) X.env)) Q E s := by
  refine wpAny_isTrue_Compare1 (Calls.Constant_str (raw_name hN hv (I.tok _) hσ (fun u r => ?_) hd hcd)) hm
  obtain ⟨t, rfl⟩ := r
  exact notIn_str (wpAny_truthy_bool (fin _ (Nat.le_succ _)))
end
end LK

set_option Elab.async false
set_option linter.all false
set_option maxRecDepth 100000
set_option maxHeartbeats 4000000
namespace LK
open PySem PySem.Spec PyProof.Rows L2
section
variable {X : Cx} {iq it ix : Nat} {nq nt nx c1 c2 d1 d2 y1 z1 y2 z2 b : Str} {j1 j2 j3 j4 k1 k2 k3 k4 k5 : Nat} {p0 p1 p2 p3 p4 p5 p6 p7 p8 p9 p10 p11 p12 p13 p14 p15 q0 q1 q2 q3 q4 q5 q6 q7 q8 q9 q10 q11 q12 q13 q14 a1 a2 a3 : Pos} {rest : List Stmt} {u : TS}
def qz (c1 c2 d1 d2 z : Str) : Str := if (!(Builtin.Str.occurrences z d1 0 z.length 1).isEmpty && !(!(Builtin.Str.occurrences z d2 0 z.length 1).isEmpty)) = true then c2 else c1
def rq (y1 z1 y2 z2 b q z : Str) : Str := Txt.replace (Txt.replace (Txt.replace z y1 z1) y2 z2) q (b ++ q)
def tQuotes (iq it ix : Nat) (c1 c2 d1 d2 y1 z1 y2 z2 b : Str) (u : TS) : TS := fun D σ H => ∃ z, σ[ix]? = some (some (.str z)) ∧ z.length ≤ 2000 ∧
  u D ((σ.set iq (some (.str (qz c1 c2 d1 d2 z)))).set it (some (.str (rq y1 z1 y2 z2 b (qz c1 c2 d1 d2 z) z)))) H
theorem psst_quotes (hN : X.N.Nodup) (hiq : X.N[iq]? = some nq) (hit : X.N[it]? = some nt) (hix : X.N[ix]? = some nx) (kq : X.env.kindOf nq = some .local) (lt : Loc X.env.scope nt) (vx : Vis X.env.scope nx) (hne : iq ≠ ix)
    (h : PSs X rest u) (e1 : z1.length ≤ 2) (e2 : z2.length ≤ 2) (e3 : ∀ q, q = c1 ∨ q = c2 → (b ++ q).length ≤ 2 ∧ (q == b ++ q) = false ∧ q.length ≠ 0) (hb0 : b.length ≠ 0) (n1 : (y1 == z1) = false) (n2 : (y2 == z2) = false)
    (hs0 : swapsWith (.Constant (.str c1) j1 p1) (some (.Name nq p0)) p2.line X.env = pure false := by rfl) (hs1 : swapsWith (.Constant (.str c2) j4 p11) (some (.Name nq p10)) p12.line X.env = pure false := by rfl)
    (hdx : (nx == ("__debug__" : Str)) = false := by decide) (hcx : (nx == ("__classdict__" : Str)) = false := by decide) (hdq : (nq == ("__debug__" : Str)) = false := by decide)
    (st1 : starEach [.Constant (.str y1) k1 q1, .Constant (.str z1) k2 q2] X.env = [(false, eval (.Constant (.str y1) k1 q1) X.env), (false, eval (.Constant (.str z1) k2 q2) X.env)] := by rfl)
    (st2 : starEach [.Constant (.str y2) k3 q4, .Constant (.str z2) k4 q5] X.env = [(false, eval (.Constant (.str y2) k3 q4) X.env), (false, eval (.Constant (.str z2) k4 q5) X.env)] := by rfl)
    (st3 : starEach [.Name nq q7, .BinOp (.Constant (.str b) k5 q8) .Add (.Name nq q9) q10] X.env = [(false, eval (.Name nq q7) X.env), (false, eval (.BinOp (.Constant (.str b) k5 q8) .Add (.Name nq q9) q10) X.env)] := by rfl)
    (hb1 : attributeBase (.Name nx q0) "replace" X.env (eval (.Name nx q0) X.env) = eval (.Name nx q0) X.env := by rfl) (hl1 : (a1.endLine == q3.line) = true := by rfl) (hl2 : (a2.endLine == q6.line) = true := by rfl) (hl3 : (a3.endLine == q11.line) = true := by rfl)
    (hb2 : attributeBase (.Call (.Attribute (.Name nx q0) "replace" a1) [.Constant (.str y1) k1 q1, .Constant (.str z1) k2 q2] [] q3) "replace" X.env (eval (.Call (.Attribute (.Name nx q0) "replace" a1) [.Constant (.str y1) k1 q1, .Constant (.str z1) k2 q2] [] q3) X.env) = eval (.Call (.Attribute (.Name nx q0) "replace" a1) [.Constant (.str y1) k1 q1, .Constant (.str z1) k2 q2] [] q3) X.env := by rfl)
    (hb3 : attributeBase (.Call (.Attribute (.Call (.Attribute (.Name nx q0) "replace" a1) [.Constant (.str y1) k1 q1, .Constant (.str z1) k2 q2] [] q3) "replace" a2) [.Constant (.str y2) k3 q4, .Constant (.str z2) k4 q5] [] q6) "replace" X.env (eval (.Call (.Attribute (.Call (.Attribute (.Name nx q0) "replace" a1) [.Constant (.str y1) k1 q1, .Constant (.str z1) k2 q2] [] q3) "replace" a2) [.Constant (.str y2) k3 q4, .Constant (.str z2) k4 q5] [] q6) X.env) = eval (.Call (.Attribute (.Call (.Attribute (.Name nx q0) "replace" a1) [.Constant (.str y1) k1 q1, .Constant (.str z1) k2 q2] [] q3) "replace" a2) [.Constant (.str y2) k3 q4, .Constant (.str z2) k4 q5] [] q6) X.env := by rfl)
    (hs2 : swapsWith (.Call (.Attribute (.Call (.Attribute (.Call (.Attribute (.Name nx q0) "replace" a1) [.Constant (.str y1) k1 q1, .Constant (.str z1) k2 q2] [] q3) "replace" a2) [.Constant (.str y2) k3 q4, .Constant (.str z2) k4 q5] [] q6) "replace" a3) [.Name nq q7, .BinOp (.Constant (.str b) k5 q8) .Add (.Name nq q9) q10] [] q11) (some (.Name nt p14)) p15.line X.env = pure false := by rfl)
    (hft : X.fn nt = true ∨ X.env.scope.names.lookup nt = some .local := by first | exact .inl rfl | exact .inr rfl | assumption) :
    PSsT X (.Assign [.Name nq p0] (.Constant (.str c1) j1 p1) p2 :: .If (.BoolOp .And [.Compare (.Constant (.str d1) j2 p3) [.In] [.Name nx p4] p5, .Compare (.Constant (.str d2) j3 p6) [.NotIn] [.Name nx p7] p8] p9) [.Assign [.Name nq p10] (.Constant (.str c2) j4 p11) p12] [] p13 ::
      .Assign [.Name nt p14] (.Call (.Attribute (.Call (.Attribute (.Call (.Attribute (.Name nx q0) "replace" a1) [.Constant (.str y1) k1 q1, .Constant (.str z1) k2 q2] [] q3) "replace" a2) [.Constant (.str y2) k3 q4, .Constant (.str z2) k4 q5] [] q6) "replace" a3) [.Name nq q7, .BinOp (.Constant (.str b) k5 q8) .Add (.Name nq q9) q10] [] q11) p15 :: rest)
      (tQuotes iq it ix c1 c2 d1 d2 y1 z1 y2 z2 b u) := by
  intro pins s σ H D h0 I hq
  obtain ⟨z, hz, hzl, hu⟩ := hq
  refine wpAny_execs_cons (wpAny_Assign_Name (Calls.Constant_str ?_) hs0)
  refine store_RT (I.tok _) hN hiq kq (Nat.ne_of_gt h0) (Nat.lt_succ_self _) fun s1 I1 R1 => ?_
  have hσ : ∀ v, (σ.set iq (some v))[ix]? = some (some (.str z)) := fun v => by rw [List.getElem?_set_ne hne]; exact hz
  have CH : ∀ {s2 : Shared} {q : Str}, Inv X pins (σ.set iq (some (.str q))) H s2 → RT X s2 nq q → (q = c1 ∨ q = c2) → u D ((σ.set iq (some (.str q))).set it (some (.str (rq y1 z1 y2 z2 b q z)))) H →
      wpAny (model X.prog X.w) X.A (execs (.Assign [.Name nt p14] (.Call (.Attribute (.Call (.Attribute (.Call (.Attribute (.Name nx q0) "replace" a1) [.Constant (.str y1) k1 q1, .Constant (.str z1) k2 q2] [] q3) "replace" a2) [.Constant (.str y2) k3 q4, .Constant (.str z2) k4 q5] [] q6) "replace" a3) [.Name nq q7, .BinOp (.Constant (.str b) k5 q8) .Add (.Name nq q9) q10] [] q11) p15 :: rest) X.env) (SP X pins D) X.xe s2 := by
    intro s2 q I2 R2 hqc hu
    obtain ⟨l1, l2, l3⟩ := e3 q hqc
    refine wpAny_execs_cons (wpAny_Assign_Name ?_ hs2)
    refine PySem.Call_method2 hb3 st3 hl3 ?_
    refine PySem.Call_method2 hb2 st2 hl2 ?_
    refine PySem.Call_method2 hb1 st1 hl1 (raw_name hix vx I2 (hσ _) (fun u r => ?_) hdx hcx)
    obtain ⟨t0, rfl⟩ := r
    refine ⟨"str", _, PySem.F.plainAttrs_str, PySem.F.slot_str_replace, PySem.F.type_str_replace, typeIs_str _ _ _, (fun _ e => nomatch e), Calls.callWith_builtin rfl (Calls.evalArgs_plain (Calls.spliced_cons ?_))⟩
    refine Calls.Constant_str (Calls.spliced_cons (Calls.Constant_str (Calls.spliced_nil ?_)))
    have r1 := TK.replace_len z y1 z1
    refine repl_to R2.pos (Nat.succ_ne_zero _) (Nat.ne_of_lt (Nat.lt_succ_self _)) n1 (by have := Nat.mul_le_mul_left (z.length + 1) e1; omega) fun t1 k1 hk1 => ?_
    have m1 := Nat.mul_le_mul_left (z.length + 1) e1
    refine ⟨"str", _, PySem.F.plainAttrs_str, PySem.F.slot_str_replace, PySem.F.type_str_replace, typeIs_str _ _ _, (fun _ e => nomatch e), Calls.callWith_builtin rfl (Calls.evalArgs_plain (Calls.spliced_cons ?_))⟩
    refine Calls.Constant_str (Calls.spliced_cons (Calls.Constant_str (Calls.spliced_nil ?_)))
    have w1 : (Txt.replace z y1 z1).length ≤ 7000 := by omega
    generalize hw1 : Txt.replace z y1 z1 = x1 at w1
    have r2 := TK.replace_len x1 y2 z2
    have m2 := Nat.mul_le_mul_left (x1.length + 1) e2
    have p1 : k1 ≠ 0 := fun e => by have := R2.pos; rw [e] at hk1; exact this (Nat.le_zero.mp (Nat.le_trans (Nat.le_trans (Nat.le_succ _) (Nat.le_succ _)) hk1))
    refine repl_to p1 (Nat.succ_ne_zero _) (Nat.ne_of_lt (Nat.lt_succ_self _)) n2 (by omega) fun t2 k2 hk2 => ?_
    have w2 : (Txt.replace x1 y2 z2).length ≤ 30000 := by omega
    have g1 : s2.toks ≤ k1 := Nat.le_trans (Nat.le_trans (Nat.le_succ _) (Nat.le_succ _)) hk1
    have g2 : k1 ≤ k2 := Nat.le_trans (Nat.le_trans (Nat.le_succ _) (Nat.le_succ _)) hk2
    unfold rq at hu
    rw [hw1] at hu
    generalize Txt.replace x1 y2 z2 = x2 at w2 hu
    refine ⟨"str", _, PySem.F.plainAttrs_str, PySem.F.slot_str_replace, PySem.F.type_str_replace, typeIs_str _ _ _, (fun _ e => nomatch e), Calls.callWith_builtin rfl (Calls.evalArgs_plain (Calls.spliced_cons ?_))⟩
    refine name_RT (I2.tok k2) kq (R2.tok (Nat.le_trans g1 g2)) (fun tq hq0 hq1 => ?_) hdq
    refine Calls.spliced_cons (wpAny_BinOp (Calls.Constant_str (name_RT (I2.tok (k2 + 1)) kq (R2.tok (Nat.le_succ_of_le (Nat.le_trans g1 g2))) (fun tq2 _ _ => ?_) hdq)))
    refine PySem.P.add_str ?_
    rw [if_neg (by simpa using hb0), if_neg (by simpa using l3)]
    have m3 := Nat.mul_le_mul_left (x2.length + 1) l1
    refine ⟨Nat.le_trans l1 (by decide), Calls.spliced_nil ?_⟩
    refine repl_to hq0 (Nat.succ_ne_zero _) (Nat.ne_of_lt (Nat.lt_succ_of_lt hq1)) l2 (by omega) fun t3 k3 hk3 => ?_
    exact store_ok (v := .str (Txt.replace x2 q (b ++ q))) (I2.tok k3) hN hit lt ⟨t3, rfl⟩ (fun s5 I5 => h.run pins s5 _ H D I5 hu) hft
  refine wpAny_execs_cons (wpAny_If (isTrue_and (in_raw hix vx I1 (hσ _) (fun k1 hk1 => ?_) (hd := hdx) (hcd := hcx))))
  have I2 := I1.tok k1
  have R2 := R1.tok hk1
  have eqz : qz c1 c2 d1 d2 z = if (!(Builtin.Str.occurrences z d1 0 z.length 1).isEmpty && !(!(Builtin.Str.occurrences z d2 0 z.length 1).isEmpty)) = true then c2 else c1 := rfl
  cases hb1 : (!(Builtin.Str.occurrences z d1 0 z.length 1).isEmpty) with
  | false =>
    rw [hb1, Bool.false_and, if_neg Bool.false_ne_true] at eqz
    rw [eqz] at hu
    exact iteFb rfl (iteFb rfl (wpAny_execs_nil (CH I2 R2 (.inl rfl) hu)))
  | true =>
    refine iteTb rfl (isTrue_and (notIn_raw hix vx I2 (hσ _) (fun k2 hk2 => ?_) (hd := hdx) (hcd := hcx)))
    have I3 := I2.tok k2
    have R3 := R2.tok hk2
    cases hb2 : (!(!(Builtin.Str.occurrences z d2 0 z.length 1).isEmpty)) with
    | false =>
      rw [hb1, hb2, Bool.and_false, if_neg Bool.false_ne_true] at eqz
      rw [eqz] at hu
      exact iteFb rfl (iteFb rfl (wpAny_execs_nil (CH I3 R3 (.inl rfl) hu)))
    | true =>
      rw [hb1, hb2, Bool.and_true, if_pos rfl] at eqz
      rw [eqz] at hu
      refine iteTb rfl (isTrue_and_nil (iteTb rfl ?_))
      refine wpAny_execs_cons (wpAny_Assign_Name (Calls.Constant_str ?_) hs1)
      refine store_RT (I3.tok _) hN hiq kq R3.pos (Nat.lt_succ_self _) fun s4 I4 R4 => ?_
      rw [List.set_set] at I4
      exact wpAny_execs_nil (CH I4 R4 (.inr rfl) hu)
end
end LK

set_option Elab.async false
set_option linter.all false
set_option maxRecDepth 100000
set_option maxHeartbeats 4000000
/-! rows: texts by their codes, tuples of data; cut, joined, their length -/
namespace LK
open PySem PySem.Spec PyProof.Rows L2 SX
inductive RowD where
  | txt (cs : List Nat)
  | tup (ds : List PyData)
namespace RowD
def d : RowD → PyData
  | txt cs => .str (S cs)
  | tup ds => .tuple ds
def len : RowD → Nat
  | txt cs => cs.length
  | tup ds => ds.length
end RowD
/-- xs[lo:hi] -/
def cutG {α : Type} (xs : List α) (lo hi : Option Int) : List α := (xs.drop (HT.sIx xs.length 0 lo)).take (HT.sIx xs.length xs.length hi - HT.sIx xs.length 0 lo)
def RowD.cut (r : RowD) (lo hi : Option Int) : RowD := match r with
  | .txt cs => .txt (cutG cs lo hi)
  | .tup ds => .tup (cutG ds lo hi)
theorem cutG_nat {α : Type} (xs : List α) {i j : Nat} (hi : i ≤ xs.length) (hj : j ≤ xs.length) : cutG xs (some (i : Int)) (some (j : Int)) = (xs.drop i).take (j - i) := by
  unfold cutG
  rw [HT.sIx_nat, HT.sIx_nat, Nat.min_eq_left hi, Nat.min_eq_left hj]
theorem cutG_to {α : Type} (xs : List α) {j : Nat} (hj : j ≤ xs.length) : cutG xs none (some (j : Int)) = xs.take j := by
  unfold cutG
  rw [HT.sIx_none, HT.sIx_nat, Nat.min_eq_left hj, List.drop_zero, Nat.sub_zero]
theorem cutG_from {α : Type} (xs : List α) {j : Nat} (hj : j ≤ xs.length) : cutG xs (some (j : Int)) none = xs.drop j := by
  unfold cutG
  rw [HT.sIx_none, HT.sIx_nat, Nat.min_eq_left hj]
  exact List.take_of_length_le (by rw [List.length_drop]; omega)
theorem DtAll.drop {K : PySem.W.Frag} {H : Hp} : ∀ {vs : List V} {ds : List PyData} (n : Nat), DtAll K H vs ds → DtAll K H (vs.drop n) (ds.drop n)
  | _, _, 0, h => h
  | _, _, _ + 1, .nil => .nil
  | _, _, n + 1, .cons _ t => t.drop n
theorem DtAll.takeN {K : PySem.W.Frag} {H : Hp} : ∀ {vs : List V} {ds : List PyData} (n : Nat), DtAll K H vs ds → DtAll K H (vs.take n) (ds.take n)
  | _, _, 0, _ => by rw [List.take_zero, List.take_zero]; exact .nil
  | _, _, _ + 1, .nil => .nil
  | _, _, n + 1, .cons h t => .cons h (t.takeN n)
theorem DtAll.cutG {K : PySem.W.Frag} {H : Hp} {vs : List V} {ds : List PyData} (h : DtAll K H vs ds) (lo hi : Option Int) : DtAll K H (cutV vs lo hi) (cutG ds lo hi) := by
  unfold cutV LK.cutG
  rw [h.length]
  exact DtAll.takeN _ (h.drop _)
theorem cutS_G (cs : List Nat) (lo hi : Option Int) : cutS (S cs) lo hi = S (cutG cs lo hi) := by
  unfold cutS cutG
  rw [S_len]
section
variable {X : Cx}
def rSlR (K : PySem.W.Frag) : V → Option Int → Option Int → Hp → VK → Prop := fun x lo hi H Q => ∃ r : RowD, Dt K H x r.d ∧ r.len ≤ 2000 ∧ ∀ v H', Same H H' → Dt K H' v (r.cut lo hi).d → Q v H'
theorem sl_row : SlR X (rSlR X.K) := by
  intro pins s σ H x v vl vu lo hi sl Q I rx hs pl pu h
  obtain ⟨r, dr, hn, q⟩ := h
  cases r with
  | txt cs =>
    cases dr.str_inv
    refine sl_str pins s σ H _ v vl vu _ _ sl Q I rx hs pl pu ⟨_, rfl, by rw [S_len]; exact Nat.le_trans hn (by decide), q _ _ (Same.refl _) ?_⟩
    rw [cutS_G]
    exact .str _
  | tup ds =>
    obtain ⟨p, xs, rfl, hq, ax⟩ := dr.tuple_inv
    have lx := ax.length
    refine sl_tupA pins s σ H _ v vl vu _ _ sl Q I rx hs pl pu ⟨p, xs, rfl, hq, fun hw => ?_, fun _ z hz => ?_⟩
    · refine q _ _ (Same.refl _) ?_
      rw [lx] at hw
      show Dt _ _ _ (PyData.tuple (cutG ds lo hi))
      unfold cutG
      rw [hw.1, hw.2, List.drop_zero, Nat.sub_zero, List.take_length]
      exact dr
    · exact q _ _ (Same.new hz) (Dt.made hz (ax.cutG lo hi))
/-- len(a), a row -/
def rLenR (K : PySem.W.Frag) : List V → Hp → VK → Prop := fun vs H Q => ∃ (v : V) (r : RowD), vs = [v] ∧ Dt K H v r.d ∧ r.len ≤ 2000 ∧ Q (.int (r.len : Int)) H
theorem call_lenR : CallR X (.builtin "len") (rLenR X.K) := by
  intro pins s σ H xs us Q I r h
  obtain ⟨v, rw', rfl, da, hn, q⟩ := h
  cases rw' with
  | txt cs =>
    cases da.str_inv
    exact call_len pins s σ H _ us Q I r ⟨_, cs.length, rfl, ⟨by rw [S_len]; exact Nat.le_trans hn (by decide), (S_len _).symm⟩, q⟩
  | tup ds =>
    obtain ⟨p, ys, rfl, hq, ax⟩ := da.tuple_inv
    exact call_len pins s σ H _ us Q I r ⟨_, ds.length, rfl, .inr ⟨_, hq, ax.length.symm⟩, q⟩
/-- x + y, tuples of data -/
def rCatTD (K : PySem.W.Frag) : R2 := fun x y H Q => ∃ ds es : List PyData, Dt K H x (.tuple ds) ∧ Dt K H y (.tuple es) ∧ ds.length + es.length ≤ 2000 ∧ ∀ v H', Same H H' → Dt K H' v (.tuple (ds ++ es)) → Q v H'
theorem op_catTD : OpR X (binaryOp .Add) (rCatTD X.K) := by
  intro pins s σ H x y v u Q I rx ry h
  obtain ⟨ds, es, dx, dy, hz, q⟩ := h
  obtain ⟨a, xs, rfl, ha, ax⟩ := dx.tuple_inv
  obtain ⟨b, ys, rfl, hb, ay⟩ := dy.tuple_inv
  have lx := ax.length
  have ly := ay.length
  refine op_catA pins s σ H _ _ v u Q I rx ry ⟨a, b, xs, ys, rfl, rfl, ha, hb, by rw [lx, ly]; exact Nat.le_trans hz (by decide), fun e => ?_, fun _ e => ?_, fun _ _ p hp => ?_⟩
  · subst e
    cases ax
    exact q _ _ (Same.refl _) dy
  · subst e
    cases ay
    rw [List.append_nil] at q
    exact q _ _ (Same.refl _) dx
  · exact q _ _ (Same.new hp) (Dt.made hp (DtAll.app ax ay))
end
end LK

set_option Elab.async false
set_option linter.all false
set_option maxRecDepth 100000
set_option maxHeartbeats 4000000
/-! x.split(): the words of a text -/
namespace LK
open PySem PySem.Spec PyProof.Rows L2
theorem mt_split0 {X : Cx} : MtR X "str.split" (fun x xs H Q => ∃ z, x = .str z ∧ xs = [] ∧ z.length + 2 ≤ sizeLine ∧ rNewStrs (Txt.words z) H Q) := by
  intro pins s σ H x xs v us Q I ex es hyp
  obtain ⟨z, rfl, rfl, lim, next⟩ := hyp
  obtain ⟨tok, rfl⟩ := ex
  cases es
  have few : (Txt.words z).length ≤ sizeLine := Nat.le_trans (words_le z) (by omega)
  have few2 : (Builtin.Str.spaceWords z (z.length + 1)).length ≤ sizeLine := by
    have w1 := (StrLaws.sw_weight z).1
    have w2 := StrLaws.len_le_wsum (Builtin.Str.spaceWords z (z.length + 1))
    omega
  refine call_meets F.slot_str_split (typeIs_str _ _ _) F.entry_str_split (F.args_str_split_1 _) (meets_str_split_space z tok (by omega) few2) ?_
  cases hb : Builtin.Str.spaceWords z (z.length + 1) == [(0, z.length)]
  · simp only [Bool.false_eq_true, if_false]
    rw [strsFrom_eq]
    exact laid_strs (ys := Txt.words z) I ((numbered_texts _ _).trans (if_neg (ne_true_of_eq_false hb)).symm) few next
  · simp only [if_true]
    exact laid_strs (l := [(z, tok)]) (ys := Txt.words z) (k := s.toks) I (if_pos hb).symm few next
end LK

set_option Elab.async false
set_option linter.all false
set_option maxRecDepth 100000
set_option maxHeartbeats 4000000
/-! Dicts of the top whose values are data, dicts of the top whose values are defs (of another name too); zip of two tuples in a for. -/
namespace LK
open PySem PySem.Spec PyProof.Rows L2
/-! ### values of the top, and what they are as data -/
mutual
inductive KDt (K : PySem.W.Frag) : Value → V → PyData → Prop
  | non : KDt K .none .non .none
  | bl (b : Bool) : KDt K (.bool b) (.bl b) (.bool b)
  | int (i : Int) (t : Tok) : KDt K (.int i t) (.int i) (.int i)
  | str (x : Str) (t : Tok) : KDt K (.str x t) (.str x) (.str x)
  | tup {a : Addr} {od : Option Addr} {its : Array Value} {n : Nat} {sl : Array (Option Value)} {ws : List V} {ds : List PyData} : K.lookup a = some ⟨.type "tuple", od, .seq its n, sl⟩ → its.size ≤ sizeLine → KDtAll K its.toList ws ds → KDt K (.ref a) (.ref a) (.tuple ds)
inductive KDtAll (K : PySem.W.Frag) : List Value → List V → List PyData → Prop
  | nil : KDtAll K [] [] []
  | cons {u : Value} {us : List Value} {v : V} {vs : List V} {d : PyData} {ds : List PyData} : KDt K u v d → KDtAll K us vs ds → KDtAll K (u :: us) (v :: vs) (d :: ds)
end
mutual
theorem KDt.rel {K : PySem.W.Frag} : ∀ {u : Value} {v : V} {d : PyData}, KDt K u v d → RelV v u
  | _, _, _, .non => rfl
  | _, _, _, .bl _ => rfl
  | _, _, _, .int _ _ => ⟨_, rfl⟩
  | _, _, _, .str _ _ => ⟨_, rfl⟩
  | _, _, _, .tup _ _ _ => rfl
theorem KDtAll.rel {K : PySem.W.Frag} : ∀ {us : List Value} {vs : List V} {ds : List PyData}, KDtAll K us vs ds → Vals vs us
  | _, _, _, .nil => .nil
  | _, _, _, .cons h t => .cons h.rel t.rel
end
mutual
theorem KDt.dt {K : PySem.W.Frag} (H : Hp) : ∀ {u : Value} {v : V} {d : PyData}, KDt K u v d → Dt K H v d
  | _, _, _, .non => .non
  | _, _, _, .bl _ => .bl _
  | _, _, _, .int _ _ => .int _
  | _, _, _, .str _ _ => .str _
  | _, _, _, .tup h z a => .tup (KTup.sq (xs := _) ⟨_, _, _, _, h, z, KDtAll.rel a⟩ H) (KDtAll.dt H a)
theorem KDtAll.dt {K : PySem.W.Frag} (H : Hp) : ∀ {us : List Value} {vs : List V} {ds : List PyData}, KDtAll K us vs ds → DtAll K H vs ds
  | _, _, _, .nil => .nil
  | _, _, _, .cons h t => .cons (KDt.dt H h) (KDtAll.dt H t)
end
inductive VEnt (w : World) (K : PySem.W.Frag) : List DictEntry → List (Str × PyData) → Prop
  | nil : VEnt w K [] []
  | cons {e : DictEntry} {es : List DictEntry} {k : Str} {u : Value} {v : V} {d : PyData} {ps : List (Str × PyData)} {t : Tok} : e.key = .str k t → e.hash = hashStr w k → e.val = u → KDt K u v d → VEnt w K es ps → VEnt w K (e :: es) ((k, d) :: ps)
/-- what an entry is -/
def IsEnt (K : PySem.W.Frag) (kv : Key × V) (p : Str × PyData) : Prop := kv.1 = .inr p.1 ∧ ∀ H, Dt K H kv.2 p.2
theorem VEnt.pairs {P : Program} {w : World} {K : PySem.W.Frag} : ∀ {es : List DictEntry} {ps : List (Str × PyData)}, VEnt w K es ps → ∃ (kvs : List (Key × V)) (vs : List (Key × Value)), KV kvs vs ∧ PySem.Pairs (mixKind P w) es vs ∧ vs.map (·.1) = ps.map (fun p => (Sum.inr p.1 : Key)) ∧ (∀ e ∈ es, ∃ k, (mixKind P w).is k e.key = true ∧ e.hash = (mixKind P w).hash k) ∧ Paired (IsEnt K) kvs ps
  | _, _, .nil => ⟨[], [], .nil, .nil, rfl, (fun _ h => by cases h), .nil⟩
  | _, _, .cons (k := k) (u := u) (v := v) (t := t) hk hh hv hd r => by
    obtain ⟨kvs, vs, a, b, c, d, e⟩ := VEnt.pairs (P := P) r
    refine ⟨(.inr k, v) :: kvs, (.inr k, u) :: vs, .cons ⟨rfl, hd.rel⟩ a, .cons (by rw [hk]; exact mixKind_str P w k t) hv b, by rw [List.map_cons, c]; rfl, fun e' he => ?_, .cons ⟨rfl, fun H => hd.dt H⟩ e⟩
    rcases List.mem_cons.mp he with rfl | he
    · exact ⟨.inr k, by rw [hk]; exact mixKind_str P w k t, hh⟩
    · exact d e' he
def HasDatD (P : Program) (w : World) (K : PySem.W.Frag) (x : Str) (ps : List (Str × PyData)) : Prop := ∃ a, PySem.W.nsIn K mainGlobals x = some (some (.ref a)) ∧ ∃ kvs, KDct P w K a kvs ∧ Paired (IsEnt K) kvs ps ∧ (ps.map (·.1)).Nodup
structure UseDat (P : Program) (w : World) (K : PySem.W.Frag) (mg : Str → Option Value) (x : Str) (ps : List (Str × PyData)) : Prop where
  ex : ∃ a, mg x = some (.ref a) ∧ ∃ kvs, KDct P w K a kvs ∧ Paired (IsEnt K) kvs ps ∧ (ps.map (·.1)).Nodup
theorem HasDatD.g {P : Program} {w : World} {K : PySem.W.Frag} {mg : Str → Option Value} {h : Heap} {x : Str} {ps : List (Str × PyData)} (D : HasDatD P w K x ps) (X : K.In h) (G : h.Ns mainGlobals mg) : UseDat P w K mg x ps := by
  obtain ⟨a, e, r⟩ := D
  exact ⟨a, PySem.W.mg_of X G e, r⟩
theorem HasDatD.mk' {P : Program} {w : World} {K : PySem.W.Frag} {x : Str} {ps : List (Str × PyData)} {a : Addr} {es : Array DictEntry} {ep : Nat} (h : PySem.W.nsIn K mainGlobals x = some (some (.ref a)))
    (b : K.lookup a = some { cls := .type "dict", data := .dict es ep }) (hs : (a == sysModules) = false) (c : VEnt w K es.toList ps) (nd : (ps.map (·.1)).Nodup) : HasDatD P w K x ps := by
  obtain ⟨kvs, vs, v1, v2, v3, v4, v5⟩ := VEnt.pairs (P := P) c
  refine ⟨a, h, kvs, ⟨hs, vs, v1, fun hh hK => ⟨_, es, ep, hK a _ b, ⟨rfl, rfl, rfl⟩, rfl, fun e he => v4 e (Array.mem_toList_iff.mpr he), v2, ?_⟩⟩, v5, nd⟩
  rw [v3]
  have : ps.map (fun p => (Sum.inr p.1 : Key)) = (ps.map (·.1)).map Sum.inr := by rw [List.map_map]; rfl
  rw [this]
  exact nodup_inr nd
theorem ent_val {K : PySem.W.Frag} : ∀ {kvs : List (Key × V)} {ps : List (Str × PyData)} {i : Nat} {p : Str × PyData}, Paired (IsEnt K) kvs ps → (ps.map (·.1)).Nodup → ps[i]? = some p → ∃ v, valV kvs (.inr p.1) = some v ∧ ∀ H, Dt K H v p.2
  | _, _, 0, p, .cons (a := kv) h t, _, e => by
    cases e
    exact ⟨kv.2, by rw [valV_pos h.1], h.2⟩
  | _, _, i + 1, p, .cons (a := kv) (b := q) h t, nd, e => by
    obtain ⟨n1, n2⟩ := List.nodup_cons.mp (show (q.1 :: _).Nodup from nd)
    obtain ⟨v, hv, d⟩ := ent_val (i := i) t n2 e
    refine ⟨v, ?_, d⟩
    rw [valV_neg, hv]
    rw [h.1]
    intro c
    exact n1 (List.mem_map.mpr ⟨p, List.mem_of_getElem? (i := i) (by simpa using e), (Sum.inr.inj c).symm⟩)
theorem UseDat.dict {P : Program} {w : World} {K : PySem.W.Frag} {mg : Str → Option Value} {x : Str} {ps : List (Str × PyData)} (U : UseDat P w K mg x ps) : ∃ a, mg x = some (.ref a) ∧ ∀ (i : Nat) (p : Str × PyData), ps[i]? = some p → ∃ kvs v, KDct P w K a kvs ∧ valV kvs (.inr p.1) = some v ∧ ∀ H, Dt K H v p.2 := by
  obtain ⟨a, e, kvs, kd, pr, nd⟩ := U.ex
  refine ⟨a, e, fun i p hp => ?_⟩
  obtain ⟨v, hv, d⟩ := ent_val pr nd hp
  exact ⟨kvs, v, kd, hv, d⟩
/-! ### defs by name and place, of another name too -/
def HasFnB (K : PySem.W.Frag) (x y : Str) (st : Stmt) (f : Addr) : Prop := ∃ (oc : Value) (od an : Option Addr) (kV doc pm cdv ct : Value) (osl : Array (Option Value)),
  PySem.W.nsIn K mainGlobals x = some (some (.ref f)) ∧ K.lookup f = some ⟨oc, od, .func (PySem.W.fnOf y y (defArgs st) (defBody st) (defScope st) .none kV doc pm an cdv ct), osl⟩ ∧
  PySem.W.codeIn K cdv y = true ∧ PySem.W.keepIn K (.ref f) = true
theorem HasFnB.mk' {K : PySem.W.Frag} {x y : Str} {st : Stmt} {f : Addr} {oc : Value} {od an : Option Addr} {kV doc pm cdv ct : Value} {osl : Array (Option Value)} (a : PySem.W.nsIn K mainGlobals x = some (some (.ref f)))
    (b : K.lookup f = some ⟨oc, od, .func (PySem.W.fnOf y y (defArgs st) (defBody st) (defScope st) .none kV doc pm an cdv ct), osl⟩) (c : PySem.W.codeIn K cdv y = true) (d : PySem.W.keepIn K (.ref f) = true) : HasFnB K x y st f := ⟨oc, od, an, kV, doc, pm, cdv, ct, osl, a, b, c, d⟩
section
variable {P : Program} {w : World} {K : PySem.W.Frag} {mg : Str → Option Value} {base h : Heap}
theorem mk_useB' {x y : Str} {st : Stmt} {k : Nat} {ps : List Str} {sp : Sp} {f : Addr} (F : HasFnB K x y st f) (X : K.In h) (G : h.Ns mainGlobals mg)
    (hb : ∀ (kV doc pm : Value) (an : Option Addr) (cdv ct : Value) (us : List Value), us.length = ps.length → bindArgs (PySem.W.fnOf y y (defArgs st) (defBody st) (defScope st) .none kV doc pm an cdv ct) ⟨us, []⟩ = pure (ps.zip us))
    (ok : ∀ (f : Addr) (fd : FuncData), Fun K y y st f fd → FnG P w K mg base CX0 k f fd ps sp) : UseA P w K mg base x k ps sp f := by
  obtain ⟨oc, od, an, kV, doc, pm, cdv, ct, osl, e, l, c, kp⟩ := F
  have Fn := fun_mk (st := st) l c kp
  exact ⟨_, ok f _ Fn, PySem.W.mg_of X G e, kp, Fn.binds hb⟩
end
/-- the dict D of the top holds, at the key, a def with this promise -/
structure DefAt (P : Program) (w : World) (K : PySem.W.Frag) (mg : Str → Option Value) (base : Heap) (D key : Str) (k : Nat) (ps : List Str) (sp : Sp) : Prop where
  ex : ∃ (a f : Addr) (fd : FuncData), mg D = some (.ref a) ∧ (∃ kvs, KDct P w K a kvs ∧ valV kvs (.inr key) = some (.ref f)) ∧ FnG P w K mg base CX0 k f fd ps sp ∧ PySem.W.keepIn K (.ref f) = true ∧ Binds K fd ps []
section
variable {P : Program} {w : World} {K : PySem.W.Frag} {mg : Str → Option Value} {base : Heap} {D key : Str} {k : Nat} {ps : List Str} {sp : Sp}
theorem DefAt.mk' {kvs : List (Key × V)} {x : Str} {k' : Nat} {f : Addr} (U : UseD P w K mg D kvs) (A : UseA P w K mg base x k' ps sp f) (h : valV kvs (.inr key) = some (.ref f)) (hk : k' ≤ k) : DefAt P w K mg base D key k ps sp := by
  obtain ⟨a, e, kd⟩ := U.ex
  obtain ⟨fd, F, _, kp, b⟩ := A.ex
  exact ⟨a, f, fd, e, ⟨kvs, kd, h⟩, F.up hk, kp, b⟩
theorem DefAt.dict (U : DefAt P w K mg base D key k ps sp) : ∃ a, mg D = some (.ref a) := let ⟨a, _, _, e, _⟩ := U.ex; ⟨a, e⟩
theorem DefAt.at (U : DefAt P w K mg base D key k ps sp) {a : Addr} (g : mg D = some (.ref a)) : ∃ (kvs : List (Key × V)) (f : Addr) (fd : FuncData), KDct P w K a kvs ∧ valV kvs (.inr key) = some (.ref f) ∧ FnG P w K mg base CX0 k f fd ps sp ∧ PySem.W.keepIn K (.ref f) = true ∧ Binds K fd ps [] := by
  obtain ⟨a', f, fd, e, ⟨kvs, kd, h⟩, r⟩ := U.ex
  rw [g] at e
  cases e
  exact ⟨kvs, f, fd, kd, h, r⟩
end
/-! ### zip of two tuples -/
theorem walk_zipT {K : PySem.W.Frag} {a b : Addr} {xs ys : List V} {n : Nat} (hn : n = min xs.length ys.length) : L2.Walk (RZ.ItzT K a b) n (fun H => SqT K H a xs ∧ SqT K H b ys) (L2.YPair (fun i => xs[i]?) (fun i => ys[i]?)) := by
  subst hn
  refine ⟨fun i _ hi q => ?_, fun _ q => ⟨xs, ys, q.1, q.2, by omega⟩, fun i H v H' _ q y => ?_⟩
  · have h1 : i < xs.length := by omega
    have h2 : i < ys.length := by omega
    exact ⟨xs, ys, xs[i], ys[i], q.1, q.2, by simp [h1], by simp [h2]⟩
  · obtain ⟨T, x, y, h1, h2, h3, h4, h5⟩ := y
    exact ⟨T, x, y, h1, h2, h3, h4 xs q.1, h5 ys q.2⟩
end LK


set_option Elab.async false
set_option linter.all false
set_option maxRecDepth 100000
set_option maxHeartbeats 4000000
set_option exponentiation.threshold 3000
namespace K47
open PySem PySem.Spec PyProof.Rows LK SX L2
def top (i : Nat) : Stmt := PySem.Challenge.pw_pyhold_k47_built_in_dicts.main.body.getD i (.Pass ⟨0, 0, 0, 0⟩)
structure Txt (K : PySem.W.Frag) (mg : Str → Option Value) : Prop where
  c_MOST_ENTRIES : GInt mg "MOST_ENTRIES" 1000
  c_TYPE_ERROR : GInt mg "TYPE_ERROR" 10
  c_KEY_ERROR : GInt mg "KEY_ERROR" 7
  c_TOO_LARGE : GTup K mg "TOO_LARGE" [V.str "raise", V.int 15, V.str "too large"]
  c_DONE : GDat K mg "DONE" (.tuple [.str "ok", .tuple [.str "none"]])
  b_len : mg "len" = none
  b_int : mg "int" = none
  b_range : mg "range" = none
  b_list : mg "list" = none
  b_tuple : mg "tuple" = none
  b_str : mg "str" = none
  b_repr : mg "repr" = none
  b_reversed : mg "reversed" = none
  b_enumerate : mg "enumerate" = none
  b_zip : mg "zip" = none
abbrev s_law_cell : Stmt := top 128
abbrev N_law_cell : List Str := ["script", "k"]
abbrev P_law_cell : List Str := ["script", "k"]
theorem sc_law_cell : FnScope N_law_cell P_law_cell (defScope s_law_cell) := ⟨rfl, rfl, rfl, by decide +kernel, rfl, by decide +kernel, by decide +kernel⟩
abbrev s_law_digits : Stmt := top 129
abbrev N_law_digits : List Str := ["script", "first", "last", "digits", "k", "cell", "turn", "seed"]
abbrev P_law_digits : List Str := ["script", "first", "last"]
theorem sc_law_digits : FnScope N_law_digits P_law_digits (defScope s_law_digits) := ⟨rfl, rfl, rfl, by decide +kernel, rfl, by decide +kernel, by decide +kernel⟩
abbrev s_law_draw : Stmt := top 130
abbrev N_law_draw : List Str := ["box", "many", "at"]
abbrev P_law_draw : List Str := ["box", "many"]
theorem sc_law_draw : FnScope N_law_draw P_law_draw (defScope s_law_draw) := ⟨rfl, rfl, rfl, by decide +kernel, rfl, by decide +kernel, by decide +kernel⟩
section
variable {P : Program} {w : World} {K : PySem.W.Frag} {mg : Str → Option Value} {base : Heap}
theorem ok_draw {f : Addr} {fd : FuncData} (F : Fun K "_law_draw" "_law_draw" s_law_draw f fd) (T : Txt K mg) : FnG P w K mg base CX0 1 f fd P_law_draw (spDraw K) := by
  refine okG0 F sc_law_draw (fun vs H Q E h => ?_) fun cdv A outer s H vs Q E hr hg h => ?_
  · obtain ⟨p, dl, m, rfl, _⟩ := h
    rfl
  · obtain ⟨p, dl, m, rfl, B, hm, k⟩ := h
    obtain ⟨ds, n, hp, hn, hd, hl, hds⟩ := id B
    refine ⟨_, (pss_cons (ps_set (i := 2) sc_law_draw.nd rfl (Or.inl rfl) (pe_ix ix_list (pv 0) pe_int (fun _ _ => rfl)))
  (pss_cons (ps_asg (pe_op op_add (pv 2) pe_int) (pg_sub (pv 0) pe_int set_list))
  (pss_cons (ps_if (pt_cmpR op_lt (pv 2) (pe_callB call_len (by rfl) T.b_len PySem.boot_len (pa_cons (pe_ix ix_list (pv 0) pe_int (fun _ _ => rfl)) pa_nil)) (nomark _))
   (pss_one (ps_ret (pe_op op_mod (pe_callTy call_int1 (by rfl) T.b_int (by decide +kernel) (pa_cons (pe_ix ix_list (pe_ix ix_list (pv 0) pe_int (fun _ _ => rfl)) (pv 2) (fun _ _ => rfl)) pa_nil)) (pv 1))))
   pss_nil)
  (pss_one (ps_ret (pe_op op_mod (pe_callTy call_int1 (by rfl) T.b_int (by decide +kernel) (pa_cons (pe_op op_add (pe_op op_mul (pv 2) pe_int) pe_int) pa_nil)) (pv 1))))))), ?_⟩
    -- at = box[1]; box[1] = at + 1
    refine ⟨_, rfl, p, _, _, _, rfl, rfl, SqL.of hp, rfl, ?_⟩
    refine ⟨_, rfl, _, _, rfl, rfl, _, rfl, p, _, _, _, rfl, rfl, hp, rfl, ?_⟩
    have npd : dl ≠ p := by
      intro e
      subst e
      rw [hp] at hd
      have e := HO.lst.inj (Option.some.inj hd)
      cases ds with
      | nil => cases e
      | cons d ds => cases (List.cons.inj e).1
    have B' : BoxAt (upd H p (.lst [.ref dl, .int (n + 1)])) p dl := ⟨ds, n + 1, upd_same, by omega, by rw [upd_ne npd]; exact hd, hl, hds⟩
    have kp : Keep p H (upd H p (.lst [.ref dl, .int (n + 1)])) := fun b o e hb => by rw [upd_ne hb]; exact e
    have hd' : upd H p (.lst [.ref dl, .int (n + 1)]) dl = some (.lst (ds.map V.int)) := by rw [upd_ne npd]; exact hd
    -- if at < len(box[0])
    refine ⟨_, rfl, _, rfl, p, _, _, _, rfl, rfl, SqL.of upd_same, rfl, _, _, rfl, .inl ⟨_, SqL.of hd', rfl⟩, ?_⟩
    refine ⟨_, _, rfl, rfl, _, rfl, ?_⟩
    refine ite2 (fun c => ?_) fun c => ?_
    · have c1 : n < (ds.length : Int) := by simpa using c
      have c2 : n.toNat < ds.length := by omega
      have mem := hds _ (List.getElem_mem c2)
      refine ⟨_, rfl, p, _, _, _, rfl, rfl, SqL.of upd_same, rfl, _, rfl, dl, _, _, .int ds[n.toNat], rfl, rfl, SqL.of hd', ?_, .inl ⟨_, rfl, ?_⟩⟩
      · have e : n = ((n.toNat : Nat) : Int) := by omega
        exact at_of e (by simp [c2])
      · refine ⟨_, rfl, _, _, rfl, rfl, hm, ?_⟩
        exact k _ _ (Int.emod_nonneg _ (by omega)) (Int.emod_lt_of_pos _ hm) B' kp
    · refine ⟨_, rfl, _, _, rfl, rfl, .inr ⟨by decide, by decide⟩, _, _, rfl, rfl, .inl ⟨_, rfl, _, rfl, _, _, rfl, rfl, hm, ?_⟩⟩
      exact k _ _ (Int.emod_nonneg _ (by omega)) (Int.emod_lt_of_pos _ hm) B' kp
theorem ok_cell {f : Addr} {fd : FuncData} (F : Fun K "_law_cell" "_law_cell" s_law_cell f fd) (T : Txt K mg) : FnG P w K mg base CX0 1 f fd P_law_cell (spCell K) := by
  refine okG0 F sc_law_cell (fun vs H Q E h => ?_) fun cdv A outer s H vs Q E hr hg h => ?_
  · obtain ⟨a, ns, i, rfl, _⟩ := h
    rfl
  · obtain ⟨a, ns, i, rfl, hs, hi, k⟩ := h
    refine ⟨_, (pss_cons (ps_if (pt_cmpR op_lt (pv 1) (pe_callB call_len (by rfl) T.b_len PySem.boot_len (pa_cons (pv 0) pa_nil)) (nomark _))
   (pss_one (ps_ret (pe_ix ix_list (pv 0) (pv 1) (fun _ _ => rfl))))
   pss_nil)
  (pss_one (ps_ret pe_int))), ?_⟩
    refine ⟨_, rfl, _, rfl, _, _, rfl, .inl ⟨_, hs, rfl⟩, _, _, rfl, rfl, _, rfl, ?_⟩
    refine ite3 (fun c => ?_) fun _ => k 0
    have c1 : i < (ns.length : Int) := by simpa using c
    have c2 : i.toNat < ns.length := by omega
    exact ⟨_, rfl, _, rfl, a, _, _, .int ns[i.toNat], rfl, rfl, hs, at_of (show i = ((i.toNat : Nat) : Int) by omega) (by simp [c2]), k _⟩
theorem ok_digits {f : Addr} {fd : FuncData} (F : Fun K "_law_digits" "_law_digits" s_law_digits f fd) (T : Txt K mg) (U_law_cell : Use P w K mg base CX0 "_law_cell" 1 P_law_cell (spCell K)) : FnG P w K mg base CX0 2 f fd P_law_digits (spDigits K) := by
  refine okG0 F sc_law_digits (fun vs H Q E h => ?_) fun cdv A outer s H vs Q E hr hg h => ?_
  · obtain ⟨a, ns, lo, hi, rfl, _⟩ := h
    rfl
  · obtain ⟨a, ns, lo, hi, rfl, hs, hlo, hhi, k⟩ := h
    refine ⟨_, (pss_cons (ps_set (i := 3) sc_law_digits.nd rfl (Or.inl rfl) (pe_lst pa_nil))
  (pss_cons (ps_for PassesOwn.never rfl (pi_range2 (by rfl) T.b_range (pa_cons (pv 1) (pa_cons (pv 2) pa_nil))) (pg_name (i := 4) sc_law_digits.nd rfl (Or.inl rfl))
   (pss_cons (ps_set (i := 5) sc_law_digits.nd rfl (Or.inl rfl) (pe_use U_law_cell (hr.mono (by decide)) hg rfl (pa_cons (pv 0) (pa_cons (pv 4) pa_nil))))
  (C8.pss_cut (ps_if (pt_cmpR op_lt (pv 5) pe_int (nomark _))
   (pss_one (ps_set (i := 5) sc_law_digits.nd rfl (Or.inl rfl) (pe_op op_sub pe_int (pe_op op_mul pe_int (pv 5)))))
   pss_nil)
  (pss_one (ps_if (pt_cmpR op_ge (pv 5) (pe_op op_pow pe_int pe_int) (nomark _))
   (pss_one (ps_for PassesOwn.never rfl (pi_range1 (by rfl) T.b_range (pa_cons pe_int pa_nil)) (pg_name (i := 6) sc_law_digits.nd rfl (Or.inl rfl))
   (pss_one (ps_if (pt_cmpR op_gt (pv 5) pe_int (nomark _))
   (pss_cons (ps_expr (pe_bm PySem.F.plainAttrs_list PySem.F.slot_list_append PySem.F.type_list_append mt_append (pv 3) (pa_cons (pe_op op_mod (pe_callTy call_int1 (by rfl) T.b_int (by decide +kernel) (pa_cons (pv 5) pa_nil)) pe_int) pa_nil)))
  (pss_one (ps_set (i := 5) sc_law_digits.nd rfl (Or.inl rfl) (pe_op op_fdiv (pv 5) pe_int))))
   pss_nil))))
   (pss_cons (ps_set (i := 7) sc_law_digits.nd rfl (Or.inl rfl) (pe_op op_mod (pe_callTy call_int1 (by rfl) T.b_int (by decide +kernel) (pa_cons (pe_op op_add (pe_op op_add (pe_op op_mul (pv 5) pe_int) (pe_op op_mul (pv 4) pe_int)) pe_int) pa_nil)) pe_int))
  (pss_one (ps_for PassesOwn.never rfl (pi_range1 (by rfl) T.b_range (pa_cons pe_int pa_nil)) (pg_name (i := 6) sc_law_digits.nd rfl (Or.inl rfl))
   (pss_cons (ps_set (i := 7) sc_law_digits.nd rfl (Or.inl rfl) (pe_op op_mod (pe_callTy call_int1 (by rfl) T.b_int (by decide +kernel) (pa_cons (pe_op op_add (pe_op op_add (pe_op op_mul (pv 7) pe_int) (pe_op op_mul pe_int (pv 6))) pe_int) pa_nil)) pe_int))
  (pss_one (ps_expr (pe_bm PySem.F.plainAttrs_list PySem.F.slot_list_append PySem.F.type_list_append mt_append (pv 3) (pa_cons (pe_op op_mod (pe_callTy call_int1 (by rfl) T.b_int (by decide +kernel) (pa_cons (pe_op op_fdiv (pv 7) pe_int) pa_nil)) pe_int) pa_nil)))))))))))))
  (pss_one (ps_ret (pv 3))))), ?_⟩
    refine ⟨by decide, fun dl nd => ?_⟩
    have sz : (4000 : Nat) < sizeLine := by decide
    -- for k in range(first, last)
    refine ⟨_, rfl, _, rfl, _, _, rfl, ⟨by omega, by omega, by omega, by omega⟩, ?_⟩
    refine for_range (lo := (lo : Int)) (n := ((hi : Int) - (lo : Int)).toNat) (fun i σ H1 => ∃ x5 x6 x7 x4, σ = [some (.ref a), some (.int lo), some (.int hi), some (.ref dl), x4, x5, x6, x7] ∧ DigAt H H1 dl (60 * i)) ?_ ?_ ?_
    · exact ⟨none, none, none, none, rfl, [], upd_same, by simp, by simp, Same.new nd⟩
    · rintro i σ H1 hi' ⟨x5, x6, x7, x4, rfl, D⟩
      have S1 : Same H H1 := let ⟨_, _, _, _, z⟩ := D; z
      -- cell = _law_cell(script, k)
      refine ⟨_, rfl, _, rfl, a, ns, _, rfl, S1.seq hs, by omega, fun cell => ?_⟩
      -- if cell < 0: cell = 1 - 2 * cell
      refine ⟨fun σ H2 => ∃ c : Int, σ = [some (.ref a), some (.int lo), some (.int hi), some (.ref dl), some (.int ((lo : Int) + i)), some (.int c), x6, x7] ∧ H2 = H1, ?_, ?_⟩
      · refine ⟨_, rfl, _, _, rfl, rfl, _, rfl, ?_⟩
        refine ite3 (fun _ => ?_) fun _ => ⟨cell, rfl, rfl⟩
        exact ⟨_, rfl, _, _, rfl, rfl, .inl ⟨by decide, by decide⟩, _, _, rfl, rfl, _, rfl, rfl⟩
      · rintro _ _ ⟨c, rfl, rfl⟩
        -- if cell >= 10 ** 18
        refine ⟨_, rfl, _, _, rfl, rfl, ⟨by decide, by decide, by decide⟩, _, _, rfl, rfl, _, rfl, ?_⟩
        refine ite3 (fun hc => ?_) fun hc => ?_
        · refine ⟨_, rfl, by decide, by decide, ?_⟩
          refine for_range (lo := 0) (n := 60) (fun j σ H1 => ∃ (c : Int) (y6 : Option V), σ = [some (.ref a), some (.int lo), some (.int hi), some (.ref dl), some (.int ((lo : Int) + i)), some (.int c), y6, x7] ∧ DigAt H H1 dl (60 * i + j)) ⟨c, x6, rfl, D⟩ ?_ ?_
          · rintro j σ H2 hj ⟨c, y6, rfl, D2⟩
            obtain ⟨ds, hd, hl, _⟩ := id D2
            refine ⟨_, rfl, _, _, rfl, rfl, _, rfl, ?_⟩
            refine ite3 (fun hp => ?_) fun _ => ⟨c, _, rfl, D2.mono (by omega)⟩
            have hp : 0 < c := by simpa using hp
            refine ⟨_, rfl, .inl ⟨rfl, _, SqL.of hd⟩, _, rfl, .inl ⟨_, rfl, _, _, rfl, rfl, (by show (0 : Int) < 1000; decide), dl, _, _, rfl, rfl, hd, (by simp; omega), ?_⟩⟩
            refine ⟨_, rfl, _, _, rfl, rfl, ⟨by decide, by decide⟩, ?_⟩
            exact ⟨_, _, rfl, D2.add hd nd (Int.emod_nonneg _ (by decide)) (Int.emod_lt_of_pos _ (by decide))⟩
          · rintro σ H2 ⟨c, y6, rfl, D2⟩
            exact ⟨_, _, _, _, rfl, D2.mono (by omega)⟩
        · refine ⟨_, rfl, _, _, rfl, rfl, .inr ⟨by decide, by decide⟩, _, rfl, _, _, rfl, rfl, .inr ⟨by decide, by decide⟩, _, _, rfl, rfl, _, _, rfl, rfl, .inl ⟨_, rfl, _, _, rfl, rfl, (by show (0 : Int) < 2147483647; decide), ?_⟩⟩
          refine ⟨_, rfl, by decide, by decide, ?_⟩
          refine for_range (lo := 0) (n := 12) (fun j σ H1 => ∃ (sd : Int) (y6 : Option V), σ = [some (.ref a), some (.int lo), some (.int hi), some (.ref dl), some (.int ((lo : Int) + i)), some (.int c), y6, some (.int sd)] ∧ DigAt H H1 dl (60 * i + j)) ⟨_, x6, rfl, D⟩ ?_ ?_
          · rintro j σ H2 hj ⟨sd, y6, rfl, D2⟩
            obtain ⟨ds, hd, hl, _⟩ := id D2
            refine ⟨_, rfl, _, _, rfl, rfl, .inr ⟨by decide, by decide⟩, _, rfl, _, _, rfl, rfl, .inl ⟨by decide, by decide⟩, _, _, rfl, rfl, _, _, rfl, rfl, .inl ⟨_, rfl, _, _, rfl, rfl, (by show (0 : Int) < 2147483647; decide), ?_⟩⟩
            refine ⟨_, rfl, .inl ⟨rfl, _, SqL.of hd⟩, _, rfl, _, _, rfl, rfl, ⟨by decide, by decide⟩, .inl ⟨_, rfl, _, _, rfl, rfl, (by show (0 : Int) < 1000; decide), dl, _, _, rfl, rfl, hd, (by simp; omega), ?_⟩⟩
            exact ⟨_, _, rfl, D2.add hd nd (Int.emod_nonneg _ (by decide)) (Int.emod_lt_of_pos _ (by decide))⟩
          · rintro σ H2 ⟨sd, y6, rfl, D2⟩
            exact ⟨_, _, _, _, rfl, D2.mono (by omega)⟩
    · rintro σ H1 ⟨x5, x6, x7, x4, rfl, D⟩
      exact ⟨_, rfl, k dl H1 nd (D.mono (by omega))⟩
end

abbrev s_law_same : Stmt := top 133
abbrev N_law_same : List Str := ["actual", "due"]
abbrev P_law_same : List Str := ["actual", "due"]
theorem sc_law_same : FnScope N_law_same P_law_same (defScope s_law_same) := ⟨rfl, rfl, rfl, by decide +kernel, rfl, by decide +kernel, by decide +kernel⟩
section
variable {P : Program} {w : World} {K : PySem.W.Frag} {mg : Str → Option Value} {base : Heap}
theorem ok_same {f : Addr} {fd : FuncData} (F : Fun K "_law_same" "_law_same" s_law_same f fd) (T : Txt K mg) : FnG P w K mg base CX0 1 f fd P_law_same (spSame K) := by
  refine okG0 F sc_law_same (fun vs H Q E h => ?_) fun cdv A outer s H vs Q E hr hg h => ?_
  · obtain ⟨x, y, d, rfl, _⟩ := h
    rfl
  · obtain ⟨x, y, d, rfl, hx, hy, hs, k⟩ := h
    refine ⟨_, (pss_one (ps_ret (pe_cmpR op_eq (pe_callB (call_repr_data hg hr.units) (by rfl) T.b_repr (by decide +kernel) (pa_cons (pv 0) pa_nil)) (pe_callB (call_repr_data hg hr.units) (by rfl) T.b_repr (by decide +kernel) (pa_cons (pv 1) pa_nil)) (nomark _)))), ?_⟩
    refine ⟨_, rfl, _, d, rfl, hx, hs, _, rfl, _, d, rfl, hy, hs, rfl, ?_⟩
    rw [decide_eq_true rfl]
    exact k
end

section
/-! data whose texts are texts and that are not deep -/
def Shp (n : Nat) (d : PyData) : Prop := d.canLay0 = true ∧ d.depth ≤ n
theorem Shp.all {n : Nat} : ∀ {ds : List PyData}, (∀ d ∈ ds, Shp n d) → PyData.canLayAll0 ds = true ∧ PyData.depthAll ds ≤ n
  | [], _ => ⟨rfl, Nat.zero_le _⟩
  | d :: r, h => by
    obtain ⟨a, b⟩ := h d (by simp)
    obtain ⟨c, e⟩ := Shp.all (ds := r) fun x hx => h x (List.mem_cons_of_mem _ hx)
    exact ⟨by simp only [PyData.canLayAll0, a, c]; rfl, Nat.max_le.mpr ⟨b, e⟩⟩
theorem Shp.tup {n : Nat} {ds : List PyData} (h : ∀ d ∈ ds, Shp n d) : Shp (n + 1) (.tuple ds) := by
  obtain ⟨a, b⟩ := Shp.all h
  exact ⟨by simp only [PyData.canLay0]; exact a, show PyData.depthAll ds + 1 ≤ n + 1 by omega⟩
theorem Shp.lst {n : Nat} {ds : List PyData} (h : ∀ d ∈ ds, Shp n d) : Shp (n + 1) (.list ds) := by
  obtain ⟨a, b⟩ := Shp.all h
  exact ⟨by simp only [PyData.canLay0]; exact a, show PyData.depthAll ds + 1 ≤ n + 1 by omega⟩
theorem Shp.sh {n : Nat} {d : PyData} (h : Shp n d) (hn : n ≤ 64) : SeqAt.shaped d = true := by
  unfold SeqAt.shaped
  rw [h.1, decide_eq_true (Nat.le_trans h.2 hn)]; rfl
theorem Shp.mono {n m : Nat} {d : PyData} (h : Shp n d) (l : n ≤ m) : Shp m d := ⟨h.1, Nat.le_trans h.2 l⟩
theorem Shp.str {n : Nat} {x : Str} (h : PyData.canLay0 (.str x) = true) : Shp n (.str x) := ⟨h, Nat.zero_le _⟩
theorem Shp.int (n : Nat) (i : Int) : Shp n (.int i) := ⟨rfl, Nat.zero_le _⟩
theorem Shp.bool (n : Nat) (b : Bool) : Shp n (.bool b) := ⟨rfl, Nat.zero_le _⟩
theorem Shp.nil : Shp 1 (.tuple []) := Shp.tup (n := 0) fun _ h => by cases h
theorem Shp.cons2 {n : Nat} {d : PyData} {ds : List PyData} (h : Shp n d) (t : ∀ x ∈ ds, Shp n x) : ∀ x ∈ d :: ds, Shp n x := fun x hx => by
  rcases List.mem_cons.mp hx with rfl | hx
  · exact h
  · exact t x hx
theorem Shp.none2 {n : Nat} : ∀ x ∈ ([] : List PyData), Shp n x := fun _ h => by cases h
theorem Shp.strS {n : Nat} {a : List Nat} (h : ∀ c ∈ a, c < 128) : Shp n (.str (S a)) := by
  refine Shp.str ?_
  rw [PyData.canLay0]
  exact Array.all_eq_true_iff_forall_mem.mpr fun c hc => by
    have := h c (by simpa [S] using hc)
    exact decide_eq_true (by omega)
end

abbrev s_object_kind : Stmt := top 15
abbrev N_object_kind : List Str := ["heap", "value"]
abbrev P_object_kind : List Str := ["heap", "value"]
theorem sc_object_kind : FnScope N_object_kind P_object_kind (defScope s_object_kind) := ⟨rfl, rfl, rfl, by decide +kernel, rfl, by decide +kernel, by decide +kernel⟩
section
variable {P : Program} {w : World} {K : PySem.W.Frag} {mg : Str → Option Value} {base : Heap}
inductive KindIs (hds : List PyData) : PyData → Str → Prop
  | plain {z : Str} {rest : List PyData} : V.str z ≠ V.str "ref" → KindIs hds (.tuple (.str z :: rest)) ""
  | obj {k : Nat} {kd : Str} {rest : List PyData} : hds[k]? = some (.tuple (.str kd :: rest)) → KindIs hds (.tuple [.str "ref", .int (k : Nat)]) kd
def spKind (K : PySem.W.Frag) : Sp := fun vs H Q _ => ∃ (hp : Addr) (hds : List PyData) (v : V) (d : PyData) (kd : Str), vs = [.ref hp, v] ∧ ListAt K H hp hds ∧ Dt K H v d ∧ KindIs hds d kd ∧ Q (.str kd) H
theorem ok_kind {f : Addr} {fd : FuncData} (F : Fun K "object_kind" "object_kind" s_object_kind f fd) (T : Txt K mg) : FnG P w K mg base CX0 1 f fd P_object_kind (spKind K) := by
  refine okG0 F sc_object_kind (fun vs H Q E h => ?_) fun cdv A outer s H vs Q E hr hg h => ?_
  · obtain ⟨hp, hds, v, d, kd, rfl, _⟩ := h
    rfl
  · obtain ⟨hp, hds, v, d, kd, rfl, ⟨xs, hx, ax⟩, hd, hk, k⟩ := h
    refine ⟨_, (pss_cons (ps_if (pt_cmpR op_ne (pe_ix ix_tup (pv 1) pe_int (fun _ _ => rfl)) pe_str (nomark _))
   (pss_one (ps_ret pe_str))
   pss_nil)
  (pss_one (ps_ret (pe_ix ix_tup (pe_ix ix_list (pv 0) (pe_ix ix_tup (pv 1) pe_int (fun _ _ => rfl)) (fun _ _ => rfl)) pe_int (fun _ _ => rfl))))), ?_⟩
    cases hk with
    | plain hz =>
      obtain ⟨q, ws, rfl, hs, _⟩ := hd.head
      exact ⟨_, rfl, q, _, _, _, rfl, rfl, hs, at0, rfl, _, rfl, iteTb (by rw [decide_eq_false hz]; rfl) k⟩
    | @obj i _ rest hh =>
      obtain ⟨q, y, rfl, hs, h2⟩ := hd.pair
      cases h2.int_inv
      obtain ⟨o, ho, dO⟩ := ax.get hh
      obtain ⟨qo, zs, rfl, hso, _⟩ := dO.head
      refine ⟨_, rfl, q, _, _, _, rfl, rfl, hs, at0, rfl, _, rfl, iteFb (by decide +kernel) ?_⟩
      exact ⟨_, rfl, _, rfl, q, _, _, _, rfl, rfl, hs, at1, hp, _, _, _, rfl, rfl, SqL.of hx, atI_nat ho, qo, _, _, _, rfl, rfl, hso, at0, k⟩
end

section
--SPLIT
end
abbrev s_kind_name : Stmt := top 12
abbrev N_kind_name : List Str := ["heap", "value", "found"]
abbrev P_kind_name : List Str := ["heap", "value"]
theorem sc_kind_name : FnScope N_kind_name P_kind_name (defScope s_kind_name) := ⟨rfl, rfl, rfl, by decide +kernel, rfl, by decide +kernel, by decide +kernel⟩
abbrev s_function_name : Stmt := top 34
abbrev N_function_name : List Str := ["heap", "value"]
abbrev P_function_name : List Str := ["heap", "value"]
theorem sc_function_name : FnScope N_function_name P_function_name (defScope s_function_name) := ⟨rfl, rfl, rfl, by decide +kernel, rfl, by decide +kernel, by decide +kernel⟩
abbrev s_object_text : Stmt := top 33
abbrev N_object_text : List Str := ["heap", "found", "kind"]
abbrev P_object_text : List Str := ["heap", "found"]
theorem sc_object_text : FnScope N_object_text P_object_text (defScope s_object_text) := ⟨rfl, rfl, rfl, by decide +kernel, rfl, by decide +kernel, by decide +kernel⟩
abbrev s_in_quotes : Stmt := top 32
abbrev N_in_quotes : List Str := ["text", "quote", "told"]
abbrev P_in_quotes : List Str := ["text"]
theorem sc_in_quotes : FnScope N_in_quotes P_in_quotes (defScope s_in_quotes) := ⟨rfl, rfl, rfl, by decide +kernel, rfl, by decide +kernel, by decide +kernel⟩
abbrev s_leaf : Stmt := top 31
abbrev N_leaf : List Str := ["heap", "value", "kind"]
abbrev P_leaf : List Str := ["heap", "value"]
theorem sc_leaf : FnScope N_leaf P_leaf (defScope s_leaf) := ⟨rfl, rfl, rfl, by decide +kernel, rfl, by decide +kernel, by decide +kernel⟩
section
variable {P : Program} {w : World} {K : PySem.W.Frag} {mg : Str → Option Value} {base : Heap}
abbrev vks : List (Str × Str) := [("none", "NoneType"), ("bool", "bool"), ("int", "int"), ("text", "str"), ("span", "range"), ("built", "builtin"), ("host", "host")]
abbrev oks : List (Str × Str) := [("list", "list"), ("tuple", "tuple"), ("dict", "dict"), ("scope", "scope"), ("func", "function"), ("class", "class"), ("bound", "method"), ("iter", "iterator"), ("gen", "generator")]
def refD (j : Nat) : PyData := .tuple [.str "ref", .int (j : Nat)]
/-- the name of a value's kind -/
inductive NameOf (hds : List PyData) : PyData → Str → Prop
  | oth (j : Nat) (z : Str) (r : List PyData) (t : Str) : hds[j]? = some (.tuple (.str z :: r)) → z ≠ "inst" → valV (txtKV oks) (.inr z) = some (.str t) → NameOf hds (refD j) t
  | inst (j i : Nat) (r r2 : List PyData) (c : PyData) (n : Str) : hds[j]? = some (.tuple (.str "inst" :: .int (i : Nat) :: r)) → hds[i]? = some (.tuple (c :: .str n :: r2)) → NameOf hds (refD j) n
  | val (z : Str) (r : List PyData) (t : Str) : z ≠ "ref" → valV (txtKV vks) (.inr z) = some (.str t) → NameOf hds (.tuple (.str z :: r)) t
theorem dec_str {a b : Str} (h : a ≠ b) : decide (V.str a = V.str b) = false := decide_eq_false fun e => h (V.str.inj e)
theorem dec_str1 (a : Str) : decide (V.str a = V.str a) = true := decide_eq_true rfl
theorem hd_at {H : Hp} {hp : Addr} {hds : List PyData} {j : Nat} {d : PyData} (L : ListAt K H hp hds) (h : hds[j]? = some d) : ∃ xs y, H hp = some (.lst xs) ∧ atI xs ((j : Nat) : Int) = some y ∧ Dt K H y d := by
  obtain ⟨xs, e, a⟩ := L
  obtain ⟨y, hy, dy⟩ := a.get h
  exact ⟨xs, y, e, atI_nat hy, dy⟩
theorem dt_two {H : Hp} {v : V} {a b : PyData} {r : List PyData} (h : Dt K H v (.tuple (a :: b :: r))) : ∃ q x y ws, v = .ref q ∧ SqT K H q (x :: y :: ws) ∧ Dt K H x a ∧ Dt K H y b := by
  cases h with
  | tup hs ha =>
    cases ha with
    | cons h1 h2 =>
      cases h2 with
      | cons h3 h4 => exact ⟨_, _, _, _, rfl, hs, h1, h3⟩
theorem dt_str {H : Hp} {v : V} {z : Str} (h : Dt K H v (.str z)) : v = .str z := by cases h; rfl
def spKName (K : PySem.W.Frag) : Sp := fun vs H Q _ => ∃ hp hds v d t, vs = [.ref hp, v] ∧ ListAt K H hp hds ∧ Dt K H v d ∧ NameOf hds d t ∧ Q (.str t) H
theorem ok_kname {f : Addr} {fd : FuncData} (F : Fun K "kind_name" "kind_name" s_kind_name f fd) (T : Txt K mg) (U_VALUE_KINDS : UseD P w K mg "VALUE_KINDS" (txtKV vks)) (U_OBJECT_KINDS : UseD P w K mg "OBJECT_KINDS" (txtKV oks)) : FnG P w K mg base CX0 1 f fd P_kind_name (spKName K) := by
  refine okG0 F sc_kind_name (fun vs H Q E h => ?_) fun cdv A outer s H vs Q E hr hg h => ?_
  · obtain ⟨hp, hds, v, d, t, rfl, _⟩ := h
    rfl
  · obtain ⟨hp, hds, v, d, t, rfl, L, dv, hk, k⟩ := h
    obtain ⟨aD_VALUE_KINDS, gD_VALUE_KINDS, kD1⟩ := U_VALUE_KINDS.ex
    obtain ⟨aD_OBJECT_KINDS, gD_OBJECT_KINDS, kD2⟩ := U_OBJECT_KINDS.ex
    refine ⟨_, (pss_cons (ps_if (pt_cmpR op_ne (pe_ix ix_tup (pv 1) pe_int (fun _ _ => rfl)) pe_str (nomark _))
   (pss_one (ps_ret (pe_dgetK (pe_glob (v := .ref aD_VALUE_KINDS) (by rfl) gD_VALUE_KINDS rfl) (pe_ix ix_tup (pv 1) pe_int (fun _ _ => rfl)) (fun _ _ => rfl))))
   pss_nil)
  (pss_cons (ps_set (i := 2) sc_kind_name.nd rfl (Or.inl rfl) (pe_ix ix_list (pv 0) (pe_ix ix_tup (pv 1) pe_int (fun _ _ => rfl)) (fun _ _ => rfl)))
  (pss_cons (ps_if (pt_cmpR op_eq (pe_ix ix_tup (pv 2) pe_int (fun _ _ => rfl)) pe_str (nomark _))
   (pss_one (ps_ret (pe_ix ix_tup (pe_ix ix_list (pv 0) (pe_ix ix_tup (pv 2) pe_int (fun _ _ => rfl)) (fun _ _ => rfl)) pe_int (fun _ _ => rfl))))
   pss_nil)
  (pss_one (ps_ret (pe_dgetK (pe_glob (v := .ref aD_OBJECT_KINDS) (by rfl) gD_OBJECT_KINDS rfl) (pe_ix ix_tup (pv 2) pe_int (fun _ _ => rfl)) (fun _ _ => rfl))))))), ?_⟩
    cases hk with
    | oth j z r t ho hi ht =>
      obtain ⟨q, x, rfl, hq, hx⟩ := Dt.pair dv
      cases hx.int_inv
      obtain ⟨zs, y, ez, hy, dy⟩ := hd_at L ho
      obtain ⟨q2, ws, rfl, hq2, _⟩ := dy.head
      refine ⟨_, rfl, q, _, _, _, rfl, rfl, hq, at0, rfl, _, rfl, iteFb (by decide +kernel) ?_⟩
      refine ⟨_, rfl, _, rfl, q, _, _, _, rfl, rfl, hq, at1, hp, _, _, _, rfl, rfl, SqL.of ez, hy, ?_⟩
      refine ⟨_, rfl, q2, _, _, _, rfl, rfl, hq2, at0, rfl, _, rfl, iteFb (dec_str hi) ?_⟩
      exact ⟨_, rfl, q2, _, _, _, rfl, rfl, hq2, at0, aD_OBJECT_KINDS, _, .inr z, _, rfl, kD2, rfl, ht, k⟩
    | inst j i r r2 c n ho hi =>
      obtain ⟨q, x, rfl, hq, hx⟩ := Dt.pair dv
      cases hx.int_inv
      obtain ⟨zs, y, ez, hy, dy⟩ := hd_at L ho
      obtain ⟨q2, u, u2, ws, rfl, hq2, du, du2⟩ := dt_two dy
      cases dt_str du
      cases du2.int_inv
      obtain ⟨zs', y', ez', hy', dy'⟩ := hd_at L hi
      obtain ⟨q3, u', u3, ws', rfl, hq3, du', du3⟩ := dt_two dy'
      cases dt_str du3
      refine ⟨_, rfl, q, _, _, _, rfl, rfl, hq, at0, rfl, _, rfl, iteFb (by decide +kernel) ?_⟩
      refine ⟨_, rfl, _, rfl, q, _, _, _, rfl, rfl, hq, at1, hp, _, _, _, rfl, rfl, SqL.of ez, hy, ?_⟩
      refine ⟨_, rfl, q2, _, _, _, rfl, rfl, hq2, at0, rfl, _, rfl, iteTb (dec_str1 _) ?_⟩
      exact ⟨_, rfl, _, rfl, q2, _, _, _, rfl, rfl, hq2, at1, hp, _, _, _, rfl, rfl, SqL.of ez', hy', q3, _, _, _, rfl, rfl, hq3, at1, k⟩
    | val z r t hz ht =>
      obtain ⟨q, ws, rfl, hq, _⟩ := Dt.head dv
      refine ⟨_, rfl, q, _, _, _, rfl, rfl, hq, at0, rfl, _, rfl, iteTb (by rw [dec_str hz]; rfl) ?_⟩
      exact ⟨_, rfl, q, _, _, _, rfl, rfl, hq, at0, aD_VALUE_KINDS, _, .inr z, _, rfl, kD1, rfl, ht, k⟩
/-- the name of the def or class that a method is of -/
inductive FnName (hds : List PyData) : PyData → Str → Prop
  | own (z n : Str) (r : List PyData) : z = "built" ∨ z = "host" → FnName hds (.tuple (.str z :: .str n :: r)) n
  | obj (k : Nat) (z n : Str) (r : List PyData) : hds[k]? = some (.tuple (.str z :: .str n :: r)) → z = "func" ∨ z = "class" → FnName hds (refD k) n
def spFName (K : PySem.W.Frag) : Sp := fun vs H Q _ => ∃ hp hds v d t, vs = [.ref hp, v] ∧ ListAt K H hp hds ∧ Dt K H v d ∧ FnName hds d t ∧ ∀ H', Same H H' → Q (.str t) H'
theorem ok_fname {f : Addr} {fd : FuncData} (F : Fun K "_function_name" "_function_name" s_function_name f fd) (T : Txt K mg) (U_object_kind : Use P w K mg base CX0 "object_kind" 1 P_object_kind (spKind K)) (U_kind_name : Use P w K mg base CX0 "kind_name" 1 P_kind_name (spKName K)) : FnG P w K mg base CX0 2 f fd P_function_name (spFName K) := by
  refine okG0 F sc_function_name (fun vs H Q E h => ?_) fun cdv A outer s H vs Q E hr hg h => ?_
  · obtain ⟨hp, hds, v, d, t, rfl, _⟩ := h
    rfl
  · obtain ⟨hp, hds, v, d, t, rfl, L, dv, hk, k⟩ := h
    refine ⟨_, (pss_cons (ps_if (pt_cmpR op_in_seq (pe_ix ix_tup (pv 1) pe_int (fun _ _ => rfl)) (pe_tup (pa_cons pe_str (pa_cons pe_str pa_nil))) (by rfl))
   (pss_one (ps_ret (pe_ix ix_tup (pv 1) pe_int (fun _ _ => rfl))))
   pss_nil)
  (pss_cons (ps_if (pt_cmpR op_in_seq (pe_use U_object_kind (hr.mono (by decide)) hg rfl (pa_cons (pv 0) (pa_cons (pv 1) pa_nil))) (pe_tup (pa_cons pe_str (pa_cons pe_str pa_nil))) (by rfl))
   (pss_one (ps_ret (pe_ix ix_tup (pe_ix ix_list (pv 0) (pe_ix ix_tup (pv 1) pe_int (fun _ _ => rfl)) (fun _ _ => rfl)) pe_int (fun _ _ => rfl))))
   pss_nil)
  (pss_one (ps_ret (pe_use U_kind_name (hr.mono (by decide)) hg rfl (pa_cons (pv 0) (pa_cons (pv 1) pa_nil))))))), ?_⟩
    cases hk with
    | own z n r hz =>
      obtain ⟨q, x, y, ws, rfl, hq, hx, hy⟩ := dt_two dv
      cases dt_str hx
      cases dt_str hy
      refine ⟨_, rfl, q, _, _, _, rfl, rfl, hq, at0, sz_2, fun t ht => ⟨t, _, rfl, .inr (SqT.of upd_same), rfl, rfl, _, rfl, iteTb (by rcases hz with rfl | rfl <;> decide +kernel) ?_⟩⟩
      have S := Same.new (o := .tup [V.str "built", V.str "host"]) ht
      exact ⟨_, rfl, q, _, _, _, rfl, rfl, Same.tupl S hq, at1, k _ S⟩
    | obj j z n r ho hz =>
      obtain ⟨q, x, rfl, hq, hx⟩ := Dt.pair dv
      cases hx.int_inv
      have hnr : V.str z ≠ V.str "ref" := by rcases hz with rfl | rfl <;> decide +kernel
      refine ⟨_, rfl, q, _, _, _, rfl, rfl, hq, at0, sz_2, fun t ht => ⟨t, _, rfl, .inr (SqT.of upd_same), rfl, rfl, _, rfl, iteFb (by decide +kernel) ?_⟩⟩
      have S := Same.new (o := .tup [V.str "built", V.str "host"]) ht
      generalize upd H t _ = H1 at S
      have L1 := listAt_mono L S
      have dv1 := dv.mono S
      refine ⟨_, rfl, _, rfl, hp, hds, _, _, z, rfl, L1, dv1, .obj ho, sz_2, fun t2 ht2 => ⟨t2, _, rfl, .inr (SqT.of upd_same), rfl, rfl, _, rfl, iteTb (by rcases hz with rfl | rfl <;> decide +kernel) ?_⟩⟩
      have S2 := S.trans (Same.new (o := .tup [V.str "func", V.str "class"]) ht2)
      obtain ⟨zs, y, ez, hy, dy⟩ := hd_at (listAt_mono L S2) ho
      obtain ⟨q2, u, u2, ws, rfl, hq2, du, du2⟩ := dt_two dy
      cases dt_str du2
      exact ⟨_, rfl, _, rfl, q, _, _, _, rfl, rfl, Same.tupl S2 hq, at1, hp, _, _, _, rfl, rfl, SqL.of ez, hy, q2, _, _, _, rfl, rfl, hq2, at1, k _ S2⟩
/-- an f-string of three pieces -/
def fj (a n b : Str) : Str := ((Str.empty ++ a) ++ n) ++ b
theorem strlen_cat (a b : Str) : (a ++ b).length = a.length + b.length := by
  show (a.cps ++ b.cps).size = _
  rw [Array.size_append]; rfl
theorem ss_le {n : Nat} (h : n ≤ 100000) : n ≤ sizeLine := Nat.le_trans h (by decide)
theorem fj_sz {a n b : Str} (h : (fj a n b).length ≤ 100000) : (Str.empty ++ a).length ≤ sizeLine ∧ n.length ≤ sizeLine ∧ ((Str.empty ++ a) ++ n).length ≤ sizeLine ∧ (fj a n b).length ≤ sizeLine := by
  unfold fj at h ⊢
  rw [strlen_cat, strlen_cat] at h
  refine ⟨ss_le (by omega), ss_le (by omega), ss_le (by rw [strlen_cat]; omega), ss_le (by rw [strlen_cat, strlen_cat]; omega)⟩
/-- the text of an object of its own -/
inductive ObText (hds : List PyData) : PyData → Str → Prop
  | fn (n : Str) (r : List PyData) : ObText hds (.tuple (.str "func" :: .str n :: r)) (fj "<function " n ">")
  | cl (n : Str) (r : List PyData) : ObText hds (.tuple (.str "class" :: .str n :: r)) (fj "<class " n ">")
  | ins (i : Nat) (c : PyData) (n : Str) (r r2 : List PyData) : hds[i]? = some (.tuple (c :: .str n :: r2)) → ObText hds (.tuple (.str "inst" :: .int (i : Nat) :: r)) (fj "<" n " object>")
  | bd (x f : PyData) (n : Str) : FnName hds f n → ObText hds (.tuple [.str "bound", x, f]) (fj "<method " n ">")
  | gen (n : Str) (r : List PyData) : ObText hds (.tuple (.str "gen" :: .str n :: r)) (fj "<generator " n ">")
  | it (r : List PyData) : ObText hds (.tuple (.str "iter" :: r)) "<iterator>"
  | scope (r : List PyData) : ObText hds (.tuple (.str "scope" :: r)) "<scope>"
def spObText (K : PySem.W.Frag) : Sp := fun vs H Q _ => ∃ hp hds v d t, vs = [.ref hp, v] ∧ ListAt K H hp hds ∧ Dt K H v d ∧ ObText hds d t ∧ t.length ≤ 100000 ∧ ∀ H', Same H H' → Q (.str t) H'
theorem ok_obtext {f : Addr} {fd : FuncData} (F : Fun K "_object_text" "_object_text" s_object_text f fd) (T : Txt K mg) (U_function_name : Use P w K mg base CX0 "_function_name" 2 P_function_name (spFName K)) : FnG P w K mg base CX0 3 f fd P_object_text (spObText K) := by
  refine okG0 F sc_object_text (fun vs H Q E h => ?_) fun cdv A outer s H vs Q E hr hg h => ?_
  · obtain ⟨hp, hds, v, d, t, rfl, _⟩ := h
    rfl
  · obtain ⟨hp, hds, v, d, t, rfl, L, dv, hk, hl, k⟩ := h
    refine ⟨_, (pss_cons (ps_set (i := 2) sc_object_text.nd rfl (Or.inl rfl) (pe_ix ix_tup (pv 1) pe_int (fun _ _ => rfl)))
  (pss_cons (ps_if (pt_cmpR op_eq (pv 2) pe_str (nomark _))
   (pss_one (ps_ret (pe_joined (.cons pe_str (.cons (pe_fmt (pe_ix ix_tup (pv 1) pe_int (fun _ _ => rfl))) (.cons pe_str .nil))))))
   pss_nil)
  (pss_cons (ps_if (pt_cmpR op_eq (pv 2) pe_str (nomark _))
   (pss_one (ps_ret (pe_joined (.cons pe_str (.cons (pe_fmt (pe_ix ix_tup (pv 1) pe_int (fun _ _ => rfl))) (.cons pe_str .nil))))))
   pss_nil)
  (pss_cons (ps_if (pt_cmpR op_eq (pv 2) pe_str (nomark _))
   (pss_one (ps_ret (pe_joined (.cons pe_str (.cons (pe_fmt (pe_ix ix_tup (pe_ix ix_list (pv 0) (pe_ix ix_tup (pv 1) pe_int (fun _ _ => rfl)) (fun _ _ => rfl)) pe_int (fun _ _ => rfl))) (.cons pe_str .nil))))))
   pss_nil)
  (pss_cons (ps_if (pt_cmpR op_eq (pv 2) pe_str (nomark _))
   (pss_one (ps_ret (pe_joined (.cons pe_str (.cons (pe_fmt (pe_use U_function_name (hr.mono (by decide)) hg rfl (pa_cons (pv 0) (pa_cons (pe_ix ix_tup (pv 1) pe_int (fun _ _ => rfl)) pa_nil)))) (.cons pe_str .nil))))))
   pss_nil)
  (pss_cons (ps_if (pt_cmpR op_eq (pv 2) pe_str (nomark _))
   (pss_one (ps_ret (pe_joined (.cons pe_str (.cons (pe_fmt (pe_ix ix_tup (pv 1) pe_int (fun _ _ => rfl))) (.cons pe_str .nil))))))
   pss_nil)
  (pss_cons (ps_if (pt_cmpR op_eq (pv 2) pe_str (nomark _))
   (pss_one (ps_ret pe_str))
   pss_nil)
  (pss_one (ps_ret pe_str))))))))), ?_⟩
    cases hk with
    | fn n r =>
      obtain ⟨q, x, y, ws, rfl, hq, hx, hy⟩ := dt_two dv
      cases dt_str hx
      cases dt_str hy
      obtain ⟨s1, s2, s3, s4⟩ := fj_sz hl
      refine ⟨_, rfl, q, _, _, _, rfl, rfl, hq, at0, _, rfl, rfl, _, rfl, iteTb (by decide +kernel) ?_⟩
      exact ⟨_, rfl, s1, _, rfl, q, _, _, _, rfl, rfl, hq, at1, .inl ⟨n, rfl, s2, _, rfl, s3, _, rfl, s4, k _ (Same.refl _)⟩⟩
    | cl n r =>
      obtain ⟨q, x, y, ws, rfl, hq, hx, hy⟩ := dt_two dv
      cases dt_str hx
      cases dt_str hy
      obtain ⟨s1, s2, s3, s4⟩ := fj_sz hl
      refine ⟨_, rfl, q, _, _, _, rfl, rfl, hq, at0, _, rfl, rfl, _, rfl, iteFb (by decide +kernel) ?_⟩
      refine ⟨_, rfl, rfl, _, rfl, iteTb (by decide +kernel) ?_⟩
      exact ⟨_, rfl, s1, _, rfl, q, _, _, _, rfl, rfl, hq, at1, .inl ⟨n, rfl, s2, _, rfl, s3, _, rfl, s4, k _ (Same.refl _)⟩⟩
    | ins i c n r r2 hi =>
      obtain ⟨q, x, y, ws, rfl, hq, hx, hy⟩ := dt_two dv
      cases dt_str hx
      cases hy.int_inv
      obtain ⟨s1, s2, s3, s4⟩ := fj_sz hl
      obtain ⟨zs, y', ez, hy', dy⟩ := hd_at L hi
      obtain ⟨q2, u, u2, ws2, rfl, hq2, du, du2⟩ := dt_two dy
      cases dt_str du2
      refine ⟨_, rfl, q, _, _, _, rfl, rfl, hq, at0, _, rfl, rfl, _, rfl, iteFb (by decide +kernel) ?_⟩
      refine ⟨_, rfl, rfl, _, rfl, iteFb (by decide +kernel) ?_⟩
      refine ⟨_, rfl, rfl, _, rfl, iteTb (by decide +kernel) ?_⟩
      exact ⟨_, rfl, s1, _, rfl, _, rfl, q, _, _, _, rfl, rfl, hq, at1, hp, _, _, _, rfl, rfl, SqL.of ez, hy', q2, _, _, _, rfl, rfl, hq2, at1, .inl ⟨n, rfl, s2, _, rfl, s3, _, rfl, s4, k _ (Same.refl _)⟩⟩
    | bd x f n hf =>
      cases dv with
      | tup hs ha =>
        cases ha with
        | cons h1 ha =>
          cases dt_str h1
          cases ha with
          | cons h2 ha =>
            cases ha with
            | cons h3 ha =>
              obtain ⟨s1, s2, s3, s4⟩ := fj_sz hl
              refine ⟨_, rfl, _, _, _, _, rfl, rfl, hs, at0, _, rfl, rfl, _, rfl, iteFb (by decide +kernel) ?_⟩
              refine ⟨_, rfl, rfl, _, rfl, iteFb (by decide +kernel) ?_⟩
              refine ⟨_, rfl, rfl, _, rfl, iteFb (by decide +kernel) ?_⟩
              refine ⟨_, rfl, rfl, _, rfl, iteTb (by decide +kernel) ?_⟩
              exact ⟨_, rfl, s1, _, rfl, _, rfl, _, _, _, _, rfl, rfl, hs, at2, hp, hds, _, _, n, rfl, L, h3, hf, fun H1 S1 => .inl ⟨n, rfl, s2, _, rfl, s3, _, rfl, s4, k _ S1⟩⟩
    | gen n r =>
      obtain ⟨q, x, y, ws, rfl, hq, hx, hy⟩ := dt_two dv
      cases dt_str hx
      cases dt_str hy
      obtain ⟨s1, s2, s3, s4⟩ := fj_sz hl
      refine ⟨_, rfl, q, _, _, _, rfl, rfl, hq, at0, _, rfl, rfl, _, rfl, iteFb (by decide +kernel) ?_⟩
      refine ⟨_, rfl, rfl, _, rfl, iteFb (by decide +kernel) ?_⟩
      refine ⟨_, rfl, rfl, _, rfl, iteFb (by decide +kernel) ?_⟩
      refine ⟨_, rfl, rfl, _, rfl, iteFb (by decide +kernel) ?_⟩
      refine ⟨_, rfl, rfl, _, rfl, iteTb (by decide +kernel) ?_⟩
      exact ⟨_, rfl, s1, _, rfl, q, _, _, _, rfl, rfl, hq, at1, .inl ⟨n, rfl, s2, _, rfl, s3, _, rfl, s4, k _ (Same.refl _)⟩⟩
    | it r =>
      obtain ⟨q, ws, rfl, hq, _⟩ := dv.head
      refine ⟨_, rfl, q, _, _, _, rfl, rfl, hq, at0, _, rfl, rfl, _, rfl, iteFb (by decide +kernel) ?_⟩
      refine ⟨_, rfl, rfl, _, rfl, iteFb (by decide +kernel) ?_⟩
      refine ⟨_, rfl, rfl, _, rfl, iteFb (by decide +kernel) ?_⟩
      refine ⟨_, rfl, rfl, _, rfl, iteFb (by decide +kernel) ?_⟩
      refine ⟨_, rfl, rfl, _, rfl, iteFb (by decide +kernel) ?_⟩
      exact ⟨_, rfl, rfl, _, rfl, iteTb (by decide +kernel) (k _ (Same.refl _))⟩
    | scope r =>
      obtain ⟨q, ws, rfl, hq, _⟩ := dv.head
      refine ⟨_, rfl, q, _, _, _, rfl, rfl, hq, at0, _, rfl, rfl, _, rfl, iteFb (by decide +kernel) ?_⟩
      refine ⟨_, rfl, rfl, _, rfl, iteFb (by decide +kernel) ?_⟩
      refine ⟨_, rfl, rfl, _, rfl, iteFb (by decide +kernel) ?_⟩
      refine ⟨_, rfl, rfl, _, rfl, iteFb (by decide +kernel) ?_⟩
      refine ⟨_, rfl, rfl, _, rfl, iteFb (by decide +kernel) ?_⟩
      exact ⟨_, rfl, rfl, _, rfl, iteFb (by decide +kernel) (k _ (Same.refl _))⟩
end
section
variable {P : Program} {w : World} {K : PySem.W.Frag} {mg : Str → Option Value} {base : Heap}
/-- a text in its quotes -/
def inS (a b : Str) : Bool := !(Builtin.Str.occurrences b a 0 b.length 1).isEmpty
def qm (z : Str) : Str := if (inS "'" z && !inS "\"" z) = true then "\"" else "'"
def inQ (z : Str) : Str := (qm z ++ Txt.replace (Txt.replace (Txt.replace z "\\" "\\\\") "\n" "\\n") (qm z) ("\\" ++ qm z)) ++ qm z
def spQuotes : Sp := fun vs H Q _ => ∃ z : Str, vs = [.str z] ∧ z.length ≤ 2000 ∧ Q (.str (inQ z)) H
def fsp (a b : Int) : Str := ((((Str.empty ++ "range(") ++ Str.ofString (toString a)) ++ ", ") ++ Str.ofString (toString b)) ++ ")"
def fnm (k n : Str) : Str := ((((Str.empty ++ "<") ++ k) ++ " ") ++ n) ++ ">"
/-- the text of what is no row -/
inductive LeafIs (hds : List PyData) : PyData → Str → Prop
  | none (r : List PyData) : LeafIs hds (.tuple (.str "none" :: r)) "None"
  | bool (b : Bool) (r : List PyData) : LeafIs hds (.tuple (.str "bool" :: .bool b :: r)) (if b = true then "True" else "False")
  | int (i : Int) (r : List PyData) : i.natAbs.log2 < 1920 → LeafIs hds (.tuple (.str "int" :: .int i :: r)) (Str.ofString (toString i))
  | text (z : Str) (r : List PyData) : z.length ≤ 2000 → LeafIs hds (.tuple (.str "text" :: .str z :: r)) (inQ z)
  | span (a b : Int) : a.natAbs.log2 < 1920 → b.natAbs.log2 < 1920 → LeafIs hds (.tuple [.str "span", .int a, .int b]) (fsp a b)
  | obj (j : Nat) (o : PyData) (t : Str) : hds[j]? = some o → ObText hds o t → LeafIs hds (refD j) t
  | nm (z n k : Str) (r : List PyData) : z = "built" ∨ z = "host" → NameOf hds (.tuple (.str z :: .str n :: r)) k → LeafIs hds (.tuple (.str z :: .str n :: r)) (fnm k n)
def spLeaf (K : PySem.W.Frag) : Sp := fun vs H Q _ => ∃ hp hds v d t, vs = [.ref hp, v] ∧ ListAt K H hp hds ∧ Dt K H v d ∧ LeafIs hds d t ∧ t.length ≤ 100000 ∧ ∀ H', Same H H' → Q (.str t) H'
theorem f5_sz {a b c d e : Str} (h : (((((Str.empty ++ a) ++ b) ++ c) ++ d) ++ e).length ≤ 100000) : (Str.empty ++ a).length ≤ sizeLine ∧ b.length ≤ sizeLine ∧ ((Str.empty ++ a) ++ b).length ≤ sizeLine ∧ (((Str.empty ++ a) ++ b) ++ c).length ≤ sizeLine ∧ d.length ≤ sizeLine ∧ ((((Str.empty ++ a) ++ b) ++ c) ++ d).length ≤ sizeLine ∧ (((((Str.empty ++ a) ++ b) ++ c) ++ d) ++ e).length ≤ sizeLine := by
  have h0 := h
  simp only [strlen_cat] at h
  refine ⟨ss_le ?_, ss_le ?_, ss_le ?_, ss_le ?_, ss_le ?_, ss_le ?_, ss_le h0⟩ <;> (try simp only [strlen_cat]) <;> omega
theorem ok_leaf {f : Addr} {fd : FuncData} (F : Fun K "_leaf" "_leaf" s_leaf f fd) (T : Txt K mg) (U_in_quotes : Use P w K mg base CX0 "_in_quotes" 1 P_in_quotes spQuotes) (U_object_text : Use P w K mg base CX0 "_object_text" 3 P_object_text (spObText K)) (U_kind_name : Use P w K mg base CX0 "kind_name" 1 P_kind_name (spKName K)) : FnG P w K mg base CX0 4 f fd P_leaf (spLeaf K) := by
  refine okG0 F sc_leaf (fun vs H Q E h => ?_) fun cdv A outer s H vs Q E hr hg h => ?_
  · obtain ⟨hp, hds, v, d, t, rfl, _⟩ := h
    rfl
  · obtain ⟨hp, hds, v, d, t, rfl, L, dv, hk, hl, k⟩ := h
    refine ⟨_, (pss_cons (ps_set (i := 2) sc_leaf.nd rfl (Or.inl rfl) (pe_ix ix_tup (pv 1) pe_int (fun _ _ => rfl)))
  (pss_cons (ps_if (pt_cmpR op_eq (pv 2) pe_str (nomark _))
   (pss_one (ps_ret pe_str))
   pss_nil)
  (pss_cons (ps_if (pt_cmpR op_in_seq (pv 2) (pe_tup (pa_cons pe_str (pa_cons pe_str pa_nil))) (by rfl))
   (pss_one (ps_ret (pe_callTy call_strBI (by rfl) T.b_str (by decide +kernel) (pa_cons (pe_ix ix_tup (pv 1) pe_int (fun _ _ => rfl)) pa_nil))))
   pss_nil)
  (pss_cons (ps_if (pt_cmpR op_eq (pv 2) pe_str (nomark _))
   (pss_one (ps_ret (pe_use U_in_quotes (hr.mono (by decide)) hg rfl (pa_cons (pe_ix ix_tup (pv 1) pe_int (fun _ _ => rfl)) pa_nil))))
   pss_nil)
  (pss_cons (ps_if (pt_cmpR op_eq (pv 2) pe_str (nomark _))
   (pss_one (ps_ret (pe_joined (.cons pe_str (.cons (pe_fmt (pe_ix ix_tup (pv 1) pe_int (fun _ _ => rfl))) (.cons pe_str (.cons (pe_fmt (pe_ix ix_tup (pv 1) pe_int (fun _ _ => rfl))) (.cons pe_str .nil))))))))
   pss_nil)
  (pss_cons (ps_if (pt_cmpR op_eq (pv 2) pe_str (nomark _))
   (pss_one (ps_ret (pe_use U_object_text (hr.mono (by decide)) hg rfl (pa_cons (pv 0) (pa_cons (pe_ix ix_list (pv 0) (pe_ix ix_tup (pv 1) pe_int (fun _ _ => rfl)) (fun _ _ => rfl)) pa_nil)))))
   pss_nil)
  (pss_one (ps_ret (pe_joined (.cons pe_str (.cons (pe_fmt (pe_use U_kind_name (hr.mono (by decide)) hg rfl (pa_cons (pv 0) (pa_cons (pv 1) pa_nil)))) (.cons pe_str (.cons (pe_fmt (pe_ix ix_tup (pv 1) pe_int (fun _ _ => rfl))) (.cons pe_str .nil)))))))))))))), ?_⟩
    have two : ∀ {H1 : Hp} {t : Addr}, H t = Option.none → H1 = upd H t (.tup [V.str "bool", V.str "int"]) → Same H H1 := fun ht e => by rw [e]; exact Same.new ht
    cases hk with
    | none r =>
      obtain ⟨q, ws, rfl, hq, _⟩ := dv.head
      exact ⟨_, rfl, q, _, _, _, rfl, rfl, hq, at0, _, rfl, rfl, _, rfl, iteTb (by decide +kernel) (k _ (Same.refl _))⟩
    | bool b r =>
      obtain ⟨q, x, y, ws, rfl, hq, hx, hy⟩ := dt_two dv
      cases dt_str hx
      cases hy
      refine ⟨_, rfl, q, _, _, _, rfl, rfl, hq, at0, _, rfl, rfl, _, rfl, iteFb (by decide +kernel) ?_⟩
      refine ⟨_, rfl, sz_2, fun u hu => ⟨u, _, rfl, .inr (SqT.of upd_same), rfl, rfl, _, rfl, iteTb (by decide +kernel) ?_⟩⟩
      exact ⟨_, rfl, q, _, _, _, rfl, rfl, Same.tupl (Same.new hu) hq, at1, _, _, rfl, .bl, k _ (Same.new hu)⟩
    | int i r hi =>
      obtain ⟨q, x, y, ws, rfl, hq, hx, hy⟩ := dt_two dv
      cases dt_str hx
      cases hy.int_inv
      refine ⟨_, rfl, q, _, _, _, rfl, rfl, hq, at0, _, rfl, rfl, _, rfl, iteFb (by decide +kernel) ?_⟩
      refine ⟨_, rfl, sz_2, fun u hu => ⟨u, _, rfl, .inr (SqT.of upd_same), rfl, rfl, _, rfl, iteTb (by decide +kernel) ?_⟩⟩
      exact ⟨_, rfl, q, _, _, _, rfl, rfl, Same.tupl (Same.new hu) hq, at1, _, _, rfl, .int hi, k _ (Same.new hu)⟩
    | text z r hz =>
      obtain ⟨q, x, y, ws, rfl, hq, hx, hy⟩ := dt_two dv
      cases dt_str hx
      cases dt_str hy
      refine ⟨_, rfl, q, _, _, _, rfl, rfl, hq, at0, _, rfl, rfl, _, rfl, iteFb (by decide +kernel) ?_⟩
      refine ⟨_, rfl, sz_2, fun u hu => ⟨u, _, rfl, .inr (SqT.of upd_same), rfl, rfl, _, rfl, iteFb (by decide +kernel) ?_⟩⟩
      refine ⟨_, rfl, rfl, _, rfl, iteTb (by decide +kernel) ?_⟩
      exact ⟨_, rfl, q, _, _, _, rfl, rfl, Same.tupl (Same.new hu) hq, at1, z, rfl, hz, k _ (Same.new hu)⟩
    | span a b ha hb =>
      cases dv with
      | tup hs hd =>
        cases hd with
        | cons h1 hd =>
          cases dt_str h1
          cases hd with
          | cons h2 hd =>
            cases h2.int_inv
            cases hd with
            | cons h3 hd =>
              cases h3.int_inv
              obtain ⟨s1, _, s3, s4, _, s6, s7⟩ := f5_sz hl
              refine ⟨_, rfl, _, _, _, _, rfl, rfl, hs, at0, _, rfl, rfl, _, rfl, iteFb (by decide +kernel) ?_⟩
              refine ⟨_, rfl, sz_2, fun u hu => ⟨u, _, rfl, .inr (SqT.of upd_same), rfl, rfl, _, rfl, iteFb (by decide +kernel) ?_⟩⟩
              refine ⟨_, rfl, rfl, _, rfl, iteFb (by decide +kernel) ?_⟩
              refine ⟨_, rfl, rfl, _, rfl, iteTb (by decide +kernel) ?_⟩
              have hs' := Same.tupl (Same.new (o := .tup [V.str "bool", V.str "int"]) hu) hs
              exact ⟨_, rfl, s1, _, rfl, _, _, _, _, rfl, rfl, hs', at1, .inr ⟨a, rfl, ha, _, rfl, s3, _, rfl, s4, _, rfl, _, _, _, _, rfl, rfl, hs', at2, .inr ⟨b, rfl, hb, _, rfl, s6, _, rfl, s7, k _ (Same.new hu)⟩⟩⟩
    | obj j o t ho ht =>
      obtain ⟨q, x, rfl, hq, hx⟩ := Dt.pair dv
      cases hx.int_inv
      refine ⟨_, rfl, q, _, _, _, rfl, rfl, hq, at0, _, rfl, rfl, _, rfl, iteFb (by decide +kernel) ?_⟩
      refine ⟨_, rfl, sz_2, fun u hu => ⟨u, _, rfl, .inr (SqT.of upd_same), rfl, rfl, _, rfl, iteFb (by decide +kernel) ?_⟩⟩
      refine ⟨_, rfl, rfl, _, rfl, iteFb (by decide +kernel) ?_⟩
      refine ⟨_, rfl, rfl, _, rfl, iteFb (by decide +kernel) ?_⟩
      refine ⟨_, rfl, rfl, _, rfl, iteTb (by decide +kernel) ?_⟩
      have S1 := Same.new (o := .tup [V.str "bool", V.str "int"]) hu
      have L1 := listAt_mono L S1
      obtain ⟨xs, y, e, hy, dy⟩ := hd_at L1 ho
      exact ⟨_, rfl, _, rfl, _, rfl, q, _, _, _, rfl, rfl, Same.tupl S1 hq, at1, hp, _, _, _, rfl, rfl, SqL.of e, hy, hp, hds, y, o, t, rfl, L1, dy, ht, hl, fun H2 S2 => k _ (S1.trans S2)⟩
    | nm z n kn r hz hn =>
      obtain ⟨q, x, y, ws, rfl, hq, hx, hy⟩ := dt_two dv
      cases dt_str hx
      cases dt_str hy
      obtain ⟨s1, s2, s3, s4, s5, s6, s7⟩ := f5_sz hl
      have nz : ∀ y : Str, y = "none" ∨ y = "text" ∨ y = "span" ∨ y = "ref" → decide (V.str z = V.str y) = false := fun y hy => by rcases hz with rfl | rfl <;> rcases hy with rfl | rfl | rfl | rfl <;> decide +kernel
      refine ⟨_, rfl, q, _, _, _, rfl, rfl, hq, at0, _, rfl, rfl, _, rfl, iteFb (nz _ (by simp)) ?_⟩
      refine ⟨_, rfl, sz_2, fun u hu => ⟨u, _, rfl, .inr (SqT.of upd_same), rfl, rfl, _, rfl, iteFb (by rcases hz with rfl | rfl <;> decide +kernel) ?_⟩⟩
      refine ⟨_, rfl, rfl, _, rfl, iteFb (nz _ (by simp)) ?_⟩
      refine ⟨_, rfl, rfl, _, rfl, iteFb (nz _ (by simp)) ?_⟩
      refine ⟨_, rfl, rfl, _, rfl, iteFb (nz _ (by simp)) ?_⟩
      have S1 := Same.new (o := .tup [V.str "bool", V.str "int"]) hu
      exact ⟨_, rfl, s1, _, rfl, _, rfl, hp, hds, _, _, kn, rfl, listAt_mono L S1, dv.mono S1, hn, .inl ⟨kn, rfl, s2, _, rfl, s3, _, rfl, s4, _, rfl, q, _, _, _, rfl, rfl, Same.tupl S1 hq, at1, .inl ⟨n, rfl, s5, _, rfl, s6, _, rfl, s7, k _ S1⟩⟩⟩
end

section
--SPLIT
end
section
variable {P : Program} {w : World} {K : PySem.W.Frag} {mg : Str → Option Value} {base : Heap}
theorem rq_len {q z : Str} (h : z.length ≤ 2000) (hq : q.length ≤ 1) : (rq "\\" "\\\\" "\n" "\\n" "\\" q z).length ≤ 91000 := by
  unfold rq
  have h1 := TK.replace_len z "\\" "\\\\"
  have l1 : (Str.ofString "\\\\").length = 2 := by decide +kernel
  have l2 : (Str.ofString "\\n").length = 2 := by decide +kernel
  have l3 : (Str.ofString "\\").length = 1 := by decide +kernel
  rw [l1] at h1
  have w1 : (Txt.replace z "\\" "\\\\").length ≤ 7000 := by omega
  generalize Txt.replace z "\\" "\\\\" = x1 at w1
  have h2 := TK.replace_len x1 "\n" "\\n"
  rw [l2] at h2
  have w2 : (Txt.replace x1 "\n" "\\n").length ≤ 30000 := by omega
  generalize Txt.replace x1 "\n" "\\n" = x2 at w2
  have h3 := TK.replace_len x2 q ("\\" ++ q)
  have m : (x2.length + 1) * ("\\" ++ q : Str).length ≤ (x2.length + 1) * 2 := Nat.mul_le_mul_left _ (by rw [strlen_cat, l3]; omega)
  omega
theorem qm_len (z : Str) : (qm z).length = 1 := by
  unfold qm
  split <;> decide +kernel
theorem ok_quotes {f : Addr} {fd : FuncData} (F : Fun K "_in_quotes" "_in_quotes" s_in_quotes f fd) (T : Txt K mg) : FnG P w K mg base CX0 1 f fd P_in_quotes spQuotes := by
  refine okT F sc_in_quotes (by decide +kernel) (by decide) (fun vs H Q E h => ?_) fun cdv A outer s H vs Q E hr h => ?_
  · obtain ⟨z, rfl, _⟩ := h
    rfl
  · obtain ⟨z, rfl, hl, k⟩ := h
    refine ⟨_, psst_quotes (iq := 1) (it := 2) (ix := 0) sc_in_quotes.nd rfl rfl rfl rfl (.inl rfl) (.inl rfl) (by decide) (pss_one (ps_ret (pe_op op_add_str (pe_op op_add_str (pv 1) (pv 2)) (pv 1)))) (by decide +kernel) (by decide +kernel) (fun q hq => by rcases hq with rfl | rfl <;> decide +kernel) (by decide +kernel) (by decide +kernel) (by decide +kernel), ?_⟩
    have hq : (qz "'" "\"" "'" "\"" z).length = 1 := qm_len z
    have hr := rq_len (q := qz "'" "\"" "'" "\"" z) hl (by omega)
    exact ⟨z, rfl, hl, _, rfl, _, rfl, _, _, rfl, rfl, ss_le (by omega), _, rfl, _, _, rfl, rfl, ss_le (by rw [strlen_cat]; omega), k⟩
end

abbrev s_jobs : Stmt := top 30
abbrev N_jobs : List Str := ["heap", "k", "kind", "parts", "jobs", "part"]
abbrev P_jobs : List Str := ["heap", "k"]
theorem sc_jobs : FnScope N_jobs P_jobs (defScope s_jobs) := ⟨rfl, rfl, rfl, by decide +kernel, rfl, by decide +kernel, by decide +kernel⟩
section
variable {P : Program} {w : World} {K : PySem.W.Frag} {mg : Str → Option Value} {base : Heap}
/-! the jobs of showing -/
inductive Job
  | say (z : Str) | shw (d : PyData) | cls (k : Nat)
def jobD : Job → PyData
  | .say z => .tuple [.str "say", .str z]
  | .shw d => .tuple [.str "show", d]
  | .cls k => .tuple [.str "close", .int (k : Nat)]
def partJ (kd : Str) (d : PyData) : List Job := if decide (V.str kd = V.str "dict") = true then (match d with | .tuple [a, b] => [.shw a, .say ": ", .shw b] | _ => []) else [.shw d]
def sepJ (acc : List Job) : List Job := if acc.isEmpty = true then [] else [.say ", "]
def accJ (kd : Str) (acc : List Job) (d : PyData) : List Job := (acc ++ sepJ acc) ++ partJ kd d
def oneJ (kd : Str) (parts : List PyData) : List Job := if decide (V.str kd = V.str "tuple") = true then (if decide (V.int ((parts.length : Nat) : Int) = V.int 1) = true then [.say ","] else []) else []
def jobsOf (kd : Str) (k : Nat) (parts : List PyData) : List Job := (parts.foldl (accJ kd) [] ++ oneJ kd parts) ++ [.cls k]
/-- the list of jobs so far -/
structure JS (K : PySem.W.Frag) (H H1 : Hp) (jl : Addr) (js : List Job) : Prop where
  nw : H jl = none
  sm : Same H H1
  ls : ListAt K H1 jl (js.map jobD)
theorem JS.at_ {H H1 : Hp} {jl : Addr} {js : List Job} (h : JS K H H1 jl js) : ∃ xs, H1 jl = some (.lst xs) ∧ xs.length = js.length := by
  obtain ⟨xs, e, a⟩ := h.ls
  exact ⟨xs, e, by rw [a.length, List.length_map]⟩
theorem JS.add {H H1 : Hp} {jl u : Addr} {js : List Job} {j : Job} {xs vs : List V} (h : JS K H H1 jl js) (hu : H1 u = none) (e : H1 jl = some (.lst xs)) (d : Dt K (upd H1 u (.tup vs)) (.ref u) (jobD j)) :
    upd H1 u (.tup vs) jl = some (.lst xs) ∧ JS K H (upd (upd H1 u (.tup vs)) jl (.lst (xs ++ [.ref u]))) jl (js ++ [j]) := by
  have S := Same.new (o := .tup vs) hu
  have e2 := S _ _ e
  refine ⟨e2, h.nw, fun b o eb => ?_, ?_⟩
  · rw [upd_ne (ne_of_none eb h.nw)]
    exact S _ _ (h.sm b o eb)
  · rw [List.map_append]
    exact listAt_app (listAt_mono h.ls S) e2 d
theorem js_lt {n : Nat} (h : n ≤ 5000) : n < sizeLine := Nat.lt_of_le_of_lt h (by decide)
theorem partJ_len (kd : Str) (d : PyData) : (partJ kd d).length ≤ 3 := by
  unfold partJ
  split
  · split <;> simp
  · simp
theorem dtAll_rev {H : Hp} : ∀ {ds : List PyData} {vs : List V}, DtAll K H vs ds → DtAll K H vs.reverse ds.reverse
  | [], vs, h => by rw [h.nil_inv]; exact .nil
  | d :: ds, vs, h => by
    obtain ⟨v, ws, rfl, dv, hw⟩ := DtAll.cons_inv h
    rw [List.reverse_cons, List.reverse_cons]
    exact DtAll.app (dtAll_rev hw) (.cons dv .nil)
theorem same_none' {H H1 : Hp} {l : Addr} (S : Same H H1) (h : H1 l = none) : H l = none := by
  cases e : H l with
  | none => rfl
  | some o => have := S _ _ e; rw [h] at this; cases this
theorem dt_pr {H : Hp} {v : V} {a b : PyData} (h : Dt K H v (.tuple [a, b])) : ∃ q x y, v = .ref q ∧ SqT K H q [x, y] ∧ Dt K H x a ∧ Dt K H y b := by
  cases h with
  | tup hs ha =>
    cases ha with
    | cons h1 h2 =>
      cases h2 with
      | cons h3 h4 =>
        cases h4
        exact ⟨_, _, _, rfl, hs, h1, h3⟩
def spJobs (K : PySem.W.Frag) : Sp := fun vs H Q _ => ∃ (hp : Addr) (hds : List PyData) (k : Nat) (kd : Str) (parts : List PyData), vs = [.ref hp, .int (k : Nat)] ∧ ListAt K H hp hds ∧ hds[k]? = some (.tuple [.str kd, .tuple parts]) ∧
  (kd = "dict" → ∀ d ∈ parts, ∃ a b, d = .tuple [a, b]) ∧ parts.length ≤ 1000 ∧ ∀ r H', Same H H' → H r = none → ListAt K H' r ((jobsOf kd k parts).reverse.map jobD) → Q (.ref r) H'
theorem ok_jobs {f : Addr} {fd : FuncData} (F : Fun K "_jobs" "_jobs" s_jobs f fd) (T : Txt K mg) : FnG P w K mg base CX0 1 f fd P_jobs (spJobs K) := by
  refine okG0 F sc_jobs (fun vs H Q E h => ?_) fun cdv A outer s H vs Q E hr hg h => ?_
  · obtain ⟨hp, hds, k, kd, parts, rfl, _⟩ := h
    rfl
  · obtain ⟨hp, hds, j, kd, parts, rfl, L, hj, hd, hl, k⟩ := h
    refine ⟨_, (pss_cons (ps_asg (pe_ix ix_list (pv 0) (pv 1) (fun _ _ => rfl)) (pg_tup (by rfl) (pgs_cons (pg_name (i := 2) sc_jobs.nd rfl (Or.inl rfl)) (pgs_cons (pg_name (i := 3) sc_jobs.nd rfl (Or.inl rfl)) pgs_nil))))
  (pss_cons (ps_set (i := 4) sc_jobs.nd rfl (Or.inl rfl) (pe_lst pa_nil))
  (pss_cons (ps_for PassesOwn.never rfl (pi_tup (pv 3)) (pg_name (i := 5) sc_jobs.nd rfl (Or.inl rfl))
   (C8.pss_cut (ps_if (pt_truth (pv 4) (by intro _; rfl))
   (pss_one (ps_expr (pe_bm PySem.F.plainAttrs_list PySem.F.slot_list_append PySem.F.type_list_append mt_append (pv 4) (pa_cons (pe_tup (pa_cons pe_str (pa_cons pe_str pa_nil))) pa_nil))))
   pss_nil)
  (pss_one (ps_if (pt_cmpR op_eq (pv 2) pe_str (nomark _))
   (pss_cons (ps_expr (pe_bm PySem.F.plainAttrs_list PySem.F.slot_list_append PySem.F.type_list_append mt_append (pv 4) (pa_cons (pe_tup (pa_cons pe_str (pa_cons (pe_ix ix_tup (pv 5) pe_int (fun _ _ => rfl)) pa_nil))) pa_nil)))
  (pss_cons (ps_expr (pe_bm PySem.F.plainAttrs_list PySem.F.slot_list_append PySem.F.type_list_append mt_append (pv 4) (pa_cons (pe_tup (pa_cons pe_str (pa_cons pe_str pa_nil))) pa_nil)))
  (pss_one (ps_expr (pe_bm PySem.F.plainAttrs_list PySem.F.slot_list_append PySem.F.type_list_append mt_append (pv 4) (pa_cons (pe_tup (pa_cons pe_str (pa_cons (pe_ix ix_tup (pv 5) pe_int (fun _ _ => rfl)) pa_nil))) pa_nil))))))
   (pss_one (ps_expr (pe_bm PySem.F.plainAttrs_list PySem.F.slot_list_append PySem.F.type_list_append mt_append (pv 4) (pa_cons (pe_tup (pa_cons pe_str (pa_cons (pv 5) pa_nil))) pa_nil))))))))
  (C8.pss_cut (ps_if (PW.pt (pw_and (pt_cmpR op_eq (pv 2) pe_str (nomark _)) (pw_and1 (pt_cmpR op_eq (pe_callB call_len (by rfl) T.b_len PySem.boot_len (pa_cons (pv 3) pa_nil)) pe_int (nomark _)))))
   (pss_one (ps_expr (pe_bm PySem.F.plainAttrs_list PySem.F.slot_list_append PySem.F.type_list_append mt_append (pv 4) (pa_cons (pe_tup (pa_cons pe_str (pa_cons pe_str pa_nil))) pa_nil))))
   pss_nil)
  (pss_cons (ps_expr (pe_bm PySem.F.plainAttrs_list PySem.F.slot_list_append PySem.F.type_list_append mt_append (pv 4) (pa_cons (pe_tup (pa_cons pe_str (pa_cons (pv 1) pa_nil))) pa_nil)))
  (pss_one (ps_ret (pe_listRevL rfl (by rfl) T.b_list (by rfl) T.b_reversed (pv 4))))))))), ?_⟩
    obtain ⟨xs, y, ez, hy, dy⟩ := hd_at L hj
    obtain ⟨q, x1, x2, rfl, hq, d1, d2⟩ := dt_pr dy
    cases dt_str d1
    cases d2 with
    | @tup pt ps _ hs ha =>
    refine ⟨_, rfl, _, rfl, hp, _, _, _, rfl, rfl, SqL.of ez, hy, q, _, rfl, hq, rfl, _, _, rfl, _, _, rfl, rfl, ?_⟩
    refine ⟨sz_0, fun jl hjl => ?_⟩
    have J0 : JS K H (upd H jl (.lst [])) jl [] := ⟨hjl, Same.new hjl, ⟨[], upd_same, .nil⟩⟩
    have lps := ha.length
    refine ⟨_, rfl, pt, rfl, ⟨_, Same.tupl J0.sm hs⟩, ?_⟩
    refine for_it (walk_tup (xs := ps)) (fun i σ H1 => ∃ x5, σ = [some (.ref hp), some (.int (j : Nat)), some (.str kd), some (.ref pt), some (.ref jl), x5] ∧ JS K H H1 jl ((parts.take i).foldl (accJ kd) []) ∧ ((parts.take i).foldl (accJ kd) []).length ≤ 4 * i) ⟨none, rfl, J0, by simp⟩ (fun _ _ _ _ h => let ⟨_, _, J, _⟩ := h; Same.tupl J.sm hs) ?_ ?_
    · rintro i v σ H1 H2 hi ⟨x5, rfl, J, hJ⟩ ⟨rfl, hx⟩
      have hdi : parts[i]? = some parts[i] := List.getElem?_eq_getElem (by omega)
      have hdm := List.getElem_mem (l := parts) (n := i) (by omega)
      generalize parts[i] = d at hdi hdm
      obtain ⟨v', hv', dv⟩ := ha.get hdi
      rw [hx] at hv'
      cases hv'
      have hst : (parts.take (i + 1)).foldl (accJ kd) [] = accJ kd ((parts.take i).foldl (accJ kd) []) d := by
        rw [List.take_succ, hdi]
        show (_ ++ [d]).foldl _ _ = _
        rw [List.foldl_append]
        rfl
      rw [hst]
      generalize (parts.take i).foldl (accJ kd) [] = js at J hJ
      have hil : i ≤ 1000 := by omega
      refine ⟨fun σ H3 => σ = [some (.ref hp), some (.int (j : Nat)), some (.str kd), some (.ref pt), some (.ref jl), some v] ∧ JS K H H3 jl (js ++ sepJ js), ?_, ?_⟩
      · obtain ⟨zs, e, lz⟩ := J.at_
        refine ⟨_, rfl, !zs.isEmpty, .inl ⟨zs, SqL.of e, rfl⟩, ?_⟩
        have hz : zs.isEmpty = js.isEmpty := by cases zs <;> cases js <;> simp at lz ⊢
        rw [hz]
        cases hje : js.isEmpty with
        | true => exact iteFb rfl ⟨rfl, by unfold sepJ; rw [hje, if_pos rfl, List.append_nil]; exact J⟩
        | false =>
          refine iteTb rfl ?_
          refine ⟨_, rfl, .inl ⟨rfl, _, SqL.of e⟩, sz_2, fun u hu => ?_⟩
          obtain ⟨e2, J2⟩ := J.add (j := .say ", ") hu e (Dt.made hu (.cons (.str _) (.cons (.str _) .nil)))
          exact ⟨jl, zs, _, rfl, rfl, e2, by rw [lz]; exact js_lt (by omega), rfl, by unfold sepJ; rw [hje, if_neg Bool.false_ne_true]; exact J2⟩
      · rintro _ H3 ⟨rfl, J3⟩
        have hl3 : (js ++ sepJ js).length ≤ js.length + 1 := by
          rw [List.length_append]
          unfold sepJ
          split <;> simp
        have hsz : (accJ kd js d).length ≤ 4 * (i + 1) := by
          have := partJ_len kd d
          unfold accJ
          rw [List.length_append]
          omega
        have hacc : accJ kd js d = (js ++ sepJ js) ++ partJ kd d := rfl
        rw [hacc] at hsz ⊢
        generalize js ++ sepJ js = js3 at J3 hl3 hsz
        obtain ⟨zs, e, lz⟩ := J3.at_
        have dv3 := dv.mono J3.sm
        refine ⟨_, rfl, rfl, _, rfl, ?_⟩
        refine ite3 (fun c => ?_) fun c => ?_
        · have ck : kd = "dict" := V.str.inj (of_decide_eq_true c)
          obtain ⟨a, b, rfl⟩ := hd ck d hdm
          have hpj : partJ kd (.tuple [a, b]) = [.shw a, .say ": ", .shw b] := by unfold partJ; rw [if_pos c]
          rw [hpj] at hsz ⊢
          obtain ⟨qp, y1, y2, ws2, rfl, hqp, da, db⟩ := dt_two dv3
          refine ⟨_, rfl, .inl ⟨rfl, _, SqL.of e⟩, _, rfl, qp, _, _, _, rfl, rfl, hqp, at0, sz_2, fun u hu => ?_⟩
          obtain ⟨e2, J4⟩ := J3.add (j := .shw a) hu e (Dt.made hu (.cons (.str _) (.cons da .nil)))
          refine ⟨jl, zs, _, rfl, rfl, e2, by rw [lz]; exact js_lt (by omega), ?_⟩
          obtain ⟨zs4, e4, lz4⟩ := J4.at_
          rw [List.length_append, List.length_singleton] at lz4
          generalize upd (upd H3 u _) jl _ = H4 at J4 e4
          refine ⟨_, rfl, .inl ⟨rfl, _, SqL.of e4⟩, sz_2, fun u hu => ?_⟩
          obtain ⟨e5, J5⟩ := J4.add (j := .say ": ") hu e4 (Dt.made hu (.cons (.str _) (.cons (.str _) .nil)))
          refine ⟨jl, zs4, _, rfl, rfl, e5, by rw [lz4]; exact js_lt (by omega), ?_⟩
          obtain ⟨zs5, e5, lz5⟩ := J5.at_
          rw [List.length_append, List.length_append, List.length_singleton, List.length_singleton] at lz5
          generalize upd (upd H4 u _) jl _ = H5 at J5 e5
          obtain ⟨qp', y1', y2', ws2', eq', hqp', da', db'⟩ := dt_two (dv.mono J5.sm)
          cases eq'
          refine ⟨_, rfl, .inl ⟨rfl, _, SqL.of e5⟩, _, rfl, qp, _, _, _, rfl, rfl, hqp', at1, sz_2, fun u hu => ?_⟩
          obtain ⟨e6, J6⟩ := J5.add (j := .shw b) hu e5 (Dt.made hu (.cons (.str _) (.cons db' .nil)))
          refine ⟨jl, zs5, _, rfl, rfl, e6, by rw [lz5]; exact js_lt (by omega), _, rfl, ?_, hsz⟩
          simp only [List.append_assoc, List.cons_append, List.nil_append] at J6
          exact J6
        · have hpj : partJ kd d = [.shw d] := by unfold partJ; rw [if_neg (by rw [c]; exact Bool.false_ne_true)]
          rw [hpj] at hsz ⊢
          refine ⟨_, rfl, .inl ⟨rfl, _, SqL.of e⟩, _, rfl, sz_2, fun u hu => ?_⟩
          obtain ⟨e2, J4⟩ := J3.add (j := .shw d) hu e (Dt.made hu (.cons (.str _) (.cons dv3 .nil)))
          exact ⟨jl, zs, _, rfl, rfl, e2, by rw [lz]; exact js_lt (by omega), _, rfl, J4, hsz⟩
    · rintro σ H1 ⟨x5, rfl, J, hJ⟩
      rw [show ps.length = parts.length from lps, List.take_length] at J hJ
      unfold jobsOf at k
      generalize parts.foldl (accJ kd) [] = js at J hJ k
      refine ⟨fun σ H3 => σ = [some (.ref hp), some (.int (j : Nat)), some (.str kd), some (.ref pt), some (.ref jl), x5] ∧ JS K H H3 jl (js ++ oneJ kd parts), ?_, ?_⟩
      · obtain ⟨zs, e, lz⟩ := J.at_
        refine ⟨_, rfl, rfl, _, rfl, ?_⟩
        have no : oneJ kd parts = [] → JS K H H1 jl (js ++ oneJ kd parts) := fun h => by rw [h, List.append_nil]; exact J
        refine ite3 (fun c => ?_) fun c => ?_
        · refine ⟨_, rfl, _, _, rfl, .inr ⟨_, Same.tupl J.sm hs, rfl⟩, rfl, _, rfl, ?_⟩
          rw [lps]
          refine ite3 (fun c1 => ?_) fun c1 => ?_
          · refine ⟨_, rfl, .inl ⟨rfl, _, SqL.of e⟩, sz_2, fun u hu => ?_⟩
            obtain ⟨e2, J2⟩ := J.add (j := .say ",") hu e (Dt.made hu (.cons (.str _) (.cons (.str _) .nil)))
            exact ⟨jl, zs, _, rfl, rfl, e2, by rw [lz]; exact js_lt (by omega), rfl, by unfold oneJ; rw [if_pos c, if_pos c1]; exact J2⟩
          · exact ⟨rfl, no (by unfold oneJ; rw [if_pos c, if_neg (by rw [c1]; exact Bool.false_ne_true)])⟩
        · exact iteFb rfl ⟨rfl, no (by unfold oneJ; rw [if_neg (by rw [c]; exact Bool.false_ne_true)])⟩
      · rintro _ H3 ⟨rfl, J3⟩
        have ho : (oneJ kd parts).length ≤ 1 := by
          unfold oneJ
          split
          · split <;> simp
          · simp
        obtain ⟨zs, e, lz⟩ := J3.at_
        rw [List.length_append] at lz
        refine ⟨_, rfl, .inl ⟨rfl, _, SqL.of e⟩, _, rfl, sz_2, fun u hu => ?_⟩
        obtain ⟨e2, J4⟩ := J3.add (j := .cls j) hu e (Dt.made hu (.cons (.str _) (.cons (.int _) .nil)))
        refine ⟨jl, zs, _, rfl, rfl, e2, by rw [lz]; exact js_lt (by omega), ?_⟩
        obtain ⟨zs4, e4, a4⟩ := J4.ls
        refine ⟨_, rfl, jl, zs4, rfl, SqL.of e4, fun r hr => k r _ (J4.sm.trans (Same.new hr)) (same_none' J4.sm hr) ⟨zs4.reverse, upd_same, ?_⟩⟩
        rw [List.map_reverse]
        exact DtAll.mono (Same.new hr) (dtAll_rev a4)
end

section
--SPLIT
end
abbrev s_show : Stmt := top 28
abbrev N_show : List Str := ["heap", "value", "told", "under_way", "waiting", "job", "what", "opening", "closing"]
abbrev P_show : List Str := ["heap", "value"]
theorem sc_show : FnScope N_show P_show (defScope s_show) := ⟨rfl, rfl, rfl, by decide +kernel, rfl, by decide +kernel, by decide +kernel⟩
section
variable {P : Program} {w : World} {K : PySem.W.Frag} {mg : Str → Option Value} {base : Heap}
def brL : List (Str × List V) := [("list", [.str "[", .str "]"]), ("tuple", [.str "(", .str ")"]), ("dict", [.str "{", .str "}"])]
def brk (z : Str) : Option (Str × Str) := if decide (z = "list") = true then some ("[", "]") else if decide (z = "tuple") = true then some ("(", ")") else if decide (z = "dict") = true then some ("{", "}") else none
theorem brQ {qs : List (Str × Addr)} (h1 : brL.map (·.1) = qs.map (·.1)) (h2 : Paired (fun (q : Str × Addr) (p : Str × List V) => KTup K q.2 p.2) qs brL) : (∀ z o c, brk z = some (o, c) → ∃ a, valV (fnKV qs) (.inr z) = some (.ref a) ∧ KTup K a [.str o, .str c]) ∧ ∀ z, brk z = none → valV (fnKV qs) (.inr z) = none := by
  unfold brL at h1 h2
  cases h2 with
  | @cons q1 _ qs _ k1 h2 =>
    cases h2 with
    | @cons q2 _ qs _ k2 h2 =>
      cases h2 with
      | @cons q3 _ qs _ k3 h2 =>
        cases h2
        obtain ⟨w1, a1⟩ := q1
        obtain ⟨w2, a2⟩ := q2
        obtain ⟨w3, a3⟩ := q3
        simp only [List.map_cons, List.map_nil, List.cons.injEq, and_true] at h1
        obtain ⟨rfl, rfl, rfl⟩ := h1
        refine ⟨fun z o c h => ?_, fun z h => ?_⟩
        · unfold brk at h
          by_cases e1 : z = "list"
          · subst e1; rw [if_pos (decide_eq_true rfl)] at h; cases h; exact ⟨_, rfl, k1⟩
          rw [if_neg (by simpa using e1)] at h
          by_cases e2 : z = "tuple"
          · subst e2; rw [if_pos (decide_eq_true rfl)] at h; cases h; exact ⟨_, rfl, k2⟩
          rw [if_neg (by simpa using e2)] at h
          by_cases e3 : z = "dict"
          · subst e3; rw [if_pos (decide_eq_true rfl)] at h; cases h; exact ⟨_, rfl, k3⟩
          rw [if_neg (by simpa using e3)] at h
          cases h
        · unfold brk at h
          by_cases e1 : z = "list"
          · subst e1; rw [if_pos (decide_eq_true rfl)] at h; cases h
          rw [if_neg (by simpa using e1)] at h
          by_cases e2 : z = "tuple"
          · subst e2; rw [if_pos (decide_eq_true rfl)] at h; cases h
          rw [if_neg (by simpa using e2)] at h
          by_cases e3 : z = "dict"
          · subst e3; rw [if_pos (decide_eq_true rfl)] at h; cases h
          have n : ∀ {y : Str}, z ≠ y → decide ((.inr y : Key) = .inr z) = false := fun h => decide_eq_false fun e => h (Sum.inr.inj e).symm
          unfold valV fnKV
          show ((List.find? _ [((.inr "list" : Key), V.ref a1), (.inr "tuple", V.ref a2), (.inr "dict", V.ref a3)]).map _) = _
          rw [List.find?_cons_of_neg (by rw [n e1]; exact Bool.false_ne_true), List.find?_cons_of_neg (by rw [n e2]; exact Bool.false_ne_true), List.find?_cons_of_neg (by rw [n e3]; exact Bool.false_ne_true)]
          rfl
/-- what is told: n turns, the text so far, what is under way, the jobs (the next first) -/
inductive Shows (hds : List PyData) : Nat → Str → List Nat → List Job → Option Str → Prop
  | done {told : Str} {uw : List Nat} : told.length ≤ 1000 → Shows hds 1 told uw [] (some told)
  | big {told : Str} {uw : List Nat} : 1000 < told.length → Shows hds 1 told uw [] none
  | over {told : Str} {uw : List Nat} {j : Job} {st : List Job} : 1000 < told.length + (st.length + 1) → Shows hds 1 told uw (j :: st) none
  | say {n : Nat} {told z : Str} {uw : List Nat} {st : List Job} {r : Option Str} : told.length + (st.length + 1) ≤ 1000 → z.length ≤ 100000 → Shows hds n (told ++ z) uw st r → Shows hds (n + 1) told uw (.say z :: st) r
  | close {n : Nat} {told kd o c : Str} {uw : List Nat} {k : Nat} {rest : List PyData} {st : List Job} {r : Option Str} : told.length + (st.length + 1) ≤ 1000 → hds[k]? = some (.tuple (.str kd :: rest)) → brk kd = some (o, c) → k ∈ uw → Shows hds n (told ++ c) (uw.filter fun i => decide (i ≠ k)) st r → Shows hds (n + 1) told uw (.cls k :: st) r
  | leaf {n : Nat} {told kd t : Str} {uw : List Nat} {d : PyData} {st : List Job} {r : Option Str} : told.length + (st.length + 1) ≤ 1000 → KindIs hds d kd → brk kd = none → LeafIs hds d t → t.length ≤ 100000 → Shows hds n (told ++ t) uw st r → Shows hds (n + 1) told uw (.shw d :: st) r
  | ring {n : Nat} {told kd o c : Str} {uw : List Nat} {k : Nat} {rest : List PyData} {st : List Job} {r : Option Str} : told.length + (st.length + 1) ≤ 1000 → hds[k]? = some (.tuple (.str kd :: rest)) → brk kd = some (o, c) → k ∈ uw → Shows hds n ((told ++ o) ++ ("..." ++ c)) uw st r → Shows hds (n + 1) told uw (.shw (refD k) :: st) r
  | opn {n : Nat} {told kd o c : Str} {uw : List Nat} {k : Nat} {parts : List PyData} {st : List Job} {r : Option Str} : told.length + (st.length + 1) ≤ 1000 → hds[k]? = some (.tuple [.str kd, .tuple parts]) → brk kd = some (o, c) → k ∉ uw → uw.length ≤ 1000 → (kd = "dict" → ∀ d ∈ parts, ∃ a b, d = .tuple [a, b]) → parts.length ≤ 1000 →
      Shows hds n (told ++ o) (uw ++ [k]) (jobsOf kd k parts ++ st) r → Shows hds (n + 1) told uw (.shw (refD k) :: st) r
def shownD : Option Str → PyData
  | some t => .tuple [.str "ok", .tuple [.str "text", .str t]]
  | none => .tuple [.str "raise", .int 15, .str "too large"]
def uwK (uw : List Nat) : List (Key × V) := uw.map fun k => (.inl ((k : Nat) : Int), V.bl true)
theorem Shows.over_inv {hds : List PyData} {m : Nat} {told : Str} {uw : List Nat} {j : Job} {st : List Job} {r : Option Str} (h : Shows hds m told uw (j :: st) r) (hl : 1000 < told.length + (st.length + 1)) : r = none := by
  cases h with
  | over _ => rfl
  | say h1 => omega
  | close h1 => omega
  | leaf h1 => omega
  | ring h1 => omega
  | opn h1 => omega
theorem Shows.nil_inv {hds : List PyData} {m : Nat} {told : Str} {uw : List Nat} {r : Option Str} (h : Shows hds m told uw [] r) : (told.length ≤ 1000 ∧ r = some told) ∨ (1000 < told.length ∧ r = none) := by
  cases h with
  | done h1 => exact .inl ⟨h1, rfl⟩
  | big h1 => exact .inr ⟨h1, rfl⟩
theorem keepT_dK {H : Hp} {p : Addr} {kvs : List (Key × V)} {o : HO} (hp : H p = some (.dK kvs)) : KeepT K H (upd H p o) := fun a xs h => by
  rcases h with (h | ⟨o', h⟩) | h
  · exact .inl (.inl (by rw [upd_ne (ne_of h hp (by intro z; cases z))]; exact h))
  · exact .inl (.inr ⟨o', by rw [upd_ne (ne_of h hp (by intro z; cases z))]; exact h⟩)
  · exact .inr h
theorem dtAll_snoc {H : Hp} : ∀ {ds : List PyData} {d : PyData} {ws : List V}, DtAll K H ws (ds ++ [d]) → ∃ ws0 y, ws = ws0 ++ [y] ∧ DtAll K H ws0 ds ∧ Dt K H y d
  | [], d, ws, h => by
    cases h with
    | cons h1 h2 => cases h2; exact ⟨[], _, rfl, .nil, h1⟩
  | e :: ds, d, ws, h => by
    cases h with
    | cons h1 h2 =>
      obtain ⟨ws0, y, rfl, a, b⟩ := dtAll_snoc h2
      exact ⟨_ :: ws0, y, rfl, .cons h1 a, b⟩
/-- the store while showing -/
structure SW (K : PySem.W.Frag) (H H1 : Hp) (hp up wl : Addr) (hds : List PyData) (uw : List Nat) (ws : List V) (st : List Job) : Prop where
  sm : Same H H1
  L : ListAt K H1 hp hds
  eu : H1 up = some (.dK (uwK uw))
  ew : H1 wl = some (.lst ws)
  aw : DtAll K H1 ws (st.reverse.map jobD)
structure SN (H : Hp) (hp up wl : Addr) : Prop where
  u : H up = none
  w : H wl = none
  uw : up ≠ wl
  hu : hp ≠ up
  hw : hp ≠ wl
section
variable {H H1 H2 : Hp} {hp up wl : Addr} {hds : List PyData} {uw : List Nat} {ws : List V} {st : List Job}
theorem SW.new (h : SW K H H1 hp up wl hds uw ws st) (S : Same H1 H2) : SW K H H2 hp up wl hds uw ws st := ⟨h.sm.trans S, listAt_mono h.L S, S _ _ h.eu, S _ _ h.ew, DtAll.mono S h.aw⟩
theorem SW.lst {ws' : List V} {st' : List Job} (h : SW K H H1 hp up wl hds uw ws st) (n : SN H hp up wl) (a : DtAll K H1 ws' (st'.reverse.map jobD)) : SW K H (upd H1 wl (.lst ws')) hp up wl hds uw ws' st' :=
  ⟨fun b o e => by rw [upd_ne (ne_of_none e n.w)]; exact h.sm b o e, listAt_upd h.L n.hw h.ew, by rw [upd_ne n.uw]; exact h.eu, upd_same, a.keepT (KeepT.upd h.ew)⟩
theorem SW.dct {uw' : List Nat} (h : SW K H H1 hp up wl hds uw ws st) (n : SN H hp up wl) : SW K H (upd H1 up (.dK (uwK uw'))) hp up wl hds uw' ws st := by
  obtain ⟨xs, e, a⟩ := h.L
  exact ⟨fun b o eb => by rw [upd_ne (ne_of_none eb n.u)]; exact h.sm b o eb, ⟨xs, by rw [upd_ne n.hu]; exact e, a.keepT (keepT_dK h.eu)⟩, upd_same, by rw [upd_ne (Ne.symm n.uw)]; exact h.ew, h.aw.keepT (keepT_dK h.eu)⟩
end
theorem uw_val (uw : List Nat) (k : Nat) : (valV (uwK uw) (.inl ((k : Nat) : Int))).isSome = decide (k ∈ uw) := by
  induction uw with
  | nil => rfl
  | cons i uw ih =>
    have e0 : uwK (i :: uw) = (.inl ((i : Nat) : Int), V.bl true) :: uwK uw := rfl
    rw [e0]
    by_cases e : i = k
    · subst e
      rw [valV_pos rfl, decide_eq_true (by simp)]
      rfl
    · rw [valV_neg (by intro h; exact e (by have := Sum.inl.inj h; omega)), ih]
      by_cases c : k ∈ uw
      · rw [decide_eq_true c, decide_eq_true (List.mem_cons_of_mem _ c)]
      · rw [decide_eq_false c, decide_eq_false (by simp only [List.mem_cons, not_or]; exact ⟨fun e' => e e'.symm, c⟩)]
theorem jobs_len (kd : Str) (k : Nat) (parts : List PyData) : (jobsOf kd k parts).length ≤ 4 * parts.length + 2 := by
  have key : ∀ (ps : List PyData) (acc : List Job), (ps.foldl (accJ kd) acc).length ≤ acc.length + 4 * ps.length := fun ps => by
    induction ps with
    | nil => intro acc; exact Nat.le_refl _
    | cons d ps ih =>
      intro acc
      rw [List.foldl_cons]
      have h1 := ih (accJ kd acc d)
      have h2 := partJ_len kd d
      have h3 : (accJ kd acc d).length ≤ acc.length + 4 := by
        unfold accJ sepJ
        rw [List.length_append, List.length_append]
        have : (if acc.isEmpty = true then [] else [Job.say ", "]).length ≤ 1 := by split <;> simp
        omega
      rw [List.length_cons]
      omega
  have h := key parts []
  have ho : (oneJ kd parts).length ≤ 1 := by
    unfold oneJ
    split
    · split <;> simp
    · simp
  unfold jobsOf
  rw [List.length_append, List.length_append, List.length_singleton]
  rw [List.length_nil] at h
  omega
theorem uw_drop (uw : List Nat) (k : Nat) : dropK (uwK uw) (.inl ((k : Nat) : Int)) = uwK (uw.filter fun i => decide (i ≠ k)) := by
  unfold dropK uwK
  rw [List.filter_map]
  congr 1
  refine List.filter_congr fun i _ => ?_
  show decide ((.inl ((i : Nat) : Int) : Key) ≠ .inl ((k : Nat) : Int)) = decide (i ≠ k)
  by_cases e : i = k
  · subst e; rw [decide_eq_false (by simp), decide_eq_false (by simp)]
  · rw [decide_eq_true (by intro h; exact e (by have := Sum.inl.inj h; omega)), decide_eq_true e]
theorem uw_put {uw : List Nat} {k : Nat} (h : k ∉ uw) : putK (uwK uw) (.inl ((k : Nat) : Int)) (V.bl true) = uwK (uw ++ [k]) := by
  unfold putK
  rw [if_neg]
  · unfold uwK; rw [List.map_append]; rfl
  · intro c
    obtain ⟨p, hp, e⟩ := List.any_eq_true.mp c
    unfold uwK at hp
    obtain ⟨i, hi, rfl⟩ := List.mem_map.mp hp
    have := Sum.inl.inj (of_decide_eq_true e)
    exact h (by have e2 : i = k := by omega
                rw [← e2]; exact hi)
def spShow (K : PySem.W.Frag) : Sp := fun vs H Q _ => ∃ (hp : Addr) (hds : List PyData) (v : V) (d : PyData) (n : Nat) (r : Option Str), vs = [.ref hp, v] ∧ ListAt K H hp hds ∧ Dt K H v d ∧ Shows hds n "" [] [.shw d] r ∧ ∀ u H', Same H H' → Dt K H' u (shownD r) → Q u H'
theorem ok_show {f : Addr} {fd : FuncData} (F : Fun K "show" "show" s_show f fd) (T : Txt K mg) (U_object_kind : Use P w K mg base CX0 "object_kind" 1 P_object_kind (spKind K)) (U_leaf : Use P w K mg base CX0 "_leaf" 4 P_leaf (spLeaf K)) (U_jobs : Use P w K mg base CX0 "_jobs" 1 P_jobs (spJobs K)) (U_BRACKETS : UseT P w K mg "BRACKETS" brL) : FnG P w K mg base CX0 5 f fd P_show (spShow K) := by
  obtain ⟨qs, ⟨aD_BRACKETS, gD_BRACKETS, kD⟩, hq1, hq2⟩ := U_BRACKETS.ex
  obtain ⟨bq1, bq2⟩ := brQ hq1 hq2
  refine okG0 F sc_show (fun vs H Q E h => ?_) fun cdv A outer s H vs Q E hr hg h => ?_
  · obtain ⟨hp, hds, v, d, n, r, rfl, _⟩ := h
    rfl
  · obtain ⟨hp, hds, v, d, n, r, rfl, L, dv, sh, k⟩ := h
    have hu : (A.deeper (envOfC "show" (defScope s_show) s.heap.objs.size f cdv)).units + 1 < cLine := Nat.lt_of_le_of_lt (by omega) hr.units
    refine ⟨_, (pss_cons (ps_set (i := 2) sc_show.nd rfl (Or.inl rfl) pe_str)
  (pss_cons (ps_set (i := 3) sc_show.nd rfl (Or.inl rfl) pe_dnewK)
  (pss_cons (ps_set (i := 4) sc_show.nd rfl (Or.inl rfl) (pe_lst (pa_cons (pe_tup (pa_cons pe_str (pa_cons (pv 1) pa_nil))) pa_nil)))
  (pss_cons (ps_while PassesOwn.never (pt_up (pt_truth (pv 4) (by intro _; rfl)))
   (pss_cons (ps_if (pt_cmpR op_gt (pe_op op_add (pe_callB call_len (by rfl) T.b_len PySem.boot_len (pa_cons (pv 2) pa_nil)) (pe_callB call_len (by rfl) T.b_len PySem.boot_len (pa_cons (pv 4) pa_nil))) (pe_globI T.c_MOST_ENTRIES (by rfl)) (nomark _))
   (pss_one (ps_ret (pe_globT T.c_TOO_LARGE (by rfl))))
   pss_nil)
  (pss_cons (ps_asg (pe_bm0 PySem.F.plainAttrs_list PySem.F.slot_list_pop PySem.F.type_list_pop mt_pop (pv 4)) (pg_tup (by rfl) (pgs_cons (pg_name (i := 5) sc_show.nd rfl (Or.inl rfl)) (pgs_cons (pg_name (i := 6) sc_show.nd rfl (Or.inl rfl)) pgs_nil))))
  (pss_one (ps_if (pt_cmpR op_eq (pv 5) pe_str (nomark _))
   (pss_one (ps_aug (i := 2) sc_show.nd rfl (Or.inl rfl) (pv 6) ip_add_str))
   (pss_one (ps_if (pt_cmpR op_eq (pv 5) pe_str (nomark _))
   (pss_cons (ps_aug (i := 2) sc_show.nd rfl (Or.inl rfl) (pe_ix ix_tup (pe_dgetK (pe_glob (v := .ref aD_BRACKETS) (by rfl) gD_BRACKETS rfl) (pe_ix ix_tup (pe_ix ix_list (pv 0) (pv 6) (fun _ _ => rfl)) pe_int (fun _ _ => rfl)) (fun _ _ => rfl)) pe_int (fun _ _ => rfl)) ip_add_str)
  (pss_one (ps_ddel (pv 3) (pv 6))))
   (pss_one (ps_if (pt_cmp (pc_dnotinK (pe_use U_object_kind (hr.mono (by decide)) hg rfl (pa_cons (pv 0) (pa_cons (pv 6) pa_nil))) (pe_glob (v := .ref aD_BRACKETS) (by rfl) gD_BRACKETS rfl)))
   (pss_one (ps_aug (i := 2) sc_show.nd rfl (Or.inl rfl) (pe_use U_leaf (hr.mono (by decide)) hg rfl (pa_cons (pv 0) (pa_cons (pv 6) pa_nil))) ip_add_str))
   (pss_cons (ps_asg (pe_dgetK (pe_glob (v := .ref aD_BRACKETS) (by rfl) gD_BRACKETS rfl) (pe_use U_object_kind (hr.mono (by decide)) hg rfl (pa_cons (pv 0) (pa_cons (pv 6) pa_nil))) (fun _ _ => rfl)) (pg_tup (by rfl) (pgs_cons (pg_name (i := 7) sc_show.nd rfl (Or.inl rfl)) (pgs_cons (pg_name (i := 8) sc_show.nd rfl (Or.inl rfl)) pgs_nil))))
  (pss_cons (ps_aug (i := 2) sc_show.nd rfl (Or.inl rfl) (pv 7) ip_add_str)
  (pss_one (ps_if (pt_cmp (pc_din hu (pe_ix ix_tup (pv 6) pe_int (fun _ _ => rfl)) (pv 3)))
   (pss_one (ps_aug (i := 2) sc_show.nd rfl (Or.inl rfl) (pe_op op_add_str pe_str (pv 8)) ip_add_str))
   (pss_cons (ps_dput hu (pv 3) (pe_ix ix_tup (pv 6) pe_int (fun _ _ => rfl)) pe_bl rfl)
  (pss_one (ps_expr (pe_bm PySem.F.plainAttrs_list PySem.F.slot_list_extend PySem.F.type_list_extend mt_extend (pv 4) (pa_cons (pe_use U_jobs (hr.mono (by decide)) hg rfl (pa_cons (pv 0) (pa_cons (pe_ix ix_tup (pv 6) pe_int (fun _ _ => rfl)) pa_nil))) pa_nil))))))))))))))))))
  (pss_cons (ps_if (pt_cmpR op_gt (pe_callB call_len (by rfl) T.b_len PySem.boot_len (pa_cons (pv 2) pa_nil)) (pe_globI T.c_MOST_ENTRIES (by rfl)) (nomark _))
   (pss_one (ps_ret (pe_globT T.c_TOO_LARGE (by rfl))))
   pss_nil)
  (pss_one (ps_ret (pe_tup (pa_cons pe_str (pa_cons (pe_tup (pa_cons pe_str (pa_cons (pv 2) pa_nil))) pa_nil)))))))))), ?_⟩
    refine fun up hup => ⟨_, rfl, sz_2, fun q hq => ⟨sz_1, fun wl hwl => ?_⟩⟩
    have S1 := Same.new (o := .dK []) hup
    have S2 := S1.trans (Same.new (o := .tup [V.str "show", v]) hq)
    have hup2 : upd (upd H up (.dK [])) q (.tup [V.str "show", v]) up = some (.dK []) := by rw [upd_ne (ne_of_none upd_same hq)]; exact upd_same
    have hwl0 : H wl = none := same_none' S2 hwl
    have nuw : up ≠ wl := ne_of_none hup2 hwl
    have dq : Dt K (upd (upd H up (.dK [])) q (.tup [V.str "show", v])) (.ref q) (jobD (.shw d)) := Dt.made hq (.cons (.str _) (.cons (dv.mono S1) .nil))
    have S3 := S2.trans (Same.new (o := .lst [V.ref q]) hwl)
    have hup3 : upd (upd (upd H up (.dK [])) q (.tup [V.str "show", v])) wl (.lst [V.ref q]) up = some (.dK (uwK [])) := by rw [upd_ne nuw]; exact hup2
    have hph : ∃ xs, H hp = some (.lst xs) := let ⟨xs, e, _⟩ := L; ⟨xs, e⟩
    obtain ⟨hxs, ehp⟩ := hph
    have N : SN H hp up wl := ⟨hup, hwl0, nuw, ne_of_none ehp hup, ne_of_none ehp hwl0⟩
    have W3 : SW K H (upd (upd (upd H up (.dK [])) q (.tup [V.str "show", v])) wl (.lst [V.ref q])) hp up wl hds [] [.ref q] [.shw d] := ⟨S3, listAt_mono L S3, hup3, upd_same, DtAll.mono (Same.new hwl) (.cons dq .nil)⟩
    generalize upd (upd (upd H up (.dK [])) q (.tup [V.str "show", v])) wl (.lst [V.ref q]) = H3 at W3
    clear S1 S2 S3 hup2 hup3 dq hwl hq
    refine while_upN (fun m σ H4 => ∃ (told : Str) (uw : List Nat) (ws : List V) (st : List Job) (x5 x6 x7 x8 : Option V), σ = [some (.ref hp), some v, some (.str told), some (.ref up), some (.ref wl), x5, x6, x7, x8] ∧ SW K H H4 hp up wl hds uw ws st ∧ told.length ≤ 400000 ∧ st.length ≤ 20000 ∧ Shows hds m told uw st r)
      ⟨n, "", [], _, [.shw d], none, none, none, none, rfl, W3, by decide, by simp, sh⟩ ?_
    clear W3
    rintro m σ H4 ⟨told, uw, ws, st, x5, x6, x7, x8, rfl, W, ht, hst, sh⟩
    have lw := W.aw.length
    rw [List.length_map, List.length_reverse] at lw
    have ss4 : ∀ {n : Nat}, n ≤ 1000000 → n ≤ sizeLine := fun h => Nat.le_trans h (by decide)
    refine ⟨_, rfl, !ws.isEmpty, .inl ⟨ws, SqL.of W.ew, rfl⟩, ?_⟩
    cases st with
    | nil =>
      obtain rfl : ws = [] := List.length_eq_zero_iff.mp lw
      refine iteFb rfl ?_
      refine ⟨_, rfl, _, _, rfl, ⟨ss4 (by omega), rfl⟩, _, _, rfl, rfl, _, rfl, ?_⟩
      rcases sh.nil_inv with ⟨h1, rfl⟩ | ⟨h1, rfl⟩
      · refine iteFb (decide_eq_false (by omega)) ?_
        exact ⟨_, rfl, sz_2, fun q hq => ⟨sz_2, fun q2 hq2 => k _ _ ((W.sm.trans (Same.new hq)).trans (Same.new hq2)) (Dt.made hq2 (.cons (.str _) (.cons (Dt.made hq (.cons (.str _) (.cons (.str _) .nil))) .nil)))⟩⟩
      · refine iteTb (decide_eq_true (by omega)) ?_
        exact fun a ha => k _ _ W.sm (.tup (KTup.sq ha _) (.cons (.str _) (.cons (.int _) (.cons (.str _) .nil))))
    | cons j st =>
      have hne : (!ws.isEmpty) = true := by cases ws <;> simp at lw ⊢
      refine iteTb hne ?_
      rw [List.length_cons] at lw
      refine ⟨_, rfl, _, _, rfl, ⟨ss4 (by omega), rfl⟩, _, rfl, _, _, rfl, .inl ⟨_, SqL.of W.ew, rfl⟩, _, _, rfl, rfl, _, _, rfl, rfl, _, rfl, ?_⟩
      refine ite3 (fun c => ?_) fun c => ?_
      · have c := of_decide_eq_true c
        obtain rfl := sh.over_inv (by omega)
        exact fun a ha => k _ _ W.sm (.tup (KTup.sq ha _) (.cons (.str _) (.cons (.int _) (.cons (.str _) .nil))))
      · have c := of_decide_eq_false c
        have hb : told.length + (st.length + 1) ≤ 1000 := by omega
        have aw := W.aw
        rw [List.reverse_cons, List.map_append] at aw
        obtain ⟨ws0, y, rfl, aw0, dj⟩ := dtAll_snoc aw
        have W5 := W.lst N aw0
        have dj5 := dj.keepT (KeepT.upd (o := .lst ws0) W.ew)
        have ew := W.ew
        refine ⟨_, rfl, .inl ⟨rfl, _, SqL.of ew⟩, wl, _, y, rfl, rfl, ew, by simp, ?_⟩
        rw [List.dropLast_concat]
        generalize upd H4 wl (.lst ws0) = H5 at W5 dj5
        have sl : ∀ {a b : Str}, a.length + b.length ≤ 1000000 → a.length + b.length ≤ sizeLine := fun h => ss4 h
        cases j with
        | say z =>
          obtain ⟨q2, y1, y2, rfl, hq2, d1, d2⟩ := dt_pr dj5
          cases dt_str d1
          cases dt_str d2
          refine ⟨q2, _, rfl, hq2, rfl, _, _, rfl, _, _, rfl, rfl, ?_⟩
          refine ⟨_, rfl, rfl, _, rfl, iteTb (by decide +kernel) ?_⟩
          cases sh with
          | over h => omega
          | @say n' _ _ _ _ _ h1 h2 h3 => exact ⟨_, rfl, _, rfl, told, z, rfl, rfl, sl (by omega), n', Nat.lt_succ_self _, _, _, _, _, _, _, _, _, rfl, W5, by rw [strlen_cat]; omega, by simp at hst; omega, h3⟩
        | cls i =>
          obtain ⟨q2, y1, y2, rfl, hq2, d1, d2⟩ := dt_pr dj5
          cases dt_str d1
          cases d2.int_inv
          refine ⟨q2, _, rfl, hq2, rfl, _, _, rfl, _, _, rfl, rfl, ?_⟩
          refine ⟨_, rfl, rfl, _, rfl, iteFb (by decide +kernel) ?_⟩
          refine ⟨_, rfl, rfl, _, rfl, iteTb (by decide +kernel) ?_⟩
          cases sh with
          | over h => omega
          | @close n' _ kd o c _ _ rest _ _ h1 h2 h3 h4 h5 =>
            obtain ⟨xs, y, ez, hy, dy⟩ := hd_at W5.L h2
            obtain ⟨qo, zs, rfl, hqo, _⟩ := dy.head
            obtain ⟨ab, hv, kb⟩ := bq1 _ _ _ h3
            have hc1 : c.length ≤ 1 := by
              unfold brk at h3
              split at h3
              · cases h3; decide
              · split at h3
                · cases h3; decide
                · split at h3
                  · cases h3; decide
                  · cases h3
            refine ⟨_, rfl, _, rfl, _, rfl, hp, _, _, _, rfl, rfl, SqL.of ez, hy, qo, _, _, _, rfl, rfl, hqo, at0, aD_BRACKETS, _, .inr kd, _, rfl, kD.1, rfl, hv, ab, _, _, _, rfl, rfl, KTup.sq kb _, at1, told, c, rfl, rfl, sl (by omega), ?_⟩
            refine ⟨_, rfl, _, rfl, up, _, .inl ((i : Nat) : Int), rfl, W5.eu, rfl, by rw [uw_val]; exact decide_eq_true h4, ?_⟩
            rw [uw_drop]
            exact ⟨n', Nat.lt_succ_self _, _, _, _, _, _, _, _, _, rfl, W5.dct N, by rw [strlen_cat]; omega, by simp at hst; omega, h5⟩
        | shw e =>
          obtain ⟨q2, y1, y2, rfl, hq2, d1, d2⟩ := dt_pr dj5
          cases dt_str d1
          refine ⟨q2, _, rfl, hq2, rfl, _, _, rfl, _, _, rfl, rfl, ?_⟩
          refine ⟨_, rfl, rfl, _, rfl, iteFb (by decide +kernel) ?_⟩
          refine ⟨_, rfl, rfl, _, rfl, iteFb (by decide +kernel) ?_⟩
          have brl : ∀ {kd o c : Str}, brk kd = some (o, c) → o.length ≤ 1 ∧ c.length ≤ 1 := fun {kd o c} h3 => by
            unfold brk at h3
            split at h3
            · cases h3; decide
            · split at h3
              · cases h3; decide
              · split at h3
                · cases h3; decide
                · cases h3
          have step : ∀ {kd o c : Str} {i : Nat} {rest : List PyData}, e = refD i → hds[i]? = some (.tuple (.str kd :: rest)) → brk kd = some (o, c) → KindIs hds (refD i) kd := fun _ h2 _ => .obj h2
          cases sh with
          | over h => omega
          | @leaf n' _ kd t _ _ _ _ h1 h2 h3 h4 h5 h6 =>
            refine ⟨_, rfl, _, rfl, hp, hds, _, e, kd, rfl, W5.L, d2, h2, aD_BRACKETS, _, .inr kd, rfl, kD.1, rfl, _, rfl, ?_⟩
            rw [bq2 _ h3]
            refine iteTb rfl ?_
            exact ⟨_, rfl, _, rfl, _, rfl, hp, hds, _, e, t, rfl, W5.L, d2, h4, h5, fun H6 S6 => ⟨told, t, rfl, rfl, sl (by omega), n', Nat.lt_succ_self _, _, _, _, _, _, _, _, _, rfl, W5.new S6, by rw [strlen_cat]; omega, by simp at hst; omega, h6⟩⟩
          | @ring n' _ kd o c _ i rest _ _ h1 h2 h3 h4 h5 =>
            obtain ⟨ab, hv, kb⟩ := bq1 _ _ _ h3
            obtain ⟨o1, c1⟩ := brl h3
            have hkd : KindIs hds (refD i) kd := .obj h2
            obtain ⟨qv, yv, rfl, hqv, dyv⟩ := Dt.pair d2
            cases dyv.int_inv
            refine ⟨_, rfl, _, rfl, hp, hds, _, _, kd, rfl, W5.L, d2, hkd, aD_BRACKETS, _, .inr kd, rfl, kD.1, rfl, _, rfl, ?_⟩
            rw [hv]
            refine iteFb rfl ?_
            refine ⟨_, rfl, _, rfl, hp, hds, _, _, kd, rfl, W5.L, d2, hkd, aD_BRACKETS, _, .inr kd, _, rfl, kD.1, rfl, hv, ab, _, rfl, KTup.sq kb _, rfl, _, _, rfl, _, _, rfl, rfl, ?_⟩
            refine ⟨_, rfl, _, rfl, told, o, rfl, rfl, sl (by omega), ?_⟩
            refine ⟨_, rfl, qv, _, _, _, rfl, rfl, hqv, at1, _, rfl, up, _, rfl, DGet.k (k := .inl ((i : Nat) : Int)) W5.eu, _, rfl, ?_⟩
            rw [uw_val, decide_eq_true h4]
            refine iteTb rfl ?_
            have l3 : (Str.ofString "...").length = 3 := by decide +kernel
            exact ⟨_, rfl, _, rfl, _, _, rfl, rfl, sl (by rw [l3]; omega), _, _, rfl, rfl, sl (by rw [strlen_cat, strlen_cat, l3]; omega), n', Nat.lt_succ_self _, _, _, _, _, _, _, _, _, rfl, W5, by rw [strlen_cat, strlen_cat, strlen_cat, l3]; omega, by simp at hst; omega, h5⟩
          | @opn n' _ kd o c _ i parts _ _ h1 h2 h3 h4 h5 h6 h7 h8 =>
            obtain ⟨ab, hv, kb⟩ := bq1 _ _ _ h3
            obtain ⟨o1, c1⟩ := brl h3
            have hkd : KindIs hds (refD i) kd := .obj h2
            obtain ⟨qv, yv, rfl, hqv, dyv⟩ := Dt.pair d2
            cases dyv.int_inv
            refine ⟨_, rfl, _, rfl, hp, hds, _, _, kd, rfl, W5.L, d2, hkd, aD_BRACKETS, _, .inr kd, rfl, kD.1, rfl, _, rfl, ?_⟩
            rw [hv]
            refine iteFb rfl ?_
            refine ⟨_, rfl, _, rfl, hp, hds, _, _, kd, rfl, W5.L, d2, hkd, aD_BRACKETS, _, .inr kd, _, rfl, kD.1, rfl, hv, ab, _, rfl, KTup.sq kb _, rfl, _, _, rfl, _, _, rfl, rfl, ?_⟩
            refine ⟨_, rfl, _, rfl, told, o, rfl, rfl, sl (by omega), ?_⟩
            refine ⟨_, rfl, qv, _, _, _, rfl, rfl, hqv, at1, _, rfl, up, _, rfl, DGet.k (k := .inl ((i : Nat) : Int)) W5.eu, _, rfl, ?_⟩
            rw [uw_val, decide_eq_false h4]
            refine iteFb rfl ?_
            have W6 := W5.dct (uw' := uw ++ [i]) N
            have hqv6 : SqT K (upd H5 up (.dK (uwK (uw ++ [i])))) qv _ := keepT_dK W5.eu _ _ hqv
            refine ⟨_, rfl, _, rfl, qv, _, _, _, rfl, rfl, hqv, at1, up, _, rfl, .inl ⟨_, .inl ((i : Nat) : Int), W5.eu, rfl, by unfold uwK; rw [List.length_map]; exact Nat.lt_of_le_of_lt h5 (by decide), by rw [uw_put h4]⟩, ?_⟩
            generalize upd H5 up (.dK (uwK (uw ++ [i]))) = H6 at W6 hqv6
            refine ⟨_, rfl, .inl ⟨rfl, _, SqL.of W6.ew⟩, _, rfl, _, rfl, qv, _, _, _, rfl, rfl, hqv6, at1, hp, hds, i, kd, parts, rfl, W6.L, h2, h6, h7, fun r7 H7 S7 n7 L7 => ?_⟩
            have W7 := W6.new S7
            obtain ⟨zs, ez, az⟩ := L7
            have lz := az.length
            rw [List.length_map, List.length_reverse] at lz
            have jl := jobs_len kd i parts
            have lw0 : ws0.length ≤ 2000 := by have := aw0.length; rw [List.length_map, List.length_reverse] at this; omega
            have aw7 : DtAll K H7 (ws0 ++ zs) ((jobsOf kd i parts ++ st).reverse.map jobD) := by
              rw [List.reverse_append, List.map_append]
              exact DtAll.app W7.aw az
            refine ⟨wl, r7, ws0, zs, rfl, rfl, W7.ew, ez, ss4 (by omega), ?_⟩
            exact ⟨n', Nat.lt_succ_self _, _, _, _, _, _, _, _, _, rfl, W7.lst N aw7, by rw [strlen_cat]; omega, by rw [List.length_append]; omega, h8⟩
end

section
--SPLIT
end
section
/-! what a list of jobs tells, without the bound; with it -/
theorem str_assoc (a b c : Str) : (a ++ b) ++ c = a ++ (b ++ c) := TL.ext_tl (by rw [TL.tl_append, TL.tl_append, TL.tl_append, TL.tl_append, List.append_assoc])
theorem str_nil (a : Str) : a ++ "" = a := TL.ext_tl (by
  rw [TL.tl_append]
  have : TL.tl ("" : Str) = [] := by decide +kernel
  rw [this, List.append_nil])
inductive Tells (hds : List PyData) : List Nat → List Job → Str → Prop
  | nil {uw : List Nat} : Tells hds uw [] ""
  | say {uw : List Nat} {z t : Str} {st : List Job} : 1 ≤ z.length → z.length ≤ 100000 → Tells hds uw st t → Tells hds uw (.say z :: st) (z ++ t)
  | close {uw : List Nat} {k : Nat} {kd o c t : Str} {rest : List PyData} {st : List Job} : hds[k]? = some (.tuple (.str kd :: rest)) → brk kd = some (o, c) → k ∈ uw → Tells hds (uw.filter fun i => decide (i ≠ k)) st t → Tells hds uw (.cls k :: st) (c ++ t)
  | leaf {uw : List Nat} {d : PyData} {kd t0 t : Str} {st : List Job} : KindIs hds d kd → brk kd = none → LeafIs hds d t0 → 1 ≤ t0.length → t0.length ≤ 100000 → Tells hds uw st t → Tells hds uw (.shw d :: st) (t0 ++ t)
  | ring {uw : List Nat} {k : Nat} {kd o c t : Str} {rest : List PyData} {st : List Job} : hds[k]? = some (.tuple (.str kd :: rest)) → brk kd = some (o, c) → k ∈ uw → Tells hds uw st t → Tells hds uw (.shw (refD k) :: st) ((o ++ ("..." ++ c)) ++ t)
  | opn {uw : List Nat} {k : Nat} {kd o c t : Str} {parts : List PyData} {st : List Job} : hds[k]? = some (.tuple [.str kd, .tuple parts]) → brk kd = some (o, c) → k ∉ uw → uw.length ≤ 1000 → (kd = "dict" → ∀ d ∈ parts, ∃ a b, d = .tuple [a, b]) → parts.length ≤ 1000 → Tells hds (uw ++ [k]) (jobsOf kd k parts ++ st) t → Tells hds uw (.shw (refD k) :: st) (o ++ t)
theorem brk_len {kd o c : Str} (h : brk kd = some (o, c)) : o.length = 1 ∧ c.length = 1 := by
  unfold brk at h
  split at h
  · cases h; decide
  · split at h
    · cases h; decide
    · split at h
      · cases h; decide
      · cases h
theorem tells_len {hds : List PyData} {uw : List Nat} {st : List Job} {t : Str} (h : Tells hds uw st t) : st.length ≤ t.length := by
  induction h with
  | nil => exact Nat.zero_le _
  | say h1 _ _ ih => rw [strlen_cat, List.length_cons]; omega
  | close _ h2 _ _ ih => have := (brk_len h2).2; rw [strlen_cat, List.length_cons]; omega
  | leaf _ _ _ h4 _ _ ih => rw [strlen_cat, List.length_cons]; omega
  | ring _ h2 _ _ ih => have := (brk_len h2).1; rw [strlen_cat, strlen_cat, List.length_cons]; omega
  | opn _ h2 _ _ _ _ _ ih => have := (brk_len h2).1; rw [List.length_append] at ih; rw [strlen_cat, List.length_cons]; omega
def cutS (t : Str) : Option Str := if t.length ≤ 1000 then some t else none
theorem tells_shows {hds : List PyData} {uw : List Nat} {st : List Job} {t : Str} (h : Tells hds uw st t) : ∀ told : Str, ∃ m, Shows hds m told uw st (cutS (told ++ t)) := by
  have over : ∀ {told t : Str} {uw : List Nat} {j : Job} {st : List Job}, (j :: st).length ≤ t.length → 1000 < told.length + (st.length + 1) → ∃ m, Shows hds m told uw (j :: st) (cutS (told ++ t)) := fun {told t uw j st} hl hb => by
    unfold cutS
    rw [if_neg (by rw [strlen_cat]; rw [List.length_cons] at hl; omega)]
    exact ⟨1, .over hb⟩
  induction h with
  | @nil uw =>
    intro told
    unfold cutS
    rw [str_nil]
    by_cases c : told.length ≤ 1000
    · rw [if_pos c]; exact ⟨1, .done c⟩
    · rw [if_neg c]; exact ⟨1, .big (by omega)⟩
  | @say uw z t st h1 h2 h3 ih =>
    intro told
    by_cases c : told.length + (st.length + 1) ≤ 1000
    · obtain ⟨m, hm⟩ := ih (told ++ z)
      rw [str_assoc] at hm
      exact ⟨m + 1, .say c h2 hm⟩
    · exact over (tells_len (.say h1 h2 h3)) (by omega)
  | @close uw k kd o cc t rest st h1 h2 h3 h4 ih =>
    intro told
    by_cases c : told.length + (st.length + 1) ≤ 1000
    · obtain ⟨m, hm⟩ := ih (told ++ cc)
      rw [str_assoc] at hm
      exact ⟨m + 1, .close c h1 h2 h3 hm⟩
    · exact over (tells_len (.close h1 h2 h3 h4)) (by omega)
  | @leaf uw d kd t0 t st h1 h2 h3 h4 h5 h6 ih =>
    intro told
    by_cases c : told.length + (st.length + 1) ≤ 1000
    · obtain ⟨m, hm⟩ := ih (told ++ t0)
      rw [str_assoc] at hm
      exact ⟨m + 1, .leaf c h1 h2 h3 h5 hm⟩
    · exact over (tells_len (.leaf h1 h2 h3 h4 h5 h6)) (by omega)
  | @ring uw k kd o cc t rest st h1 h2 h3 h4 ih =>
    intro told
    by_cases c : told.length + (st.length + 1) ≤ 1000
    · obtain ⟨m, hm⟩ := ih ((told ++ o) ++ ("..." ++ cc))
      rw [str_assoc, str_assoc] at hm
      rw [str_assoc o]
      exact ⟨m + 1, .ring c h1 h2 h3 (by rw [str_assoc]; rw [str_assoc] at hm; exact hm)⟩
    · exact over (tells_len (.ring h1 h2 h3 h4)) (by omega)
  | @opn uw k kd o cc t parts st h1 h2 h3 h4 h5 h6 h7 ih =>
    intro told
    by_cases c : told.length + (st.length + 1) ≤ 1000
    · obtain ⟨m, hm⟩ := ih (told ++ o)
      rw [str_assoc] at hm
      exact ⟨m + 1, .opn c h1 h2 h3 h4 h5 h6 hm⟩
    · exact over (tells_len (.opn h1 h2 h3 h4 h5 h6 h7)) (by omega)
end

section
/-! the text of the law's walk: by the path of what is open -/
def tailT : List Str → Str
  | [] => ""
  | t :: ts => ", " ++ (t ++ tailT ts)
def joinT : List Str → Str
  | [] => ""
  | t :: ts => t ++ tailT ts
def oneT (kd : Str) (n : Nat) : Str := if decide (V.str kd = V.str "tuple") = true then (if decide (V.int ((n : Nat) : Int) = V.int 1) = true then "," else "") else ""
def bodyT (kd : Str) (ts : List Str) : Str := joinT ts ++ oneT kd ts.length
mutual
inductive TW (X : PyData → Str → Prop) (hds : List PyData) : Nat → List Nat → PyData → Str → Prop
  | leaf {n : Nat} {path : List Nat} {d : PyData} {kd t0 : Str} : KindIs hds d kd → brk kd = none → LeafIs hds d t0 → 1 ≤ t0.length → t0.length ≤ 100000 → X d t0 → TW X hds n path d t0
  | ring {n : Nat} {path : List Nat} {k : Nat} {kd o c : Str} {rest : List PyData} : hds[k]? = some (.tuple (.str kd :: rest)) → brk kd = some (o, c) → k ∈ path → TW X hds n path (refD k) (o ++ ("..." ++ c))
  | node {n : Nat} {path : List Nat} {k : Nat} {kd o c : Str} {parts : List PyData} {ts : List Str} : hds[k]? = some (.tuple [.str kd, .tuple parts]) → brk kd = some (o, c) → k ∉ path → path.length ≤ 1000 → parts.length ≤ 1000 → TWs X hds n (path ++ [k]) kd parts ts → TW X hds (n + 1) path (refD k) (o ++ (bodyT kd ts ++ c))
inductive TWs (X : PyData → Str → Prop) (hds : List PyData) : Nat → List Nat → Str → List PyData → List Str → Prop
  | nil {n : Nat} {path : List Nat} {kd : Str} : TWs X hds n path kd [] []
  | one {n : Nat} {path : List Nat} {kd t : Str} {d : PyData} {ds : List PyData} {ts : List Str} : kd ≠ "dict" → TW X hds n path d t → TWs X hds n path kd ds ts → TWs X hds n path kd (d :: ds) (t :: ts)
  | two {n : Nat} {path : List Nat} {kk ka t : Str} {a b : PyData} {ds : List PyData} {ts : List Str} : KindIs hds a kk → brk kk = none → LeafIs hds a ka → 1 ≤ ka.length → ka.length ≤ 100000 → X a ka → TW X hds n path b t → TWs X hds n path "dict" ds ts → TWs X hds n path "dict" (.tuple [a, b] :: ds) ((ka ++ (": " ++ t)) :: ts)
end

theorem TWs.len {X : PyData → Str → Prop} {hds : List PyData} {n : Nat} {path : List Nat} {kd : Str} : ∀ {parts : List PyData} {ts : List Str}, TWs X hds n path kd parts ts → ts.length = parts.length
  | _, _, .nil => rfl
  | _, _, .one _ _ h => by rw [List.length_cons, List.length_cons, TWs.len h]
  | _, _, .two _ _ _ _ _ _ _ h => by rw [List.length_cons, List.length_cons, TWs.len h]
theorem TWs.dict {X : PyData → Str → Prop} {hds : List PyData} {n : Nat} {path : List Nat} {kd : Str} (e : kd = "dict") : ∀ {parts : List PyData} {ts : List Str}, TWs X hds n path kd parts ts → ∀ d ∈ parts, ∃ a b, d = .tuple [a, b]
  | _, _, .nil, d, hd => nomatch hd
  | _, _, .one h _ _, _, _ => absurd e h
  | _, _, .two _ _ _ _ _ _ _ h, d, hd => by
    rcases List.mem_cons.mp hd with rfl | hd
    · exact ⟨_, _, rfl⟩
    · exact TWs.dict e h d hd
def tailJ (kd : Str) : List PyData → List Job
  | [] => []
  | d :: ds => .say ", " :: (partJ kd d ++ tailJ kd ds)
def joinJ (kd : Str) : List PyData → List Job
  | [] => []
  | d :: ds => partJ kd d ++ tailJ kd ds
theorem fold_tail {kd : Str} : ∀ (ds : List PyData) (acc : List Job), acc ≠ [] → ds.foldl (accJ kd) acc = acc ++ tailJ kd ds
  | [], acc, _ => by simp [tailJ]
  | d :: ds, acc, h => by
    have e : accJ kd acc d = acc ++ (.say ", " :: partJ kd d) := by
      unfold accJ sepJ
      rw [if_neg (by simpa using h), List.append_assoc]
      rfl
    rw [List.foldl_cons, fold_tail ds _ (by unfold accJ sepJ; rw [if_neg (by simpa using h)]; simp), e]
    simp [tailJ]
theorem fold_join {kd : Str} {ds : List PyData} (h : ∀ d ∈ ds, partJ kd d ≠ []) : ds.foldl (accJ kd) [] = joinJ kd ds := by
  cases ds with
  | nil => rfl
  | cons d ds =>
    have e : accJ kd [] d = partJ kd d := rfl
    rw [List.foldl_cons, e, fold_tail ds _ (h d (by simp))]
    rfl
/-- the parts' jobs tell the parts' texts -/
theorem TWs.part {X : PyData → Str → Prop} {hds : List PyData} {n : Nat} {path : List Nat} {kd : Str} {d : PyData} {ds : List PyData} {t : Str} {ts : List Str} (h : TWs X hds n path kd (d :: ds) (t :: ts)) : partJ kd d ≠ [] := by
  cases h with
  | one hk _ _ =>
    unfold partJ
    rw [if_neg (by intro e; exact hk (V.str.inj (of_decide_eq_true e)))]
    simp
  | two _ _ _ _ _ _ _ _ =>
    unfold partJ
    rw [if_pos (decide_eq_true rfl)]
    simp
theorem TWs.parts {X : PyData → Str → Prop} {hds : List PyData} {n : Nat} {path : List Nat} {kd : Str} : ∀ {ds : List PyData} {ts : List Str}, TWs X hds n path kd ds ts → ∀ d ∈ ds, partJ kd d ≠ []
  | [], _, _, d, hd => nomatch hd
  | e :: ds, _, h, d, hd => by
    cases h with
    | one hk h1 h2 =>
      rcases List.mem_cons.mp hd with rfl | hd
      · exact TWs.part (.one hk h1 h2)
      · exact TWs.parts h2 d hd
    | two a1 a2 a3 a4 a5 ax h1 h2 =>
      rcases List.mem_cons.mp hd with rfl | hd
      · exact TWs.part (.two a1 a2 a3 a4 a5 ax h1 h2)
      · exact TWs.parts h2 d hd
theorem partJ_one {kd : Str} {d : PyData} (h : kd ≠ "dict") : partJ kd d = [.shw d] := by
  unfold partJ
  rw [if_neg (by intro e; exact h (V.str.inj (of_decide_eq_true e)))]
theorem partJ_two {a b : PyData} : partJ "dict" (.tuple [a, b]) = [.shw a, .say ": ", .shw b] := by
  unfold partJ
  rw [if_pos (decide_eq_true rfl)]
theorem sep_len : (Str.ofString ", ").length = 2 ∧ (Str.ofString ": ").length = 2 ∧ (Str.ofString ",").length = 1 := by decide +kernel
theorem str_nil1 (a : Str) : "" ++ a = a := TL.ext_tl (by
  rw [TL.tl_append]
  have : TL.tl ("" : Str) = [] := by decide +kernel
  rw [this, List.nil_append])
section
variable {X : PyData → Str → Prop} {hds : List PyData} {n : Nat}
/-- one part -/
theorem part_tells (ih : ∀ {path : List Nat} {d : PyData} {t : Str}, TW X hds n path d t → ∀ {st : List Job} {t' : Str}, Tells hds path st t' → Tells hds path (.shw d :: st) (t ++ t')) {path : List Nat} {kd t : Str} {d : PyData} {ds : List PyData} {ts : List Str}
    (h : TWs X hds n path kd (d :: ds) (t :: ts)) {st : List Job} {t' : Str} (k : Tells hds path st t') : Tells hds path (partJ kd d ++ st) (t ++ t') := by
  cases h with
  | one hk h1 h2 =>
    rw [partJ_one hk]
    exact ih h1 k
  | two a1 a2 a3 a4 a5 ax h1 h2 =>
    rw [partJ_two, str_assoc, str_assoc]
    exact .leaf a1 a2 a3 a4 a5 (.say (by rw [sep_len.2.1]; decide) (by rw [sep_len.2.1]; decide) (ih h1 k))
theorem tail_tells (ih : ∀ {path : List Nat} {d : PyData} {t : Str}, TW X hds n path d t → ∀ {st : List Job} {t' : Str}, Tells hds path st t' → Tells hds path (.shw d :: st) (t ++ t')) {path : List Nat} {kd : Str} :
    ∀ {ds : List PyData} {ts : List Str}, TWs X hds n path kd ds ts → ∀ {st : List Job} {t' : Str}, Tells hds path st t' → Tells hds path (tailJ kd ds ++ st) (tailT ts ++ t')
  | [], _, h, st, t', k => by
    cases h
    show Tells hds path ([] ++ st) ("" ++ t')
    rw [str_nil1]
    exact k
  | d :: ds, [], h, st, t', k => nomatch h.len
  | d :: ds, t :: ts, h, st, t', k => by
    have h2 : TWs X hds n path kd ds ts := by
      cases h with
      | one _ _ h2 => exact h2
      | two _ _ _ _ _ _ _ h2 => exact h2
    have k2 := part_tells ih h (tail_tells ih h2 k)
    show Tells hds path (.say ", " :: (partJ kd d ++ tailJ kd ds) ++ st) ((", " ++ (t ++ tailT ts)) ++ t')
    rw [List.cons_append, List.append_assoc, str_assoc, str_assoc]
    exact .say (by rw [sep_len.1]; decide) (by rw [sep_len.1]; decide) k2
theorem join_tells (ih : ∀ {path : List Nat} {d : PyData} {t : Str}, TW X hds n path d t → ∀ {st : List Job} {t' : Str}, Tells hds path st t' → Tells hds path (.shw d :: st) (t ++ t')) {path : List Nat} {kd : Str} {ds : List PyData} {ts : List Str} (h : TWs X hds n path kd ds ts)
    {st : List Job} {t' : Str} (k : Tells hds path st t') : Tells hds path (joinJ kd ds ++ st) (joinT ts ++ t') := by
  cases ds with
  | nil =>
    cases h
    show Tells hds path ([] ++ st) ("" ++ t')
    rw [str_nil1]
    exact k
  | cons d ds =>
    cases ts with
    | nil => exact nomatch h.len
    | cons t ts =>
      have h2 : TWs X hds n path kd ds ts := by
        cases h with
        | one _ _ h2 => exact h2
        | two _ _ _ _ _ _ _ h2 => exact h2
      have k2 := part_tells ih h (tail_tells ih h2 k)
      show Tells hds path ((partJ kd d ++ tailJ kd ds) ++ st) ((t ++ tailT ts) ++ t')
      rw [List.append_assoc, str_assoc]
      exact k2
end
theorem tw_tells {X : PyData → Str → Prop} {hds : List PyData} : ∀ (n : Nat) {path : List Nat} {d : PyData} {t : Str}, TW X hds n path d t → ∀ {st : List Job} {t' : Str}, Tells hds path st t' → Tells hds path (.shw d :: st) (t ++ t')
  | n, path, d, t, h, st, t', k => by
    cases h with
    | leaf a1 a2 a3 a4 a5 ax => exact .leaf a1 a2 a3 a4 a5 k
    | ring a1 a2 a3 => exact .ring a1 a2 a3 k
    | @node n _ kk kd o c parts ts a1 a2 a3 a4 a5 h =>
      have ih := fun {path d t} => @tw_tells X hds n path d t
      have k1 : Tells hds (path ++ [kk]) (.cls kk :: st) (c ++ t') := by
        refine .close a1 a2 (by simp) ?_
        have : ((path ++ [kk]).filter fun i => decide (i ≠ kk)) = path := by
          rw [List.filter_append]
          have e1 : ([kk].filter fun i => decide (i ≠ kk)) = [] := by simp
          have e2 : (path.filter fun i => decide (i ≠ kk)) = path := List.filter_eq_self.mpr fun i hi => decide_eq_true fun e => a3 (e ▸ hi)
          rw [e1, e2, List.append_nil]
        rw [this]
        exact k
      have k2 : Tells hds (path ++ [kk]) (oneJ kd parts ++ (.cls kk :: st)) (oneT kd ts.length ++ (c ++ t')) := by
        unfold oneJ oneT
        rw [h.len]
        split
        · split
          · exact .say (by rw [sep_len.2.2]; exact Nat.le_refl _) (by rw [sep_len.2.2]; decide) k1
          · rw [str_nil1]; exact k1
        · rw [str_nil1]; exact k1
      have k3 := join_tells ih h k2
      have ej : jobsOf kd kk parts ++ st = joinJ kd parts ++ (oneJ kd parts ++ (.cls kk :: st)) := by
        unfold jobsOf
        rw [fold_join h.parts]
        simp
      have et : (o ++ (bodyT kd ts ++ c)) ++ t' = o ++ (joinT ts ++ (oneT kd ts.length ++ (c ++ t'))) := by
        unfold bodyT
        simp only [str_assoc]
      rw [et]
      exact .opn a1 a2 a3 a4 (fun e => TWs.dict e h) a5 (by rw [ej]; exact k3)
/-- the text of a value as the program shows it -/
theorem tw_shows {X : PyData → Str → Prop} {hds : List PyData} {n : Nat} {d : PyData} {t : Str} (h : TW X hds n [] d t) : ∃ m, Shows hds m "" [] [.shw d] (cutS t) := by
  have := tells_shows (tw_tells n h .nil) ""
  rw [str_nil1, str_nil] at this
  exact this
end

section
--SPLIT
end
abbrev s_is_number : Stmt := top 14
abbrev N_is_number : List Str := ["value"]
abbrev P_is_number : List Str := ["value"]
theorem sc_is_number : FnScope N_is_number P_is_number (defScope s_is_number) := ⟨rfl, rfl, rfl, by decide +kernel, rfl, by decide +kernel, by decide +kernel⟩
abbrev s_same_leaf : Stmt := top 20
abbrev N_same_leaf : List Str := ["a", "b"]
abbrev P_same_leaf : List Str := ["a", "b"]
theorem sc_same_leaf : FnScope N_same_leaf P_same_leaf (defScope s_same_leaf) := ⟨rfl, rfl, rfl, by decide +kernel, rfl, by decide +kernel, by decide +kernel⟩
section
/-! values and rows of a heap -/
inductive Vl
  | non | bool (b : Bool) | int (i : Int) | text (z : Str) | span (a b : Int) | ref (k : Nat) | built (n : Str) | host (n : Str)
  deriving DecidableEq
def vlD : Vl → PyData
  | .non => .tuple [.str "none"]
  | .bool b => .tuple [.str "bool", .bool b]
  | .int i => .tuple [.str "int", .int i]
  | .text z => .tuple [.str "text", .str z]
  | .span a b => .tuple [.str "span", .int a, .int b]
  | .ref k => .tuple [.str "ref", .int (k : Nat)]
  | .built n => .tuple [.str "built", .str n]
  | .host n => .tuple [.str "host", .str n]
def kn : Vl → Nat
  | .non => 0 | .bool _ => 1 | .int _ => 2 | .text _ => 3 | .span _ _ => 4 | .ref _ => 5 | .built _ => 6 | .host _ => 7
def nmK : Nat → Str
  | 0 => "none" | 1 => "bool" | 2 => "int" | 3 => "text" | 4 => "span" | 5 => "ref" | 6 => "built" | _ => "host"
def knd (x : Vl) : Str := nmK (kn x)
theorem kn_lt (x : Vl) : kn x < 8 := by cases x <;> simp [kn]
theorem nmK_inj : ∀ i < 8, ∀ j < 8, i ≠ j → nmK i ≠ nmK j := by decide +kernel
theorem knd_ne {x y : Vl} (h : kn x ≠ kn y) : knd x ≠ knd y := nmK_inj _ (kn_lt x) _ (kn_lt y) h
theorem knd_is (x : Vl) (n : Nat) (hn : n < 8) : decide (V.str (knd x) = V.str (nmK n)) = decide (kn x = n) := by
  by_cases h : kn x = n
  · rw [decide_eq_true h, ← h]; exact decide_eq_true rfl
  · rw [decide_eq_false h]; exact decide_eq_false fun e => nmK_inj _ (kn_lt x) _ hn h (V.str.inj e)
def resD : Vl → List PyData
  | .non => [] | .bool b => [.bool b] | .int i => [.int i] | .text z => [.str z] | .span a b => [.int a, .int b] | .ref k => [.int (k : Nat)] | .built n => [.str n] | .host n => [.str n]
theorem vlD_eq (x : Vl) : vlD x = .tuple (.str (knd x) :: resD x) := by cases x <;> rfl
def numV : Vl → Option Int
  | .bool b => some (if b then 1 else 0)
  | .int i => some i
  | _ => none
def slx (x y : Vl) : Bool := match numV x, numV y with
  | some i, some j => decide (i = j)
  | _, _ => decide (x = y)
def sl (x y : Vl) : Bool := match x, y with
  | .span a b, .span c d => if a = b then decide (c = d) else decide (a = c ∧ b = d)
  | x, y => slx x y
/-- what == can take -/
def vOk : Vl → Prop
  | .text z => PyData.canLay0 (.str z) = true
  | .built n => PyData.canLay0 (.str n) = true
  | .host n => PyData.canLay0 (.str n) = true
  | _ => True
theorem vOk.shp {x : Vl} (h : vOk x) : Shp 1 (vlD x) := by
  have s : ∀ z : Str, PyData.canLay0 (.str z) = true → Shp 0 (.str z) := fun z h => Shp.str h
  cases x with
  | non => exact Shp.tup (Shp.cons2 (s _ (by decide +kernel)) Shp.none2)
  | bool b => exact Shp.tup (Shp.cons2 (s _ (by decide +kernel)) (Shp.cons2 (Shp.bool 0 b) Shp.none2))
  | int i => exact Shp.tup (Shp.cons2 (s _ (by decide +kernel)) (Shp.cons2 (Shp.int 0 i) Shp.none2))
  | text z => exact Shp.tup (Shp.cons2 (s _ (by decide +kernel)) (Shp.cons2 (s z h) Shp.none2))
  | span a b => exact Shp.tup (Shp.cons2 (s _ (by decide +kernel)) (Shp.cons2 (Shp.int 0 a) (Shp.cons2 (Shp.int 0 b) Shp.none2)))
  | ref k => exact Shp.tup (Shp.cons2 (s _ (by decide +kernel)) (Shp.cons2 (Shp.int 0 _) Shp.none2))
  | built n => exact Shp.tup (Shp.cons2 (s _ (by decide +kernel)) (Shp.cons2 (s n h) Shp.none2))
  | host n => exact Shp.tup (Shp.cons2 (s _ (by decide +kernel)) (Shp.cons2 (s n h) Shp.none2))
theorem bD {α : Type} [BEq α] [LawfulBEq α] [DecidableEq α] (a b : α) : (a == b) = decide (a = b) := by
  by_cases e : a = b
  · subst e; simp
  · simp [e]
theorem kndNe : ∀ x y : Vl, kn x ≠ kn y → PyData.eqv (vlD x) (vlD y) = false := fun x y h => by
  rw [vlD_eq, vlD_eq]
  show (PyData.eqv (.str (knd x)) (.str (knd y)) && _) = false
  have : PyData.eqv (.str (knd x)) (.str (knd y)) = false := by
    show (knd x == knd y) = false
    simpa using knd_ne h
  rw [this]
  rfl
theorem eqv_vl (x y : Vl) (h : numV x = none ∨ numV y = none) : PyData.eqv (vlD x) (vlD y) = decide (x = y) := by
  by_cases hk : kn x = kn y
  · cases x <;> cases y <;> first | (simp [kn] at hk; done) | skip
    · rfl
    · rcases h with h | h <;> cases h
    · rcases h with h | h <;> cases h
    · simp [vlD, PyData.eqv, PyData.eqvAll, bD]
    · simp [vlD, PyData.eqv, PyData.eqvAll, bD]
    · rename_i a b
      simp [vlD, PyData.eqv, PyData.eqvAll, bD]
      omega
    · simp [vlD, PyData.eqv, PyData.eqvAll, bD]
    · simp [vlD, PyData.eqv, PyData.eqvAll, bD]
  · rw [kndNe x y hk, decide_eq_false fun e => hk (by rw [e])]
theorem sl_num {x y : Vl} {i j : Int} (hx : numV x = some i) (hy : numV y = some j) : sl x y = decide (i = j) := by
  cases x <;> cases hx <;> cases y <;> cases hy <;> rfl
theorem sl_oth {x y : Vl} (h : numV x = none ∨ numV y = none) (hs : ∀ a b c d, x = .span a b → y = .span c d → a ≠ b) : sl x y = decide (x = y) := by
  unfold sl
  split
  · rename_i a b c d
    rw [if_neg (hs a b c d rfl rfl)]
    simp
  · unfold slx
    rcases h with h | h
    · rw [h]
    · rw [h]; split <;> first | rfl | (rename_i h2; cases h2)
end
section
variable {P : Program} {w : World} {K : PySem.W.Frag} {mg : Str → Option Value} {base : Heap}
theorem dvl {H : Hp} {v : V} {x : Vl} (h : Dt K H v (vlD x)) : ∃ q ws, v = .ref q ∧ SqT K H q (.str (knd x) :: ws) ∧ DtAll K H ws (resD x) := by
  rw [vlD_eq] at h
  cases h with
  | tup hs ha =>
    cases ha with
    | cons h1 h2 =>
      cases dt_str h1
      exact ⟨_, _, rfl, hs, h2⟩
def spIsNumV (K : PySem.W.Frag) : Sp := fun vs H Q _ => ∃ (v : V) (x : Vl), vs = [v] ∧ Dt K H v (vlD x) ∧ ∀ H', Same H H' → Q (.bl (numV x).isSome) H'
theorem ok_isnumV {f : Addr} {fd : FuncData} (F : Fun K "is_number" "is_number" s_is_number f fd) (T : Txt K mg) : FnG P w K mg base CX0 1 f fd P_is_number (spIsNumV K) := by
  refine okG0 F sc_is_number (fun vs H Q E h => ?_) fun cdv A outer s H vs Q E hr hg h => ?_
  · obtain ⟨v, x, rfl, _⟩ := h
    rfl
  · obtain ⟨v, x, rfl, hd, k⟩ := h
    obtain ⟨q, ws, rfl, hs, _⟩ := dvl hd
    have e0 : ∀ i < 8, inV (V.str (nmK i)) [V.str "int", V.str "bool"] = (i == 1 || i == 2) := by decide +kernel
    have e : inV (V.str (knd x)) [V.str "int", V.str "bool"] = (numV x).isSome := (e0 _ (kn_lt x)).trans (by cases x <;> rfl)
    refine ⟨_, (pss_one (ps_ret (pe_cmpR op_in_seq (pe_ix ix_tup (pv 0) pe_int (fun _ _ => rfl)) (pe_tup (pa_cons pe_str (pa_cons pe_str pa_nil))) (by rfl)))), ?_⟩
    refine ⟨_, rfl, q, _, _, _, rfl, rfl, hs, at0, sz_2, fun u hu => ⟨u, _, rfl, .inr (SqT.of upd_same), rfl, rfl, ?_⟩⟩
    rw [if_neg Bool.false_ne_true, e]
    exact k _ (Same.new hu)
def spSameLeaf (K : PySem.W.Frag) : Sp := fun vs H Q _ => ∃ (v u : V) (x y : Vl), vs = [v, u] ∧ Dt K H v (vlD x) ∧ Dt K H u (vlD y) ∧ vOk x ∧ vOk y ∧ ∀ H', Same H H' → Q (.bl (sl x y)) H'
theorem num_d {x : Vl} {i : Int} (h : numV x = some i) : ∃ d, resD x = [d] ∧ Shp 0 d ∧ ((d = .int i) ∨ ∃ b, d = .bool b ∧ i = if b then 1 else 0) := by
  cases x <;> cases h
  · exact ⟨_, rfl, Shp.bool 0 _, .inr ⟨_, rfl, rfl⟩⟩
  · exact ⟨_, rfl, Shp.int 0 _, .inl rfl⟩
theorem ok_sameleaf {f : Addr} {fd : FuncData} (F : Fun K "same_leaf" "same_leaf" s_same_leaf f fd) (T : Txt K mg) (U_is_number : Use P w K mg base CX0 "is_number" 1 P_is_number (spIsNumV K)) : FnG P w K mg base CX0 2 f fd P_same_leaf (spSameLeaf K) := by
  refine okG0 F sc_same_leaf (fun vs H Q E h => ?_) fun cdv A outer s H vs Q E hr hg h => ?_
  · obtain ⟨v, u, x, y, rfl, _⟩ := h
    rfl
  · obtain ⟨v, u, x, y, rfl, hx, hy, ox, oy, k⟩ := h
    refine ⟨_, (C8.pss_cut (ps_if (PW.pt (pw_and (pt_val (pe_use U_is_number (hr.mono (by decide)) hg rfl (pa_cons (pv 0) pa_nil))) (pw_and1 (pt_val (pe_use U_is_number (hr.mono (by decide)) hg rfl (pa_cons (pv 1) pa_nil))))))
   (pss_one (ps_ret (pe_cmpR (op_eqD hr.units) (pe_ix ix_tup (pv 0) pe_int (fun _ _ => rfl)) (pe_ix ix_tup (pv 1) pe_int (fun _ _ => rfl)) (nomark _))))
   pss_nil)
  (C8.pss_cut (ps_if (PW.pt (pw_and (pt_cmpR op_eq (pe_ix ix_tup (pv 0) pe_int (fun _ _ => rfl)) pe_str (nomark _)) (pw_and (pt_cmpR op_eq (pe_ix ix_tup (pv 1) pe_int (fun _ _ => rfl)) pe_str (nomark _)) (pw_and1 (pt_cmpR (op_eqD hr.units) (pe_ix ix_tup (pv 0) pe_int (fun _ _ => rfl)) (pe_ix ix_tup (pv 0) pe_int (fun _ _ => rfl)) (nomark _))))))
   (pss_one (ps_ret (pe_cmpR (op_eqD hr.units) (pe_ix ix_tup (pv 1) pe_int (fun _ _ => rfl)) (pe_ix ix_tup (pv 1) pe_int (fun _ _ => rfl)) (nomark _))))
   pss_nil)
  (pss_one (ps_ret (pe_cmpR (op_eqD hr.units) (pv 0) (pv 1) (nomark _)))))), ?_⟩
    obtain ⟨q1, w1, rfl, hs1, da1⟩ := dvl hx
    obtain ⟨q2, w2, rfl, hs2, da2⟩ := dvl hy
    refine ⟨fun σ H1 => σ = [some (.ref q1), some (.ref q2)] ∧ Same H H1 ∧ (numV x = none ∨ numV y = none), ?_, ?_⟩
    · refine ⟨_, rfl, _, x, rfl, hx, fun H1 S1 => ⟨_, rfl, ?_⟩⟩
      cases hnx : numV x with
      | none => exact iteFb rfl ⟨rfl, S1, .inl rfl⟩
      | some i =>
        refine iteTb rfl ⟨_, rfl, _, y, rfl, hy.mono S1, fun H2 S2 => ⟨_, rfl, ?_⟩⟩
        cases hny : numV y with
        | none => exact iteFb rfl ⟨rfl, S1.trans S2, .inr rfl⟩
        | some j =>
          refine iteTb rfl ?_
          obtain ⟨d, ed, sd, hd⟩ := num_d hnx
          obtain ⟨e, ee, se, he⟩ := num_d hny
          rw [ed] at da1
          rw [ee] at da2
          obtain ⟨v1, _, rfl, dv1, _⟩ := da1.cons_inv
          obtain ⟨v2, _, rfl, dv2, _⟩ := da2.cons_inv
          have S := S1.trans S2
          refine ⟨_, rfl, q1, _, _, _, rfl, rfl, Same.tupl S hs1, at1, _, rfl, q2, _, _, _, rfl, rfl, Same.tupl S hs2, at1, d, e, (dv1.mono S).dp, (dv2.mono S).dp, sd.sh (by decide), se.sh (by decide), ?_⟩
          have eq : PyData.eqv d e = sl x y := by
            rw [sl_num hnx hny]
            rcases hd with rfl | ⟨b, rfl, rfl⟩ <;> rcases he with rfl | ⟨c, rfl, rfl⟩
            · exact bD _ _
            · exact bD _ _
            · exact bD _ _
            · show (b == c) = _
              cases b <;> cases c <;> rfl
          rw [eq]
          exact k _ S
    rintro _ H1 ⟨rfl, S1, hno⟩
    refine ⟨fun σ H2 => σ = [some (.ref q1), some (.ref q2)] ∧ Same H H2 ∧ ∀ a b c d, x = .span a b → y = .span c d → a ≠ b, ?_, ?_⟩
    · refine ⟨_, rfl, q1, _, _, _, rfl, rfl, Same.tupl S1 hs1, at0, rfl, _, rfl, ?_⟩
      by_cases c1 : kn x = 4
      · refine iteTb ((knd_is x 4 (by decide)).trans (decide_eq_true c1)) ?_
        refine ⟨_, rfl, q2, _, _, _, rfl, rfl, Same.tupl S1 hs2, at0, rfl, _, rfl, ?_⟩
        by_cases c2 : kn y = 4
        · refine iteTb ((knd_is y 4 (by decide)).trans (decide_eq_true c2)) ?_
          cases x with
          | span a b =>
            cases y with
            | span c d =>
              obtain ⟨v1, _, rfl, dv1, da1⟩ := da1.cons_inv
              obtain ⟨v2, _, rfl, dv2, da1⟩ := da1.cons_inv
              obtain ⟨u1, _, rfl, du1, da2⟩ := da2.cons_inv
              obtain ⟨u2, _, rfl, du2, da2⟩ := da2.cons_inv
              refine ⟨_, rfl, q1, _, _, _, rfl, rfl, Same.tupl S1 hs1, at1, _, rfl, q1, _, _, _, rfl, rfl, Same.tupl S1 hs1, at2, .int a, .int b, (dv1.mono S1).dp, (dv2.mono S1).dp, rfl, rfl, _, rfl, ?_⟩
              have e1 : PyData.eqv (.int a) (.int b) = decide (a = b) := bD _ _
              rw [e1]
              refine ite3 (fun hc => ?_) fun hc => ?_
              · have hab := of_decide_eq_true hc
                refine ⟨_, rfl, q2, _, _, _, rfl, rfl, Same.tupl S1 hs2, at1, _, rfl, q2, _, _, _, rfl, rfl, Same.tupl S1 hs2, at2, .int _, .int d, (du1.mono S1).dp, (du2.mono S1).dp, rfl, rfl, ?_⟩
                have e2 : ∀ c : Int, PyData.eqv (.int c) (.int d) = decide (c = d) := fun c => bD _ _
                rw [e2]
                have e3 : sl (.span a b) (.span c d) = decide (c = d) := by show (if a = b then decide (c = d) else decide (a = c ∧ b = d)) = _; rw [if_pos hab]
                rw [← e3]
                exact k _ S1
              · exact ⟨rfl, S1, fun a' b' c' d' h _ => by cases h; exact of_decide_eq_false hc⟩
            | _ => simp [kn] at c2
          | _ => simp [kn] at c1
        · exact iteFb ((knd_is y 4 (by decide)).trans (decide_eq_false c2)) (iteFb rfl ⟨rfl, S1, fun _ _ _ _ _ h => absurd (by rw [h]; rfl) c2⟩)
      · exact iteFb ((knd_is x 4 (by decide)).trans (decide_eq_false c1)) (iteFb rfl ⟨rfl, S1, fun _ _ _ _ h _ => absurd (by rw [h]; rfl) c1⟩)
    · rintro _ H2 ⟨rfl, S2, hsp⟩
      refine ⟨_, rfl, _, rfl, _, _, (hx.mono S2).dp, (hy.mono S2).dp, ox.shp.sh (by decide), oy.shp.sh (by decide), ?_⟩
      rw [eqv_vl x y hno, ← sl_oth hno hsp]
      exact k _ S2
end

section
--SPLIT
end
abbrev s_word : Stmt := top 25
abbrev N_word : List Str := ["heap", "value", "kind"]
abbrev P_word : List Str := ["heap", "value"]
theorem sc_word : FnScope N_word P_word (defScope s_word) := ⟨rfl, rfl, rfl, by decide +kernel, rfl, by decide +kernel, by decide +kernel⟩
abbrev s_key_text : Stmt := top 22
abbrev N_key_text : List Str := ["heap", "value", "words", "waiting", "part", "word"]
abbrev P_key_text : List Str := ["heap", "value"]
theorem sc_key_text : FnScope N_key_text P_key_text (defScope s_key_text) := ⟨rfl, rfl, rfl, by decide +kernel, rfl, by decide +kernel, by decide +kernel⟩
section
variable {P : Program} {w : World} {K : PySem.W.Frag} {mg : Str → Option Value} {base : Heap}
/-! rows of a heap -/
inductive Row
  | tup (vs : List Vl) | lst (vs : List Vl) | dct (es : List (Vl × Vl)) | oth (z : Str) (r : List PyData)
def entD (e : Vl × Vl) : PyData := .tuple [vlD e.1, vlD e.2]
def rkd : Row → Str
  | .tup _ => "tuple" | .lst _ => "list" | .dct _ => "dict" | .oth z _ => z
def rparts : Row → List PyData
  | .tup vs => vs.map vlD | .lst vs => vs.map vlD | .dct es => es.map entD | .oth _ _ => []
def rowD : Row → PyData
  | .oth z r => .tuple (.str z :: r)
  | .tup vs => .tuple [.str "tuple", .tuple (vs.map vlD)]
  | .lst vs => .tuple [.str "list", .tuple (vs.map vlD)]
  | .dct es => .tuple [.str "dict", .tuple (es.map entD)]
def isOth : Row → Prop
  | .oth z _ => z ≠ "tuple" ∧ z ≠ "list" ∧ z ≠ "dict"
  | _ => True
def rlen : Row → Nat
  | .tup vs => vs.length | .lst vs => vs.length | .dct es => es.length | .oth _ _ => 0
structure RowOk (r : Row) : Prop where
  oth : isOth r
  len : rlen r ≤ 1000
theorem rowD_hd (r : Row) : ∃ rest, rowD r = .tuple (.str (rkd r) :: rest) := by cases r <;> exact ⟨_, rfl⟩
theorem rowD_two {r : Row} (h : ∀ z q, r ≠ .oth z q) : rowD r = .tuple [.str (rkd r), .tuple (rparts r)] := by
  cases r with
  | oth z q => exact absurd rfl (h z q)
  | _ => rfl
def tsI (i : Int) : Str := Str.ofString (toString i)
def wordR (rows : List Row) : Vl → Str
  | .non => "none"
  | .bool b => tsI (if b = true then 1 else 0)
  | .int i => tsI i
  | .text z => (tsI ((z.length : Nat) : Int) ++ ":") ++ z
  | .ref k => match rows[k]? with
    | some (.tup vs) => "(" ++ tsI ((vs.length : Nat) : Int)
    | _ => ""
  | _ => ""
def wOk (rows : List Row) : Vl → Prop
  | .int i => i.natAbs < 2 ^ 260
  | .text z => z.length ≤ 2000
  | .ref k => ∃ r, rows[k]? = some r ∧ RowOk r
  | _ => True
theorem tsI_len {i : Int} (h : i.natAbs < 2 ^ 1900) : (tsI i).length ≤ 2000 := by
  have hl : i.natAbs.log2 < 1900 := PySem.Flt.log2_lt_of (by decide) h
  have e := int_text_length_le (k := 1900) (by decide) hl
  show (Str.ofString (toString i)).length ≤ 2000
  rw [PySem.ofString_length]; omega
theorem log_lt {i : Int} (h : i.natAbs < 2 ^ 300) : i.natAbs.log2 < 1920 := Nat.lt_of_lt_of_le (PySem.Flt.log2_lt_of (k := 300) (by decide) h) (by decide)
theorem small_lt {n : Nat} (h : n ≤ 2000) : ((n : Nat) : Int).natAbs < 2 ^ 300 := Nat.lt_of_le_of_lt (show _ ≤ 2000 by omega) (Nat.lt_of_lt_of_le (show 2000 < 2 ^ 11 by decide) (Nat.pow_le_pow_right (by decide) (by decide)))
theorem kindR {rows : List Row} {x : Vl} (h : ∀ k, x = .ref k → ∃ r, rows[k]? = some r ∧ RowOk r) : ∃ kd, KindIs (rows.map rowD) (vlD x) kd ∧ ((∀ k, x ≠ .ref k) → kd = "") ∧ ∀ k r, x = .ref k → rows[k]? = some r → kd = rkd r := by
  by_cases c : ∃ k, x = .ref k
  · obtain ⟨k, rfl⟩ := c
    obtain ⟨r, hr, _⟩ := h k rfl
    obtain ⟨rest, e⟩ := rowD_hd r
    exact ⟨rkd r, .obj (rest := rest) (by rw [List.getElem?_map, hr]; exact congrArg some e), fun h => absurd rfl (h k), fun k' r' h1 h2 => by cases h1; rw [hr] at h2; rw [Option.some.inj h2]⟩
  · have hk : kn x ≠ 5 := fun e => c (by cases x <;> simp [kn] at e; exact ⟨_, rfl⟩)
    exact ⟨"", by rw [vlD_eq]; exact .plain fun e => (knd_ne (y := .ref 0) hk) (V.str.inj e), fun _ => rfl, fun k _ e => absurd ⟨k, e⟩ c⟩
def spWord (K : PySem.W.Frag) : Sp := fun vs H Q _ => ∃ (hp : Addr) (rows : List Row) (v : V) (x : Vl), vs = [.ref hp, v] ∧ ListAt K H hp (rows.map rowD) ∧ Dt K H v (vlD x) ∧ wOk rows x ∧ ∀ H', Same H H' → Q (.str (wordR rows x)) H'
theorem ok_word {f : Addr} {fd : FuncData} (F : Fun K "_word" "_word" s_word f fd) (T : Txt K mg) (U_object_kind : Use P w K mg base CX0 "object_kind" 1 P_object_kind (spKind K)) : FnG P w K mg base CX0 2 f fd P_word (spWord K) := by
  refine okG0 F sc_word (fun vs H Q E h => ?_) fun cdv A outer s H vs Q E hr hg h => ?_
  · obtain ⟨hp, rows, v, x, rfl, _⟩ := h
    rfl
  · obtain ⟨hp, rows, v, x, rfl, L, dx, hw, k⟩ := h
    refine ⟨_, (pss_cons (ps_set (i := 2) sc_word.nd rfl (Or.inl rfl) (pe_ix ix_tup (pv 1) pe_int (fun _ _ => rfl)))
  (pss_cons (ps_if (pt_cmpR op_eq (pv 2) pe_str (nomark _))
   (pss_one (ps_ret pe_str))
   pss_nil)
  (pss_cons (ps_if (pt_cmpR op_in_seq (pv 2) (pe_tup (pa_cons pe_str (pa_cons pe_str pa_nil))) (by rfl))
   (pss_one (ps_ret (pe_callTy call_str_int (by rfl) T.b_str (by decide +kernel) (pa_cons (pe_callTy call_int1 (by rfl) T.b_int (by decide +kernel) (pa_cons (pe_ix ix_tup (pv 1) pe_int (fun _ _ => rfl)) pa_nil)) pa_nil))))
   pss_nil)
  (pss_cons (ps_if (pt_cmpR op_eq (pv 2) pe_str (nomark _))
   (pss_one (ps_ret (pe_op op_add_str (pe_op op_add_str (pe_callTy call_str_int (by rfl) T.b_str (by decide +kernel) (pa_cons (pe_callB call_len (by rfl) T.b_len PySem.boot_len (pa_cons (pe_ix ix_tup (pv 1) pe_int (fun _ _ => rfl)) pa_nil)) pa_nil)) pe_str) (pe_ix ix_tup (pv 1) pe_int (fun _ _ => rfl)))))
   pss_nil)
  (pss_cons (ps_if (pt_cmpR op_eq (pe_use U_object_kind (hr.mono (by decide)) hg rfl (pa_cons (pv 0) (pa_cons (pv 1) pa_nil))) pe_str (nomark _))
   (pss_one (ps_ret (pe_op op_add_str pe_str (pe_callTy call_str_int (by rfl) T.b_str (by decide +kernel) (pa_cons (pe_callB call_len (by rfl) T.b_len PySem.boot_len (pa_cons (pe_ix ix_tup (pe_ix ix_list (pv 0) (pe_ix ix_tup (pv 1) pe_int (fun _ _ => rfl)) (fun _ _ => rfl)) pe_int (fun _ _ => rfl)) pa_nil)) pa_nil)))))
   pss_nil)
  (pss_one (ps_ret pe_str))))))), ?_⟩
    obtain ⟨q, ws, rfl, hs, da⟩ := dvl dx
    refine ⟨_, rfl, q, _, _, _, rfl, rfl, hs, at0, ?_⟩
    have kd : ∀ n < 8, decide (V.str (knd x) = V.str (nmK n)) = decide (kn x = n) := fun n hn => knd_is x n hn
    refine ⟨_, rfl, rfl, _, rfl, ?_⟩
    by_cases c0 : kn x = 0
    · refine iteTb ((kd 0 (by decide)).trans (decide_eq_true c0)) ?_
      cases x <;> simp [kn] at c0
      exact k _ (Same.refl _)
    refine iteFb ((kd 0 (by decide)).trans (decide_eq_false c0)) ?_
    have e0 : ∀ i < 8, inV (V.str (nmK i)) [V.str "bool", V.str "int"] = (i == 1 || i == 2) := by decide +kernel
    refine ⟨_, rfl, sz_2, fun u hu => ⟨u, _, rfl, .inr (SqT.of upd_same), rfl, rfl, _, rfl, ?_⟩⟩
    have S1 := Same.new (o := .tup [V.str "bool", V.str "int"]) hu
    generalize upd H u _ = H1 at S1
    have num : ∀ i : Int, i.natAbs < 2 ^ 300 → i.natAbs.log2 < 1920 := fun i h => log_lt h
    by_cases c1 : kn x = 1 ∨ kn x = 2
    · refine iteTb (by rw [if_neg Bool.false_ne_true]; exact (e0 _ (kn_lt x)).trans (by rcases c1 with c | c <;> rw [c] <;> rfl)) ?_
      cases x with
      | bool b =>
        obtain ⟨v1, _, rfl, dv1, _⟩ := da.cons_inv
        cases dv1
        exact ⟨_, rfl, q, _, _, _, rfl, rfl, Same.tupl S1 hs, at1, .inr ⟨_, rfl, _, rfl, num _ (by cases b <;> exact Nat.lt_of_lt_of_le (show _ < 2 ^ 2 by decide) (Nat.pow_le_pow_right (by decide) (by decide))), k _ S1⟩⟩
      | int i =>
        obtain ⟨v1, _, rfl, dv1, _⟩ := da.cons_inv
        cases dv1.int_inv
        exact ⟨_, rfl, q, _, _, _, rfl, rfl, Same.tupl S1 hs, at1, .inl ⟨_, rfl, _, rfl, num _ (Nat.lt_of_lt_of_le hw (Nat.pow_le_pow_right (by decide) (by decide))), k _ S1⟩⟩
      | _ => simp [kn] at c1
    refine iteFb (by rw [if_neg Bool.false_ne_true]; exact (e0 _ (kn_lt x)).trans (by rw [not_or] at c1; simp [c1.1, c1.2])) ?_
    refine ⟨_, rfl, rfl, _, rfl, ?_⟩
    by_cases c3 : kn x = 3
    · refine iteTb ((kd 3 (by decide)).trans (decide_eq_true c3)) ?_
      cases x with
      | text z =>
        obtain ⟨v1, _, rfl, dv1, _⟩ := da.cons_inv
        cases dt_str dv1
        have hz : z.length ≤ 2000 := hw
        have ht := tsI_len (i := ((z.length : Nat) : Int)) (Nat.lt_of_lt_of_le (small_lt hz) (Nat.pow_le_pow_right (by decide) (by decide)))
        exact ⟨_, rfl, q, _, _, _, rfl, rfl, Same.tupl S1 hs, at1, _, _, rfl, ⟨ss_le (by omega), rfl⟩, _, rfl, num _ (small_lt hz), _, _, rfl, rfl, ss_le (by show (tsI _).length + 1 ≤ _; omega), _, rfl, q, _, _, _, rfl, rfl, Same.tupl S1 hs, at1, _, _, rfl, rfl, ss_le (by rw [strlen_cat]; show (tsI _).length + 1 + _ ≤ _; omega), k _ S1⟩
      | _ => simp [kn] at c3
    refine iteFb ((kd 3 (by decide)).trans (decide_eq_false c3)) ?_
    obtain ⟨kd1, hk, hk0, hk1⟩ := kindR (rows := rows) (x := x) (fun k e => by subst e; exact hw)
    refine ⟨_, rfl, _, rfl, hp, _, _, _, kd1, rfl, listAt_mono L S1, dx.mono S1, hk, rfl, _, rfl, ?_⟩
    by_cases c5 : kn x = 5
    · cases x with
      | ref j =>
        obtain ⟨r, hr, ok⟩ := hw
        obtain rfl := hk1 j r rfl hr
        cases r with
        | tup vs =>
          refine iteTb (dec_str1 _) ?_
          obtain ⟨xs, y, ez, hy, dy⟩ := hd_at (listAt_mono L S1) (j := j) (d := rowD (.tup vs)) (by rw [List.getElem?_map, hr]; rfl)
          obtain ⟨qo, x1, x2, rfl, hqo, d1, d2⟩ := dt_pr dy
          cases d2 with
          | @tup pt ps _ hps hd =>
          have lps := hd.length
          rw [List.length_map] at lps
          obtain ⟨v1, _, rfl, dv1, _⟩ := da.cons_inv
          cases dv1.int_inv
          have hlv : vs.length ≤ 1000 := ok.len
          refine ⟨_, rfl, _, rfl, q, _, _, _, rfl, rfl, Same.tupl S1 hs, at1, hp, _, _, _, rfl, rfl, SqL.of ez, hy, qo, _, _, _, rfl, rfl, hqo, at1, _, _, rfl, .inr ⟨_, hps, rfl⟩, ?_⟩
          rw [lps]
          have ht := tsI_len (i := ((vs.length : Nat) : Int)) (Nat.lt_of_lt_of_le (small_lt (by omega)) (Nat.pow_le_pow_right (by decide) (by decide)))
          have e : wordR rows (.ref j) = "(" ++ tsI ((vs.length : Nat) : Int) := by
            show (match rows[j]? with | some (.tup vs) => ("(" ++ tsI ((vs.length : Nat) : Int) : Str) | _ => "") = _
            rw [hr]
          rw [e] at k
          exact ⟨_, rfl, num _ (small_lt (by omega)), _, _, rfl, rfl, ss_le (by show 1 + (tsI _).length ≤ _; omega), k _ S1⟩
        | lst vs =>
          refine iteFb (dec_str (show ("list" : Str) ≠ "tuple" by decide)) ?_
          have e : wordR rows (.ref j) = "" := by
            show (match rows[j]? with | some (.tup vs) => ("(" ++ tsI ((vs.length : Nat) : Int) : Str) | _ => "") = _
            rw [hr]
          rw [e] at k
          exact k _ S1
        | dct es =>
          refine iteFb (dec_str (show ("dict" : Str) ≠ "tuple" by decide)) ?_
          have e : wordR rows (.ref j) = "" := by
            show (match rows[j]? with | some (.tup vs) => ("(" ++ tsI ((vs.length : Nat) : Int) : Str) | _ => "") = _
            rw [hr]
          rw [e] at k
          exact k _ S1
        | oth z rest =>
          refine iteFb (dec_str ok.oth.1) ?_
          have e : wordR rows (.ref j) = "" := by
            show (match rows[j]? with | some (.tup vs) => ("(" ++ tsI ((vs.length : Nat) : Int) : Str) | _ => "") = _
            rw [hr]
          rw [e] at k
          exact k _ S1
      | _ => simp [kn] at c5
    · rw [hk0 fun j e => c5 (by rw [e]; rfl)]
      refine iteFb (by decide +kernel) ?_
      have e : wordR rows x = "" := by
        cases x <;> simp [kn] at c0 c1 c3 c5 <;> rfl
      rw [e] at k
      exact k _ S1
/-- the words of a key: n turns, what waits (the next first); none: it is no key -/
inductive KW (rows : List Row) : Nat → List Vl → Option (List Str) → Prop
  | done : KW rows 1 [] (some [])
  | word {n : Nat} {x : Vl} {st : List Vl} {r : Option (List Str)} : wordR rows x ≠ "" → (∀ k, x ≠ .ref k) → wOk rows x → KW rows n st r → KW rows (n + 1) (x :: st) (r.map (wordR rows x :: ·))
  | tup {n k : Nat} {vs st : List Vl} {r : Option (List Str)} : rows[k]? = some (.tup vs) → vs.length ≤ 1000 → KW rows n (vs ++ st) r → KW rows (n + 1) (.ref k :: st) (r.map (wordR rows (.ref k) :: ·))
  | bad {x : Vl} {st : List Vl} : wordR rows x = "" → wOk rows x → KW rows 1 (x :: st) none
theorem wordR_len {rows : List Row} {x : Vl} (h : wOk rows x) : (wordR rows x).length ≤ 5000 := by
  have ti : ∀ i : Int, i.natAbs < 2 ^ 300 → (tsI i).length ≤ 2000 := fun i h => tsI_len (Nat.lt_of_lt_of_le h (Nat.pow_le_pow_right (by decide) (by decide)))
  cases x with
  | non => exact Nat.le_of_ble_eq_true rfl
  | bool b => exact Nat.le_trans (ti _ (by cases b <;> exact Nat.lt_of_lt_of_le (show _ < 2 ^ 2 by decide) (Nat.pow_le_pow_right (by decide) (by decide)))) (by decide)
  | int i => exact Nat.le_trans (ti i (Nat.lt_of_lt_of_le h (Nat.pow_le_pow_right (by decide) (by decide)))) (by decide)
  | text z =>
    have hz : z.length ≤ 2000 := h
    have := ti ((z.length : Nat) : Int) (small_lt hz)
    show ((tsI ((z.length : Nat) : Int) ++ ":") ++ z).length ≤ 5000
    rw [strlen_cat, strlen_cat]
    show _ + 1 + _ ≤ _
    omega
  | span a b => exact Nat.zero_le _
  | built n => exact Nat.zero_le _
  | host n => exact Nat.zero_le _
  | ref k =>
    obtain ⟨r, hr, ok⟩ := h
    show (match rows[k]? with | some (.tup vs) => ("(" ++ tsI ((vs.length : Nat) : Int) : Str) | _ => "").length ≤ _
    rw [hr]
    cases r with
    | tup vs =>
      have hv : vs.length ≤ 1000 := ok.len
      have := ti ((vs.length : Nat) : Int) (small_lt (by omega))
      show ("(" ++ tsI ((vs.length : Nat) : Int) : Str).length ≤ _
      rw [strlen_cat]
      show 1 + _ ≤ _
      omega
    | lst vs => exact Nat.zero_le _
    | dct vs => exact Nat.zero_le _
    | oth z r => exact Nat.zero_le _
def kresV (t : Str) : Option (List Str) → List V
  | some ws => [.str "ok", .str (Txt.join " " ws)]
  | none => [.str "raise", .int 10, .str ("not a key: " ++ t)]
def spKeyText (K : PySem.W.Frag) : Sp := fun vs H Q _ => ∃ (hp : Addr) (rows : List Row) (v : V) (x : Vl) (n : Nat) (r : Option (List Str)) (t : Str), vs = [.ref hp, v] ∧ ListAt K H hp (rows.map rowD) ∧ Dt K H v (vlD x) ∧ KW rows n [x] r ∧ n ≤ 900 ∧ (r = none → NameOf (rows.map rowD) (vlD x) t ∧ t.length ≤ 1000) ∧
  ∀ q H', Same H H' → H q = none → H' q = some (.tup (kresV t r)) → Q (.ref q) H'
theorem ok_keytext {f : Addr} {fd : FuncData} (F : Fun K "key_text" "key_text" s_key_text f fd) (T : Txt K mg) (U_word : Use P w K mg base CX0 "_word" 2 P_word (spWord K)) (U_kind_name : Use P w K mg base CX0 "kind_name" 1 P_kind_name (spKName K)) : FnG P w K mg base CX0 3 f fd P_key_text (spKeyText K) := by
  refine okG0 F sc_key_text (fun vs H Q E h => ?_) fun cdv A outer s H vs Q E hr hg h => ?_
  · obtain ⟨hp, rows, v, x, n, r, t, rfl, _⟩ := h
    rfl
  · obtain ⟨hp, rows, v, x, n, r, t, rfl, L, dx, kw, hn, hbad, k⟩ := h
    refine ⟨_, (pss_cons (ps_set (i := 2) sc_key_text.nd rfl (Or.inl rfl) (pe_lst pa_nil))
  (pss_cons (ps_set (i := 3) sc_key_text.nd rfl (Or.inl rfl) (pe_lst (pa_cons (pv 1) pa_nil)))
  (pss_cons (ps_while PassesOwn.never (pt_up (pt_truth (pv 3) (by intro _; rfl)))
   (pss_cons (ps_if (pt_cmpR op_eq (pe_callB call_len (by rfl) T.b_len PySem.boot_len (pa_cons (pv 2) pa_nil)) (pe_globI T.c_MOST_ENTRIES (by rfl)) (nomark _))
   (pss_one (ps_ret (pe_globT T.c_TOO_LARGE (by rfl))))
   pss_nil)
  (pss_cons (ps_set (i := 4) sc_key_text.nd rfl (Or.inl rfl) (pe_bm0 PySem.F.plainAttrs_list PySem.F.slot_list_pop PySem.F.type_list_pop mt_pop (pv 3)))
  (pss_cons (ps_set (i := 5) sc_key_text.nd rfl (Or.inl rfl) (pe_use U_word (hr.mono (by decide)) hg rfl (pa_cons (pv 0) (pa_cons (pv 4) pa_nil))))
  (pss_cons (ps_if (pt_cmpR op_eq (pv 5) pe_str (nomark _))
   (pss_one (ps_ret (pe_tup (pa_cons pe_str (pa_cons (pe_globI T.c_TYPE_ERROR (by rfl)) (pa_cons (pe_op op_add_str pe_str (pe_use U_kind_name (hr.mono (by decide)) hg rfl (pa_cons (pv 0) (pa_cons (pv 1) pa_nil)))) pa_nil))))))
   pss_nil)
  (pss_cons (ps_expr (pe_bm PySem.F.plainAttrs_list PySem.F.slot_list_append PySem.F.type_list_append mt_append (pv 2) (pa_cons (pv 5) pa_nil)))
  (pss_one (ps_if (pt_cmpR op_eq (pe_ix ix_tup (pv 4) pe_int (fun _ _ => rfl)) pe_str (nomark _))
   (pss_one (ps_expr (pe_bm PySem.F.plainAttrs_list PySem.F.slot_list_extend PySem.F.type_list_extend mt_extend (pv 3) (pa_cons (pe_listRevT rfl (by rfl) T.b_list (by rfl) T.b_reversed (pe_ix ix_tup (pe_ix ix_list (pv 0) (pe_ix ix_tup (pv 4) pe_int (fun _ _ => rfl)) (fun _ _ => rfl)) pe_int (fun _ _ => rfl))) pa_nil))))
   pss_nil))))))))
  (pss_one (ps_ret (pe_tup (pa_cons pe_str (pa_cons (pe_bm PySem.F.plainAttrs_str PySem.F.slot_str_join PySem.F.type_str_join mt_join pe_str (pa_cons (pv 2) pa_nil)) pa_nil)))))))), ?_⟩
    refine ⟨sz_0, fun wl hwl => ⟨_, rfl, sz_1, fun tl htl => ?_⟩⟩
    have S1 := Same.new (o := .lst []) hwl
    have ew1 : upd H wl (.lst []) wl = some (.lst []) := upd_same
    have S2 := S1.trans (Same.new (o := .lst [v]) htl)
    have nwt : wl ≠ tl := ne_of_none ew1 htl
    have hw0 : H wl = none := hwl
    have ht0 : H tl = none := same_none' S1 htl
    have ew2 : upd (upd H wl (.lst [])) tl (.lst [v]) wl = some (.lst []) := by rw [upd_ne nwt]; exact ew1
    have et2 : upd (upd H wl (.lst [])) tl (.lst [v]) tl = some (.lst [v]) := upd_same
    generalize upd (upd H wl (.lst [])) tl (.lst [v]) = H2 at S2 ew2 et2
    clear hwl htl S1 ew1
    have sp1 : (" " : Str).length = 1 := rfl
    refine while_upN (fun m σ H4 => ∃ (ws : List Str) (zs : List V) (st : List Vl) (r' : Option (List Str)) (x4 x5 : Option V), σ = [some (.ref hp), some v, some (.ref wl), some (.ref tl), x4, x5] ∧ Same H H4 ∧ H4 wl = some (.lst (ws.map V.str)) ∧ H4 tl = some (.lst zs) ∧ DtAll K H4 zs (st.reverse.map vlD) ∧ KW rows m st r' ∧ r = r'.map (ws ++ ·) ∧
        ws.length + m ≤ 900 ∧ (ws.map (·.length)).sum ≤ 5000 * ws.length ∧ st.length ≤ 1 + 1000 * ws.length)
      ⟨n, [], [v], [x], r, none, none, rfl, S2, ew2, et2, .cons (dx.mono S2) .nil, kw, by cases r <;> rfl, by simpa using hn, by simp, by simp⟩ ?_
    clear ew2 et2 S2
    rintro m σ H4 ⟨ws, zs, st, r', x4, x5, rfl, S4, ew, et, az, kw, hr', hm, hsum, hst⟩
    have lz := az.length
    rw [List.length_map, List.length_reverse] at lz
    refine ⟨_, rfl, !zs.isEmpty, .inl ⟨zs, SqL.of et, rfl⟩, ?_⟩
    cases st with
    | nil =>
      obtain rfl : zs = [] := List.length_eq_zero_iff.mp lz
      refine iteFb rfl ?_
      cases kw
      refine ⟨rfl, _, rfl, " ", wl, ws, rfl, rfl, .inl (SqL.of ew), by rw [sp1]; omega, sz_2, fun q hq => ?_⟩
      have e : r = some ws := by rw [hr']; show some (ws ++ []) = _; rw [List.append_nil]
      refine k q _ (S4.trans (Same.new hq)) (same_none' S4 hq) ?_
      rw [e]
      exact upd_same
    | cons y st =>
      have hne : (!zs.isEmpty) = true := by cases zs <;> simp at lz ⊢
      refine iteTb hne ?_
      rw [List.length_cons] at lz
      refine ⟨_, rfl, _, _, rfl, .inl ⟨_, SqL.of ew, rfl⟩, rfl, _, rfl, iteFb ?_ ?_⟩
      · rw [List.length_map]
        exact decide_eq_false fun e => by have := V.int.inj e; omega
      rw [List.reverse_cons, List.map_append] at az
      obtain ⟨zs0, u, rfl, az0, du⟩ := dtAll_snoc az
      refine ⟨_, rfl, .inl ⟨rfl, _, SqL.of et⟩, tl, _, u, rfl, rfl, et, by simp, ?_⟩
      rw [List.dropLast_concat]
      have kT : KeepT K H4 (upd H4 tl (.lst zs0)) := KeepT.upd et
      have S5 : Same H (upd H4 tl (.lst zs0)) := fun b o e => by rw [upd_ne (ne_of_none e ht0)]; exact S4 b o e
      have ew5 : upd H4 tl (.lst zs0) wl = some (.lst (ws.map V.str)) := by rw [upd_ne nwt]; exact ew
      have et5 : upd H4 tl (.lst zs0) tl = some (.lst zs0) := upd_same
      have az5 := az0.keepT kT
      have du5 := du.keepT kT
      generalize upd H4 tl (.lst zs0) = H5 at S5 ew5 et5 az5 du5
      clear kT az az0 du et ew S4
      obtain ⟨hwk, hcase⟩ : wOk rows y ∧ ((wordR rows y = "" ∧ r' = none) ∨ (wordR rows y ≠ "" ∧ (((∀ k, y ≠ .ref k) ∧ ∃ n' r2, m = n' + 1 ∧ KW rows n' st r2 ∧ r' = r2.map (wordR rows y :: ·)) ∨ (∃ k vs n' r2, y = .ref k ∧ rows[k]? = some (.tup vs) ∧ vs.length ≤ 1000 ∧ m = n' + 1 ∧ KW rows n' (vs ++ st) r2 ∧ r' = r2.map (wordR rows y :: ·))))) := by
        cases kw with
        | @word n' _ _ r2 h1 h2 h3 h4 => exact ⟨h3, .inr ⟨h1, .inl ⟨h2, n', r2, rfl, h4, rfl⟩⟩⟩
        | @tup n' kk vs _ r2 h1 h2 h3 =>
          refine ⟨⟨_, h1, trivial, h2⟩, .inr ⟨?_, .inr ⟨kk, vs, n', r2, rfl, h1, h2, rfl, h3, rfl⟩⟩⟩
          have e : wordR rows (.ref kk) = "(" ++ tsI ((vs.length : Nat) : Int) := by
            show (match rows[kk]? with | some (.tup vs) => ("(" ++ tsI ((vs.length : Nat) : Int) : Str) | _ => "") = _
            rw [h1]
          rw [e]
          intro h
          have := congrArg Str.length h
          rw [strlen_cat] at this
          have e2 : ("(" : Str).length = 1 ∧ ("" : Str).length = 0 := ⟨rfl, rfl⟩
          omega
        | bad h1 h2 => exact ⟨h2, .inl ⟨h1, rfl⟩⟩
      refine ⟨_, rfl, _, rfl, hp, rows, _, y, rfl, listAt_mono L S5, du5, hwk, fun H6 S6 => ?_⟩
      have S56 := S5.trans S6
      have ew6 := S6 _ _ ew5
      have et6 := S6 _ _ et5
      have az6 := DtAll.mono S6 az5
      have du6 := du5.mono S6
      have hwl6 := wordR_len hwk
      clear ew5 et5 az5 du5
      refine ⟨_, rfl, rfl, _, rfl, ?_⟩
      rcases hcase with ⟨h1, rfl⟩ | ⟨h1, hcase⟩
      · refine iteTb (by rw [h1]; rfl) ?_
        have er : r = none := hr'
        obtain ⟨hb1, hb2⟩ := hbad er
        have ln : ("not a key: " : Str).length = 11 := rfl
        refine ⟨_, rfl, _, rfl, hp, _, v, _, t, rfl, listAt_mono L S56, dx.mono S56, hb1, _, _, rfl, rfl, ss_le (by rw [ln]; omega), sz_3, fun q hq => ?_⟩
        refine k q _ (S56.trans (Same.new hq)) (same_none' S56 hq) ?_
        rw [er]
        exact upd_same
      refine iteFb (dec_str h1) ?_
      refine ⟨_, rfl, .inl ⟨rfl, _, SqL.of ew6⟩, _, rfl, wl, _, _, rfl, rfl, ew6, by rw [List.length_map]; exact js_lt (by omega), ?_⟩
      have kT : KeepT K H6 (upd H6 wl (.lst (ws.map V.str ++ [.str (wordR rows y)]))) := KeepT.upd ew6
      have S7 : Same H (upd H6 wl (.lst (ws.map V.str ++ [.str (wordR rows y)]))) := fun b o e => by rw [upd_ne (ne_of_none e hw0)]; exact S56 b o e
      have ew7 : upd H6 wl (.lst (ws.map V.str ++ [.str (wordR rows y)])) wl = some (.lst ((ws ++ [wordR rows y]).map V.str)) := by rw [upd_same, List.map_append]; rfl
      have et7 : upd H6 wl (.lst (ws.map V.str ++ [.str (wordR rows y)])) tl = some (.lst zs0) := by rw [upd_ne (Ne.symm nwt)]; exact et6
      have az7 := az6.keepT kT
      have du7 := du6.keepT kT
      generalize upd H6 wl (.lst (ws.map V.str ++ [.str (wordR rows y)])) = H7 at S7 ew7 et7 az7 du7
      clear kT ew6 et6 az6 du6
      obtain ⟨q, wq, rfl, hq, dq⟩ := dvl du7
      have hsum2 : ((ws ++ [wordR rows y]).map (·.length)).sum ≤ 5000 * (ws ++ [wordR rows y]).length := by
        rw [List.map_append, List.sum_append, List.length_append]
        show _ + ((wordR rows y).length + 0) ≤ 5000 * (ws.length + 1)
        omega
      have hl2 : (ws ++ [wordR rows y]).length = ws.length + 1 := by rw [List.length_append]; rfl
      have hr2 : ∀ r2 : Option (List Str), r' = r2.map (wordR rows y :: ·) → r = r2.map ((ws ++ [wordR rows y]) ++ ·) := fun r2 e => by
        rw [hr', e]
        cases r2 with
        | none => rfl
        | some l => show some (ws ++ (_ :: l)) = some ((ws ++ [_]) ++ l); rw [List.append_assoc]; rfl
      refine ⟨_, rfl, q, _, _, _, rfl, rfl, hq, at0, rfl, _, rfl, ?_⟩
      rcases hcase with ⟨h2, n', r2, rfl, h3, h4⟩ | ⟨kk, vs, n', r2, rfl, h2, h3, rfl, h4, h5⟩
      · have n5 : kn y ≠ 5 := fun e => by
          cases y <;> simp [kn] at e
          exact h2 _ rfl
        refine iteFb ((knd_is y 5 (by decide)).trans (decide_eq_false n5)) ?_
        exact ⟨n', Nat.lt_succ_self _, ws ++ [wordR rows y], zs0, st, r2, _, _, rfl, S7, ew7, et7, az7, h3, hr2 _ h4, by rw [hl2]; omega, hsum2, by rw [hl2]; rw [List.length_cons] at hst; omega⟩
      · refine iteTb ((knd_is (.ref kk) 5 (by decide)).trans (decide_eq_true rfl)) ?_
        obtain ⟨xs, o, ez, ho, dO⟩ := hd_at (listAt_mono L S7) (j := kk) (d := rowD (.tup vs)) (by rw [List.getElem?_map, h2]; rfl)
        obtain ⟨qo, x1, x2, rfl, hqo, d1, d2⟩ := dt_pr dO
        cases d2 with
        | @tup pt ps _ hps hd =>
        obtain ⟨v1, _, rfl, dv1, _⟩ := dq.cons_inv
        cases dv1.int_inv
        have lps := hd.length
        rw [List.length_map] at lps
        have lz0 := az7.length
        rw [List.length_map, List.length_reverse] at lz0
        rw [List.length_cons] at hst
        refine ⟨_, rfl, .inl ⟨rfl, _, SqL.of et7⟩, _, rfl, _, rfl, q, _, _, _, rfl, rfl, hq, at1, hp, _, _, _, rfl, rfl, SqL.of ez, ho, qo, _, _, _, rfl, rfl, hqo, at1, pt, ps, rfl, hps, fun rl hrl => ?_⟩
        have S8 := Same.new (o := .lst ps.reverse) hrl
        refine ⟨tl, rl, zs0, ps.reverse, rfl, rfl, S8 _ _ et7, upd_same, Nat.le_trans (show zs0.length + ps.reverse.length ≤ 5000000 by rw [List.length_reverse]; omega) (by decide), ?_⟩
        have et8 := S8 _ _ et7
        have kT8 : KeepT K (upd H7 rl (.lst ps.reverse)) (upd (upd H7 rl (.lst ps.reverse)) tl (.lst (zs0 ++ ps.reverse))) := KeepT.upd et8
        refine ⟨n', Nat.lt_succ_self _, ws ++ [wordR rows (.ref kk)], zs0 ++ ps.reverse, vs ++ st, r2, _, _, rfl, fun b o e => by rw [upd_ne (ne_of_none e ht0)]; exact (S7.trans S8) b o e, by rw [upd_ne nwt]; exact S8 _ _ ew7, upd_same, ?_, h4, hr2 _ h5, by rw [hl2]; omega, hsum2, by rw [hl2, List.length_append]; omega⟩
        rw [List.reverse_append, List.map_append, List.map_reverse (l := vs)]
        exact DtAll.app ((DtAll.mono S8 az7).keepT kT8) ((DtAll.mono S8 (dtAll_rev hd)).keepT kT8)
def KTx (rows : List Row) (kt : Vl → Str) (x : Vl) : Prop := ∃ n ws, KW rows n [x] (some ws) ∧ n ≤ 900 ∧ kt x = Txt.join " " ws
def bothR (p : Vl × Vl) : Bool := match p with
  | (.ref _, .ref _) => true
  | _ => false
theorem dt_ent {H : Hp} {v : V} {e : Vl × Vl} (h : Dt K H v (entD e)) : ∃ q x y, v = .ref q ∧ SqT K H q [x, y] ∧ Dt K H x (vlD e.1) ∧ Dt K H y (vlD e.2) := dt_pr h
end

section
--SPLIT
end
abbrev s_find_key : Stmt := top 23
abbrev N_find_key : List Str := ["heap", "entries", "key", "text", "at", "other", "_"]
abbrev P_find_key : List Str := ["heap", "entries", "key"]
theorem sc_find_key : FnScope N_find_key P_find_key (defScope s_find_key) := ⟨rfl, rfl, rfl, by decide +kernel, rfl, by decide +kernel, by decide +kernel⟩
abbrev s_key_place : Stmt := top 24
abbrev N_key_place : List Str := ["heap", "entries", "key", "outcome"]
abbrev P_key_place : List Str := ["heap", "entries", "key"]
theorem sc_key_place : FnScope N_key_place P_key_place (defScope s_key_place) := ⟨rfl, rfl, rfl, by decide +kernel, rfl, by decide +kernel, by decide +kernel⟩
abbrev s_entry_place : Stmt := top 40
abbrev N_entry_place : List Str := ["heap", "entries", "key", "outcome"]
abbrev P_entry_place : List Str := ["heap", "entries", "key"]
theorem sc_entry_place : FnScope N_entry_place P_entry_place (defScope s_entry_place) := ⟨rfl, rfl, rfl, by decide +kernel, rfl, by decide +kernel, by decide +kernel⟩
abbrev s_missing_key : Stmt := top 42
abbrev N_missing_key : List Str := ["heap", "key", "outcome"]
abbrev P_missing_key : List Str := ["heap", "key"]
theorem sc_missing_key : FnScope N_missing_key P_missing_key (defScope s_missing_key) := ⟨rfl, rfl, rfl, by decide +kernel, rfl, by decide +kernel, by decide +kernel⟩
section
/-! keys of a dict -/
structure KOk (rows : List Row) (kt : Vl → Str) (x : Vl) : Prop where
  k : KTx rows kt x
  v : vOk x
  s : PyData.canLay0 (.str (kt x)) = true
def mt (kt : Vl → Str) (e k : Vl) : Bool := if bothR (k, e) = true then decide (kt e = kt k) else sl e k
def findK (kt : Vl → Str) (es : List (Vl × Vl)) (k : Vl) : Option Nat := es.findIdx? fun e => mt kt e.1 k
def placeI : Option Nat → Int
  | some i => (i : Nat)
  | none => -1
theorem findK_some {kt : Vl → Str} {es : List (Vl × Vl)} {k : Vl} {i : Nat} {e : Vl × Vl} (h : es[i]? = some e) (hm : mt kt e.1 k = true) (hb : ∀ (j : Nat) (e' : Vl × Vl), j < i → es[j]? = some e' → mt kt e'.1 k = false) : findK kt es k = some i := by
  unfold findK
  rw [List.findIdx?_eq_some_iff_getElem]
  obtain ⟨hi, he⟩ := List.getElem?_eq_some_iff.mp h
  refine ⟨hi, by rw [he]; exact hm, fun j hj => ?_⟩
  have := hb j _ hj (List.getElem?_eq_getElem (by omega))
  rw [this]
  exact Bool.false_ne_true
theorem findK_none {kt : Vl → Str} {es : List (Vl × Vl)} {k : Vl} (hb : ∀ (j : Nat) (e' : Vl × Vl), es[j]? = some e' → mt kt e'.1 k = false) : findK kt es k = none := by
  unfold findK
  rw [List.findIdx?_eq_none_iff]
  intro e he
  obtain ⟨j, hj⟩ := List.getElem?_of_mem he
  exact hb j e hj
theorem findK_lt {kt : Vl → Str} {es : List (Vl × Vl)} {k : Vl} {i : Nat} (h : findK kt es k = some i) : ∃ e, es[i]? = some e ∧ mt kt e.1 k = true := by
  unfold findK at h
  rw [List.findIdx?_eq_some_iff_getElem] at h
  obtain ⟨hi, hp, _⟩ := h
  exact ⟨es[i], List.getElem?_eq_getElem hi, hp⟩
def okTD (t : Str) : PyData := .tuple [.str "ok", .str t]
theorem okT_shp {t : Str} (h : PyData.canLay0 (.str t) = true) : Shp 1 (okTD t) := Shp.tup (Shp.cons2 (Shp.str (by decide +kernel)) (Shp.cons2 (Shp.str h) Shp.none2))
theorem okT_eqv (a b : Str) : PyData.eqv (okTD a) (okTD b) = decide (a = b) := by
  simp [okTD, PyData.eqv, PyData.eqvAll, bD]
end
section
variable {P : Program} {w : World} {K : PySem.W.Frag} {mg : Str → Option Value} {base : Heap}
def spFindKey (K : PySem.W.Frag) : Sp := fun vs H Q _ => ∃ (kt : Vl → Str) (hp : Addr) (rows : List Row) (ve vk : V) (es : List (Vl × Vl)) (x : Vl), vs = [.ref hp, ve, vk] ∧ ListAt K H hp (rows.map rowD) ∧ Dt K H ve (.tuple (es.map entD)) ∧ Dt K H vk (vlD x) ∧ KOk rows kt x ∧ (∀ e ∈ es, KOk rows kt e.1) ∧ es.length ≤ 1000 ∧
  ∀ H', Same H H' → Q (.int (placeI (findK kt es x))) H'
theorem ok_findkey {f : Addr} {fd : FuncData} (F : Fun K "find_key" "find_key" s_find_key f fd) (T : Txt K mg) (U_key_text : Use P w K mg base CX0 "key_text" 3 P_key_text (spKeyText K)) (U_same_leaf : Use P w K mg base CX0 "same_leaf" 2 P_same_leaf (spSameLeaf K)) : FnG P w K mg base CX0 4 f fd P_find_key (spFindKey K) := by
  refine okG0 F sc_find_key (fun vs H Q E h => ?_) fun cdv A outer s H vs Q E hr hg h => ?_
  · obtain ⟨kt, hp, rows, ve, vk, es, x, rfl, _⟩ := h
    rfl
  · obtain ⟨kt, hp, rows, ve, vk, es, x, rfl, L, de, dk, kx, ke, hl, k⟩ := h
    refine ⟨_, (pss_cons (ps_set (i := 3) sc_find_key.nd rfl (Or.inl rfl) (pe_use U_key_text (hr.mono (by decide)) hg rfl (pa_cons (pv 0) (pa_cons (pv 2) pa_nil))))
  (pss_cons (ps_for PassesOwn.never rfl (pi_enumT (by rfl) T.b_enumerate (pa_cons (pv 1) pa_nil)) (pg_tup (by rfl) (pgs_cons (pg_name (i := 4) sc_find_key.nd rfl (Or.inl rfl)) (pgs_cons (pg_tup (by rfl) (pgs_cons (pg_name (i := 5) sc_find_key.nd rfl (Or.inl rfl)) (pgs_cons (pg_name (i := 6) sc_find_key.nd rfl (Or.inl rfl)) pgs_nil))) pgs_nil)))
   (pss_one (ps_if (PW.pt (pw_or (pt_cmpR op_ne (pe_ix ix_tup (pv 2) pe_int (fun _ _ => rfl)) pe_str (nomark _)) (pw_or1 (pt_cmpR op_ne (pe_ix ix_tup (pv 5) pe_int (fun _ _ => rfl)) pe_str (nomark _)))))
   (pss_one (ps_if (pt_val (pe_use U_same_leaf (hr.mono (by decide)) hg rfl (pa_cons (pv 5) (pa_cons (pv 2) pa_nil))))
   (pss_one (ps_ret (pv 4)))
   pss_nil))
   (pss_one (ps_if (pt_cmpR (op_eqD hr.units) (pe_use U_key_text (hr.mono (by decide)) hg rfl (pa_cons (pv 0) (pa_cons (pv 5) pa_nil))) (pv 3) (nomark _))
   (pss_one (ps_ret (pv 4)))
   pss_nil)))))
  (pss_one (ps_ret (pe_un un_neg pe_int))))), ?_⟩
    obtain ⟨n, ws, hkw, hn9, hkt⟩ := kx.k
    refine ⟨_, rfl, _, rfl, hp, rows, vk, x, n, some ws, "", rfl, L, dk, hkw, hn9, (fun h => nomatch h), fun qt H1 S1 hqn eqt => ?_⟩
    have dqt : Dt K H1 (.ref qt) (okTD (kt x)) := by rw [hkt]; exact .tup (SqT.of eqt) (.cons (.str _) (.cons (.str _) .nil))
    cases de with
    | @tup ea xs _ hes ae =>
    have lxs := ae.length
    rw [List.length_map] at lxs
    obtain ⟨qk, wk, rfl, hqk, ddk⟩ := dvl dk
    refine ⟨_, rfl, ea, xs, rfl, Same.tupl S1 hes, ?_⟩
    refine for_it (walk_enumT (xs := xs)) (fun i σ H4 => ∃ (x4 x5 x6 : Option V), σ = [some (.ref hp), some (.ref ea), some (.ref qk), some (.ref qt), x4, x5, x6] ∧ Same H1 H4 ∧ ∀ (j : Nat) (e' : Vl × Vl), j < i → es[j]? = some e' → mt kt e'.1 x = false) ⟨none, none, none, rfl, Same.refl _, fun j _ hj => absurd hj (Nat.not_lt_zero _)⟩ (fun _ _ _ _ h => let ⟨_, _, _, _, S, _⟩ := h; Same.tupl (S1.trans S) hes) ?_ ?_
    · rintro i v σ H4 H5 hi ⟨x4, x5, x6, rfl, S4, hno⟩ ⟨u, y1, y2, rfl, hu, rfl, e1, e2⟩
      cases e1
      have hdi : es[i]? = some es[i] := List.getElem?_eq_getElem (by omega)
      have hmem := List.getElem_mem (l := es) (n := i) (by omega)
      generalize es[i] = g at hdi hmem
      obtain ⟨v', hv', dv⟩ := ae.get (i := i) (d := entD g) (by rw [List.getElem?_map, hdi]; rfl)
      have e2 : xs[i]? = some y2 := e2
      rw [e2] at hv'
      cases hv'
      have S5 : Same H (upd H4 u (.tup [V.int ((i : Nat) : Int), y2])) := (S1.trans S4).trans (Same.new hu)
      have S5' : Same H1 (upd H4 u (.tup [V.int ((i : Nat) : Int), y2])) := S4.trans (Same.new hu)
      have eu : SqT K (upd H4 u (.tup [V.int ((i : Nat) : Int), y2])) u [V.int ((i : Nat) : Int), y2] := SqT.of upd_same
      generalize upd H4 u (.tup [V.int ((i : Nat) : Int), y2]) = H5 at S5 S5' eu
      obtain ⟨q, z1, z2, rfl, hq, d1, d2⟩ := dt_ent (dv.mono S5)
      refine ⟨u, _, rfl, eu, rfl, _, _, rfl, _, _, rfl, q, _, rfl, hq, rfl, _, _, rfl, _, _, rfl, rfl, rfl, ?_⟩
      obtain ⟨qo, wo, rfl, hqo, ddo⟩ := dvl d1
      have ko := ke g hmem
      have step : mt kt g.1 x = false → ∀ (j : Nat) (e' : Vl × Vl), j < i + 1 → es[j]? = some e' → mt kt e'.1 x = false := fun hm j e' hj he => by
        by_cases c : j = i
        · rw [c, hdi] at he; cases he; exact hm
        · exact hno j e' (by omega) he
      have found : mt kt g.1 x = true → ∀ H', Same H H' → Q (.int ((i : Nat) : Int)) H' := fun hm H' S' => by
        have e := findK_some hdi hm hno
        have kk := k H' S'
        rw [e] at kk
        exact kk
      refine ⟨_, rfl, qk, _, _, _, rfl, rfl, Same.tupl S5 hqk, at0, rfl, _, rfl, ?_⟩
      by_cases ca : kn x = 5
      · refine iteFb (by rw [show decide (V.str (knd x) = V.str "ref") = decide (kn x = 5) from knd_is _ 5 (by decide), ca]; rfl) ?_
        refine ⟨_, rfl, qo, _, _, _, rfl, rfl, hqo, at0, rfl, _, rfl, ?_⟩
        by_cases cb : kn g.1 = 5
        · refine iteFb (by rw [show decide (V.str (knd g.1) = V.str "ref") = decide (kn g.1 = 5) from knd_is _ 5 (by decide), cb]; rfl) ?_
          have hb : bothR (x, g.1) = true := by
            cases hx : x <;> cases hg : g.1 <;> first | rfl | (rw [hx] at ca; simp [kn] at ca; done) | (rw [hg] at cb; simp [kn] at cb; done)
          obtain ⟨n2, ws2, hkw2, hn92, hkt2⟩ := ko.k
          refine ⟨_, rfl, _, rfl, hp, rows, _, g.1, n2, some ws2, "", rfl, listAt_mono L S5, d1, hkw2, hn92, (fun h => nomatch h), fun q2 H6 S6 hqn2 eq2 => ?_⟩
          have dq2 : Dt K H6 (.ref q2) (okTD (kt g.1)) := by rw [hkt2]; exact .tup (SqT.of eq2) (.cons (.str _) (.cons (.str _) .nil))
          refine ⟨_, rfl, _, _, dq2.dp, (dqt.mono (S5'.trans S6)).dp, (okT_shp ko.s).sh (by decide), (okT_shp kx.s).sh (by decide), _, rfl, ?_⟩
          rw [okT_eqv]
          have hm : mt kt g.1 x = decide (kt g.1 = kt x) := by unfold mt; rw [if_pos hb]
          rw [← hm]
          cases hmm : mt kt g.1 x with
          | true => exact iteTb rfl ⟨_, rfl, found hmm _ (S5.trans S6)⟩
          | false => exact iteFb rfl ⟨_, _, _, rfl, S5'.trans S6, step hmm⟩
        · have hb : bothR (x, g.1) = false := by
            cases hx : x <;> cases hg : g.1 <;> first | rfl | (exfalso; rw [hg] at cb; exact cb rfl)
          refine iteTb (by rw [show decide (V.str (knd g.1) = V.str "ref") = decide (kn g.1 = 5) from knd_is _ 5 (by decide), decide_eq_false cb]; rfl) ?_
          have hm : mt kt g.1 x = sl g.1 x := by unfold mt; rw [if_neg (by rw [hb]; exact Bool.false_ne_true)]
          refine ⟨_, rfl, _, rfl, _, _, g.1, x, rfl, d1, dk.mono S5, ko.v, kx.v, fun H' S' => ⟨_, rfl, ?_⟩⟩
          cases hs : sl g.1 x with
          | true => exact iteTb rfl ⟨_, rfl, found (by rw [hm]; exact hs) _ (S5.trans S')⟩
          | false => exact iteFb rfl ⟨_, _, _, rfl, S5'.trans S', step (by rw [hm]; exact hs)⟩
      · have hb : bothR (x, g.1) = false := by
          cases hx : x <;> first | rfl | (exfalso; rw [hx] at ca; exact ca rfl)
        refine iteTb (by rw [show decide (V.str (knd x) = V.str "ref") = decide (kn x = 5) from knd_is _ 5 (by decide), decide_eq_false ca]; rfl) (iteTb rfl ?_)
        have hm : mt kt g.1 x = sl g.1 x := by unfold mt; rw [if_neg (by rw [hb]; exact Bool.false_ne_true)]
        refine ⟨_, rfl, _, rfl, _, _, g.1, x, rfl, d1, dk.mono S5, ko.v, kx.v, fun H' S' => ⟨_, rfl, ?_⟩⟩
        cases hs : sl g.1 x with
        | true => exact iteTb rfl ⟨_, rfl, found (by rw [hm]; exact hs) _ (S5.trans S')⟩
        | false => exact iteFb rfl ⟨_, _, _, rfl, S5'.trans S', step (by rw [hm]; exact hs)⟩
    · rintro σ H4 ⟨x4, x5, x6, rfl, S4, hno⟩
      have e : findK kt es x = none := findK_none fun j e' he => hno j e' (by have := (List.getElem?_eq_some_iff.mp he).1; omega) he
      have kk := k H4 (S1.trans S4)
      rw [e] at kk
      exact ⟨_, rfl, kk⟩
/-- a key, or none: what its kind is called -/
inductive KIn (rows : List Row) (kt : Vl → Str) (x : Vl) : Option Str → Prop
  | ok : KOk rows kt x → KIn rows kt x none
  | bad {n : Nat} {t : Str} : KW rows n [x] none → n ≤ 900 → NameOf (rows.map rowD) (vlD x) t → t.length ≤ 1000 → PyData.canLay0 (.str ("not a key: " ++ t)) = true → KIn rows kt x (some t)
def badD (t : Str) : PyData := .tuple [.str "raise", .int 10, .str ("not a key: " ++ t)]
def atD (i : Int) : PyData := .tuple [.str "ok", .int i]
def missD (z : Str) : PyData := .tuple [.str "raise", .int 7, .str z]
def kpD (kt : Vl → Str) (es : List (Vl × Vl)) (x : Vl) : Option Str → PyData
  | some t => badD t
  | none => atD (placeI (findK kt es x))
def spKeyPlace (K : PySem.W.Frag) : Sp := fun vs H Q _ => ∃ (kt : Vl → Str) (hp : Addr) (rows : List Row) (ve vk : V) (es : List (Vl × Vl)) (x : Vl) (b : Option Str), vs = [.ref hp, ve, vk] ∧ ListAt K H hp (rows.map rowD) ∧ Dt K H ve (.tuple (es.map entD)) ∧ Dt K H vk (vlD x) ∧ KIn rows kt x b ∧ (∀ e ∈ es, KOk rows kt e.1) ∧ es.length ≤ 1000 ∧
  ∀ u H', Same H H' → Dt K H' u (kpD kt es x b) → Q u H'
theorem ok_keyplace {f : Addr} {fd : FuncData} (F : Fun K "key_place" "key_place" s_key_place f fd) (T : Txt K mg) (U_key_text : Use P w K mg base CX0 "key_text" 3 P_key_text (spKeyText K)) (U_find_key : Use P w K mg base CX0 "find_key" 4 P_find_key (spFindKey K)) : FnG P w K mg base CX0 5 f fd P_key_place (spKeyPlace K) := by
  refine okG0 F sc_key_place (fun vs H Q E h => ?_) fun cdv A outer s H vs Q E hr hg h => ?_
  · obtain ⟨kt, hp, rows, ve, vk, es, x, b, rfl, _⟩ := h
    rfl
  · obtain ⟨kt, hp, rows, ve, vk, es, x, b, rfl, L, de, dk, kx, ke, hl, k⟩ := h
    refine ⟨_, (pss_cons (ps_set (i := 3) sc_key_place.nd rfl (Or.inl rfl) (pe_use U_key_text (hr.mono (by decide)) hg rfl (pa_cons (pv 0) (pa_cons (pv 2) pa_nil))))
  (pss_cons (ps_if (pt_cmpR op_eq (pe_ix ix_tup (pv 3) pe_int (fun _ _ => rfl)) pe_str (nomark _))
   (pss_one (ps_ret (pv 3)))
   pss_nil)
  (pss_one (ps_ret (pe_tup (pa_cons pe_str (pa_cons (pe_use U_find_key (hr.mono (by decide)) hg rfl (pa_cons (pv 0) (pa_cons (pv 1) (pa_cons (pv 2) pa_nil)))) pa_nil))))))), ?_⟩
    cases kx with
    | @bad n t hkw hn9 hnm htl hc =>
      refine ⟨_, rfl, _, rfl, hp, rows, vk, x, n, none, t, rfl, L, dk, hkw, hn9, fun _ => ⟨hnm, htl⟩, fun qt H1 S1 hqn eqt => ?_⟩
      refine ⟨_, rfl, qt, _, _, _, rfl, rfl, SqT.of eqt, at0, rfl, _, rfl, iteTb (by decide +kernel) ?_⟩
      exact ⟨_, rfl, k _ _ S1 (.tup (SqT.of eqt) (.cons (.str _) (.cons (.int _) (.cons (.str _) .nil))))⟩
    | ok kx =>
      obtain ⟨n, ws, hkw, hn9, hkt⟩ := kx.k
      refine ⟨_, rfl, _, rfl, hp, rows, vk, x, n, some ws, "", rfl, L, dk, hkw, hn9, (fun h => nomatch h), fun qt H1 S1 hqn eqt => ?_⟩
      refine ⟨_, rfl, qt, _, _, _, rfl, rfl, SqT.of eqt, at0, rfl, _, rfl, iteFb (by decide +kernel) ?_⟩
      exact ⟨_, rfl, _, rfl, _, rfl, kt, hp, rows, _, _, es, x, rfl, listAt_mono L S1, de.mono S1, dk.mono S1, kx, ke, hl, fun H2 S2 => ⟨sz_2, fun u hu => k _ _ ((S1.trans S2).trans (Same.new hu)) (Dt.made hu (.cons (.str _) (.cons (.int _) .nil)))⟩⟩
def spMissing (K : PySem.W.Frag) : Sp := fun vs H Q _ => ∃ (hp : Addr) (hds : List PyData) (v : V) (d : PyData) (n : Nat) (z : Str), vs = [.ref hp, v] ∧ ListAt K H hp hds ∧ Dt K H v d ∧ Shows hds n "" [] [.shw d] (some z) ∧ ∀ u H', Same H H' → Dt K H' u (missD z) → Q u H'
theorem ok_missing {f : Addr} {fd : FuncData} (F : Fun K "missing_key" "missing_key" s_missing_key f fd) (T : Txt K mg) (U_show : Use P w K mg base CX0 "show" 5 P_show (spShow K)) : FnG P w K mg base CX0 6 f fd P_missing_key (spMissing K) := by
  refine okG0 F sc_missing_key (fun vs H Q E h => ?_) fun cdv A outer s H vs Q E hr hg h => ?_
  · obtain ⟨hp, hds, v, d, n, z, rfl, _⟩ := h
    rfl
  · obtain ⟨hp, hds, v, d, n, z, rfl, L, dv, sh, k⟩ := h
    refine ⟨_, (pss_cons (ps_set (i := 2) sc_missing_key.nd rfl (Or.inl rfl) (pe_use U_show (hr.mono (by decide)) hg rfl (pa_cons (pv 0) (pa_cons (pv 1) pa_nil))))
  (pss_cons (ps_if (pt_cmpR op_eq (pe_ix ix_tup (pv 2) pe_int (fun _ _ => rfl)) pe_str (nomark _))
   (pss_one (ps_ret (pv 2)))
   pss_nil)
  (pss_one (ps_ret (pe_tup (pa_cons pe_str (pa_cons (pe_globI T.c_KEY_ERROR (by rfl)) (pa_cons (pe_ix ix_tup (pe_ix ix_tup (pv 2) pe_int (fun _ _ => rfl)) pe_int (fun _ _ => rfl)) pa_nil)))))))), ?_⟩
    refine ⟨_, rfl, _, rfl, hp, hds, v, d, n, some z, rfl, L, dv, sh, fun u H1 S1 du => ?_⟩
    obtain ⟨q, x1, x2, rfl, hq, d1, d2⟩ := dt_pr (show Dt K H1 u (.tuple [.str "ok", .tuple [.str "text", .str z]]) from du)
    cases dt_str d1
    obtain ⟨q2, y1, y2, rfl, hq2, e1, e2⟩ := dt_pr d2
    cases dt_str e2
    refine ⟨_, rfl, q, _, _, _, rfl, rfl, hq, at0, rfl, _, rfl, iteFb (by decide +kernel) ?_⟩
    exact ⟨_, rfl, q, _, _, _, rfl, rfl, hq, at1, q2, _, _, _, rfl, rfl, hq2, at1, sz_3, fun t ht => k _ _ (S1.trans (Same.new ht)) (Dt.made ht (.cons (.str _) (.cons (.int _) (.cons (.str _) .nil))))⟩
def epD (kt : Vl → Str) (es : List (Vl × Vl)) (x : Vl) (z : Str) : Option Str → PyData
  | some t => badD t
  | none => match findK kt es x with
    | some i => atD ((i : Nat) : Int)
    | none => missD z
def spEntryPlace (K : PySem.W.Frag) : Sp := fun vs H Q _ => ∃ (kt : Vl → Str) (hp : Addr) (rows : List Row) (ve vk : V) (es : List (Vl × Vl)) (x : Vl) (b : Option Str) (n : Nat) (z : Str), vs = [.ref hp, ve, vk] ∧ ListAt K H hp (rows.map rowD) ∧ Dt K H ve (.tuple (es.map entD)) ∧ Dt K H vk (vlD x) ∧ KIn rows kt x b ∧ (∀ e ∈ es, KOk rows kt e.1) ∧ es.length ≤ 1000 ∧
  (b = none → Shows (rows.map rowD) n "" [] [.shw (vlD x)] (some z)) ∧ ∀ u H', Same H H' → Dt K H' u (epD kt es x z b) → Q u H'
theorem ok_entryplace {f : Addr} {fd : FuncData} (F : Fun K "entry_place" "entry_place" s_entry_place f fd) (T : Txt K mg) (U_key_place : Use P w K mg base CX0 "key_place" 5 P_key_place (spKeyPlace K)) (U_missing_key : Use P w K mg base CX0 "missing_key" 6 P_missing_key (spMissing K)) : FnG P w K mg base CX0 7 f fd P_entry_place (spEntryPlace K) := by
  refine okG0 F sc_entry_place (fun vs H Q E h => ?_) fun cdv A outer s H vs Q E hr hg h => ?_
  · obtain ⟨kt, hp, rows, ve, vk, es, x, b, n, z, rfl, _⟩ := h
    rfl
  · obtain ⟨kt, hp, rows, ve, vk, es, x, b, n, z, rfl, L, de, dk, kx, ke, hl, hsh, k⟩ := h
    refine ⟨_, (pss_cons (ps_set (i := 3) sc_entry_place.nd rfl (Or.inl rfl) (pe_use U_key_place (hr.mono (by decide)) hg rfl (pa_cons (pv 0) (pa_cons (pv 1) (pa_cons (pv 2) pa_nil)))))
  (pss_cons (ps_if (pt_cmpR (op_eqD hr.units) (pv 3) (pe_tup (pa_cons pe_str (pa_cons (pe_un un_neg pe_int) pa_nil))) (nomark _))
   (pss_one (ps_ret (pe_use U_missing_key (hr.mono (by decide)) hg rfl (pa_cons (pv 0) (pa_cons (pv 2) pa_nil)))))
   pss_nil)
  (pss_one (ps_ret (pv 3))))), ?_⟩
    refine ⟨_, rfl, _, rfl, _, rfl, kt, hp, rows, ve, vk, es, x, b, rfl, L, de, dk, kx, ke, hl, fun u H1 S1 du => ?_⟩
    refine ⟨_, rfl, _, rfl, sz_2, fun t ht => ?_⟩
    have S2 := S1.trans (Same.new (o := .tup [V.str "ok", V.int (-1)]) ht)
    have dm := Dt.made (K := K) ht (.cons (.str "ok") (.cons (.int (-1)) .nil))
    have du2 := du.mono (Same.new (o := .tup [V.str "ok", V.int (-1)]) ht)
    have shm : Shp 1 (.tuple [.str "ok", .int (-1)]) := Shp.tup (Shp.cons2 (Shp.str (by decide +kernel)) (Shp.cons2 (Shp.int 0 _) Shp.none2))
    cases kx with
    | @bad n' t' hkw hn9 hnm htl hc =>
      have sh1 : Shp 1 (badD t') := Shp.tup (Shp.cons2 (Shp.str (by decide +kernel)) (Shp.cons2 (Shp.int 0 _) (Shp.cons2 (Shp.str hc) Shp.none2)))
      refine ⟨_, _, du2.dp, dm.dp, sh1.sh (by decide), shm.sh (by decide), _, rfl, ?_⟩
      have e : PyData.eqv (kpD kt es x (some t')) (.tuple [.str "ok", .int (-1)]) = false := by
        show (PyData.eqv (.str "raise") (.str "ok") && PyData.eqvAll [.int 10, .str ("not a key: " ++ t')] [.int (-1)]) = false
        rw [show PyData.eqv (.str "raise") (.str "ok") = false by decide +kernel]
        rfl
      rw [e]
      exact iteFb rfl ⟨_, rfl, k _ _ S2 du2⟩
    | ok kx =>
      have sh1 : Shp 1 (atD (placeI (findK kt es x))) := Shp.tup (Shp.cons2 (Shp.str (by decide +kernel)) (Shp.cons2 (Shp.int 0 _) Shp.none2))
      refine ⟨_, _, du2.dp, dm.dp, sh1.sh (by decide), shm.sh (by decide), _, rfl, ?_⟩
      have e : PyData.eqv (kpD kt es x none) (.tuple [.str "ok", .int (-1)]) = decide (placeI (findK kt es x) = -1) := by
        show PyData.eqv (atD _) (atD _) = _
        simp [atD, PyData.eqv, PyData.eqvAll, bD]
      rw [e]
      cases hf : findK kt es x with
      | none =>
        refine iteTb rfl ?_
        refine ⟨_, rfl, _, rfl, hp, _, vk, _, n, z, rfl, listAt_mono L S2, dk.mono S2, hsh rfl, fun u3 H3 S3 d3 => k _ _ (S2.trans S3) ?_⟩
        show Dt K H3 u3 (match findK kt es x with | some i => atD ((i : Nat) : Int) | none => missD z)
        rw [hf]
        exact d3
      | some i =>
        refine iteFb (decide_eq_false (by show ¬ ((i : Nat) : Int) = -1; omega)) ⟨_, rfl, k _ _ S2 ?_⟩
        show Dt K _ u (match findK kt es x with | some i => atD ((i : Nat) : Int) | none => missD z)
        rw [hf]
        have : kpD kt es x none = atD ((i : Nat) : Int) := by show atD (placeI (findK kt es x)) = _; rw [hf]; rfl
        rw [this] at du2
        exact du2
end
abbrev s_with_entry : Stmt := top 41
abbrev N_with_entry : List Str := ["heap", "entries", "key", "value", "outcome", "at"]
abbrev P_with_entry : List Str := ["heap", "entries", "key", "value"]
theorem sc_with_entry : FnScope N_with_entry P_with_entry (defScope s_with_entry) := ⟨rfl, rfl, rfl, by decide +kernel, rfl, by decide +kernel, by decide +kernel⟩
abbrev s_put_entry : Stmt := top 45
abbrev N_put_entry : List Str := ["heap", "a", "key", "value", "outcome"]
abbrev P_put_entry : List Str := ["heap", "a", "key", "value"]
theorem sc_put_entry : FnScope N_put_entry P_put_entry (defScope s_put_entry) := ⟨rfl, rfl, rfl, by decide +kernel, rfl, by decide +kernel, by decide +kernel⟩
abbrev s_put_item : Stmt := top 37
abbrev N_put_item : List Str := ["heap", "a", "index", "value", "kind", "items", "outcome", "at"]
abbrev P_put_item : List Str := ["heap", "a", "index", "value"]
theorem sc_put_item : FnScope N_put_item P_put_item (defScope s_put_item) := ⟨rfl, rfl, rfl, by decide +kernel, rfl, by decide +kernel, by decide +kernel⟩
abbrev s_item : Stmt := top 36
abbrev N_item : List Str := ["heap", "a", "index", "entries", "outcome"]
abbrev P_item : List Str := ["heap", "a", "index"]
theorem sc_item : FnScope N_item P_item (defScope s_item) := ⟨rfl, rfl, rfl, by decide +kernel, rfl, by decide +kernel, by decide +kernel⟩
section
variable {P : Program} {w : World} {K : PySem.W.Frag} {mg : Str → Option Value} {base : Heap}
def tooD : PyData := .tuple [.str "raise", .int 15, .str "too large"]
def doneD : PyData := .tuple [.str "ok", .tuple [.str "none"]]
def putE (kt : Vl → Str) (es : List (Vl × Vl)) (x y : Vl) : Option (List (Vl × Vl)) := match findK kt es x with
  | some i => some ((es.take i ++ [((es.getD i (x, y)).1, y)]) ++ es.drop (i + 1))
  | none => if 1000 ≤ es.length then none else some (es ++ [(x, y)])
theorem putE_old {kt : Vl → Str} {es : List (Vl × Vl)} {x y : Vl} {i : Nat} {e : Vl × Vl} (h : findK kt es x = some i) (he : es[i]? = some e) : putE kt es x y = some ((es.take i ++ [(e.1, y)]) ++ es.drop (i + 1)) := by
  unfold putE
  rw [h]
  show some ((es.take i ++ [((es.getD i (x, y)).1, y)]) ++ es.drop (i + 1)) = _
  rw [List.getD_eq_getElem?_getD, he]
  rfl
theorem putE_big {kt : Vl → Str} {es : List (Vl × Vl)} {x y : Vl} (h : findK kt es x = none) (c : 1000 ≤ es.length) : putE kt es x y = none := by
  unfold putE
  rw [h]
  exact if_pos c
theorem putE_new {kt : Vl → Str} {es : List (Vl × Vl)} {x y : Vl} (h : findK kt es x = none) (c : ¬ 1000 ≤ es.length) : putE kt es x y = some (es ++ [(x, y)]) := by
  unfold putE
  rw [h]
  exact if_neg c
def weD (kt : Vl → Str) (es : List (Vl × Vl)) (x y : Vl) : Option Str → PyData
  | some t => badD t
  | none => match putE kt es x y with
    | none => tooD
    | some es' => .tuple [.str "ok", .tuple (es'.map entD)]
def spWithEntry (K : PySem.W.Frag) : Sp := fun vs H Q _ => ∃ (kt : Vl → Str) (hp : Addr) (rows : List Row) (ve vk vy : V) (es : List (Vl × Vl)) (x y : Vl) (b : Option Str), vs = [.ref hp, ve, vk, vy] ∧ ListAt K H hp (rows.map rowD) ∧ Dt K H ve (.tuple (es.map entD)) ∧ Dt K H vk (vlD x) ∧ Dt K H vy (vlD y) ∧ KIn rows kt x b ∧ (∀ e ∈ es, KOk rows kt e.1) ∧ es.length ≤ 1000 ∧
  ∀ u H', Same H H' → Dt K H' u (weD kt es x y b) → Q u H'
theorem ok_withentry {f : Addr} {fd : FuncData} (F : Fun K "with_entry" "with_entry" s_with_entry f fd) (T : Txt K mg) (U_key_place : Use P w K mg base CX0 "key_place" 5 P_key_place (spKeyPlace K)) : FnG P w K mg base CX0 6 f fd P_with_entry (spWithEntry K) := by
  refine okG0 F sc_with_entry (fun vs H Q E h => ?_) fun cdv A outer s H vs Q E hr hg h => ?_
  · obtain ⟨kt, hp, rows, ve, vk, vy, es, x, y, b, rfl, _⟩ := h
    rfl
  · obtain ⟨kt, hp, rows, ve, vk, vy, es, x, y, b, rfl, L, de, dk, dy, kx, ke, hl, k⟩ := h
    refine ⟨_, (pss_cons (ps_set (i := 4) sc_with_entry.nd rfl (Or.inl rfl) (pe_use U_key_place (hr.mono (by decide)) hg rfl (pa_cons (pv 0) (pa_cons (pv 1) (pa_cons (pv 2) pa_nil)))))
  (pss_cons (ps_if (pt_cmpR op_eq (pe_ix ix_tup (pv 4) pe_int (fun _ _ => rfl)) pe_str (nomark _))
   (pss_one (ps_ret (pv 4)))
   pss_nil)
  (pss_cons (ps_set (i := 5) sc_with_entry.nd rfl (Or.inl rfl) (pe_ix ix_tup (pv 4) pe_int (fun _ _ => rfl)))
  (pss_cons (ps_if (pt_cmpR op_ge (pv 5) pe_int (nomark _))
   (pss_one (ps_ret (pe_tup (pa_cons pe_str (pa_cons (pe_op op_catTD (pe_op op_catTD (pe_slice sl_row (pv 1) po_none (po_some (pv 5))) (pe_tup (pa_cons (pe_tup (pa_cons (pe_ix ix_tup (pe_ix ix_tup (pv 1) (pv 5) (fun _ _ => rfl)) pe_int (fun _ _ => rfl)) (pa_cons (pv 3) pa_nil))) pa_nil))) (pe_slice sl_row (pv 1) (po_some (pe_op op_add (pv 5) pe_int)) po_none)) pa_nil)))))
   pss_nil)
  (pss_cons (ps_if (pt_cmpR op_ge (pe_callB call_len (by rfl) T.b_len PySem.boot_len (pa_cons (pv 1) pa_nil)) (pe_globI T.c_MOST_ENTRIES (by rfl)) (nomark _))
   (pss_one (ps_ret (pe_globT T.c_TOO_LARGE (by rfl))))
   pss_nil)
  (pss_one (ps_ret (pe_tup (pa_cons pe_str (pa_cons (pe_op op_catTD (pv 1) (pe_tup (pa_cons (pe_tup (pa_cons (pv 2) (pa_cons (pv 3) pa_nil))) pa_nil))) pa_nil)))))))))), ?_⟩
    refine ⟨_, rfl, _, rfl, _, rfl, kt, hp, rows, ve, vk, es, x, b, rfl, L, de, dk, kx, ke, hl, fun u H1 S1 du => ?_⟩
    cases b with
    | some t =>
      obtain ⟨q, ws, rfl, hq, _⟩ := (show Dt K H1 u (badD t) from du).head
      exact ⟨_, rfl, q, _, _, _, rfl, rfl, hq, at0, rfl, _, rfl, iteTb (by decide +kernel) ⟨_, rfl, k _ _ S1 du⟩⟩
    | none =>
      obtain ⟨q, x1, x2, rfl, hq, e1, e2⟩ := dt_pr (show Dt K H1 u (atD (placeI (findK kt es x))) from du)
      cases dt_str e1
      cases e2.int_inv
      refine ⟨_, rfl, q, _, _, _, rfl, rfl, hq, at0, rfl, _, rfl, iteFb (by decide +kernel) ?_⟩
      refine ⟨_, rfl, q, _, _, _, rfl, rfl, hq, at1, ?_⟩
      refine ⟨_, rfl, _, _, rfl, rfl, _, rfl, ?_⟩
      cases hf : findK kt es x with
      | some i =>
        obtain ⟨e, he, _⟩ := findK_lt hf
        have hi := (List.getElem?_eq_some_iff.mp he).1
        refine iteTb (decide_eq_true (by show (0 : Int) ≤ ((i : Nat) : Int); omega)) ?_
        have ek : weD kt es x y none = .tuple [.str "ok", .tuple (((es.take i ++ [(e.1, y)]) ++ es.drop (i + 1)).map entD)] := by
          show (match putE kt es x y with | none => tooD | some es' => PyData.tuple [.str "ok", .tuple (es'.map entD)]) = _
          rw [putE_old hf he]
        rw [ek] at k
        show tRet _ _ _ _
        have hl2 : (es.map entD).length ≤ 1000 := by rw [List.length_map]; exact hl
        refine ⟨_, rfl, _, rfl, _, rfl, .tup (es.map entD), de.mono S1, Nat.le_trans hl2 (by decide), fun v4 H4 S4 d4 => ?_⟩
        rw [show (RowD.tup (es.map entD)).cut none (some (placeI (some i))) = .tup ((es.map entD).take i) from congrArg RowD.tup (cutG_to (es.map entD) (by rw [List.length_map]; omega))] at d4
        have S14 := S1.trans S4
        cases de with
        | @tup ea xs _ hes ae =>
        obtain ⟨ve', hve, dve⟩ := ae.get (i := i) (d := entD e) (by rw [List.getElem?_map, he]; rfl)
        obtain ⟨qe, z1, z2, rfl, hqe, dz1, dz2⟩ := dt_ent (dve.mono S14)
        refine ⟨_, rfl, _, rfl, ea, _, _, _, rfl, rfl, Same.tupl S14 hes, atI_nat hve, qe, _, _, _, rfl, rfl, hqe, at0, _, rfl, sz_2, fun u5 hu5 => ⟨sz_1, fun u6 hu6 => ?_⟩⟩
        have S5 := Same.new (o := .tup [z1, vy]) hu5
        have S6 := Same.new (o := .tup [V.ref u5]) hu6
        have d5 := Dt.made (K := K) hu5 (.cons dz1 (.cons (dy.mono S14) .nil))
        have d6 := Dt.made (K := K) hu6 (.cons d5 .nil)
        refine ⟨(es.map entD).take i, [entD (e.1, y)], d4.mono (S5.trans S6), d6, by rw [List.length_take]; simp; omega, fun v7 H7 S7 d7 => ?_⟩
        have S17 := S14.trans ((S5.trans S6).trans S7)
        refine ⟨_, rfl, _, rfl, _, _, rfl, rfl, _, rfl, .tup (es.map entD), .tup (Same.tupl S17 hes) (DtAll.mono S17 ae), Nat.le_trans hl2 (by decide), fun v8 H8 S8 d8 => ?_⟩
        rw [show (RowD.tup (es.map entD)).cut (some (placeI (some i) + 1)) none = .tup ((es.map entD).drop (i + 1)) from congrArg RowD.tup (cutG_from (j := i + 1) (es.map entD) (by rw [List.length_map]; omega))] at d8
        refine ⟨_, _, d7.mono S8, d8, by rw [List.length_append, List.length_take, List.length_drop]; simp; omega, fun v9 H9 S9 d9 => ⟨sz_2, fun u10 hu10 => ?_⟩⟩
        refine k _ _ (((S17.trans S8).trans S9).trans (Same.new hu10)) (Dt.made hu10 (.cons (.str _) (.cons ?_ .nil)))
        rw [List.map_append, List.map_append, List.map_take, List.map_drop]
        exact d9
      | none =>
        refine iteFb (by rfl) ?_
        cases de with
        | @tup ea xs _ hes ae =>
        have lxs := ae.length
        rw [List.length_map] at lxs
        refine ⟨_, rfl, _, _, rfl, .inr ⟨_, Same.tupl S1 hes, rfl⟩, _, _, rfl, rfl, _, rfl, ?_⟩
        rw [lxs]
        by_cases c : 1000 ≤ es.length
        · refine iteTb (decide_eq_true (by omega)) ?_
          have ek : weD kt es x y none = tooD := by
            show (match putE kt es x y with | none => tooD | some es' => PyData.tuple [.str "ok", .tuple (es'.map entD)]) = _
            rw [putE_big hf c]
          rw [ek] at k
          exact fun a ha => k _ _ S1 (.tup (KTup.sq ha _) (.cons (.str _) (.cons (.int _) (.cons (.str _) .nil))))
        · refine iteFb (decide_eq_false (by omega)) ?_
          have ek : weD kt es x y none = .tuple [.str "ok", .tuple ((es ++ [(x, y)]).map entD)] := by
            show (match putE kt es x y with | none => tooD | some es' => PyData.tuple [.str "ok", .tuple (es'.map entD)]) = _
            rw [putE_new hf c]
          rw [ek] at k
          refine ⟨_, rfl, _, rfl, _, rfl, sz_2, fun u5 hu5 => ⟨sz_1, fun u6 hu6 => ?_⟩⟩
          have S5 := Same.new (o := .tup [vk, vy]) hu5
          have S6 := Same.new (o := .tup [V.ref u5]) hu6
          have d5 := Dt.made (K := K) hu5 (.cons (dk.mono S1) (.cons (dy.mono S1) .nil))
          have d6 := Dt.made (K := K) hu6 (.cons d5 .nil)
          have S16 := S1.trans (S5.trans S6)
          refine ⟨es.map entD, [entD (x, y)], .tup (Same.tupl S16 hes) (DtAll.mono S16 ae), d6, by rw [List.length_map]; simp; omega, fun v7 H7 S7 d7 => ⟨sz_2, fun u8 hu8 => ?_⟩⟩
          refine k _ _ ((S16.trans S7).trans (Same.new hu8)) (Dt.made hu8 (.cons (.str _) (.cons ?_ .nil)))
          rw [List.map_append]
          exact d7
theorem ixN_natD {n k : Nat} (h : k < n) : ixN n ((k : Nat) : Int) = some k := by
  unfold ixN
  rw [if_pos (by omega), if_pos (by omega)]
  rfl
theorem dtAll_setD {H : Hp} : ∀ {vs : List V} {ds : List PyData} {j : Nat} {v : V} {d : PyData}, DtAll K H vs ds → Dt K H v d → DtAll K H (vs.set j v) (ds.set j d)
  | _, _, _, _, _, .nil, _ => .nil
  | _, _, 0, _, _, .cons _ t, h => .cons h t
  | _, _, j + 1, _, _, .cons h0 t, h => .cons h0 (dtAll_setD (j := j) t h)
/-- the dict at j of the heap -/
structure DAt (K : PySem.W.Frag) (H : Hp) (hp : Addr) (rows : List Row) (j : Nat) (es : List (Vl × Vl)) (va : V) : Prop where
  L : ListAt K H hp (rows.map rowD)
  r : rows[j]? = some (.dct es)
  a : Dt K H va (vlD (.ref j))
  l : es.length ≤ 1000
theorem DAt.rd {H : Hp} {hp : Addr} {rows : List Row} {j : Nat} {es : List (Vl × Vl)} {va : V} (h : DAt K H hp rows j es va) : ∃ q zs y q2 x2, va = .ref q ∧ SqT K H q [.str "ref", .int ((j : Nat) : Int)] ∧ H hp = some (.lst zs) ∧ DtAll K H zs (rows.map rowD) ∧ atI zs ((j : Nat) : Int) = some y ∧ y = .ref q2 ∧ SqT K H q2 [.str "dict", x2] ∧ Dt K H x2 (.tuple (es.map entD)) := by
  obtain ⟨q, ws, rfl, hq, da⟩ := dvl h.a
  obtain ⟨v1, w1, rfl, dv1, dw⟩ := da.cons_inv
  have := dw.nil_inv
  subst this
  cases dv1.int_inv
  obtain ⟨zs, ez, az⟩ := h.L
  obtain ⟨y, hy, dy⟩ := az.get (i := j) (d := rowD (.dct es)) (by rw [List.getElem?_map, h.r]; rfl)
  obtain ⟨q2, x1, x2, rfl, hq2, d1, d2⟩ := dt_pr dy
  cases dt_str d1
  exact ⟨q, zs, _, q2, x2, rfl, hq, ez, az, atI_nat hy, rfl, hq2, d2⟩
theorem DAt.kind {H : Hp} {hp : Addr} {rows : List Row} {j : Nat} {es : List (Vl × Vl)} {va : V} (h : DAt K H hp rows j es va) : KindIs (rows.map rowD) (vlD (.ref j)) "dict" := .obj (rest := [.tuple (es.map entD)]) (by rw [List.getElem?_map, h.r]; rfl)
theorem DAt.mono {H H' : Hp} {hp : Addr} {rows : List Row} {j : Nat} {es : List (Vl × Vl)} {va : V} (h : DAt K H hp rows j es va) (S : Same H H') : DAt K H' hp rows j es va := ⟨listAt_mono h.L S, h.r, h.a.mono S, h.l⟩
/-- another row for the dict -/
theorem set_row {H : Hp} {hp : Addr} {rows : List Row} {j : Nat} {es es' : List (Vl × Vl)} {va v : V} (h : DAt K H hp rows j es va) (dv : Dt K H v (rowD (.dct es'))) : ∃ zs, H hp = some (.lst zs) ∧ ixN zs.length ((j : Nat) : Int) = some j ∧ Keep hp H (upd H hp (.lst (zs.set j v))) ∧ ListAt K (upd H hp (.lst (zs.set j v))) hp ((rows.set j (.dct es')).map rowD) := by
  obtain ⟨zs, ez, az⟩ := h.L
  have lz := az.length
  rw [List.length_map] at lz
  refine ⟨zs, ez, ixN_natD (by rw [lz]; exact (List.getElem?_eq_some_iff.mp h.r).1), fun b o hb ne => by rw [upd_ne ne]; exact hb, ⟨_, upd_same, ?_⟩⟩
  rw [List.map_set]
  exact dtAll_setD (az.keepT (KeepT.upd ez)) (dv.keepT (KeepT.upd ez))
def putD (kt : Vl → Str) (es : List (Vl × Vl)) (x y : Vl) : Option Str → PyData
  | some t => badD t
  | none => match putE kt es x y with
    | none => tooD
    | some _ => doneD
def putRows (rows : List Row) (j : Nat) (kt : Vl → Str) (es : List (Vl × Vl)) (x y : Vl) : Option Str → List Row
  | some _ => rows
  | none => match putE kt es x y with
    | none => rows
    | some es' => rows.set j (.dct es')
def spPutEntry (K : PySem.W.Frag) : Sp := fun vs H Q _ => ∃ (kt : Vl → Str) (hp : Addr) (rows : List Row) (j : Nat) (va vk vy : V) (es : List (Vl × Vl)) (x y : Vl) (b : Option Str), vs = [.ref hp, va, vk, vy] ∧ DAt K H hp rows j es va ∧ Dt K H vk (vlD x) ∧ Dt K H vy (vlD y) ∧ KIn rows kt x b ∧ (∀ e ∈ es, KOk rows kt e.1) ∧
  ∀ u H', Keep hp H H' → Dt K H' u (putD kt es x y b) → ListAt K H' hp ((putRows rows j kt es x y b).map rowD) → Q u H'
theorem ok_putentry {f : Addr} {fd : FuncData} (F : Fun K "_put_entry" "_put_entry" s_put_entry f fd) (T : Txt K mg) (U_with_entry : Use P w K mg base CX0 "with_entry" 6 P_with_entry (spWithEntry K)) : FnG P w K mg base CX0 7 f fd P_put_entry (spPutEntry K) := by
  refine okG0 F sc_put_entry (fun vs H Q E h => ?_) fun cdv A outer s H vs Q E hr hg h => ?_
  · obtain ⟨kt, hp, rows, j, va, vk, vy, es, x, y, b, rfl, _⟩ := h
    rfl
  · obtain ⟨kt, hp, rows, j, va, vk, vy, es, x, y, b, rfl, D, dk, dy, kx, ke, k⟩ := h
    refine ⟨_, (pss_cons (ps_set (i := 4) sc_put_entry.nd rfl (Or.inl rfl) (pe_use U_with_entry (hr.mono (by decide)) hg rfl (pa_cons (pv 0) (pa_cons (pe_ix ix_tup (pe_ix ix_list (pv 0) (pe_ix ix_tup (pv 1) pe_int (fun _ _ => rfl)) (fun _ _ => rfl)) pe_int (fun _ _ => rfl)) (pa_cons (pv 2) (pa_cons (pv 3) pa_nil))))))
  (pss_cons (ps_if (pt_cmpR op_eq (pe_ix ix_tup (pv 4) pe_int (fun _ _ => rfl)) pe_str (nomark _))
   (pss_one (ps_ret (pv 4)))
   pss_nil)
  (pss_cons (ps_asg (pe_tup (pa_cons pe_str (pa_cons (pe_ix ix_tup (pv 4) pe_int (fun _ _ => rfl)) pa_nil))) (pg_sub (pv 0) (pe_ix ix_tup (pv 1) pe_int (fun _ _ => rfl)) set_list))
  (pss_one (ps_ret (pe_globD T.c_DONE (by rfl))))))), ?_⟩
    obtain ⟨q, zs, y0, q2, x2, rfl, hq, ez, az, hy, rfl, hq2, d2⟩ := D.rd
    refine ⟨_, rfl, _, rfl, _, rfl, q, _, _, _, rfl, rfl, hq, at1, hp, _, _, _, rfl, rfl, SqL.of ez, hy, q2, _, _, _, rfl, rfl, hq2, at1, _, rfl, _, rfl, kt, hp, rows, x2, vk, vy, es, x, y, b, rfl, D.L, d2, dk, dy, kx, ke, D.l, fun u H1 S1 du => ?_⟩
    have back : ∀ {e : PyData}, weD kt es x y b = e → putD kt es x y b = e → putRows rows j kt es x y b = rows → ∀ {m : Int} {z : Str}, e = .tuple [.str "raise", .int m, .str z] → ∃ q ws, u = .ref q ∧ SqT K H1 q (.str "raise" :: ws) ∧ Q u H1 := fun {e} h1 h2 h3 {m z} h4 => by
      rw [h1, h4] at du
      obtain ⟨q, ws, rfl, hq, _⟩ := du.head
      exact ⟨q, ws, rfl, hq, k _ _ (Same.keep S1) (by rw [h2, h4]; exact du) (by rw [h3]; exact listAt_mono D.L S1)⟩
    have fin : ∀ {e : PyData} {m : Int} {z : Str}, weD kt es x y b = e → putD kt es x y b = e → putRows rows j kt es x y b = rows → e = .tuple [.str "raise", .int m, .str z] → _ := fun {e m z} h1 h2 h3 h4 => back (e := e) h1 h2 h3 (m := m) (z := z) h4
    cases b with
    | some t =>
      obtain ⟨q3, ws, rfl, hq3, hQ⟩ := fin (e := badD t) (m := 10) (z := "not a key: " ++ t) rfl rfl rfl rfl
      exact ⟨_, rfl, q3, _, _, _, rfl, rfl, hq3, at0, rfl, _, rfl, iteTb (by decide +kernel) ⟨_, rfl, hQ⟩⟩
    | none =>
      cases hp' : putE kt es x y with
      | none =>
        obtain ⟨q3, ws, rfl, hq3, hQ⟩ := fin (e := tooD) (m := 15) (z := "too large") (by show (match putE kt es x y with | none => tooD | some es' => PyData.tuple [.str "ok", .tuple (es'.map entD)]) = _; rw [hp']) (by show (match putE kt es x y with | none => tooD | some _ => doneD) = _; rw [hp']) (by show (match putE kt es x y with | none => rows | some es' => rows.set j (.dct es')) = _; rw [hp']) rfl
        exact ⟨_, rfl, q3, _, _, _, rfl, rfl, hq3, at0, rfl, _, rfl, iteTb (by decide +kernel) ⟨_, rfl, hQ⟩⟩
      | some es' =>
        have e1 : weD kt es x y none = .tuple [.str "ok", .tuple (es'.map entD)] := by show (match putE kt es x y with | none => tooD | some es' => PyData.tuple [.str "ok", .tuple (es'.map entD)]) = _; rw [hp']
        have e2 : putD kt es x y none = doneD := by show (match putE kt es x y with | none => tooD | some _ => doneD) = _; rw [hp']
        have e3 : putRows rows j kt es x y none = rows.set j (.dct es') := by show (match putE kt es x y with | none => rows | some es' => rows.set j (.dct es')) = _; rw [hp']
        rw [e1] at du
        rw [e2, e3] at k
        obtain ⟨q3, x3, x4, rfl, hq3, d3, d4⟩ := dt_pr du
        cases dt_str d3
        refine ⟨_, rfl, q3, _, _, _, rfl, rfl, hq3, at0, rfl, _, rfl, iteFb (by decide +kernel) ?_⟩
        refine ⟨_, rfl, q3, _, _, _, rfl, rfl, hq3, at1, sz_2, fun u5 hu5 => ?_⟩
        have S5 := Same.new (o := .tup [V.str "dict", x4]) hu5
        have S15 := S1.trans S5
        have du5 : Dt K _ (.ref u5) (rowD (.dct es')) := Dt.made hu5 (.cons (.str _) (.cons d4 .nil))
        obtain ⟨zs', ez', hix, K6, L6⟩ := set_row (D.mono S15) du5
        refine ⟨_, rfl, _, rfl, q, _, _, _, rfl, rfl, Same.tupl S15 hq, at1, hp, _, _, j, rfl, rfl, ez', hix, ?_⟩
        exact fun v hv => k _ _ ((Same.keep S15).trans K6) (hv _) L6
def spPutItem (K : PySem.W.Frag) : Sp := spPutEntry K
theorem ok_putitem {f : Addr} {fd : FuncData} (F : Fun K "put_item" "put_item" s_put_item f fd) (T : Txt K mg) (U_object_kind : Use P w K mg base CX0 "object_kind" 1 P_object_kind (spKind K)) (U_put_entry : Use P w K mg base CX0 "_put_entry" 7 P_put_entry (spPutEntry K)) : FnG P w K mg base CX0 8 f fd P_put_item (spPutItem K) := by
  refine okG0 F sc_put_item (fun vs H Q E h => ?_) fun cdv A outer s H vs Q E hr hg h => ?_
  · obtain ⟨kt, hp, rows, j, va, vk, vy, es, x, y, b, rfl, _⟩ := h
    rfl
  · obtain ⟨kt, hp, rows, j, va, vk, vy, es, x, y, b, rfl, D, dk, dy, kx, ke, k⟩ := h
    refine ⟨_, (pss_cons (ps_set (i := 4) sc_put_item.nd rfl (Or.inl rfl) (pe_use U_object_kind (hr.mono (by decide)) hg rfl (pa_cons (pv 0) (pa_cons (pv 1) pa_nil))))
  (pss_cons (ps_if (pt_cmpR op_eq (pv 4) pe_str (nomark _))
   pss_never
   pss_nil)
  (pss_cons (ps_if (pt_cmpR op_eq (pv 4) pe_str (nomark _))
   (pss_one (ps_ret (pe_use U_put_entry (hr.mono (by decide)) hg rfl (pa_cons (pv 0) (pa_cons (pv 1) (pa_cons (pv 2) (pa_cons (pv 3) pa_nil)))))))
   pss_nil)
  pss_never))), ?_⟩
    refine ⟨_, rfl, _, rfl, hp, _, _, _, _, rfl, D.L, D.a, D.kind, ?_⟩
    refine ⟨_, rfl, rfl, _, rfl, iteFb (by decide +kernel) ?_⟩
    refine ⟨_, rfl, rfl, _, rfl, iteTb (by decide +kernel) ?_⟩
    exact ⟨_, rfl, _, rfl, _, rfl, _, rfl, kt, hp, rows, j, va, vk, vy, es, x, y, b, rfl, D, dk, dy, kx, ke, k⟩
def dropD (kt : Vl → Str) (es : List (Vl × Vl)) (x : Vl) (z : Str) : Option Str → PyData
  | some t => badD t
  | none => match findK kt es x with
    | some _ => doneD
    | none => missD z
def dropRows (rows : List Row) (j : Nat) (kt : Vl → Str) (es : List (Vl × Vl)) (x : Vl) : Option Str → List Row
  | some _ => rows
  | none => match findK kt es x with
    | some i => rows.set j (.dct (es.take i ++ es.drop (i + 1)))
    | none => rows
def spDropItem (K : PySem.W.Frag) : Sp := fun vs H Q _ => ∃ (kt : Vl → Str) (hp : Addr) (rows : List Row) (j : Nat) (va vk : V) (es : List (Vl × Vl)) (x : Vl) (b : Option Str) (n : Nat) (z : Str), vs = [.ref hp, va, vk] ∧ DAt K H hp rows j es va ∧ Dt K H vk (vlD x) ∧ KIn rows kt x b ∧ (∀ e ∈ es, KOk rows kt e.1) ∧ (b = none → Shows (rows.map rowD) n "" [] [.shw (vlD x)] (some z)) ∧
  ∀ u H', Keep hp H H' → Dt K H' u (dropD kt es x z b) → ListAt K H' hp ((dropRows rows j kt es x b).map rowD) → Q u H'
theorem epD_some {kt : Vl → Str} {es : List (Vl × Vl)} {x : Vl} {z : Str} {i : Nat} (h : findK kt es x = some i) : epD kt es x z none = atD ((i : Nat) : Int) := by
  show (match findK kt es x with | some i => atD ((i : Nat) : Int) | none => missD z) = _
  rw [h]
theorem epD_none {kt : Vl → Str} {es : List (Vl × Vl)} {x : Vl} {z : Str} (h : findK kt es x = none) : epD kt es x z none = missD z := by
  show (match findK kt es x with | some i => atD ((i : Nat) : Int) | none => missD z) = _
  rw [h]
def getD' (kt : Vl → Str) (es : List (Vl × Vl)) (x : Vl) (z : Str) : Option Str → PyData
  | some t => badD t
  | none => match findK kt es x with
    | some i => .tuple [.str "ok", vlD (es.getD i (x, x)).2]
    | none => missD z
def spItem (K : PySem.W.Frag) : Sp := fun vs H Q _ => ∃ (kt : Vl → Str) (hp : Addr) (rows : List Row) (j : Nat) (va vk : V) (es : List (Vl × Vl)) (x : Vl) (b : Option Str) (n : Nat) (z : Str), vs = [.ref hp, va, vk] ∧ DAt K H hp rows j es va ∧ Dt K H vk (vlD x) ∧ KIn rows kt x b ∧ (∀ e ∈ es, KOk rows kt e.1) ∧ (b = none → Shows (rows.map rowD) n "" [] [.shw (vlD x)] (some z)) ∧
  ∀ u H', Same H H' → Dt K H' u (getD' kt es x z b) → Q u H'
theorem ok_itemD {f : Addr} {fd : FuncData} (F : Fun K "item" "item" s_item f fd) (T : Txt K mg) (U_object_kind : Use P w K mg base CX0 "object_kind" 1 P_object_kind (spKind K)) (U_entry_place : Use P w K mg base CX0 "entry_place" 7 P_entry_place (spEntryPlace K)) : FnG P w K mg base CX0 8 f fd P_item (spItem K) := by
  refine okG0 F sc_item (fun vs H Q E h => ?_) fun cdv A outer s H vs Q E hr hg h => ?_
  · obtain ⟨kt, hp, rows, j, va, vk, es, x, b, n, z, rfl, _⟩ := h
    rfl
  · obtain ⟨kt, hp, rows, j, va, vk, es, x, b, n, z, rfl, D, dk, kx, ke, hsh, k⟩ := h
    refine ⟨_, (pss_cons (ps_if (pt_cmpR op_eq (pe_use U_object_kind (hr.mono (by decide)) hg rfl (pa_cons (pv 0) (pa_cons (pv 1) pa_nil))) pe_str (nomark _))
   (pss_cons (ps_set (i := 3) sc_item.nd rfl (Or.inl rfl) (pe_ix ix_tup (pe_ix ix_list (pv 0) (pe_ix ix_tup (pv 1) pe_int (fun _ _ => rfl)) (fun _ _ => rfl)) pe_int (fun _ _ => rfl)))
  (pss_cons (ps_set (i := 4) sc_item.nd rfl (Or.inl rfl) (pe_use U_entry_place (hr.mono (by decide)) hg rfl (pa_cons (pv 0) (pa_cons (pv 3) (pa_cons (pv 2) pa_nil)))))
  (pss_cons (ps_if (pt_cmpR op_eq (pe_ix ix_tup (pv 4) pe_int (fun _ _ => rfl)) pe_str (nomark _))
   (pss_one (ps_ret (pv 4)))
   pss_nil)
  (pss_one (ps_ret (pe_tup (pa_cons pe_str (pa_cons (pe_ix ix_tup (pe_ix ix_tup (pv 3) (pe_ix ix_tup (pv 4) pe_int (fun _ _ => rfl)) (fun _ _ => rfl)) pe_int (fun _ _ => rfl)) pa_nil))))))))
   pss_nil)
  pss_never), ?_⟩
    obtain ⟨q, zs, y0, q2, x2, rfl, hq, ez, az, hy, rfl, hq2, d2⟩ := D.rd
    refine ⟨_, rfl, _, rfl, hp, _, _, _, _, rfl, D.L, D.a, D.kind, rfl, _, rfl, iteTb (by decide +kernel) ?_⟩
    refine ⟨_, rfl, _, rfl, q, _, _, _, rfl, rfl, hq, at1, hp, _, _, _, rfl, rfl, SqL.of ez, hy, q2, _, _, _, rfl, rfl, hq2, at1, ?_⟩
    refine ⟨_, rfl, _, rfl, _, rfl, kt, hp, rows, x2, vk, es, x, b, n, z, rfl, D.L, d2, dk, kx, ke, D.l, hsh, fun u H1 S1 du => ?_⟩
    have raised : ∀ {e : PyData}, epD kt es x z b = e → getD' kt es x z b = e → ∀ {m : Int} {z : Str}, e = .tuple [.str "raise", .int m, .str z] → ∃ q ws, u = .ref q ∧ SqT K H1 q (.str "raise" :: ws) ∧ Q u H1 := fun {e} h1 h2 {m z'} h4 => by
      rw [h1, h4] at du
      obtain ⟨q, ws, rfl, hq, _⟩ := du.head
      exact ⟨q, ws, rfl, hq, k _ _ S1 (by rw [h2, h4]; exact du)⟩
    cases b with
    | some t =>
      obtain ⟨q3, ws, rfl, hq3, hQ⟩ := raised (e := badD t) rfl rfl (m := 10) (z := "not a key: " ++ t) rfl
      exact ⟨_, rfl, q3, _, _, _, rfl, rfl, hq3, at0, rfl, _, rfl, iteTb (by decide +kernel) ⟨_, rfl, hQ⟩⟩
    | none =>
      cases hf : findK kt es x with
      | none =>
        obtain ⟨q3, ws, rfl, hq3, hQ⟩ := raised (e := missD z) (epD_none hf) (by show (match findK kt es x with | some i => PyData.tuple [.str "ok", vlD (es.getD i (x, x)).2] | none => missD z) = _; rw [hf]) (m := 7) (z := z) rfl
        exact ⟨_, rfl, q3, _, _, _, rfl, rfl, hq3, at0, rfl, _, rfl, iteTb (by decide +kernel) ⟨_, rfl, hQ⟩⟩
      | some i =>
        obtain ⟨e, he, _⟩ := findK_lt hf
        have e2 : getD' kt es x z none = .tuple [.str "ok", vlD e.2] := by
          show (match findK kt es x with | some i => PyData.tuple [.str "ok", vlD (es.getD i (x, x)).2] | none => missD z) = _
          rw [hf]
          show PyData.tuple [.str "ok", vlD (es.getD i (x, x)).2] = _
          rw [List.getD_eq_getElem?_getD, he]
          rfl
        rw [epD_some hf] at du
        rw [e2] at k
        obtain ⟨q3, x3, x4, rfl, hq3, d3, d4⟩ := dt_pr du
        cases dt_str d3
        cases d4.int_inv
        have d2 := d2.mono S1
        cases d2 with
        | @tup ea xs _ hes ae =>
        obtain ⟨ve', hve, dve⟩ := ae.get (i := i) (d := entD e) (by rw [List.getElem?_map, he]; rfl)
        obtain ⟨qe, z1, z2, rfl, hqe, dz1, dz2⟩ := dt_ent dve
        refine ⟨_, rfl, q3, _, _, _, rfl, rfl, hq3, at0, rfl, _, rfl, iteFb (by decide +kernel) ?_⟩
        refine ⟨_, rfl, _, rfl, q3, _, _, _, rfl, rfl, hq3, at1, ea, _, _, _, rfl, rfl, hes, atI_nat hve, qe, _, _, _, rfl, rfl, hqe, at1, sz_2, fun u5 hu5 => ?_⟩
        exact k _ _ (S1.trans (Same.new hu5)) (Dt.made hu5 (.cons (.str _) (.cons dz2 .nil)))
end

section
--SPLIT
end
abbrev s_get : Stmt := top 49
abbrev N_get : List Str := ["heap", "a", "args", "entries", "outcome"]
abbrev P_get : List Str := ["heap", "a", "args"]
theorem sc_get : FnScope N_get P_get (defScope s_get) := ⟨rfl, rfl, rfl, by decide +kernel, rfl, by decide +kernel, by decide +kernel⟩
abbrev s_pop_entries : Stmt := top 50
abbrev N_pop_entries : List Str := ["heap", "a", "args", "entries", "outcome", "at"]
abbrev P_pop_entries : List Str := ["heap", "a", "args"]
theorem sc_pop_entries : FnScope N_pop_entries P_pop_entries (defScope s_pop_entries) := ⟨rfl, rfl, rfl, by decide +kernel, rfl, by decide +kernel, by decide +kernel⟩
section
/-! the methods of dicts -/
variable {P : Program} {w : World} {K : PySem.W.Frag} {mg : Str → Option Value} {base : Heap}
def gotD (kt : Vl → Str) (es : List (Vl × Vl)) (x : Vl) (o : Option Vl) : Option Str → PyData
  | some t => badD t
  | none => match findK kt es x with
    | some i => .tuple [.str "ok", vlD (es.getD i (x, x)).2]
    | none => match o with
      | some y => .tuple [.str "ok", vlD y]
      | none => doneD
theorem gotD_some {kt : Vl → Str} {es : List (Vl × Vl)} {x : Vl} {o : Option Vl} {i : Nat} {e : Vl × Vl} (h : findK kt es x = some i) (he : es[i]? = some e) : gotD kt es x o none = .tuple [.str "ok", vlD e.2] := by
  unfold gotD
  simp only [h]
  rw [List.getD_eq_getElem?_getD, he]
  rfl
def oD : Option Vl → PyData
  | some y => .tuple [.str "ok", vlD y]
  | none => doneD
theorem gotD_none {kt : Vl → Str} {es : List (Vl × Vl)} {x : Vl} {o : Option Vl} (h : findK kt es x = none) : gotD kt es x o none = oD o := by
  unfold gotD
  simp only [h]
  rfl
def spGetM (K : PySem.W.Frag) : Sp := fun vs H Q _ => ∃ (kt : Vl → Str) (hp : Addr) (rows : List Row) (j : Nat) (va vt : V) (es : List (Vl × Vl)) (x : Vl) (b : Option Str) (o : Option Vl), vs = [.ref hp, va, vt] ∧ DAt K H hp rows j es va ∧ Dt K H vt (.tuple ((x :: o.toList).map vlD)) ∧ KIn rows kt x b ∧ (∀ e ∈ es, KOk rows kt e.1) ∧ ∀ u H', Same H H' → Dt K H' u (gotD kt es x o b) → Q u H'
theorem ok_getM {f : Addr} {fd : FuncData} (F : Fun K "_get" "_get" s_get f fd) (T : Txt K mg) (U_key_place : Use P w K mg base CX0 "key_place" 5 P_key_place (spKeyPlace K)) : FnG P w K mg base CX0 6 f fd P_get (spGetM K) := by
  refine okG0 F sc_get (fun vs H Q E h => ?_) fun cdv A outer s H vs Q E hr hg h => ?_
  · obtain ⟨kt, hp, rows, j, va, vt, es, x, b, o, rfl, _⟩ := h
    rfl
  · obtain ⟨kt, hp, rows, j, va, vt, es, x, b, o, rfl, D, da, kx, ke, k⟩ := h
    refine ⟨_, (pss_cons (ps_set (i := 3) sc_get.nd rfl (Or.inl rfl) (pe_ix ix_tup (pe_ix ix_list (pv 0) (pe_ix ix_tup (pv 1) pe_int (fun _ _ => rfl)) (fun _ _ => rfl)) pe_int (fun _ _ => rfl)))
  (pss_cons (ps_set (i := 4) sc_get.nd rfl (Or.inl rfl) (pe_use U_key_place (hr.mono (by decide)) hg rfl (pa_cons (pv 0) (pa_cons (pv 3) (pa_cons (pe_ix ix_tup (pv 2) pe_int (fun _ _ => rfl)) pa_nil)))))
  (pss_cons (ps_if (pt_cmpR op_eq (pe_ix ix_tup (pv 4) pe_int (fun _ _ => rfl)) pe_str (nomark _))
   (pss_one (ps_ret (pv 4)))
   pss_nil)
  (pss_cons (ps_if (pt_cmpR op_ge (pe_ix ix_tup (pv 4) pe_int (fun _ _ => rfl)) pe_int (nomark _))
   (pss_one (ps_ret (pe_tup (pa_cons pe_str (pa_cons (pe_ix ix_tup (pe_ix ix_tup (pv 3) (pe_ix ix_tup (pv 4) pe_int (fun _ _ => rfl)) (fun _ _ => rfl)) pe_int (fun _ _ => rfl)) pa_nil)))))
   pss_nil)
  (pss_cons (ps_if (pt_cmpR op_eq (pe_callB call_len (by rfl) T.b_len PySem.boot_len (pa_cons (pv 2) pa_nil)) pe_int (nomark _))
   (pss_one (ps_ret (pe_tup (pa_cons pe_str (pa_cons (pe_ix ix_tup (pv 2) pe_int (fun _ _ => rfl)) pa_nil)))))
   pss_nil)
  (pss_one (ps_ret (pe_globD T.c_DONE (by rfl))))))))), ?_⟩
    obtain ⟨q, zs, y0, q2, x2, rfl, hq, ez, az, hy, rfl, hq2, d2⟩ := D.rd
    have da0 := da
    obtain ⟨qa, ws, rfl, hqa, dw⟩ := da.tuple_inv
    obtain ⟨vk, ws', rfl, dk, dr⟩ := (show DtAll K H ws (vlD x :: o.toList.map vlD) from dw).cons_inv
    refine ⟨_, rfl, _, rfl, q, _, _, _, rfl, rfl, hq, at1, hp, _, _, _, rfl, rfl, SqL.of ez, hy, q2, _, _, _, rfl, rfl, hq2, at1, ?_⟩
    refine ⟨_, rfl, _, rfl, _, rfl, qa, _, _, _, rfl, rfl, hqa, at0, kt, hp, rows, x2, vk, es, x, b, rfl, D.L, d2, dk, kx, ke, D.l, fun u H1 S1 du => ?_⟩
    cases b with
    | some t =>
      obtain ⟨q3, ws, rfl, hq3, _⟩ := (show Dt K H1 u (badD t) from du).head
      exact ⟨_, rfl, q3, _, _, _, rfl, rfl, hq3, at0, rfl, _, rfl, iteTb (by decide +kernel) ⟨_, rfl, k _ _ S1 du⟩⟩
    | none =>
      obtain ⟨q3, x3, x4, rfl, hq3, d3, d4⟩ := dt_pr (show Dt K H1 u (atD (placeI (findK kt es x))) from du)
      cases dt_str d3
      cases d4.int_inv
      refine ⟨_, rfl, q3, _, _, _, rfl, rfl, hq3, at0, rfl, _, rfl, iteFb (by decide +kernel) ?_⟩
      refine ⟨_, rfl, q3, _, _, _, rfl, rfl, hq3, at1, _, _, rfl, rfl, _, rfl, ?_⟩
      cases hf : findK kt es x with
      | some i =>
        obtain ⟨e, he, _⟩ := findK_lt hf
        refine iteTb (decide_eq_true (by show (0 : Int) ≤ ((i : Nat) : Int); omega)) ?_
        have e2 := gotD_some (o := o) hf he
        rw [e2] at k
        have d2 := d2.mono S1
        cases d2 with
        | @tup ea xs _ hes ae =>
        obtain ⟨ve', hve, dve⟩ := ae.get (i := i) (d := entD e) (by rw [List.getElem?_map, he]; rfl)
        obtain ⟨qe, z1, z2, rfl, hqe, dz1, dz2⟩ := dt_ent dve
        refine ⟨_, rfl, _, rfl, q3, _, _, _, rfl, rfl, hq3, at1, ea, _, _, _, rfl, rfl, hes, (by rw [hf]; exact atI_nat hve), qe, _, _, _, rfl, rfl, hqe, at1, sz_2, fun u5 hu5 => ?_⟩
        exact k _ _ (S1.trans (Same.new hu5)) (Dt.made hu5 (.cons (.str _) (.cons dz2 .nil)))
      | none =>
        refine iteFb (by rfl) ?_
        have e2 := gotD_none (o := o) hf
        rw [e2] at k
        refine ⟨_, rfl, _, _, rfl, .inr ⟨_, Same.tupl S1 hqa, rfl⟩, rfl, _, rfl, ?_⟩
        cases o with
        | none =>
          cases dr.nil_inv
          refine iteFb (by rfl) ?_
          exact fun v hv => k _ _ S1 (hv _)
        | some y =>
          obtain ⟨vy, wn, rfl, dy, dn⟩ := dr.cons_inv
          cases dn.nil_inv
          refine iteTb (by rfl) ?_
          refine ⟨_, rfl, qa, _, _, _, rfl, rfl, Same.tupl S1 hqa, at1, sz_2, fun u5 hu5 => ?_⟩
          exact k _ _ (S1.trans (Same.new hu5)) (Dt.made hu5 (.cons (.str _) (.cons (dy.mono S1) .nil)))
def popD (kt : Vl → Str) (es : List (Vl × Vl)) (x : Vl) (o : Option Vl) (z : Str) : Option Str → PyData
  | some t => badD t
  | none => match findK kt es x with
    | some i => .tuple [.str "ok", vlD (es.getD i (x, x)).2]
    | none => match o with
      | some y => .tuple [.str "ok", vlD y]
      | none => missD z
theorem popD_some {kt : Vl → Str} {es : List (Vl × Vl)} {x : Vl} {o : Option Vl} {z : Str} {i : Nat} {e : Vl × Vl} (h : findK kt es x = some i) (he : es[i]? = some e) : popD kt es x o z none = .tuple [.str "ok", vlD e.2] := by
  unfold popD
  simp only [h]
  rw [List.getD_eq_getElem?_getD, he]
  rfl
def omD (z : Str) : Option Vl → PyData
  | some y => .tuple [.str "ok", vlD y]
  | none => missD z
theorem popD_none {kt : Vl → Str} {es : List (Vl × Vl)} {x : Vl} {o : Option Vl} {z : Str} (h : findK kt es x = none) : popD kt es x o z none = omD z o := by
  unfold popD
  simp only [h]
  rfl
theorem dropRows_some {rows : List Row} {j : Nat} {kt : Vl → Str} {es : List (Vl × Vl)} {x : Vl} {i : Nat} (h : findK kt es x = some i) : dropRows rows j kt es x none = rows.set j (.dct (es.take i ++ es.drop (i + 1))) := by
  unfold dropRows
  simp only [h]
theorem dropRows_none {rows : List Row} {j : Nat} {kt : Vl → Str} {es : List (Vl × Vl)} {x : Vl} (h : findK kt es x = none) : dropRows rows j kt es x none = rows := by
  unfold dropRows
  simp only [h]
def spPopM (K : PySem.W.Frag) : Sp := fun vs H Q _ => ∃ (kt : Vl → Str) (hp : Addr) (rows : List Row) (j : Nat) (va vt : V) (es : List (Vl × Vl)) (x : Vl) (b : Option Str) (o : Option Vl) (n : Nat) (z : Str), vs = [.ref hp, va, vt] ∧ DAt K H hp rows j es va ∧ Dt K H vt (.tuple ((x :: o.toList).map vlD)) ∧ KIn rows kt x b ∧ (∀ e ∈ es, KOk rows kt e.1) ∧ (b = none → Shows (rows.map rowD) n "" [] [.shw (vlD x)] (some z)) ∧
  ∀ u H', Keep hp H H' → Dt K H' u (popD kt es x o z b) → ListAt K H' hp ((dropRows rows j kt es x b).map rowD) → Q u H'
theorem ok_popM {f : Addr} {fd : FuncData} (F : Fun K "_pop" "_pop" s_pop_entries f fd) (T : Txt K mg) (U_key_place : Use P w K mg base CX0 "key_place" 5 P_key_place (spKeyPlace K)) (U_missing_key : Use P w K mg base CX0 "missing_key" 6 P_missing_key (spMissing K)) : FnG P w K mg base CX0 7 f fd P_pop_entries (spPopM K) := by
  refine okG0 F sc_pop_entries (fun vs H Q E h => ?_) fun cdv A outer s H vs Q E hr hg h => ?_
  · obtain ⟨kt, hp, rows, j, va, vt, es, x, b, o, n, z, rfl, _⟩ := h
    rfl
  · obtain ⟨kt, hp, rows, j, va, vt, es, x, b, o, n, z, rfl, D, da, kx, ke, hsh, k⟩ := h
    refine ⟨_, (pss_cons (ps_set (i := 3) sc_pop_entries.nd rfl (Or.inl rfl) (pe_ix ix_tup (pe_ix ix_list (pv 0) (pe_ix ix_tup (pv 1) pe_int (fun _ _ => rfl)) (fun _ _ => rfl)) pe_int (fun _ _ => rfl)))
  (pss_cons (ps_set (i := 4) sc_pop_entries.nd rfl (Or.inl rfl) (pe_use U_key_place (hr.mono (by decide)) hg rfl (pa_cons (pv 0) (pa_cons (pv 3) (pa_cons (pe_ix ix_tup (pv 2) pe_int (fun _ _ => rfl)) pa_nil)))))
  (pss_cons (ps_if (pt_cmpR op_eq (pe_ix ix_tup (pv 4) pe_int (fun _ _ => rfl)) pe_str (nomark _))
   (pss_one (ps_ret (pv 4)))
   pss_nil)
  (pss_cons (ps_set (i := 5) sc_pop_entries.nd rfl (Or.inl rfl) (pe_ix ix_tup (pv 4) pe_int (fun _ _ => rfl)))
  (pss_cons (ps_if (pt_cmpR op_ge (pv 5) pe_int (nomark _))
   (pss_cons (ps_asg (pe_tup (pa_cons pe_str (pa_cons (pe_op op_catTD (pe_slice sl_row (pv 3) po_none (po_some (pv 5))) (pe_slice sl_row (pv 3) (po_some (pe_op op_add (pv 5) pe_int)) po_none)) pa_nil))) (pg_sub (pv 0) (pe_ix ix_tup (pv 1) pe_int (fun _ _ => rfl)) set_list))
  (pss_one (ps_ret (pe_tup (pa_cons pe_str (pa_cons (pe_ix ix_tup (pe_ix ix_tup (pv 3) (pv 5) (fun _ _ => rfl)) pe_int (fun _ _ => rfl)) pa_nil))))))
   pss_nil)
  (pss_cons (ps_if (pt_cmpR op_eq (pe_callB call_len (by rfl) T.b_len PySem.boot_len (pa_cons (pv 2) pa_nil)) pe_int (nomark _))
   (pss_one (ps_ret (pe_tup (pa_cons pe_str (pa_cons (pe_ix ix_tup (pv 2) pe_int (fun _ _ => rfl)) pa_nil)))))
   pss_nil)
  (pss_one (ps_ret (pe_use U_missing_key (hr.mono (by decide)) hg rfl (pa_cons (pv 0) (pa_cons (pe_ix ix_tup (pv 2) pe_int (fun _ _ => rfl)) pa_nil))))))))))), ?_⟩
    obtain ⟨q, zs, y0, q2, x2, rfl, hq, ez, az, hy, rfl, hq2, d2⟩ := D.rd
    obtain ⟨qa, ws, rfl, hqa, dw⟩ := da.tuple_inv
    obtain ⟨vk, ws', rfl, dk, dr⟩ := (show DtAll K H ws (vlD x :: o.toList.map vlD) from dw).cons_inv
    refine ⟨_, rfl, _, rfl, q, _, _, _, rfl, rfl, hq, at1, hp, _, _, _, rfl, rfl, SqL.of ez, hy, q2, _, _, _, rfl, rfl, hq2, at1, ?_⟩
    refine ⟨_, rfl, _, rfl, _, rfl, qa, _, _, _, rfl, rfl, hqa, at0, kt, hp, rows, x2, vk, es, x, b, rfl, D.L, d2, dk, kx, ke, D.l, fun u H1 S1 du => ?_⟩
    cases b with
    | some t =>
      obtain ⟨q3, ws, rfl, hq3, _⟩ := (show Dt K H1 u (badD t) from du).head
      exact ⟨_, rfl, q3, _, _, _, rfl, rfl, hq3, at0, rfl, _, rfl, iteTb (by decide +kernel) ⟨_, rfl, k _ _ (Same.keep S1) du (listAt_mono D.L S1)⟩⟩
    | none =>
      obtain ⟨q3, x3, x4, rfl, hq3, d3, d4⟩ := dt_pr (show Dt K H1 u (atD (placeI (findK kt es x))) from du)
      cases dt_str d3
      cases d4.int_inv
      refine ⟨_, rfl, q3, _, _, _, rfl, rfl, hq3, at0, rfl, _, rfl, iteFb (by decide +kernel) ?_⟩
      refine ⟨_, rfl, q3, _, _, _, rfl, rfl, hq3, at1, ?_⟩
      refine ⟨_, rfl, _, _, rfl, rfl, _, rfl, ?_⟩
      cases hf : findK kt es x with
      | some i =>
        obtain ⟨e, he, _⟩ := findK_lt hf
        have hi := (List.getElem?_eq_some_iff.mp he).1
        have hl := D.l
        have hl2 : (es.map entD).length ≤ 1000 := by rw [List.length_map]; exact D.l
        rw [popD_some (o := o) (z := z) hf he, dropRows_some hf] at k
        refine iteTb (decide_eq_true (by show (0 : Int) ≤ ((i : Nat) : Int); omega)) ?_
        refine ⟨_, rfl, _, rfl, _, rfl, .tup (es.map entD), d2.mono S1, Nat.le_trans hl2 (by decide), fun v4 H4 S4 d4 => ?_⟩
        rw [show (RowD.tup (es.map entD)).cut none (some (placeI (some i))) = .tup ((es.map entD).take i) from congrArg RowD.tup (cutG_to (es.map entD) (by rw [List.length_map]; omega))] at d4
        refine ⟨_, rfl, _, rfl, _, _, rfl, rfl, _, rfl, .tup (es.map entD), d2.mono (S1.trans S4), Nat.le_trans hl2 (by decide), fun v5 H5 S5 d5 => ?_⟩
        rw [show (RowD.tup (es.map entD)).cut (some (placeI (some i) + 1)) none = .tup ((es.map entD).drop (i + 1)) from congrArg RowD.tup (cutG_from (j := i + 1) (es.map entD) (by rw [List.length_map]; omega))] at d5
        refine ⟨_, _, d4.mono S5, d5, by rw [List.length_take, List.length_drop]; omega, fun v6 H6 S6 d6 => ⟨sz_2, fun u7 hu7 => ?_⟩⟩
        have S7 := Same.new (o := .tup [V.str "dict", v6]) hu7
        have S17 := (((S1.trans S4).trans S5).trans S6).trans S7
        have du7 : Dt K (upd H6 u7 (.tup [V.str "dict", v6])) (.ref u7) (rowD (.dct (es.take i ++ es.drop (i + 1)))) := by
          show Dt K (upd H6 u7 (.tup [V.str "dict", v6])) (.ref u7) (.tuple [.str "dict", .tuple ((es.take i ++ es.drop (i + 1)).map entD)])
          rw [List.map_append, List.map_take, List.map_drop]
          exact Dt.made hu7 (.cons (.str _) (.cons d6 .nil))
        obtain ⟨zs', ez', hix, K8, L8⟩ := set_row (D.mono S17) du7
        have d2' := (d2.mono S17).keepT (K8.keepT ⟨zs', ez'⟩)
        refine ⟨_, rfl, _, rfl, q, _, _, _, rfl, rfl, Same.tupl S17 hq, at1, hp, _, _, j, rfl, rfl, ez', hix, ?_⟩
        cases d2' with
        | @tup ea xs _ hes ae =>
        obtain ⟨ve', hve, dve⟩ := ae.get (i := i) (d := entD e) (by rw [List.getElem?_map, he]; rfl)
        obtain ⟨qe, z1, z2, rfl, hqe, dz1, dz2⟩ := dt_ent dve
        refine ⟨_, rfl, _, rfl, ea, _, _, _, rfl, rfl, hes, atI_nat hve, qe, _, _, _, rfl, rfl, hqe, at1, sz_2, fun u9 hu9 => ?_⟩
        exact k _ _ (((Same.keep S17).trans K8).trans (Same.keep (Same.new hu9))) (Dt.made hu9 (.cons (.str _) (.cons dz2 .nil))) (listAt_mono L8 (Same.new hu9))
      | none =>
        refine iteFb (by rfl) ?_
        rw [popD_none (o := o) (z := z) hf, dropRows_none hf] at k
        refine ⟨_, rfl, _, _, rfl, .inr ⟨_, Same.tupl S1 hqa, rfl⟩, rfl, _, rfl, ?_⟩
        cases o with
        | none =>
          cases dr.nil_inv
          refine iteFb (by rfl) ?_
          exact ⟨_, rfl, _, rfl, qa, _, _, _, rfl, rfl, Same.tupl S1 hqa, at0, hp, _, vk, _, n, z, rfl, listAt_mono D.L S1, dk.mono S1, hsh rfl, fun u3 H3 S3 d3 => k _ _ (Same.keep (S1.trans S3)) d3 (listAt_mono D.L (S1.trans S3))⟩
        | some y =>
          obtain ⟨vy, wn, rfl, dy, dn⟩ := dr.cons_inv
          cases dn.nil_inv
          refine iteTb (by rfl) ?_
          refine ⟨_, rfl, qa, _, _, _, rfl, rfl, Same.tupl S1 hqa, at1, sz_2, fun u5 hu5 => ?_⟩
          exact k _ _ (Same.keep (S1.trans (Same.new hu5))) (Dt.made hu5 (.cons (.str _) (.cons (dy.mono S1) .nil))) (listAt_mono D.L (S1.trans (Same.new hu5)))
end

section
--SPLIT
end
abbrev s_made_row : Stmt := top 19
abbrev N_made_row : List Str := ["heap", "kind", "row"]
abbrev P_made_row : List Str := ["heap", "kind", "row"]
theorem sc_made_row : FnScope N_made_row P_made_row (defScope s_made_row) := ⟨rfl, rfl, rfl, by decide +kernel, rfl, by decide +kernel, by decide +kernel⟩
abbrev s_copy_entries : Stmt := top 57
abbrev N_copy_entries : List Str := ["heap", "a", "args"]
abbrev P_copy_entries : List Str := ["heap", "a", "args"]
theorem sc_copy_entries : FnScope N_copy_entries P_copy_entries (defScope s_copy_entries) := ⟨rfl, rfl, rfl, by decide +kernel, rfl, by decide +kernel, by decide +kernel⟩
abbrev s_clear_entries : Stmt := top 59
abbrev N_clear_entries : List Str := ["heap", "a", "args"]
abbrev P_clear_entries : List Str := ["heap", "a", "args"]
theorem sc_clear_entries : FnScope N_clear_entries P_clear_entries (defScope s_clear_entries) := ⟨rfl, rfl, rfl, by decide +kernel, rfl, by decide +kernel, by decide +kernel⟩
section
variable {P : Program} {w : World} {K : PySem.W.Frag} {mg : Str → Option Value} {base : Heap}
def okRefD (n : Nat) : PyData := .tuple [.str "ok", .tuple [.str "ref", .int ((n : Nat) : Int)]]
def spMade (K : PySem.W.Frag) : Sp := fun vs H Q _ => ∃ (hp : Addr) (hds : List PyData) (kd : Str) (v : V) (d : PyData), vs = [.ref hp, .str kd, v] ∧ kd ≠ "text" ∧ ListAt K H hp hds ∧ hds.length ≤ 5000 ∧ Dt K H v d ∧ ∀ u H', Keep hp H H' → ListAt K H' hp (hds ++ [.tuple [.str kd, d]]) → Dt K H' u (okRefD hds.length) → Q u H'
theorem ok_made {f : Addr} {fd : FuncData} (F : Fun K "made_row" "made_row" s_made_row f fd) (T : Txt K mg) : FnG P w K mg base CX0 1 f fd P_made_row (spMade K) := by
  refine okG0 F sc_made_row (fun vs H Q E h => ?_) fun cdv A outer s H vs Q E hr hg h => ?_
  · obtain ⟨hp, hds, kd, v, d, rfl, _⟩ := h
    rfl
  · obtain ⟨hp, hds, kd, v, d, rfl, hk, L, hl, dv, k⟩ := h
    refine ⟨_, (pss_cons (ps_if (pt_cmpR op_eq (pv 1) pe_str (nomark _))
   pss_never
   pss_nil)
  (pss_cons (ps_expr (pe_bm PySem.F.plainAttrs_list PySem.F.slot_list_append PySem.F.type_list_append mt_append (pv 0) (pa_cons (pe_tup (pa_cons (pv 1) (pa_cons (pv 2) pa_nil))) pa_nil)))
  (pss_one (ps_ret (pe_tup (pa_cons pe_str (pa_cons (pe_tup (pa_cons pe_str (pa_cons (pe_op op_sub (pe_callB call_len (by rfl) T.b_len PySem.boot_len (pa_cons (pv 0) pa_nil)) pe_int) pa_nil))) pa_nil))))))), ?_⟩
    refine ⟨_, rfl, rfl, _, rfl, iteFb (dec_str hk) ?_⟩
    obtain ⟨zs, ez, az⟩ := id L
    have lz := az.length
    refine ⟨_, rfl, .inl ⟨rfl, _, SqL.of ez⟩, _, rfl, _, rfl, sz_2, fun u hu => ?_⟩
    have S1 := Same.new (o := .tup [V.str kd, v]) hu
    refine ⟨hp, _, _, rfl, rfl, S1 _ _ ez, js_lt (by omega), ?_⟩
    have L2 := listAt_app (listAt_mono L S1) (S1 _ _ ez) (Dt.made (K := K) hu (.cons (.str kd) (.cons dv .nil)))
    have K2 : Keep hp H (upd (upd H u (.tup [V.str kd, v])) hp (.lst (zs ++ [V.ref u]))) := fun b o e ne => by rw [upd_ne ne]; exact S1 _ _ e
    have e2 : upd (upd H u (.tup [V.str kd, v])) hp (.lst (zs ++ [V.ref u])) hp = some (.lst (zs ++ [V.ref u])) := upd_same
    generalize upd (upd H u (.tup [V.str kd, v])) hp (.lst (zs ++ [V.ref u])) = H2 at L2 K2 e2
    refine ⟨_, rfl, _, _, rfl, .inl ⟨_, SqL.of e2, rfl⟩, _, _, rfl, rfl, sz_2, fun ua hua => ⟨sz_2, fun ub hub => ?_⟩⟩
    have ei : (((zs ++ [V.ref u]).length : Nat) : Int) - 1 = ((hds.length : Nat) : Int) := by rw [List.length_append, lz]; simp
    have S3 := (Same.new (o := .tup [V.str "ref", V.int ((((zs ++ [V.ref u]).length : Nat) : Int) - 1)]) hua).trans (Same.new (o := .tup [V.str "ok", V.ref ua]) hub)
    refine k _ _ (K2.trans (Same.keep S3)) (listAt_mono L2 S3) (Dt.made hub (.cons (.str _) (.cons (Dt.made hua (.cons (.str _) (.cons ?_ .nil))) .nil)))
    show Dt K H2 (V.int ((((zs ++ [V.ref u]).length : Nat) : Int) - 1)) _
    rw [ei]
    exact .int _
def spCopyM (K : PySem.W.Frag) : Sp := fun vs H Q _ => ∃ (hp : Addr) (rows : List Row) (j : Nat) (va vt : V) (es : List (Vl × Vl)), vs = [.ref hp, va, vt] ∧ DAt K H hp rows j es va ∧ rows.length ≤ 5000 ∧ ∀ u H', Keep hp H H' → ListAt K H' hp ((rows ++ [Row.dct es]).map rowD) → Dt K H' u (okRefD rows.length) → Q u H'
theorem ok_copyM {f : Addr} {fd : FuncData} (F : Fun K "_copy" "_copy" s_copy_entries f fd) (T : Txt K mg) (U_made_row : Use P w K mg base CX0 "made_row" 1 P_made_row (spMade K)) : FnG P w K mg base CX0 2 f fd P_copy_entries (spCopyM K) := by
  refine okG0 F sc_copy_entries (fun vs H Q E h => ?_) fun cdv A outer s H vs Q E hr hg h => ?_
  · obtain ⟨hp, rows, j, va, vt, es, rfl, _⟩ := h
    rfl
  · obtain ⟨hp, rows, j, va, vt, es, rfl, D, hl, k⟩ := h
    refine ⟨_, (pss_one (ps_ret (pe_use U_made_row (hr.mono (by decide)) hg rfl (pa_cons (pv 0) (pa_cons pe_str (pa_cons (pe_ix ix_tup (pe_ix ix_list (pv 0) (pe_ix ix_tup (pv 1) pe_int (fun _ _ => rfl)) (fun _ _ => rfl)) pe_int (fun _ _ => rfl)) pa_nil)))))), ?_⟩
    obtain ⟨q, zs, y0, q2, x2, rfl, hq, ez, az, hy, rfl, hq2, d2⟩ := D.rd
    refine ⟨_, rfl, _, rfl, _, rfl, q, _, _, _, rfl, rfl, hq, at1, hp, _, _, _, rfl, rfl, SqL.of ez, hy, q2, _, _, _, rfl, rfl, hq2, at1, ?_⟩
    refine ⟨hp, _, "dict", x2, _, rfl, (by decide +kernel), D.L, by rw [List.length_map]; exact hl, d2, fun u H1 K1 L1 du => ?_⟩
    rw [List.length_map] at du
    exact k _ _ K1 (by rw [List.map_append]; exact L1) du
def spClearM (K : PySem.W.Frag) : Sp := fun vs H Q _ => ∃ (hp : Addr) (rows : List Row) (j : Nat) (va vt : V) (es : List (Vl × Vl)), vs = [.ref hp, va, vt] ∧ DAt K H hp rows j es va ∧ ∀ u H', Keep hp H H' → ListAt K H' hp ((rows.set j (Row.dct [])).map rowD) → Dt K H' u doneD → Q u H'
theorem ok_clearM {f : Addr} {fd : FuncData} (F : Fun K "_clear" "_clear" s_clear_entries f fd) (T : Txt K mg) : FnG P w K mg base CX0 1 f fd P_clear_entries (spClearM K) := by
  refine okG0 F sc_clear_entries (fun vs H Q E h => ?_) fun cdv A outer s H vs Q E hr hg h => ?_
  · obtain ⟨hp, rows, j, va, vt, es, rfl, _⟩ := h
    rfl
  · obtain ⟨hp, rows, j, va, vt, es, rfl, D, k⟩ := h
    refine ⟨_, (pss_cons (ps_asg (pe_tup (pa_cons pe_str (pa_cons (pe_tup pa_nil) pa_nil))) (pg_sub (pv 0) (pe_ix ix_tup (pv 1) pe_int (fun _ _ => rfl)) set_list))
  (pss_one (ps_ret (pe_globD T.c_DONE (by rfl))))), ?_⟩
    obtain ⟨q, zs, y0, q2, x2, rfl, hq, ez, az, hy, rfl, hq2, d2⟩ := D.rd
    refine ⟨sz_0, fun t ht => ⟨sz_2, fun u7 hu7 => ?_⟩⟩
    have S17 := (Same.new (o := .tup []) ht).trans (Same.new (o := .tup [V.str "dict", V.ref t]) hu7)
    have du7 : Dt K _ (.ref u7) (rowD (.dct [])) := Dt.made hu7 (.cons (.str _) (.cons (Dt.made ht .nil) .nil))
    obtain ⟨zs', ez', hix, K8, L8⟩ := set_row (D.mono S17) du7
    refine ⟨_, rfl, _, rfl, q, _, _, _, rfl, rfl, Same.tupl S17 hq, at1, hp, _, _, j, rfl, rfl, ez', hix, ?_⟩
    exact fun v hv => k _ _ ((Same.keep S17).trans K8) L8 (hv _)
end

section
--SPLIT
end
abbrev s_keys : Stmt := top 54
abbrev N_keys : List Str := ["heap", "a", "args", "key", "_"]
abbrev P_keys : List Str := ["heap", "a", "args"]
theorem sc_keys : FnScope N_keys P_keys (defScope s_keys) := ⟨rfl, rfl, rfl, by decide +kernel, rfl, by decide +kernel, by decide +kernel⟩
abbrev s_values : Stmt := top 55
abbrev N_values : List Str := ["heap", "a", "args", "_", "worth"]
abbrev P_values : List Str := ["heap", "a", "args"]
theorem sc_values : FnScope N_values P_values (defScope s_values) := ⟨rfl, rfl, rfl, by decide +kernel, rfl, by decide +kernel, by decide +kernel⟩
section
variable {P : Program} {w : World} {K : PySem.W.Frag} {mg : Str → Option Value} {base : Heap}
def spKeysM (K : PySem.W.Frag) : Sp := fun vs H Q _ => ∃ (hp : Addr) (rows : List Row) (j : Nat) (va vt : V) (es : List (Vl × Vl)), vs = [.ref hp, va, vt] ∧ DAt K H hp rows j es va ∧ rows.length ≤ 5000 ∧ ∀ u H', Keep hp H H' → ListAt K H' hp ((rows ++ [Row.lst (es.map (·.1))]).map rowD) → Dt K H' u (okRefD rows.length) → Q u H'
theorem ok_keysM {f : Addr} {fd : FuncData} (F : Fun K "_keys" "_keys" s_keys f fd) (T : Txt K mg) (U_made_row : Use P w K mg base CX0 "made_row" 1 P_made_row (spMade K)) : FnG P w K mg base CX0 2 f fd P_keys (spKeysM K) := by
  refine okG0 F sc_keys (fun vs H Q E h => ?_) fun cdv A outer s H vs Q E hr hg h => ?_
  · obtain ⟨hp, rows, j, va, vt, es, rfl, _⟩ := h
    rfl
  · obtain ⟨hp, rows, j, va, vt, es, rfl, D, hl, k⟩ := h
    refine ⟨_, (pss_one (ps_ret (pe_use U_made_row (hr.mono (by decide)) hg rfl (pa_cons (pv 0) (pa_cons pe_str (pa_cons (pe_callTy call_tuple_of (by rfl) T.b_tuple (by decide +kernel) (pa_cons (pe_lc (own := [("key", 3), ("_", 4)]) (g := (gTup K 2 (gCons (gName 3) (gCons (gName 4) gNil)))) rfl sc_keys.nd (pi_tup (pe_ix ix_tup (pe_ix ix_list (pv 0) (pe_ix ix_tup (pv 1) pe_int (fun _ _ => rfl)) (fun _ _ => rfl)) pe_int (fun _ _ => rfl))) (blkOk_by (N := N_keys) (sc := defScope s_keys) (by decide +kernel)) (fun _ _ _ _ _ => (pg_tup (by rfl) (pgs_cons (pg_name (i := 3) sc_keys.nd rfl (Or.inl rfl)) (pgs_cons (pg_name (i := 4) sc_keys.nd rfl (Or.inl rfl)) pgs_nil)))) (fun _ _ _ _ _ => pts_nil) (fun _ _ _ _ _ => (pv 3))) pa_nil)) pa_nil)))))), ?_⟩
    obtain ⟨q, zs, y0, q2, x2, rfl, hq, ez, az, hy, rfl, hq2, d2⟩ := D.rd
    obtain ⟨ea, xs, rfl, hea, ae⟩ := d2.tuple_inv
    have lx := ae.length
    rw [List.length_map] at lx
    have hle := D.l
    refine ⟨_, rfl, _, rfl, _, rfl, q, _, _, _, rfl, rfl, hq, at1, hp, _, _, _, rfl, rfl, SqL.of ez, hy, q2, _, _, _, rfl, rfl, hq2, at1, ea, rfl, ⟨_, hea⟩, fun Dl hD => ?_⟩
    refine lc_dt (K := K) (walk_tup (xs := xs)) hD ((es.map (·.1)).map vlD) (by rw [List.length_map, List.length_map]; omega) (js_lt (by omega)) (fun H' S => Same.tupl S hea) ?_ ?_ mono_tup2
    · rintro i x H6 H7 d Nx hi hd S6 ⟨acc, eacc⟩ ⟨rfl, hx⟩ nx
      rw [List.getElem?_map, List.getElem?_map] at hd
      obtain ⟨d', hd', dx⟩ := ae.getV hx
      rw [List.getElem?_map] at hd'
      obtain ⟨e, he, rfl⟩ := Option.map_eq_some_iff.mp hd'
      rw [he] at hd
      cases hd
      obtain ⟨qe, x1, y1, rfl, hqe, dx1, dy1⟩ := dt_ent (dx.mono S6)
      exact ⟨qe, _, rfl, hqe, rfl, _, _, rfl, _, _, rfl, rfl, rfl, _, rfl, nx _ _ (Same.refl _) dx1⟩
    rintro H6 acc S6 eacc aacc
    refine ⟨Dl, _, rfl, .inl ⟨SqL.of eacc, fun t ht => ?_⟩⟩
    have S7 := S6.trans (Same.new (o := .tup acc) ht)
    refine ⟨hp, _, "list", _, .tuple ((es.map (·.1)).map vlD), rfl, (by decide +kernel), listAt_mono D.L S7, by rw [List.length_map]; exact hl, Dt.made ht aacc, fun u H1 K1 L1 du => ?_⟩
    rw [List.length_map] at du
    exact k _ _ ((Same.keep S7).trans K1) (by rw [List.map_append]; exact L1) du
def spValuesM (K : PySem.W.Frag) : Sp := fun vs H Q _ => ∃ (hp : Addr) (rows : List Row) (j : Nat) (va vt : V) (es : List (Vl × Vl)), vs = [.ref hp, va, vt] ∧ DAt K H hp rows j es va ∧ rows.length ≤ 5000 ∧ ∀ u H', Keep hp H H' → ListAt K H' hp ((rows ++ [Row.lst (es.map (·.2))]).map rowD) → Dt K H' u (okRefD rows.length) → Q u H'
theorem ok_valuesM {f : Addr} {fd : FuncData} (F : Fun K "_values" "_values" s_values f fd) (T : Txt K mg) (U_made_row : Use P w K mg base CX0 "made_row" 1 P_made_row (spMade K)) : FnG P w K mg base CX0 2 f fd P_values (spValuesM K) := by
  refine okG0 F sc_values (fun vs H Q E h => ?_) fun cdv A outer s H vs Q E hr hg h => ?_
  · obtain ⟨hp, rows, j, va, vt, es, rfl, _⟩ := h
    rfl
  · obtain ⟨hp, rows, j, va, vt, es, rfl, D, hl, k⟩ := h
    refine ⟨_, (pss_one (ps_ret (pe_use U_made_row (hr.mono (by decide)) hg rfl (pa_cons (pv 0) (pa_cons pe_str (pa_cons (pe_callTy call_tuple_of (by rfl) T.b_tuple (by decide +kernel) (pa_cons (pe_lc (own := [("_", 3), ("worth", 4)]) (g := (gTup K 2 (gCons (gName 3) (gCons (gName 4) gNil)))) rfl sc_values.nd (pi_tup (pe_ix ix_tup (pe_ix ix_list (pv 0) (pe_ix ix_tup (pv 1) pe_int (fun _ _ => rfl)) (fun _ _ => rfl)) pe_int (fun _ _ => rfl))) (blkOk_by (N := N_values) (sc := defScope s_values) (by decide +kernel)) (fun _ _ _ _ _ => (pg_tup (by rfl) (pgs_cons (pg_name (i := 3) sc_values.nd rfl (Or.inl rfl)) (pgs_cons (pg_name (i := 4) sc_values.nd rfl (Or.inl rfl)) pgs_nil)))) (fun _ _ _ _ _ => pts_nil) (fun _ _ _ _ _ => (pv 4))) pa_nil)) pa_nil)))))), ?_⟩
    obtain ⟨q, zs, y0, q2, x2, rfl, hq, ez, az, hy, rfl, hq2, d2⟩ := D.rd
    obtain ⟨ea, xs, rfl, hea, ae⟩ := d2.tuple_inv
    have lx := ae.length
    rw [List.length_map] at lx
    have hle := D.l
    refine ⟨_, rfl, _, rfl, _, rfl, q, _, _, _, rfl, rfl, hq, at1, hp, _, _, _, rfl, rfl, SqL.of ez, hy, q2, _, _, _, rfl, rfl, hq2, at1, ea, rfl, ⟨_, hea⟩, fun Dl hD => ?_⟩
    refine lc_dt (K := K) (walk_tup (xs := xs)) hD ((es.map (·.2)).map vlD) (by rw [List.length_map, List.length_map]; omega) (js_lt (by omega)) (fun H' S => Same.tupl S hea) ?_ ?_ mono_tup2
    · rintro i x H6 H7 d Nx hi hd S6 ⟨acc, eacc⟩ ⟨rfl, hx⟩ nx
      rw [List.getElem?_map, List.getElem?_map] at hd
      obtain ⟨d', hd', dx⟩ := ae.getV hx
      rw [List.getElem?_map] at hd'
      obtain ⟨e, he, rfl⟩ := Option.map_eq_some_iff.mp hd'
      rw [he] at hd
      cases hd
      obtain ⟨qe, x1, y1, rfl, hqe, dx1, dy1⟩ := dt_ent (dx.mono S6)
      exact ⟨qe, _, rfl, hqe, rfl, _, _, rfl, _, _, rfl, rfl, rfl, _, rfl, nx _ _ (Same.refl _) dy1⟩
    rintro H6 acc S6 eacc aacc
    refine ⟨Dl, _, rfl, .inl ⟨SqL.of eacc, fun t ht => ?_⟩⟩
    have S7 := S6.trans (Same.new (o := .tup acc) ht)
    refine ⟨hp, _, "list", _, .tuple ((es.map (·.2)).map vlD), rfl, (by decide +kernel), listAt_mono D.L S7, by rw [List.length_map]; exact hl, Dt.made ht aacc, fun u H1 K1 L1 du => ?_⟩
    rw [List.length_map] at du
    exact k _ _ ((Same.keep S7).trans K1) (by rw [List.map_append]; exact L1) du
end

section
--SPLIT
end
abbrev s_items : Stmt := top 56
abbrev N_items : List Str := ["heap", "a", "args", "pairs", "entries", "entry"]
abbrev P_items : List Str := ["heap", "a", "args"]
theorem sc_items : FnScope N_items P_items (defScope s_items) := ⟨rfl, rfl, rfl, by decide +kernel, rfl, by decide +kernel, by decide +kernel⟩
section
variable {P : Program} {w : World} {K : PySem.W.Frag} {mg : Str → Option Value} {base : Heap}
def entR (e : Vl × Vl) : Row := .tup [e.1, e.2]
def refsD (n i : Nat) : List Vl := (List.range i).map fun t => Vl.ref (n + t)
theorem refsD_succ (n i : Nat) : refsD n (i + 1) = refsD n i ++ [.ref (n + i)] := by
  unfold refsD
  rw [List.range_succ, List.map_append]
  rfl
def spItemsM (K : PySem.W.Frag) : Sp := fun vs H Q _ => ∃ (hp : Addr) (rows : List Row) (j : Nat) (va vt : V) (es : List (Vl × Vl)), vs = [.ref hp, va, vt] ∧ DAt K H hp rows j es va ∧ rows.length ≤ 3000 ∧ ∀ u H', Keep hp H H' → ListAt K H' hp (((rows ++ es.map entR) ++ [Row.lst (refsD rows.length es.length)]).map rowD) → Dt K H' u (okRefD (rows.length + es.length)) → Q u H'
theorem ok_itemsM {f : Addr} {fd : FuncData} (F : Fun K "_items" "_items" s_items f fd) (T : Txt K mg) (U_made_row : Use P w K mg base CX0 "made_row" 1 P_made_row (spMade K)) : FnG P w K mg base CX0 2 f fd P_items (spItemsM K) := by
  refine okG0 F sc_items (fun vs H Q E h => ?_) fun cdv A outer s H vs Q E hr hg h => ?_
  · obtain ⟨hp, rows, j, va, vt, es, rfl, _⟩ := h
    rfl
  · obtain ⟨hp, rows, j, va, vt, es, rfl, D, hl, k⟩ := h
    refine ⟨_, (pss_cons (ps_set (i := 3) sc_items.nd rfl (Or.inl rfl) (pe_lst pa_nil))
  (pss_cons (ps_set (i := 4) sc_items.nd rfl (Or.inl rfl) (pe_ix ix_tup (pe_ix ix_list (pv 0) (pe_ix ix_tup (pv 1) pe_int (fun _ _ => rfl)) (fun _ _ => rfl)) pe_int (fun _ _ => rfl)))
  (pss_cons (ps_for PassesOwn.never rfl (pi_tup (pv 4)) (pg_name (i := 5) sc_items.nd rfl (Or.inl rfl))
   (pss_cons (ps_expr (pe_bm PySem.F.plainAttrs_list PySem.F.slot_list_append PySem.F.type_list_append mt_append (pv 0) (pa_cons (pe_tup (pa_cons pe_str (pa_cons (pv 5) pa_nil))) pa_nil)))
  (pss_one (ps_expr (pe_bm PySem.F.plainAttrs_list PySem.F.slot_list_append PySem.F.type_list_append mt_append (pv 3) (pa_cons (pe_tup (pa_cons pe_str (pa_cons (pe_op op_sub (pe_callB call_len (by rfl) T.b_len PySem.boot_len (pa_cons (pv 0) pa_nil)) pe_int) pa_nil))) pa_nil))))))
  (pss_one (ps_ret (pe_use U_made_row (hr.mono (by decide)) hg rfl (pa_cons (pv 0) (pa_cons pe_str (pa_cons (pe_callTy call_tuple_of (by rfl) T.b_tuple (by decide +kernel) (pa_cons (pv 3) pa_nil)) pa_nil))))))))), ?_⟩
    obtain ⟨q, zs, y0, q2, x2, rfl, hq, ez, az, hy, rfl, hq2, d2⟩ := D.rd
    obtain ⟨ea, xs, rfl, hea, ae⟩ := d2.tuple_inv
    have lx := ae.length
    rw [List.length_map] at lx
    have hle := D.l
    refine ⟨sz_0, fun pl hpl => ?_⟩
    have S1 := Same.new (o := .lst []) hpl
    have hne : hp ≠ pl := ne_of_none ez hpl
    have P1 : ListAt K (upd H pl (.lst [])) pl ((refsD rows.length 0).map vlD) := listAt_made hpl .nil
    have L1 : ListAt K (upd H pl (.lst [])) hp ((rows ++ (es.take 0).map entR).map rowD) := by
      rw [List.take_zero, List.map_nil, List.append_nil]; exact listAt_mono D.L S1
    generalize upd H pl (.lst []) = H1 at S1 P1 L1
    refine ⟨_, rfl, _, rfl, q, _, _, _, rfl, rfl, Same.tupl S1 hq, at1, hp, _, _, _, rfl, rfl, SqL.of (S1 _ _ ez), hy, q2, _, _, _, rfl, rfl, Same.tupl S1 hq2, at1, ?_⟩
    have hpat : ∃ xs, H hp = some (.lst xs) := ⟨_, ez⟩
    refine ⟨_, rfl, ea, rfl, ⟨_, Same.tupl S1 hea⟩, ?_⟩
    refine for_it (walk_tup (xs := xs)) (fun i σ H' => ∃ (x5 : Option V), σ = [some (.ref hp), some (.ref q), some vt, some (.ref pl), some (.ref ea), x5] ∧ Keep hp H H' ∧ ListAt K H' hp ((rows ++ (es.take i).map entR).map rowD) ∧ ListAt K H' pl ((refsD rows.length i).map vlD)) ⟨none, rfl, Same.keep S1, L1, P1⟩ (fun _ _ _ _ h => let ⟨_, _, kk, _⟩ := h; kk.keepT hpat _ _ hea) ?_ ?_
    · rintro i v σ H2 H3 hi ⟨x5, rfl, k2, L2, P2⟩ ⟨rfl, hx⟩
      obtain ⟨d', hd', dx⟩ := ae.getV hx
      rw [List.getElem?_map] at hd'
      obtain ⟨e, he, rfl⟩ := Option.map_eq_some_iff.mp hd'
      have dx := dx.keepT (k2.keepT hpat)
      obtain ⟨ys, ey, ay⟩ := id L2
      have ly := ay.length
      rw [List.length_map, List.length_append, List.length_map, List.length_take] at ly
      refine ⟨_, rfl, .inl ⟨rfl, _, SqL.of ey⟩, _, rfl, sz_2, fun u hu => ?_⟩
      have Sa := Same.new (o := .tup [V.str "tuple", v]) hu
      refine ⟨hp, _, _, rfl, rfl, Sa _ _ ey, js_lt (by omega), ?_⟩
      have L3 := listAt_app (listAt_mono L2 Sa) (Sa _ _ ey) (Dt.made (K := K) hu (.cons (.str "tuple") (.cons dx .nil)))
      have P3 := listAt_upd (o := .lst (ys ++ [V.ref u])) (listAt_mono P2 Sa) (Ne.symm hne) (Sa _ _ ey)
      have k3 : Keep hp H (upd (upd H3 u (.tup [V.str "tuple", v])) hp (.lst (ys ++ [V.ref u]))) := fun b o eb ne => by rw [upd_ne ne]; exact Sa _ _ (k2 _ _ eb ne)
      have e3 : upd (upd H3 u (.tup [V.str "tuple", v])) hp (.lst (ys ++ [V.ref u])) hp = some (.lst (ys ++ [V.ref u])) := upd_same
      generalize upd (upd H3 u (.tup [V.str "tuple", v])) hp (.lst (ys ++ [V.ref u])) = H4 at L3 P3 k3 e3
      obtain ⟨ps, ep, ap⟩ := id P3
      have lp := ap.length
      rw [List.length_map] at lp
      have lp2 : (refsD rows.length i).length = i := by unfold refsD; simp
      refine ⟨_, rfl, .inl ⟨rfl, _, SqL.of ep⟩, _, rfl, _, _, rfl, .inl ⟨_, SqL.of e3, rfl⟩, _, _, rfl, rfl, sz_2, fun u2 hu2 => ?_⟩
      have ei : (((ys ++ [V.ref u]).length : Nat) : Int) - 1 = (((rows.length + i : Nat)) : Int) := by rw [List.length_append, ly]; simp; omega
      have Sb := Same.new (o := .tup [V.str "ref", V.int ((((ys ++ [V.ref u]).length : Nat) : Int) - 1)]) hu2
      refine ⟨pl, _, _, rfl, rfl, Sb _ _ ep, js_lt (by omega), ?_⟩
      refine ⟨_, rfl, fun b o eb ne => ?_, listAt_upd ?_ hne (Sb _ _ ep), ?_⟩
      · have : b ≠ pl := ne_of_none eb hpl
        rw [upd_ne this]
        exact Sb _ _ (k3 _ _ eb ne)
      · have eq : (rows ++ (es.take i ++ [e]).map entR).map rowD = (rows ++ (es.take i).map entR).map rowD ++ [.tuple [.str "tuple", entD e]] := by
          rw [List.map_append (f := entR), ← List.append_assoc, List.map_append (l₁ := rows ++ (es.take i).map entR)]
          rfl
        rw [List.take_succ, he]
        show ListAt K _ hp ((rows ++ (es.take i ++ [e]).map entR).map rowD)
        rw [eq]
        exact listAt_mono L3 Sb
      · rw [refsD_succ, List.map_append]
        refine listAt_app (listAt_mono P3 Sb) (Sb _ _ ep) (Dt.made hu2 (.cons (.str _) (.cons ?_ .nil)))
        show Dt K H4 (V.int ((((ys ++ [V.ref u]).length : Nat) : Int) - 1)) _
        rw [ei]
        exact .int _
    · rintro σ H2 ⟨x5, rfl, k2, L2, P2⟩
      rw [lx, List.take_length] at L2
      rw [lx] at P2
      obtain ⟨ps, ep, ap⟩ := id P2
      refine ⟨_, rfl, _, rfl, pl, _, rfl, .inl ⟨SqL.of ep, fun t ht => ?_⟩⟩
      have S7 := Same.new (o := .tup ps) ht
      refine ⟨hp, _, "list", _, .tuple ((refsD rows.length es.length).map vlD), rfl, (by decide +kernel), listAt_mono L2 S7, by rw [List.length_map, List.length_append, List.length_map]; omega, Dt.made ht ap, fun u H5 K5 L5 du => ?_⟩
      rw [List.length_map, List.length_append, List.length_map] at du
      exact k _ _ ((k2.trans (Same.keep S7)).trans K5) (by rw [List.map_append (l₁ := rows ++ es.map entR)]; exact L5) du
end

section
--SPLIT
end
abbrev s_setdefault : Stmt := top 52
abbrev N_setdefault : List Str := ["heap", "a", "args", "outcome"]
abbrev P_setdefault : List Str := ["heap", "a", "args"]
theorem sc_setdefault : FnScope N_setdefault P_setdefault (defScope s_setdefault) := ⟨rfl, rfl, rfl, by decide +kernel, rfl, by decide +kernel, by decide +kernel⟩
section
theorem mt_self (kt : Vl → Str) (x : Vl) : mt kt x x = true := by
  unfold mt
  by_cases h : bothR (x, x) = true
  · rw [if_pos h]; exact decide_eq_true rfl
  · rw [if_neg h]
    cases x <;> first | (exact absurd rfl h) | (simp [sl, slx, numV]; done) | (simp [sl, slx, numV, PyData.eqv]; done)
theorem findK_last {kt : Vl → Str} {es : List (Vl × Vl)} {x y : Vl} (h : findK kt es x = none) : findK kt (es ++ [(x, y)]) x = some es.length := by
  refine findK_some (e := (x, y)) (by rw [List.getElem?_append_right (Nat.le_refl _), Nat.sub_self]; rfl) (mt_self kt x) fun j e' hj he => ?_
  rw [List.getElem?_append_left hj] at he
  unfold findK at h
  rw [List.findIdx?_eq_none_iff] at h
  exact h e' (List.mem_of_getElem? he)
variable {P : Program} {w : World} {K : PySem.W.Frag} {mg : Str → Option Value} {base : Heap}
def sdD (kt : Vl → Str) (es : List (Vl × Vl)) (x y : Vl) : Option Str → PyData
  | some t => badD t
  | none => match findK kt es x with
    | some i => .tuple [.str "ok", vlD (es.getD i (x, x)).2]
    | none => if 1000 ≤ es.length then tooD else .tuple [.str "ok", vlD y]
def sdRows (rows : List Row) (j : Nat) (kt : Vl → Str) (es : List (Vl × Vl)) (x y : Vl) : Option Str → List Row
  | some _ => rows
  | none => match findK kt es x with
    | some _ => rows
    | none => if 1000 ≤ es.length then rows else rows.set j (.dct (es ++ [(x, y)]))
def spSetdM (K : PySem.W.Frag) : Sp := fun vs H Q _ => ∃ (kt : Vl → Str) (hp : Addr) (rows : List Row) (j : Nat) (va vt : V) (es : List (Vl × Vl)) (x y : Vl) (b : Option Str) (n n2 : Nat) (z : Str), vs = [.ref hp, va, vt] ∧ DAt K H hp rows j es va ∧ Dt K H vt (.tuple [vlD x, vlD y]) ∧ KIn rows kt x b ∧ (∀ e ∈ es, KOk rows kt e.1) ∧
  (b = none → Shows (rows.map rowD) n "" [] [.shw (vlD x)] (some z)) ∧
  (b = none → KIn (rows.set j (.dct (es ++ [(x, y)]))) kt x none ∧ (∀ e ∈ es ++ [(x, y)], KOk (rows.set j (.dct (es ++ [(x, y)]))) kt e.1) ∧ Shows ((rows.set j (.dct (es ++ [(x, y)]))).map rowD) n2 "" [] [.shw (vlD x)] (some z)) ∧
  ∀ u H', Keep hp H H' → Dt K H' u (sdD kt es x y b) → ListAt K H' hp ((sdRows rows j kt es x y b).map rowD) → Q u H'
theorem ok_setdM {f : Addr} {fd : FuncData} (F : Fun K "_setdefault" "_setdefault" s_setdefault f fd) (T : Txt K mg) (U_key_place : Use P w K mg base CX0 "key_place" 5 P_key_place (spKeyPlace K)) (U_put_item : Use P w K mg base CX0 "put_item" 8 P_put_item (spPutItem K)) (U_item : Use P w K mg base CX0 "item" 8 P_item (spItem K)) : FnG P w K mg base CX0 9 f fd P_setdefault (spSetdM K) := by
  refine okG0 F sc_setdefault (fun vs H Q E h => ?_) fun cdv A outer s H vs Q E hr hg h => ?_
  · obtain ⟨kt, hp, rows, j, va, vt, es, x, y, b, n, nb, z, rfl, _⟩ := h
    rfl
  · obtain ⟨kt, hp, rows, j, va, vt, es, x, y, b, n, nb, z, rfl, D, da, kx, ke, hsh, hnew, k⟩ := h
    refine ⟨_, (pss_cons (ps_set (i := 3) sc_setdefault.nd rfl (Or.inl rfl) (pe_use U_key_place (hr.mono (by decide)) hg rfl (pa_cons (pv 0) (pa_cons (pe_ix ix_tup (pe_ix ix_list (pv 0) (pe_ix ix_tup (pv 1) pe_int (fun _ _ => rfl)) (fun _ _ => rfl)) pe_int (fun _ _ => rfl)) (pa_cons (pe_ix ix_tup (pv 2) pe_int (fun _ _ => rfl)) pa_nil)))))
  (pss_cons (ps_if (PW.pt (pw_and (pt_cmpR op_eq (pe_ix ix_tup (pv 3) pe_int (fun _ _ => rfl)) pe_str (nomark _)) (pw_and1 (pt_cmpR op_lt (pe_ix ix_tup (pv 3) pe_int (fun _ _ => rfl)) pe_int (nomark _)))))
   (pss_one (ps_set (i := 3) sc_setdefault.nd rfl (Or.inl rfl) (pe_use U_put_item (hr.mono (by decide)) hg rfl (pa_cons (pv 0) (pa_cons (pv 1) (pa_cons (pe_ix ix_tup (pv 2) pe_int (fun _ _ => rfl)) (pa_cons (pe_ix ix_tup (pv 2) pe_int (fun _ _ => rfl)) pa_nil)))))))
   pss_nil)
  (pss_cons (ps_if (pt_cmpR op_eq (pe_ix ix_tup (pv 3) pe_int (fun _ _ => rfl)) pe_str (nomark _))
   (pss_one (ps_ret (pv 3)))
   pss_nil)
  (pss_one (ps_ret (pe_use U_item (hr.mono (by decide)) hg rfl (pa_cons (pv 0) (pa_cons (pv 1) (pa_cons (pe_ix ix_tup (pv 2) pe_int (fun _ _ => rfl)) pa_nil))))))))), ?_⟩
    obtain ⟨q, zs, y0, q2, x2, rfl, hq, ez, az, hy, rfl, hq2, d2⟩ := D.rd
    obtain ⟨qa, vk, vy, rfl, hqa, dk, dy⟩ := dt_pr da
    have hpat : ∃ xs, H hp = some (.lst xs) := ⟨_, ez⟩
    refine ⟨_, rfl, _, rfl, _, rfl, q, _, _, _, rfl, rfl, hq, at1, hp, _, _, _, rfl, rfl, SqL.of ez, hy, q2, _, _, _, rfl, rfl, hq2, at1, _, rfl, qa, _, _, _, rfl, rfl, hqa, at0, kt, hp, rows, x2, vk, es, x, b, rfl, D.L, d2, dk, kx, ke, D.l, fun u H1 S1 du => ?_⟩
    cases b with
    | some t =>
      obtain ⟨q3, ws, rfl, hq3, _⟩ := (show Dt K H1 u (badD t) from du).head
      refine ⟨_, rfl, q3, _, _, _, rfl, rfl, hq3, at0, rfl, _, rfl, iteFb (by decide +kernel) (iteFb rfl ?_)⟩
      exact ⟨_, rfl, q3, _, _, _, rfl, rfl, hq3, at0, rfl, _, rfl, iteTb (by decide +kernel) ⟨_, rfl, k _ _ (Same.keep S1) du (listAt_mono D.L S1)⟩⟩
    | none =>
      obtain ⟨q3, x3, x4, rfl, hq3, d3, d4⟩ := dt_pr (show Dt K H1 u (atD (placeI (findK kt es x))) from du)
      cases dt_str d3
      cases d4.int_inv
      refine ⟨_, rfl, q3, _, _, _, rfl, rfl, hq3, at0, rfl, _, rfl, iteTb (by decide +kernel) ?_⟩
      refine ⟨_, rfl, q3, _, _, _, rfl, rfl, hq3, at1, _, _, rfl, rfl, _, rfl, ?_⟩
      cases hf : findK kt es x with
      | some i =>
        have e1 : sdD kt es x y none = getD' kt es x z none := by
          unfold sdD getD'
          simp only [hf]
        have e2 : sdRows rows j kt es x y none = rows := by
          unfold sdRows
          simp only [hf]
        rw [e1, e2] at k
        refine iteFb (decide_eq_false (by show ¬ ((i : Nat) : Int) < 0; omega)) ?_
        refine ⟨_, rfl, q3, _, _, _, rfl, rfl, hq3, at0, rfl, _, rfl, iteFb (by decide +kernel) ?_⟩
        exact ⟨_, rfl, _, rfl, _, rfl, qa, _, _, _, rfl, rfl, Same.tupl S1 hqa, at0, kt, hp, rows, j, _, vk, es, x, none, n, z, rfl, D.mono S1, dk.mono S1, kx, ke, hsh, fun u2 H2 S2 du2 => k _ _ (Same.keep (S1.trans S2)) du2 (listAt_mono D.L (S1.trans S2))⟩
      | none =>
        refine iteTb (by rfl) ?_
        refine ⟨_, rfl, _, rfl, _, rfl, qa, _, _, _, rfl, rfl, Same.tupl S1 hqa, at0, _, rfl, qa, _, _, _, rfl, rfl, Same.tupl S1 hqa, at1, kt, hp, rows, j, _, vk, vy, es, x, y, none, rfl, D.mono S1, dk.mono S1, dy.mono S1, kx, ke, fun u2 H2 k2 du2 L2 => ?_⟩
        have k12 := (Same.keep S1).trans k2
        by_cases c : 1000 ≤ es.length
        · have e1 : sdD kt es x y none = tooD := by
            unfold sdD
            simp only [hf]
            exact if_pos c
          have e2 : sdRows rows j kt es x y none = rows := by
            unfold sdRows
            simp only [hf]
            exact if_pos c
          have e3 : putD kt es x y none = tooD := by
            unfold putD
            simp only [putE_big hf c]
          have e4 : putRows rows j kt es x y none = rows := by
            unfold putRows
            simp only [putE_big hf c]
          rw [e1, e2] at k
          rw [e3] at du2
          rw [e4] at L2
          obtain ⟨q5, ws, rfl, hq5, _⟩ := (show Dt K H2 u2 tooD from du2).head
          exact ⟨_, rfl, q5, _, _, _, rfl, rfl, hq5, at0, rfl, _, rfl, iteTb (by decide +kernel) ⟨_, rfl, k _ _ k12 du2 L2⟩⟩
        · obtain ⟨n1, n2, n3⟩ := hnew rfl
          have e1 : sdD kt es x y none = .tuple [.str "ok", vlD y] := by
            unfold sdD
            simp only [hf]
            exact if_neg c
          have e2 : sdRows rows j kt es x y none = rows.set j (.dct (es ++ [(x, y)])) := by
            unfold sdRows
            simp only [hf]
            exact if_neg c
          have e3 : putD kt es x y none = doneD := by
            unfold putD
            simp only [putE_new hf c]
          have e4 : putRows rows j kt es x y none = rows.set j (.dct (es ++ [(x, y)])) := by
            unfold putRows
            simp only [putE_new hf c]
          rw [e1, e2] at k
          rw [e3] at du2
          rw [e4] at L2
          obtain ⟨q5, ws, rfl, hq5, _⟩ := (show Dt K H2 u2 doneD from du2).head
          have kt12 : KeepT K H H2 := k12.keepT hpat
          have hj := (List.getElem?_eq_some_iff.mp D.r).1
          refine ⟨_, rfl, q5, _, _, _, rfl, rfl, hq5, at0, rfl, _, rfl, iteFb (by decide +kernel) ?_⟩
          refine ⟨_, rfl, _, rfl, _, rfl, qa, _, _, _, rfl, rfl, kt12 _ _ hqa, at0, kt, hp, _, j, _, vk, es ++ [(x, y)], x, none, nb, z, rfl, ⟨L2, by rw [List.getElem?_set_self hj], D.a.keepT kt12, by rw [List.length_append]; show es.length + 1 ≤ 1000; omega⟩, dk.keepT kt12, n1, n2, fun _ => n3, fun u3 H3 S3 d3 => k _ _ (k12.trans (Same.keep S3)) ?_ (listAt_mono L2 S3)⟩
          have e5 : getD' kt (es ++ [(x, y)]) x z none = .tuple [.str "ok", vlD y] := by
            unfold getD'
            simp only [findK_last hf]
            rw [List.getD_eq_getElem?_getD, List.getElem?_append_right (Nat.le_refl _), Nat.sub_self]
            rfl
          rw [e5] at d3
          exact d3
end

section
--SPLIT
end
section
/-! a dict whose keys are tuples (of h_alike, for laws without it) -/
variable {P : Program} {w : World} {K : PySem.W.Frag} {mg : Str → Option Value} {base : Heap}
def KeepD (a : Addr) (H H' : Hp) : Prop := ∀ b o, H b = some o → b ≠ a → H' b = some o
theorem keepT_D {a : Addr} {o : HO} {H H' : Hp} (e : H a = some o) (ho : ∀ xs, o ≠ .tup xs) (hf : ∀ ob xs, o ≠ .frz ob (.tup xs)) (hk : KeepD a H H') : KeepT K H H' := fun b xs h => by
  rcases h with (h | ⟨o', h⟩) | h
  · exact .inl (.inl (hk _ _ h (ne_of h e fun c => ho xs c.symm)))
  · exact .inl (.inr ⟨o', hk _ _ h (ne_of h e fun c => hf o' xs c.symm)⟩)
  · exact .inr h
theorem keepT_dT {a : Addr} {kvs : List (List Key × V)} {H H' : Hp} (e : H a = some (.dT kvs)) (hk : KeepD a H H') : KeepT K H H' := keepT_D e (fun _ h => nomatch h) (fun _ _ h => nomatch h) hk
theorem listAt_D {a l : Addr} {H H' : Hp} {ds : List PyData} (L : ListAt K H l ds) (hk : KeepD a H H') (kT : KeepT K H H') (hne : l ≠ a) : ListAt K H' l ds := by
  obtain ⟨xs, e, ax⟩ := L
  exact ⟨xs, hk _ _ e hne, ax.keepT kT⟩
/-! pairs of parts -/
def keyT (t : Str) : List Key := [.inr "ok", .inr t]
theorem nodup_at {α : Type} {l : List α} {i : Nat} {x : α} (hn : l.Nodup) (h : l[i]? = some x) : x ∉ l.take i := fun hm => by
  have e : l = l.take i ++ l.drop i := (List.take_append_drop i l).symm
  rw [e, List.nodup_append] at hn
  have hd : x ∈ l.drop i := by
    have hi := (List.getElem?_eq_some_iff.mp h).1
    rw [List.drop_eq_getElem_cons hi]
    rw [(List.getElem?_eq_some_iff.mp h).2]
    simp
  exact hn.2.2 x hm x hd rfl
end

abbrev s_update : Stmt := top 53
abbrev N_update : List Str := ["heap", "a", "args", "entries", "places", "at", "key", "_", "worth", "text"]
abbrev P_update : List Str := ["heap", "a", "args"]
theorem sc_update : FnScope N_update P_update (defScope s_update) := ⟨rfl, rfl, rfl, by decide +kernel, rfl, by decide +kernel, by decide +kernel⟩
section
/-! a dict takes the entries of another -/
def fT (kt : Vl → Str) (es : List (Vl × Vl)) (t : Str) : Option Nat := es.findIdx? fun e => decide (kt e.1 = t)
def putT (kt : Vl → Str) (es : List (Vl × Vl)) (e : Vl × Vl) : List (Vl × Vl) := match fT kt es (kt e.1) with
  | some i => es.set i ((es.getD i e).1, e.2)
  | none => es ++ [e]
def updT (kt : Vl → Str) (es fs : List (Vl × Vl)) : List (Vl × Vl) := fs.foldl (putT kt) es
theorem fT_keys (kt : Vl → Str) (es : List (Vl × Vl)) (t : Str) : fT kt es t = (es.map fun e => kt e.1).findIdx? fun z => decide (z = t) := by
  unfold fT
  rw [List.findIdx?_map]
  rfl
theorem fT_lt {kt : Vl → Str} {es : List (Vl × Vl)} {t : Str} {i : Nat} (h : fT kt es t = some i) : ∃ e, es[i]? = some e ∧ kt e.1 = t := by
  unfold fT at h
  rw [List.findIdx?_eq_some_iff_getElem] at h
  obtain ⟨hi, hp, _⟩ := h
  exact ⟨es[i], List.getElem?_eq_getElem hi, of_decide_eq_true hp⟩
theorem fT_none {kt : Vl → Str} {es : List (Vl × Vl)} {t : Str} (h : ∀ e ∈ es, kt e.1 ≠ t) : fT kt es t = none := by
  unfold fT
  rw [List.findIdx?_eq_none_iff]
  exact fun e he => decide_eq_false (h e he)
theorem fT_no {kt : Vl → Str} {es : List (Vl × Vl)} {t : Str} (h : fT kt es t = none) : ∀ e ∈ es, kt e.1 ≠ t := by
  unfold fT at h
  rw [List.findIdx?_eq_none_iff] at h
  exact fun e he => of_decide_eq_false (h e he)
theorem fT_app (kt : Vl → Str) (es fs : List (Vl × Vl)) (t : Str) : fT kt (es ++ fs) t = (fT kt es t).or ((fT kt fs t).map (· + es.length)) := by
  unfold fT
  rw [List.findIdx?_append]
theorem fT_one (kt : Vl → Str) (e : Vl × Vl) (t : Str) : fT kt [e] t = if kt e.1 = t then some 0 else none := by
  unfold fT
  rw [List.findIdx?_cons]
  by_cases c : kt e.1 = t
  · rw [if_pos c, decide_eq_true c]; rfl
  · rw [if_neg c, decide_eq_false c]; rfl
theorem putT_keys {kt : Vl → Str} {es : List (Vl × Vl)} {e : Vl × Vl} {i : Nat} (h : fT kt es (kt e.1) = some i) : ((es.set i ((es.getD i e).1, e.2)).map fun e => kt e.1) = es.map fun e => kt e.1 := by
  obtain ⟨e', he, _⟩ := fT_lt h
  obtain ⟨hi, hg⟩ := List.getElem?_eq_some_iff.mp he
  rw [List.map_set, List.getD_eq_getElem?_getD, he]
  apply List.ext_getElem?
  intro j
  rw [List.getElem?_set, List.length_map]
  by_cases c : i = j
  · subst c
    rw [if_pos rfl, if_pos hi, List.getElem?_map, he]
    rfl
  · rw [if_neg c]
theorem putT_map {kt : Vl → Str} {es : List (Vl × Vl)} {e : Vl × Vl} : (putT kt es e).map (fun e => kt e.1) = if (fT kt es (kt e.1)).isSome = true then es.map (fun e => kt e.1) else es.map (fun e => kt e.1) ++ [kt e.1] := by
  unfold putT
  cases h : fT kt es (kt e.1) with
  | some i => exact putT_keys h
  | none => show (es ++ [e]).map _ = _; rw [List.map_append]; rfl
theorem fT_put {kt : Vl → Str} {es : List (Vl × Vl)} {e : Vl × Vl} {t : Str} (h : kt e.1 ≠ t) : fT kt (putT kt es e) t = fT kt es t := by
  unfold putT
  cases h' : fT kt es (kt e.1) with
  | some i => show fT kt (es.set i _) t = _; rw [fT_keys, putT_keys h', ← fT_keys]
  | none =>
    show fT kt (es ++ [e]) t = _
    rw [fT_app, fT_one, if_neg h]
    cases fT kt es t <;> rfl
theorem fT_upd {kt : Vl → Str} {t : Str} : ∀ (fs es : List (Vl × Vl)), (∀ e ∈ fs, kt e.1 ≠ t) → fT kt (updT kt es fs) t = fT kt es t
  | [], _, _ => rfl
  | f :: fs, es, h => (fT_upd fs (putT kt es f) fun e he => h e (List.mem_cons_of_mem _ he)).trans (fT_put (h f (by simp)))
theorem putT_len (kt : Vl → Str) (es : List (Vl × Vl)) (e : Vl × Vl) : (putT kt es e).length ≤ es.length + 1 := by
  unfold putT
  split
  · rw [List.length_set]; omega
  · rw [List.length_append]; exact Nat.le_refl _
theorem updT_len (kt : Vl → Str) : ∀ (fs es : List (Vl × Vl)), (updT kt es fs).length ≤ es.length + fs.length
  | [], _ => Nat.le_refl _
  | f :: fs, es => by
    have h1 := updT_len kt fs (putT kt es f)
    have h2 := putT_len kt es f
    show (updT kt (putT kt es f) fs).length ≤ _
    rw [List.length_cons]
    omega
theorem updT_snoc (kt : Vl → Str) (es fs : List (Vl × Vl)) (g : Vl × Vl) : updT kt es (fs ++ [g]) = putT kt (updT kt es fs) g := by
  unfold updT
  rw [List.foldl_append]
  rfl
theorem putT_nodup {kt : Vl → Str} {es : List (Vl × Vl)} {e : Vl × Vl} (h : (es.map fun e => kt e.1).Nodup) : ((putT kt es e).map fun e => kt e.1).Nodup := by
  rw [putT_map]
  cases h' : fT kt es (kt e.1) with
  | some i => exact h
  | none =>
    show (es.map (fun e => kt e.1) ++ [kt e.1]).Nodup
    rw [List.nodup_append]
    refine ⟨h, by simp, fun a ha b hb => ?_⟩
    obtain ⟨e', he', rfl⟩ := List.mem_map.mp ha
    rw [List.mem_singleton.mp hb]
    exact fT_no h' e' he'
theorem updT_nodup {kt : Vl → Str} : ∀ (fs es : List (Vl × Vl)), (es.map fun e => kt e.1).Nodup → ((updT kt es fs).map fun e => kt e.1).Nodup
  | [], _, h => h
  | f :: fs, es, h => updT_nodup fs (putT kt es f) (putT_nodup h)
theorem putT_mem {kt : Vl → Str} {es : List (Vl × Vl)} {e x : Vl × Vl} (h : x ∈ putT kt es e) : x ∈ es ∨ x = e ∨ ∃ e' ∈ es, x = (e'.1, e.2) := by
  unfold putT at h
  cases h' : fT kt es (kt e.1) with
  | some i =>
    rw [h'] at h
    rcases List.mem_or_eq_of_mem_set h with h | rfl
    · exact .inl h
    · obtain ⟨e', he, _⟩ := fT_lt h'
      refine .inr (.inr ⟨e', List.mem_of_getElem? he, ?_⟩)
      rw [List.getD_eq_getElem?_getD, he]
      rfl
  | none =>
    rw [h'] at h
    rcases List.mem_append.mp h with h | h
    · exact .inl h
    · exact .inr (.inl (List.mem_singleton.mp h))
theorem updT_all {kt : Vl → Str} {X Y : Vl → Prop} : ∀ (fs es : List (Vl × Vl)), (∀ e ∈ es, X e.1 ∧ Y e.2) → (∀ e ∈ fs, X e.1 ∧ Y e.2) → ∀ e ∈ updT kt es fs, X e.1 ∧ Y e.2
  | [], _, h, _ => h
  | f :: fs, es, h, h2 => updT_all fs (putT kt es f) (fun e he => by
      have hf := h2 f (by simp)
      rcases putT_mem he with he | rfl | ⟨e', he', rfl⟩
      · exact h e he
      · exact hf
      · exact ⟨(h e' he').1, hf.2⟩) fun e he => h2 e (List.mem_cons_of_mem _ he)
end
section
variable {P : Program} {w : World} {K : PySem.W.Frag} {mg : Str → Option Value} {base : Heap}
theorem keyT_inj {a b : Str} (h : keyT a = keyT b) : a = b := Sum.inr.inj (List.cons.inj (List.cons.inj h).2).1
def spUpdM (K : PySem.W.Frag) : Sp := fun vs H Q _ => ∃ (kt : Vl → Str) (hp : Addr) (rows : List Row) (j j2 : Nat) (va vt : V) (es fs : List (Vl × Vl)), vs = [.ref hp, va, vt] ∧ DAt K H hp rows j es va ∧ rows[j2]? = some (.dct fs) ∧ Dt K H vt (.tuple [vlD (.ref j2)]) ∧ (∀ e ∈ es, KTx rows kt e.1) ∧ (∀ e ∈ fs, KTx rows kt e.1) ∧
  (es.map fun e => kt e.1).Nodup ∧ (fs.map fun e => kt e.1).Nodup ∧ es.length + fs.length ≤ 1000 ∧
  ∀ u H', Keep hp H H' → Dt K H' u doneD → ListAt K H' hp ((rows.set j (.dct (updT kt es fs))).map rowD) → Q u H'
theorem ok_updM {f : Addr} {fd : FuncData} (F : Fun K "_update" "_update" s_update f fd) (T : Txt K mg) (U_key_text : Use P w K mg base CX0 "key_text" 3 P_key_text (spKeyText K)) : FnG P w K mg base CX0 4 f fd P_update (spUpdM K) := by
  refine okG0 F sc_update (fun vs H Q E h => ?_) fun cdv A outer s H vs Q E hr hg h => ?_
  · obtain ⟨kt, hp, rows, j, j2, va, vt, es, fs, rfl, _⟩ := h
    rfl
  · obtain ⟨kt, hp, rows, j, j2, va, vt, es, fs, rfl, D, hr2, dt, hke, hkf, hne, hnf, hl, k⟩ := h
    have hu : (A.deeper (envOfC "_update" (defScope s_update) s.heap.objs.size f cdv)).units + 1 < cLine := Nat.lt_of_le_of_lt (by omega) hr.units
    refine ⟨_, (pss_cons (ps_set (i := 3) sc_update.nd rfl (Or.inl rfl) (pe_callTy call_list_of (by rfl) T.b_list (by decide +kernel) (pa_cons (pe_ix ix_tup (pe_ix ix_list (pv 0) (pe_ix ix_tup (pv 1) pe_int (fun _ _ => rfl)) (fun _ _ => rfl)) pe_int (fun _ _ => rfl)) pa_nil)))
  (pss_cons (ps_set (i := 4) sc_update.nd rfl (Or.inl rfl) pe_dnewT)
  (pss_cons (ps_for PassesOwn.never rfl (pi_enum (by rfl) T.b_enumerate (pa_cons (pv 3) pa_nil)) (pg_tup (by rfl) (pgs_cons (pg_name (i := 5) sc_update.nd rfl (Or.inl rfl)) (pgs_cons (pg_tup (by rfl) (pgs_cons (pg_name (i := 6) sc_update.nd rfl (Or.inl rfl)) (pgs_cons (pg_name (i := 7) sc_update.nd rfl (Or.inl rfl)) pgs_nil))) pgs_nil)))
   (pss_one (ps_dput hu (pv 4) (pe_use U_key_text (hr.mono (by decide)) hg rfl (pa_cons (pv 0) (pa_cons (pv 6) pa_nil))) (pv 5) rfl)))
  (pss_cons (ps_for PassesOwn.never rfl (pi_tup (pe_ix ix_tup (pe_ix ix_list (pv 0) (pe_ix ix_tup (pe_ix ix_tup (pv 2) pe_int (fun _ _ => rfl)) pe_int (fun _ _ => rfl)) (fun _ _ => rfl)) pe_int (fun _ _ => rfl))) (pg_tup (by rfl) (pgs_cons (pg_name (i := 6) sc_update.nd rfl (Or.inl rfl)) (pgs_cons (pg_name (i := 8) sc_update.nd rfl (Or.inl rfl)) pgs_nil)))
   (pss_cons (ps_set (i := 9) sc_update.nd rfl (Or.inl rfl) (pe_use U_key_text (hr.mono (by decide)) hg rfl (pa_cons (pv 0) (pa_cons (pv 6) pa_nil))))
  (pss_one (ps_if (pt_cmp (pc_din hu (pv 9) (pv 4)))
   (pss_cons (ps_set (i := 5) sc_update.nd rfl (Or.inl rfl) (pe_dget hu (pv 4) (pv 9) (fun _ _ => rfl)))
  (pss_one (ps_asg (pe_tup (pa_cons (pe_ix ix_tup (pe_ix ix_list (pv 3) (pv 5) (fun _ _ => rfl)) pe_int (fun _ _ => rfl)) (pa_cons (pv 8) pa_nil))) (pg_sub (pv 3) (pv 5) set_list))))
   (pss_one (ps_expr (pe_bm PySem.F.plainAttrs_list PySem.F.slot_list_append PySem.F.type_list_append mt_append (pv 3) (pa_cons (pe_tup (pa_cons (pv 6) (pa_cons (pv 8) pa_nil))) pa_nil))))))))
  (pss_cons (ps_if (pt_cmpR op_gt (pe_callB call_len (by rfl) T.b_len PySem.boot_len (pa_cons (pv 3) pa_nil)) (pe_globI T.c_MOST_ENTRIES (by rfl)) (nomark _))
   (pss_one (ps_ret (pe_globT T.c_TOO_LARGE (by rfl))))
   pss_nil)
  (pss_cons (ps_asg (pe_tup (pa_cons pe_str (pa_cons (pe_callTy call_tuple_of (by rfl) T.b_tuple (by decide +kernel) (pa_cons (pv 3) pa_nil)) pa_nil))) (pg_sub (pv 0) (pe_ix ix_tup (pv 1) pe_int (fun _ _ => rfl)) set_list))
  (pss_one (ps_ret (pe_globD T.c_DONE (by rfl)))))))))), ?_⟩
    obtain ⟨q, zs, y0, q2, x2, rfl, hq, ez, az, hy, rfl, hq2, d2⟩ := D.rd
    obtain ⟨ea, xs, rfl, hea, ae⟩ := d2.tuple_inv
    obtain ⟨qt, ts, rfl, hqt, at_⟩ := dt.tuple_inv
    obtain ⟨vb, _, rfl, db, dn⟩ := at_.cons_inv
    cases dn.nil_inv
    obtain ⟨qb, wb, rfl, hqb, dwb⟩ := dvl db
    obtain ⟨v1, _, rfl, dv1, dn⟩ := dwb.cons_inv
    cases dn.nil_inv
    cases dv1.int_inv
    obtain ⟨y4, hy4, dy4⟩ := az.get (i := j2) (d := rowD (.dct fs)) (by rw [List.getElem?_map, hr2]; rfl)
    obtain ⟨q4, x3, x4, rfl, hq4, _, d4⟩ := dt_pr dy4
    obtain ⟨fa, fxs, rfl, hfa, af⟩ := d4.tuple_inv
    have lx := ae.length
    have lf := af.length
    rw [List.length_map] at lx lf
    refine ⟨_, rfl, _, rfl, q, _, _, _, rfl, rfl, hq, at1, hp, _, _, _, rfl, rfl, SqL.of ez, hy, q2, _, _, _, rfl, rfl, hq2, at1, ea, xs, rfl, .inr hea, fun el hel => ?_⟩
    have S0 := Same.new (o := .lst xs) hel
    have E0 : ListAt K (upd H el (.lst xs)) el (es.map entD) := listAt_made hel ae
    have el0 : H el = none := hel
    generalize upd H el (.lst xs) = H0 at S0 E0
    refine fun pd hpd => ?_
    have pd0 : H pd = none := same_none' S0 hpd
    have S1 := S0.trans (Same.new (o := .dT []) hpd)
    have E1 := listAt_mono E0 (Same.new (o := .dT []) hpd)
    have nep : el ≠ pd := by obtain ⟨ys, e, _⟩ := E0; exact ne_of_none e hpd
    have eu1 : upd H0 pd (.dT []) pd = some (.dT []) := upd_same
    generalize upd H0 pd (.dT []) = H1 at S1 E1 eu1
    clear S0 E0 hel hpd
    obtain ⟨ys, ey, ay⟩ := id E1
    have ly := ay.length
    rw [List.length_map] at ly
    refine ⟨_, rfl, el, _, rfl, SqL.of ey, ?_⟩
    refine for_it (walk_enum (xs := ys)) (fun i σ H4 => ∃ (kvs : List (List Key × V)) (x5 x6 x7 : Option V), σ = [some (.ref hp), some (.ref q), some (.ref qt), some (.ref el), some (.ref pd), x5, x6, x7, none, none] ∧ Same H H4 ∧ ListAt K H4 el (es.map entD) ∧ H4 el = some (.lst ys) ∧ H4 pd = some (.dT kvs) ∧ kvs.length ≤ i ∧ ∀ t, valV kvs (keyT t) = (fT kt (es.take i) t).map fun n => V.int ((n : Nat) : Int)) ⟨[], none, none, none, rfl, S1, E1, ey, eu1, Nat.le_refl _, fun t => rfl⟩ (fun _ _ _ _ h => let ⟨_, _, _, _, _, _, _, e, _⟩ := h; SqL.of e) ?_ ?_
    · rintro i v σ H4 H5 hi ⟨kvs, x5, x6, x7, rfl, S4, E4, ey4, e4, l4, w4⟩ ⟨u, y1, y2, rfl, hu2, rfl, e1, e2⟩
      cases e1
      have hdi : es[i]? = some es[i] := List.getElem?_eq_getElem (by omega)
      have hmem := List.getElem_mem (l := es) (n := i) (by omega)
      generalize es[i] = g at hdi hmem
      obtain ⟨ys', ey', ay'⟩ := id E4
      rw [ey4] at ey'
      cases ey'
      obtain ⟨v', hv', dv⟩ := ay'.get (i := i) (d := entD g) (by rw [List.getElem?_map, hdi]; rfl)
      have e2 : ys[i]? = some y2 := e2
      rw [e2] at hv'
      cases hv'
      have S45 := Same.new (o := .tup [V.int ((i : Nat) : Int), y2]) hu2
      have S5 := S4.trans S45
      have E5 := listAt_mono E4 S45
      have ey5 := S45 _ _ ey4
      have e5 := S45 _ _ e4
      have eu : SqT K (upd H4 u (.tup [V.int ((i : Nat) : Int), y2])) u [V.int ((i : Nat) : Int), y2] := SqT.of upd_same
      have dv5 := dv.mono S45
      generalize upd H4 u (.tup [V.int ((i : Nat) : Int), y2]) = H5 at S5 E5 ey5 e5 eu dv5
      clear S45
      obtain ⟨qe, z1, z2, rfl, hqe, d1, d2⟩ := dt_ent dv5
      refine ⟨u, _, rfl, eu, rfl, _, _, rfl, _, _, rfl, qe, _, rfl, hqe, rfl, _, _, rfl, _, _, rfl, rfl, rfl, ?_⟩
      obtain ⟨n, ws, hkw, hn9, hkt⟩ := hke g hmem
      refine ⟨_, rfl, _, rfl, _, rfl, _, rfl, hp, rows, _, g.1, n, some ws, "", rfl, listAt_mono D.L S5, d1, hkw, hn9, (fun h => nomatch h), fun qk H6 S6 hqn eq => ?_⟩
      have e6 := S6 _ _ e5
      have hle := D.l
      refine ⟨pd, _, rfl, DPut.t (k := keyT (kt g.1)) e6 (by rw [eq, hkt]; rfl) (Nat.lt_of_le_of_lt (show kvs.length ≤ 1000 by omega) (by decide)), ?_⟩
      have S56 := S5.trans S6
      have kD : KeepD pd H6 (upd H6 pd (.dT (putK kvs (keyT (kt g.1)) (V.int ((i : Nat) : Int))))) := fun b o e ne => by rw [upd_ne ne]; exact e
      have kT := keepT_dT (K := K) e6 kD
      refine ⟨putK kvs (keyT (kt g.1)) (V.int ((i : Nat) : Int)), _, _, _, rfl, fun b o e => by rw [upd_ne (ne_of_none e pd0)]; exact S56 b o e, listAt_D (listAt_mono E5 S6) kD kT nep, by rw [upd_ne nep]; exact S6 _ _ ey5, upd_same, by have := length_putK kvs (keyT (kt g.1)) (V.int ((i : Nat) : Int)); omega, fun t => ?_⟩
      rw [List.take_succ, hdi, valV_put]
      show _ = (fT kt (es.take i ++ [g]) t).map _
      rw [fT_app, fT_one, List.length_take, Nat.min_eq_left (by omega)]
      by_cases ct : kt g.1 = t
      · subst ct
        rw [if_pos rfl, if_pos rfl]
        have hno : fT kt (es.take i) (kt g.1) = none := fT_none fun e he hc => by
          have := nodup_at hne (i := i) (x := kt g.1) (by rw [List.getElem?_map, hdi]; rfl)
          rw [← List.map_take] at this
          exact this (List.mem_map.mpr ⟨e, he, hc⟩)
        rw [hno]
        show _ = some (V.int (((0 + i : Nat)) : Int))
        rw [Nat.zero_add]
      · rw [if_neg fun c => ct (keyT_inj c).symm, if_neg ct, w4 t]
        cases fT kt (es.take i) t <;> rfl
    · rintro σ H4 ⟨kvs, x5, x6, x7, rfl, S4, E4, _, e4, l4, w4⟩
      rw [ly, List.take_length] at w4
      refine ⟨_, rfl, _, rfl, qt, _, _, _, rfl, rfl, Same.tupl S4 hqt, at0, qb, _, _, _, rfl, rfl, Same.tupl S4 hqb, at1, hp, _, _, _, rfl, rfl, SqL.of (S4 _ _ ez), atI_nat hy4, q4, _, _, _, rfl, rfl, Same.tupl S4 hq4, at1, fa, rfl, ⟨_, Same.tupl S4 hfa⟩, ?_⟩
      refine for_it (walk_tup (xs := fxs)) (fun i σ H6 => ∃ (x5 x6 x7 x8 x9 : Option V), σ = [some (.ref hp), some (.ref q), some (.ref qt), some (.ref el), some (.ref pd), x5, x6, x7, x8, x9] ∧ Same H H6 ∧ ListAt K H6 el ((updT kt es (fs.take i)).map entD) ∧ H6 pd = some (.dT kvs)) ⟨_, _, _, _, _, rfl, S4, E4, e4⟩ (fun _ _ _ _ h => let ⟨_, _, _, _, _, _, S, _⟩ := h; Same.tupl S hfa) ?_ ?_
      · rintro i v σ H6 H7 hi ⟨x5, x6, x7, x8, x9, rfl, S6, E6, e6⟩ ⟨rfl, hx⟩
        have hdi : fs[i]? = some fs[i] := List.getElem?_eq_getElem (by omega)
        have hmem := List.getElem_mem (l := fs) (n := i) (by omega)
        generalize fs[i] = g at hdi hmem
        obtain ⟨v', hv', dv⟩ := af.get (i := i) (d := entD g) (by rw [List.getElem?_map, hdi]; rfl)
        rw [hx] at hv'
        cases hv'
        obtain ⟨qe, y1, y2, rfl, hqe, d1, d2⟩ := dt_ent (dv.mono S6)
        refine ⟨qe, _, rfl, hqe, rfl, _, _, rfl, _, _, rfl, rfl, ?_⟩
        obtain ⟨n, ws, hkw, hn9, hkt⟩ := hkf g hmem
        refine ⟨_, rfl, _, rfl, hp, rows, _, g.1, n, some ws, "", rfl, listAt_mono D.L S6, d1, hkw, hn9, (fun h => nomatch h), fun qk H8 S8 hqn eq => ?_⟩
        have e8 := S8 _ _ e6
        have eq8 : H8 qk = some (.tup ((keyT (kt g.1)).map kV)) := by rw [eq, hkt]; rfl
        have S68 := S6.trans S8
        have E8 := listAt_mono E6 S8
        have d1 := d1.mono S8
        have d2 := d2.mono S8
        have hfE : fT kt (updT kt es (fs.take i)) (kt g.1) = fT kt es (kt g.1) := fT_upd _ _ fun e he hc => by
          have := nodup_at hnf (i := i) (x := kt g.1) (by rw [List.getElem?_map, hdi]; rfl)
          rw [← List.map_take] at this
          exact this (List.mem_map.mpr ⟨e, he, hc⟩)
        have hE : updT kt es (fs.take (i + 1)) = putT kt (updT kt es (fs.take i)) g := by
          rw [List.take_succ, hdi]
          exact updT_snoc kt es (fs.take i) g
        have hlE := updT_len kt (fs.take i) es
        rw [List.length_take] at hlE
        have w8 := w4 (kt g.1)
        clear S6 E6 e6 hx dv
        obtain ⟨es', hes'⟩ : ∃ z, updT kt es (fs.take i) = z := ⟨_, rfl⟩
        rw [hes'] at E8 hfE hE hlE
        obtain ⟨zs', ez', az'⟩ := id E8
        have lz' := az'.length
        rw [List.length_map] at lz'
        refine ⟨_, rfl, _, rfl, pd, _, rfl, DGet.t (k := keyT (kt g.1)) e8 eq8, _, rfl, ?_⟩
        cases hf : fT kt es (kt g.1) with
        | some m =>
          rw [hf] at w8 hfE
          rw [w8]
          obtain ⟨e, he, _⟩ := fT_lt hfE
          have hm := (List.getElem?_eq_some_iff.mp he).1
          obtain ⟨ve', hve, dve⟩ := az'.get (i := m) (d := entD e) (by rw [List.getElem?_map, he]; rfl)
          obtain ⟨qx, z1, z2, rfl, hqx, dz1, dz2⟩ := dt_ent dve
          refine iteTb rfl ?_
          refine ⟨_, rfl, _, rfl, pd, _, rfl, by rw [← (show valV kvs (keyT (kt g.1)) = some (V.int ((m : Nat) : Int)) from w8)]; exact DGet.t (k := keyT (kt g.1)) e8 eq8, ?_⟩
          refine ⟨_, rfl, _, rfl, el, _, _, _, rfl, rfl, SqL.of ez', atI_nat hve, qx, _, _, _, rfl, rfl, hqx, at0, _, rfl, sz_2, fun u hu => ?_⟩
          have S9 := Same.new (o := .tup [z1, y2]) hu
          have du : Dt K _ (.ref u) (entD (e.1, g.2)) := Dt.made (K := K) hu (.cons dz1 (.cons d2 .nil))
          refine ⟨_, rfl, _, rfl, el, _, _, m, rfl, rfl, S9 _ _ ez', ixN_natD (by omega), ?_⟩
          refine ⟨_, _, _, _, _, rfl, fun b o eb => by rw [upd_ne (ne_of_none eb el0)]; exact (S68.trans S9) b o eb, ?_, by rw [upd_ne (Ne.symm nep)]; exact S9 _ _ e8⟩
          rw [hE, show putT kt es' g = es'.set m (e.1, g.2) by unfold putT; rw [hfE]; show es'.set m ((es'.getD m g).1, g.2) = _; rw [List.getD_eq_getElem?_getD, he]; rfl, List.map_set]
          refine ⟨_, upd_same, ?_⟩
          exact dtAll_setD ((az'.mono S9).keepT (KeepT.upd (S9 _ _ ez'))) (du.keepT (KeepT.upd (S9 _ _ ez')))
        | none =>
          rw [hf] at w8 hfE
          rw [w8]
          refine iteFb rfl ?_
          refine ⟨_, rfl, .inl ⟨rfl, _, SqL.of ez'⟩, _, rfl, _, rfl, sz_2, fun u hu => ⟨el, _, _, rfl, rfl, (Same.new hu) _ _ ez', js_lt (by omega), ?_⟩⟩
          have S9 := Same.new (o := .tup [y1, y2]) hu
          refine ⟨_, _, _, _, _, rfl, fun b o eb => by rw [upd_ne (ne_of_none eb el0)]; exact (S68.trans S9) b o eb, ?_, by rw [upd_ne (Ne.symm nep)]; exact S9 _ _ e8⟩
          rw [hE, show putT kt es' g = es' ++ [g] by unfold putT; rw [hfE], List.map_append]
          exact listAt_app (listAt_mono E8 S9) (S9 _ _ ez') (Dt.made hu (.cons d1 (.cons d2 .nil)))
      · rintro σ H6 ⟨x5, x6, x7, x8, x9, rfl, S6, E6, e6⟩
        rw [lf, List.take_length] at E6
        obtain ⟨zs', ez', az'⟩ := id E6
        have lz' := az'.length
        rw [List.length_map] at lz'
        have hlE := updT_len kt fs es
        refine ⟨_, rfl, _, _, rfl, .inl ⟨_, SqL.of ez', rfl⟩, _, _, rfl, rfl, _, rfl, iteFb (decide_eq_false (by rw [lz']; omega)) ?_⟩
        refine ⟨_, rfl, el, _, rfl, .inl ⟨SqL.of ez', fun t ht => ⟨sz_2, fun u7 hu7 => ?_⟩⟩⟩
        have S7 := (Same.new (o := .tup zs') ht).trans (Same.new (o := .tup [V.str "dict", V.ref t]) hu7)
        have S17 := S6.trans S7
        have du7 : Dt K _ (.ref u7) (rowD (.dct (updT kt es fs))) := Dt.made hu7 (.cons (.str _) (.cons (Dt.made ht az') .nil))
        obtain ⟨zs8, ez8, hix, K8, L8⟩ := set_row (D.mono S17) du7
        refine ⟨_, rfl, _, rfl, q, _, _, _, rfl, rfl, Same.tupl S17 hq, at1, hp, _, _, j, rfl, rfl, ez8, hix, ?_⟩
        exact fun v hv => k _ _ ((Same.keep S17).trans K8) (hv _) L8
end

section
--SPLIT
end
abbrev s_sort_of : Stmt := top 16
abbrev N_sort_of : List Str := ["heap", "value"]
abbrev P_sort_of : List Str := ["heap", "value"]
theorem sc_sort_of : FnScope N_sort_of P_sort_of (defScope s_sort_of) := ⟨rfl, rfl, rfl, by decide +kernel, rfl, by decide +kernel, by decide +kernel⟩
abbrev s_cannot_take : Stmt := top 65
abbrev N_cannot_take : List Str := ["heap", "name", "value"]
abbrev P_cannot_take : List Str := ["heap", "name", "value"]
theorem sc_cannot_take : FnScope N_cannot_take P_cannot_take (defScope s_cannot_take) := ⟨rfl, rfl, rfl, by decide +kernel, rfl, by decide +kernel, by decide +kernel⟩
abbrev s_kind_refusal : Stmt := top 64
abbrev N_kind_refusal : List Str := ["heap", "name", "args", "_", "kinds", "behind", "value", "taken"]
abbrev P_kind_refusal : List Str := ["heap", "name", "args"]
theorem sc_kind_refusal : FnScope N_kind_refusal P_kind_refusal (defScope s_kind_refusal) := ⟨rfl, rfl, rfl, by decide +kernel, rfl, by decide +kernel, by decide +kernel⟩
def dat_SIGNATURES : List (Str × PyData) := .cons (("print" : Str), (.tuple [(.int (0)), (.int (-1)), (.tuple [])])) (.cons (("len" : Str), (.tuple [(.int (1)), (.int (1)), (.tuple [])])) (.cons (("range" : Str), (.tuple [(.int (1)), (.int (2)), (.tuple [(.str "int bool"), (.str "int bool")])])) (.cons (("repr" : Str), (.tuple [(.int (1)), (.int (1)), (.tuple [])])) (.cons (("str" : Str), (.tuple [(.int (0)), (.int (1)), (.tuple [])])) (.cons (("int" : Str), (.tuple [(.int (0)), (.int (1)), (.tuple [(.str "int bool text")])])) (.cons (("list" : Str), (.tuple [(.int (0)), (.int (1)), (.tuple [(.str "list tuple text span dict")])])) (.cons (("tuple" : Str), (.tuple [(.int (0)), (.int (1)), (.tuple [(.str "list tuple text span dict")])])) (.cons (("dict" : Str), (.tuple [(.int (0)), (.int (1)), (.tuple [(.str "dict")])])) (.cons (("iter" : Str), (.tuple [(.int (1)), (.int (1)), (.tuple [])])) (.cons (("next" : Str), (.tuple [(.int (1)), (.int (2)), (.tuple [])])) (.cons (("isinstance" : Str), (.tuple [(.int (2)), (.int (2)), (.tuple [(.str ""), (.str "class built")])])) (.cons (("abs" : Str), (.tuple [(.int (1)), (.int (1)), (.tuple [(.str "int bool")])])) (.cons (("str.find" : Str), (.tuple [(.int (2)), (.int (2)), (.tuple [(.str "text")])])) (.cons (("str.replace" : Str), (.tuple [(.int (3)), (.int (3)), (.tuple [(.str "text"), (.str "text")])])) (.cons (("str.split" : Str), (.tuple [(.int (1)), (.int (2)), (.tuple [(.str "text")])])) (.cons (("str.join" : Str), (.tuple [(.int (2)), (.int (2)), (.tuple [(.str "list tuple")])])) (.cons (("str.startswith" : Str), (.tuple [(.int (2)), (.int (2)), (.tuple [(.str "text")])])) (.cons (("str.endswith" : Str), (.tuple [(.int (2)), (.int (2)), (.tuple [(.str "text")])])) (.cons (("str.strip" : Str), (.tuple [(.int (1)), (.int (1)), (.tuple [])])) (.cons (("str.upper" : Str), (.tuple [(.int (1)), (.int (1)), (.tuple [])])) (.cons (("str.lower" : Str), (.tuple [(.int (1)), (.int (1)), (.tuple [])])) (.cons (("str.isdigit" : Str), (.tuple [(.int (1)), (.int (1)), (.tuple [])])) (.cons (("list.append" : Str), (.tuple [(.int (2)), (.int (2)), (.tuple [])])) (.cons (("list.pop" : Str), (.tuple [(.int (1)), (.int (2)), (.tuple [])])) (.cons (("list.insert" : Str), (.tuple [(.int (3)), (.int (3)), (.tuple [(.str "int bool")])])) (.cons (("list.remove" : Str), (.tuple [(.int (2)), (.int (2)), (.tuple [])])) (.cons (("list.index" : Str), (.tuple [(.int (2)), (.int (2)), (.tuple [])])) (.cons (("list.count" : Str), (.tuple [(.int (2)), (.int (2)), (.tuple [])])) (.cons (("list.extend" : Str), (.tuple [(.int (2)), (.int (2)), (.tuple [(.str "list tuple")])])) (.cons (("list.reverse" : Str), (.tuple [(.int (1)), (.int (1)), (.tuple [])])) (.cons (("list.copy" : Str), (.tuple [(.int (1)), (.int (1)), (.tuple [])])) (.cons (("list.clear" : Str), (.tuple [(.int (1)), (.int (1)), (.tuple [])])) (.cons (("tuple.index" : Str), (.tuple [(.int (2)), (.int (2)), (.tuple [])])) (.cons (("tuple.count" : Str), (.tuple [(.int (2)), (.int (2)), (.tuple [])])) (.cons (("dict.get" : Str), (.tuple [(.int (2)), (.int (3)), (.tuple [])])) (.cons (("dict.pop" : Str), (.tuple [(.int (2)), (.int (3)), (.tuple [])])) (.cons (("dict.setdefault" : Str), (.tuple [(.int (3)), (.int (3)), (.tuple [])])) (.cons (("dict.update" : Str), (.tuple [(.int (2)), (.int (2)), (.tuple [(.str "dict")])])) (.cons (("dict.keys" : Str), (.tuple [(.int (1)), (.int (1)), (.tuple [])])) (.cons (("dict.values" : Str), (.tuple [(.int (1)), (.int (1)), (.tuple [])])) (.cons (("dict.items" : Str), (.tuple [(.int (1)), (.int (1)), (.tuple [])])) (.cons (("dict.copy" : Str), (.tuple [(.int (1)), (.int (1)), (.tuple [])])) (.cons (("dict.clear" : Str), (.tuple [(.int (1)), (.int (1)), (.tuple [])])) (.cons (("gen.send" : Str), (.tuple [(.int (2)), (.int (2)), (.tuple [])])) (.cons (("gen.close" : Str), (.tuple [(.int (1)), (.int (1)), (.tuple [])])) (.nil))))))))))))))))))))))))))))))))))))))))))))))
section
/-! what a built-in takes -/
theorem inV_strs2 {x : Str} (ys : List Str) : inV (.str x) (ys.map V.str) = decide (x ∈ ys) := by
  unfold inV
  induction ys with
  | nil => rfl
  | cons y r ih =>
    rw [List.map_cons, List.any_cons, ih]
    have : eqV (.str y) (.str x) = decide (y = x) := by
      show (y == x) = _
      by_cases e : y = x
      · subst e; simp
      · simp [e]
    rw [this]
    by_cases e : y = x
    · subst e; simp
    · have : x ≠ y := fun h => e h.symm
      simp [e, this]
inductive SortIs (hds : List PyData) : PyData → Str → Prop
  | plain {z : Str} {rest : List PyData} : z ≠ "ref" → SortIs hds (.tuple (.str z :: rest)) z
  | obj {k : Nat} {kd : Str} {rest : List PyData} : hds[k]? = some (.tuple (.str kd :: rest)) → SortIs hds (refD k) kd
def sortR (rows : List Row) : Vl → Str
  | .ref k => match rows[k]? with
    | some r => rkd r
    | none => ""
  | x => knd x
theorem sortR_is {rows : List Row} {x : Vl} (h : ∀ k, x = .ref k → k < rows.length) : SortIs (rows.map rowD) (vlD x) (sortR rows x) := by
  by_cases c : kn x = 5
  · cases x with
    | ref k =>
      have hk := h k rfl
      obtain ⟨rest, e⟩ := rowD_hd rows[k]
      have hr : rows[k]? = some rows[k] := List.getElem?_eq_getElem hk
      have e2 : sortR rows (.ref k) = rkd rows[k] := by
        show (match rows[k]? with | some r => rkd r | none => "") = _
        rw [hr]
      rw [e2]
      exact .obj (rest := rest) (by rw [List.getElem?_map, hr]; exact congrArg some e)
    | _ => simp [kn] at c
  · have e2 : sortR rows x = knd x := by cases x <;> first | rfl | (simp [kn] at c; done)
    rw [e2, vlD_eq]
    exact .plain (knd_ne (y := .ref 0) c)
/-- the first argument of a kind that is not taken -/
def kp (rows : List Row) (p : Vl × Str) : Bool := decide (p.2 ≠ ("" : Str)) && decide (sortR rows p.1 ∉ Txt.words p.2)
def kbad (rows : List Row) (xs : List Vl) (ks : List Str) : Option Vl := ((xs.zip ks).find? (kp rows)).map (·.1)
def krefD (name t : Str) : PyData := .tuple [.str "raise", .int 10, .str ((name ++ "() cannot take ") ++ t)]
def SigAt (name : Str) (ks : List Str) : Prop := ∃ (i : Nat) (a b : Int), dat_SIGNATURES[i]? = some (name, .tuple [.int a, .int b, .tuple (ks.map PyData.str)])
end
section
variable {P : Program} {w : World} {K : PySem.W.Frag} {mg : Str → Option Value} {base : Heap}
def spSort (K : PySem.W.Frag) : Sp := fun vs H Q _ => ∃ (hp : Addr) (hds : List PyData) (v : V) (d : PyData) (kd : Str), vs = [.ref hp, v] ∧ ListAt K H hp hds ∧ Dt K H v d ∧ SortIs hds d kd ∧ Q (.str kd) H
theorem ok_sortof {f : Addr} {fd : FuncData} (F : Fun K "sort_of" "sort_of" s_sort_of f fd) (T : Txt K mg) : FnG P w K mg base CX0 1 f fd P_sort_of (spSort K) := by
  refine okG0 F sc_sort_of (fun vs H Q E h => ?_) fun cdv A outer s H vs Q E hr hg h => ?_
  · obtain ⟨hp, hds, v, d, kd, rfl, _⟩ := h
    rfl
  · obtain ⟨hp, hds, v, d, kd, rfl, ⟨xs, hx, ax⟩, hd, hk, k⟩ := h
    refine ⟨_, (pss_cons (ps_if (pt_cmpR op_eq (pe_ix ix_tup (pv 1) pe_int (fun _ _ => rfl)) pe_str (nomark _))
   (pss_one (ps_ret (pe_ix ix_tup (pe_ix ix_list (pv 0) (pe_ix ix_tup (pv 1) pe_int (fun _ _ => rfl)) (fun _ _ => rfl)) pe_int (fun _ _ => rfl))))
   pss_nil)
  (pss_one (ps_ret (pe_ix ix_tup (pv 1) pe_int (fun _ _ => rfl))))), ?_⟩
    cases hk with
    | plain hz =>
      obtain ⟨q, ws, rfl, hs, _⟩ := hd.head
      exact ⟨_, rfl, q, _, _, _, rfl, rfl, hs, at0, rfl, _, rfl, iteFb (dec_str hz) ⟨_, rfl, q, _, _, _, rfl, rfl, hs, at0, k⟩⟩
    | @obj i _ rest hh =>
      obtain ⟨q, y, rfl, hs, h2⟩ := hd.pair
      cases h2.int_inv
      obtain ⟨o, ho, dO⟩ := ax.get hh
      obtain ⟨qo, zs, rfl, hso, _⟩ := dO.head
      refine ⟨_, rfl, q, _, _, _, rfl, rfl, hs, at0, rfl, _, rfl, iteTb (by decide +kernel) ?_⟩
      exact ⟨_, rfl, _, rfl, q, _, _, _, rfl, rfl, hs, at1, hp, _, _, _, rfl, rfl, SqL.of hx, atI_nat ho, qo, _, _, _, rfl, rfl, hso, at0, k⟩
def spCannot (K : PySem.W.Frag) : Sp := fun vs H Q _ => ∃ (hp : Addr) (hds : List PyData) (name : Str) (v : V) (d : PyData) (t : Str), vs = [.ref hp, .str name, v] ∧ ListAt K H hp hds ∧ Dt K H v d ∧ NameOf hds d t ∧ name.length ≤ 100 ∧ t.length ≤ 1000 ∧ ∀ u H', Same H H' → Dt K H' u (krefD name t) → Q u H'
theorem ok_cannot {f : Addr} {fd : FuncData} (F : Fun K "cannot_take" "cannot_take" s_cannot_take f fd) (T : Txt K mg) (U_kind_name : Use P w K mg base CX0 "kind_name" 1 P_kind_name (spKName K)) : FnG P w K mg base CX0 2 f fd P_cannot_take (spCannot K) := by
  refine okG0 F sc_cannot_take (fun vs H Q E h => ?_) fun cdv A outer s H vs Q E hr hg h => ?_
  · obtain ⟨hp, hds, name, v, d, t, rfl, _⟩ := h
    rfl
  · obtain ⟨hp, hds, name, v, d, t, rfl, L, dv, hk, hl, ht, k⟩ := h
    refine ⟨_, (pss_one (ps_ret (pe_tup (pa_cons pe_str (pa_cons (pe_globI T.c_TYPE_ERROR (by rfl)) (pa_cons (pe_op op_add_str (pe_op op_add_str (pv 1) pe_str) (pe_use U_kind_name (hr.mono (by decide)) hg rfl (pa_cons (pv 0) (pa_cons (pv 2) pa_nil)))) pa_nil)))))), ?_⟩
    have ln : ("() cannot take " : Str).length = 15 := rfl
    refine ⟨_, rfl, _, _, rfl, rfl, ss_le (by rw [ln]; omega), _, rfl, _, rfl, hp, _, v, _, t, rfl, L, dv, hk, _, _, rfl, rfl, ss_le (by rw [strlen_cat, ln]; omega), sz_3, fun u hu => ?_⟩
    exact k _ _ (Same.new hu) (Dt.made hu (.cons (.str _) (.cons (.int _) (.cons (.str _) .nil))))
def spKRef (K : PySem.W.Frag) : Sp := fun vs H Q _ => ∃ (hp : Addr) (rows : List Row) (name : Str) (va : V) (xs : List Vl) (x0 : Vl) (ks : List Str), vs = [.ref hp, .str name, va] ∧ SigAt name ks ∧ ListAt K H hp (rows.map rowD) ∧ Dt K H va (.tuple ((x0 :: xs).map vlD)) ∧ 46 ∈ name.cps.toList ∧ name.length ≤ 100 ∧ xs.length ≤ 100 ∧ (∀ z ∈ ks, z.length ≤ 1000 ∧ (Txt.words z).length ≤ 1000) ∧ (∀ x ∈ xs, ∀ k, x = .ref k → k < rows.length) ∧
  (kbad rows xs ks = none → ∀ u H', Same H H' → Dt K H' u (.tuple []) → Q u H') ∧ (∀ x, kbad rows xs ks = some x → ∃ t, NameOf (rows.map rowD) (vlD x) t ∧ t.length ≤ 1000 ∧ ∀ u H', Same H H' → Dt K H' u (krefD name t) → Q u H')
theorem ok_kref {f : Addr} {fd : FuncData} (F : Fun K "kind_refusal" "kind_refusal" s_kind_refusal f fd) (T : Txt K mg) (U_SIGNATURES : UseDat P w K mg "SIGNATURES" dat_SIGNATURES) (U_sort_of : Use P w K mg base CX0 "sort_of" 1 P_sort_of (spSort K)) (U_cannot_take : Use P w K mg base CX0 "cannot_take" 2 P_cannot_take (spCannot K)) : FnG P w K mg base CX0 3 f fd P_kind_refusal (spKRef K) := by
  obtain ⟨aD_SIGNATURES, gD_SIGNATURES, hsig⟩ := U_SIGNATURES.dict
  refine okG0 F sc_kind_refusal (fun vs H Q E h => ?_) fun cdv A outer s H vs Q E hr hg h => ?_
  · obtain ⟨hp, rows, name, va, xs, x0, ks, rfl, _⟩ := h
    rfl
  · obtain ⟨hp, rows, name, va, xs, x0, ks, rfl, ⟨i, a, b, hi⟩, L, da, hdot, hl, hxl, hks, hrf, k0, k1⟩ := h
    refine ⟨_, (pss_cons (ps_asg (pe_dgetK (pe_glob (v := .ref aD_SIGNATURES) (by rfl) gD_SIGNATURES rfl) (pv 1) (fun _ _ => rfl)) (pg_tup (by rfl) (pgs_cons (pg_name (i := 3) sc_kind_refusal.nd rfl (Or.inl rfl)) (pgs_cons (pg_name (i := 3) sc_kind_refusal.nd rfl (Or.inl rfl)) (pgs_cons (pg_name (i := 4) sc_kind_refusal.nd rfl (Or.inl rfl)) pgs_nil)))))
  (pss_cons (ps_set (i := 5) sc_kind_refusal.nd rfl (Or.inl rfl) (pv 2))
  (C8.pss_cut (ps_if (pt_cmpR op_in_sign pe_str (pv 1) (by rfl))
   (pss_one (ps_set (i := 5) sc_kind_refusal.nd rfl (Or.inl rfl) (pe_slice sl_row (pv 2) (po_some pe_int) po_none)))
   pss_nil)
  (pss_cons (ps_for PassesOwn.never rfl (RZ.pi_zipA (by rfl) T.b_zip (pa_cons (pv 5) (pa_cons (pv 4) pa_nil))) (pg_tup (by rfl) (pgs_cons (pg_name (i := 6) sc_kind_refusal.nd rfl (Or.inl rfl)) (pgs_cons (pg_name (i := 7) sc_kind_refusal.nd rfl (Or.inl rfl)) pgs_nil)))
   (pss_one (ps_if (PW.pt (pw_and (pt_cmpR op_ne (pv 7) pe_str (nomark _)) (pw_and1 (pt_cmpR op_notIn_seq (pe_use U_sort_of (hr.mono (by decide)) hg rfl (pa_cons (pv 0) (pa_cons (pv 6) pa_nil))) (pe_bm0 PySem.F.plainAttrs_str PySem.F.slot_str_split PySem.F.type_str_split mt_split0 (pv 7)) (by rfl)))))
   (pss_one (ps_ret (pe_use U_cannot_take (hr.mono (by decide)) hg rfl (pa_cons (pv 0) (pa_cons (pv 1) (pa_cons (pv 6) pa_nil))))))
   pss_nil)))
  (pss_one (ps_ret (pe_tup pa_nil))))))), ?_⟩
    obtain ⟨kvs, v, kD, hv, hdt⟩ := hsig i _ hi
    have dt0 := hdt H
    obtain ⟨qs, ws, rfl, hqs, dw⟩ := dt0.tuple_inv
    obtain ⟨w1, _, rfl, d1, dw⟩ := dw.cons_inv
    obtain ⟨w2, _, rfl, d2, dw⟩ := dw.cons_inv
    obtain ⟨w3, _, rfl, d3, dw⟩ := dw.cons_inv
    cases dw.nil_inv
    obtain ⟨qk, kws, rfl, hqk, dk⟩ := d3.tuple_inv
    refine ⟨_, rfl, aD_SIGNATURES, kvs, .inr name, _, rfl, kD, rfl, hv, qs, _, rfl, hqs, rfl, _, _, rfl, _, _, rfl, _, _, rfl, rfl, ?_⟩
    refine ⟨_, rfl, ?_⟩
    obtain ⟨qa, aws, rfl, hqa, daw⟩ := da.tuple_inv
    have law := daw.length
    rw [List.length_map, List.length_cons] at law
    refine ⟨fun σ H1 => ∃ qb bws, σ = [some (.ref hp), some (.str name), some (.ref qa), some w2, some (.ref qk), some (.ref qb), none, none] ∧ Same H H1 ∧ SqT K H1 qb bws ∧ DtAll K H1 bws (xs.map vlD), ?_, ?_⟩
    · refine ⟨_, rfl, 46, name, rfl, rfl, _, rfl, iteTb (decide_eq_true hdot) ?_⟩
      refine ⟨_, rfl, _, rfl, .tup ((x0 :: xs).map vlD), da, ?_, fun v4 H4 S4 d4 => ?_⟩
      · show ((x0 :: xs).map vlD).length ≤ _; rw [List.length_map, List.length_cons]; omega
      · rw [show (RowD.tup ((x0 :: xs).map vlD)).cut (some 1) none = .tup (((x0 :: xs).map vlD).drop 1) from congrArg RowD.tup (cutG_from (j := 1) _ (by rw [List.length_map, List.length_cons]; omega))] at d4
        obtain ⟨qb, bws, rfl, hqb, dbw⟩ := (show Dt K H4 v4 (.tuple (xs.map vlD)) from d4).tuple_inv
        exact ⟨qb, bws, rfl, S4, hqb, dbw⟩
    · rintro _ H1 ⟨qb, bws, rfl, S1, hqb, dbw⟩
      have lbw := dbw.length
      have lkw := dk.length
      rw [List.length_map] at lbw lkw
      refine ⟨_, rfl, _, rfl, qb, qk, bws, kws, rfl, .inr ⟨hqb, Same.tupl S1 hqk, ?_⟩⟩
      have lz : (xs.zip ks).length = min bws.length kws.length := by rw [List.length_zip, lbw, lkw]
      refine for_it (walk_zipT (xs := bws) (ys := kws) lz) (fun i σ H2 => ∃ (x6 x7 : Option V), σ = [some (.ref hp), some (.str name), some (.ref qa), some w2, some (.ref qk), some (.ref qb), x6, x7] ∧ Same H1 H2 ∧ ∀ (j : Nat) (p : Vl × Str), j < i → (xs.zip ks)[j]? = some p → kp rows p = false) ⟨none, none, rfl, Same.refl _, fun j p hj => absurd hj (Nat.not_lt_zero _)⟩ (fun _ _ _ _ h => let ⟨_, _, _, S, _⟩ := h; ⟨Same.tupl S hqb, Same.tupl (S1.trans S) hqk⟩) ?_ ?_
      · rintro i v σ H2 H3 hi ⟨x6, x7, rfl, S2, hno⟩ ⟨u, y1, y2, rfl, hu, rfl, e1, e2⟩
        have hp' : (xs.zip ks)[i]? = some (xs.zip ks)[i] := List.getElem?_eq_getElem hi
        obtain ⟨⟨x, z⟩, hxz⟩ : ∃ p, (xs.zip ks)[i] = p := ⟨_, rfl⟩
        rw [hxz] at hp'
        obtain ⟨hx, hz⟩ := List.getElem?_zip_eq_some.mp hp'
        have S3 := (S1.trans S2).trans (Same.new (o := .tup [y1, y2]) hu)
        have S13 := S2.trans (Same.new (o := .tup [y1, y2]) hu)
        obtain ⟨v1, hv1, dv1⟩ := dbw.get (i := i) (d := vlD x) (by rw [List.getElem?_map]; have hx : xs[i]? = some x := hx; rw [hx]; rfl)
        have e1 : bws[i]? = some y1 := e1
        rw [e1] at hv1
        cases hv1
        obtain ⟨v2, hv2, dv2⟩ := dk.get (i := i) (d := .str z) (by rw [List.getElem?_map]; have hz : ks[i]? = some z := hz; rw [hz]; rfl)
        have e2 : kws[i]? = some y2 := e2
        rw [e2] at hv2
        cases hv2
        cases dt_str dv2
        have eu : SqT K (upd H2 u (.tup [y1, V.str z])) u [y1, V.str z] := SqT.of upd_same
        have dv1 := dv1.mono S13
        generalize upd H2 u (.tup [y1, V.str z]) = H3 at S3 S13 eu dv1
        have mx : x ∈ xs := List.mem_of_getElem? hx
        have mz := hks z (List.mem_of_getElem? hz)
        have step : kp rows (x, z) = false → ∀ (j : Nat) (p : Vl × Str), j < i + 1 → (xs.zip ks)[j]? = some p → kp rows p = false := fun hm j p hj he => by
          by_cases c : j = i
          · rw [c, hp'] at he; cases he; exact hm
          · exact hno j p (by omega) he
        refine ⟨u, _, rfl, eu, rfl, _, _, rfl, _, _, rfl, rfl, ?_⟩
        refine ⟨_, rfl, rfl, _, rfl, ?_⟩
        by_cases cz : z = ""
        · refine iteFb (by rw [cz]; rfl) (iteFb rfl ⟨_, _, rfl, S13, step (by show (decide (z ≠ ("" : Str)) && _) = false; rw [decide_eq_false (fun h => h cz)]; rfl)⟩)
        · refine iteTb (by rw [show decide (V.str z = V.str "") = false from dec_str cz]; rfl) ?_
          refine ⟨_, rfl, _, rfl, hp, _, _, _, _, rfl, listAt_mono L S3, dv1, sortR_is (hrf x mx), _, rfl, rfl, z, rfl, rfl, Nat.le_trans (show z.length + 2 ≤ 2000 by omega) (by decide), fun wl hwl => ?_⟩
          have S4 := Same.new (o := .lst ((Txt.words z).map V.str)) hwl
          refine ⟨wl, _, rfl, .inl (SqL.of upd_same), rfl, List.all_eq_true.mpr fun y hy => ?_, _, rfl, ?_⟩
          · obtain ⟨a, _, rfl⟩ := List.mem_map.mp hy
            rfl
          rw [if_pos rfl, inV_strs2]
          by_cases cw : sortR rows x ∈ Txt.words z
          · refine iteFb (by rw [decide_eq_true cw]; rfl) ⟨_, _, rfl, S13.trans S4, step (by show (_ && decide (sortR rows x ∉ Txt.words z)) = false; rw [decide_eq_false (p := sortR rows x ∉ Txt.words z) (fun h => h cw), Bool.and_false])⟩
          · refine iteTb (by rw [decide_eq_false cw]; rfl) ?_
            have hf : kbad rows xs ks = some x := by
              unfold kbad
              have : (xs.zip ks).find? (kp rows) = some (x, z) := by
                rw [List.find?_eq_some_iff_getElem]
                refine ⟨by show (decide (z ≠ ("" : Str)) && decide (sortR rows x ∉ Txt.words z)) = true; rw [decide_eq_true cz, decide_eq_true cw]; rfl, i, hi, hxz, fun j hj => ?_⟩
                have := hno j _ hj (List.getElem?_eq_getElem (by omega))
                rw [this]; rfl
              rw [this]
              rfl
            obtain ⟨t, hn, ht, kk⟩ := k1 x hf
            exact ⟨_, rfl, _, rfl, _, rfl, hp, _, name, _, _, t, rfl, listAt_mono L (S3.trans S4), dv1.mono S4, hn, hl, ht, fun u H' S' d => kk u H' ((S3.trans S4).trans S') d⟩
      · rintro σ H2 ⟨x6, x7, rfl, S2, hno⟩
        have hf : kbad rows xs ks = none := by
          unfold kbad
          have : (xs.zip ks).find? (kp rows) = none := by
            rw [List.find?_eq_none]
            intro p hp
            obtain ⟨j, hj⟩ := List.getElem?_of_mem hp
            rw [hno j p (List.getElem?_eq_some_iff.mp hj).1 hj]
            exact Bool.false_ne_true
          rw [this]
          rfl
        refine ⟨sz_0, fun u hu => ?_⟩
        exact k0 hf _ _ ((S1.trans S2).trans (Same.new hu)) (Dt.made hu .nil)
end

section
--SPLIT
end
abbrev s_dict_outcome : Stmt := top 48
abbrev N_dict_outcome : List Str := ["heap", "name", "args", "action"]
abbrev P_dict_outcome : List Str := ["heap", "name", "args"]
theorem sc_dict_outcome : FnScope N_dict_outcome P_dict_outcome (defScope s_dict_outcome) := ⟨rfl, rfl, rfl, by decide +kernel, rfl, by decide +kernel, by decide +kernel⟩
section
variable {P : Program} {w : World} {K : PySem.W.Frag} {mg : Str → Option Value} {base : Heap}
def Act (K : PySem.W.Frag) (name : Str) (sp : Sp) : Prop :=
  (name = "dict.get" ∧ sp = spGetM K) ∨ (name = "dict.pop" ∧ sp = spPopM K) ∨ (name = "dict.setdefault" ∧ sp = spSetdM K) ∨ (name = "dict.update" ∧ sp = spUpdM K) ∨ (name = "dict.keys" ∧ sp = spKeysM K) ∨ (name = "dict.values" ∧ sp = spValuesM K) ∨ (name = "dict.items" ∧ sp = spItemsM K) ∨ (name = "dict.copy" ∧ sp = spCopyM K) ∨ (name = "dict.clear" ∧ sp = spClearM K)
def spDictOut (K : PySem.W.Frag) : Sp := fun vs H Q E => ∃ (hp : Addr) (name : Str) (va : V) (d0 : PyData) (ds : List PyData) (sp : Sp), vs = [.ref hp, .str name, va] ∧ Act K name sp ∧ Dt K H va (.tuple (d0 :: ds)) ∧ ds.length ≤ 100 ∧
  ∀ v0 vt H', Same H H' → Dt K H' v0 d0 → Dt K H' vt (.tuple ds) → sp [.ref hp, v0, vt] H' Q E0
theorem ok_dictout {f : Addr} {fd : FuncData} (F : Fun K "dict_outcome" "dict_outcome" s_dict_outcome f fd) (T : Txt K mg) (UM_get : DefAt P w K mg base "METHODS_entries" "dict.get" 9 P_get (spGetM K)) (UM_pop : DefAt P w K mg base "METHODS_entries" "dict.pop" 9 P_pop_entries (spPopM K)) (UM_setd : DefAt P w K mg base "METHODS_entries" "dict.setdefault" 9 P_setdefault (spSetdM K)) (UM_upd : DefAt P w K mg base "METHODS_entries" "dict.update" 9 P_update (spUpdM K))
    (UM_keys : DefAt P w K mg base "METHODS_entries" "dict.keys" 9 P_keys (spKeysM K)) (UM_vals : DefAt P w K mg base "METHODS_entries" "dict.values" 9 P_values (spValuesM K)) (UM_items : DefAt P w K mg base "METHODS_entries" "dict.items" 9 P_items (spItemsM K)) (UM_copy : DefAt P w K mg base "METHODS_entries" "dict.copy" 9 P_copy_entries (spCopyM K)) (UM_clear : DefAt P w K mg base "METHODS_entries" "dict.clear" 9 P_clear_entries (spClearM K)) : FnG P w K mg base CX0 10 f fd P_dict_outcome (spDictOut K) := by
  obtain ⟨aD_METHODS_entries, gD_METHODS_entries⟩ := UM_get.dict
  refine okG0 F sc_dict_outcome (fun vs H Q E h => ?_) fun cdv A outer s H vs Q E hr hg h => ?_
  · obtain ⟨hp, name, va, d0, ds, sp, rfl, _⟩ := h
    rfl
  · obtain ⟨hp, name, va, d0, ds, sp, rfl, ha, da, hl, k⟩ := h
    refine ⟨_, (pss_cons (ps_set (i := 3) sc_dict_outcome.nd rfl (Or.inl rfl) (pe_dgetK (pe_glob (v := .ref aD_METHODS_entries) (by rfl) gD_METHODS_entries rfl) (pv 1) (fun _ _ => rfl)))
  (pss_one (ps_ret (pe_callV (k := 9) (pv 3) (hr.mono (by decide)) hg (pa_cons (pv 0) (pa_cons (pe_ix ix_tup (pv 2) pe_int (fun _ _ => rfl)) (pa_cons (pe_slice sl_row (pv 2) (po_some pe_int) po_none) pa_nil))))))), ?_⟩
    obtain ⟨kvs, g, gd, ps, kD, hv, G, kp, hb⟩ : ∃ (kvs : List (Key × V)) (g : Addr) (gd : FuncData) (ps : List Str), KDct P w K aD_METHODS_entries kvs ∧ valV kvs (.inr name) = some (.ref g) ∧ FnG P w K mg base CX0 9 g gd ps sp ∧ PySem.W.keepIn K (.ref g) = true ∧ Binds K gd ps [] := by
      rcases ha with ⟨rfl, rfl⟩ | ⟨rfl, rfl⟩ | ⟨rfl, rfl⟩ | ⟨rfl, rfl⟩ | ⟨rfl, rfl⟩ | ⟨rfl, rfl⟩ | ⟨rfl, rfl⟩ | ⟨rfl, rfl⟩ | ⟨rfl, rfl⟩
      · obtain ⟨kvs, g, gd, r⟩ := UM_get.at gD_METHODS_entries; exact ⟨kvs, g, gd, _, r⟩
      · obtain ⟨kvs, g, gd, r⟩ := UM_pop.at gD_METHODS_entries; exact ⟨kvs, g, gd, _, r⟩
      · obtain ⟨kvs, g, gd, r⟩ := UM_setd.at gD_METHODS_entries; exact ⟨kvs, g, gd, _, r⟩
      · obtain ⟨kvs, g, gd, r⟩ := UM_upd.at gD_METHODS_entries; exact ⟨kvs, g, gd, _, r⟩
      · obtain ⟨kvs, g, gd, r⟩ := UM_keys.at gD_METHODS_entries; exact ⟨kvs, g, gd, _, r⟩
      · obtain ⟨kvs, g, gd, r⟩ := UM_vals.at gD_METHODS_entries; exact ⟨kvs, g, gd, _, r⟩
      · obtain ⟨kvs, g, gd, r⟩ := UM_items.at gD_METHODS_entries; exact ⟨kvs, g, gd, _, r⟩
      · obtain ⟨kvs, g, gd, r⟩ := UM_copy.at gD_METHODS_entries; exact ⟨kvs, g, gd, _, r⟩
      · obtain ⟨kvs, g, gd, r⟩ := UM_clear.at gD_METHODS_entries; exact ⟨kvs, g, gd, _, r⟩
    have da0 := da
    obtain ⟨qa, ws, rfl, hqa, dw⟩ := da.tuple_inv
    obtain ⟨v0, ws', rfl, dv0, dr⟩ := dw.cons_inv
    refine ⟨_, rfl, aD_METHODS_entries, kvs, .inr name, _, rfl, kD, rfl, hv, ?_⟩
    refine ⟨g, gd, ps, sp, rfl, G, kp, hb, _, rfl, _, rfl, qa, _, _, _, rfl, rfl, hqa, at0, _, rfl, _, rfl, .tup (d0 :: ds), da0, ?_, fun v4 H4 S4 d4 => ?_⟩
    · show (d0 :: ds).length ≤ _; rw [List.length_cons]; omega
    · rw [show (RowD.tup (d0 :: ds)).cut (some 1) none = .tup ((d0 :: ds).drop 1) from congrArg RowD.tup (cutG_from (j := 1) _ (by rw [List.length_cons]; omega))] at d4
      exact k _ _ _ S4 (dv0.mono S4) d4
end
abbrev s_plain_built : Stmt := top 126
abbrev N_plain_built : List Str := ["heap", "name", "args", "outcome"]
abbrev P_plain_built : List Str := ["heap", "name", "args"]
theorem sc_plain_built : FnScope N_plain_built P_plain_built (defScope s_plain_built) := ⟨rfl, rfl, rfl, by decide +kernel, rfl, by decide +kernel, by decide +kernel⟩
section
variable {P : Program} {w : World} {K : PySem.W.Frag} {mg : Str → Option Value} {base : Heap}
def DName (name : Str) (ks : List Str) : Prop := SigAt name ks ∧ Txt.startswith name "str." = false ∧ Txt.startswith name "dict." = true ∧ 46 ∈ name.cps.toList ∧ name.length ≤ 100 ∧ ∀ z ∈ ks, z.length ≤ 1000 ∧ (Txt.words z).length ≤ 1000
theorem words_dict : Txt.words "dict" = (["dict"] : List Str) := by
  rw [KWd.words_scan]
  decide +kernel
theorem dnames : DName "dict.get" [] ∧ DName "dict.pop" [] ∧ DName "dict.setdefault" [] ∧ DName "dict.update" ["dict"] ∧ DName "dict.keys" [] ∧ DName "dict.values" [] ∧ DName "dict.items" [] ∧ DName "dict.copy" [] ∧ DName "dict.clear" [] := by
  have no : ∀ z ∈ ([] : List Str), z.length ≤ 1000 ∧ (Txt.words z).length ≤ 1000 := fun z h => nomatch h
  refine ⟨?_, ?_, ?_, ?_, ?_, ?_, ?_, ?_, ?_⟩
  · exact ⟨⟨35, 2, 3, rfl⟩, by decide +kernel, by decide +kernel, by decide +kernel, by decide +kernel, no⟩
  · exact ⟨⟨36, 2, 3, rfl⟩, by decide +kernel, by decide +kernel, by decide +kernel, by decide +kernel, no⟩
  · exact ⟨⟨37, 3, 3, rfl⟩, by decide +kernel, by decide +kernel, by decide +kernel, by decide +kernel, no⟩
  · refine ⟨⟨38, 2, 2, rfl⟩, by decide +kernel, by decide +kernel, by decide +kernel, by decide +kernel, fun z hz => ?_⟩
    cases List.mem_singleton.mp hz
    rw [words_dict]
    exact ⟨by decide +kernel, by decide⟩
  · exact ⟨⟨39, 1, 1, rfl⟩, by decide +kernel, by decide +kernel, by decide +kernel, by decide +kernel, no⟩
  · exact ⟨⟨40, 1, 1, rfl⟩, by decide +kernel, by decide +kernel, by decide +kernel, by decide +kernel, no⟩
  · exact ⟨⟨41, 1, 1, rfl⟩, by decide +kernel, by decide +kernel, by decide +kernel, by decide +kernel, no⟩
  · exact ⟨⟨42, 1, 1, rfl⟩, by decide +kernel, by decide +kernel, by decide +kernel, by decide +kernel, no⟩
  · exact ⟨⟨43, 1, 1, rfl⟩, by decide +kernel, by decide +kernel, by decide +kernel, by decide +kernel, no⟩
def spPlainD (K : PySem.W.Frag) : Sp := fun vs H Q E => ∃ (hp : Addr) (rows : List Row) (name : Str) (ks : List Str) (va : V) (x0 : Vl) (xs : List Vl) (sp : Sp), vs = [.ref hp, .str name, va] ∧ DName name ks ∧ Act K name sp ∧ ListAt K H hp (rows.map rowD) ∧ Dt K H va (.tuple ((x0 :: xs).map vlD)) ∧ xs.length ≤ 100 ∧ (∀ x ∈ xs, ∀ k, x = .ref k → k < rows.length) ∧ kbad rows xs ks = none ∧
  ∀ v0 vt H', Same H H' → Dt K H' v0 (vlD x0) → Dt K H' vt (.tuple (xs.map vlD)) → sp [.ref hp, v0, vt] H' Q E0
theorem ok_plainD {f : Addr} {fd : FuncData} (F : Fun K "plain_built" "plain_built" s_plain_built f fd) (T : Txt K mg) (U_kind_refusal : Use P w K mg base CX0 "kind_refusal" 3 P_kind_refusal (spKRef K)) (U_dict_outcome : Use P w K mg base CX0 "dict_outcome" 10 P_dict_outcome (spDictOut K)) : FnG P w K mg base CX0 11 f fd P_plain_built (spPlainD K) := by
  refine okG0 F sc_plain_built (fun vs H Q E h => ?_) fun cdv A outer s H vs Q E hr hg h => ?_
  · obtain ⟨hp, rows, name, ks, va, x0, xs, sp, rfl, _⟩ := h
    rfl
  · obtain ⟨hp, rows, name, ks, va, x0, xs, sp, rfl, ⟨n1, n2, n3, n4, n5, n6⟩, ha, L, da, hl, hrf, hk, k⟩ := h
    refine ⟨_, (pss_cons (ps_set (i := 3) sc_plain_built.nd rfl (Or.inl rfl) (pe_use U_kind_refusal (hr.mono (by decide)) hg rfl (pa_cons (pv 0) (pa_cons (pv 1) (pa_cons (pv 2) pa_nil)))))
  (pss_cons (ps_if (pt_cmpR (op_neD hr.units) (pv 3) (pe_tup pa_nil) (nomark _))
   (pss_one (ps_ret (pv 3)))
   pss_nil)
  (pss_cons (ps_if (pt_val (pe_bm PySem.F.plainAttrs_str PySem.F.slot_str_startswith PySem.F.type_str_startswith mt_startswith (pv 1) (pa_cons pe_str pa_nil)))
   pss_never
   pss_nil)
  (pss_cons (ps_if (pt_val (pe_bm PySem.F.plainAttrs_str PySem.F.slot_str_startswith PySem.F.type_str_startswith mt_startswith (pv 1) (pa_cons pe_str pa_nil)))
   (pss_one (ps_ret (pe_use U_dict_outcome (hr.mono (by decide)) hg rfl (pa_cons (pv 0) (pa_cons (pv 1) (pa_cons (pv 2) pa_nil))))))
   pss_nil)
  pss_never)))), ?_⟩
    refine ⟨_, rfl, _, rfl, _, rfl, hp, rows, name, va, xs, x0, ks, rfl, n1, L, da, n4, n5, hl, n6, hrf, fun _ u H1 S1 du => ?_, fun x hx => by rw [hk] at hx; cases hx⟩
    refine ⟨_, rfl, sz_0, fun u2 hu2 => ?_⟩
    have S2 := S1.trans (Same.new (o := .tup []) hu2)
    refine ⟨.tuple [], .tuple [], (du.mono (Same.new hu2)).dp, (Dt.made hu2 .nil).dp, rfl, rfl, _, rfl, iteFb rfl ?_⟩
    refine ⟨_, rfl, rfl, name, "str.", rfl, rfl, _, rfl, iteFb n2 ?_⟩
    refine ⟨_, rfl, rfl, name, "dict.", rfl, rfl, _, rfl, iteTb n3 ?_⟩
    refine ⟨_, rfl, _, rfl, _, rfl, hp, name, va, vlD x0, xs.map vlD, sp, rfl, ha, da.mono S2, by rw [List.length_map]; exact hl, fun v0 vt H' S' d0 dt => k _ _ _ (S2.trans S') d0 dt⟩
end

section
--SPLIT
end
abbrev s_law_value : Stmt := top 132
abbrev N_law_value : List Str := ["box", "kind"]
abbrev P_law_value : List Str := ["box"]
theorem sc_law_value : FnScope N_law_value P_law_value (defScope s_law_value) := ⟨rfl, rfl, rfl, by decide +kernel, rfl, by decide +kernel, by decide +kernel⟩
section
variable {P : Program} {w : World} {K : PySem.W.Frag} {mg : Str → Option Value} {base : Heap}
/-- a drawn value -/
inductive LV : Vl → Prop
  | non : LV .non
  | bool (b : Bool) : LV (.bool b)
  | text {z : Str} : z ∈ (["", "a", "ab"] : List Str) → LV (.text z)
  | built {z : Str} : z ∈ (["len", "print", "abs"] : List Str) → LV (.built z)
  | int {i : Int} : i.natAbs < 2 ^ 261 → LV (.int i)
theorem LV.noref {x : Vl} (h : LV x) : ∀ k, x ≠ .ref k := fun k e => by subst e; cases h
theorem LV.sm {x : Vl} (h : LV x) : Sm (vlD x) 1 3000 := by
  cases h with
  | non => exact (Sm.tup (.cons (Sm.short (n := "none") (by decide +kernel)) .nil)).mono (by decide) (by decide)
  | bool b => exact (Sm.tup (.cons (Sm.short (n := "bool") (by decide +kernel)) (.cons (Sm.bool b) .nil))).mono (by decide) (by decide)
  | @text z hz =>
    have : ∀ z ∈ (["", "a", "ab"] : List Str), shortS z = true := by decide +kernel
    exact (Sm.tup (.cons (Sm.short (n := "text") (by decide +kernel)) (.cons (Sm.short (this z hz)) .nil))).mono (by decide) (by decide)
  | @built z hz =>
    have : ∀ z ∈ (["len", "print", "abs"] : List Str), shortS z = true := by decide +kernel
    exact (Sm.tup (.cons (Sm.short (n := "built") (by decide +kernel)) (.cons (Sm.short (this z hz)) .nil))).mono (by decide) (by decide)
  | @int i hi => exact (Sm.tup (.cons (Sm.short (n := "int") (by decide +kernel)) (.cons (Sm.int (i := i) (Nat.lt_of_lt_of_le hi (Nat.pow_le_pow_right (by decide) (by decide)))) .nil))).mono (by decide) (by decide)
theorem LV.vok {x : Vl} (h : LV x) : vOk x := by
  cases h with
  | non => trivial
  | bool b => trivial
  | @text z hz => exact (show ∀ z ∈ (["", "a", "ab"] : List Str), PyData.canLay0 (.str z) = true by decide +kernel) z hz
  | @built z hz => exact (show ∀ z ∈ (["len", "print", "abs"] : List Str), PyData.canLay0 (.str z) = true by decide +kernel) z hz
  | @int i hi => trivial
def spLVal (K : PySem.W.Frag) : Sp := fun vs H Q _ => ∃ p dl, vs = [.ref p] ∧ BoxAt H p dl ∧ ∀ v x H', BoxAt H' p dl → Keep p H H' → Dt K H' v (vlD x) → LV x → Q v H'
theorem ten_val : ∀ n : Nat, NumText.digitsVal (49 :: List.replicate n 48) = 10 ^ n
  | 0 => rfl
  | n + 1 => by
    rw [List.replicate_succ', ← List.cons_append]
    have h : ∀ (cs : List Nat) (c : Nat), NumText.digitsVal (cs ++ [c]) = NumText.digitsVal cs * 10 + (c - 48) := fun cs c => by
      unfold NumText.digitsVal
      rw [List.foldl_append]
      rfl
    rw [h, ten_val n, Nat.pow_succ]
    simp
theorem ten_S (n : Nat) (hn : n ≤ 100) : PySem.intText? (S ([49] ++ List.replicate n 48)) = some ((10 : Int) ^ n) := by
  have h : ([49] ++ List.replicate n 48).all (fun c => decide (48 ≤ c) && decide (c ≤ 57)) = true := List.all_eq_true.mpr fun c hc => by
    rcases List.mem_append.mp hc with hc | hc
    · rw [List.mem_singleton.mp hc]; rfl
    · rw [List.eq_of_mem_replicate hc]; rfl
  rw [int_S h (by simp) (by simp; omega)]
  have e : NumText.digitsVal ([49] ++ List.replicate n 48) = 10 ^ n := ten_val n
  rw [e]
  congr 1
theorem ok_lval {f : Addr} {fd : FuncData} (F : Fun K "_law_value" "_law_value" s_law_value f fd) (T : Txt K mg) (U_law_draw : Use P w K mg base CX0 "_law_draw" 1 P_law_draw (spDraw K)) : FnG P w K mg base CX0 2 f fd P_law_value (spLVal K) := by
  refine okG0 F sc_law_value (fun vs H Q E h => ?_) fun cdv A outer s H vs Q E hr hg h => ?_
  · obtain ⟨p, dl, rfl, _⟩ := h
    rfl
  · obtain ⟨p, dl, rfl, B, k⟩ := h
    refine ⟨_, (pss_cons (ps_set (i := 1) sc_law_value.nd rfl (Or.inl rfl) (pe_use U_law_draw (hr.mono (by decide)) hg rfl (pa_cons (pv 0) (pa_cons pe_int pa_nil))))
  (pss_cons (ps_if (pt_cmpR op_eq (pv 1) pe_int (nomark _))
   (pss_one (ps_ret (pe_tup (pa_cons pe_str pa_nil))))
   pss_nil)
  (pss_cons (ps_if (pt_cmpR op_eq (pv 1) pe_int (nomark _))
   (pss_one (ps_ret (pe_tup (pa_cons pe_str (pa_cons (pe_cmpR op_eq (pe_use U_law_draw (hr.mono (by decide)) hg rfl (pa_cons (pv 0) (pa_cons pe_int pa_nil))) pe_int (nomark _)) pa_nil)))))
   pss_nil)
  (pss_cons (ps_if (pt_cmpR op_eq (pv 1) pe_int (nomark _))
   (pss_one (ps_ret (pe_tup (pa_cons pe_str (pa_cons (pe_slice sl_str pe_str po_none (po_some (pe_use U_law_draw (hr.mono (by decide)) hg rfl (pa_cons (pv 0) (pa_cons pe_int pa_nil))))) pa_nil)))))
   pss_nil)
  (pss_cons (ps_if (pt_cmpR op_eq (pv 1) pe_int (nomark _))
   (pss_one (ps_ret (pe_tup (pa_cons pe_str (pa_cons (pe_ix ix_list (pe_lst (pa_cons pe_str (pa_cons pe_str (pa_cons pe_str pa_nil)))) (pe_use U_law_draw (hr.mono (by decide)) hg rfl (pa_cons (pv 0) (pa_cons pe_int pa_nil))) (fun _ _ => rfl)) pa_nil)))))
   pss_nil)
  (pss_one (ps_ret (pe_tup (pa_cons pe_str (pa_cons (pe_op op_sub (pe_op op_mulW (pe_use U_law_draw (hr.mono (by decide)) hg rfl (pa_cons (pv 0) (pa_cons pe_int pa_nil))) (pe_callTy call_int_str (by rfl) T.b_int (by decide +kernel) (pa_cons (pe_op op_add_str pe_str (pe_op op_rep_str pe_str (pe_use U_law_draw (hr.mono (by decide)) hg rfl (pa_cons (pv 0) (pa_cons pe_int pa_nil))))) pa_nil))) (pe_use U_law_draw (hr.mono (by decide)) hg rfl (pa_cons (pv 0) (pa_cons pe_int pa_nil)))) pa_nil)))))))))), ?_⟩
    have fin : ∀ {H1 : Hp} {u : Addr} {vs : List V} {x : Vl}, BoxAt H1 p dl → Keep p H H1 → H1 u = none → DtAll K H1 vs (.str (knd x) :: resD x) → LV x → Q (.ref u) (upd H1 u (.tup vs)) := fun {H1 u vs x} B1 K1 hu d hx =>
      k _ x _ (B1.same (Same.new hu)) (K1.trans (Same.keep (Same.new hu))) (by rw [vlD_eq]; exact Dt.made hu d) hx
    refine ⟨_, rfl, p, dl, 6, rfl, B, by decide, fun kind H1 k0 k1 B1 K1 => ?_⟩
    refine ⟨_, rfl, rfl, _, rfl, ?_⟩
    refine ite3 (fun _ => ?_) fun _ => ?_
    · exact ⟨sz_1, fun u hu => fin B1 K1 hu (.cons (.str _) .nil) .non⟩
    refine ⟨_, rfl, rfl, _, rfl, ?_⟩
    refine ite3 (fun _ => ?_) fun _ => ?_
    · refine ⟨_, rfl, p, dl, 2, rfl, B1, by decide, fun r H2 r0 r1 B2 K2 => ?_⟩
      exact ⟨rfl, sz_2, fun u hu => fin B2 (K1.trans K2) hu (.cons (.str _) (.cons (.bl _) .nil)) (.bool _)⟩
    refine ⟨_, rfl, rfl, _, rfl, ?_⟩
    refine ite3 (fun _ => ?_) fun _ => ?_
    · refine ⟨_, rfl, p, dl, 3, rfl, B1, by decide, fun r H2 r0 r1 B2 K2 => ?_⟩
      obtain ⟨z, ez, z1⟩ : ∃ z, L2.cutS "ab" none (some r) = z ∧ z ∈ (["", "a", "ab"] : List Str) := by
        obtain ⟨i, rfl⟩ := Int.eq_ofNat_of_zero_le r0
        match i, r1 with
        | 0, _ => exact ⟨"", by decide +kernel, by decide +kernel⟩
        | 1, _ => exact ⟨"a", by decide +kernel, by decide +kernel⟩
        | 2, _ => exact ⟨"ab", by decide +kernel, by decide +kernel⟩
        | i + 3, h => omega
      refine ⟨_, rfl, _, rfl, by decide +kernel, sz_2, fun u hu => ?_⟩
      rw [ez]
      exact fin B2 (K1.trans K2) hu (.cons (.str _) (.cons (.str _) .nil)) (.text z1)
    refine ⟨_, rfl, rfl, _, rfl, ?_⟩
    refine ite3 (fun _ => ?_) fun _ => ?_
    · refine ⟨sz_3, fun l hl => ?_⟩
      have S1 := Same.new (o := .lst [.str "len", .str "print", .str "abs"]) hl
      have lp : l ≠ p := fun e => by subst e; obtain ⟨xs, g⟩ := B1.at_; rw [g] at hl; cases hl
      have el := upd_same (H := H1) (a := l) (o := HO.lst [.str "len", .str "print", .str "abs"])
      have B1' := B1.same S1
      generalize upd H1 l _ = H1' at S1 el B1'
      refine ⟨_, rfl, p, dl, 3, rfl, B1', by decide, fun r H2 r0 r1 B2 K2 => ?_⟩
      obtain ⟨z, ez, z1⟩ : ∃ z, atI [V.str "len", V.str "print", V.str "abs"] r = some (.str z) ∧ z ∈ (["len", "print", "abs"] : List Str) := by
        obtain ⟨i, rfl⟩ := Int.eq_ofNat_of_zero_le r0
        match i, r1 with
        | 0, _ => exact ⟨"len", at0, by decide +kernel⟩
        | 1, _ => exact ⟨"print", at1, by decide +kernel⟩
        | 2, _ => exact ⟨"abs", at2, by decide +kernel⟩
        | i + 3, h => omega
      refine ⟨l, _, _, _, rfl, rfl, SqL.of (K2 _ _ el lp), ez, sz_2, fun u hu => ?_⟩
      exact fin B2 ((K1.trans (Same.keep S1)).trans K2) hu (.cons (.str _) (.cons (.str _) .nil)) (.built z1)
    refine ⟨_, rfl, p, dl, 1000, rfl, B1, by decide, fun r H2 r0 r1 B2 K2 => ?_⟩
    refine ⟨_, rfl, p, dl, 60, rfl, B2, by decide, fun m H3 m0 m1 B3 K3 => ?_⟩
    obtain ⟨n, rfl⟩ := Int.eq_ofNat_of_zero_le m0
    have l0 : ("0" : Str).length = 1 := by decide +kernel
    have e0 : repS "0" (n : Int) = S (List.replicate n 48) := by
      show (⟨(repC ("0" : Str).cps.toList (n : Int)).toArray⟩ : Str) = _
      rw [show ("0" : Str).cps.toList = [48] by decide +kernel]
      have : repC [48] (n : Int) = List.replicate n 48 := by
        show (List.replicate (n : Int).toNat [48]).flatten = List.replicate n 48
        rw [Int.toNat_natCast]
        clear m0 m1
        induction n with
        | zero => rfl
        | succ n ih => rw [List.replicate_succ, List.flatten_cons, ih, List.replicate_succ]; rfl
      rw [this]
    refine ⟨_, _, rfl, rfl, by omega, by omega, by rw [l0]; omega, ?_⟩
    rw [e0, show ("1" : Str) = S [49] by decide +kernel]
    refine ⟨_, _, rfl, rfl, by rw [S_len, S_len]; exact Nat.le_trans (show _ ≤ 100 by simp; omega) (by decide), ?_⟩
    rw [S_cat]
    refine ⟨_, _, rfl, ten_S n (by omega), by rw [S_len]; simp; omega, ?_⟩
    have hb : ((10 : Int) ^ n).natAbs < 2 ^ 250 := by
      have h1 : (10 : Nat) ^ n ≤ 10 ^ 60 := Nat.pow_le_pow_right (by decide) (by omega)
      have h2 : (10 : Nat) ^ 60 < 2 ^ 250 := by decide +kernel
      have h3 : ((10 : Int) ^ n).natAbs = 10 ^ n := by
        rw [Int.natAbs_pow]; rfl
      omega
    refine ⟨_, _, rfl, rfl, wide_mul (a := 10) (b := 250) (by omega) hb (by decide) (by decide) (by decide), ?_⟩
    refine ⟨_, rfl, p, dl, 3, rfl, B3, by decide, fun q H4 q0 q1 B4 K4 => ?_⟩
    refine ⟨_, _, rfl, rfl, sz_2, fun u hu => ?_⟩
    have hi : (r * 10 ^ n - q).natAbs < 2 ^ 261 := by
      have h1 : (r * 10 ^ n).natAbs < 2 ^ 10 * 2 ^ 250 := by
        rw [Int.natAbs_mul]
        exact Nat.mul_lt_mul'' (by omega) hb
      have h2 : (2 : Nat) ^ 10 * 2 ^ 250 + 3 < 2 ^ 261 := by decide +kernel
      omega
    exact fin B4 (((K1.trans K2).trans K3).trans K4) hu (.cons (.str _) (.cons (.int _) .nil)) (.int hi)
end

section
/-! the keys of the law -/
def dom47 : List Vl := [.bool true, .bool false, .text "", .text "a", .text "ab", .non, .ref 2, .int 0, .int 1, .int 2, .int 3]
def kt47 : Vl → Str
  | .ref 2 => "(2 1 1:a"
  | .ref _ => "list"
  | x => wordR [] x
def rowsE (es fs : List (Vl × Vl)) : List Row := [.dct es, .dct fs, .tup [.int 1, .text "a"], .lst []]
def shownV : Vl → Str
  | .non => "None"
  | .ref _ => "(1, 'a')"
  | .text z => ("'" ++ z) ++ "'"
  | .bool b => if b = true then "True" else "False"
  | .int i => tsI i
  | _ => ""
def plainV : Vl → Vl
  | .bool b => .int (if b = true then 1 else 0)
  | x => x
def dom48 : List Vl := dom47 ++ [.ref 3]
theorem mt_dom : ∀ e ∈ dom47, ∀ k ∈ dom47, mt kt47 e k = decide (kt47 e = kt47 k) := by decide +kernel
theorem plain_dom : ∀ e ∈ dom47, ∀ k ∈ dom48, decide ((vlD (plainV e)).shown = (vlD (plainV k)).shown) = decide (kt47 e = kt47 k) := by decide +kernel
theorem findK_T {es : List (Vl × Vl)} {x : Vl} (he : ∀ e ∈ es, e.1 ∈ dom47) (hx : x ∈ dom47) : findK kt47 es x = fT kt47 es (kt47 x) := by
  unfold findK fT
  induction es with
  | nil => rfl
  | cons e es ih =>
    rw [List.findIdx?_cons, List.findIdx?_cons, mt_dom _ (he e (by simp)) _ hx, ih fun e' h' => he e' (List.mem_cons_of_mem _ h')]
theorem dom_cases {x : Vl} (h : x ∈ dom47) : (∃ b, x = .bool b) ∨ (∃ i : Int, x = .int i ∧ 0 ≤ i ∧ i < 4) ∨ x = .ref 2 ∨ x = .non ∨ ∃ z, x = .text z ∧ z ∈ (["", "a", "ab"] : List Str) := by
  simp only [dom47, List.mem_cons, List.not_mem_nil, or_false] at h
  rcases h with rfl | rfl | rfl | rfl | rfl | rfl | rfl | rfl | rfl | rfl | rfl
  · exact .inl ⟨_, rfl⟩
  · exact .inl ⟨_, rfl⟩
  · exact .inr (.inr (.inr (.inr ⟨_, rfl, by decide +kernel⟩)))
  · exact .inr (.inr (.inr (.inr ⟨_, rfl, by decide +kernel⟩)))
  · exact .inr (.inr (.inr (.inr ⟨_, rfl, by decide +kernel⟩)))
  · exact .inr (.inr (.inr (.inl rfl)))
  · exact .inr (.inr (.inl rfl))
  · exact .inr (.inl ⟨0, rfl, by decide, by decide⟩)
  · exact .inr (.inl ⟨1, rfl, by decide, by decide⟩)
  · exact .inr (.inl ⟨2, rfl, by decide, by decide⟩)
  · exact .inr (.inl ⟨3, rfl, by decide, by decide⟩)
theorem dom_ok : ∀ x ∈ dom47, (PyData.canLay0 (.str (kt47 x))) = true ∧ vOk x := by
  intro k hk
  simp only [dom47, List.mem_cons, List.not_mem_nil, or_false] at hk
  rcases hk with rfl | rfl | rfl | rfl | rfl | rfl | rfl | rfl | rfl | rfl | rfl
  all_goals first | exact ⟨by decide +kernel, trivial⟩ | exact ⟨by decide +kernel, show PyData.canLay0 (.str _) = true by decide +kernel⟩
theorem plain_kw {rows : List Row} {x : Vl} (hr : ∀ k, x ≠ .ref k) (hw : wOk rows x) (hn : wordR rows x ≠ "") : KW rows 2 [x] (some [wordR rows x]) := KW.word hn hr hw .done
theorem int_ok {rows : List Row} {i : Int} (h0 : 0 ≤ i) (h : i < 100000) : wOk rows (.int i) := Nat.lt_of_lt_of_le (show i.natAbs < 2 ^ 17 by omega) (Nat.pow_le_pow_right (by decide) (by decide))
theorem tup_kw {rows : List Row} {k : Nat} {a b : Vl} (h : rows[k]? = some (.tup [a, b])) (ha : ∀ j, a ≠ .ref j) (hb : ∀ j, b ≠ .ref j) (wa : wOk rows a) (wb : wOk rows b) (na : wordR rows a ≠ "") (nb : wordR rows b ≠ "") : KW rows 4 [.ref k] (some ["(2", wordR rows a, wordR rows b]) := by
  have e : wordR rows (.ref k) = "(2" := by
    show (match rows[k]? with | some (.tup vs) => ("(" ++ tsI ((vs.length : Nat) : Int) : Str) | _ => "") = _
    rw [h]
    show ("(" ++ tsI ((2 : Nat) : Int) : Str) = "(2"
    decide +kernel
  have := KW.tup (st := []) h (by show 2 ≤ 1000; decide) (KW.word na ha wa (KW.word nb hb wb .done))
  rw [e] at this
  exact this
theorem rows_at (es fs : List (Vl × Vl)) : (rowsE es fs)[0]? = some (.dct es) ∧ (rowsE es fs)[1]? = some (.dct fs) ∧ (rowsE es fs)[2]? = some (.tup [.int 1, .text "a"]) ∧ (rowsE es fs)[3]? = some (.lst []) := ⟨rfl, rfl, rfl, rfl⟩
theorem dom_ktx (es fs : List (Vl × Vl)) : ∀ x ∈ dom47, KTx (rowsE es fs) kt47 x := by
  intro k hk
  have ps : ∀ {x : Vl}, (∀ k, x ≠ .ref k) → wOk (rowsE es fs) x → wordR (rowsE es fs) x = kt47 x → kt47 x ≠ "" → KTx (rowsE es fs) kt47 x := fun h1 h2 h3 h4 => ⟨2, [kt47 _], by rw [← h3]; exact plain_kw h1 h2 (by rw [h3]; exact h4), by decide, by rw [TL.join_eq]; rfl⟩
  have wt : ∀ z : Str, z.length ≤ 2000 → wOk (rowsE es fs) (.text z) := fun z h => h
  have wi : ∀ i : Int, 0 ≤ i → i < 100000 → wOk (rowsE es fs) (.int i) := fun i h1 h2 => int_ok h1 h2
  simp only [dom47, List.mem_cons, List.not_mem_nil, or_false] at hk
  rcases hk with rfl | rfl | rfl | rfl | rfl | rfl | rfl | rfl | rfl | rfl | rfl
  · exact ps (fun k e => by cases e) trivial rfl (by decide +kernel)
  · exact ps (fun k e => by cases e) trivial rfl (by decide +kernel)
  · exact ps (fun k e => by cases e) (wt _ (by decide +kernel)) rfl (by decide +kernel)
  · exact ps (fun k e => by cases e) (wt _ (by decide +kernel)) rfl (by decide +kernel)
  · exact ps (fun k e => by cases e) (wt _ (by decide +kernel)) rfl (by decide +kernel)
  · exact ps (fun k e => by cases e) trivial rfl (by decide +kernel)
  · exact ⟨4, _, tup_kw (rows_at es fs).2.2.1 (fun k e => by cases e) (fun k e => by cases e) (wi 1 (by decide) (by decide)) (wt _ (by decide +kernel)) (show wordR [] (.int 1) ≠ "" by decide +kernel) (show wordR [] (.text "a") ≠ "" by decide +kernel), by decide, show kt47 (.ref 2) = Txt.join " " ["(2", wordR [] (.int 1), wordR [] (.text "a")] by decide +kernel⟩
  · exact ps (fun k e => by cases e) (wi _ (by decide) (by decide)) rfl (by decide +kernel)
  · exact ps (fun k e => by cases e) (wi _ (by decide) (by decide)) rfl (by decide +kernel)
  · exact ps (fun k e => by cases e) (wi _ (by decide) (by decide)) rfl (by decide +kernel)
  · exact ps (fun k e => by cases e) (wi _ (by decide) (by decide)) rfl (by decide +kernel)
theorem ek_ok (es fs : List (Vl × Vl)) {x : Vl} (h : x ∈ dom47) : KOk (rowsE es fs) kt47 x := ⟨dom_ktx es fs x h, (dom_ok x h).2, (dom_ok x h).1⟩
def bad47 (x : Vl) : Option Str := if x = .ref 3 then some "list" else none
theorem bad_dom {x : Vl} (h : x ∈ dom47) : bad47 x = none := if_neg fun e => by subst e; simp [dom47] at h
theorem kin47 (es fs : List (Vl × Vl)) {x : Vl} (h : x ∈ dom48) : KIn (rowsE es fs) kt47 x (bad47 x) := by
  unfold bad47
  by_cases c : x = .ref 3
  · subst c
    rw [if_pos rfl]
    refine .bad (n := 1) (.bad (by rfl) ⟨_, (rows_at es fs).2.2.2, trivial, by decide⟩) (by decide) ?_ (by decide +kernel) (by decide +kernel)
    exact .oth 3 "list" _ "list" (by rw [List.getElem?_map, (rows_at es fs).2.2.2]; rfl) (by decide) (by decide +kernel)
  · rw [if_neg c]
    rcases List.mem_append.mp h with h | h
    · exact .ok (ek_ok es fs h)
    · exact absurd (List.mem_singleton.mp h) c
theorem show47 (es fs : List (Vl × Vl)) : ∀ x ∈ dom47, ∃ n, Shows ((rowsE es fs).map rowD) n "" [] [.shw (vlD x)] (some (shownV x)) := by
  have fin : ∀ {n : Nat} {d : PyData} {t : Str}, TW (fun _ _ => True) ((rowsE es fs).map rowD) n [] d t → t.length ≤ 1000 → ∃ n, Shows ((rowsE es fs).map rowD) n "" [] [.shw d] (some t) := fun h hl => by
    obtain ⟨m, hm⟩ := tw_shows h
    unfold cutS at hm
    rw [if_pos hl] at hm
    exact ⟨m, hm⟩
  have lf : ∀ {n : Nat} {p : List Nat} {x : Vl} {t : Str}, kn x ≠ 5 → LeafIs ((rowsE es fs).map rowD) (vlD x) t → 1 ≤ t.length → t.length ≤ 1000 → TW (fun _ _ => True) ((rowsE es fs).map rowD) n p (vlD x) t := fun {n p x t} h1 h2 h3 h4 => .leaf (kd := "") (by rw [vlD_eq]; exact .plain fun e => (knd_ne (y := .ref 0) h1) (V.str.inj e)) (by decide +kernel) h2 h3 (by omega) trivial
  have tx : ∀ (z : Str), z.length ≤ 100 → ∀ {n : Nat} {p : List Nat}, 1 ≤ (inQ z).length → (inQ z).length ≤ 1000 → TW (fun _ _ => True) ((rowsE es fs).map rowD) n p (vlD (.text z)) (inQ z) := fun z hz {n p} h1 h2 => lf (by simp [kn]) (.text z [] (by omega)) h1 h2
  have it : ∀ (i : Int), i.natAbs.log2 < 1920 → ∀ {n : Nat} {p : List Nat}, 1 ≤ (tsI i).length → (tsI i).length ≤ 1000 → TW (fun _ _ => True) ((rowsE es fs).map rowD) n p (vlD (.int i)) (tsI i) := fun i hi {n p} h1 h2 => lf (by simp [kn]) (.int i [] hi) h1 h2
  have bt : ∀ (b : Bool), ∀ {n : Nat} {p : List Nat}, TW (fun _ _ => True) ((rowsE es fs).map rowD) n p (vlD (.bool b)) (if b = true then "True" else "False") := fun b {n p} => lf (by simp [kn]) (.bool b []) (by cases b <;> decide) (by cases b <;> decide)
  have nd : ∀ (k : Nat) (a : Vl) (ta : Str), (rowsE es fs)[k]? = some (.tup [a, .text "a"]) → (∀ {n : Nat} {p : List Nat}, TW (fun _ _ => True) ((rowsE es fs).map rowD) n p (vlD a) ta) → TW (fun _ _ => True) ((rowsE es fs).map rowD) 1 [] (refD k) ("(" ++ (bodyT "tuple" [ta, inQ "a"] ++ ")")) := fun k a ta h1 h2 =>
    .node (kd := "tuple") (o := "(") (c := ")") (parts := [vlD a, vlD (.text "a")]) (by rw [List.getElem?_map, h1]; rfl) (by decide +kernel) (by simp) (by decide) (by show 2 ≤ 1000; decide) (.one (by decide) h2 (.one (by decide) (tx "a" (by decide +kernel) (by decide +kernel) (by decide +kernel)) .nil))
  intro k hk
  simp only [dom47, List.mem_cons, List.not_mem_nil, or_false] at hk
  rcases hk with rfl | rfl | rfl | rfl | rfl | rfl | rfl | rfl | rfl | rfl | rfl
  · exact fin (n := 0) (bt true) (by decide)
  · exact fin (n := 0) (bt false) (by decide)
  · exact (show shownV (.text "") = inQ "" by decide +kernel) ▸ fin (n := 0) (tx "" (by decide +kernel) (by decide +kernel) (by decide +kernel)) (by decide +kernel)
  · exact (show shownV (.text "a") = inQ "a" by decide +kernel) ▸ fin (n := 0) (tx "a" (by decide +kernel) (by decide +kernel) (by decide +kernel)) (by decide +kernel)
  · exact (show shownV (.text "ab") = inQ "ab" by decide +kernel) ▸ fin (n := 0) (tx "ab" (by decide +kernel) (by decide +kernel) (by decide +kernel)) (by decide +kernel)
  · exact fin (n := 0) (lf (x := .non) (by simp [kn]) (.none []) (by decide +kernel) (by decide +kernel)) (by decide +kernel)
  · exact (show shownV (.ref 2) = "(" ++ (bodyT "tuple" [tsI 1, inQ "a"] ++ ")") by decide +kernel) ▸ fin (nd 2 (.int 1) (tsI 1) (rows_at es fs).2.2.1 (it 1 (by decide) (by decide +kernel) (by decide +kernel))) (by decide +kernel)
  · exact fin (n := 0) (it 0 (by decide) (by decide +kernel) (by decide +kernel)) (by decide +kernel)
  · exact fin (n := 0) (it 1 (by decide) (by decide +kernel) (by decide +kernel)) (by decide +kernel)
  · exact fin (n := 0) (it 2 (by decide) (by decide +kernel) (by decide +kernel)) (by decide +kernel)
  · exact fin (n := 0) (it 3 (by decide) (by decide +kernel) (by decide +kernel)) (by decide +kernel)
end

section
--SPLIT
end
section
/-! written data, and one turn of the law -/
variable {K : PySem.W.Frag}
def Mk (K : PySem.W.Frag) (t : TE) (d : PyData) : Prop := ∀ σ H Q, (∀ v H', Same H H' → Dt K H' v d → Q v H') → t σ H Q
def MkA (K : PySem.W.Frag) (t : TA) (ds : List PyData) : Prop := ∀ σ H Q, (∀ vs H', Same H H' → DtAll K H' vs ds → Q vs H') → t σ H Q
theorem Mk.str (z : Str) : Mk K (tC (.str z)) (.str z) := fun σ H Q k => k _ _ (Same.refl _) (.str _)
theorem Mk.int (i : Int) : Mk K (tC (.int i)) (.int i) := fun σ H Q k => k _ _ (Same.refl _) (.int _)
theorem Mk.bl (b : Bool) : Mk K (tC (.bl b)) (.bool b) := fun σ H Q k => k _ _ (Same.refl _) (.bl _)
theorem MkA.nil : MkA K tNil [] := fun σ H Q k => k _ _ (Same.refl _) .nil
theorem MkA.cons {t : TE} {d : PyData} {ts : TA} {ds : List PyData} (h : Mk K t d) (r : MkA K ts ds) : MkA K (tCons t ts) (d :: ds) := fun σ H Q k => h σ H _ fun v H1 S1 d1 => r σ H1 _ fun vs H2 S2 d2 => k _ _ (S1.trans S2) (.cons (d1.mono S2) d2)
theorem Mk.tup {t : TA} {ds : List PyData} (h : MkA K t ds) (hl : ds.length ≤ 1000) : Mk K (tTup t) (.tuple ds) := fun σ H Q k => h σ H _ fun vs H1 S1 d1 => ⟨by rw [d1.length]; exact Nat.le_trans hl (by decide), fun p hp => k _ _ (S1.trans (Same.new hp)) (Dt.made hp d1)⟩
theorem Mk.pr {t t' : TE} {d d' : PyData} (a : Mk K t d) (b : Mk K t' d') : Mk K (tTup (tCons t (tCons t' tNil))) (.tuple [d, d']) := .tup (.cons a (.cons b .nil)) (by simp)
theorem Mk.one {t : TE} {d : PyData} (a : Mk K t d) : Mk K (tTup (tCons t tNil)) (.tuple [d]) := .tup (.cons a .nil) (by simp)
theorem new_back {H H' : Hp} {l : Addr} (S : Same H H') (h : H' l = none) : H l = none := by
  cases e : H l with
  | none => rfl
  | some o => rw [S _ _ e] at h; cases h
theorem mk_lst {t : TA} {ds : List PyData} (h : MkA K t ds) (hl : ds.length ≤ 1000) {σ : L2.St} {H : Hp} {Q : VK} (k : ∀ l H', Same H H' → H l = none → ListAt K H' l ds → Q (.ref l) H') : tLst t σ H Q :=
  h σ H _ fun vs H1 S1 d1 => ⟨by rw [d1.length]; exact Nat.le_trans hl (by decide), fun l hl => k _ _ (S1.trans (Same.new hl)) (new_back S1 hl) (listAt_made hl d1)⟩
theorem mk_is {t : TE} {d : PyData} (h : Mk K t d) {σ : L2.St} {H : Hp} {Q : VK} (k : ∀ v H', Same H H' → Dt K H' v d → Q v H') : t σ H Q := h σ H Q k
theorem mkA_is {t : TA} {ds : List PyData} (h : MkA K t ds) {σ : L2.St} {H : Hp} {Q : List V → Hp → Prop} (k : ∀ vs H', Same H H' → DtAll K H' vs ds → Q vs H') : t σ H Q := h σ H Q k
end

abbrev s_law_key : Stmt := top 134
abbrev N_law_key : List Str := ["box", "kind"]
abbrev P_law_key : List Str := ["box"]
theorem sc_law_key : FnScope N_law_key P_law_key (defScope s_law_key) := ⟨rfl, rfl, rfl, by decide +kernel, rfl, by decide +kernel, by decide +kernel⟩
abbrev s_law_shown : Stmt := top 135
abbrev N_law_shown : List Str := ["key"]
abbrev P_law_shown : List Str := ["key"]
theorem sc_law_shown : FnScope N_law_shown P_law_shown (defScope s_law_shown) := ⟨rfl, rfl, rfl, by decide +kernel, rfl, by decide +kernel, by decide +kernel⟩
abbrev s_law_plain : Stmt := top 136
abbrev N_law_plain : List Str := ["key"]
abbrev P_law_plain : List Str := ["key"]
theorem sc_law_plain : FnScope N_law_plain P_law_plain (defScope s_law_plain) := ⟨rfl, rfl, rfl, by decide +kernel, rfl, by decide +kernel, by decide +kernel⟩
abbrev s_law_place : Stmt := top 137
abbrev N_law_place : List Str := ["rows", "key", "at"]
abbrev P_law_place : List Str := ["rows", "key"]
theorem sc_law_place : FnScope N_law_place P_law_place (defScope s_law_place) := ⟨rfl, rfl, rfl, by decide +kernel, rfl, by decide +kernel, by decide +kernel⟩
abbrev s_law_put : Stmt := top 138
abbrev N_law_put : List Str := ["rows", "key", "value", "at"]
abbrev P_law_put : List Str := ["rows", "key", "value"]
theorem sc_law_put : FnScope N_law_put P_law_put (defScope s_law_put) := ⟨rfl, rfl, rfl, by decide +kernel, rfl, by decide +kernel, by decide +kernel⟩
abbrev s_law_due : Stmt := top 139
abbrev N_law_due : List Str := ["name", "rows", "args", "at", "value"]
abbrev P_law_due : List Str := ["name", "rows", "args"]
theorem sc_law_due : FnScope N_law_due P_law_due (defScope s_law_due) := ⟨rfl, rfl, rfl, by decide +kernel, rfl, by decide +kernel, by decide +kernel⟩
section
variable {P : Program} {w : World} {K : PySem.W.Frag} {mg : Str → Option Value} {base : Heap}
def spLKey (K : PySem.W.Frag) : Sp := fun vs H Q _ => ∃ (p dl : Addr), vs = [.ref p] ∧ BoxAt H p dl ∧ ∀ v H' x, BoxAt H' p dl → Keep p H H' → Dt K H' v (vlD x) → x ∈ dom47 → Q v H'
theorem ok_lkey {f : Addr} {fd : FuncData} (F : Fun K "_law_key" "_law_key" s_law_key f fd) (T : Txt K mg) (U_law_draw : Use P w K mg base CX0 "_law_draw" 1 P_law_draw (spDraw K)) : FnG P w K mg base CX0 2 f fd P_law_key (spLKey K) := by
  refine okG0 F sc_law_key (fun vs H Q E h => ?_) fun cdv A outer s H vs Q E hr hg h => ?_
  · obtain ⟨p, dl, rfl, _⟩ := h
    rfl
  · obtain ⟨p, dl, rfl, B, k⟩ := h
    refine ⟨_, (pss_cons (ps_set (i := 1) sc_law_key.nd rfl (Or.inl rfl) (pe_use U_law_draw (hr.mono (by decide)) hg rfl (pa_cons (pv 0) (pa_cons pe_int pa_nil))))
  (pss_cons (ps_if (pt_cmpR op_eq (pv 1) pe_int (nomark _))
   (pss_one (ps_ret (pe_tup (pa_cons pe_str (pa_cons (pe_cmpR op_eq (pe_use U_law_draw (hr.mono (by decide)) hg rfl (pa_cons (pv 0) (pa_cons pe_int pa_nil))) pe_int (nomark _)) pa_nil)))))
   pss_nil)
  (pss_cons (ps_if (pt_cmpR op_eq (pv 1) pe_int (nomark _))
   (pss_one (ps_ret (pe_tup (pa_cons pe_str (pa_cons (pe_slice sl_str pe_str po_none (po_some (pe_use U_law_draw (hr.mono (by decide)) hg rfl (pa_cons (pv 0) (pa_cons pe_int pa_nil))))) pa_nil)))))
   pss_nil)
  (pss_cons (ps_if (pt_cmpR op_eq (pv 1) pe_int (nomark _))
   (pss_one (ps_ret (pe_tup (pa_cons pe_str pa_nil))))
   pss_nil)
  (pss_cons (ps_if (pt_cmpR op_eq (pv 1) pe_int (nomark _))
   (pss_one (ps_ret (pe_tup (pa_cons pe_str (pa_cons pe_int pa_nil)))))
   pss_nil)
  (pss_one (ps_ret (pe_tup (pa_cons pe_str (pa_cons (pe_use U_law_draw (hr.mono (by decide)) hg rfl (pa_cons (pv 0) (pa_cons pe_int pa_nil))) pa_nil)))))))))), ?_⟩
    have fin : ∀ {H1 : Hp} {u : Addr} {vs : List V} {x : Vl}, BoxAt H1 p dl → Keep p H H1 → H1 u = none → DtAll K H1 vs (.str (knd x) :: resD x) → x ∈ dom47 → Q (.ref u) (upd H1 u (.tup vs)) := fun {H1 u vs x} B1 K1 hu d hx =>
      k _ _ x (B1.same (Same.new hu)) (K1.trans (Same.keep (Same.new hu))) (by rw [vlD_eq]; exact Dt.made hu d) hx
    refine ⟨_, rfl, p, dl, 6, rfl, B, by decide, fun r H1 r0 r1 B1 K1 => ?_⟩
    refine ⟨_, rfl, rfl, _, rfl, ite3 (fun c => ?_) fun c => ?_⟩
    · refine ⟨_, rfl, p, dl, 2, rfl, B1, by decide, fun r2 H2 q0 q1 B2 K2 => ⟨rfl, sz_2, fun u hu => ?_⟩⟩
      exact fin (x := .bool _) B2 (K1.trans K2) hu (.cons (.str _) (.cons (.bl _) .nil)) (by cases decide (V.int r2 = V.int 1) <;> simp [dom47])
    refine ⟨_, rfl, rfl, _, rfl, ite3 (fun c1 => ?_) fun c1 => ?_⟩
    · refine ⟨_, rfl, p, dl, 3, rfl, B1, by decide, fun r2 H2 q0 q1 B2 K2 => ?_⟩
      have hz : L2.cutS "abc" none (some r2) ∈ (["", "a", "ab"] : List Str) := by
        obtain rfl | rfl | rfl : r2 = 0 ∨ r2 = 1 ∨ r2 = 2 := by omega
        all_goals decide +kernel
      refine ⟨_, rfl, "abc", rfl, by decide +kernel, sz_2, fun u hu => ?_⟩
      refine fin (x := .text (L2.cutS "abc" none (some r2))) B2 (K1.trans K2) hu (.cons (.str _) (.cons (.str _) .nil)) ?_
      generalize L2.cutS "abc" none (some r2) = z at hz
      simp only [List.mem_cons, List.not_mem_nil, or_false] at hz
      rcases hz with rfl | rfl | rfl <;> simp [dom47]
    refine ⟨_, rfl, rfl, _, rfl, ite3 (fun c2 => ?_) fun c2 => ?_⟩
    · exact ⟨sz_1, fun u hu => fin (x := .non) B1 K1 hu (.cons (.str _) .nil) (by simp [dom47])⟩
    refine ⟨_, rfl, rfl, _, rfl, ite3 (fun c3 => ?_) fun c3 => ?_⟩
    · exact ⟨sz_2, fun u hu => fin (x := .ref 2) B1 K1 hu (.cons (.str _) (.cons (.int _) .nil)) (by simp [dom47])⟩
    · refine ⟨_, rfl, p, dl, 4, rfl, B1, by decide, fun r2 H2 q0 q1 B2 K2 => ⟨sz_2, fun u hu => ?_⟩⟩
      refine fin (x := .int r2) B2 (K1.trans K2) hu (.cons (.str _) (.cons (.int _) .nil)) ?_
      obtain rfl | rfl | rfl | rfl : r2 = 0 ∨ r2 = 1 ∨ r2 = 2 ∨ r2 = 3 := by omega
      all_goals simp [dom47]
def spLShown (K : PySem.W.Frag) : Sp := fun vs H Q _ => ∃ (v : V) (x : Vl), vs = [v] ∧ Dt K H v (vlD x) ∧ x ∈ dom47 ∧ ∀ H', Same H H' → Q (.str (shownV x)) H'
theorem ok_lshown {f : Addr} {fd : FuncData} (F : Fun K "_law_shown" "_law_shown" s_law_shown f fd) (T : Txt K mg) : FnG P w K mg base CX0 1 f fd P_law_shown (spLShown K) := by
  refine okG0 F sc_law_shown (fun vs H Q E h => ?_) fun cdv A outer s H vs Q E hr hg h => ?_
  · obtain ⟨v, x, rfl, _⟩ := h
    rfl
  · obtain ⟨v, x, rfl, dx, hx, k⟩ := h
    refine ⟨_, (pss_cons (ps_if (pt_cmpR op_eq (pe_ix ix_tup (pv 0) pe_int (fun _ _ => rfl)) pe_str (nomark _))
   (pss_one (ps_ret pe_str))
   pss_nil)
  (pss_cons (ps_if (pt_cmpR op_eq (pe_ix ix_tup (pv 0) pe_int (fun _ _ => rfl)) pe_str (nomark _))
   (pss_one (ps_ret pe_str))
   pss_nil)
  (pss_cons (ps_if (pt_cmpR op_eq (pe_ix ix_tup (pv 0) pe_int (fun _ _ => rfl)) pe_str (nomark _))
   (pss_one (ps_ret (pe_op op_add_str (pe_op op_add_str pe_str (pe_ix ix_tup (pv 0) pe_int (fun _ _ => rfl))) pe_str)))
   pss_nil)
  (pss_one (ps_ret (pe_callTy call_strBI (by rfl) T.b_str (by decide +kernel) (pa_cons (pe_ix ix_tup (pv 0) pe_int (fun _ _ => rfl)) pa_nil))))))), ?_⟩
    obtain ⟨q, ws, rfl, hq, da⟩ := dvl dx
    have ref0 := k _ (Same.refl _)
    refine ⟨_, rfl, q, _, _, _, rfl, rfl, hq, at0, rfl, _, rfl, ?_⟩
    rcases dom_cases hx with ⟨b, rfl⟩ | ⟨i, rfl, h1, h2⟩ | rfl | rfl | ⟨z, rfl, hz⟩
    · obtain ⟨v1, _, rfl, dv1, _⟩ := da.cons_inv
      cases dv1
      refine iteFb ((knd_is _ 0 (by decide)).trans (decide_eq_false (by simp [kn]))) ?_
      refine ⟨_, rfl, q, _, _, _, rfl, rfl, hq, at0, rfl, _, rfl, iteFb ((knd_is _ 5 (by decide)).trans (decide_eq_false (by simp [kn]))) ?_⟩
      refine ⟨_, rfl, q, _, _, _, rfl, rfl, hq, at0, rfl, _, rfl, iteFb ((knd_is _ 3 (by decide)).trans (decide_eq_false (by simp [kn]))) ?_⟩
      exact ⟨_, rfl, q, _, _, _, rfl, rfl, hq, at1, _, _, rfl, .bl, ref0⟩
    · obtain ⟨v1, _, rfl, dv1, _⟩ := da.cons_inv
      cases dv1.int_inv
      have hb : i.natAbs < 2 ^ 300 := Nat.lt_of_lt_of_le (show i.natAbs < 2 ^ 20 by omega) (Nat.pow_le_pow_right (by decide) (by decide))
      refine iteFb ((knd_is _ 0 (by decide)).trans (decide_eq_false (by simp [kn]))) ?_
      refine ⟨_, rfl, q, _, _, _, rfl, rfl, hq, at0, rfl, _, rfl, iteFb ((knd_is _ 5 (by decide)).trans (decide_eq_false (by simp [kn]))) ?_⟩
      refine ⟨_, rfl, q, _, _, _, rfl, rfl, hq, at0, rfl, _, rfl, iteFb ((knd_is _ 3 (by decide)).trans (decide_eq_false (by simp [kn]))) ?_⟩
      exact ⟨_, rfl, q, _, _, _, rfl, rfl, hq, at1, _, _, rfl, .int (log_lt hb), ref0⟩
    · refine iteFb ((knd_is _ 0 (by decide)).trans (decide_eq_false (by simp [kn]))) ?_
      exact ⟨_, rfl, q, _, _, _, rfl, rfl, hq, at0, rfl, _, rfl, iteTb ((knd_is _ 5 (by decide)).trans (decide_eq_true rfl)) ref0⟩
    · exact iteTb ((knd_is _ 0 (by decide)).trans (decide_eq_true rfl)) ref0
    · obtain ⟨v1, _, rfl, dv1, _⟩ := da.cons_inv
      cases dt_str dv1
      have hl : z.length ≤ 10 := by
        have : ∀ z ∈ (["", "a", "ab"] : List Str), z.length ≤ 10 := by decide +kernel
        exact this z hz
      have q1 : ("'" : Str).length = 1 := rfl
      refine iteFb ((knd_is _ 0 (by decide)).trans (decide_eq_false (by simp [kn]))) ?_
      refine ⟨_, rfl, q, _, _, _, rfl, rfl, hq, at0, rfl, _, rfl, iteFb ((knd_is _ 5 (by decide)).trans (decide_eq_false (by simp [kn]))) ?_⟩
      refine ⟨_, rfl, q, _, _, _, rfl, rfl, hq, at0, rfl, _, rfl, iteTb ((knd_is _ 3 (by decide)).trans (decide_eq_true rfl)) ?_⟩
      exact ⟨_, rfl, q, _, _, _, rfl, rfl, hq, at1, _, _, rfl, rfl, ss_le (by rw [q1]; omega), _, _, rfl, rfl, ss_le (by rw [strlen_cat, q1]; omega), ref0⟩
theorem dom48_cases {x : Vl} (h : x ∈ dom48) : x ∈ dom47 ∨ x = .ref 3 := (List.mem_append.mp h).imp id fun h => List.mem_singleton.mp h
def spLPlain (K : PySem.W.Frag) : Sp := fun vs H Q _ => ∃ (v : V) (x : Vl), vs = [v] ∧ Dt K H v (vlD x) ∧ x ∈ dom48 ∧ ∀ u H', Same H H' → Dt K H' u (vlD (plainV x)) → Q u H'
theorem ok_lplainK {f : Addr} {fd : FuncData} (F : Fun K "_law_plain" "_law_plain" s_law_plain f fd) (T : Txt K mg) : FnG P w K mg base CX0 1 f fd P_law_plain (spLPlain K) := by
  refine okG0 F sc_law_plain (fun vs H Q E h => ?_) fun cdv A outer s H vs Q E hr hg h => ?_
  · obtain ⟨v, x, rfl, _⟩ := h
    rfl
  · obtain ⟨v, x, rfl, dx, hx, k⟩ := h
    refine ⟨_, (pss_cons (ps_if (pt_cmpR op_eq (pe_ix ix_tup (pv 0) pe_int (fun _ _ => rfl)) pe_str (nomark _))
   (pss_one (ps_ret (pe_tup (pa_cons pe_str (pa_cons (pe_callTy call_int1 (by rfl) T.b_int (by decide +kernel) (pa_cons (pe_ix ix_tup (pv 0) pe_int (fun _ _ => rfl)) pa_nil)) pa_nil)))))
   pss_nil)
  (pss_one (ps_ret (pv 0)))), ?_⟩
    have dx0 := dx
    obtain ⟨q, ws, rfl, hq, da⟩ := dvl dx
    refine ⟨_, rfl, q, _, _, _, rfl, rfl, hq, at0, rfl, _, rfl, ?_⟩
    by_cases c : kn x = 1
    · cases x with
      | bool b =>
        obtain ⟨v1, _, rfl, dv1, _⟩ := da.cons_inv
        cases dv1
        refine iteTb ((knd_is _ 1 (by decide)).trans (decide_eq_true rfl)) ?_
        exact ⟨_, rfl, q, _, _, _, rfl, rfl, hq, at1, .inr ⟨_, rfl, sz_2, fun u hu => k _ _ (Same.new hu) (Dt.made hu (.cons (.str _) (.cons (.int _) .nil)))⟩⟩
      | _ => simp [kn] at c
    · refine iteFb ((knd_is _ 1 (by decide)).trans (decide_eq_false c)) ?_
      have e : plainV x = x := by cases x <;> first | rfl | (simp [kn] at c; done)
      rw [e] at k
      exact ⟨_, rfl, k _ _ (Same.refl _) dx0⟩
theorem show_plain : ∀ x ∈ dom48, ShowOk (vlD (plainV x)) := fun x hx => by
  have h : ∀ x ∈ dom48, (vlD (plainV x)).showable = true ∧ (vlD (plainV x)).depth ≤ 60 ∧ (vlD (plainV x)).shown.length ≤ 1000 := by decide +kernel
  obtain ⟨h1, h2, h3⟩ := h x hx
  exact ⟨h1, h2, Nat.le_trans h3 (by decide)⟩
theorem in48 {x : Vl} (h : x ∈ dom47) : x ∈ dom48 := List.mem_append_left _ h
def spLPlace (K : PySem.W.Frag) : Sp := fun vs H Q _ => ∃ (el : Addr) (es : List (Vl × Vl)) (v : V) (x : Vl), vs = [.ref el, v] ∧ ListAt K H el (es.map entD) ∧ Dt K H v (vlD x) ∧ (∀ e ∈ es, e.1 ∈ dom47) ∧ x ∈ dom48 ∧ es.length ≤ 1000 ∧ ∀ H', Same H H' → Q (.int (placeI (fT kt47 es (kt47 x)))) H'
theorem ok_lplace {f : Addr} {fd : FuncData} (F : Fun K "_law_place" "_law_place" s_law_place f fd) (T : Txt K mg) (U_law_plain : Use P w K mg base CX0 "_law_plain" 1 P_law_plain (spLPlain K)) : FnG P w K mg base CX0 2 f fd P_law_place (spLPlace K) := by
  refine okG0 F sc_law_place (fun vs H Q E h => ?_) fun cdv A outer s H vs Q E hr hg h => ?_
  · obtain ⟨el, es, v, x, rfl, _⟩ := h
    rfl
  · obtain ⟨el, es, v, x, rfl, L, dx, he, hx, hl, k⟩ := h
    refine ⟨_, (pss_cons (ps_for PassesOwn.never rfl (pi_range1 (by rfl) T.b_range (pa_cons (pe_callB call_len (by rfl) T.b_len PySem.boot_len (pa_cons (pv 0) pa_nil)) pa_nil)) (pg_name (i := 2) sc_law_place.nd rfl (Or.inl rfl))
   (pss_one (ps_if (pt_cmpR op_eq (pe_callB (call_repr_data hg hr.units) (by rfl) T.b_repr (by decide +kernel) (pa_cons (pe_use U_law_plain (hr.mono (by decide)) hg rfl (pa_cons (pe_ix ix_tup (pe_ix ix_list (pv 0) (pv 2) (fun _ _ => rfl)) pe_int (fun _ _ => rfl)) pa_nil)) pa_nil)) (pe_callB (call_repr_data hg hr.units) (by rfl) T.b_repr (by decide +kernel) (pa_cons (pe_use U_law_plain (hr.mono (by decide)) hg rfl (pa_cons (pv 1) pa_nil)) pa_nil)) (nomark _))
   (pss_one (ps_ret (pv 2)))
   pss_nil)))
  (pss_one (ps_ret (pe_un un_neg pe_int)))), ?_⟩
    obtain ⟨zs, ez, az⟩ := id L
    have lz := az.length
    rw [List.length_map] at lz
    refine ⟨_, rfl, _, _, rfl, .inl ⟨_, SqL.of ez, rfl⟩, _, rfl, by omega, by omega, ?_⟩
    rw [lz, Int.toNat_natCast]
    refine for_range (lo := 0) (n := es.length) (fun i σ H1 => ∃ x2 : Option V, σ = [some (.ref el), some v, x2] ∧ Same H H1 ∧ ∀ (j : Nat) (e' : Vl × Vl), j < i → es[j]? = some e' → kt47 e'.1 ≠ kt47 x) ⟨none, rfl, Same.refl _, fun j _ hj => absurd hj (Nat.not_lt_zero _)⟩ ?_ ?_
    · rintro i σ H1 hi ⟨x2, rfl, S1, hno⟩
      rw [Int.zero_add]
      have hdi : es[i]? = some es[i] := List.getElem?_eq_getElem hi
      have hmem := List.getElem_mem (l := es) (n := i) hi
      generalize es[i] = g at hdi hmem
      obtain ⟨v', hv', dv⟩ := az.get (i := i) (d := entD g) (by rw [List.getElem?_map, hdi]; rfl)
      obtain ⟨q, z1, z2, rfl, hq, d1, d2⟩ := dt_ent (dv.mono S1)
      refine ⟨_, rfl, _, rfl, el, _, _, _, rfl, rfl, SqL.of (S1 _ _ ez), atI_nat hv', q, _, _, _, rfl, rfl, hq, at0, _, g.1, rfl, d1, in48 (he g hmem), fun u1 H2 S2 du1 => ?_⟩
      have S12 := S1.trans S2
      refine ⟨_, _, rfl, du1.dp, show_plain _ (in48 (he g hmem)), _, rfl, v, x, rfl, dx.mono S12, hx, fun u2 H3 S3 du2 => ?_⟩
      have S13 := S12.trans S3
      refine ⟨_, _, rfl, du2.dp, show_plain _ hx, rfl, _, rfl, ?_⟩
      have hd := plain_dom _ (he g hmem) _ hx
      by_cases c : kt47 g.1 = kt47 x
      · rw [decide_eq_true c] at hd
        refine iteTb (by rw [of_decide_eq_true hd]; exact decide_eq_true rfl) ⟨_, rfl, ?_⟩
        have e : fT kt47 es (kt47 x) = some i := by
          unfold fT
          rw [List.findIdx?_eq_some_iff_getElem]
          obtain ⟨h1, h2⟩ := List.getElem?_eq_some_iff.mp hdi
          refine ⟨h1, by rw [h2]; exact decide_eq_true c, fun j hj => ?_⟩
          have := hno j _ hj (List.getElem?_eq_getElem (by omega))
          rw [decide_eq_false this]
          exact Bool.false_ne_true
        have kk := k H3 S13
        rw [e] at kk
        exact kk
      · rw [decide_eq_false c] at hd
        refine iteFb (dec_str (of_decide_eq_false hd)) ⟨_, rfl, S13, fun j e' hj he' => ?_⟩
        by_cases cj : j = i
        · rw [cj, hdi] at he'; cases he'; exact c
        · exact hno j e' (by omega) he'
    · rintro σ H1 ⟨x2, rfl, S1, hno⟩
      have e : fT kt47 es (kt47 x) = none := fT_none fun e he' => by
        obtain ⟨j, hj⟩ := List.getElem?_of_mem he'
        exact hno j e (List.getElem?_eq_some_iff.mp hj).1 hj
      have kk := k H1 S1
      rw [e] at kk
      exact ⟨_, rfl, kk⟩
def spLPut (K : PySem.W.Frag) : Sp := fun vs H Q _ => ∃ (el : Addr) (es : List (Vl × Vl)) (v vy : V) (x y : Vl), vs = [.ref el, v, vy] ∧ ListAt K H el (es.map entD) ∧ Dt K H v (vlD x) ∧ Dt K H vy (vlD y) ∧ (∀ e ∈ es, e.1 ∈ dom47) ∧ x ∈ dom47 ∧ es.length ≤ 999 ∧ ∀ H', Keep el H H' → ListAt K H' el ((putT kt47 es (x, y)).map entD) → Q .non H'
theorem ok_lput {f : Addr} {fd : FuncData} (F : Fun K "_law_put" "_law_put" s_law_put f fd) (T : Txt K mg) (U_law_place : Use P w K mg base CX0 "_law_place" 2 P_law_place (spLPlace K)) : FnG P w K mg base CX0 3 f fd P_law_put (spLPut K) := by
  refine okG0 F sc_law_put (fun vs H Q E h => ?_) fun cdv A outer s H vs Q E hr hg h => ?_
  · obtain ⟨el, es, v, vy, x, y, rfl, _⟩ := h
    rfl
  · obtain ⟨el, es, v, vy, x, y, rfl, L, dx, dy, he, hx, hl, k⟩ := h
    refine ⟨_, (pss_cons (ps_set (i := 3) sc_law_put.nd rfl (Or.inl rfl) (pe_use U_law_place (hr.mono (by decide)) hg rfl (pa_cons (pv 0) (pa_cons (pv 1) pa_nil))))
  (pss_one (ps_if (pt_cmpR op_ge (pv 3) pe_int (nomark _))
   (pss_one (ps_asg (pe_tup (pa_cons (pe_ix ix_tup (pe_ix ix_list (pv 0) (pv 3) (fun _ _ => rfl)) pe_int (fun _ _ => rfl)) (pa_cons (pv 2) pa_nil))) (pg_sub (pv 0) (pv 3) set_list)))
   (pss_one (ps_expr (pe_bm PySem.F.plainAttrs_list PySem.F.slot_list_append PySem.F.type_list_append mt_append (pv 0) (pa_cons (pe_tup (pa_cons (pv 1) (pa_cons (pv 2) pa_nil))) pa_nil))))))), ?_⟩
    refine ⟨_, rfl, _, rfl, el, es, v, x, rfl, L, dx, he, in48 hx, by omega, fun H1 S1 => ?_⟩
    obtain ⟨zs, ez, az⟩ := id (listAt_mono L S1)
    have lz := az.length
    rw [List.length_map] at lz
    have dx := dx.mono S1
    have dy := dy.mono S1
    refine ⟨_, rfl, _, _, rfl, rfl, _, rfl, ?_⟩
    cases hf : fT kt47 es (kt47 x) with
    | some m =>
      obtain ⟨e, he', _⟩ := fT_lt hf
      have hm := (List.getElem?_eq_some_iff.mp he').1
      obtain ⟨ve', hve, dve⟩ := az.get (i := m) (d := entD e) (by rw [List.getElem?_map, he']; rfl)
      obtain ⟨qx, z1, z2, rfl, hqx, dz1, dz2⟩ := dt_ent dve
      refine iteTb (decide_eq_true (by show (0 : Int) ≤ ((m : Nat) : Int); omega)) ?_
      refine ⟨_, rfl, _, rfl, el, _, _, _, rfl, rfl, SqL.of ez, atI_nat hve, qx, _, _, _, rfl, rfl, hqx, at0, _, rfl, sz_2, fun u hu => ?_⟩
      have S9 := Same.new (o := .tup [z1, vy]) hu
      have du : Dt K _ (.ref u) (entD (e.1, y)) := Dt.made (K := K) hu (.cons dz1 (.cons dy .nil))
      refine ⟨_, rfl, _, rfl, el, _, _, m, rfl, rfl, S9 _ _ ez, ixN_natD (by omega), ?_⟩
      refine k _ (fun b o eb ne => by rw [upd_ne ne]; exact (S1.trans S9) b o eb) ?_
      rw [show putT kt47 es (x, y) = es.set m (e.1, y) by unfold putT; rw [hf]; show es.set m ((es.getD m (x, y)).1, y) = _; rw [List.getD_eq_getElem?_getD, he']; rfl, List.map_set]
      exact ⟨_, upd_same, dtAll_setD ((az.mono S9).keepT (KeepT.upd (S9 _ _ ez))) (du.keepT (KeepT.upd (S9 _ _ ez)))⟩
    | none =>
      refine iteFb (by rfl) ?_
      refine ⟨_, rfl, .inl ⟨rfl, _, SqL.of ez⟩, _, rfl, _, rfl, sz_2, fun u hu => ⟨el, _, _, rfl, rfl, (Same.new hu) _ _ ez, js_lt (by omega), ?_⟩⟩
      have S9 := Same.new (o := .tup [v, vy]) hu
      refine k _ (fun b o eb ne => by rw [upd_ne ne]; exact (S1.trans S9) b o eb) ?_
      rw [show putT kt47 es (x, y) = es ++ [(x, y)] by unfold putT; rw [hf], List.map_append]
      exact listAt_app (listAt_mono L (S1.trans S9)) (S9 _ _ ez) (Dt.made hu (.cons dx (.cons dy .nil)))
/-! what is due -/
def okD (y : Vl) : PyData := .tuple [.str "ok", vlD y]
def noD (nm : Str) (x : Vl) : Option Vl → PyData
  | some y => okD y
  | none => if nm = "get" then doneD else missD (shownV x)
def dueD (nm : Str) (es : List (Vl × Vl)) (x : Vl) (o : Option Vl) : PyData :=
  if x = .ref 3 then badD "list" else match fT kt47 es (kt47 x) with
    | some i => okD (es.getD i (x, x)).2
    | none => noD nm x o
def dueE (nm : Str) (es : List (Vl × Vl)) (x : Vl) (o : Option Vl) : List (Vl × Vl) :=
  if x = .ref 3 then es else match fT kt47 es (kt47 x) with
    | some i => if nm = "pop" then es.take i ++ es.drop (i + 1) else es
    | none => if nm = "setdefault" then es ++ [(x, o.getD x)] else es
theorem dtAll_erase {H : Hp} : ∀ {vs : List V} {ds : List PyData} {m : Nat}, DtAll K H vs ds → DtAll K H (vs.eraseIdx m) (ds.eraseIdx m)
  | _, _, _, .nil => .nil
  | _, _, 0, .cons _ t => t
  | _, _, m + 1, .cons h t => .cons h (dtAll_erase (m := m) t)
theorem seq_ix {n k : Nat} (h : k < n) : seqIndex? ((k : Nat) : Int) n = some k := (ixN_seq (ixN_natD h)).1
def spLDue (K : PySem.W.Frag) : Sp := fun vs H Q _ => ∃ (nm : Str) (el al : Addr) (es : List (Vl × Vl)) (x : Vl) (o : Option Vl), vs = [.str nm, .ref el, .ref al] ∧ ListAt K H el (es.map entD) ∧ ListAt K H al ((Vl.ref 0 :: x :: o.toList).map vlD) ∧ (∀ e ∈ es, e.1 ∈ dom47) ∧ x ∈ dom48 ∧ es.length ≤ 900 ∧ el ≠ al ∧ (nm = "setdefault" → o ≠ none) ∧
  ∀ u H', Keep el H H' → Dt K H' u (dueD nm es x o) → ListAt K H' el ((dueE nm es x o).map entD) → Q u H'
theorem ok_ldue {f : Addr} {fd : FuncData} (F : Fun K "_law_due" "_law_due" s_law_due f fd) (T : Txt K mg) (U_law_place : Use P w K mg base CX0 "_law_place" 2 P_law_place (spLPlace K)) (U_law_shown : Use P w K mg base CX0 "_law_shown" 1 P_law_shown (spLShown K)) : FnG P w K mg base CX0 3 f fd P_law_due (spLDue K) := by
  refine okG0 F sc_law_due (fun vs H Q E h => ?_) fun cdv A outer s H vs Q E hr hg h => ?_
  · obtain ⟨nm, el, al, es, x, o, rfl, _⟩ := h
    rfl
  · obtain ⟨nm, el, al, es, x, o, rfl, L, La, he, hx, hl, hne, hsd, k⟩ := h
    refine ⟨_, (pss_cons (ps_set (i := 3) sc_law_due.nd rfl (Or.inl rfl) (pe_use U_law_place (hr.mono (by decide)) hg rfl (pa_cons (pv 1) (pa_cons (pe_ix ix_list (pv 2) pe_int (fun _ _ => rfl)) pa_nil))))
  (pss_cons (ps_if (pt_cmpR (op_eqD hr.units) (pe_ix ix_list (pv 2) pe_int (fun _ _ => rfl)) (pe_tup (pa_cons pe_str (pa_cons pe_int pa_nil))) (nomark _))
   (pss_one (ps_ret (pe_tup (pa_cons pe_str (pa_cons pe_int (pa_cons pe_str pa_nil))))))
   pss_nil)
  (pss_cons (ps_if (pt_cmpR op_ge (pv 3) pe_int (nomark _))
   (pss_cons (ps_set (i := 4) sc_law_due.nd rfl (Or.inl rfl) (pe_ix ix_tup (pe_ix ix_list (pv 1) (pv 3) (fun _ _ => rfl)) pe_int (fun _ _ => rfl)))
  (pss_cons (ps_if (pt_cmpR op_eq (pv 0) pe_str (nomark _))
   (pss_one (ps_expr (pe_bm PySem.F.plainAttrs_list PySem.F.slot_list_pop PySem.F.type_list_pop mt_popAt (pv 1) (pa_cons (pv 3) pa_nil))))
   pss_nil)
  (pss_one (ps_ret (pe_tup (pa_cons pe_str (pa_cons (pv 4) pa_nil)))))))
   pss_nil)
  (pss_cons (ps_if (pt_cmpR op_eq (pv 0) pe_str (nomark _))
   (pss_one (ps_expr (pe_bm PySem.F.plainAttrs_list PySem.F.slot_list_append PySem.F.type_list_append mt_append (pv 1) (pa_cons (pe_tup (pa_cons (pe_ix ix_list (pv 2) pe_int (fun _ _ => rfl)) (pa_cons (pe_ix ix_list (pv 2) pe_int (fun _ _ => rfl)) pa_nil))) pa_nil))))
   pss_nil)
  (pss_cons (ps_if (pt_cmpR op_eq (pe_callB call_len (by rfl) T.b_len PySem.boot_len (pa_cons (pv 2) pa_nil)) pe_int (nomark _))
   (pss_one (ps_ret (pe_tup (pa_cons pe_str (pa_cons (pe_ix ix_list (pv 2) pe_int (fun _ _ => rfl)) pa_nil)))))
   pss_nil)
  (pss_cons (ps_if (pt_cmpR op_eq (pv 0) pe_str (nomark _))
   (pss_one (ps_ret (pe_tup (pa_cons pe_str (pa_cons (pe_tup (pa_cons pe_str pa_nil)) pa_nil)))))
   pss_nil)
  (pss_one (ps_ret (pe_tup (pa_cons pe_str (pa_cons pe_int (pa_cons (pe_use U_law_shown (hr.mono (by decide)) hg rfl (pa_cons (pe_ix ix_list (pv 2) pe_int (fun _ _ => rfl)) pa_nil)) pa_nil)))))))))))), ?_⟩
    obtain ⟨as, ea, aa⟩ := id La
    obtain ⟨v0, as', rfl, d0, aa'⟩ := (show DtAll K H as (vlD (.ref 0) :: vlD x :: o.toList.map vlD) from aa).cons_inv
    obtain ⟨vx, ar, rfl, dx, ao⟩ := aa'.cons_inv
    refine ⟨_, rfl, _, rfl, al, _, _, _, rfl, rfl, SqL.of ea, at1, el, es, vx, x, rfl, L, dx, he, hx, by omega, fun H1 S1 => ?_⟩
    refine ⟨_, rfl, al, _, _, _, rfl, rfl, SqL.of (S1 _ _ ea), at1, sz_2, fun u1 hu1 => ?_⟩
    have S2 := S1.trans (Same.new (o := .tup [V.str "ref", V.int 3]) hu1)
    have d3 : Dt K _ (.ref u1) (vlD (.ref 3)) := Dt.made hu1 (.cons (.str _) (.cons (.int _) .nil))
    have vx48 : vOk x := by
      rcases dom48_cases hx with h | rfl
      · exact (dom_ok x h).2
      · trivial
    refine ⟨_, _, (dx.mono S2).dp, d3.dp, vx48.shp.sh (by decide), (show vOk (.ref 3) from trivial).shp.sh (by decide), _, rfl, ?_⟩
    rw [eqv_vl x (.ref 3) (.inr rfl)]
    generalize upd H1 u1 _ = H2 at S2
    clear d3 hu1 S1
    by_cases c3 : x = .ref 3
    · refine iteTb (decide_eq_true c3) ⟨sz_3, fun u hu => ?_⟩
      have S3 := S2.trans (Same.new (o := .tup [V.str "raise", V.int 10, V.str "not a key: list"]) hu)
      have e1 : dueD nm es x o = badD "list" := if_pos c3
      have e2 : dueE nm es x o = es := if_pos c3
      rw [e1, e2] at k
      exact k _ _ (Same.keep S3) (Dt.made hu (.cons (.str _) (.cons (.int _) (.cons (.str _) .nil)))) (listAt_mono L S3)
    refine iteFb (decide_eq_false c3) ?_
    have hx47 := (dom48_cases hx).resolve_right c3
    obtain ⟨zs, ez, az⟩ := id (listAt_mono L S2)
    have lz := az.length
    rw [List.length_map] at lz
    refine ⟨_, rfl, _, _, rfl, rfl, _, rfl, ?_⟩
    cases hf : fT kt47 es (kt47 x) with
    | some m =>
      obtain ⟨e, he', _⟩ := fT_lt hf
      have hm := (List.getElem?_eq_some_iff.mp he').1
      obtain ⟨ve', hve, dve⟩ := az.get (i := m) (d := entD e) (by rw [List.getElem?_map, he']; rfl)
      obtain ⟨qx, z1, z2, rfl, hqx, dz1, dz2⟩ := dt_ent dve
      have e1 : dueD nm es x o = okD e.2 := by
        unfold dueD
        rw [if_neg c3, hf]
        show okD (es.getD m (x, x)).2 = _
        rw [List.getD_eq_getElem?_getD, he']
        rfl
      have e2 : dueE nm es x o = if nm = "pop" then es.take m ++ es.drop (m + 1) else es := by
        unfold dueE
        rw [if_neg c3, hf]
      rw [e1, e2] at k
      refine iteTb (decide_eq_true (by show (0 : Int) ≤ ((m : Nat) : Int); omega)) ?_
      refine ⟨_, rfl, _, rfl, el, _, _, _, rfl, rfl, SqL.of ez, atI_nat hve, qx, _, _, _, rfl, rfl, hqx, at1, ?_⟩
      refine ⟨_, rfl, rfl, _, rfl, ?_⟩
      by_cases cp : nm = "pop"
      · rw [if_pos cp] at k
        refine iteTb (by rw [cp]; rfl) ?_
        have hzm : zs[m]? = some (V.ref qx) := hve
        refine ⟨_, rfl, .inl ⟨rfl, _, SqL.of ez⟩, _, rfl, el, _, _, m, _, rfl, rfl, ez, Int.le_trans (by decide) (show (0 : Int) ≤ ((m : Nat) : Int) by omega), Int.lt_of_le_of_lt (show ((m : Nat) : Int) ≤ 900 by omega) (by decide), seq_ix (by omega), hzm, ?_⟩
        have kT : KeepT K H2 (upd H2 el (.lst (zs.eraseIdx m))) := KeepT.upd ez
        have a2 : DtAll K H2 (zs.eraseIdx m) ((es.take m ++ es.drop (m + 1)).map entD) := by
          rw [List.map_append, List.map_take, List.map_drop, ← List.eraseIdx_eq_take_drop_succ]
          exact dtAll_erase az
        have L3 : ListAt K (upd H2 el (.lst (zs.eraseIdx m))) el ((es.take m ++ es.drop (m + 1)).map entD) := ⟨_, upd_same, a2.keepT kT⟩
        have k3 : Keep el H (upd H2 el (.lst (zs.eraseIdx m))) := fun b o eb ne => by rw [upd_ne ne]; exact S2 b o eb
        have dz2 := dz2.keepT kT
        generalize upd H2 el (.lst (zs.eraseIdx m)) = H3 at L3 k3 dz2
        refine ⟨_, rfl, sz_2, fun u hu => ?_⟩
        exact k _ _ (k3.trans (Same.keep (Same.new hu))) (Dt.made hu (.cons (.str _) (.cons dz2 .nil))) (listAt_mono L3 (Same.new hu))
      · rw [if_neg cp] at k
        refine iteFb (dec_str cp) ?_
        refine ⟨_, rfl, sz_2, fun u hu => ?_⟩
        exact k _ _ (Same.keep (S2.trans (Same.new hu))) (Dt.made hu (.cons (.str _) (.cons dz2 .nil))) (listAt_mono L (S2.trans (Same.new hu)))
    | none =>
      refine iteFb (by rfl) ?_
      have e1 : dueD nm es x o = noD nm x o := by
        unfold dueD
        rw [if_neg c3, hf]
      have e2 : dueE nm es x o = if nm = "setdefault" then es ++ [(x, o.getD x)] else es := by
        unfold dueE
        rw [if_neg c3, hf]
      rw [e1, e2] at k
      have la := aa.length
      refine ⟨_, rfl, rfl, _, rfl, ?_⟩
      cases o with
      | some y =>
        obtain ⟨vy, an, rfl, dy, dn⟩ := (show DtAll K H ar [vlD y] from ao).cons_inv
        cases dn.nil_inv
        by_cases cs : nm = "setdefault"
        · rw [if_pos cs] at k
          refine iteTb (by rw [cs]; rfl) ?_
          refine ⟨_, rfl, .inl ⟨rfl, _, SqL.of ez⟩, _, rfl, al, _, _, _, rfl, rfl, SqL.of (S2 _ _ ea), at1, _, rfl, al, _, _, _, rfl, rfl, SqL.of (S2 _ _ ea), at2, sz_2, fun u hu => ⟨el, _, _, rfl, rfl, (Same.new hu) _ _ ez, js_lt (by omega), ?_⟩⟩
          have S9 := Same.new (o := .tup [vx, vy]) hu
          have L3 : ListAt K (upd (upd H2 u (.tup [vx, vy])) el (.lst (zs ++ [V.ref u]))) el ((es ++ [(x, y)]).map entD) := by
            rw [List.map_append]
            exact listAt_app (listAt_mono L (S2.trans S9)) (S9 _ _ ez) (Dt.made hu (.cons (dx.mono S2) (.cons (dy.mono S2) .nil)))
          have k3 : Keep el H (upd (upd H2 u (.tup [vx, vy])) el (.lst (zs ++ [V.ref u]))) := fun b o eb ne => by rw [upd_ne ne]; exact (S2.trans S9) b o eb
          have ea3 := k3 _ _ ea (Ne.symm hne)
          have dy := dy.keepT (k3.keepT (let ⟨ys, ey, _⟩ := L; ⟨ys, ey⟩))
          generalize upd (upd H2 u (.tup [vx, vy])) el (.lst (zs ++ [V.ref u])) = H3 at L3 k3 ea3 dy
          refine ⟨_, rfl, _, _, rfl, .inl ⟨_, SqL.of ea3, rfl⟩, rfl, _, rfl, iteTb rfl ?_⟩
          refine ⟨_, rfl, al, _, _, _, rfl, rfl, SqL.of ea3, at2, sz_2, fun u2 hu2 => ?_⟩
          exact k _ _ (k3.trans (Same.keep (Same.new hu2))) (Dt.made hu2 (.cons (.str _) (.cons dy .nil))) (listAt_mono L3 (Same.new hu2))
        · rw [if_neg cs] at k
          refine iteFb (dec_str cs) ?_
          refine ⟨_, rfl, _, _, rfl, .inl ⟨_, SqL.of (S2 _ _ ea), rfl⟩, rfl, _, rfl, iteTb rfl ?_⟩
          refine ⟨_, rfl, al, _, _, _, rfl, rfl, SqL.of (S2 _ _ ea), at2, sz_2, fun u2 hu2 => ?_⟩
          exact k _ _ (Same.keep (S2.trans (Same.new hu2))) (Dt.made hu2 (.cons (.str _) (.cons (dy.mono S2) .nil))) (listAt_mono L (S2.trans (Same.new hu2)))
      | none =>
        cases (show DtAll K H ar [] from ao).nil_inv
        have cs : nm ≠ "setdefault" := fun e => hsd e rfl
        rw [if_neg cs] at k
        refine iteFb (dec_str cs) ?_
        refine ⟨_, rfl, _, _, rfl, .inl ⟨_, SqL.of (S2 _ _ ea), rfl⟩, rfl, _, rfl, iteFb rfl ?_⟩
        refine ⟨_, rfl, rfl, _, rfl, ?_⟩
        by_cases cg : nm = "get"
        · refine iteTb (by rw [cg]; rfl) ⟨sz_1, fun u1 hu1 => ⟨sz_2, fun u2 hu2 => ?_⟩⟩
          have S3 := (S2.trans (Same.new (o := .tup [V.str "none"]) hu1)).trans (Same.new (o := .tup [V.str "ok", V.ref u1]) hu2)
          rw [show noD nm x none = doneD from if_pos cg] at k
          exact k _ _ (Same.keep S3) (Dt.made hu2 (.cons (.str _) (.cons (Dt.made hu1 (.cons (.str _) .nil)) .nil))) (listAt_mono L S3)
        · refine iteFb (dec_str cg) ?_
          refine ⟨_, rfl, al, _, _, _, rfl, rfl, SqL.of (S2 _ _ ea), at1, vx, x, rfl, dx.mono S2, hx47, fun H3 S3 => ⟨sz_3, fun u2 hu2 => ?_⟩⟩
          have S4 := (S2.trans S3).trans (Same.new (o := .tup [V.str "raise", V.int 7, V.str (shownV x)]) hu2)
          rw [show noD nm x none = missD (shownV x) from if_neg cg] at k
          exact k _ _ (Same.keep S4) (Dt.made hu2 (.cons (.str _) (.cons (.int _) (.cons (.str _) .nil)))) (listAt_mono L S4)
end

section
--SPLIT
end
abbrev s_law_lists : Stmt := top 140
abbrev N_law_lists : List Str := ["heap", "rows", "name", "before", "told", "new", "k", "due", "pair", "which"]
abbrev P_law_lists : List Str := ["heap", "rows", "name"]
theorem sc_law_lists : FnScope N_law_lists P_law_lists (defScope s_law_lists) := ⟨rfl, rfl, rfl, by decide +kernel, rfl, by decide +kernel, by decide +kernel⟩
section
variable {P : Program} {w : World} {K : PySem.W.Frag} {mg : Str → Option Value} {base : Heap}
structure Ok47 (es : List (Vl × Vl)) : Prop where
  all : ∀ e ∈ es, e.1 ∈ dom47 ∧ LV e.2
  nd : (es.map fun e => kt47 e.1).Nodup
theorem nodup_le {α : Type} [DecidableEq α] : ∀ {l m : List α}, l.Nodup → (∀ x ∈ l, x ∈ m) → l.length ≤ m.length
  | [], _, _, _ => Nat.zero_le _
  | a :: l, m, hn, hs => by
    obtain ⟨h1, h2⟩ := List.nodup_cons.mp hn
    have ha := hs a (by simp)
    have := nodup_le (l := l) (m := m.erase a) h2 fun x hx => (List.mem_erase_of_ne (fun e => by subst e; exact h1 hx)).mpr (hs x (List.mem_cons_of_mem _ hx))
    rw [List.length_erase_of_mem ha] at this
    have := List.length_pos_of_mem ha
    rw [List.length_cons]
    omega
theorem Ok47.len {es : List (Vl × Vl)} (h : Ok47 es) : es.length ≤ 11 := by
  have := nodup_le (m := dom47.map kt47) h.nd fun x hx => by
    obtain ⟨e, he, rfl⟩ := List.mem_map.mp hx
    exact List.mem_map.mpr ⟨_, (h.all e he).1, rfl⟩
  rw [List.length_map, List.length_map] at this
  exact this
theorem smK {x : Vl} (h : x ∈ dom47) : Sm (vlD x) 1 3000 := by
  have si : ∀ i : Int, 0 ≤ i → i < 2000 → Sm (.int i) 0 2000 := fun i h1 h2 => Sm.int (Nat.lt_of_lt_of_le (show i.natAbs < 2 ^ 20 by omega) (Nat.pow_le_pow_right (by decide) (by decide)))
  rcases dom_cases h with ⟨b, rfl⟩ | ⟨i, rfl, h1, h2⟩ | rfl | rfl | ⟨z, rfl, hz⟩
  · exact (Sm.tup (.cons (Sm.short (n := "bool") (by decide +kernel)) (.cons (Sm.bool b) .nil))).mono (by decide) (by decide)
  · exact (Sm.tup (.cons (Sm.short (n := "int") (by decide +kernel)) (.cons (si i h1 (by omega)) .nil))).mono (by decide) (by decide)
  · exact (Sm.tup (.cons (Sm.short (n := "ref") (by decide +kernel)) (.cons (si 2 (by decide) (by decide)) .nil))).mono (by decide) (by decide)
  · exact (Sm.tup (.cons (Sm.short (n := "none") (by decide +kernel)) .nil)).mono (by decide) (by decide)
  · exact (LV.text hz).sm
theorem smE {e : Vl × Vl} (h1 : e.1 ∈ dom47) (h2 : LV e.2) : Sm (entD e) 2 6100 := (Sm.tup (.cons (smK h1) (.cons h2.sm .nil))).mono (by decide) (by decide)
theorem smL {vs : List PyData} {dp N : Nat} (h : ∀ d ∈ vs, Sm d dp N) (hl : vs.length ≤ 20) : Sm (.tuple vs) (dp + 1) (N * 20 + 43) := by
  have h2 := (SmAll.many h).mem (m := 20) (M := N * 20) hl (Nat.mul_le_mul_left _ hl)
  exact (Sm.tup h2).mono (Nat.le_refl _) (by omega)
theorem smR2 {kd : Str} {d : PyData} {dp N : Nat} (hk : shortS kd = true) (h : Sm d dp N) : Sm (.tuple [.str kd, d]) (dp + 1) (N + 600) := (Sm.tup (.cons (Sm.short hk) (.cons h .nil))).mono (by omega) (by omega)
theorem smDct {es : List (Vl × Vl)} (h : Ok47 es) : Sm (rowD (.dct es)) 4 123000 := by
  have h1 := smL (vs := es.map entD) (dp := 2) (N := 6100) (fun d hd => by obtain ⟨e, he, rfl⟩ := List.mem_map.mp hd; exact smE (h.all e he).1 (h.all e he).2) (by rw [List.length_map]; have := h.len; omega)
  exact (smR2 (kd := "dict") (by decide +kernel) h1).mono (by decide) (by decide)
theorem smLst {vs : List Vl} (h : ∀ v ∈ vs, Sm (vlD v) 1 3000) (hl : vs.length ≤ 20) : Sm (rowD (.lst vs)) 3 61000 := by
  have h1 := smL (vs := vs.map vlD) (dp := 1) (N := 3000) (fun d hd => by obtain ⟨e, he, rfl⟩ := List.mem_map.mp hd; exact h e he) (by rw [List.length_map]; exact hl)
  exact (smR2 (kd := "list") (by decide +kernel) h1).mono (by decide) (by decide)
theorem smEnt {e : Vl × Vl} (h1 : e.1 ∈ dom47) (h2 : LV e.2) : Sm (rowD (entR e)) 3 7000 := (smR2 (kd := "tuple") (by decide +kernel) (smE h1 h2)).mono (by decide) (by decide)
theorem show_lst {ds : List PyData} (h : ∀ d ∈ ds, Sm d 5 130000) (hl : ds.length ≤ 20) : ShowOk (.list ds) := by
  have h2 := (SmAll.many h).mem (m := 20) (M := 130000 * 20) hl (Nat.mul_le_mul_left _ hl)
  exact (Sm.lst h2).show (by decide) (by decide)
def newR (nm : Str) (es : List (Vl × Vl)) : List Row := if nm = "copy" then [.dct es] else if nm = "items" then es.map entR ++ [.lst (refsD 4 es.length)] else if nm = "values" then [.lst (es.map (·.2))] else [.lst (es.map (·.1))]
def retK (nm : Str) (es : List (Vl × Vl)) : Nat := if nm = "items" then 4 + es.length else 4
theorem show_new {nm : Str} {es : List (Vl × Vl)} (h : Ok47 es) : ShowOk (.list ((newR nm es).map rowD)) := by
  have hl := h.len
  refine show_lst (fun d hd => ?_) ?_
  · obtain ⟨r, hr, rfl⟩ := List.mem_map.mp hd
    unfold newR at hr
    split at hr
    · cases List.mem_singleton.mp hr; exact (smDct h).mono (by decide) (by decide)
    split at hr
    · rcases List.mem_append.mp hr with hr | hr
      · obtain ⟨e, he, rfl⟩ := List.mem_map.mp hr
        exact (smEnt (h.all e he).1 (h.all e he).2).mono (by decide) (by decide)
      · cases List.mem_singleton.mp hr
        refine (smLst (fun v hv => ?_) (by unfold refsD; rw [List.length_map, List.length_range]; omega)).mono (by decide) (by decide)
        unfold refsD at hv
        obtain ⟨t, ht, rfl⟩ := List.mem_map.mp hv
        have ht := List.mem_range.mp ht
        exact (Sm.tup (.cons (Sm.short (n := "ref") (by decide +kernel)) (.cons (Sm.int (i := ((4 + t : Nat) : Int)) (Nat.lt_of_lt_of_le (show _ < 2 ^ 20 by omega) (Nat.pow_le_pow_right (by decide) (by decide)))) .nil))).mono (by decide) (by decide)
    split at hr
    · cases List.mem_singleton.mp hr
      exact (smLst (fun v hv => by obtain ⟨e, he, rfl⟩ := List.mem_map.mp hv; exact (h.all e he).2.sm) (by rw [List.length_map]; omega)).mono (by decide) (by decide)
    · cases List.mem_singleton.mp hr
      exact (smLst (fun v hv => by obtain ⟨e, he, rfl⟩ := List.mem_map.mp hv; exact smK (h.all e he).1) (by rw [List.length_map]; omega)).mono (by decide) (by decide)
  · rw [List.length_map]
    unfold newR
    split
    · show 1 ≤ 20; decide
    split
    · rw [List.length_append, List.length_map]; show es.length + 1 ≤ 20; omega
    split
    · show 1 ≤ 20; decide
    · show 1 ≤ 20; decide
theorem show_ref {n : Nat} (h : n ≤ 100) : ShowOk (okRefD n) :=
  (Sm.tup (.cons (Sm.short (n := "ok") (by decide +kernel)) (.cons (Sm.tup (.cons (Sm.short (n := "ref") (by decide +kernel)) (.cons (Sm.int (i := ((n : Nat) : Int)) (Nat.lt_of_lt_of_le (show _ < 2 ^ 20 by omega) (Nat.pow_le_pow_right (by decide) (by decide)))) .nil))) .nil))).show (by decide) (by decide)
theorem dtAll_take {H : Hp} : ∀ {vs : List V} {ds : List PyData} (m : Nat), DtAll K H vs ds → DtAll K H (vs.take m) (ds.take m)
  | _, _, 0, _ => .nil
  | _, _, _ + 1, .nil => .nil
  | _, _, m + 1, .cons h t => .cons h (dtAll_take m t)
theorem cutV_dropA {H : Hp} {vs : List V} {ds : List PyData} (m : Nat) (h : DtAll K H vs ds) (hm : m ≤ ds.length) : DtAll K H (cutV vs (some ((m : Nat) : Int)) none) (ds.drop m) := by
  have := h.cutG (some ((m : Nat) : Int)) none
  rw [cutG_from _ hm] at this
  exact this
def lnames : List Str := ["keys", "values", "items", "copy"]
def spLLists (K : PySem.W.Frag) : Sp := fun vs H Q _ => ∃ (nm : Str) (hp el : Addr) (es fs : List (Vl × Vl)), vs = [.ref hp, .ref el, .str nm] ∧ nm ∈ lnames ∧ ListAt K H hp ((rowsE es fs).map rowD) ∧ ListAt K H el (es.map entD) ∧ el ≠ hp ∧ Ok47 es ∧
  ∀ H', Keep hp H H' → ListAt K H' hp ((rowsE es fs).map rowD) → Q (.bl true) H'
theorem lacts {hp : Addr} {es fs : List (Vl × Vl)} (h : Ok47 es) {nm : Str} (hn : nm ∈ lnames) : ∃ sp, Act K ("dict." ++ nm) sp ∧ DName ("dict." ++ nm) [] ∧ ∀ (v0 vt : V) (H : Hp) (Q : VK), ListAt K H hp ((rowsE es fs).map rowD) → Dt K H v0 (vlD (.ref 0)) →
    (∀ u H', Keep hp H H' → ListAt K H' hp ((rowsE es fs ++ newR nm es).map rowD) → Dt K H' u (okRefD (retK nm es)) → Q u H') → sp [.ref hp, v0, vt] H Q E0 := by
  have hl := h.len
  have D : ∀ {v0 : V} {H : Hp}, ListAt K H hp ((rowsE es fs).map rowD) → Dt K H v0 (vlD (.ref 0)) → DAt K H hp (rowsE es fs) 0 es v0 := fun L d => ⟨L, rfl, d, by omega⟩
  simp only [lnames, List.mem_cons, List.not_mem_nil, or_false] at hn
  obtain ⟨_, _, _, _, d5, d6, d7, d8, _⟩ := dnames
  rcases hn with rfl | rfl | rfl | rfl
  · rw [show ("dict." ++ "keys" : Str) = "dict.keys" by decide +kernel]
    exact ⟨_, .inr (.inr (.inr (.inr (.inl ⟨rfl, rfl⟩)))), d5, fun v0 vt H Q L d k => ⟨hp, _, 0, v0, vt, es, rfl, D L d, (by show 4 ≤ 5000; decide), k⟩⟩
  · rw [show ("dict." ++ "values" : Str) = "dict.values" by decide +kernel]
    exact ⟨_, .inr (.inr (.inr (.inr (.inr (.inl ⟨rfl, rfl⟩))))), d6, fun v0 vt H Q L d k => ⟨hp, _, 0, v0, vt, es, rfl, D L d, (by show 4 ≤ 5000; decide), k⟩⟩
  · rw [show ("dict." ++ "items" : Str) = "dict.items" by decide +kernel]
    exact ⟨_, .inr (.inr (.inr (.inr (.inr (.inr (.inl ⟨rfl, rfl⟩)))))), d7, fun v0 vt H Q L d k => ⟨hp, _, 0, v0, vt, es, rfl, D L d, (by show 4 ≤ 3000; decide), fun u H' k1 L1 d1 => k u H' k1 (by rw [List.append_assoc] at L1; exact L1) d1⟩⟩
  · rw [show ("dict." ++ "copy" : Str) = "dict.copy" by decide +kernel]
    exact ⟨_, .inr (.inr (.inr (.inr (.inr (.inr (.inr (.inl ⟨rfl, rfl⟩))))))), d8, fun v0 vt H Q L d k => ⟨hp, _, 0, v0, vt, es, rfl, D L d, (by show 4 ≤ 5000; decide), k⟩⟩
theorem ok_llists {f : Addr} {fd : FuncData} (F : Fun K "_law_lists" "_law_lists" s_law_lists f fd) (T : Txt K mg) (U_plain_built : Use P w K mg base CX0 "plain_built" 11 P_plain_built (spPlainD K)) (U_law_same : Use P w K mg base CX0 "_law_same" 1 P_law_same (spSame K)) : FnG P w K mg base CX0 12 f fd P_law_lists (spLLists K) := by
  refine okG0 F sc_law_lists (fun vs H Q E h => ?_) fun cdv A outer s H vs Q E hr hg h => ?_
  · obtain ⟨nm, hp, el, es, fs, rfl, _⟩ := h
    rfl
  · obtain ⟨nm, hp, el, es, fs, rfl, hn, L, Le, hne, ok, k⟩ := h
    refine ⟨_, (pss_cons (ps_set (i := 3) sc_law_lists.nd rfl (Or.inr rfl) (pe_callB call_len (by rfl) T.b_len PySem.boot_len (pa_cons (pv 0) pa_nil)))
  (pss_cons (ps_set (i := 4) sc_law_lists.nd rfl (Or.inl rfl) (pe_use U_plain_built (hr.mono (by decide)) hg rfl (pa_cons (pv 0) (pa_cons (pe_op op_add_str pe_str (pv 2)) (pa_cons (pe_tup (pa_cons (pe_tup (pa_cons pe_str (pa_cons pe_int pa_nil))) pa_nil)) pa_nil)))))
  (pss_cons (ps_set (i := 5) sc_law_lists.nd rfl (Or.inl rfl) (pe_slice sl_list (pv 0) (po_some (pv 3)) po_none))
  (pss_cons (ps_for PassesOwn.never rfl (pi_range1 (by rfl) T.b_range (pa_cons (pe_callB call_len (by rfl) T.b_len PySem.boot_len (pa_cons (pv 5) pa_nil)) pa_nil)) (pg_name (i := 6) sc_law_lists.nd rfl (Or.inl rfl))
   (pss_one (ps_expr (pe_bm0 PySem.F.plainAttrs_list PySem.F.slot_list_pop PySem.F.type_list_pop mt_pop (pv 0)))))
  (pss_cons (ps_if (pt_cmpR op_eq (pv 2) pe_str (nomark _))
   (pss_one (ps_ret (pe_and (pe_use U_law_same (hr.mono (by decide)) hg rfl (pa_cons (pv 4) (pa_cons (pe_tup (pa_cons pe_str (pa_cons (pe_tup (pa_cons pe_str (pa_cons (pv 3) pa_nil))) pa_nil))) pa_nil))) (pe_one (pe_use U_law_same (hr.mono (by decide)) hg rfl (pa_cons (pv 5) (pa_cons (pe_lst (pa_cons (pe_tup (pa_cons pe_str (pa_cons (pe_callTy call_tuple_of (by rfl) T.b_tuple (by decide +kernel) (pa_cons (pv 1) pa_nil)) pa_nil))) pa_nil)) pa_nil)))))))
   pss_nil)
  (pss_cons (ps_if (pt_cmpR op_eq (pv 2) pe_str (nomark _))
   (pss_cons (ps_set (i := 7) sc_law_lists.nd rfl (Or.inl rfl) (pe_op op_cat (pe_lc (own := [("pair", 8)]) (g := (gName 8)) rfl sc_law_lists.nd (pi_list (pv 1)) (blkOk_by (N := N_law_lists) (sc := defScope s_law_lists) (by decide +kernel)) (fun _ _ _ _ _ => (pg_name (i := 8) sc_law_lists.nd rfl (Or.inl rfl))) (fun _ _ _ _ _ => pts_nil) (fun _ _ _ _ _ => (pe_tup (pa_cons pe_str (pa_cons (pv 8) pa_nil))))) (pe_lst (pa_cons (pe_tup (pa_cons pe_str (pa_cons (pe_callTy call_tuple_of (by rfl) T.b_tuple (by decide +kernel) (pa_cons (pe_lc (own := [("k", 6)]) (g := (gName 6)) rfl sc_law_lists.nd (pi_range1 (by rfl) T.b_range (pa_cons (pe_callB call_len (by rfl) T.b_len PySem.boot_len (pa_cons (pv 1) pa_nil)) pa_nil)) (blkOk_by (N := N_law_lists) (sc := defScope s_law_lists) (by decide +kernel)) (fun _ _ _ _ _ => (pg_name (i := 6) sc_law_lists.nd rfl (Or.inl rfl))) (fun _ _ _ _ _ => pts_nil) (fun _ _ _ _ _ => (pe_tup (pa_cons pe_str (pa_cons (pe_op op_add (pv 3) (pv 6)) pa_nil))))) pa_nil)) pa_nil))) pa_nil))))
  (pss_one (ps_ret (pe_and (pe_use U_law_same (hr.mono (by decide)) hg rfl (pa_cons (pv 4) (pa_cons (pe_tup (pa_cons pe_str (pa_cons (pe_tup (pa_cons pe_str (pa_cons (pe_op op_add (pv 3) (pe_callB call_len (by rfl) T.b_len PySem.boot_len (pa_cons (pv 1) pa_nil))) pa_nil))) pa_nil))) pa_nil))) (pe_one (pe_use U_law_same (hr.mono (by decide)) hg rfl (pa_cons (pv 5) (pa_cons (pv 7) pa_nil))))))))
   pss_nil)
  (pss_cons (ps_set (i := 9) sc_law_lists.nd rfl (Or.inr rfl) (pe_callTy call_int1 (by rfl) T.b_int (by decide +kernel) (pa_cons (pe_cmpR op_eq (pv 2) pe_str (nomark _)) pa_nil)))
  (pss_one (ps_ret (pe_and (pe_use U_law_same (hr.mono (by decide)) hg rfl (pa_cons (pv 4) (pa_cons (pe_tup (pa_cons pe_str (pa_cons (pe_tup (pa_cons pe_str (pa_cons (pv 3) pa_nil))) pa_nil))) pa_nil))) (pe_one (pe_use U_law_same (hr.mono (by decide)) hg rfl (pa_cons (pv 5) (pa_cons (pe_lst (pa_cons (pe_tup (pa_cons pe_str (pa_cons (pe_callTy call_tuple_of (by rfl) T.b_tuple (by decide +kernel) (pa_cons (pe_lc (own := [("pair", 8)]) (g := (gName 8)) rfl sc_law_lists.nd (pi_list (pv 1)) (blkOk_by (N := N_law_lists) (sc := defScope s_law_lists) (by decide +kernel)) (fun _ _ _ _ _ => (pg_name (i := 8) sc_law_lists.nd rfl (Or.inl rfl))) (fun _ _ _ _ _ => pts_nil) (fun _ _ _ _ _ => (pe_ix (ix_tup : IxR _ (rIxT K)) (pv 8) (pv 9) (fun _ _ => rfl)))) pa_nil)) pa_nil))) pa_nil)) pa_nil)))))))))))))), ?_⟩
    have hes := ok.len
    obtain ⟨zs, ez, az⟩ := id L
    have lz : zs.length = 4 := az.length
    obtain ⟨sp, act, dn, run⟩ := lacts (K := K) (hp := hp) (fs := fs) ok hn
    have nl : nm.length ≤ 10 := by
      have : ∀ z ∈ lnames, z.length ≤ 10 := by decide +kernel
      exact this nm hn
    have dl : ("dict." : Str).length = 5 := rfl
    refine ⟨_, rfl, _, _, rfl, .inl ⟨_, SqL.of ez, rfl⟩, ?_⟩
    rw [lz]
    refine ⟨_, rfl, _, rfl, _, _, rfl, rfl, ss_le (by rw [dl]; omega), sz_2, fun u1 hu1 => ⟨sz_1, fun u2 hu2 => ?_⟩⟩
    have S1 := (Same.new (o := .tup [V.str "ref", V.int 0]) hu1).trans (Same.new (o := .tup [V.ref u1]) hu2)
    have da : Dt K _ (.ref u2) (.tuple ([Vl.ref 0].map vlD)) := Dt.made hu2 (.cons (Dt.made hu1 (.cons (.str _) (.cons (.int _) .nil))) .nil)
    generalize upd (upd H u1 _) u2 _ = H1 at S1 da
    refine ⟨hp, rowsE es fs, _, [], _, .ref 0, [], sp, rfl, dn, act, listAt_mono L S1, da, by decide, (fun x hx => nomatch hx), rfl, fun v0 vt H2 S2 d0 dt => ?_⟩
    refine run v0 vt H2 _ (listAt_mono L (S1.trans S2)) d0 fun u H3 k3 L3 du => ?_
    have k03 := (Same.keep (S1.trans S2)).trans k3
    clear k3 d0 dt da S2 S1 hu1 hu2
    obtain ⟨ys, ey, ay⟩ := id L3
    have ly := ay.length
    rw [List.length_map, List.length_append] at ly
    have hr4 : (rowsE es fs).length = 4 := rfl
    rw [hr4] at ly
    have Le3 := listAt_keep Le k03 hne ⟨_, ez⟩
    refine ⟨_, rfl, _, rfl, _, rfl, hp, _, rfl, SqL.of ey, fun nl1 hnl => ?_⟩
    have S4 := Same.new (o := .lst (cutV ys (some (4 : Int)) none)) hnl
    have aN : DtAll K H3 (cutV ys (some ((4 : Nat) : Int)) none) ((newR nm es).map rowD) := by
      have := cutV_dropA 4 ay (by rw [List.length_map, List.length_append, hr4]; omega)
      rw [← List.map_drop] at this
      exact this
    have LN : ListAt K (upd H3 nl1 (.lst (cutV ys (some ((4 : Nat) : Int)) none))) nl1 ((newR nm es).map rowD) := listAt_made hnl aN
    have hnp : nl1 ≠ hp := fun e => by rw [e, ey] at hnl; cases hnl
    have hnel : nl1 ≠ el := fun e => by obtain ⟨q, eq, _⟩ := Le3; rw [e, eq] at hnl; cases hnl
    have ey4 := S4 _ _ ey
    have du := du.mono S4
    have Le4 := listAt_mono Le3 S4
    have k04 := k03.trans (Same.keep S4)
    have ay4 := ay.mono S4
    generalize upd H3 nl1 (.lst (cutV ys (some (4 : Int)) none)) = H4 at LN ey4 du Le4 k04 ay4
    clear S4 hnl ay ey Le3 k03 L3
    obtain ⟨ns, en, an⟩ := id LN
    have ln := an.length
    rw [List.length_map] at ln
    have hnew : (newR nm es).length ≤ 20 := by
      unfold newR
      split
      · show 1 ≤ 20; decide
      split
      · rw [List.length_append, List.length_map]; show es.length + 1 ≤ 20; omega
      split
      · show 1 ≤ 20; decide
      · show 1 ≤ 20; decide
    refine ⟨_, rfl, _, _, rfl, .inl ⟨_, SqL.of en, rfl⟩, _, rfl, by omega, by omega, ?_⟩
    rw [Int.toNat_natCast, ln]
    refine for_range (lo := 0) (n := (newR nm es).length) (fun i σ H' => ∃ (x6 : Option V), σ = [some (.ref hp), some (.ref el), some (.str nm), some (.int 4), some u, some (.ref nl1), x6, none, none, none] ∧ Keep hp H4 H' ∧ H' hp = some (.lst (ys.take (ys.length - i)))) ⟨none, rfl, Keep.refl _ _, by rw [Nat.sub_zero, List.take_length]; exact ey4⟩ ?_ ?_
    · rintro i σ H5 hi ⟨x6, rfl, k5, e5⟩
      have hz : (ys.take (ys.length - i))[(ys.take (ys.length - i)).length - 1]? = some (ys[ys.length - i - 1]'(by omega)) := by
        rw [List.length_take, Nat.min_eq_left (by omega), List.getElem?_take_of_lt (by omega)]
        exact List.getElem?_eq_getElem _
      refine ⟨_, rfl, .inl ⟨rfl, _, SqL.of e5⟩, hp, _, _, rfl, rfl, e5, hz, ?_⟩
      refine ⟨_, rfl, fun b o eb ne => by rw [upd_ne ne]; exact k5 b o eb ne, ?_⟩
      rw [upd_same, List.dropLast_eq_take, List.take_take, List.length_take]
      congr 3
      omega
    · rintro σ H5 ⟨x6, rfl, k5, e5⟩
      have hat : ∃ xs, H4 hp = some (.lst xs) := ⟨_, ey4⟩
      have L5 : ListAt K H5 hp ((rowsE es fs).map rowD) := by
        rw [show ys.length - (newR nm es).length = 4 by omega] at e5
        refine ⟨_, e5, ?_⟩
        have := dtAll_take 4 (ay4.keepT (k5.keepT hat))
        rw [← List.map_take, show (rowsE es fs ++ newR nm es).take 4 = rowsE es fs from rfl] at this
        exact this
      have LN5 := listAt_keep LN k5 hnp hat
      have Le5 := listAt_keep Le4 k5 hne hat
      have du5 := du.keepT (k5.keepT hat)
      have k05 := k04.trans k5
      clear LN du Le4 k04 ay4 ey4 k5 en an e5
      have hret : retK nm es ≤ 100 := by unfold retK; split <;> omega
      have fin : ∀ {H6 : Hp}, Same H5 H6 → Q (.bl true) H6 := fun S => k _ (k05.trans (Same.keep S)) (listAt_mono L5 S)
      -- the pair of the answer
      have told : ∀ {H6 : Hp} {n : Nat}, n = retK nm es → ∀ {ub ua : Addr}, H6 ua = none → upd H6 ua (.tup [V.str "ref", V.int ((n : Nat) : Int)]) ub = none → Same H6 (upd (upd H6 ua (.tup [V.str "ref", V.int ((n : Nat) : Int)])) ub (.tup [V.str "ok", V.ref ua])) ∧ Dt K (upd (upd H6 ua (.tup [V.str "ref", V.int ((n : Nat) : Int)])) ub (.tup [V.str "ok", V.ref ua])) (.ref ub) (okRefD (retK nm es)) := fun {H6 n} hn {ub ua} hua hub => by
        refine ⟨(Same.new (o := .tup [V.str "ref", V.int ((n : Nat) : Int)]) hua).trans (Same.new (o := .tup [V.str "ok", V.ref ua]) hub), ?_⟩
        rw [← hn]
        exact Dt.made hub (.cons (.str _) (.cons (Dt.made hua (.cons (.str _) (.cons (.int _) .nil))) .nil))
      obtain ⟨ws, ew, aw⟩ := id Le5
      have lw := aw.length
      rw [List.length_map] at lw
      refine ⟨_, rfl, rfl, _, rfl, ?_⟩
      by_cases c1 : nm = "copy"
      · refine iteTb (by rw [c1]; rfl) ?_
        have eN : newR nm es = [.dct es] := if_pos c1
        have eR : 4 = retK nm es := by unfold retK; rw [if_neg (by rw [c1]; decide)]
        rw [eN] at LN5
        refine ⟨_, rfl, _, rfl, sz_2, fun ua hua => ⟨sz_2, fun ub hub => ?_⟩⟩
        obtain ⟨S6, d6⟩ := told eR hua hub
        refine ⟨_, _, _, rfl, (du5.mono S6).dp, d6.dp, show_ref hret, true, rfl, iteTb rfl ?_⟩
        clear d6
        generalize upd (upd H5 ua _) ub _ = H6 at S6
        refine ⟨_, rfl, _, rfl, el, _, rfl, .inl ⟨SqL.of (S6 _ _ ew), fun t ht => ⟨sz_2, fun u1 hu1 => ⟨sz_1, fun l hl => ?_⟩⟩⟩⟩
        have S7 := (Same.new (o := .tup ws) ht).trans (Same.new (o := .tup [V.str "dict", V.ref t]) hu1)
        have S8 := S7.trans (Same.new (o := .lst [V.ref u1]) hl)
        have dd : Dt K _ (.ref u1) (rowD (.dct es)) := Dt.made hu1 (.cons (.str _) (.cons (Dt.made ht (aw.mono S6)) .nil))
        have Ld : ListAt K _ l [rowD (.dct es)] := listAt_made hl (.cons dd .nil)
        have sh := show_new (nm := nm) ok
        rw [eN] at sh
        exact ⟨_, _, _, rfl, (listAt_mono LN5 (S6.trans S8)).dp, Ld.dp, sh, fin (S6.trans S8)⟩
      refine iteFb (dec_str c1) ?_
      refine ⟨_, rfl, rfl, _, rfl, ?_⟩
      by_cases c2 : nm = "items"
      · refine iteTb (by rw [c2]; rfl) ?_
        have eN : newR nm es = es.map entR ++ [.lst (refsD 4 es.length)] := by unfold newR; rw [if_neg c1, if_pos c2]
        have eR : 4 + es.length = retK nm es := by unfold retK; rw [if_pos c2]
        have sh := show_new (nm := nm) ok
        rw [eN] at LN5 sh
        refine ⟨_, rfl, el, rfl, ⟨_, SqL.of ew⟩, fun Dl hD => ?_⟩
        refine lc_dt (K := K) (walk_list (xs := ws)) hD ((es.map entR).map rowD) (by rw [List.length_map, List.length_map]; omega) (js_lt (by omega)) (fun H' S => SqL.of (S _ _ ew)) ?_ ?_ mono_name
        · rintro i x H6 H7 d Nx hi hd S6 ⟨acc, eacc⟩ ⟨rfl, hx⟩ nx
          rw [List.getElem?_map, List.getElem?_map] at hd
          obtain ⟨d', hd', dx⟩ := aw.getV hx
          rw [List.getElem?_map] at hd'
          obtain ⟨e, he, rfl⟩ := Option.map_eq_some_iff.mp hd'
          rw [he] at hd
          cases hd
          exact ⟨rfl, _, rfl, sz_2, fun u hu => nx _ _ (Same.new hu) (Dt.made hu (.cons (.str _) (.cons (dx.mono S6) .nil)))⟩
        rintro H6 acc S6 eacc aacc
        refine ⟨_, rfl, _, _, rfl, .inl ⟨_, SqL.of (S6 _ _ ew), rfl⟩, _, rfl, by omega, by omega, fun D2 hD2 => ?_⟩
        rw [Int.toNat_natCast]
        refine lc_dt (K := K) (walk_range (lo := 0) (n := ws.length)) hD2 ((refsD 4 es.length).map vlD) (by unfold refsD; simp; omega) (js_lt (by omega)) (fun _ _ => trivial) ?_ ?_ mono_name
        · rintro i x H7 H8 d Nx hi hd S7 ⟨acc2, eacc2⟩ ⟨rfl, rfl⟩ nx
          have hd : (refsD 4 es.length)[i]?.map vlD = some d := by rw [← List.getElem?_map]; exact hd
          have : (refsD 4 es.length)[i]? = some (.ref (4 + i)) := by unfold refsD; rw [List.getElem?_map, List.getElem?_range (by omega)]; rfl
          rw [this] at hd
          cases hd
          refine ⟨rfl, _, rfl, _, rfl, _, _, rfl, rfl, sz_2, fun u hu => nx _ _ (Same.new hu) ?_⟩
          dsimp only
          rw [show (4 : Int) + (0 + ((i : Nat) : Int)) = ((4 + i : Nat) : Int) by omega]
          exact Dt.made hu (.cons (.str _) (.cons (.int _) .nil))
        rintro H7 acc2 S7 eacc2 aacc2
        have S57 := S6.trans S7
        have eD7 := S7 _ _ eacc
        have aacc7 := aacc.mono S7
        refine ⟨D2, _, rfl, .inl ⟨SqL.of eacc2, fun t ht => ⟨sz_2, fun u1 hu1 => ⟨sz_1, fun l2 hl2 => ?_⟩⟩⟩⟩
        have S8 := ((Same.new (o := .tup acc2) ht).trans (Same.new (o := .tup [V.str "list", V.ref t]) hu1)).trans (Same.new (o := .lst [V.ref u1]) hl2)
        have d8 : Dt K (upd (upd (upd H7 t (.tup acc2)) u1 (.tup [V.str "list", V.ref t])) l2 (.lst [V.ref u1])) (.ref u1) (rowD (.lst (refsD 4 es.length))) := (Dt.made hu1 (.cons (.str _) (.cons (Dt.made ht aacc2) .nil))).mono (Same.new (o := .lst [V.ref u1]) hl2)
        have e8 : upd (upd (upd H7 t (.tup acc2)) u1 (.tup [V.str "list", V.ref t])) l2 (.lst [V.ref u1]) l2 = some (.lst [V.ref u1]) := upd_same
        generalize upd (upd (upd H7 t (.tup acc2)) u1 (.tup [V.str "list", V.ref t])) l2 (.lst [V.ref u1]) = H8 at S8 d8 e8
        have la := aacc.length
        rw [List.length_map, List.length_map] at la
        refine ⟨Dl, l2, _, _, rfl, rfl, S8 _ _ eD7, e8, Nat.le_trans (show acc.length + 1 ≤ 100 by omega) (by decide), fun l3 hl3 => ?_⟩
        have S9 := S8.trans (Same.new (o := .lst (acc ++ [V.ref u1])) hl3)
        have L9 : ListAt K (upd H8 l3 (.lst (acc ++ [V.ref u1]))) l3 ((es.map entR ++ [Row.lst (refsD 4 es.length)]).map rowD) := by
          rw [List.map_append]
          exact listAt_made hl3 ((aacc7.mono S8).app (.cons d8 .nil))
        have S59 := S57.trans S9
        generalize upd H8 l3 (.lst (acc ++ [V.ref u1])) = H9 at S9 L9 S59
        refine ⟨_, rfl, _, rfl, _, rfl, _, _, rfl, .inl ⟨_, SqL.of (S59 _ _ ew), rfl⟩, _, _, rfl, rfl, ?_⟩
        dsimp only
        rw [show (4 : Int) + ((ws.length : Nat) : Int) = ((4 + es.length : Nat) : Int) by omega]
        refine ⟨sz_2, fun ua hua => ⟨sz_2, fun ub hub => ?_⟩⟩
        obtain ⟨S10, d10⟩ := told eR hua hub
        refine ⟨_, _, _, rfl, (du5.mono (S59.trans S10)).dp, d10.dp, show_ref hret, true, rfl, iteTb rfl ?_⟩
        exact ⟨_, rfl, _, rfl, _, _, _, rfl, (listAt_mono LN5 (S59.trans S10)).dp, (listAt_mono L9 S10).dp, sh, fin (S59.trans S10)⟩
      refine iteFb (dec_str c2) ?_
      have eR : 4 = retK nm es := by unfold retK; rw [if_neg c2]
      have sh := show_new (nm := nm) ok
      have wh : ∃ (vsel : Vl × Vl → Vl) (b : Bool), newR nm es = [.lst (es.map vsel)] ∧ decide (V.str nm = V.str "values") = b ∧ ((b = true ∧ vsel = (·.2)) ∨ (b = false ∧ vsel = (·.1))) := by
        unfold newR
        rw [if_neg c1, if_neg c2]
        by_cases c3 : nm = "values"
        · exact ⟨(·.2), true, if_pos c3, by rw [c3]; rfl, .inl ⟨rfl, rfl⟩⟩
        · exact ⟨(·.1), false, if_neg c3, dec_str c3, .inr ⟨rfl, rfl⟩⟩
      obtain ⟨vsel, b, eN, eb, hb⟩ := wh
      rw [eN] at LN5 sh
      refine ⟨_, rfl, rfl, .inr ⟨_, rfl, ?_⟩⟩
      rw [eb]
      refine ⟨_, rfl, _, rfl, sz_2, fun ua hua => ⟨sz_2, fun ub hub => ?_⟩⟩
      obtain ⟨S6, d6⟩ := told eR hua hub
      refine ⟨_, _, _, rfl, (du5.mono S6).dp, d6.dp, show_ref hret, true, rfl, iteTb rfl ?_⟩
      clear d6
      generalize upd (upd H5 ua _) ub _ = H6 at S6
      refine ⟨_, rfl, _, rfl, el, rfl, ⟨_, SqL.of (S6 _ _ ew)⟩, fun Dl hD => ?_⟩
      refine lc_dt (K := K) (walk_list (xs := ws)) hD ((es.map vsel).map vlD) (by rw [List.length_map, List.length_map]; omega) (js_lt (by omega)) (fun H' S => SqL.of (S _ _ (S6 _ _ ew))) ?_ ?_ mono_name
      · rintro i x H7 H8 d Nx hi hd S7 ⟨acc, eacc⟩ ⟨rfl, hx⟩ nx
        rw [List.getElem?_map, List.getElem?_map] at hd
        obtain ⟨d', hd', dx⟩ := aw.getV hx
        rw [List.getElem?_map] at hd'
        obtain ⟨e, he, rfl⟩ := Option.map_eq_some_iff.mp hd'
        rw [he] at hd
        cases hd
        obtain ⟨qe, x1, y1, rfl, hqe, dx1, dy1⟩ := dt_ent (dx.mono (S6.trans S7))
        rcases hb with ⟨rfl, rfl⟩ | ⟨rfl, rfl⟩
        · exact ⟨rfl, _, rfl, _, rfl, qe, _, _, _, rfl, rfl, hqe, at1, nx _ _ (Same.refl _) dy1⟩
        · exact ⟨rfl, _, rfl, _, rfl, qe, _, _, _, rfl, rfl, hqe, at0, nx _ _ (Same.refl _) dx1⟩
      rintro H7 acc S7 eacc aacc
      refine ⟨Dl, _, rfl, .inl ⟨SqL.of eacc, fun t ht => ⟨sz_2, fun u1 hu1 => ⟨sz_1, fun l2 hl2 => ?_⟩⟩⟩⟩
      have S8 := ((Same.new (o := .tup acc) ht).trans (Same.new (o := .tup [V.str "list", V.ref t]) hu1)).trans (Same.new (o := .lst [V.ref u1]) hl2)
      have L8 : ListAt K (upd (upd (upd H7 t (.tup acc)) u1 (.tup [V.str "list", V.ref t])) l2 (.lst [V.ref u1])) l2 [rowD (.lst (es.map vsel))] := listAt_made hl2 (.cons (Dt.made hu1 (.cons (.str _) (.cons (Dt.made ht aacc) .nil))) .nil)
      have S58 := (S6.trans S7).trans S8
      exact ⟨_, _, _, rfl, (listAt_mono LN5 S58).dp, L8.dp, sh, fin S58⟩
end

section
--SPLIT
end
section
/-! what is due is what the program does -/
variable {K : PySem.W.Frag}
theorem bad_ref : bad47 (.ref 3) = some "list" := if_pos rfl
theorem ne_ref {x : Vl} (h : x ∈ dom47) : x ≠ .ref 3 := fun e => by subst e; simp [dom47] at h
theorem dueE_some {nm : Str} {es : List (Vl × Vl)} {x : Vl} {o : Option Vl} {i : Nat} (c : x ≠ .ref 3) (h : fT kt47 es (kt47 x) = some i) : dueE nm es x o = if nm = "pop" then es.take i ++ es.drop (i + 1) else es := by
  unfold dueE
  rw [if_neg c, h]
theorem dueE_none {nm : Str} {es : List (Vl × Vl)} {x : Vl} {o : Option Vl} (c : x ≠ .ref 3) (h : fT kt47 es (kt47 x) = none) : dueE nm es x o = if nm = "setdefault" then es ++ [(x, o.getD x)] else es := by
  unfold dueE
  rw [if_neg c, h]
section
variable {es fs : List (Vl × Vl)} {x : Vl} {o : Option Vl} (he : ∀ e ∈ es, e.1 ∈ dom47) (hx : x ∈ dom48)
include he hx
theorem due_get : gotD kt47 es x o (bad47 x) = dueD "get" es x o ∧ dueE "get" es x o = es := by
  rcases dom48_cases hx with h | rfl
  · rw [bad_dom h]
    unfold gotD dueD dueE
    rw [if_neg (ne_ref h), if_neg (ne_ref h), findK_T he h]
    cases fT kt47 es (kt47 x) with
    | some i => exact ⟨rfl, if_neg (by decide)⟩
    | none => exact ⟨by cases o <;> rfl, if_neg (by decide)⟩
  · rw [bad_ref]
    exact ⟨rfl, rfl⟩
theorem due_pop : popD kt47 es x o (shownV x) (bad47 x) = dueD "pop" es x o ∧ dropRows (rowsE es fs) 0 kt47 es x (bad47 x) = rowsE (dueE "pop" es x o) fs := by
  rcases dom48_cases hx with h | rfl
  · rw [bad_dom h]
    unfold popD dueD dropRows
    rw [if_neg (ne_ref h), findK_T he h]
    cases hf : fT kt47 es (kt47 x) with
    | some i => exact ⟨rfl, by rw [dueE_some (ne_ref h) hf, if_pos rfl]; rfl⟩
    | none => exact ⟨by cases o <;> rfl, by rw [dueE_none (ne_ref h) hf, if_neg (show ¬ (("pop" : Str) = "setdefault") by decide)]⟩
  · rw [bad_ref]
    exact ⟨rfl, rfl⟩
theorem due_setd {y : Vl} (hl : es.length < 1000) : sdD kt47 es x y (bad47 x) = dueD "setdefault" es x (some y) ∧ sdRows (rowsE es fs) 0 kt47 es x y (bad47 x) = rowsE (dueE "setdefault" es x (some y)) fs := by
  rcases dom48_cases hx with h | rfl
  · rw [bad_dom h]
    unfold sdD dueD sdRows
    rw [if_neg (ne_ref h), findK_T he h]
    cases hf : fT kt47 es (kt47 x) with
    | some i => exact ⟨rfl, by rw [dueE_some (ne_ref h) hf, if_neg (show ¬ (("setdefault" : Str) = "pop") by decide)]⟩
    | none =>
      refine ⟨?_, ?_⟩
      · show (if 1000 ≤ es.length then tooD else .tuple [.str "ok", vlD y]) = _
        rw [if_neg (by omega)]
        rfl
      · show (if 1000 ≤ es.length then rowsE es fs else (rowsE es fs).set 0 (.dct (es ++ [(x, y)]))) = _
        rw [if_neg (by omega), dueE_none (ne_ref h) hf, if_pos rfl]
        rfl
  · rw [bad_ref]
    exact ⟨rfl, rfl⟩
end
theorem okN {es : List (Vl × Vl)} (h : Ok47 es) : ∀ e ∈ es, e.1 ∈ dom47 := fun e he => (h.all e he).1
theorem Ok47.put {es : List (Vl × Vl)} (h : Ok47 es) {x y : Vl} (hx : x ∈ dom47) (hy : LV y) : Ok47 (putT kt47 es (x, y)) := by
  refine ⟨fun e he => ?_, putT_nodup h.nd⟩
  rcases putT_mem he with he | rfl | ⟨e', he', rfl⟩
  · exact h.all e he
  · exact ⟨hx, hy⟩
  · exact ⟨(h.all e' he').1, hy⟩
theorem Ok47.upd {es fs : List (Vl × Vl)} (h : Ok47 es) (hf : ∀ e ∈ fs, e.1 ∈ dom47 ∧ LV e.2) : Ok47 (updT kt47 es fs) := ⟨updT_all (X := (· ∈ dom47)) (Y := LV) fs es h.all hf, updT_nodup fs es h.nd⟩
theorem Ok47.due {es : List (Vl × Vl)} (h : Ok47 es) {nm : Str} {x : Vl} {o : Option Vl} (hx : x ∈ dom48) (ho : ∀ y, o = some y → LV y) (hs : nm = "setdefault" → o ≠ none) : Ok47 (dueE nm es x o) := by
  unfold dueE
  split
  · exact h
  rename_i c
  have hx := (dom48_cases hx).resolve_right c
  cases hf : fT kt47 es (kt47 x) with
  | some i =>
    show Ok47 (if nm = "pop" then es.take i ++ es.drop (i + 1) else es)
    split
    · rw [← List.eraseIdx_eq_take_drop_succ]
      exact ⟨fun e he => h.all e (List.mem_of_mem_eraseIdx he), ((List.eraseIdx_sublist _ _).map _).nodup h.nd⟩
    · exact h
  | none =>
    show Ok47 (if nm = "setdefault" then es ++ [(x, o.getD x)] else es)
    split
    · rename_i cs
      cases o with
      | none => exact absurd rfl (hs cs)
      | some y =>
        have := h.put hx (ho y rfl)
        unfold putT at this
        rw [hf] at this
        exact this
    · exact h
theorem show_ok {y : Vl} (h : LV y) : ShowOk (okD y) := (Sm.tup (.cons (Sm.short (n := "ok") (by decide +kernel)) (.cons h.sm .nil))).show (by decide) (by decide)
theorem show_due {es : List (Vl × Vl)} (h : Ok47 es) {nm : Str} {x : Vl} {o : Option Vl} (hx : x ∈ dom48) (ho : ∀ y, o = some y → LV y) : ShowOk (dueD nm es x o) := by
  unfold dueD
  split
  · exact ⟨by decide +kernel, by decide +kernel, by decide +kernel⟩
  rename_i c
  have hx := (dom48_cases hx).resolve_right c
  cases hf : fT kt47 es (kt47 x) with
  | some i =>
    obtain ⟨e, he, _⟩ := fT_lt hf
    show ShowOk (okD (es.getD i (x, x)).2)
    rw [List.getD_eq_getElem?_getD, he]
    exact show_ok (h.all e (List.mem_of_getElem? he)).2
  | none =>
    show ShowOk (noD nm x o)
    cases o with
    | some y => exact show_ok (ho y rfl)
    | none =>
      show ShowOk (if nm = "get" then doneD else missD (shownV x))
      split
      · exact ⟨by decide +kernel, by decide +kernel, by decide +kernel⟩
      · have : ∀ x ∈ dom47, shortS (shownV x) = true := by decide +kernel
        exact (Sm.tup (.cons (Sm.short (n := "raise") (by decide +kernel)) (.cons (Sm.int (i := 7) (Nat.lt_of_lt_of_le (show _ < 2 ^ 20 by decide) (Nat.pow_le_pow_right (by decide) (by decide)))) (.cons (Sm.short (this x hx)) .nil)))).show (by decide) (by decide)
def gnames : List Str := ["get", "pop", "setdefault"]
theorem kbad_nil {rows : List Row} {xs : List Vl} : kbad rows xs [] = none := by
  unfold kbad
  rw [List.zip_nil_right]
  rfl
theorem gacts {hp : Addr} {es fs : List (Vl × Vl)} (h : Ok47 es) {nm : Str} (hn : nm ∈ gnames) {x : Vl} {o : Option Vl} (hx : x ∈ dom48) (hs : nm = "setdefault" → o ≠ none) : ∃ sp, Act K ("dict." ++ nm) sp ∧ DName ("dict." ++ nm) [] ∧ ∀ (v0 vt : V) (H : Hp) (Q : VK), ListAt K H hp ((rowsE es fs).map rowD) → Dt K H v0 (vlD (.ref 0)) → Dt K H vt (.tuple ((x :: o.toList).map vlD)) →
    (∀ u H', Keep hp H H' → ListAt K H' hp ((rowsE (dueE nm es x o) fs).map rowD) → Dt K H' u (dueD nm es x o) → Q u H') → sp [.ref hp, v0, vt] H Q E0 := by
  have hl := h.len
  have D : ∀ {v0 : V} {H : Hp}, ListAt K H hp ((rowsE es fs).map rowD) → Dt K H v0 (vlD (.ref 0)) → DAt K H hp (rowsE es fs) 0 es v0 := fun L d => ⟨L, rfl, d, by omega⟩
  obtain ⟨d1, d2, d3, _⟩ := dnames
  have ke : ∀ e ∈ es, KOk (rowsE es fs) kt47 e.1 := fun e he => ek_ok es fs (h.all e he).1
  obtain ⟨n, sh⟩ : ∃ n, bad47 x = none → Shows ((rowsE es fs).map rowD) n "" [] [.shw (vlD x)] (some (shownV x)) := by
    rcases dom48_cases hx with h | rfl
    · obtain ⟨n, hn⟩ := show47 es fs x h
      exact ⟨n, fun _ => hn⟩
    · exact ⟨0, fun e => by rw [bad_ref] at e; cases e⟩
  simp only [gnames, List.mem_cons, List.not_mem_nil, or_false] at hn
  rcases hn with rfl | rfl | rfl
  · rw [show ("dict." ++ "get" : Str) = "dict.get" by decide +kernel]
    obtain ⟨e1, e2⟩ := due_get (o := o) (okN h) hx
    refine ⟨_, .inl ⟨rfl, rfl⟩, d1, fun v0 vt H Q L d dt k => ⟨kt47, hp, _, 0, v0, vt, es, x, bad47 x, o, rfl, D L d, dt, kin47 es fs hx, ke, fun u H' S du => ?_⟩⟩
    rw [e2] at k
    rw [e1] at du
    exact k u H' (Same.keep S) (listAt_mono L S) du
  · rw [show ("dict." ++ "pop" : Str) = "dict.pop" by decide +kernel]
    obtain ⟨e1, e2⟩ := due_pop (fs := fs) (o := o) (okN h) hx
    refine ⟨_, .inr (.inl ⟨rfl, rfl⟩), d2, fun v0 vt H Q L d dt k => ⟨kt47, hp, _, 0, v0, vt, es, x, bad47 x, o, n, shownV x, rfl, D L d, dt, kin47 es fs hx, ke, sh, fun u H' k1 du L1 => ?_⟩⟩
    rw [e1] at du
    rw [e2] at L1
    exact k u H' k1 L1 du
  · rw [show ("dict." ++ "setdefault" : Str) = "dict.setdefault" by decide +kernel]
    cases o with
    | none => exact absurd rfl (hs rfl)
    | some y =>
      obtain ⟨e1, e2⟩ := due_setd (fs := fs) (y := y) (okN h) hx (by omega)
      obtain ⟨n2, sh2⟩ : ∃ n, bad47 x = none → Shows ((rowsE (es ++ [(x, y)]) fs).map rowD) n "" [] [.shw (vlD x)] (some (shownV x)) := by
        rcases dom48_cases hx with h | rfl
        · obtain ⟨n, hn⟩ := show47 (es ++ [(x, y)]) fs x h
          exact ⟨n, fun _ => hn⟩
        · exact ⟨0, fun e => by rw [bad_ref] at e; cases e⟩
      refine ⟨_, .inr (.inr (.inl ⟨rfl, rfl⟩)), d3, fun v0 vt H Q L d dt k => ⟨kt47, hp, _, 0, v0, vt, es, x, y, bad47 x, n, n2, shownV x, rfl, D L d, dt, kin47 es fs hx, ke, sh, fun hb => ?_, fun u H' k1 du L1 => ?_⟩⟩
      · have hx47 : x ∈ dom47 := (dom48_cases hx).resolve_right fun e => by subst e; rw [bad_ref] at hb; cases hb
        refine ⟨.ok (ek_ok (es ++ [(x, y)]) fs hx47), fun e he => ?_, ?_⟩
        · rcases List.mem_append.mp he with he | he
          · exact ek_ok (es ++ [(x, y)]) fs (h.all e he).1
          · cases List.mem_singleton.mp he
            exact ek_ok (es ++ [(x, y)]) fs hx47
        · exact sh2 hb
      · rw [e1] at du
        rw [e2] at L1
        exact k u H' k1 L1 du
structure St7 (K : PySem.W.Frag) (H : Hp) (p dl el ol hp : Addr) (es fs gs : List (Vl × Vl)) : Prop where
  B : BoxAt H p dl
  E : ListAt K H el (es.map entD)
  O : ListAt K H ol (fs.map entD)
  L : ListAt K H hp ((rowsE gs fs).map rowD)
  n1 : el ≠ p ∧ el ≠ dl
  n2 : ol ≠ p ∧ ol ≠ dl
  n3 : hp ≠ p ∧ hp ≠ dl
  n4 : el ≠ ol
  n5 : el ≠ hp
  n6 : ol ≠ hp
section
variable {H H' : Hp} {p dl el ol hp : Addr} {es fs gs : List (Vl × Vl)} (D : St7 K H p dl el ol hp es fs gs)
include D
theorem St7.same (S : Same H H') : St7 K H' p dl el ol hp es fs gs := ⟨D.B.same S, listAt_mono D.E S, listAt_mono D.O S, listAt_mono D.L S, D.n1, D.n2, D.n3, D.n4, D.n5, D.n6⟩
theorem St7.box (k : Keep p H H') (B : BoxAt H' p dl) : St7 K H' p dl el ol hp es fs gs :=
  ⟨B, listAt_keep D.E k D.n1.1 D.B.at_, listAt_keep D.O k D.n2.1 D.B.at_, listAt_keep D.L k D.n3.1 D.B.at_, D.n1, D.n2, D.n3, D.n4, D.n5, D.n6⟩
theorem St7.row {es' : List (Vl × Vl)} (k : Keep el H H') (E : ListAt K H' el (es'.map entD)) : St7 K H' p dl el ol hp es' fs gs := by
  have hat : ∃ xs, H el = some (.lst xs) := let ⟨xs, e, _⟩ := D.E; ⟨xs, e⟩
  exact ⟨D.B.keep' k D.n1.1 D.n1.2, E, listAt_keep D.O k (Ne.symm D.n4) hat, listAt_keep D.L k (Ne.symm D.n5) hat, D.n1, D.n2, D.n3, D.n4, D.n5, D.n6⟩
theorem St7.oth {l : Addr} (k : Keep l H H') (hat : ∃ xs, H l = some (.lst xs)) (h1 : l ≠ p ∧ l ≠ dl) (h2 : el ≠ l) (h3 : ol ≠ l) (h4 : hp ≠ l) : St7 K H' p dl el ol hp es fs gs :=
  ⟨D.B.keep' k h1.1 h1.2, listAt_keep D.E k h2 hat, listAt_keep D.O k h3 hat, listAt_keep D.L k h4 hat, D.n1, D.n2, D.n3, D.n4, D.n5, D.n6⟩
theorem St7.put {gs' : List (Vl × Vl)} (k : Keep hp H H') (L : ListAt K H' hp ((rowsE gs' fs).map rowD)) : St7 K H' p dl el ol hp es fs gs' := by
  have hat : ∃ xs, H hp = some (.lst xs) := let ⟨xs, e, _⟩ := D.L; ⟨xs, e⟩
  exact ⟨D.B.keep' k D.n3.1 D.n3.2, listAt_keep D.E k D.n5 hat, listAt_keep D.O k D.n6 hat, L, D.n1, D.n2, D.n3, D.n4, D.n5, D.n6⟩
end
end

section
--SPLIT
end
abbrev s_law : Stmt := top 141
abbrev N_law : List Str := ["script", "box", "rows", "other", "k", "heap", "turn", "name", "key", "args", "told", "pair"]
abbrev P_law : List Str := ["script"]
theorem sc_law : FnScope N_law P_law (defScope s_law) := ⟨rfl, rfl, rfl, by decide +kernel, rfl, by decide +kernel, by decide +kernel⟩
section
variable {P : Program} {w : World} {K : PySem.W.Frag} {mg : Str → Option Value} {base : Heap}
def spLaw (K : PySem.W.Frag) : Sp := fun vs H Q _ => ∃ (a : Addr) (ns : List Int), vs = [.ref a] ∧ SqL K H a (ns.map V.int) ∧ ns.length ≤ 63 ∧ ∀ H', Q (.bl true) H'
def anames : List Str := ["get", "pop", "setdefault", "update", "keys", "values", "items", "copy", "clear", "get", "pop", "setdefault"]
theorem aname {r : Int} (h0 : 0 ≤ r) (h1 : r < 12) : ∃ nm, atI (anames.map V.str) r = some (.str nm) ∧ nm ∈ anames := by
  obtain ⟨i, rfl⟩ := Int.eq_ofNat_of_zero_le h0
  have hi : i < anames.length := by show i < 12; omega
  exact ⟨anames[i], atI_nat (by rw [List.getElem?_map, List.getElem?_eq_getElem hi]; rfl), List.getElem_mem hi⟩
theorem an_cases {nm : Str} (h : nm ∈ anames) : nm ∈ lnames ∨ (nm ∉ lnames ∧ nm ∈ gnames) ∨ (nm ∉ lnames ∧ nm ∉ gnames ∧ nm = "update") ∨ (nm ∉ lnames ∧ nm ∉ gnames ∧ nm ≠ "update") := by
  by_cases a : nm ∈ lnames
  · exact .inl a
  by_cases b : nm ∈ gnames
  · exact .inr (.inl ⟨a, b⟩)
  by_cases c : nm = "update"
  · exact .inr (.inr (.inl ⟨a, b, c⟩))
  · exact .inr (.inr (.inr ⟨a, b, c⟩))
theorem sd_g {nm : Str} (h : nm ∉ gnames) : nm ≠ "setdefault" := fun e => h (by rw [e]; decide +kernel)
def heap47 (es fs : List (Vl × Vl)) : List PyData := [rowD (.dct es), rowD (.dct fs), rowD (.tup [.int 1, .text "a"]), rowD (.lst [])]
theorem show_heap {es fs : List (Vl × Vl)} (h : Ok47 es) (g : Ok47 fs) : ShowOk (.list (heap47 es fs)) := by
  refine show_lst (fun d hd => ?_) (by show 4 ≤ 20; decide)
  simp only [heap47, List.mem_cons, List.not_mem_nil, or_false] at hd
  rcases hd with rfl | rfl | rfl | rfl
  · exact (smDct h).mono (by decide) (by decide)
  · exact (smDct g).mono (by decide) (by decide)
  · exact ⟨by decide +kernel, by decide +kernel, by decide +kernel⟩
  · exact ⟨by decide +kernel, by decide +kernel, by decide +kernel⟩
theorem kbad_upd {es fs : List (Vl × Vl)} : kbad (rowsE es fs) [.ref 1] ["dict"] = none := by
  unfold kbad
  have : kp (rowsE es fs) (.ref 1, "dict") = false := by
    unfold kp
    rw [words_dict]
    have e : sortR (rowsE es fs) (.ref 1) = "dict" := rfl
    rw [e]
    decide +kernel
  rw [List.find?_eq_none.mpr]
  · rfl
  · intro p hp
    have hp : p ∈ [((.ref 1, "dict") : Vl × Str)] := hp
    rw [List.mem_singleton.mp hp, this]
    exact Bool.false_ne_true
theorem show_done : ShowOk doneD := ⟨by decide +kernel, by decide +kernel, by decide +kernel⟩
theorem ok_law {f : Addr} {fd : FuncData} (F : Fun K "law" "law" s_law f fd) (T : Txt K mg) (U_law_digits : Use P w K mg base CX0 "_law_digits" 2 P_law_digits (spDigits K)) (U_law_draw : Use P w K mg base CX0 "_law_draw" 1 P_law_draw (spDraw K)) (U_law_key : Use P w K mg base CX0 "_law_key" 2 P_law_key (spLKey K)) (U_law_value : Use P w K mg base CX0 "_law_value" 2 P_law_value (spLVal K))
    (U_law_put : Use P w K mg base CX0 "_law_put" 3 P_law_put (spLPut K)) (U_law_due : Use P w K mg base CX0 "_law_due" 3 P_law_due (spLDue K)) (U_law_lists : Use P w K mg base CX0 "_law_lists" 12 P_law_lists (spLLists K)) (U_law_same : Use P w K mg base CX0 "_law_same" 1 P_law_same (spSame K)) (U_plain_built : Use P w K mg base CX0 "plain_built" 11 P_plain_built (spPlainD K)) : FnG P w K mg base CX0 13 f fd P_law (spLaw K) := by
  refine okG0 F sc_law (fun vs H Q E h => ?_) fun cdv A outer s H vs Q E hr hg h => ?_
  · obtain ⟨a, ns, rfl, _⟩ := h
    rfl
  · obtain ⟨a, ns, rfl, hs, hn, k⟩ := h
    refine ⟨_, (pss_cons (ps_set (i := 1) sc_law.nd rfl (Or.inl rfl) (pe_lst (pa_cons (pe_use U_law_digits (hr.mono (by decide)) hg rfl (pa_cons (pv 0) (pa_cons pe_int (pa_cons pe_int pa_nil)))) (pa_cons pe_int pa_nil))))
  (pss_cons (ps_set (i := 2) sc_law.nd rfl (Or.inl rfl) (pe_lst pa_nil))
  (pss_cons (ps_set (i := 3) sc_law.nd rfl (Or.inl rfl) (pe_lst pa_nil))
  (pss_cons (ps_for PassesOwn.never rfl (pi_range1 (by rfl) T.b_range (pa_cons (pe_use U_law_draw (hr.mono (by decide)) hg rfl (pa_cons (pv 1) (pa_cons pe_int pa_nil))) pa_nil)) (pg_name (i := 4) sc_law.nd rfl (Or.inl rfl))
   (pss_cons (ps_expr (pe_use U_law_put (hr.mono (by decide)) hg rfl (pa_cons (pv 2) (pa_cons (pe_use U_law_key (hr.mono (by decide)) hg rfl (pa_cons (pv 1) pa_nil)) (pa_cons (pe_use U_law_value (hr.mono (by decide)) hg rfl (pa_cons (pv 1) pa_nil)) pa_nil)))))
  (pss_one (ps_expr (pe_use U_law_put (hr.mono (by decide)) hg rfl (pa_cons (pv 3) (pa_cons (pe_use U_law_key (hr.mono (by decide)) hg rfl (pa_cons (pv 1) pa_nil)) (pa_cons (pe_use U_law_value (hr.mono (by decide)) hg rfl (pa_cons (pv 1) pa_nil)) pa_nil))))))))
  (pss_cons (ps_set (i := 5) sc_law.nd rfl (Or.inl rfl) (pe_lst (pa_cons (pe_tup (pa_cons pe_str (pa_cons (pe_callTy call_tuple_of (by rfl) T.b_tuple (by decide +kernel) (pa_cons (pv 2) pa_nil)) pa_nil))) (pa_cons (pe_tup (pa_cons pe_str (pa_cons (pe_callTy call_tuple_of (by rfl) T.b_tuple (by decide +kernel) (pa_cons (pv 3) pa_nil)) pa_nil))) (pa_cons (pe_tup (pa_cons pe_str (pa_cons (pe_tup (pa_cons (pe_tup (pa_cons pe_str (pa_cons pe_int pa_nil))) (pa_cons (pe_tup (pa_cons pe_str (pa_cons pe_str pa_nil))) pa_nil))) pa_nil))) (pa_cons (pe_tup (pa_cons pe_str (pa_cons (pe_tup pa_nil) pa_nil))) pa_nil))))))
  (pss_cons (ps_for PassesOwn.never rfl (pi_range1 (by rfl) T.b_range (pa_cons (pe_op op_add pe_int (pe_use U_law_draw (hr.mono (by decide)) hg rfl (pa_cons (pv 1) (pa_cons pe_int pa_nil)))) pa_nil)) (pg_name (i := 6) sc_law.nd rfl (Or.inl rfl))
   (pss_cons (ps_set (i := 7) sc_law.nd rfl (Or.inl rfl) (pe_ix ix_list (pe_lst (pa_cons pe_str (pa_cons pe_str (pa_cons pe_str (pa_cons pe_str (pa_cons pe_str (pa_cons pe_str (pa_cons pe_str (pa_cons pe_str (pa_cons pe_str (pa_cons pe_str (pa_cons pe_str (pa_cons pe_str pa_nil))))))))))))) (pe_use U_law_draw (hr.mono (by decide)) hg rfl (pa_cons (pv 1) (pa_cons pe_int pa_nil))) (fun _ _ => rfl)))
  (pss_cons (ps_set (i := 8) sc_law.nd rfl (Or.inl rfl) (pe_use U_law_key (hr.mono (by decide)) hg rfl (pa_cons (pv 1) pa_nil)))
  (C8.pss_cut (ps_if (pt_cmpR op_eq (pe_use U_law_draw (hr.mono (by decide)) hg rfl (pa_cons (pv 1) (pa_cons pe_int pa_nil))) pe_int (nomark _))
   (pss_one (ps_set (i := 8) sc_law.nd rfl (Or.inl rfl) (pe_tup (pa_cons pe_str (pa_cons pe_int pa_nil)))))
   pss_nil)
  (pss_cons (ps_set (i := 9) sc_law.nd rfl (Or.inl rfl) (pe_lst (pa_cons (pe_tup (pa_cons pe_str (pa_cons pe_int pa_nil))) (pa_cons (pv 8) pa_nil))))
  (C8.pss_cut (ps_if (PW.pt (pw_or (pt_cmpR op_eq (pv 7) pe_str (nomark _)) (pw_or1 (pt_cmpR op_eq (pe_use U_law_draw (hr.mono (by decide)) hg rfl (pa_cons (pv 1) (pa_cons pe_int pa_nil))) pe_int (nomark _)))))
   (pss_one (ps_expr (pe_bm PySem.F.plainAttrs_list PySem.F.slot_list_append PySem.F.type_list_append mt_append (pv 9) (pa_cons (pe_use U_law_value (hr.mono (by decide)) hg rfl (pa_cons (pv 1) pa_nil)) pa_nil))))
   pss_nil)
  (C8.pss_cut (ps_if (pt_cmpR op_in_seq (pv 7) (pe_lst (pa_cons pe_str (pa_cons pe_str (pa_cons pe_str (pa_cons pe_str pa_nil))))) (by rfl))
   (pss_one (ps_if (pt_not (pt_val (pe_use U_law_lists (hr.mono (by decide)) hg rfl (pa_cons (pv 5) (pa_cons (pv 2) (pa_cons (pv 7) pa_nil))))))
   (pss_one (ps_ret pe_bl))
   pss_nil))
   (pss_one (ps_if (pt_cmpR op_in_seq (pv 7) (pe_lst (pa_cons pe_str (pa_cons pe_str (pa_cons pe_str pa_nil)))) (by rfl))
   (pss_cons (ps_set (i := 10) sc_law.nd rfl (Or.inl rfl) (pe_use U_plain_built (hr.mono (by decide)) hg rfl (pa_cons (pv 5) (pa_cons (pe_op op_add_str pe_str (pv 7)) (pa_cons (pe_callTy call_tuple_of (by rfl) T.b_tuple (by decide +kernel) (pa_cons (pv 9) pa_nil)) pa_nil)))))
  (pss_one (ps_if (pt_not (pt_val (pe_use U_law_same (hr.mono (by decide)) hg rfl (pa_cons (pv 10) (pa_cons (pe_use U_law_due (hr.mono (by decide)) hg rfl (pa_cons (pv 7) (pa_cons (pv 2) (pa_cons (pv 9) pa_nil)))) pa_nil)))))
   (pss_one (ps_ret pe_bl))
   pss_nil)))
   (pss_one (ps_if (pt_cmpR op_eq (pv 7) pe_str (nomark _))
   (pss_cons (ps_for PassesOwn.never rfl (pi_list (pv 3)) (pg_name (i := 11) sc_law.nd rfl (Or.inl rfl))
   (pss_one (ps_expr (pe_use U_law_put (hr.mono (by decide)) hg rfl (pa_cons (pv 2) (pa_cons (pe_ix ix_tup (pv 11) pe_int (fun _ _ => rfl)) (pa_cons (pe_ix ix_tup (pv 11) pe_int (fun _ _ => rfl)) pa_nil)))))))
  (pss_one (ps_if (pt_not (pt_val (pe_use U_law_same (hr.mono (by decide)) hg rfl (pa_cons (pe_use U_plain_built (hr.mono (by decide)) hg rfl (pa_cons (pv 5) (pa_cons pe_str (pa_cons (pe_tup (pa_cons (pe_tup (pa_cons pe_str (pa_cons pe_int pa_nil))) (pa_cons (pe_tup (pa_cons pe_str (pa_cons pe_int pa_nil))) pa_nil))) pa_nil)))) (pa_cons (pe_tup (pa_cons pe_str (pa_cons (pe_tup (pa_cons pe_str pa_nil)) pa_nil))) pa_nil)))))
   (pss_one (ps_ret pe_bl))
   pss_nil)))
   (pss_cons (ps_expr (pe_bm0 PySem.F.plainAttrs_list PySem.F.slot_list_clear PySem.F.type_list_clear mt_clear (pv 2)))
  (pss_one (ps_if (pt_not (pt_val (pe_use U_law_same (hr.mono (by decide)) hg rfl (pa_cons (pe_use U_plain_built (hr.mono (by decide)) hg rfl (pa_cons (pv 5) (pa_cons pe_str (pa_cons (pe_tup (pa_cons (pe_tup (pa_cons pe_str (pa_cons pe_int pa_nil))) pa_nil)) pa_nil)))) (pa_cons (pe_tup (pa_cons pe_str (pa_cons (pe_tup (pa_cons pe_str pa_nil)) pa_nil))) pa_nil)))))
   (pss_one (ps_ret pe_bl))
   pss_nil))))))))
  (pss_one (ps_if (pt_not (pt_val (pe_use U_law_same (hr.mono (by decide)) hg rfl (pa_cons (pv 5) (pa_cons (pe_lst (pa_cons (pe_tup (pa_cons pe_str (pa_cons (pe_callTy call_tuple_of (by rfl) T.b_tuple (by decide +kernel) (pa_cons (pv 2) pa_nil)) pa_nil))) (pa_cons (pe_tup (pa_cons pe_str (pa_cons (pe_callTy call_tuple_of (by rfl) T.b_tuple (by decide +kernel) (pa_cons (pv 3) pa_nil)) pa_nil))) (pa_cons (pe_tup (pa_cons pe_str (pa_cons (pe_tup (pa_cons (pe_tup (pa_cons pe_str (pa_cons pe_int pa_nil))) (pa_cons (pe_tup (pa_cons pe_str (pa_cons pe_str pa_nil))) pa_nil))) pa_nil))) (pa_cons (pe_tup (pa_cons pe_str (pa_cons (pe_tup pa_nil) pa_nil))) pa_nil))))) pa_nil)))))
   (pss_one (ps_ret pe_bl))
   pss_nil)))))))))
  (pss_one (ps_ret pe_bl)))))))), ?_⟩
    refine ⟨_, rfl, a, ns, 0, 63, rfl, hs, by decide, by decide, fun dl H1 nd D => ?_⟩
    obtain ⟨ds, hd, hl, hds, S1⟩ := D
    refine ⟨sz_2, fun p hp0 => ?_⟩
    have B0 : BoxAt (upd H1 p (.lst [.ref dl, .int 0])) p dl := ⟨ds, 0, upd_same, by decide, by rw [upd_ne (ne_of_none hd hp0)]; exact hd, hl, hds⟩
    generalize upd H1 p (.lst [.ref dl, .int 0]) = H2 at B0
    clear hd hds S1 hp0 hs nd
    refine ⟨sz_0, fun el hel => ?_⟩
    have n1 := B0.ne_new hel
    have B1 := B0.same (Same.new (o := .lst []) hel)
    have E1 : ListAt K (upd H2 el (.lst [])) el (([] : List (Vl × Vl)).map entD) := listAt_made hel .nil
    generalize upd H2 el (.lst []) = H3 at B1 E1
    clear B0 hel
    refine ⟨sz_0, fun ol hol => ?_⟩
    have n2 := B1.ne_new hol
    have n4 : el ≠ ol := fun e => by obtain ⟨q, eq, _⟩ := E1; rw [e, hol] at eq; cases eq
    have B2 := B1.same (Same.new (o := .lst []) hol)
    have E2 := listAt_mono E1 (Same.new (o := .lst []) hol)
    have O2 : ListAt K (upd H3 ol (.lst [])) ol (([] : List (Vl × Vl)).map entD) := listAt_made hol .nil
    generalize upd H3 ol (.lst []) = H4 at B2 E2 O2
    clear B1 E1 hol
    refine ⟨_, rfl, p, dl, 7, rfl, B2, by decide, fun r H5 q0 q1 B3 K3 => ?_⟩
    have E3 := listAt_keep E2 K3 n1.1 B2.at_
    have O3 := listAt_keep O2 K3 n2.1 B2.at_
    obtain ⟨N, rfl⟩ := Int.eq_ofNat_of_zero_le q0
    clear E2 O2 K3 B2
    refine ⟨_, rfl, by omega, by omega, ?_⟩
    rw [Int.toNat_natCast]
    refine for_range (lo := 0) (n := N) (fun i σ H' => ∃ (es fs : List (Vl × Vl)) (x4 : Option V), σ = [some (.ref a), some (.ref p), some (.ref el), some (.ref ol), x4, none, none, none, none, none, none, none] ∧ BoxAt H' p dl ∧ ListAt K H' el (es.map entD) ∧ ListAt K H' ol (fs.map entD) ∧ Ok47 es ∧ Ok47 fs) ⟨[], [], none, rfl, B3, E3, O3, ⟨by simp, .nil⟩, ⟨by simp, .nil⟩⟩ ?_ ?_
    · clear B3 E3 O3
      rintro i σ H6 hi ⟨es, fs, x4, rfl, B, E, O, oe, of⟩
      have step : ∀ {el' : Addr} {es' : List (Vl × Vl)} {H6 : Hp}, BoxAt H6 p dl → ListAt K H6 el' (es'.map entD) → el' ≠ p ∧ el' ≠ dl → True := fun _ _ _ => trivial
      refine ⟨_, rfl, _, rfl, p, dl, rfl, B, fun kv H7 x B7 K7 dx hx => ⟨_, rfl, p, dl, rfl, B7, fun yv y H8 B8 K8 dy hy => ?_⟩⟩
      have E7 := listAt_keep (listAt_keep E K7 n1.1 B.at_) K8 n1.1 B7.at_
      have O7 := listAt_keep (listAt_keep O K7 n2.1 B.at_) K8 n2.1 B7.at_
      have le := oe.len
      refine ⟨el, es, kv, yv, x, y, rfl, E7, dx.keepT (K8.keepT B7.at_), dy, okN oe, hx, by omega, fun H9 K9 E9 => ?_⟩
      have hat : ∃ xs, H8 el = some (.lst xs) := let ⟨xs, e, _⟩ := E7; ⟨xs, e⟩
      have B9 := B8.keep' K9 n1.1 n1.2
      have O9 := listAt_keep O7 K9 (Ne.symm n4) hat
      have oe2 := oe.put hx hy
      clear B E O B7 K7 dx B8 K8 dy E7 O7 hat K9
      refine ⟨_, rfl, _, rfl, p, dl, rfl, B9, fun kv H7 x2 B7 K7 dx hx => ⟨_, rfl, p, dl, rfl, B7, fun yv y2 H8 B8 K8 dy hy => ?_⟩⟩
      have E7 := listAt_keep (listAt_keep E9 K7 n1.1 B9.at_) K8 n1.1 B7.at_
      have O7 := listAt_keep (listAt_keep O9 K7 n2.1 B9.at_) K8 n2.1 B7.at_
      have lf := of.len
      refine ⟨ol, fs, kv, yv, x2, y2, rfl, O7, dx.keepT (K8.keepT B7.at_), dy, okN of, hx, by omega, fun H9 K9 E9 => ?_⟩
      have hat : ∃ xs, H8 ol = some (.lst xs) := let ⟨xs, e, _⟩ := O7; ⟨xs, e⟩
      exact ⟨_, _, _, rfl, B8.keep' K9 n2.1 n2.2, listAt_keep E7 K9 n4 hat, E9, oe2, of.put hx hy⟩
    clear B3 E3 O3
    rintro σ H6 ⟨es, fs, x4, rfl, B, E, O, oe, of⟩
    -- heap = [..]
    obtain ⟨ws, ew, aw⟩ := id E
    obtain ⟨os, eo, ao⟩ := id O
    refine ⟨_, rfl, el, _, rfl, .inl ⟨SqL.of ew, fun t ht => ⟨sz_2, fun u1 hu1 => ?_⟩⟩⟩
    have S1 := (Same.new (o := .tup ws) ht).trans (Same.new (o := .tup [V.str "dict", V.ref t]) hu1)
    have d1 : Dt K _ (.ref u1) (rowD (.dct es)) := Dt.made hu1 (.cons (.str _) (.cons (Dt.made ht aw) .nil))
    generalize upd (upd H6 t _) u1 _ = H7 at S1 d1
    refine ⟨_, rfl, ol, _, rfl, .inl ⟨SqL.of (S1 _ _ eo), fun t2 ht2 => ⟨sz_2, fun u2 hu2 => ?_⟩⟩⟩
    have S2 := (Same.new (o := .tup os) ht2).trans (Same.new (o := .tup [V.str "dict", V.ref t2]) hu2)
    have d2 : Dt K _ (.ref u2) (rowD (.dct fs)) := Dt.made hu2 (.cons (.str _) (.cons (Dt.made ht2 (ao.mono S1)) .nil))
    generalize upd (upd H7 t2 _) u2 _ = H8 at S2 d2
    clear ht hu1 ht2 hu2
    dsimp only
    refine mkA_is (K := K) (ds := [rowD (.tup [.int 1, .text "a"]), rowD (.lst [])]) (.cons (.pr (.str _) (.pr (.pr (.str _) (.int _)) (.pr (.str _) (.str _)))) (.cons (.pr (.str _) (.tup .nil (by decide))) .nil)) fun vs H9 S9 dvs => ?_
    have dall : DtAll K H9 (V.ref u1 :: V.ref u2 :: vs) ((rowsE es fs).map rowD) := .cons (d1.mono (S2.trans S9)) (.cons (d2.mono S9) dvs)
    have S19 := (S1.trans S2).trans S9
    have lvs : vs.length = 2 := dvs.length
    refine ⟨by simp only [List.length_cons]; rw [lvs]; exact sz_4, fun hp hhp => ?_⟩
    have S20 := S19.trans (Same.new (o := .lst (V.ref u1 :: V.ref u2 :: vs)) hhp)
    have L20 : ListAt K (upd H9 hp (.lst (V.ref u1 :: V.ref u2 :: vs))) hp ((rowsE es fs).map rowD) := listAt_made hhp dall
    have ne : ∀ {b : Addr} {ds : List PyData}, ListAt K H6 b ds → b ≠ hp := fun {b ds} L e => by
      obtain ⟨xs, ex, _⟩ := listAt_mono L S19
      rw [e, hhp] at ex
      cases ex
    have St : St7 K (upd H9 hp (.lst (V.ref u1 :: V.ref u2 :: vs))) p dl el ol hp es fs es := ⟨B.same S20, listAt_mono E S20, listAt_mono O S20, L20, n1, n2, (B.same S19).ne_new hhp, n4, ne E, ne O⟩
    generalize upd H9 hp (.lst (V.ref u1 :: V.ref u2 :: vs)) = H10 at St
    clear ne L20 S20 dall S19 dvs S9 d2 S2 d1 S1 aw ao ew eo B E O hhp
    -- the turns
    refine ⟨_, rfl, p, dl, 25, rfl, St.B, by decide, fun r H11 r0 r1 B11 K11 => ?_⟩
    have St := St.box K11 B11
    clear B11 K11
    obtain ⟨M, rfl⟩ := Int.eq_ofNat_of_zero_le r0
    refine ⟨_, _, rfl, rfl, _, rfl, by omega, by omega, ?_⟩
    rw [show ((1 : Int) + (M : Int)).toNat = 1 + M by omega]
    refine for_range (lo := 0) (n := 1 + M) (fun i σ H' => ∃ (es : List (Vl × Vl)) (x6 x7 x8 x9 x10 x11 : Option V), σ = [some (.ref a), some (.ref p), some (.ref el), some (.ref ol), x4, some (.ref hp), x6, x7, x8, x9, x10, x11] ∧ St7 K H' p dl el ol hp es fs es ∧ Ok47 es) ⟨es, none, none, none, none, none, none, rfl, St, oe⟩ ?_ ?_
    · clear St oe
      rintro i σ H0 hi ⟨es, x6, x7, x8, x9, x10, x11, rfl, St, oe⟩
      have le := oe.len
      have lf := of.len
      refine ⟨by decide, fun nl hnl => ⟨_, rfl, p, dl, 12, rfl, St.B.same (Same.new hnl), by decide, fun r H2 r0 r1 B2 K2 => ?_⟩⟩
      have enl := upd_same (H := H0) (a := nl) (o := HO.lst (anames.map V.str))
      have nlp : nl ≠ p := (St.B.ne_new hnl).1
      have St := (St.same (Same.new (o := .lst (anames.map V.str)) hnl)).box K2 B2
      have enl2 := K2 _ _ enl nlp
      obtain ⟨nm, hnm, hmem⟩ := aname r0 r1
      refine ⟨nl, _, _, _, rfl, rfl, SqL.of enl2, hnm, ?_⟩
      clear K2 B2 enl hnl enl2 nlp
      refine ⟨_, rfl, p, dl, rfl, St.B, fun kv H3 x B3 K3 dx hx => ?_⟩
      have St := St.box K3 B3
      clear B3 K3
      refine ⟨fun σ H' => ∃ (kv : V) (x : Vl), σ = [some (.ref a), some (.ref p), some (.ref el), some (.ref ol), x4, some (.ref hp), some (.int ((0 : Int) + ((i : Nat) : Int))), some (.str nm), some kv, x9, x10, x11] ∧ St7 K H' p dl el ol hp es fs es ∧ Dt K H' kv (vlD x) ∧ x ∈ dom48, ?_, ?_⟩
      · refine ⟨_, rfl, p, dl, 9, rfl, St.B, by decide, fun r2 H4 _ _ B4 K4 => ⟨rfl, _, rfl, ite3 (fun _ => ?_) fun _ => ?_⟩⟩
        · refine ⟨sz_2, fun u hu => ?_⟩
          exact ⟨_, .ref 3, rfl, (St.box K4 B4).same (Same.new hu), Dt.made hu (.cons (.str _) (.cons (.int _) .nil)), List.mem_append_right _ (by simp)⟩
        · exact ⟨kv, x, rfl, St.box K4 B4, dx.keepT (K4.keepT St.B.at_), in48 hx⟩
      clear St dx hx
      rintro _ H3 ⟨kv, x, rfl, St, dx, hx⟩
      refine ⟨sz_2, fun u hu => ⟨_, rfl, sz_2, fun al hal => ?_⟩⟩
      have S4 := Same.new (o := .tup [V.str "ref", V.int 0]) hu
      have d0 : Dt K _ (.ref u) (vlD (.ref 0)) := Dt.made hu (.cons (.str _) (.cons (.int _) .nil))
      have S5 := S4.trans (Same.new (o := .lst [V.ref u, kv]) hal)
      have nal := (St.B.same S4).ne_new hal
      have ne : ∀ {b : Addr} {ds : List PyData}, ListAt K H3 b ds → b ≠ al := fun {b ds} L e => by
        obtain ⟨xs, ex, _⟩ := listAt_mono L S4
        rw [e, hal] at ex
        cases ex
      have nae := ne St.E
      have nah := ne St.L
      have nao := ne St.O
      have A5 : ListAt K (upd (upd H3 u (.tup [V.str "ref", V.int 0])) al (.lst [V.ref u, kv])) al ([Vl.ref 0, x].map vlD) := listAt_made hal (.cons d0 (.cons (dx.mono S4) .nil))
      have St := St.same S5
      generalize upd (upd H3 u (.tup [V.str "ref", V.int 0])) al (.lst [V.ref u, kv]) = H5 at A5 St
      clear ne S5 d0 S4 hu hal dx
      refine ⟨fun σ H' => ∃ (o : Option Vl), σ = [some (.ref a), some (.ref p), some (.ref el), some (.ref ol), x4, some (.ref hp), some (.int ((0 : Int) + ((i : Nat) : Int))), some (.str nm), some kv, some (.ref al), x10, x11] ∧ St7 K H' p dl el ol hp es fs es ∧ ListAt K H' al ((Vl.ref 0 :: x :: o.toList).map vlD) ∧ (∀ y, o = some y → LV y) ∧ (nm = "setdefault" → o ≠ none), ?_, ?_⟩
      · have fin : ∀ {H6 H7 : Hp} {v : V} {y : Vl} {zs : List V}, St7 K H6 p dl el ol hp es fs es → ListAt K H6 al ([Vl.ref 0, x].map vlD) → BoxAt H7 p dl → Keep p H6 H7 → Dt K H7 v (vlD y) → LV y → H7 al = some (.lst zs) →
            St7 K (upd H7 al (.lst (zs ++ [v]))) p dl el ol hp es fs es ∧ ListAt K (upd H7 al (.lst (zs ++ [v]))) al ((Vl.ref 0 :: x :: (some y).toList).map vlD) := fun {H6 H7 v y zs} St A B7 K7 dy hy ez => by
          have St7' := St.box K7 B7
          have A7 := listAt_keep A K7 nal.1 St.B.at_
          refine ⟨St7'.oth (fun b o e ne => by rw [upd_ne ne]; exact e) ⟨_, ez⟩ nal nae nao nah, ?_⟩
          exact listAt_app A7 ez dy
        refine ⟨_, rfl, rfl, _, rfl, ?_⟩
        by_cases cs : nm = "setdefault"
        · refine iteTb (by rw [cs]; rfl) ?_
          refine iteTb rfl ?_
          obtain ⟨zs, ez, az⟩ := id A5
          have lz : zs.length = 2 := az.length
          refine ⟨_, rfl, .inl ⟨rfl, _, SqL.of ez⟩, _, rfl, p, dl, rfl, St.B, fun v y H7 B7 K7 dy hy => ?_⟩
          have ez7 := K7 _ _ ez nal.1
          refine ⟨al, _, _, rfl, rfl, ez7, js_lt (by omega), ?_⟩
          obtain ⟨f1, f2⟩ := fin St A5 B7 K7 dy hy ez7
          exact ⟨some y, rfl, f1, f2, fun y' e => by cases e; exact hy, fun _ e => nomatch e⟩
        · refine iteFb (dec_str cs) ?_
          refine ⟨_, rfl, p, dl, 2, rfl, St.B, by decide, fun r2 H6 _ _ B6 K6 => ?_⟩
          have A6 := listAt_keep A5 K6 nal.1 St.B.at_
          have St := St.box K6 B6
          refine ⟨rfl, _, rfl, ite3 (fun _ => ?_) fun _ => ?_⟩
          · obtain ⟨zs, ez, az⟩ := id A6
            have lz : zs.length = 2 := az.length
            refine ⟨_, rfl, .inl ⟨rfl, _, SqL.of ez⟩, _, rfl, p, dl, rfl, St.B, fun v y H7 B7 K7 dy hy => ?_⟩
            have ez7 := K7 _ _ ez nal.1
            refine ⟨al, _, _, rfl, rfl, ez7, js_lt (by omega), ?_⟩
            obtain ⟨f1, f2⟩ := fin St A6 B7 K7 dy hy ez7
            exact ⟨some y, rfl, f1, f2, fun y' e => by cases e; exact hy, fun _ e => nomatch e⟩
          · exact ⟨none, rfl, St, A6, (fun y e => nomatch e), fun e => absurd e cs⟩
      clear St A5
      rintro _ H5 ⟨o, rfl, St, A, ho, hsd⟩
      refine ⟨fun σ H' => ∃ (es : List (Vl × Vl)) (x10 x11 : Option V), σ = [some (.ref a), some (.ref p), some (.ref el), some (.ref ol), x4, some (.ref hp), some (.int ((0 : Int) + ((i : Nat) : Int))), some (.str nm), some kv, some (.ref al), x10, x11] ∧ St7 K H' p dl el ol hp es fs es ∧ Ok47 es, ?_, ?_⟩
      · have e1 : ([V.str "keys", V.str "values", V.str "items", V.str "copy"] : List V) = lnames.map V.str := rfl
        have e2 : ([V.str "get", V.str "pop", V.str "setdefault"] : List V) = gnames.map V.str := rfl
        have nl : nm.length ≤ 20 := (show ∀ z ∈ anames, z.length ≤ 20 by decide +kernel) nm hmem
        have dl5 : ("dict." : Str).length = 5 := rfl
        refine ⟨_, rfl, sz_4, fun l1 hl1 => ⟨l1, _, rfl, .inl (SqL.of upd_same), rfl, rfl, _, rfl, ?_⟩⟩
        have St := St.same (Same.new (o := .lst [V.str "keys", V.str "values", V.str "items", V.str "copy"]) hl1)
        have A := listAt_mono A (Same.new (o := .lst [V.str "keys", V.str "values", V.str "items", V.str "copy"]) hl1)
        generalize upd H5 l1 _ = H6 at St A
        rw [if_neg Bool.false_ne_true, e1, inV_strs2]
        rcases an_cases hmem with hL | ⟨hL, hG⟩ | ⟨hL, hG, hU⟩ | ⟨hL, hG, hU⟩
        · refine iteTb (decide_eq_true hL) ?_
          refine ⟨_, rfl, _, rfl, _, rfl, nm, hp, el, es, fs, rfl, hL, St.L, St.E, St.n5, oe, fun H7 k7 L7 => ?_⟩
          exact ⟨true, rfl, iteFb rfl ⟨es, _, _, rfl, St.put k7 L7, oe⟩⟩
        all_goals refine iteFb (decide_eq_false hL) ?_
        all_goals refine ⟨_, rfl, sz_3, fun l2 hl2 => ⟨l2, _, rfl, .inl (SqL.of upd_same), rfl, rfl, _, rfl, ?_⟩⟩
        all_goals have St := St.same (Same.new (o := .lst [V.str "get", V.str "pop", V.str "setdefault"]) hl2)
        all_goals have A := listAt_mono A (Same.new (o := .lst [V.str "get", V.str "pop", V.str "setdefault"]) hl2)
        all_goals generalize upd H6 l2 _ = H7 at St A
        all_goals rw [if_neg Bool.false_ne_true, e2, inV_strs2]
        · refine iteTb (decide_eq_true hG) ?_
          obtain ⟨sp, act, dn, run⟩ := gacts (K := K) (hp := hp) (fs := fs) oe hG (x := x) (o := o) hx hsd
          obtain ⟨zs, ez, az⟩ := id A
          refine ⟨_, rfl, _, rfl, _, _, rfl, rfl, ss_le (by rw [dl5]; omega), _, rfl, al, _, rfl, .inl ⟨SqL.of ez, fun t ht => ?_⟩⟩
          have S8 := Same.new (o := .tup zs) ht
          have St := St.same S8
          have A := listAt_mono A S8
          have da : Dt K _ (.ref t) (.tuple ((Vl.ref 0 :: x :: o.toList).map vlD)) := Dt.made ht az
          generalize upd H7 t _ = H8 at St A da
          refine ⟨hp, rowsE es fs, _, [], _, .ref 0, x :: o.toList, sp, rfl, dn, act, St.L, da, by cases o <;> simp, fun z hz k hk => ?_, kbad_nil, fun v0 vt H9 S9 d0 dt => ?_⟩
          · subst hk
            rcases List.mem_cons.mp hz with hz | hz
            · rw [← hz] at hx
              have : ∀ z ∈ dom48, ∀ k, z = Vl.ref k → k < 4 := by
                intro z hz k hk
                subst hk
                rcases dom48_cases hz with h | h
                · rcases dom_cases h with ⟨b, e⟩ | ⟨i, e, _⟩ | e | e | ⟨z, e, _⟩ <;> cases e
                  decide
                · cases h; decide
              exact this _ hx k rfl
            · cases o with
              | none => cases hz
              | some y => exact absurd (List.mem_singleton.mp hz).symm ((ho y rfl).noref k)
          have St := St.same S9
          have A := listAt_mono A S9
          refine run v0 vt H9 _ St.L d0 dt fun u H10 k10 L10 du => ?_
          have hat : ∃ xs, H9 hp = some (.lst xs) := let ⟨xs, e, _⟩ := St.L; ⟨xs, e⟩
          have A := listAt_keep A k10 (Ne.symm nah) hat
          have St := St.put k10 L10
          refine ⟨_, rfl, _, rfl, _, rfl, _, rfl, nm, el, al, es, x, o, rfl, St.E, A, okN oe, hx, by omega, nae, hsd, fun u2 H11 k11 d11 E11 => ?_⟩
          have hat2 : ∃ xs, H10 el = some (.lst xs) := let ⟨xs, e, _⟩ := St.E; ⟨xs, e⟩
          refine ⟨_, _, _, rfl, (du.keepT (k11.keepT hat2)).dp, d11.dp, show_due oe hx ho, true, rfl, iteFb rfl ?_⟩
          exact ⟨_, _, _, rfl, St.row k11 E11, oe.due hx ho hsd⟩
        · refine iteFb (decide_eq_false hG) ?_
          subst hU
          refine ⟨_, rfl, rfl, _, rfl, iteTb (by decide +kernel) ?_⟩
          obtain ⟨os, eo, ao⟩ := id St.O
          have lo := ao.length
          rw [List.length_map] at lo
          refine ⟨_, rfl, ol, rfl, ⟨_, SqL.of eo⟩, ?_⟩
          refine for_it (walk_list (xs := os)) (fun j σ H' => ∃ (x11 : Option V), σ = [some (.ref a), some (.ref p), some (.ref el), some (.ref ol), x4, some (.ref hp), some (.int ((0 : Int) + ((i : Nat) : Int))), some (.str "update"), some kv, some (.ref al), x10, x11] ∧ St7 K H' p dl el ol hp (updT kt47 es (fs.take j)) fs es ∧ H' ol = some (.lst os)) ⟨_, rfl, St, eo⟩ (fun _ _ _ _ h => let ⟨_, _, _, e⟩ := h; SqL.of e) ?_ ?_
          · rintro j v σ H8 H9 hj ⟨x11, rfl, St, eo8⟩ ⟨rfl, hv⟩
            have hdi : fs[j]? = some fs[j] := List.getElem?_eq_getElem (by omega)
            have hmem2 := List.getElem_mem (l := fs) (n := j) (by omega)
            generalize fs[j] = g at hdi hmem2
            obtain ⟨os', eo', ao'⟩ := id St.O
            rw [eo8] at eo'
            cases eo'
            obtain ⟨v', hv', dv⟩ := ao'.get (i := j) (d := entD g) (by rw [List.getElem?_map, hdi]; rfl)
            have hv : os[j]? = some v := hv
            rw [hv] at hv'
            cases hv'
            obtain ⟨q, z1, z2, rfl, hq, d1, d2⟩ := dt_ent dv
            have oj : Ok47 (updT kt47 es (fs.take j)) := oe.upd fun e he => of.all e (List.mem_of_mem_take he)
            have lj := oj.len
            refine ⟨_, rfl, _, rfl, q, _, _, _, rfl, rfl, hq, at0, _, rfl, q, _, _, _, rfl, rfl, hq, at1, el, _, z1, z2, g.1, g.2, rfl, St.E, d1, d2, okN oj, (of.all g hmem2).1, by omega, fun H10 k10 E10 => ?_⟩
            refine ⟨_, rfl, ?_, k10 _ _ eo8 (Ne.symm St.n4)⟩
            rw [List.take_succ, hdi]
            show St7 K H10 p dl el ol hp (updT kt47 es (fs.take j ++ [g])) fs es
            rw [updT_snoc]
            exact St.row k10 E10
          · rintro σ H8 ⟨x11, rfl, St, eo8⟩
            rw [lo, List.take_length] at St
            obtain ⟨_, _, _, d4, _⟩ := dnames
            refine ⟨_, rfl, sz_2, fun u1 hu1 => ⟨sz_2, fun u2 hu2 => ⟨sz_2, fun u3 hu3 => ?_⟩⟩⟩
            have S9 := ((Same.new (o := .tup [V.str "ref", V.int 0]) hu1).trans (Same.new (o := .tup [V.str "ref", V.int 1]) hu2)).trans (Same.new (o := .tup [V.ref u1, V.ref u2]) hu3)
            have da : Dt K _ (.ref u3) (.tuple ([Vl.ref 0, .ref 1].map vlD)) := Dt.made hu3 (.cons ((Dt.made (K := K) hu1 (.cons (.str _) (.cons (.int _) .nil))).mono (Same.new (o := .tup [V.str "ref", V.int 1]) hu2)) (.cons (Dt.made hu2 (.cons (.str _) (.cons (.int _) .nil))) .nil))
            have St := St.same S9
            generalize upd (upd (upd H8 u1 _) u2 _) u3 _ = H9 at St da
            refine ⟨hp, rowsE es fs, _, ["dict"], _, .ref 0, [.ref 1], _, rfl, d4, .inr (.inr (.inr (.inl ⟨rfl, rfl⟩))), St.L, da, by decide, fun z hz k hk => ?_, kbad_upd, fun v0 vt H10 S10 d0 dt => ?_⟩
            · cases List.mem_singleton.mp hz
              cases hk
              show 1 < 4
              decide
            have St := St.same S10
            refine ⟨kt47, hp, _, 0, 1, v0, vt, es, fs, rfl, ⟨St.L, rfl, d0, by omega⟩, rfl, dt, fun e he => (ek_ok es fs (oe.all e he).1).k, fun e he => (ek_ok es fs (of.all e he).1).k, oe.nd, of.nd, by omega, fun u H11 k11 du L11 => ?_⟩
            have St := St.put k11 L11
            refine ⟨sz_1, fun u4 hu4 => ⟨sz_2, fun u5 hu5 => ?_⟩⟩
            have S12 := (Same.new (o := .tup [V.str "none"]) hu4).trans (Same.new (o := .tup [V.str "ok", V.ref u4]) hu5)
            have dd : Dt K _ (.ref u5) doneD := Dt.made hu5 (.cons (.str _) (.cons (Dt.made hu4 (.cons (.str _) .nil)) .nil))
            refine ⟨_, _, _, rfl, (du.mono S12).dp, dd.dp, show_done, true, rfl, iteFb rfl ?_⟩
            exact ⟨_, _, _, rfl, St.same S12, oe.upd of.all⟩
        · refine iteFb (decide_eq_false hG) ?_
          refine ⟨_, rfl, rfl, _, rfl, iteFb (dec_str hU) ?_⟩
          obtain ⟨zs, ez, az⟩ := id St.E
          refine ⟨_, rfl, .inl ⟨rfl, _, SqL.of ez⟩, el, _, rfl, rfl, ez, ?_⟩
          have St := St.row (es' := []) (fun b o e ne => by rw [upd_ne ne]; exact e) ⟨_, upd_same, .nil⟩
          generalize upd H7 el _ = H8 at St
          obtain ⟨_, _, _, _, _, _, _, _, d9⟩ := dnames
          refine ⟨_, rfl, sz_2, fun u1 hu1 => ⟨sz_1, fun u3 hu3 => ?_⟩⟩
          have S9 := (Same.new (o := .tup [V.str "ref", V.int 0]) hu1).trans (Same.new (o := .tup [V.ref u1]) hu3)
          have da : Dt K _ (.ref u3) (.tuple ([Vl.ref 0].map vlD)) := Dt.made hu3 (.cons (Dt.made hu1 (.cons (.str _) (.cons (.int _) .nil))) .nil)
          have St := St.same S9
          generalize upd (upd H8 u1 _) u3 _ = H9 at St da
          refine ⟨hp, rowsE es fs, _, [], _, .ref 0, [], _, rfl, d9, .inr (.inr (.inr (.inr (.inr (.inr (.inr (.inr ⟨rfl, rfl⟩))))))), St.L, da, by decide, (fun z hz => nomatch hz), rfl, fun v0 vt H10 S10 d0 dt => ?_⟩
          have St := St.same S10
          refine ⟨hp, _, 0, v0, vt, es, rfl, ⟨St.L, rfl, d0, by omega⟩, fun u H11 k11 L11 du => ?_⟩
          have St := St.put (gs' := []) k11 L11
          refine ⟨sz_1, fun u4 hu4 => ⟨sz_2, fun u5 hu5 => ?_⟩⟩
          have S12 := (Same.new (o := .tup [V.str "none"]) hu4).trans (Same.new (o := .tup [V.str "ok", V.ref u4]) hu5)
          have dd : Dt K _ (.ref u5) doneD := Dt.made hu5 (.cons (.str _) (.cons (Dt.made hu4 (.cons (.str _) .nil)) .nil))
          refine ⟨_, _, _, rfl, (du.mono S12).dp, dd.dp, show_done, true, rfl, iteFb rfl ?_⟩
          exact ⟨_, _, _, rfl, St.same S12, ⟨by simp, .nil⟩⟩
      clear St A
      rintro _ H6 ⟨es, x10, x11, rfl, St, oe⟩
      obtain ⟨ws, ew, aw⟩ := id St.E
      obtain ⟨os, eo, ao⟩ := id St.O
      refine ⟨_, rfl, _, rfl, el, _, rfl, .inl ⟨SqL.of ew, fun t ht => ⟨sz_2, fun u1 hu1 => ?_⟩⟩⟩
      have S1 := (Same.new (o := .tup ws) ht).trans (Same.new (o := .tup [V.str "dict", V.ref t]) hu1)
      have d1 : Dt K _ (.ref u1) (rowD (.dct es)) := Dt.made hu1 (.cons (.str _) (.cons (Dt.made ht aw) .nil))
      generalize upd (upd H6 t _) u1 _ = H7 at S1 d1
      refine ⟨_, rfl, ol, _, rfl, .inl ⟨SqL.of (S1 _ _ eo), fun t2 ht2 => ⟨sz_2, fun u2 hu2 => ?_⟩⟩⟩
      have S2 := (Same.new (o := .tup os) ht2).trans (Same.new (o := .tup [V.str "dict", V.ref t2]) hu2)
      have d2 : Dt K _ (.ref u2) (rowD (.dct fs)) := Dt.made hu2 (.cons (.str _) (.cons (Dt.made ht2 (ao.mono S1)) .nil))
      generalize upd (upd H7 t2 _) u2 _ = H8 at S2 d2
      clear ht hu1 ht2 hu2
      dsimp only
      refine mkA_is (K := K) (ds := [rowD (.tup [.int 1, .text "a"]), rowD (.lst [])]) (.cons (.pr (.str _) (.pr (.pr (.str _) (.int _)) (.pr (.str _) (.str _)))) (.cons (.pr (.str _) (.tup .nil (by decide))) .nil)) fun vs H9 S9 dvs => ?_
      have dall : DtAll K H9 (V.ref u1 :: V.ref u2 :: vs) (heap47 es fs) := .cons (d1.mono (S2.trans S9)) (.cons (d2.mono S9) dvs)
      have S19 := (S1.trans S2).trans S9
      have lvs : vs.length = 2 := dvs.length
      refine ⟨by simp only [List.length_cons]; rw [lvs]; exact sz_4, fun l hl => ?_⟩
      have S20 := S19.trans (Same.new (o := .lst (V.ref u1 :: V.ref u2 :: vs)) hl)
      have L20 : ListAt K (upd H9 l (.lst (V.ref u1 :: V.ref u2 :: vs))) l (heap47 es fs) := listAt_made hl dall
      refine ⟨_, _, _, rfl, (show ListAt K _ hp (heap47 es fs) from listAt_mono St.L S20).dp, L20.dp, show_heap oe of, true, rfl, iteFb rfl ?_⟩
      exact ⟨es, _, _, _, _, _, _, rfl, St.same S20, oe⟩
    · rintro σ H' _
      exact k H'
end

section
--SPLIT
end
theorem walk_mk {l : PySem.W.OpenLaw} {w : World} {K : PySem.W.Frag} {h : Heap} {mg : Str → Option Value} {fa : Addr} (X : K.In h) (G : h.Ns mainGlobals mg) (hfa : mg "law" = some (.ref fa))
    (f0 : HasFn K "_law_cell" s_law_cell)
    (f1 : HasFn K "_law_digits" s_law_digits)
    (f2 : HasFn K "_law_draw" s_law_draw)
    (f3 : HasFn K "_law_key" s_law_key)
    (f4 : HasFn K "_law_value" s_law_value)
    (f5 : HasFn K "_law_plain" s_law_plain)
    (f6 : HasFn K "_law_place" s_law_place)
    (f7 : HasFn K "_law_put" s_law_put)
    (f8 : HasFn K "_law_shown" s_law_shown)
    (f9 : HasFn K "_law_due" s_law_due)
    (f10 : HasFn K "sort_of" s_sort_of)
    (f11 : HasFn K "kind_name" s_kind_name)
    (f12 : HasFn K "cannot_take" s_cannot_take)
    (f13 : HasFn K "kind_refusal" s_kind_refusal)
    (f14 : HasFn K "object_kind" s_object_kind)
    (f15 : HasFn K "_word" s_word)
    (f16 : HasFn K "key_text" s_key_text)
    (f17 : HasFn K "is_number" s_is_number)
    (f18 : HasFn K "same_leaf" s_same_leaf)
    (f19 : HasFn K "find_key" s_find_key)
    (f20 : HasFn K "key_place" s_key_place)
    {A_get : Addr} (f21 : HasFnB K "_get" "_get" s_get A_get)
    (f22 : HasFn K "_in_quotes" s_in_quotes)
    (f23 : HasFn K "_function_name" s_function_name)
    (f24 : HasFn K "_object_text" s_object_text)
    (f25 : HasFn K "_leaf" s_leaf)
    (f26 : HasFn K "_jobs" s_jobs)
    (f27 : HasFn K "show" s_show)
    (f28 : HasFn K "missing_key" s_missing_key)
    {A_pop_entries : Addr} (f29 : HasFnB K "pop_entries" "_pop" s_pop_entries A_pop_entries)
    (f30 : HasFn K "with_entry" s_with_entry)
    (f31 : HasFn K "_put_entry" s_put_entry)
    (f32 : HasFn K "put_item" s_put_item)
    (f33 : HasFn K "entry_place" s_entry_place)
    (f34 : HasFn K "item" s_item)
    {A_setdefault : Addr} (f35 : HasFnB K "_setdefault" "_setdefault" s_setdefault A_setdefault)
    {A_update : Addr} (f36 : HasFnB K "_update" "_update" s_update A_update)
    (f37 : HasFn K "made_row" s_made_row)
    {A_keys : Addr} (f38 : HasFnB K "_keys" "_keys" s_keys A_keys)
    {A_values : Addr} (f39 : HasFnB K "_values" "_values" s_values A_values)
    {A_items : Addr} (f40 : HasFnB K "_items" "_items" s_items A_items)
    {A_copy_entries : Addr} (f41 : HasFnB K "copy_entries" "_copy" s_copy_entries A_copy_entries)
    {A_clear_entries : Addr} (f42 : HasFnB K "clear_entries" "_clear" s_clear_entries A_clear_entries)
    (f43 : HasFn K "dict_outcome" s_dict_outcome)
    (f44 : HasFn K "plain_built" s_plain_built)
    (f45 : HasFn K "_law_same" s_law_same)
    (f46 : HasFn K "_law_lists" s_law_lists)
    (f47 : HasFn K "law" s_law)
    (c0 : HasInt K "MOST_ENTRIES" 1000)
    (c1 : HasInt K "TYPE_ERROR" 10)
    (c2 : HasInt K "KEY_ERROR" 7)
    (c3 : HasTup K "TOO_LARGE" [V.str "raise", V.int 15, V.str "too large"])
    (c4 : HasDat K "DONE" (.tuple [.str "ok", .tuple [.str "none"]]))
    (b_len : PySem.W.nsIn K mainGlobals "len" = some none)
    (b_int : PySem.W.nsIn K mainGlobals "int" = some none)
    (b_range : PySem.W.nsIn K mainGlobals "range" = some none)
    (b_list : PySem.W.nsIn K mainGlobals "list" = some none)
    (b_tuple : PySem.W.nsIn K mainGlobals "tuple" = some none)
    (b_str : PySem.W.nsIn K mainGlobals "str" = some none)
    (b_repr : PySem.W.nsIn K mainGlobals "repr" = some none)
    (b_reversed : PySem.W.nsIn K mainGlobals "reversed" = some none)
    (b_enumerate : PySem.W.nsIn K mainGlobals "enumerate" = some none)
    (b_zip : PySem.W.nsIn K mainGlobals "zip" = some none)
    (d_SIGNATURES : HasDatD l.prog w K "SIGNATURES" dat_SIGNATURES)
    (d_VALUE_KINDS : HasDct l.prog w K "VALUE_KINDS" (txtKV vks))
    (d_OBJECT_KINDS : HasDct l.prog w K "OBJECT_KINDS" (txtKV oks))
    (d_METHODS_entries : HasDct l.prog w K "METHODS_entries" (fnKV [("dict.get", A_get), ("dict.pop", A_pop_entries), ("dict.setdefault", A_setdefault), ("dict.update", A_update), ("dict.keys", A_keys), ("dict.values", A_values), ("dict.items", A_items), ("dict.copy", A_copy_entries), ("dict.clear", A_clear_entries)]))
    (d_BRACKETS : HasTupD l.prog w K "BRACKETS" brL) :
    ∃ fd : FuncData, (∀ (s : Shared) (v : Value), BindsTo s fd ⟨[v], []⟩ [("script", v)]) ∧ ∀ base : Heap, K.In base → base.Ns mainGlobals mg → FnG l.prog w K mg base CX0 13 fa fd ["script"] (spLaw K) := by
  have T : Txt K mg := ⟨c0.g X G, c1.g X G, c2.g X G, c3.g X G, c4.g X G, PySem.W.mg_none_of X G b_len, PySem.W.mg_none_of X G b_int, PySem.W.mg_none_of X G b_range, PySem.W.mg_none_of X G b_list, PySem.W.mg_none_of X G b_tuple, PySem.W.mg_none_of X G b_str, PySem.W.mg_none_of X G b_repr, PySem.W.mg_none_of X G b_reversed, PySem.W.mg_none_of X G b_enumerate, PySem.W.mg_none_of X G b_zip⟩
  refine law_use f47 X G hfa (fun _ _ _ _ _ _ _ => rfl) fun base X' G' fd F => ?_
  have U_SIGNATURES := d_SIGNATURES.g X G
  have U_VALUE_KINDS : UseD l.prog w K mg "VALUE_KINDS" _ := d_VALUE_KINDS.g X G
  have U_OBJECT_KINDS : UseD l.prog w K mg "OBJECT_KINDS" _ := d_OBJECT_KINDS.g X G
  have U_METHODS_entries : UseD l.prog w K mg "METHODS_entries" _ := d_METHODS_entries.g X G
  have U_BRACKETS : UseT l.prog w K mg "BRACKETS" _ := d_BRACKETS.g X G
  have U_law_cell := mk_use (P := l.prog) (w := w) (mg := mg) (base := base) f0 X G (fun _ _ _ _ _ _ us hl => match us, hl with | [_, _], _ => rfl) fun f fd F => ok_cell F T
  have U_law_digits := mk_use (P := l.prog) (w := w) (mg := mg) (base := base) f1 X G (fun _ _ _ _ _ _ us hl => match us, hl with | [_, _, _], _ => rfl) fun f fd F => ok_digits F T (Use.up U_law_cell (by omega))
  have U_law_draw := mk_use (P := l.prog) (w := w) (mg := mg) (base := base) f2 X G (fun _ _ _ _ _ _ us hl => match us, hl with | [_, _], _ => rfl) fun f fd F => ok_draw F T
  have U_law_key := mk_use (P := l.prog) (w := w) (mg := mg) (base := base) f3 X G (fun _ _ _ _ _ _ us hl => match us, hl with | [_], _ => rfl) fun f fd F => ok_lkey F T (Use.up U_law_draw (by omega))
  have U_law_value := mk_use (P := l.prog) (w := w) (mg := mg) (base := base) f4 X G (fun _ _ _ _ _ _ us hl => match us, hl with | [_], _ => rfl) fun f fd F => ok_lval F T (Use.up U_law_draw (by omega))
  have U_law_plain := mk_use (P := l.prog) (w := w) (mg := mg) (base := base) f5 X G (fun _ _ _ _ _ _ us hl => match us, hl with | [_], _ => rfl) fun f fd F => ok_lplainK F T
  have U_law_place := mk_use (P := l.prog) (w := w) (mg := mg) (base := base) f6 X G (fun _ _ _ _ _ _ us hl => match us, hl with | [_, _], _ => rfl) fun f fd F => ok_lplace F T (Use.up U_law_plain (by omega))
  have U_law_put := mk_use (P := l.prog) (w := w) (mg := mg) (base := base) f7 X G (fun _ _ _ _ _ _ us hl => match us, hl with | [_, _, _], _ => rfl) fun f fd F => ok_lput F T (Use.up U_law_place (by omega))
  have U_law_shown := mk_use (P := l.prog) (w := w) (mg := mg) (base := base) f8 X G (fun _ _ _ _ _ _ us hl => match us, hl with | [_], _ => rfl) fun f fd F => ok_lshown F T
  have U_law_due := mk_use (P := l.prog) (w := w) (mg := mg) (base := base) f9 X G (fun _ _ _ _ _ _ us hl => match us, hl with | [_, _, _], _ => rfl) fun f fd F => ok_ldue F T (Use.up U_law_place (by omega)) (Use.up U_law_shown (by omega))
  have U_sort_of := mk_use (P := l.prog) (w := w) (mg := mg) (base := base) f10 X G (fun _ _ _ _ _ _ us hl => match us, hl with | [_, _], _ => rfl) fun f fd F => ok_sortof F T
  have U_kind_name := mk_use (P := l.prog) (w := w) (mg := mg) (base := base) f11 X G (fun _ _ _ _ _ _ us hl => match us, hl with | [_, _], _ => rfl) fun f fd F => ok_kname F T U_VALUE_KINDS U_OBJECT_KINDS
  have U_cannot_take := mk_use (P := l.prog) (w := w) (mg := mg) (base := base) f12 X G (fun _ _ _ _ _ _ us hl => match us, hl with | [_, _, _], _ => rfl) fun f fd F => ok_cannot F T (Use.up U_kind_name (by omega))
  have U_kind_refusal := mk_use (P := l.prog) (w := w) (mg := mg) (base := base) f13 X G (fun _ _ _ _ _ _ us hl => match us, hl with | [_, _, _], _ => rfl) fun f fd F => ok_kref F T U_SIGNATURES (Use.up U_sort_of (by omega)) (Use.up U_cannot_take (by omega))
  have U_object_kind := mk_use (P := l.prog) (w := w) (mg := mg) (base := base) f14 X G (fun _ _ _ _ _ _ us hl => match us, hl with | [_, _], _ => rfl) fun f fd F => ok_kind F T
  have U_word := mk_use (P := l.prog) (w := w) (mg := mg) (base := base) f15 X G (fun _ _ _ _ _ _ us hl => match us, hl with | [_, _], _ => rfl) fun f fd F => ok_word F T (Use.up U_object_kind (by omega))
  have U_key_text := mk_use (P := l.prog) (w := w) (mg := mg) (base := base) f16 X G (fun _ _ _ _ _ _ us hl => match us, hl with | [_, _], _ => rfl) fun f fd F => ok_keytext F T (Use.up U_word (by omega)) (Use.up U_kind_name (by omega))
  have U_is_number := mk_use (P := l.prog) (w := w) (mg := mg) (base := base) f17 X G (fun _ _ _ _ _ _ us hl => match us, hl with | [_], _ => rfl) fun f fd F => ok_isnumV F T
  have U_same_leaf := mk_use (P := l.prog) (w := w) (mg := mg) (base := base) f18 X G (fun _ _ _ _ _ _ us hl => match us, hl with | [_, _], _ => rfl) fun f fd F => ok_sameleaf F T (Use.up U_is_number (by omega))
  have U_find_key := mk_use (P := l.prog) (w := w) (mg := mg) (base := base) f19 X G (fun _ _ _ _ _ _ us hl => match us, hl with | [_, _, _], _ => rfl) fun f fd F => ok_findkey F T (Use.up U_key_text (by omega)) (Use.up U_same_leaf (by omega))
  have U_key_place := mk_use (P := l.prog) (w := w) (mg := mg) (base := base) f20 X G (fun _ _ _ _ _ _ us hl => match us, hl with | [_, _, _], _ => rfl) fun f fd F => ok_keyplace F T (Use.up U_key_text (by omega)) (Use.up U_find_key (by omega))
  have UA_get := mk_useB' (P := l.prog) (w := w) (mg := mg) (base := base) f21 X G (fun _ _ _ _ _ _ us hl => match us, hl with | [_, _, _], _ => rfl) fun f fd F => ok_getM F T (Use.up U_key_place (by omega))
  have U_get := UA_get.use
  have U_in_quotes := mk_use (P := l.prog) (w := w) (mg := mg) (base := base) f22 X G (fun _ _ _ _ _ _ us hl => match us, hl with | [_], _ => rfl) fun f fd F => ok_quotes F T
  have U_function_name := mk_use (P := l.prog) (w := w) (mg := mg) (base := base) f23 X G (fun _ _ _ _ _ _ us hl => match us, hl with | [_, _], _ => rfl) fun f fd F => ok_fname F T (Use.up U_object_kind (by omega)) (Use.up U_kind_name (by omega))
  have U_object_text := mk_use (P := l.prog) (w := w) (mg := mg) (base := base) f24 X G (fun _ _ _ _ _ _ us hl => match us, hl with | [_, _], _ => rfl) fun f fd F => ok_obtext F T (Use.up U_function_name (by omega))
  have U_leaf := mk_use (P := l.prog) (w := w) (mg := mg) (base := base) f25 X G (fun _ _ _ _ _ _ us hl => match us, hl with | [_, _], _ => rfl) fun f fd F => ok_leaf F T (Use.up U_in_quotes (by omega)) (Use.up U_object_text (by omega)) (Use.up U_kind_name (by omega))
  have U_jobs := mk_use (P := l.prog) (w := w) (mg := mg) (base := base) f26 X G (fun _ _ _ _ _ _ us hl => match us, hl with | [_, _], _ => rfl) fun f fd F => ok_jobs F T
  have U_show := mk_use (P := l.prog) (w := w) (mg := mg) (base := base) f27 X G (fun _ _ _ _ _ _ us hl => match us, hl with | [_, _], _ => rfl) fun f fd F => ok_show F T (Use.up U_object_kind (by omega)) (Use.up U_leaf (by omega)) (Use.up U_jobs (by omega)) U_BRACKETS
  have U_missing_key := mk_use (P := l.prog) (w := w) (mg := mg) (base := base) f28 X G (fun _ _ _ _ _ _ us hl => match us, hl with | [_, _], _ => rfl) fun f fd F => ok_missing F T (Use.up U_show (by omega))
  have UA_pop_entries := mk_useB' (P := l.prog) (w := w) (mg := mg) (base := base) f29 X G (fun _ _ _ _ _ _ us hl => match us, hl with | [_, _, _], _ => rfl) fun f fd F => ok_popM F T (Use.up U_key_place (by omega)) (Use.up U_missing_key (by omega))
  have U_pop_entries := UA_pop_entries.use
  have U_with_entry := mk_use (P := l.prog) (w := w) (mg := mg) (base := base) f30 X G (fun _ _ _ _ _ _ us hl => match us, hl with | [_, _, _, _], _ => rfl) fun f fd F => ok_withentry F T (Use.up U_key_place (by omega))
  have U_put_entry := mk_use (P := l.prog) (w := w) (mg := mg) (base := base) f31 X G (fun _ _ _ _ _ _ us hl => match us, hl with | [_, _, _, _], _ => rfl) fun f fd F => ok_putentry F T (Use.up U_with_entry (by omega))
  have U_put_item := mk_use (P := l.prog) (w := w) (mg := mg) (base := base) f32 X G (fun _ _ _ _ _ _ us hl => match us, hl with | [_, _, _, _], _ => rfl) fun f fd F => ok_putitem F T (Use.up U_object_kind (by omega)) (Use.up U_put_entry (by omega))
  have U_entry_place := mk_use (P := l.prog) (w := w) (mg := mg) (base := base) f33 X G (fun _ _ _ _ _ _ us hl => match us, hl with | [_, _, _], _ => rfl) fun f fd F => ok_entryplace F T (Use.up U_key_place (by omega)) (Use.up U_missing_key (by omega))
  have U_item := mk_use (P := l.prog) (w := w) (mg := mg) (base := base) f34 X G (fun _ _ _ _ _ _ us hl => match us, hl with | [_, _, _], _ => rfl) fun f fd F => ok_itemD F T (Use.up U_object_kind (by omega)) (Use.up U_entry_place (by omega))
  have UA_setdefault := mk_useB' (P := l.prog) (w := w) (mg := mg) (base := base) f35 X G (fun _ _ _ _ _ _ us hl => match us, hl with | [_, _, _], _ => rfl) fun f fd F => ok_setdM F T (Use.up U_key_place (by omega)) (Use.up U_put_item (by omega)) (Use.up U_item (by omega))
  have U_setdefault := UA_setdefault.use
  have UA_update := mk_useB' (P := l.prog) (w := w) (mg := mg) (base := base) f36 X G (fun _ _ _ _ _ _ us hl => match us, hl with | [_, _, _], _ => rfl) fun f fd F => ok_updM F T (Use.up U_key_text (by omega))
  have U_update := UA_update.use
  have U_made_row := mk_use (P := l.prog) (w := w) (mg := mg) (base := base) f37 X G (fun _ _ _ _ _ _ us hl => match us, hl with | [_, _, _], _ => rfl) fun f fd F => ok_made F T
  have UA_keys := mk_useB' (P := l.prog) (w := w) (mg := mg) (base := base) f38 X G (fun _ _ _ _ _ _ us hl => match us, hl with | [_, _, _], _ => rfl) fun f fd F => ok_keysM F T (Use.up U_made_row (by omega))
  have U_keys := UA_keys.use
  have UA_values := mk_useB' (P := l.prog) (w := w) (mg := mg) (base := base) f39 X G (fun _ _ _ _ _ _ us hl => match us, hl with | [_, _, _], _ => rfl) fun f fd F => ok_valuesM F T (Use.up U_made_row (by omega))
  have U_values := UA_values.use
  have UA_items := mk_useB' (P := l.prog) (w := w) (mg := mg) (base := base) f40 X G (fun _ _ _ _ _ _ us hl => match us, hl with | [_, _, _], _ => rfl) fun f fd F => ok_itemsM F T (Use.up U_made_row (by omega))
  have U_items := UA_items.use
  have UA_copy_entries := mk_useB' (P := l.prog) (w := w) (mg := mg) (base := base) f41 X G (fun _ _ _ _ _ _ us hl => match us, hl with | [_, _, _], _ => rfl) fun f fd F => ok_copyM F T (Use.up U_made_row (by omega))
  have U_copy_entries := UA_copy_entries.use
  have UA_clear_entries := mk_useB' (P := l.prog) (w := w) (mg := mg) (base := base) f42 X G (fun _ _ _ _ _ _ us hl => match us, hl with | [_, _, _], _ => rfl) fun f fd F => ok_clearM F T
  have U_clear_entries := UA_clear_entries.use
  have U_dict_outcome := mk_use (P := l.prog) (w := w) (mg := mg) (base := base) f43 X G (fun _ _ _ _ _ _ us hl => match us, hl with | [_, _, _], _ => rfl) fun f fd F => ok_dictout F T (LK.DefAt.mk' U_METHODS_entries UA_get (by rfl) (by omega)) (LK.DefAt.mk' U_METHODS_entries UA_pop_entries (by rfl) (by omega)) (LK.DefAt.mk' U_METHODS_entries UA_setdefault (by rfl) (by omega)) (LK.DefAt.mk' U_METHODS_entries UA_update (by rfl) (by omega)) (LK.DefAt.mk' U_METHODS_entries UA_keys (by rfl) (by omega)) (LK.DefAt.mk' U_METHODS_entries UA_values (by rfl) (by omega)) (LK.DefAt.mk' U_METHODS_entries UA_items (by rfl) (by omega)) (LK.DefAt.mk' U_METHODS_entries UA_copy_entries (by rfl) (by omega)) (LK.DefAt.mk' U_METHODS_entries UA_clear_entries (by rfl) (by omega))
  have U_plain_built := mk_use (P := l.prog) (w := w) (mg := mg) (base := base) f44 X G (fun _ _ _ _ _ _ us hl => match us, hl with | [_, _, _], _ => rfl) fun f fd F => ok_plainD F T (Use.up U_kind_refusal (by omega)) (Use.up U_dict_outcome (by omega))
  have U_law_same := mk_use (P := l.prog) (w := w) (mg := mg) (base := base) f45 X G (fun _ _ _ _ _ _ us hl => match us, hl with | [_, _], _ => rfl) fun f fd F => ok_same F T
  have U_law_lists := mk_use (P := l.prog) (w := w) (mg := mg) (base := base) f46 X G (fun _ _ _ _ _ _ us hl => match us, hl with | [_, _, _], _ => rfl) fun f fd F => ok_llists F T (Use.up U_plain_built (by omega)) (Use.up U_law_same (by omega))
  exact ok_law F T (Use.up U_law_digits (by omega)) (Use.up U_law_draw (by omega)) (Use.up U_law_key (by omega)) (Use.up U_law_value (by omega)) (Use.up U_law_put (by omega)) (Use.up U_law_due (by omega)) (Use.up U_law_lists (by omega)) (Use.up U_law_same (by omega)) (Use.up U_plain_built (by omega))
end K47
open PySem PySem.W PyProof.Rows
set_option maxRecDepth 100000 in
set_option maxHeartbeats 0 in
theorem PySem.Challenge.cw_pyhold_k47_built_in_dicts_holds : PySem.Challenge.rw_pyhold_k47_built_in_dicts.Holds := by
  w_on; o_law; k_head; (case hw => w_witness2)
  k_fill
  refine LK.walkG (l := PySem.Challenge.rw_pyhold_k47_built_in_dicts) (n := 63) (k := 13) (x := "script") (CX := L2.CX0) (sp := K47.spLaw) rfl (by decide) rfl ⟨rfl, by decide, by decide⟩ (fun w h Y => PySem.W.kIn_of Y) ?F (fun K H a ns hl _ hS => ⟨a, ns, rfl, hS, hl, fun _ => rfl⟩) (fun _ _ _ _ z => z)
  case F =>
    intro w mg fa h KX G hmg
    refine' K47.walk_mk KX G hmg ?f0 ?f1 ?f2 ?f3 ?f4 ?f5 ?f6 ?f7 ?f8 ?f9 ?f10 ?f11 ?f12 ?f13 ?f14 ?f15 ?f16 ?f17 ?f18 ?f19 ?f20 ?f21 ?f22 ?f23 ?f24 ?f25 ?f26 ?f27 ?f28 ?f29 ?f30 ?f31 ?f32 ?f33 ?f34 ?f35 ?f36 ?f37 ?f38 ?f39 ?f40 ?f41 ?f42 ?f43 ?f44 ?f45 ?f46 ?f47 ?c0 ?c1 ?c2 ?c3 ?c4 ?b_len ?b_int ?b_range ?b_list ?b_tuple ?b_str ?b_repr ?b_reversed ?b_enumerate ?b_zip ?d_SIGNATURES ?d_VALUE_KINDS ?d_OBJECT_KINDS ?d_METHODS_entries ?d_BRACKETS
    case f0 => refine' LK.HasFn.mk' ?a ?b ?c ?d; (case a => k_is); (case b => k_is); (case c => k_is); (case d => k_is)
    case f1 => refine' LK.HasFn.mk' ?a ?b ?c ?d; (case a => k_is); (case b => k_is); (case c => k_is); (case d => k_is)
    case f2 => refine' LK.HasFn.mk' ?a ?b ?c ?d; (case a => k_is); (case b => k_is); (case c => k_is); (case d => k_is)
    case f3 => refine' LK.HasFn.mk' ?a ?b ?c ?d; (case a => k_is); (case b => k_is); (case c => k_is); (case d => k_is)
    case f4 => refine' LK.HasFn.mk' ?a ?b ?c ?d; (case a => k_is); (case b => k_is); (case c => k_is); (case d => k_is)
    case f5 => refine' LK.HasFn.mk' ?a ?b ?c ?d; (case a => k_is); (case b => k_is); (case c => k_is); (case d => k_is)
    case f6 => refine' LK.HasFn.mk' ?a ?b ?c ?d; (case a => k_is); (case b => k_is); (case c => k_is); (case d => k_is)
    case f7 => refine' LK.HasFn.mk' ?a ?b ?c ?d; (case a => k_is); (case b => k_is); (case c => k_is); (case d => k_is)
    case f8 => refine' LK.HasFn.mk' ?a ?b ?c ?d; (case a => k_is); (case b => k_is); (case c => k_is); (case d => k_is)
    case f9 => refine' LK.HasFn.mk' ?a ?b ?c ?d; (case a => k_is); (case b => k_is); (case c => k_is); (case d => k_is)
    case f10 => refine' LK.HasFn.mk' ?a ?b ?c ?d; (case a => k_is); (case b => k_is); (case c => k_is); (case d => k_is)
    case f11 => refine' LK.HasFn.mk' ?a ?b ?c ?d; (case a => k_is); (case b => k_is); (case c => k_is); (case d => k_is)
    case f12 => refine' LK.HasFn.mk' ?a ?b ?c ?d; (case a => k_is); (case b => k_is); (case c => k_is); (case d => k_is)
    case f13 => refine' LK.HasFn.mk' ?a ?b ?c ?d; (case a => k_is); (case b => k_is); (case c => k_is); (case d => k_is)
    case f14 => refine' LK.HasFn.mk' ?a ?b ?c ?d; (case a => k_is); (case b => k_is); (case c => k_is); (case d => k_is)
    case f15 => refine' LK.HasFn.mk' ?a ?b ?c ?d; (case a => k_is); (case b => k_is); (case c => k_is); (case d => k_is)
    case f16 => refine' LK.HasFn.mk' ?a ?b ?c ?d; (case a => k_is); (case b => k_is); (case c => k_is); (case d => k_is)
    case f17 => refine' LK.HasFn.mk' ?a ?b ?c ?d; (case a => k_is); (case b => k_is); (case c => k_is); (case d => k_is)
    case f18 => refine' LK.HasFn.mk' ?a ?b ?c ?d; (case a => k_is); (case b => k_is); (case c => k_is); (case d => k_is)
    case f19 => refine' LK.HasFn.mk' ?a ?b ?c ?d; (case a => k_is); (case b => k_is); (case c => k_is); (case d => k_is)
    case f20 => refine' LK.HasFn.mk' ?a ?b ?c ?d; (case a => k_is); (case b => k_is); (case c => k_is); (case d => k_is)
    case f21 => refine' LK.HasFnB.mk' ?a ?b ?c ?d; (case a => k_is); (case b => k_is); (case c => k_is); (case d => k_is)
    case f22 => refine' LK.HasFn.mk' ?a ?b ?c ?d; (case a => k_is); (case b => k_is); (case c => k_is); (case d => k_is)
    case f23 => refine' LK.HasFn.mk' ?a ?b ?c ?d; (case a => k_is); (case b => k_is); (case c => k_is); (case d => k_is)
    case f24 => refine' LK.HasFn.mk' ?a ?b ?c ?d; (case a => k_is); (case b => k_is); (case c => k_is); (case d => k_is)
    case f25 => refine' LK.HasFn.mk' ?a ?b ?c ?d; (case a => k_is); (case b => k_is); (case c => k_is); (case d => k_is)
    case f26 => refine' LK.HasFn.mk' ?a ?b ?c ?d; (case a => k_is); (case b => k_is); (case c => k_is); (case d => k_is)
    case f27 => refine' LK.HasFn.mk' ?a ?b ?c ?d; (case a => k_is); (case b => k_is); (case c => k_is); (case d => k_is)
    case f28 => refine' LK.HasFn.mk' ?a ?b ?c ?d; (case a => k_is); (case b => k_is); (case c => k_is); (case d => k_is)
    case f29 => refine' LK.HasFnB.mk' ?a ?b ?c ?d; (case a => k_is); (case b => k_is); (case c => k_is); (case d => k_is)
    case f30 => refine' LK.HasFn.mk' ?a ?b ?c ?d; (case a => k_is); (case b => k_is); (case c => k_is); (case d => k_is)
    case f31 => refine' LK.HasFn.mk' ?a ?b ?c ?d; (case a => k_is); (case b => k_is); (case c => k_is); (case d => k_is)
    case f32 => refine' LK.HasFn.mk' ?a ?b ?c ?d; (case a => k_is); (case b => k_is); (case c => k_is); (case d => k_is)
    case f33 => refine' LK.HasFn.mk' ?a ?b ?c ?d; (case a => k_is); (case b => k_is); (case c => k_is); (case d => k_is)
    case f34 => refine' LK.HasFn.mk' ?a ?b ?c ?d; (case a => k_is); (case b => k_is); (case c => k_is); (case d => k_is)
    case f35 => refine' LK.HasFnB.mk' ?a ?b ?c ?d; (case a => k_is); (case b => k_is); (case c => k_is); (case d => k_is)
    case f36 => refine' LK.HasFnB.mk' ?a ?b ?c ?d; (case a => k_is); (case b => k_is); (case c => k_is); (case d => k_is)
    case f37 => refine' LK.HasFn.mk' ?a ?b ?c ?d; (case a => k_is); (case b => k_is); (case c => k_is); (case d => k_is)
    case f38 => refine' LK.HasFnB.mk' ?a ?b ?c ?d; (case a => k_is); (case b => k_is); (case c => k_is); (case d => k_is)
    case f39 => refine' LK.HasFnB.mk' ?a ?b ?c ?d; (case a => k_is); (case b => k_is); (case c => k_is); (case d => k_is)
    case f40 => refine' LK.HasFnB.mk' ?a ?b ?c ?d; (case a => k_is); (case b => k_is); (case c => k_is); (case d => k_is)
    case f41 => refine' LK.HasFnB.mk' ?a ?b ?c ?d; (case a => k_is); (case b => k_is); (case c => k_is); (case d => k_is)
    case f42 => refine' LK.HasFnB.mk' ?a ?b ?c ?d; (case a => k_is); (case b => k_is); (case c => k_is); (case d => k_is)
    case f43 => refine' LK.HasFn.mk' ?a ?b ?c ?d; (case a => k_is); (case b => k_is); (case c => k_is); (case d => k_is)
    case f44 => refine' LK.HasFn.mk' ?a ?b ?c ?d; (case a => k_is); (case b => k_is); (case c => k_is); (case d => k_is)
    case f45 => refine' LK.HasFn.mk' ?a ?b ?c ?d; (case a => k_is); (case b => k_is); (case c => k_is); (case d => k_is)
    case f46 => refine' LK.HasFn.mk' ?a ?b ?c ?d; (case a => k_is); (case b => k_is); (case c => k_is); (case d => k_is)
    case f47 => refine' LK.HasFn.mk' ?a ?b ?c ?d; (case a => k_is); (case b => k_is); (case c => k_is); (case d => k_is)
    case c0 => refine' LK.HasInt.mk' ?a ?b; (case a => k_is); (case b => decide +kernel)
    case c1 => refine' LK.HasInt.mk' ?a ?b; (case a => k_is); (case b => decide +kernel)
    case c2 => refine' LK.HasInt.mk' ?a ?b; (case a => k_is); (case b => decide +kernel)
    case c3 => refine' LK.HasTup.mk' ?a ?b ?c ?d; (case a => k_is); (case b => k_is); (case c => decide); (case d => repeat (first | exact .nil | refine .cons ⟨_, rfl⟩ ?_))
    case c4 => refine' LK.HasDat.mk2 ?a ?b ?c ?d ?e ?f ?g; (case a => k_is); (case b => k_is); (case c => decide); (case d => exact .cons ⟨_, rfl⟩ (.cons rfl .nil)); (case e => k_is); (case f => decide); (case g => exact .cons ⟨_, rfl⟩ .nil)
    case b_len => k_is
    case b_int => k_is
    case b_range => k_is
    case b_list => k_is
    case b_tuple => k_is
    case b_str => k_is
    case b_repr => k_is
    case b_reversed => k_is
    case b_enumerate => k_is
    case b_zip => k_is
    case d_SIGNATURES => refine' LK.HasDatD.mk' ?a ?b ?c ?d ?e; (case a => k_is); (case b => k_is); (case c => rfl); (case d => refine' LK.VEnt.cons rfl rfl rfl ?v290 ?r290; (case v290 => refine' LK.KDt.tup ?a295 ?b295 ?c295; (case a295 => k_is); (case b295 => decide); (case c295 => refine' LK.KDtAll.cons ?x294 ?y294; (case x294 => exact LK.KDt.int _ _); (case y294 => refine' LK.KDtAll.cons ?x293 ?y293; (case x293 => exact LK.KDt.int _ _); (case y293 => refine' LK.KDtAll.cons ?x291 ?y291; (case x291 => refine' LK.KDt.tup ?a292 ?b292 ?c292; (case a292 => k_is); (case b292 => decide); (case c292 => exact LK.KDtAll.nil)); (case y291 => exact LK.KDtAll.nil))))); (case r290 => refine' LK.VEnt.cons rfl rfl rfl ?v284 ?r284; (case v284 => refine' LK.KDt.tup ?a289 ?b289 ?c289; (case a289 => k_is); (case b289 => decide); (case c289 => refine' LK.KDtAll.cons ?x288 ?y288; (case x288 => exact LK.KDt.int _ _); (case y288 => refine' LK.KDtAll.cons ?x287 ?y287; (case x287 => exact LK.KDt.int _ _); (case y287 => refine' LK.KDtAll.cons ?x285 ?y285; (case x285 => refine' LK.KDt.tup ?a286 ?b286 ?c286; (case a286 => k_is); (case b286 => decide); (case c286 => exact LK.KDtAll.nil)); (case y285 => exact LK.KDtAll.nil))))); (case r284 => refine' LK.VEnt.cons rfl rfl rfl ?v276 ?r276; (case v276 => refine' LK.KDt.tup ?a283 ?b283 ?c283; (case a283 => k_is); (case b283 => decide); (case c283 => refine' LK.KDtAll.cons ?x282 ?y282; (case x282 => exact LK.KDt.int _ _); (case y282 => refine' LK.KDtAll.cons ?x281 ?y281; (case x281 => exact LK.KDt.int _ _); (case y281 => refine' LK.KDtAll.cons ?x277 ?y277; (case x277 => refine' LK.KDt.tup ?a280 ?b280 ?c280; (case a280 => k_is); (case b280 => decide); (case c280 => refine' LK.KDtAll.cons ?x279 ?y279; (case x279 => exact LK.KDt.str _ _); (case y279 => refine' LK.KDtAll.cons ?x278 ?y278; (case x278 => exact LK.KDt.str _ _); (case y278 => exact LK.KDtAll.nil)))); (case y277 => exact LK.KDtAll.nil))))); (case r276 => refine' LK.VEnt.cons rfl rfl rfl ?v270 ?r270; (case v270 => refine' LK.KDt.tup ?a275 ?b275 ?c275; (case a275 => k_is); (case b275 => decide); (case c275 => refine' LK.KDtAll.cons ?x274 ?y274; (case x274 => exact LK.KDt.int _ _); (case y274 => refine' LK.KDtAll.cons ?x273 ?y273; (case x273 => exact LK.KDt.int _ _); (case y273 => refine' LK.KDtAll.cons ?x271 ?y271; (case x271 => refine' LK.KDt.tup ?a272 ?b272 ?c272; (case a272 => k_is); (case b272 => decide); (case c272 => exact LK.KDtAll.nil)); (case y271 => exact LK.KDtAll.nil))))); (case r270 => refine' LK.VEnt.cons rfl rfl rfl ?v264 ?r264; (case v264 => refine' LK.KDt.tup ?a269 ?b269 ?c269; (case a269 => k_is); (case b269 => decide); (case c269 => refine' LK.KDtAll.cons ?x268 ?y268; (case x268 => exact LK.KDt.int _ _); (case y268 => refine' LK.KDtAll.cons ?x267 ?y267; (case x267 => exact LK.KDt.int _ _); (case y267 => refine' LK.KDtAll.cons ?x265 ?y265; (case x265 => refine' LK.KDt.tup ?a266 ?b266 ?c266; (case a266 => k_is); (case b266 => decide); (case c266 => exact LK.KDtAll.nil)); (case y265 => exact LK.KDtAll.nil))))); (case r264 => refine' LK.VEnt.cons rfl rfl rfl ?v257 ?r257; (case v257 => refine' LK.KDt.tup ?a263 ?b263 ?c263; (case a263 => k_is); (case b263 => decide); (case c263 => refine' LK.KDtAll.cons ?x262 ?y262; (case x262 => exact LK.KDt.int _ _); (case y262 => refine' LK.KDtAll.cons ?x261 ?y261; (case x261 => exact LK.KDt.int _ _); (case y261 => refine' LK.KDtAll.cons ?x258 ?y258; (case x258 => refine' LK.KDt.tup ?a260 ?b260 ?c260; (case a260 => k_is); (case b260 => decide); (case c260 => refine' LK.KDtAll.cons ?x259 ?y259; (case x259 => exact LK.KDt.str _ _); (case y259 => exact LK.KDtAll.nil))); (case y258 => exact LK.KDtAll.nil))))); (case r257 => refine' LK.VEnt.cons rfl rfl rfl ?v250 ?r250; (case v250 => refine' LK.KDt.tup ?a256 ?b256 ?c256; (case a256 => k_is); (case b256 => decide); (case c256 => refine' LK.KDtAll.cons ?x255 ?y255; (case x255 => exact LK.KDt.int _ _); (case y255 => refine' LK.KDtAll.cons ?x254 ?y254; (case x254 => exact LK.KDt.int _ _); (case y254 => refine' LK.KDtAll.cons ?x251 ?y251; (case x251 => refine' LK.KDt.tup ?a253 ?b253 ?c253; (case a253 => k_is); (case b253 => decide); (case c253 => refine' LK.KDtAll.cons ?x252 ?y252; (case x252 => exact LK.KDt.str _ _); (case y252 => exact LK.KDtAll.nil))); (case y251 => exact LK.KDtAll.nil))))); (case r250 => refine' LK.VEnt.cons rfl rfl rfl ?v243 ?r243; (case v243 => refine' LK.KDt.tup ?a249 ?b249 ?c249; (case a249 => k_is); (case b249 => decide); (case c249 => refine' LK.KDtAll.cons ?x248 ?y248; (case x248 => exact LK.KDt.int _ _); (case y248 => refine' LK.KDtAll.cons ?x247 ?y247; (case x247 => exact LK.KDt.int _ _); (case y247 => refine' LK.KDtAll.cons ?x244 ?y244; (case x244 => refine' LK.KDt.tup ?a246 ?b246 ?c246; (case a246 => k_is); (case b246 => decide); (case c246 => refine' LK.KDtAll.cons ?x245 ?y245; (case x245 => exact LK.KDt.str _ _); (case y245 => exact LK.KDtAll.nil))); (case y244 => exact LK.KDtAll.nil))))); (case r243 => refine' LK.VEnt.cons rfl rfl rfl ?v236 ?r236; (case v236 => refine' LK.KDt.tup ?a242 ?b242 ?c242; (case a242 => k_is); (case b242 => decide); (case c242 => refine' LK.KDtAll.cons ?x241 ?y241; (case x241 => exact LK.KDt.int _ _); (case y241 => refine' LK.KDtAll.cons ?x240 ?y240; (case x240 => exact LK.KDt.int _ _); (case y240 => refine' LK.KDtAll.cons ?x237 ?y237; (case x237 => refine' LK.KDt.tup ?a239 ?b239 ?c239; (case a239 => k_is); (case b239 => decide); (case c239 => refine' LK.KDtAll.cons ?x238 ?y238; (case x238 => exact LK.KDt.str _ _); (case y238 => exact LK.KDtAll.nil))); (case y237 => exact LK.KDtAll.nil))))); (case r236 => refine' LK.VEnt.cons rfl rfl rfl ?v230 ?r230; (case v230 => refine' LK.KDt.tup ?a235 ?b235 ?c235; (case a235 => k_is); (case b235 => decide); (case c235 => refine' LK.KDtAll.cons ?x234 ?y234; (case x234 => exact LK.KDt.int _ _); (case y234 => refine' LK.KDtAll.cons ?x233 ?y233; (case x233 => exact LK.KDt.int _ _); (case y233 => refine' LK.KDtAll.cons ?x231 ?y231; (case x231 => refine' LK.KDt.tup ?a232 ?b232 ?c232; (case a232 => k_is); (case b232 => decide); (case c232 => exact LK.KDtAll.nil)); (case y231 => exact LK.KDtAll.nil))))); (case r230 => refine' LK.VEnt.cons rfl rfl rfl ?v224 ?r224; (case v224 => refine' LK.KDt.tup ?a229 ?b229 ?c229; (case a229 => k_is); (case b229 => decide); (case c229 => refine' LK.KDtAll.cons ?x228 ?y228; (case x228 => exact LK.KDt.int _ _); (case y228 => refine' LK.KDtAll.cons ?x227 ?y227; (case x227 => exact LK.KDt.int _ _); (case y227 => refine' LK.KDtAll.cons ?x225 ?y225; (case x225 => refine' LK.KDt.tup ?a226 ?b226 ?c226; (case a226 => k_is); (case b226 => decide); (case c226 => exact LK.KDtAll.nil)); (case y225 => exact LK.KDtAll.nil))))); (case r224 => refine' LK.VEnt.cons rfl rfl rfl ?v216 ?r216; (case v216 => refine' LK.KDt.tup ?a223 ?b223 ?c223; (case a223 => k_is); (case b223 => decide); (case c223 => refine' LK.KDtAll.cons ?x222 ?y222; (case x222 => exact LK.KDt.int _ _); (case y222 => refine' LK.KDtAll.cons ?x221 ?y221; (case x221 => exact LK.KDt.int _ _); (case y221 => refine' LK.KDtAll.cons ?x217 ?y217; (case x217 => refine' LK.KDt.tup ?a220 ?b220 ?c220; (case a220 => k_is); (case b220 => decide); (case c220 => refine' LK.KDtAll.cons ?x219 ?y219; (case x219 => exact LK.KDt.str _ _); (case y219 => refine' LK.KDtAll.cons ?x218 ?y218; (case x218 => exact LK.KDt.str _ _); (case y218 => exact LK.KDtAll.nil)))); (case y217 => exact LK.KDtAll.nil))))); (case r216 => refine' LK.VEnt.cons rfl rfl rfl ?v209 ?r209; (case v209 => refine' LK.KDt.tup ?a215 ?b215 ?c215; (case a215 => k_is); (case b215 => decide); (case c215 => refine' LK.KDtAll.cons ?x214 ?y214; (case x214 => exact LK.KDt.int _ _); (case y214 => refine' LK.KDtAll.cons ?x213 ?y213; (case x213 => exact LK.KDt.int _ _); (case y213 => refine' LK.KDtAll.cons ?x210 ?y210; (case x210 => refine' LK.KDt.tup ?a212 ?b212 ?c212; (case a212 => k_is); (case b212 => decide); (case c212 => refine' LK.KDtAll.cons ?x211 ?y211; (case x211 => exact LK.KDt.str _ _); (case y211 => exact LK.KDtAll.nil))); (case y210 => exact LK.KDtAll.nil))))); (case r209 => refine' LK.VEnt.cons rfl rfl rfl ?v202 ?r202; (case v202 => refine' LK.KDt.tup ?a208 ?b208 ?c208; (case a208 => k_is); (case b208 => decide); (case c208 => refine' LK.KDtAll.cons ?x207 ?y207; (case x207 => exact LK.KDt.int _ _); (case y207 => refine' LK.KDtAll.cons ?x206 ?y206; (case x206 => exact LK.KDt.int _ _); (case y206 => refine' LK.KDtAll.cons ?x203 ?y203; (case x203 => refine' LK.KDt.tup ?a205 ?b205 ?c205; (case a205 => k_is); (case b205 => decide); (case c205 => refine' LK.KDtAll.cons ?x204 ?y204; (case x204 => exact LK.KDt.str _ _); (case y204 => exact LK.KDtAll.nil))); (case y203 => exact LK.KDtAll.nil))))); (case r202 => refine' LK.VEnt.cons rfl rfl rfl ?v194 ?r194; (case v194 => refine' LK.KDt.tup ?a201 ?b201 ?c201; (case a201 => k_is); (case b201 => decide); (case c201 => refine' LK.KDtAll.cons ?x200 ?y200; (case x200 => exact LK.KDt.int _ _); (case y200 => refine' LK.KDtAll.cons ?x199 ?y199; (case x199 => exact LK.KDt.int _ _); (case y199 => refine' LK.KDtAll.cons ?x195 ?y195; (case x195 => refine' LK.KDt.tup ?a198 ?b198 ?c198; (case a198 => k_is); (case b198 => decide); (case c198 => refine' LK.KDtAll.cons ?x197 ?y197; (case x197 => exact LK.KDt.str _ _); (case y197 => refine' LK.KDtAll.cons ?x196 ?y196; (case x196 => exact LK.KDt.str _ _); (case y196 => exact LK.KDtAll.nil)))); (case y195 => exact LK.KDtAll.nil))))); (case r194 => refine' LK.VEnt.cons rfl rfl rfl ?v187 ?r187; (case v187 => refine' LK.KDt.tup ?a193 ?b193 ?c193; (case a193 => k_is); (case b193 => decide); (case c193 => refine' LK.KDtAll.cons ?x192 ?y192; (case x192 => exact LK.KDt.int _ _); (case y192 => refine' LK.KDtAll.cons ?x191 ?y191; (case x191 => exact LK.KDt.int _ _); (case y191 => refine' LK.KDtAll.cons ?x188 ?y188; (case x188 => refine' LK.KDt.tup ?a190 ?b190 ?c190; (case a190 => k_is); (case b190 => decide); (case c190 => refine' LK.KDtAll.cons ?x189 ?y189; (case x189 => exact LK.KDt.str _ _); (case y189 => exact LK.KDtAll.nil))); (case y188 => exact LK.KDtAll.nil))))); (case r187 => refine' LK.VEnt.cons rfl rfl rfl ?v180 ?r180; (case v180 => refine' LK.KDt.tup ?a186 ?b186 ?c186; (case a186 => k_is); (case b186 => decide); (case c186 => refine' LK.KDtAll.cons ?x185 ?y185; (case x185 => exact LK.KDt.int _ _); (case y185 => refine' LK.KDtAll.cons ?x184 ?y184; (case x184 => exact LK.KDt.int _ _); (case y184 => refine' LK.KDtAll.cons ?x181 ?y181; (case x181 => refine' LK.KDt.tup ?a183 ?b183 ?c183; (case a183 => k_is); (case b183 => decide); (case c183 => refine' LK.KDtAll.cons ?x182 ?y182; (case x182 => exact LK.KDt.str _ _); (case y182 => exact LK.KDtAll.nil))); (case y181 => exact LK.KDtAll.nil))))); (case r180 => refine' LK.VEnt.cons rfl rfl rfl ?v173 ?r173; (case v173 => refine' LK.KDt.tup ?a179 ?b179 ?c179; (case a179 => k_is); (case b179 => decide); (case c179 => refine' LK.KDtAll.cons ?x178 ?y178; (case x178 => exact LK.KDt.int _ _); (case y178 => refine' LK.KDtAll.cons ?x177 ?y177; (case x177 => exact LK.KDt.int _ _); (case y177 => refine' LK.KDtAll.cons ?x174 ?y174; (case x174 => refine' LK.KDt.tup ?a176 ?b176 ?c176; (case a176 => k_is); (case b176 => decide); (case c176 => refine' LK.KDtAll.cons ?x175 ?y175; (case x175 => exact LK.KDt.str _ _); (case y175 => exact LK.KDtAll.nil))); (case y174 => exact LK.KDtAll.nil))))); (case r173 => refine' LK.VEnt.cons rfl rfl rfl ?v166 ?r166; (case v166 => refine' LK.KDt.tup ?a172 ?b172 ?c172; (case a172 => k_is); (case b172 => decide); (case c172 => refine' LK.KDtAll.cons ?x171 ?y171; (case x171 => exact LK.KDt.int _ _); (case y171 => refine' LK.KDtAll.cons ?x170 ?y170; (case x170 => exact LK.KDt.int _ _); (case y170 => refine' LK.KDtAll.cons ?x167 ?y167; (case x167 => refine' LK.KDt.tup ?a169 ?b169 ?c169; (case a169 => k_is); (case b169 => decide); (case c169 => refine' LK.KDtAll.cons ?x168 ?y168; (case x168 => exact LK.KDt.str _ _); (case y168 => exact LK.KDtAll.nil))); (case y167 => exact LK.KDtAll.nil))))); (case r166 => refine' LK.VEnt.cons rfl rfl rfl ?v160 ?r160; (case v160 => refine' LK.KDt.tup ?a165 ?b165 ?c165; (case a165 => k_is); (case b165 => decide); (case c165 => refine' LK.KDtAll.cons ?x164 ?y164; (case x164 => exact LK.KDt.int _ _); (case y164 => refine' LK.KDtAll.cons ?x163 ?y163; (case x163 => exact LK.KDt.int _ _); (case y163 => refine' LK.KDtAll.cons ?x161 ?y161; (case x161 => refine' LK.KDt.tup ?a162 ?b162 ?c162; (case a162 => k_is); (case b162 => decide); (case c162 => exact LK.KDtAll.nil)); (case y161 => exact LK.KDtAll.nil))))); (case r160 => refine' LK.VEnt.cons rfl rfl rfl ?v154 ?r154; (case v154 => refine' LK.KDt.tup ?a159 ?b159 ?c159; (case a159 => k_is); (case b159 => decide); (case c159 => refine' LK.KDtAll.cons ?x158 ?y158; (case x158 => exact LK.KDt.int _ _); (case y158 => refine' LK.KDtAll.cons ?x157 ?y157; (case x157 => exact LK.KDt.int _ _); (case y157 => refine' LK.KDtAll.cons ?x155 ?y155; (case x155 => refine' LK.KDt.tup ?a156 ?b156 ?c156; (case a156 => k_is); (case b156 => decide); (case c156 => exact LK.KDtAll.nil)); (case y155 => exact LK.KDtAll.nil))))); (case r154 => refine' LK.VEnt.cons rfl rfl rfl ?v148 ?r148; (case v148 => refine' LK.KDt.tup ?a153 ?b153 ?c153; (case a153 => k_is); (case b153 => decide); (case c153 => refine' LK.KDtAll.cons ?x152 ?y152; (case x152 => exact LK.KDt.int _ _); (case y152 => refine' LK.KDtAll.cons ?x151 ?y151; (case x151 => exact LK.KDt.int _ _); (case y151 => refine' LK.KDtAll.cons ?x149 ?y149; (case x149 => refine' LK.KDt.tup ?a150 ?b150 ?c150; (case a150 => k_is); (case b150 => decide); (case c150 => exact LK.KDtAll.nil)); (case y149 => exact LK.KDtAll.nil))))); (case r148 => refine' LK.VEnt.cons rfl rfl rfl ?v142 ?r142; (case v142 => refine' LK.KDt.tup ?a147 ?b147 ?c147; (case a147 => k_is); (case b147 => decide); (case c147 => refine' LK.KDtAll.cons ?x146 ?y146; (case x146 => exact LK.KDt.int _ _); (case y146 => refine' LK.KDtAll.cons ?x145 ?y145; (case x145 => exact LK.KDt.int _ _); (case y145 => refine' LK.KDtAll.cons ?x143 ?y143; (case x143 => refine' LK.KDt.tup ?a144 ?b144 ?c144; (case a144 => k_is); (case b144 => decide); (case c144 => exact LK.KDtAll.nil)); (case y143 => exact LK.KDtAll.nil))))); (case r142 => refine' LK.VEnt.cons rfl rfl rfl ?v136 ?r136; (case v136 => refine' LK.KDt.tup ?a141 ?b141 ?c141; (case a141 => k_is); (case b141 => decide); (case c141 => refine' LK.KDtAll.cons ?x140 ?y140; (case x140 => exact LK.KDt.int _ _); (case y140 => refine' LK.KDtAll.cons ?x139 ?y139; (case x139 => exact LK.KDt.int _ _); (case y139 => refine' LK.KDtAll.cons ?x137 ?y137; (case x137 => refine' LK.KDt.tup ?a138 ?b138 ?c138; (case a138 => k_is); (case b138 => decide); (case c138 => exact LK.KDtAll.nil)); (case y137 => exact LK.KDtAll.nil))))); (case r136 => refine' LK.VEnt.cons rfl rfl rfl ?v130 ?r130; (case v130 => refine' LK.KDt.tup ?a135 ?b135 ?c135; (case a135 => k_is); (case b135 => decide); (case c135 => refine' LK.KDtAll.cons ?x134 ?y134; (case x134 => exact LK.KDt.int _ _); (case y134 => refine' LK.KDtAll.cons ?x133 ?y133; (case x133 => exact LK.KDt.int _ _); (case y133 => refine' LK.KDtAll.cons ?x131 ?y131; (case x131 => refine' LK.KDt.tup ?a132 ?b132 ?c132; (case a132 => k_is); (case b132 => decide); (case c132 => exact LK.KDtAll.nil)); (case y131 => exact LK.KDtAll.nil))))); (case r130 => refine' LK.VEnt.cons rfl rfl rfl ?v123 ?r123; (case v123 => refine' LK.KDt.tup ?a129 ?b129 ?c129; (case a129 => k_is); (case b129 => decide); (case c129 => refine' LK.KDtAll.cons ?x128 ?y128; (case x128 => exact LK.KDt.int _ _); (case y128 => refine' LK.KDtAll.cons ?x127 ?y127; (case x127 => exact LK.KDt.int _ _); (case y127 => refine' LK.KDtAll.cons ?x124 ?y124; (case x124 => refine' LK.KDt.tup ?a126 ?b126 ?c126; (case a126 => k_is); (case b126 => decide); (case c126 => refine' LK.KDtAll.cons ?x125 ?y125; (case x125 => exact LK.KDt.str _ _); (case y125 => exact LK.KDtAll.nil))); (case y124 => exact LK.KDtAll.nil))))); (case r123 => refine' LK.VEnt.cons rfl rfl rfl ?v117 ?r117; (case v117 => refine' LK.KDt.tup ?a122 ?b122 ?c122; (case a122 => k_is); (case b122 => decide); (case c122 => refine' LK.KDtAll.cons ?x121 ?y121; (case x121 => exact LK.KDt.int _ _); (case y121 => refine' LK.KDtAll.cons ?x120 ?y120; (case x120 => exact LK.KDt.int _ _); (case y120 => refine' LK.KDtAll.cons ?x118 ?y118; (case x118 => refine' LK.KDt.tup ?a119 ?b119 ?c119; (case a119 => k_is); (case b119 => decide); (case c119 => exact LK.KDtAll.nil)); (case y118 => exact LK.KDtAll.nil))))); (case r117 => refine' LK.VEnt.cons rfl rfl rfl ?v111 ?r111; (case v111 => refine' LK.KDt.tup ?a116 ?b116 ?c116; (case a116 => k_is); (case b116 => decide); (case c116 => refine' LK.KDtAll.cons ?x115 ?y115; (case x115 => exact LK.KDt.int _ _); (case y115 => refine' LK.KDtAll.cons ?x114 ?y114; (case x114 => exact LK.KDt.int _ _); (case y114 => refine' LK.KDtAll.cons ?x112 ?y112; (case x112 => refine' LK.KDt.tup ?a113 ?b113 ?c113; (case a113 => k_is); (case b113 => decide); (case c113 => exact LK.KDtAll.nil)); (case y112 => exact LK.KDtAll.nil))))); (case r111 => refine' LK.VEnt.cons rfl rfl rfl ?v105 ?r105; (case v105 => refine' LK.KDt.tup ?a110 ?b110 ?c110; (case a110 => k_is); (case b110 => decide); (case c110 => refine' LK.KDtAll.cons ?x109 ?y109; (case x109 => exact LK.KDt.int _ _); (case y109 => refine' LK.KDtAll.cons ?x108 ?y108; (case x108 => exact LK.KDt.int _ _); (case y108 => refine' LK.KDtAll.cons ?x106 ?y106; (case x106 => refine' LK.KDt.tup ?a107 ?b107 ?c107; (case a107 => k_is); (case b107 => decide); (case c107 => exact LK.KDtAll.nil)); (case y106 => exact LK.KDtAll.nil))))); (case r105 => refine' LK.VEnt.cons rfl rfl rfl ?v98 ?r98; (case v98 => refine' LK.KDt.tup ?a104 ?b104 ?c104; (case a104 => k_is); (case b104 => decide); (case c104 => refine' LK.KDtAll.cons ?x103 ?y103; (case x103 => exact LK.KDt.int _ _); (case y103 => refine' LK.KDtAll.cons ?x102 ?y102; (case x102 => exact LK.KDt.int _ _); (case y102 => refine' LK.KDtAll.cons ?x99 ?y99; (case x99 => refine' LK.KDt.tup ?a101 ?b101 ?c101; (case a101 => k_is); (case b101 => decide); (case c101 => refine' LK.KDtAll.cons ?x100 ?y100; (case x100 => exact LK.KDt.str _ _); (case y100 => exact LK.KDtAll.nil))); (case y99 => exact LK.KDtAll.nil))))); (case r98 => refine' LK.VEnt.cons rfl rfl rfl ?v92 ?r92; (case v92 => refine' LK.KDt.tup ?a97 ?b97 ?c97; (case a97 => k_is); (case b97 => decide); (case c97 => refine' LK.KDtAll.cons ?x96 ?y96; (case x96 => exact LK.KDt.int _ _); (case y96 => refine' LK.KDtAll.cons ?x95 ?y95; (case x95 => exact LK.KDt.int _ _); (case y95 => refine' LK.KDtAll.cons ?x93 ?y93; (case x93 => refine' LK.KDt.tup ?a94 ?b94 ?c94; (case a94 => k_is); (case b94 => decide); (case c94 => exact LK.KDtAll.nil)); (case y93 => exact LK.KDtAll.nil))))); (case r92 => refine' LK.VEnt.cons rfl rfl rfl ?v86 ?r86; (case v86 => refine' LK.KDt.tup ?a91 ?b91 ?c91; (case a91 => k_is); (case b91 => decide); (case c91 => refine' LK.KDtAll.cons ?x90 ?y90; (case x90 => exact LK.KDt.int _ _); (case y90 => refine' LK.KDtAll.cons ?x89 ?y89; (case x89 => exact LK.KDt.int _ _); (case y89 => refine' LK.KDtAll.cons ?x87 ?y87; (case x87 => refine' LK.KDt.tup ?a88 ?b88 ?c88; (case a88 => k_is); (case b88 => decide); (case c88 => exact LK.KDtAll.nil)); (case y87 => exact LK.KDtAll.nil))))); (case r86 => refine' LK.VEnt.cons rfl rfl rfl ?v80 ?r80; (case v80 => refine' LK.KDt.tup ?a85 ?b85 ?c85; (case a85 => k_is); (case b85 => decide); (case c85 => refine' LK.KDtAll.cons ?x84 ?y84; (case x84 => exact LK.KDt.int _ _); (case y84 => refine' LK.KDtAll.cons ?x83 ?y83; (case x83 => exact LK.KDt.int _ _); (case y83 => refine' LK.KDtAll.cons ?x81 ?y81; (case x81 => refine' LK.KDt.tup ?a82 ?b82 ?c82; (case a82 => k_is); (case b82 => decide); (case c82 => exact LK.KDtAll.nil)); (case y81 => exact LK.KDtAll.nil))))); (case r80 => refine' LK.VEnt.cons rfl rfl rfl ?v74 ?r74; (case v74 => refine' LK.KDt.tup ?a79 ?b79 ?c79; (case a79 => k_is); (case b79 => decide); (case c79 => refine' LK.KDtAll.cons ?x78 ?y78; (case x78 => exact LK.KDt.int _ _); (case y78 => refine' LK.KDtAll.cons ?x77 ?y77; (case x77 => exact LK.KDt.int _ _); (case y77 => refine' LK.KDtAll.cons ?x75 ?y75; (case x75 => refine' LK.KDt.tup ?a76 ?b76 ?c76; (case a76 => k_is); (case b76 => decide); (case c76 => exact LK.KDtAll.nil)); (case y75 => exact LK.KDtAll.nil))))); (case r74 => refine' LK.VEnt.cons rfl rfl rfl ?v68 ?r68; (case v68 => refine' LK.KDt.tup ?a73 ?b73 ?c73; (case a73 => k_is); (case b73 => decide); (case c73 => refine' LK.KDtAll.cons ?x72 ?y72; (case x72 => exact LK.KDt.int _ _); (case y72 => refine' LK.KDtAll.cons ?x71 ?y71; (case x71 => exact LK.KDt.int _ _); (case y71 => refine' LK.KDtAll.cons ?x69 ?y69; (case x69 => refine' LK.KDt.tup ?a70 ?b70 ?c70; (case a70 => k_is); (case b70 => decide); (case c70 => exact LK.KDtAll.nil)); (case y69 => exact LK.KDtAll.nil))))); (case r68 => refine' LK.VEnt.cons rfl rfl rfl ?v62 ?r62; (case v62 => refine' LK.KDt.tup ?a67 ?b67 ?c67; (case a67 => k_is); (case b67 => decide); (case c67 => refine' LK.KDtAll.cons ?x66 ?y66; (case x66 => exact LK.KDt.int _ _); (case y66 => refine' LK.KDtAll.cons ?x65 ?y65; (case x65 => exact LK.KDt.int _ _); (case y65 => refine' LK.KDtAll.cons ?x63 ?y63; (case x63 => refine' LK.KDt.tup ?a64 ?b64 ?c64; (case a64 => k_is); (case b64 => decide); (case c64 => exact LK.KDtAll.nil)); (case y63 => exact LK.KDtAll.nil))))); (case r62 => refine' LK.VEnt.cons rfl rfl rfl ?v56 ?r56; (case v56 => refine' LK.KDt.tup ?a61 ?b61 ?c61; (case a61 => k_is); (case b61 => decide); (case c61 => refine' LK.KDtAll.cons ?x60 ?y60; (case x60 => exact LK.KDt.int _ _); (case y60 => refine' LK.KDtAll.cons ?x59 ?y59; (case x59 => exact LK.KDt.int _ _); (case y59 => refine' LK.KDtAll.cons ?x57 ?y57; (case x57 => refine' LK.KDt.tup ?a58 ?b58 ?c58; (case a58 => k_is); (case b58 => decide); (case c58 => exact LK.KDtAll.nil)); (case y57 => exact LK.KDtAll.nil))))); (case r56 => refine' LK.VEnt.cons rfl rfl rfl ?v50 ?r50; (case v50 => refine' LK.KDt.tup ?a55 ?b55 ?c55; (case a55 => k_is); (case b55 => decide); (case c55 => refine' LK.KDtAll.cons ?x54 ?y54; (case x54 => exact LK.KDt.int _ _); (case y54 => refine' LK.KDtAll.cons ?x53 ?y53; (case x53 => exact LK.KDt.int _ _); (case y53 => refine' LK.KDtAll.cons ?x51 ?y51; (case x51 => refine' LK.KDt.tup ?a52 ?b52 ?c52; (case a52 => k_is); (case b52 => decide); (case c52 => exact LK.KDtAll.nil)); (case y51 => exact LK.KDtAll.nil))))); (case r50 => refine' LK.VEnt.cons rfl rfl rfl ?v43 ?r43; (case v43 => refine' LK.KDt.tup ?a49 ?b49 ?c49; (case a49 => k_is); (case b49 => decide); (case c49 => refine' LK.KDtAll.cons ?x48 ?y48; (case x48 => exact LK.KDt.int _ _); (case y48 => refine' LK.KDtAll.cons ?x47 ?y47; (case x47 => exact LK.KDt.int _ _); (case y47 => refine' LK.KDtAll.cons ?x44 ?y44; (case x44 => refine' LK.KDt.tup ?a46 ?b46 ?c46; (case a46 => k_is); (case b46 => decide); (case c46 => refine' LK.KDtAll.cons ?x45 ?y45; (case x45 => exact LK.KDt.str _ _); (case y45 => exact LK.KDtAll.nil))); (case y44 => exact LK.KDtAll.nil))))); (case r43 => refine' LK.VEnt.cons rfl rfl rfl ?v37 ?r37; (case v37 => refine' LK.KDt.tup ?a42 ?b42 ?c42; (case a42 => k_is); (case b42 => decide); (case c42 => refine' LK.KDtAll.cons ?x41 ?y41; (case x41 => exact LK.KDt.int _ _); (case y41 => refine' LK.KDtAll.cons ?x40 ?y40; (case x40 => exact LK.KDt.int _ _); (case y40 => refine' LK.KDtAll.cons ?x38 ?y38; (case x38 => refine' LK.KDt.tup ?a39 ?b39 ?c39; (case a39 => k_is); (case b39 => decide); (case c39 => exact LK.KDtAll.nil)); (case y38 => exact LK.KDtAll.nil))))); (case r37 => refine' LK.VEnt.cons rfl rfl rfl ?v31 ?r31; (case v31 => refine' LK.KDt.tup ?a36 ?b36 ?c36; (case a36 => k_is); (case b36 => decide); (case c36 => refine' LK.KDtAll.cons ?x35 ?y35; (case x35 => exact LK.KDt.int _ _); (case y35 => refine' LK.KDtAll.cons ?x34 ?y34; (case x34 => exact LK.KDt.int _ _); (case y34 => refine' LK.KDtAll.cons ?x32 ?y32; (case x32 => refine' LK.KDt.tup ?a33 ?b33 ?c33; (case a33 => k_is); (case b33 => decide); (case c33 => exact LK.KDtAll.nil)); (case y32 => exact LK.KDtAll.nil))))); (case r31 => refine' LK.VEnt.cons rfl rfl rfl ?v25 ?r25; (case v25 => refine' LK.KDt.tup ?a30 ?b30 ?c30; (case a30 => k_is); (case b30 => decide); (case c30 => refine' LK.KDtAll.cons ?x29 ?y29; (case x29 => exact LK.KDt.int _ _); (case y29 => refine' LK.KDtAll.cons ?x28 ?y28; (case x28 => exact LK.KDt.int _ _); (case y28 => refine' LK.KDtAll.cons ?x26 ?y26; (case x26 => refine' LK.KDt.tup ?a27 ?b27 ?c27; (case a27 => k_is); (case b27 => decide); (case c27 => exact LK.KDtAll.nil)); (case y26 => exact LK.KDtAll.nil))))); (case r25 => refine' LK.VEnt.cons rfl rfl rfl ?v19 ?r19; (case v19 => refine' LK.KDt.tup ?a24 ?b24 ?c24; (case a24 => k_is); (case b24 => decide); (case c24 => refine' LK.KDtAll.cons ?x23 ?y23; (case x23 => exact LK.KDt.int _ _); (case y23 => refine' LK.KDtAll.cons ?x22 ?y22; (case x22 => exact LK.KDt.int _ _); (case y22 => refine' LK.KDtAll.cons ?x20 ?y20; (case x20 => refine' LK.KDt.tup ?a21 ?b21 ?c21; (case a21 => k_is); (case b21 => decide); (case c21 => exact LK.KDtAll.nil)); (case y20 => exact LK.KDtAll.nil))))); (case r19 => refine' LK.VEnt.cons rfl rfl rfl ?v13 ?r13; (case v13 => refine' LK.KDt.tup ?a18 ?b18 ?c18; (case a18 => k_is); (case b18 => decide); (case c18 => refine' LK.KDtAll.cons ?x17 ?y17; (case x17 => exact LK.KDt.int _ _); (case y17 => refine' LK.KDtAll.cons ?x16 ?y16; (case x16 => exact LK.KDt.int _ _); (case y16 => refine' LK.KDtAll.cons ?x14 ?y14; (case x14 => refine' LK.KDt.tup ?a15 ?b15 ?c15; (case a15 => k_is); (case b15 => decide); (case c15 => exact LK.KDtAll.nil)); (case y14 => exact LK.KDtAll.nil))))); (case r13 => refine' LK.VEnt.cons rfl rfl rfl ?v7 ?r7; (case v7 => refine' LK.KDt.tup ?a12 ?b12 ?c12; (case a12 => k_is); (case b12 => decide); (case c12 => refine' LK.KDtAll.cons ?x11 ?y11; (case x11 => exact LK.KDt.int _ _); (case y11 => refine' LK.KDtAll.cons ?x10 ?y10; (case x10 => exact LK.KDt.int _ _); (case y10 => refine' LK.KDtAll.cons ?x8 ?y8; (case x8 => refine' LK.KDt.tup ?a9 ?b9 ?c9; (case a9 => k_is); (case b9 => decide); (case c9 => exact LK.KDtAll.nil)); (case y8 => exact LK.KDtAll.nil))))); (case r7 => refine' LK.VEnt.cons rfl rfl rfl ?v1 ?r1; (case v1 => refine' LK.KDt.tup ?a6 ?b6 ?c6; (case a6 => k_is); (case b6 => decide); (case c6 => refine' LK.KDtAll.cons ?x5 ?y5; (case x5 => exact LK.KDt.int _ _); (case y5 => refine' LK.KDtAll.cons ?x4 ?y4; (case x4 => exact LK.KDt.int _ _); (case y4 => refine' LK.KDtAll.cons ?x2 ?y2; (case x2 => refine' LK.KDt.tup ?a3 ?b3 ?c3; (case a3 => k_is); (case b3 => decide); (case c3 => exact LK.KDtAll.nil)); (case y2 => exact LK.KDtAll.nil))))); (case r1 => exact LK.VEnt.nil))))))))))))))))))))))))))))))))))))))))))))))); (case e => decide +kernel)
    case d_VALUE_KINDS => refine' LK.HasDct.mk' ?a ?b ?c ?d ?e; (case a => k_is); (case b => k_is); (case c => rfl); (case d => repeat (first | exact .nil | refine .cons rfl rfl rfl ?_)); (case e => decide +kernel)
    case d_OBJECT_KINDS => refine' LK.HasDct.mk' ?a ?b ?c ?d ?e; (case a => k_is); (case b => k_is); (case c => rfl); (case d => repeat (first | exact .nil | refine .cons rfl rfl rfl ?_)); (case e => decide +kernel)
    case d_METHODS_entries => refine' LK.HasDct.mkF ?a ?b ?c ?d ?e; (case a => k_is); (case b => k_is); (case c => rfl); (case d => repeat (first | exact .nil | refine .cons rfl rfl rfl ?_)); (case e => decide +kernel)
    case d_BRACKETS => refine' LK.HasTupD.mk' ?a ?b ?c ?d ?e; (case a => k_is); (case b => k_is); (case c => rfl); (case d => refine' LK.TEnt.cons rfl rfl rfl ?x0 ?y0 ?z0 ?r0; (case x0 => k_is); (case y0 => decide); (case z0 => repeat (first | exact .nil | refine .cons ⟨_, rfl⟩ ?_ | refine .cons rfl ?_)); (case r0 => refine' LK.TEnt.cons rfl rfl rfl ?x1 ?y1 ?z1 ?r1; (case x1 => k_is); (case y1 => decide); (case z1 => repeat (first | exact .nil | refine .cons ⟨_, rfl⟩ ?_ | refine .cons rfl ?_)); (case r1 => refine' LK.TEnt.cons rfl rfl rfl ?x2 ?y2 ?z2 ?r2; (case x2 => k_is); (case y2 => decide); (case z2 => repeat (first | exact .nil | refine .cons ⟨_, rfl⟩ ?_ | refine .cons rfl ?_)); (case r2 => exact LK.TEnt.nil)))); (case e => decide +kernel)


