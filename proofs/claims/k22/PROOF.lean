import PyProof.Rows.All
import Wide.All
import OpenK.AllK
import Wide.FinOn
import HandS.ForMost
import HandS.Wide
import HandS.WideMore
import HandS.TupAny
import HandS.TupLen
import HandS.Evl
import HandS.Codes
import PyProof.ReprLen
import PyProof.StrLawsRepr
import HandS.Walk
import HandS.Zip
import KE.GoesMore
import HandS.Style
import HandS.TupMul
import PyProof.StrOps2
import HandS.IsInst
import HandS.StrMore
import HandS.Dict
import HandS.Conv
import KE.KDictList
import HandS.Iter
import HandS.Rev
import HandS.RevTup
import KE.KRevIter
import HandS.FStr
import KE.GoesZip
import KE.KDictZip
import PyProof.EqKinds
import HandS.TupSets
import PySem.Challenge.RW_pyhold_k22_order_is_total
set_option Elab.async false
set_option linter.all false
set_option maxRecDepth 100000
set_option maxHeartbeats 4000000
/-! A layer of one's own over the hand layer: defs by name, data, the helpers that the laws share. -/
namespace LK
open PySem PySem.Spec PyProof.Rows L2

/-! ### a def's promise where nothing is being shown (repr asks who is) -/
structure FnG (P : Program) (w : World) (K : PySem.W.Frag) (mg : Str → Option Value) (base : Heap) (CX : CXT) (k : Nat) (f : Addr) (fd : FuncData) (ps : List Str) (sp : Sp) : Prop where
  len : ∀ vs H Q E, sp vs H Q E → vs.length = ps.length
  run : ∀ (A : Around) (outer : List Env) (s : Shared) (H : Hp) (args : Args) (us : List Value) (vs : List V) (Q : VK) (E : XK), Room k A → A.guards = some [] →
    Env0 P w K mg base A outer s H → BindsTo s fd args (ps.zip us) → Vals vs us → sp vs H Q E → codeAny (model P w) A (.call (.ref f) args) (CR CX outer P w H s Q E) s
section
variable {P : Program} {w : World} {K : PySem.W.Frag} {mg : Str → Option Value} {base : Heap} {CX : CXT}
theorem FnG.imp {k : Nat} {f : Addr} {fd : FuncData} {ps : List Str} {sp sp' : Sp} (F : FnG P w K mg base CX k f fd ps sp) (h : ∀ vs H Q E, sp' vs H Q E → sp vs H Q E) : FnG P w K mg base CX k f fd ps sp' where
  len := fun vs H Q E q => F.len vs H Q E (h vs H Q E q)
  run := fun A outer s H args us vs Q E hr hg he hb hv hs => F.run A outer s H args us vs Q E hr hg he hb hv (h vs H Q E hs)
/-- the rule for a def: its body as a term of rules, and the reading of that term -/
theorem okG {x qual : Str} {st : Stmt} {f : Addr} {fd : FuncData} {N ps : List Str} {k : Nat} {sp : Sp} (F : Fun K x qual st f fd) (S : FnScope N ps (defScope st)) (len : ∀ vs H Q E, sp vs H Q E → vs.length = ps.length)
    (body : ∀ (cdv : Value) (A : Around) (outer : List Env) (s : Shared) (H : Hp) (vs : List V) (Q : VK) (E : XK), Room k (A.deeper (envOfC qual (defScope st) s.heap.objs.size f cdv)) →
      (A.deeper (envOfC qual (defScope st) s.heap.objs.size f cdv)).guards = some [] → sp vs H Q E →
      ∃ t, PSs (cxOf CX P w K mg base N qual (defScope st) f cdv A outer s H E) (defBody st) t ∧ t { nx := fun _ H' => Q .non H', rt := Q } (start N vs) H) :
    FnG P w K mg base CX (k + 1) f fd ps sp := by
  obtain ⟨oc, od, kV, doc, pm, an, cdv, ct, osl, rfl, lk, hcd⟩ := F.ex
  refine ⟨len, fun A outer s H args us vs Q E hr hgd e0 hb r hsp => ?_⟩
  have inn : K.In s.heap := e0.mod.kin.keeps fun b o e => (e0.bs b o e).1
  refine codeAny_call_function hr.depth (inn _ _ lk) rfl S.co S.gen rfl (PySem.W.codeRec_of inn hcd) (hb _ _ _ _ ?_)
  refine wpAny_newFunctionEnv_cells S.kind (fun y hy => ?_) fun env he s1 made => ?_
  · obtain ⟨n, v⟩ := y
    exact (S.par n (List.of_mem_zip hy).1).elim .inl fun q => .inr ⟨q, PySem.W.cellsFrom_some _ _ _ (.inl q)⟩
  · subst he
    have lim : s.heap.NoLimit := e0.mod.nolimit.keeps fun b o e => (e0.bs b o e).1
    refine ⟨lim.keeps made.toInCall.keep, codeAny_func ?_⟩
    obtain ⟨t, ht, hq⟩ := body cdv A outer s H vs Q E (hr.deeper _) hgd hsp
    refine wpAny_mono (ht.run [] s1 (start N vs) H _ (inv_start S hr.hd e0 (len _ _ _ _ hsp) r made) hq) (fun fl s' hs => ?_) fun e s' hs => hs
    cases fl with
    | ret u => exact let ⟨v, _, H', J, rv, q⟩ := hs; ⟨v, H', J.os, J.bare, J.base, J.hok, rv, q⟩
    | next => exact let ⟨_, H', J, q⟩ := hs; ⟨V.non, H', J.os, J.bare, J.base, J.hok, rfl, q⟩
    | brk => exact let ⟨_, _, _, q⟩ := hs; q.elim
    | cont => exact let ⟨_, _, _, q⟩ := hs; q.elim
/-- .. whose body lets no exception out -/
theorem okG0 {x qual : Str} {st : Stmt} {f : Addr} {fd : FuncData} {N ps : List Str} {k : Nat} {sp : Sp} (F : Fun K x qual st f fd) (S : FnScope N ps (defScope st)) (len : ∀ vs H Q E, sp vs H Q E → vs.length = ps.length)
    (body : ∀ (cdv : Value) (A : Around) (outer : List Env) (s : Shared) (H : Hp) (vs : List V) (Q : VK) (E : XK), Room k (A.deeper (envOfC qual (defScope st) s.heap.objs.size f cdv)) →
      (A.deeper (envOfC qual (defScope st) s.heap.objs.size f cdv)).guards = some [] → sp vs H Q E →
      ∃ t, PSs (cxOf CX0 P w K mg base N qual (defScope st) f cdv A outer s H E).nox (defBody st) t ∧ t { nx := fun _ H' => Q .non H', rt := Q } (start N vs) H) :
    FnG P w K mg base CX0 (k + 1) f fd ps sp :=
  okG F S len fun cdv A outer s H vs Q E hr hg hs => let ⟨t, ht, q⟩ := body cdv A outer s H vs Q E hr hg hs; ⟨t, ht.nox, q⟩
end
section
variable {X : Cx} {CX : CXT} {k : Nat} {f : Addr} {fd : FuncData} {ps : List Str} {sp : Sp} {E : XK} {x : Str} {p pos : Pos} {e : Expr} {es : List Expr} {t : TA}
theorem run_fnG {pins : List (Addr × Obj)} {σ : L2.St} {H : Hp} {s : Shared} {Q : VK} {us : List Value} {vs : List V} (F : FnG X.prog X.w X.K X.mg X.base CX k f fd ps sp) (hr : Room k X.A) (hg : X.A.guards = some []) (hb : Binds X.K fd ps [])
    (hx : Passes CX X E) (I : Inv X pins σ H s) (r : Vals vs us) (h : sp vs H Q E) : wpAny (model X.prog X.w) X.A (call (.ref f) us) (EP X pins σ Q) X.xe s := by
  have hl : (us ++ []).length = ps.length := by rw [List.append_nil, ← r.length, F.len _ _ _ _ h]
  have hbs := hb s us I.kIn hl
  rw [List.append_nil] at hbs
  refine wpAny_call (codeAny_mono (F.run X.A X.stack s H ⟨us, []⟩ us vs Q E hr hg I.env0 hbs r h) fun res s' hq => ?_)
  match res, hq with
  | .error e, hq => exact hx pins σ H s e s' I hq
  | .ok (.ret u), hq => exact I.after hq
  | .ok .next, hq => exact hq.elim
  | .ok .brk, hq => exact hq.elim
  | .ok .cont, hq => exact hq.elim
end

/-! ### defs of the text, by name -/
/-- what the top has left of the def x, whose statement is st -/
def HasFn (K : PySem.W.Frag) (x : Str) (st : Stmt) : Prop := ∃ (f : Addr) (oc : Value) (od an : Option Addr) (kV doc pm cdv ct : Value) (osl : Array (Option Value)),
  PySem.W.nsIn K mainGlobals x = some (some (.ref f)) ∧ K.lookup f = some ⟨oc, od, .func (PySem.W.fnOf x x (defArgs st) (defBody st) (defScope st) .none kV doc pm an cdv ct), osl⟩ ∧
  PySem.W.codeIn K cdv x = true ∧ PySem.W.keepIn K (.ref f) = true
/-- the def x may be called: its promise sp, by level k -/
structure Use (P : Program) (w : World) (K : PySem.W.Frag) (mg : Str → Option Value) (base : Heap) (CX : CXT) (x : Str) (k : Nat) (ps : List Str) (sp : Sp) : Prop where
  ex : ∃ (f : Addr) (fd : FuncData), FnG P w K mg base CX k f fd ps sp ∧ mg x = some (.ref f) ∧ PySem.W.keepIn K (.ref f) = true ∧ Binds K fd ps []
section
variable {P : Program} {w : World} {K : PySem.W.Frag} {mg : Str → Option Value} {base h : Heap} {CX : CXT}
theorem mk_use {x : Str} {st : Stmt} {k : Nat} {ps : List Str} {sp : Sp} (F : HasFn K x st) (X : K.In h) (G : h.Ns mainGlobals mg)
    (hb : ∀ (kV doc pm : Value) (an : Option Addr) (cdv ct : Value) (us : List Value), us.length = ps.length → bindArgs (PySem.W.fnOf x x (defArgs st) (defBody st) (defScope st) .none kV doc pm an cdv ct) ⟨us, []⟩ = pure (ps.zip us))
    (ok : ∀ (f : Addr) (fd : FuncData), Fun K x x st f fd → FnG P w K mg base CX k f fd ps sp) : Use P w K mg base CX x k ps sp := by
  obtain ⟨f, oc, od, an, kV, doc, pm, cdv, ct, osl, e, l, c, kp⟩ := F
  have Fn := fun_mk (st := st) l c kp
  exact ⟨f, _, ok f _ Fn, PySem.W.mg_of X G e, kp, Fn.binds hb⟩
theorem Use.imp {x : Str} {k : Nat} {ps : List Str} {sp sp' : Sp} (U : Use P w K mg base CX x k ps sp) (h : ∀ vs H Q E, sp' vs H Q E → sp vs H Q E) : Use P w K mg base CX x k ps sp' := by
  obtain ⟨f, fd, ok, r⟩ := U.ex
  exact ⟨f, fd, ok.imp h, r⟩
end
section
variable {X : Cx} {CX : CXT} {E : XK} {k : Nat} {x : Str} {ps : List Str} {sp : Sp} {p pos : Pos} {e : Expr} {es : List Expr} {t : TA}
theorem pe_useX (U : Use X.prog X.w X.K X.mg X.base CX x k ps sp) (hx : Passes CX X E) (hr : Room k X.A) (gd : X.A.guards = some []) (hg : Gl X x) (ha : PA X (e :: es) t) (hdb : (x == ("__debug__" : Str)) = false := by decide)
    (he : starEach (e :: es) X.env = (false, eval e X.env) :: starEach es X.env := by rfl) (hpl : (backTo pos (starEach es X.env)).any (·.1) = false := by rfl) : PE X (.Call (.Name x p) (e :: es) [] pos) (fun σ H Q => t σ H fun vs H1 => sp vs H1 Q E) := by
  obtain ⟨f, fd, ok, hm, kp, hb⟩ := U.ex
  refine ⟨fun pins s σ H Q I h => wpAny_Call_Name_kw (ld_glob I hg hm ?_ hdb)⟩
  exact PySem.W.callWith_K (h₀ := X.base) I.ok.mod.kin kp (thn (ha.run pos pins s σ H _ I h) fun us s1 ⟨vs, H1, I1, r, q⟩ => ⟨I1.kIn, run_fnG ok hr gd hb hx I1 r q⟩) he hpl
def tUse (sp : Sp) (E : XK) (t : TA) : TE := fun σ H Q => t σ H fun vs H1 => sp vs H1 Q E
theorem pe_use (U : Use X.prog X.w X.K X.mg X.base CX0 x k ps sp) (hr : Room k X.A) (gd : X.A.guards = some []) (hg : Gl X x) (ha : PA X (e :: es) t) (hdb : (x == ("__debug__" : Str)) = false := by decide)
    (he : starEach (e :: es) X.env = (false, eval e X.env) :: starEach es X.env := by rfl) (hpl : (backTo pos (starEach es X.env)).any (·.1) = false := by rfl) : PE X (.Call (.Name x p) (e :: es) [] pos) (tUse sp E0 t) := pe_useX U pass0 hr gd hg ha hdb he hpl
theorem pe_use0 (U : Use X.prog X.w X.K X.mg X.base CX0 x k ps sp) (hr : Room k X.A) (gd : X.A.guards = some []) (hg : Gl X x) (hdb : (x == ("__debug__" : Str)) = false := by decide) : PE X (.Call (.Name x p) [] [] pos) (tUse sp E0 tNil) := by
  obtain ⟨f, fd, ok, hm, kp, hb⟩ := U.ex
  exact ⟨fun pins s σ H Q I h => wpAny_Call_Name_kw (ld_glob I hg hm (PySem.W.callWith_K0 I.kIn kp (run_fnG (us := []) ok hr gd hb pass0 I .nil h)) hdb)⟩
end

/-! ### what stays -/
theorem Same.new {H : Hp} {p : Addr} {o : HO} (h : H p = none) : Same H (upd H p o) := fun b u e => by
  rw [upd_ne (ne_of_none e h)]; exact e
theorem Same.rd {H H' : Hp} {a : Addr} {u : HO} (e : Same H H') (h : Rd H a u) : Rd H' a u := by
  rcases h with h | ⟨o, h⟩
  · exact .inl (e _ _ h)
  · exact .inr ⟨o, e _ _ h⟩
theorem Same.tupl {K : PySem.W.Frag} {H H' : Hp} {a : Addr} {xs : List V} (e : Same H H') (h : SqT K H a xs) : SqT K H' a xs := by
  rcases h with h | h
  · exact .inl (Same.rd e h)
  · exact .inr h
theorem SqT.mono {K : PySem.W.Frag} {H H' : Hp} {a : Addr} {xs : List V} (h : SqT K H a xs) (e : Same H H') : SqT K H' a xs := Same.tupl e h
theorem SqL.mono {K : PySem.W.Frag} {H H' : Hp} {a : Addr} {xs : List V} (h : SqL K H a xs) (e : Same H H') : SqL K H' a xs := e.seq h

/-! ### data: none, bools, ints, texts, tuples (and lists that stand still) -/
mutual
theorem Dp.mono {K : PySem.W.Frag} {H H' : Hp} (e : Same H H') : ∀ {v : V} {d : PyData}, Dp K H v d → Dp K H' v d
  | _, _, .non => .non
  | _, _, .bl b => .bl b
  | _, _, .int i => .int i
  | _, _, .str x => .str x
  | _, _, .lst h a => .lst (e.seq h) (DpAll.mono e a)
  | _, _, .tup h a => .tup (Same.tupl e h) (DpAll.mono e a)
theorem DpAll.mono {K : PySem.W.Frag} {H H' : Hp} (e : Same H H') : ∀ {vs : List V} {ds : List PyData}, DpAll K H vs ds → DpAll K H' vs ds
  | _, _, .nil => .nil
  | _, _, .cons h a => .cons (Dp.mono e h) (DpAll.mono e a)
end
/-- a tuple just made -/
theorem Dp.made {K : PySem.W.Frag} {H : Hp} {p : Addr} {xs : List V} {ds : List PyData} (hp : H p = none) (h : DpAll K H xs ds) : Dp K (upd H p (.tup xs)) (.ref p) (.tuple ds) :=
  .tup (SqT.of upd_same) (DpAll.mono (Same.new hp) h)
theorem DpAll.length {K : PySem.W.Frag} {H : Hp} : ∀ {vs : List V} {ds : List PyData}, DpAll K H vs ds → vs.length = ds.length
  | _, _, .nil => rfl
  | _, _, .cons _ t => by simp [DpAll.length t]
theorem DpAll.app {K : PySem.W.Frag} {H : Hp} : ∀ {vs ws : List V} {ds es : List PyData}, DpAll K H vs ds → DpAll K H ws es → DpAll K H (vs ++ ws) (ds ++ es)
  | _, _, _, _, .nil, t => t
  | _, _, _, _, .cons h a, t => .cons h (DpAll.app a t)

/-! ### repr of data -/
mutual
theorem Dp.noDict {K : PySem.W.Frag} {H : Hp} : ∀ {v : V} {d : PyData}, Dp K H v d → d.hasDict = false
  | _, _, .non => rfl
  | _, _, .bl _ => rfl
  | _, _, .int _ => rfl
  | _, _, .str _ => rfl
  | _, _, .lst _ a => by simp only [PyData.hasDict]; exact DpAll.noDict a
  | _, _, .tup _ a => by simp only [PyData.hasDict]; exact DpAll.noDict a
theorem DpAll.noDict {K : PySem.W.Frag} {H : Hp} : ∀ {vs : List V} {ds : List PyData}, DpAll K H vs ds → PyData.hasDictAll ds = false
  | _, _, .nil => rfl
  | _, _, .cons h a => by simp only [PyData.hasDictAll, Dp.noDict h, DpAll.noDict a, Bool.or_self]
end
/-- what repr asks of data -/
structure ShowOk (d : PyData) : Prop where
  ok : d.showable = true
  dp : d.depth ≤ 60
  sz : d.shown.length ≤ sizeLine
def rRepr (K : PySem.W.Frag) : List V → Hp → VK → Prop := fun xs H Q => ∃ v d, xs = [v] ∧ Dp K H v d ∧ ShowOk d ∧ Q (.str d.shown) H
section
variable {X : Cx}
theorem call_repr_data (hg : X.A.guards = some []) (hu : X.A.units + 64 < cLine) : CallR X (.builtin "repr") (rRepr X.K) := by
  intro pins s σ H xs us Q I r h
  obtain ⟨v, d, rfl, hd, ⟨hs, hdp, hsz⟩, q⟩ := h
  obtain ⟨u, rfl, rv⟩ := vals1 r
  obtain ⟨as, rr⟩ := Dp.reads I d v u hd rv
  have nd := Dp.noDict hd
  cases d with
  | none => cases rr; exact PySem.P.repr_of_none ⟨.str _, H, I.tok _, ⟨_, rfl⟩, q⟩
  | bool b => cases rr; exact PySem.P.repr_of_bool ⟨.str _, H, I.tok _, ⟨_, rfl⟩, by simpa [PyData.shown] using q⟩
  | int i => cases rr; exact PySem.P.repr_of_int (of_decide_eq_true (by simpa [PyData.showable] using hs)) ⟨.str _, H, I.tok _, ⟨_, rfl⟩, by simpa [PyData.shown] using q⟩
  | str x => cases rr; exact PySem.P.repr_of_str (hsz := by simpa [PyData.shown] using hsz) ⟨.str _, H, I.tok _, ⟨_, rfl⟩, by simpa [PyData.shown] using q⟩
  | list ds =>
    obtain ⟨a, rfl⟩ := PyProof.Rows.isRef_of_reads rr rfl
    exact repr_of_reads' rr hs (PyData.noDict_hsm nd) hg (by omega) (fun _ _ e => e) (fun h' u tk hk => ⟨.str _, H, I.kept hk, ⟨_, rfl⟩, q⟩) hsz
  | tuple ds =>
    obtain ⟨a, rfl⟩ := PyProof.Rows.isRef_of_reads rr rfl
    exact repr_of_reads' rr hs (PyData.noDict_hsm nd) hg (by omega) (fun _ _ e => e) (fun h' u tk hk => ⟨.str _, H, I.kept hk, ⟨_, rfl⟩, q⟩) hsz
  | dict kv => cases hd
end

/-! ### the law's own call -/
/-- the heap behind the top, seen with the script at a locked, or with nothing tracked -/
theorem law_callG {P : Program} {w : World} {K : PySem.W.Frag} {mg mb : Str → Option Value} {CX : CXT} {k : Nat} {fa a : Addr} {fd : FuncData} {x : Str} {sp : Sp} {s₁ : Shared} {vs : List Value} {ns : List Int}
    (inn : K.In s₁.heap) (hns : s₁.heap.Ns mainGlobals mg) (hb : s₁.heap.Ns builtinsNs mb) (hbb : ∀ x : Str, x ≠ "__name__" → mb x = bootBuiltins x) (hlim : s₁.heap.NoLimit) (hgens : s₁.gens = #[])
    (ha : s₁.heap.get? a = some { cls := .type "list", data := .seq vs.toArray }) (hi : IntsAre vs ns) (hl : ns.length ≤ sizeLine) (hr : Room k callerA)
    (F : ∀ base : Heap, K.In base → base.Ns mainGlobals mg → FnG P w K mg base CX k fa fd [x] sp) (hbind : ∀ (s : Shared) (u : Value), BindsTo s fd ⟨[u], []⟩ [(x, u)])
    (hsp : ∀ H : Hp, Only H → SqL K H a (ns.map V.int) → sp [.ref a] H (fun v _ => v = .bl true) fun _ _ _ => False)
    (hCX : ∀ H e s', CX [] H s₁ (fun _ _ _ => False) e s' → False) :
    codeAny (model P w) callerA (.call (.ref fa) ⟨[.ref a], []⟩) (fun r s' => r = .ok (.ret (.bool true)) ∧ OldK s₁.heap s'.heap ∧ s'.os = s₁.os ∧ AllBare s'.gens) s₁ := by
  have rv := vals_ints hi
  have run : ∀ H : Hp, Only H → SqL K H a (ns.map V.int) → HOk P w H s₁.heap → (∀ b u, H b = some u → b = a ∧ K.lookup a = none) →
      codeAny (model P w) callerA (.call (.ref fa) ⟨[.ref a], []⟩) (fun r s' => r = .ok (.ret (.bool true)) ∧ OldK s₁.heap s'.heap ∧ s'.os = s₁.os ∧ AllBare s'.gens) s₁ := by
    intro H only hS hok at_a
    -- what is no list stays in the base
    have free : ∀ {b : Addr} {o : Obj}, s₁.heap.get? b = some o → (∀ its n, o.data ≠ .seq its n) → H b = none := fun {b o} e hd => by
      cases q : H b with
      | none => rfl
      | some u =>
        obtain ⟨rfl, _⟩ := at_a b u q
        rw [ha] at e; cases e
        exact absurd rfl (hd _ _)
    have names : ∀ {b : Addr} {m : Str → Option Value}, s₁.heap.Ns b m → (hidT s₁.heap H).Ns b m := fun {b m} hn => by
      obtain ⟨o, es, ep, e, d, r⟩ := hn
      exact ⟨o, es, ep, hidT_get e (free e fun its n z => by rw [d] at z; cases z), d, r⟩
    have inb : K.In (hidT s₁.heap H) := fun b o e => by
      refine hidT_get (inn b o e) ?_
      cases q : H b with
      | none => rfl
      | some u =>
        obtain ⟨rfl, hk⟩ := at_a b u q
        rw [e] at hk; cases hk
    have md : Mod K mg (hidT s₁.heap H) := by
      obtain ⟨mc, h1, h2⟩ := hlim
      exact ⟨inb, names hns, ⟨mb, names hb, hbb⟩, ⟨mc, names h1, h2⟩⟩
    have none_in : ∀ b : Addr, b ∉ ([] : List Addr) := fun b z => nomatch z
    have e0 : Env0 P w K mg (hidT s₁.heap H) callerA [] s₁ H := ⟨rfl, md, fun b o e => of_hidT e, Nat.le_of_eq (hidT_size _ _), trivial, fun b z => absurd z (none_in b), hok, .of_eq hgens⟩
    refine codeAny_mono ((F _ inb (names hns)).run callerA [] s₁ H ⟨[.ref a], []⟩ [.ref a] [.ref a] _ _ hr rfl e0 (hbind s₁ (.ref a)) (.cons rfl .nil) (hsp H only hS)) fun r s' h => ?_
    match r, h with
    | .error e, h => exact (hCX H e s' h).elim
    | .ok .next, h => exact False.elim h
    | .ok .brk, h => exact False.elim h
    | .ok .cont, h => exact False.elim h
    | .ok (.ret u), h =>
      obtain ⟨v, H', os, bare, un, hok', r', q⟩ := h
      obtain rfl : v = V.bl true := q
      obtain rfl : u = Value.bool true := r'
      refine ⟨rfl, OldK.of_keep fun b o e => ?_, os, bare⟩
      cases q : H b with
      | none => exact un.keep b o e q (none_in b) (none_in b)
      | some u =>
        rcases only b with z | ⟨ob, xs, z⟩
        · rw [q] at z; cases z
        · have e1 : s₁.heap.get? b = some ob := (hok b _ z).1
          rw [e] at e1; cases e1
          exact (hok' b _ (un.frzs b o _ z)).1
  cases hk : K.lookup a with
  | some o =>
    have e := inn a o hk
    rw [ha] at e; cases e
    have sz : vs.toArray.size ≤ sizeLine := by rw [List.size_toArray, hi.length]; exact hl
    exact run (fun _ => none) (fun _ => .inl rfl) (.inr ⟨_, vs.toArray, _, hk, rfl, rfl, rfl, sz, by simpa using rv⟩) (fun b u z => nomatch (show (none : Option HO) = some u from z)) fun b u z => nomatch (show (none : Option HO) = some u from z)
  | none =>
    let u0 : HO := .frz { cls := .type "list", data := .seq vs.toArray } (.lst (ns.map V.int))
    have at1 : ∀ b u, upd (fun _ => none) a u0 b = some u → b = a ∧ u = u0 := fun b u z => by
      by_cases hb : b = a
      · subst hb; rw [upd_same] at z; exact ⟨rfl, (Option.some.inj z).symm⟩
      · rw [upd_ne hb] at z; cases z
    refine run (upd (fun _ => none) a u0) (fun b => ?_) (.inl (.inr ⟨_, upd_same⟩)) (fun b u z => ?_) fun b u z => ⟨(at1 b u z).1, hk⟩
    · by_cases hb : b = a
      · subst hb; exact .inr ⟨_, _, upd_same⟩
      · exact .inl (by rw [upd_ne hb])
    · obtain ⟨rfl, rfl⟩ := at1 b u z
      exact ⟨ha, by rw [List.length_map]; exact hl, vs, _, rv, ha⟩
theorem walkG {l : PySem.W.OpenLaw} {n k : Nat} {q : Program} {loose : List Str} {XP : (Str → Option Value) → Heap → Prop} {YP : World → Heap → Prop} {d : DefRec} {K : Params → PySem.W.Frag} {CX : CXT} {sp : PySem.W.Frag → Sp} {x : Str}
    (hn : l.most = some n) (hn2 : n ≤ sizeLine) (hdf : d.params.defaults = []) (hr : Room k callerA)
    (hY : ∀ (w : World) (h : Heap), YP w h → (K w.params).In h)
    (F : ∀ (w : World) (mg : Str → Option Value) (fa : Addr) (h : Heap), (K w.params).In h → h.Ns mainGlobals mg → mg d.name = some (.ref fa) →
      ∃ fd : FuncData, (∀ (s : Shared) (u : Value), BindsTo s fd ⟨[u], []⟩ [(x, u)]) ∧
        ∀ base : Heap, (K w.params).In base → base.Ns mainGlobals mg → FnG l.prog w (K w.params) mg base CX k fa fd [x] (sp (K w.params)))
    (hsp : ∀ (K : PySem.W.Frag) (H : Hp) (a : Addr) (ns : List Int), ns.length ≤ n → Only H → SqL K H a (ns.map V.int) → sp K [.ref a] H (fun v _ => v = .bl true) fun _ _ _ => False)
    (hCX : ∀ (H : Hp) (s : Shared) (e : Value) (s' : Shared), CX [] H s (fun _ _ _ => False) e s' → False) :
    PySem.W.WalkO q loose XP YP l.row.toRowW d [] (fun f vs => PySem.call f vs) :=
  Att.attach_call hn hdf fun w s₀ s₁ mg mb fa o pm cd doc a vs ns G Y ho hd hcd hmg hobj hints hlen hg =>
    let ⟨fd, hb, hF⟩ := F w mg fa _ (hY w _ Y) G.T.g hmg
    law_callG (hY w _ Y) G.T.g G.T.b G.T.builtins G.T.nolimit hg hobj hints (Nat.le_trans hlen hn2) hr hF hb (fun H hO hS => hsp (K w.params) H a ns hlen hO hS) fun H e s' => hCX H s₁ e s'
/-- from the top's facts: the law's def and its arguments -/
theorem law_use {P : Program} {w : World} {K : PySem.W.Frag} {mg : Str → Option Value} {h : Heap} {CX : CXT} {k : Nat} {fa : Addr} {st : Stmt} {x : Str} {sp : Sp} (L : HasFn K "law" st) (X : K.In h) (G : h.Ns mainGlobals mg) (hfa : mg "law" = some (.ref fa))
    (hb : ∀ (kV doc pm : Value) (an : Option Addr) (cdv ct v : Value), bindArgs (PySem.W.fnOf "law" "law" (defArgs st) (defBody st) (defScope st) .none kV doc pm an cdv ct) ⟨[v], []⟩ = pure [(x, v)])
    (ok : ∀ base : Heap, K.In base → base.Ns mainGlobals mg → ∀ fd, Fun K "law" "law" st fa fd → FnG P w K mg base CX k fa fd [x] sp) :
    ∃ fd : FuncData, (∀ (s : Shared) (v : Value), BindsTo s fd ⟨[v], []⟩ [(x, v)]) ∧ ∀ base : Heap, K.In base → base.Ns mainGlobals mg → FnG P w K mg base CX k fa fd [x] sp := by
  obtain ⟨f, oc, od, an, kV, doc, pm, cdv, ct, osl, e, l, c, kp⟩ := L
  have z := hfa.symm.trans (PySem.W.mg_of X G e)
  cases z
  have Fn := fun_mk (st := st) l c kp
  exact ⟨_, fun s v => .of_eq (hb ..), fun base h1 h2 => ok base h1 h2 _ Fn⟩

/-! ### tests whose answer is known -/
theorem iteFb {c : Bool} {A B : Prop} (h : c = false) (b : B) : if c = true then A else B := by rw [h]; exact iteF b
theorem iteTb {c : Bool} {A B : Prop} (h : c = true) (a : A) : if c = true then A else B := by rw [h]; exact iteT a
theorem ite3 {c : Bool} {A B : Prop} (h1 : c = true → A) (h2 : c = false → B) : if c = true then A else B := by
  cases c with
  | true => exact iteT (h1 rfl)
  | false => exact iteF (h2 rfl)

/-! ### constants of the top -/
def HasInt (K : PySem.W.Frag) (x : Str) (n : Int) : Prop := ∃ (t : Tok) (m : Int), PySem.W.nsIn K mainGlobals x = some (some (.int m t)) ∧ m = n
def KTup (K : PySem.W.Frag) (a : Addr) (xs : List V) : Prop := ∃ (od : Option Addr) (its : Array Value) (n : Nat) (sl : Array (Option Value)), K.lookup a = some ⟨.type "tuple", od, .seq its n, sl⟩ ∧ its.size ≤ sizeLine ∧ Vals xs its.toList
def HasTup (K : PySem.W.Frag) (x : Str) (xs : List V) : Prop := ∃ a, PySem.W.nsIn K mainGlobals x = some (some (.ref a)) ∧ KTup K a xs
theorem KTup.sq {K : PySem.W.Frag} {a : Addr} {xs : List V} (h : KTup K a xs) (H : Hp) : SqT K H a xs := by
  obtain ⟨od, its, n, sl, e, z, v⟩ := h
  exact .inr ⟨_, its, n, e, rfl, rfl, z, v⟩
/-- the module's names, as the defs see them -/
def GInt (mg : Str → Option Value) (x : Str) (n : Int) : Prop := ∃ t, mg x = some (.int n t)
def GTup (K : PySem.W.Frag) (mg : Str → Option Value) (x : Str) (xs : List V) : Prop := ∃ a, mg x = some (.ref a) ∧ KTup K a xs
theorem HasInt.g {K : PySem.W.Frag} {mg : Str → Option Value} {h : Heap} {x : Str} {n : Int} (i : HasInt K x n) (X : K.In h) (G : h.Ns mainGlobals mg) : GInt mg x n := by
  obtain ⟨t, m, e, rfl⟩ := i
  exact ⟨t, PySem.W.mg_of X G e⟩
theorem HasTup.g {K : PySem.W.Frag} {mg : Str → Option Value} {h : Heap} {x : Str} {xs : List V} (i : HasTup K x xs) (X : K.In h) (G : h.Ns mainGlobals mg) : GTup K mg x xs := by
  obtain ⟨a, e, k⟩ := i
  exact ⟨a, PySem.W.mg_of X G e, k⟩
section
variable {X : Cx} {x : Str} {pos : Pos}
theorem pe_globI {n : Int} (h : GInt X.mg x n) (hg : Gl X x) (hd : (x == ("__debug__" : Str)) = false := by decide) : PE X (.Name x pos) (tC (.int n)) := by
  obtain ⟨t, e⟩ := h
  exact pe_glob hg e ⟨t, rfl⟩ hd
/-- a tuple of the top: it is read as xs, wherever it stands -/
def tGT (K : PySem.W.Frag) (xs : List V) : TE := fun _ H Q => ∀ a, KTup K a xs → Q (.ref a) H
theorem pe_globT {xs : List V} (h : GTup X.K X.mg x xs) (hg : Gl X x) (hd : (x == ("__debug__" : Str)) = false := by decide) : PE X (.Name x pos) (tGT X.K xs) := by
  obtain ⟨a, e, k⟩ := h
  exact ⟨fun pins s σ H Q I q => (pe_glob (v := .ref a) hg e rfl hd).run pins s σ H Q I (q a k)⟩
end

/-! ### // by any divisor but 0 -/
def CDivX (_ j : Int) : Prop := j ≠ 0 ∧ j.natAbs.log2 < 9000
theorem op_fdivX {X : Cx} : OpR X (binaryOp .FloorDiv) (rI CDivX fun i j => .int (i.fdiv j)) := opI fun _ _ _ _ _ _ _ hc q => floordiv_int hc.1 q (.inl (PyProof.noPylong_of_log2 hc.2))
theorem fdiv_le_pos (i : Int) {j : Int} (hj : 0 < j) : (i.fdiv j).natAbs ≤ i.natAbs + 1 := by
  have e := Int.mul_fdiv_add_fmod i j
  have h0 := Int.fmod_nonneg_of_pos i hj
  have h1 := Int.fmod_lt_of_pos i hj
  have a : (i.fdiv j).natAbs ≤ (j * i.fdiv j).natAbs := by
    rw [Int.natAbs_mul]; exact Nat.le_mul_of_pos_left _ (by omega)
  by_cases hi : 0 ≤ i
  · have : 0 ≤ i.fdiv j := Int.fdiv_nonneg hi (by omega)
    have : 0 ≤ j * i.fdiv j := Int.mul_nonneg (by omega) this
    omega
  · have q : i.fdiv j ≤ -1 := by
      by_cases z : 0 ≤ i.fdiv j
      · have := Int.mul_nonneg (show 0 ≤ j by omega) z
        omega
      · omega
    have r : -1 + i ≤ i.fdiv j := by
      have : i.fdiv j * (j - 1) ≤ (-1) * (j - 1) := Int.mul_le_mul_of_nonneg_right q (by omega)
      have e2 : j * i.fdiv j = i.fdiv j * (j - 1) + i.fdiv j := by rw [Int.mul_sub, Int.mul_one, Int.mul_comm]; omega
      omega
    omega
theorem fdiv_le (i j : Int) : (i.fdiv j).natAbs ≤ i.natAbs + 1 := by
  by_cases h : 0 < j
  · exact fdiv_le_pos i h
  · by_cases h2 : j = 0
    · subst h2; rw [Int.fdiv_zero]; omega
    · have e : i.fdiv j = (-i).fdiv (-j) := by rw [Int.neg_fdiv_neg]
      have := fdiv_le_pos (-i) (show 0 < -j by omega)
      rw [e]; omega

/-! ### how long a shown thing is at most -/
structure Sm (d : PyData) (dp N : Nat) : Prop where
  ok : d.showable = true
  dp : d.depth ≤ dp
  sz : d.shown.length ≤ N
structure SmAll (ds : List PyData) (dp n N : Nat) : Prop where
  ok : PyData.showableAll ds = true
  dp : PyData.depthAll ds ≤ dp
  len : ds.length ≤ n
  sz : ((PyData.shownAll ds).map (·.length)).sum ≤ N
theorem Sm.show {d : PyData} {dp N : Nat} (h : Sm d dp N) (h1 : dp ≤ 60) (h2 : N ≤ sizeLine) : ShowOk d := ⟨h.ok, Nat.le_trans h.dp h1, Nat.le_trans h.sz h2⟩
theorem Sm.mono {d : PyData} {dp N dp' N' : Nat} (h : Sm d dp N) (h1 : dp ≤ dp') (h2 : N ≤ N') : Sm d dp' N' := ⟨h.ok, Nat.le_trans h.dp h1, Nat.le_trans h.sz h2⟩
theorem shownAll_length : ∀ ds : List PyData, (PyData.shownAll ds).length = ds.length
  | [] => rfl
  | d :: ds => by simp [PyData.shownAll, shownAll_length ds]
theorem Sm.int {i : Int} (h : i.natAbs < 2 ^ 1900) : Sm (.int i) 0 2000 := by
  have hl : i.natAbs.log2 < 1900 := PySem.Flt.log2_lt_of (by decide) h
  refine ⟨?_, Nat.le_refl 0, ?_⟩
  · simp only [PyData.showable, decide_eq_true_eq]; omega
  · have e := int_text_length_le (k := 1900) (by decide) hl
    show (Str.ofString (toString i)).length ≤ 2000
    rw [PySem.ofString_length]; omega
theorem Sm.bool (b : Bool) : Sm (.bool b) 0 10 := ⟨rfl, Nat.le_refl 0, by cases b <;> decide +kernel⟩
theorem Sm.none : Sm .none 0 10 := ⟨rfl, Nat.le_refl 0, by decide +kernel⟩
theorem Sm.str {x : Str} {n : Nat} (h : x.length ≤ n) (hc : ∀ c ∈ x.cps.toList, c < 16 ^ 8) : Sm (.str x) 0 (10 * n + 2) := ⟨rfl, Nat.le_refl 0, by
  have e := PySem.StrLaws.reprText_len x hc
  show (reprText x).length ≤ _
  omega⟩
theorem SmAll.nil : SmAll [] 0 0 0 := ⟨rfl, Nat.le_refl 0, Nat.le_refl 0, Nat.le_refl 0⟩
theorem SmAll.cons {d : PyData} {ds : List PyData} {dp dp' n N M : Nat} (h : Sm d dp N) (t : SmAll ds dp' n M) : SmAll (d :: ds) (max dp dp') (n + 1) (N + M) := by
  have h1 := h.dp
  have h2 := t.dp
  refine ⟨by simp [PyData.showableAll, h.ok, t.ok], ?_, by have := t.len; simp; omega, ?_⟩
  · simp only [PyData.depthAll]; omega
  · have := h.sz
    have := t.sz
    simp only [PyData.shownAll, List.map_cons, List.sum_cons]; omega
theorem Sm.tup {ds : List PyData} {dp n N : Nat} (h : SmAll ds dp n N) : Sm (.tuple ds) (dp + 1) (N + 2 * n + 3) := by
  refine ⟨by simpa [PyData.showable] using h.ok, by simp only [PyData.depth]; have := h.dp; omega, ?_⟩
  have e := tupleText_len_le (PyData.shownAll ds)
  have := h.sz
  have := h.len
  rw [shownAll_length] at e
  show (tupleText (PyData.shownAll ds)).length ≤ _
  omega
theorem Sm.lst {ds : List PyData} {dp n N : Nat} (h : SmAll ds dp n N) : Sm (.list ds) (dp + 1) (N + 2 * n + 3) := by
  refine ⟨by simpa [PyData.showable] using h.ok, by simp only [PyData.depth]; have := h.dp; omega, ?_⟩
  have e := listText_len_le (PyData.shownAll ds)
  have := h.sz
  have := h.len
  rw [shownAll_length] at e
  show (listText (PyData.shownAll ds)).length ≤ _
  omega
theorem SmAll.many {dp N : Nat} : ∀ {ds : List PyData}, (∀ d ∈ ds, Sm d dp N) → SmAll ds dp ds.length (N * ds.length)
  | [], _ => ⟨rfl, Nat.zero_le _, Nat.le_refl 0, Nat.zero_le _⟩
  | d :: ds, h => by
    have t := SmAll.cons (h d (by simp)) (SmAll.many (fun e he => h e (List.mem_cons_of_mem _ he)))
    rw [Nat.max_self] at t
    refine ⟨t.ok, t.dp, t.len, Nat.le_trans t.sz ?_⟩
    rw [List.length_cons, Nat.mul_succ]; omega
theorem sz_0 : (0 : Nat) ≤ sizeLine := by decide
theorem sz_1 : (1 : Nat) ≤ sizeLine := by decide
theorem sz_2 : (2 : Nat) ≤ sizeLine := by decide
theorem sz_3 : (3 : Nat) ≤ sizeLine := by decide
theorem sz_4 : (4 : Nat) ≤ sizeLine := by decide
theorem sz_5 : (5 : Nat) ≤ sizeLine := by decide
/-! ### the ends: each premise a fact that k_is finds -/
theorem HasFn.mk' {K : PySem.W.Frag} {x : Str} {st : Stmt} {f : Addr} {oc : Value} {od an : Option Addr} {kV doc pm cdv ct : Value} {osl : Array (Option Value)} (a : PySem.W.nsIn K mainGlobals x = some (some (.ref f)))
    (b : K.lookup f = some ⟨oc, od, .func (PySem.W.fnOf x x (defArgs st) (defBody st) (defScope st) .none kV doc pm an cdv ct), osl⟩) (c : PySem.W.codeIn K cdv x = true) (d : PySem.W.keepIn K (.ref f) = true) : HasFn K x st :=
  ⟨f, oc, od, an, kV, doc, pm, cdv, ct, osl, a, b, c, d⟩
theorem HasInt.mk' {K : PySem.W.Frag} {x : Str} {n m : Int} {t : Tok} (a : PySem.W.nsIn K mainGlobals x = some (some (.int m t))) (e : m = n) : HasInt K x n := ⟨t, m, a, e⟩
theorem HasTup.mk' {K : PySem.W.Frag} {x : Str} {xs : List V} {a : Addr} {od : Option Addr} {its : Array Value} {n : Nat} {sl : Array (Option Value)} (h : PySem.W.nsIn K mainGlobals x = some (some (.ref a)))
    (b : K.lookup a = some ⟨.type "tuple", od, .seq its n, sl⟩) (z : its.size ≤ sizeLine) (v : Vals xs its.toList) : HasTup K x xs := ⟨a, h, od, its, n, sl, b, z, v⟩
/-! ### what the laws' helpers promise -/
/-! the digits and the place -/
def BoxAt (H : Hp) (p dl : Addr) : Prop := ∃ (ds : List Int) (k : Int), H p = some (.lst [.ref dl, .int k]) ∧ 0 ≤ k ∧ H dl = some (.lst (ds.map V.int)) ∧ ds.length ≤ 4000 ∧ ∀ d ∈ ds, 0 ≤ d ∧ d < 1000
theorem BoxAt.at_ {H : Hp} {p dl : Addr} (h : BoxAt H p dl) : ∃ xs, H p = some (.lst xs) := let ⟨_, _, a, _⟩ := h; ⟨_, a⟩
theorem BoxAt.dg {H : Hp} {p dl : Addr} (h : BoxAt H p dl) : ∃ xs, H dl = some (.lst xs) := let ⟨_, _, _, _, c, _⟩ := h; ⟨_, c⟩
def Keep (p : Addr) (H H' : Hp) : Prop := ∀ b o, H b = some o → b ≠ p → H' b = some o
def spDraw (K : PySem.W.Frag) : Sp := fun vs H Q _ => ∃ (p dl : Addr) (m : Int), vs = [.ref p, .int m] ∧ BoxAt H p dl ∧ 0 < m ∧ ∀ r H', 0 ≤ r → r < m → BoxAt H' p dl → Keep p H H' → Q (.int r) H'
def spCell (K : PySem.W.Frag) : Sp := fun vs H Q _ => ∃ (a : Addr) (ns : List Int) (i : Int), vs = [.ref a, .int i] ∧ SqL K H a (ns.map V.int) ∧ 0 ≤ i ∧ ∀ r, Q (.int r) H
def DigAt (H0 H : Hp) (dl : Addr) (n : Nat) : Prop := ∃ ds : List Int, H dl = some (.lst (ds.map V.int)) ∧ ds.length ≤ n ∧ (∀ d ∈ ds, 0 ≤ d ∧ d < 1000) ∧ Same H0 H
theorem DigAt.mono {H0 H : Hp} {dl : Addr} {n m : Nat} (h : DigAt H0 H dl n) (l : n ≤ m) : DigAt H0 H dl m := let ⟨ds, a, b, c, d⟩ := h; ⟨ds, a, by omega, c, d⟩
theorem DigAt.add {H0 H : Hp} {dl : Addr} {n : Nat} {r : Int} {xs : List V} (h : DigAt H0 H dl n) (hx : H dl = some (.lst xs)) (nd : H0 dl = none) (h0 : 0 ≤ r) (h1 : r < 1000) : DigAt H0 (upd H dl (.lst (xs ++ [.int r]))) dl (n + 1) := by
  obtain ⟨ds, a, b, c, d⟩ := h
  rw [hx] at a
  obtain rfl := HO.lst.inj (Option.some.inj a)
  refine ⟨ds ++ [r], by rw [upd_same, List.map_append]; rfl, by simp; omega, fun z hz => ?_, fun q o e => by rw [upd_ne (ne_of_none e nd)]; exact d q o e⟩
  rcases List.mem_append.mp hz with hz | hz
  · exact c z hz
  · have : z = r := by simpa using hz
    omega
def spDigits (K : PySem.W.Frag) : Sp := fun vs H Q _ => ∃ (a : Addr) (ns : List Int) (lo hi : Nat), vs = [.ref a, .int lo, .int hi] ∧ SqL K H a (ns.map V.int) ∧ lo ≤ hi ∧ hi ≤ 64 ∧
  ∀ (p : Addr) (H' : Hp), H p = none → DigAt H H' p 4000 → Q (.ref p) H'
def spBound : Sp := fun vs H Q _ => vs = [] ∧ Q (.int (2 ^ 256)) H
theorem Keep.trans {p : Addr} {H H1 H2 : Hp} (a : Keep p H H1) (b : Keep p H1 H2) : Keep p H H2 := fun c o h ne => b c o (a c o h ne) ne
theorem Keep.refl (p : Addr) (H : Hp) : Keep p H H := fun _ _ h _ => h
def Sgn (z : Int) : Prop := z = 1 ∨ z = -1
theorem Sgn.mul {z n : Int} (h : Sgn z) : (z * n).natAbs = n.natAbs := by
  rcases h with rfl | rfl <;> omega
theorem Sgn.wide {z n : Int} (h : Sgn z) (hn : n.natAbs < 2 ^ 300) : CMulW z n := wide_mul (a := 2) (b := 300) (by rcases h with rfl | rfl <;> decide) hn (by decide) (by decide) (by decide)
def spNumber (K : PySem.W.Frag) : Sp := fun vs H Q _ => ∃ (p dl : Addr), vs = [.ref p] ∧ BoxAt H p dl ∧ ∀ (n : Int) H', n.natAbs < 2 ^ 260 → BoxAt H' p dl → Keep p H H' → Q (.int n) H'
def spSame (K : PySem.W.Frag) : Sp := fun vs H Q _ => ∃ (x y : V) (d : PyData), vs = [x, y] ∧ Dp K H x d ∧ Dp K H y d ∧ ShowOk d ∧ Q (.bl true) H
theorem Same.keep {p : Addr} {H H' : Hp} (e : Same H H') : Keep p H H' := fun b o h _ => e b o h
theorem BoxAt.same {p dl : Addr} {H H' : Hp} (h : BoxAt H p dl) (e : Same H H') : BoxAt H' p dl := by
  obtain ⟨ds, k, a, b, c, d⟩ := h
  exact ⟨ds, k, e _ _ a, b, e _ _ c, d⟩
theorem BoxAt.upd {p dl l : Addr} {H : Hp} {o : HO} (h : BoxAt H p dl) (h1 : l ≠ p) (h2 : l ≠ dl) : BoxAt (L2.upd H l o) p dl := by
  obtain ⟨ds, k, a, b, c, d⟩ := h
  exact ⟨ds, k, by rw [upd_ne (Ne.symm h1)]; exact a, b, by rw [upd_ne (Ne.symm h2)]; exact c, d⟩
theorem strOk (s : Str) (h : s.cps.toList.all (fun c => decide (c < 16 ^ 8)) = true) : ∀ c ∈ s.cps.toList, c < 16 ^ 8 := fun c hc => of_decide_eq_true (List.all_eq_true.mp h c hc)

/-! ### data without lists: what no change of a list can reach -/
mutual
inductive Dt (K : PySem.W.Frag) (H : Hp) : V → PyData → Prop
  | non : Dt K H .non .none
  | bl (b : Bool) : Dt K H (.bl b) (.bool b)
  | int (i : Int) : Dt K H (.int i) (.int i)
  | str (x : Str) : Dt K H (.str x) (.str x)
  | tup {a : Addr} {xs : List V} {ds : List PyData} : SqT K H a xs → DtAll K H xs ds → Dt K H (.ref a) (.tuple ds)
inductive DtAll (K : PySem.W.Frag) (H : Hp) : List V → List PyData → Prop
  | nil : DtAll K H [] []
  | cons {v : V} {vs : List V} {d : PyData} {ds : List PyData} : Dt K H v d → DtAll K H vs ds → DtAll K H (v :: vs) (d :: ds)
end
mutual
theorem Dt.dp {K : PySem.W.Frag} {H : Hp} : ∀ {v : V} {d : PyData}, Dt K H v d → Dp K H v d
  | _, _, .non => .non
  | _, _, .bl b => .bl b
  | _, _, .int i => .int i
  | _, _, .str x => .str x
  | _, _, .tup h a => .tup h (DtAll.dp a)
theorem DtAll.dp {K : PySem.W.Frag} {H : Hp} : ∀ {vs : List V} {ds : List PyData}, DtAll K H vs ds → DpAll K H vs ds
  | _, _, .nil => .nil
  | _, _, .cons h a => .cons (Dt.dp h) (DtAll.dp a)
end
/-- every tuple that H reads H' reads as well -/
def KeepT (K : PySem.W.Frag) (H H' : Hp) : Prop := ∀ a xs, SqT K H a xs → SqT K H' a xs
mutual
theorem Dt.keepT {K : PySem.W.Frag} {H H' : Hp} (e : KeepT K H H') : ∀ {v : V} {d : PyData}, Dt K H v d → Dt K H' v d
  | _, _, .non => .non
  | _, _, .bl b => .bl b
  | _, _, .int i => .int i
  | _, _, .str x => .str x
  | _, _, .tup h a => .tup (e _ _ h) (DtAll.keepT e a)
theorem DtAll.keepT {K : PySem.W.Frag} {H H' : Hp} (e : KeepT K H H') : ∀ {vs : List V} {ds : List PyData}, DtAll K H vs ds → DtAll K H' vs ds
  | _, _, .nil => .nil
  | _, _, .cons h a => .cons (Dt.keepT e h) (DtAll.keepT e a)
end
theorem KeepT.refl (K : PySem.W.Frag) (H : Hp) : KeepT K H H := fun _ _ h => h
theorem KeepT.trans {K : PySem.W.Frag} {H H1 H2 : Hp} (a : KeepT K H H1) (b : KeepT K H1 H2) : KeepT K H H2 := fun c xs h => b c xs (a c xs h)
theorem Same.keepT {K : PySem.W.Frag} {H H' : Hp} (e : Same H H') : KeepT K H H' := fun _ _ h => Same.tupl e h
theorem Keep.keepT {K : PySem.W.Frag} {p : Addr} {H H' : Hp} (e : Keep p H H') (hp : ∃ xs, H p = some (.lst xs)) : KeepT K H H' := fun a xs h => by
  obtain ⟨ys, hp⟩ := hp
  rcases h with (h | ⟨o, h⟩) | h
  · exact .inl (.inl (e _ _ h (ne_of h hp (by intro z; cases z))))
  · exact .inl (.inr ⟨o, e _ _ h (ne_of h hp (by intro z; cases z))⟩)
  · exact .inr h
theorem KeepT.upd {K : PySem.W.Frag} {p : Addr} {H : Hp} {o : HO} {xs : List V} (hp : H p = some (.lst xs)) : KeepT K H (upd H p o) :=
  Keep.keepT (p := p) (fun b u e hb => by rw [upd_ne hb]; exact e) ⟨xs, hp⟩
theorem Dt.mono {K : PySem.W.Frag} {H H' : Hp} {v : V} {d : PyData} (e : Same H H') (h : Dt K H v d) : Dt K H' v d := h.keepT (Same.keepT e)
theorem DtAll.mono {K : PySem.W.Frag} {H H' : Hp} {v : List V} {d : List PyData} (e : Same H H') (h : DtAll K H v d) : DtAll K H' v d := h.keepT (Same.keepT e)
theorem Dt.made {K : PySem.W.Frag} {H : Hp} {p : Addr} {xs : List V} {ds : List PyData} (hp : H p = none) (h : DtAll K H xs ds) : Dt K (L2.upd H p (.tup xs)) (.ref p) (.tuple ds) := .tup (SqT.of upd_same) (DtAll.mono (Same.new hp) h)
theorem DtAll.length {K : PySem.W.Frag} {H : Hp} {vs : List V} {ds : List PyData} (h : DtAll K H vs ds) : vs.length = ds.length := LK.DpAll.length h.dp
theorem DtAll.app {K : PySem.W.Frag} {H : Hp} : ∀ {vs ws : List V} {ds es : List PyData}, DtAll K H vs ds → DtAll K H ws es → DtAll K H (vs ++ ws) (ds ++ es)
  | _, _, _, _, .nil, t => t
  | _, _, _, _, .cons h a, t => .cons h (DtAll.app a t)
theorem DtAll.get {K : PySem.W.Frag} {H : Hp} : ∀ {vs : List V} {ds : List PyData} {i : Nat} {d : PyData}, DtAll K H vs ds → ds[i]? = some d → ∃ v, vs[i]? = some v ∧ Dt K H v d
  | _, _, 0, _, .cons h _, e => ⟨_, rfl, Option.some.inj e ▸ h⟩
  | _, _, i + 1, _, .cons _ a, e => DtAll.get (i := i) a e
theorem DtAll.getV {K : PySem.W.Frag} {H : Hp} : ∀ {vs : List V} {ds : List PyData} {i : Nat} {v : V}, DtAll K H vs ds → vs[i]? = some v → ∃ d, ds[i]? = some d ∧ Dt K H v d
  | _, _, 0, _, .cons h _, e => ⟨_, rfl, Option.some.inj e ▸ h⟩
  | _, _, i + 1, _, .cons _ a, e => DtAll.getV (i := i) a e
theorem Dt.tuple_inv {K : PySem.W.Frag} {H : Hp} {v : V} {ds : List PyData} (h : Dt K H v (.tuple ds)) : ∃ a xs, v = .ref a ∧ SqT K H a xs ∧ DtAll K H xs ds := by
  cases h with
  | tup h a => exact ⟨_, _, rfl, h, a⟩
theorem DtAll.cons_inv {K : PySem.W.Frag} {H : Hp} {vs : List V} {d : PyData} {ds : List PyData} (h : DtAll K H vs (d :: ds)) : ∃ v ws, vs = v :: ws ∧ Dt K H v d ∧ DtAll K H ws ds := by
  cases h with
  | cons h a => exact ⟨_, _, rfl, h, a⟩
theorem DtAll.nil_inv {K : PySem.W.Frag} {H : Hp} {vs : List V} (h : DtAll K H vs []) : vs = [] := by cases h; rfl
theorem Dt.int_inv {K : PySem.W.Frag} {H : Hp} {v : V} {i : Int} (h : Dt K H v (.int i)) : v = .int i := by cases h; rfl
theorem Dt.str_inv {K : PySem.W.Frag} {H : Hp} {v : V} {x : Str} (h : Dt K H v (.str x)) : v = .str x := by cases h; rfl
theorem Dt.bool_inv {K : PySem.W.Frag} {H : Hp} {v : V} {b : Bool} (h : Dt K H v (.bool b)) : v = .bl b := by cases h; rfl
theorem dtStrs {K : PySem.W.Frag} {H : Hp} : ∀ xs : List Str, DtAll K H (xs.map V.str) (xs.map PyData.str)
  | [] => .nil
  | x :: xs => .cons (.str x) (dtStrs xs)
end LK

set_option Elab.async false
set_option linter.all false
set_option maxRecDepth 100000
set_option maxHeartbeats 4000000
/-! enumerate of a tuple. -/
namespace LK
open PySem PySem.Spec PyProof.Rows L2
open AutoSeq1 (wpAny_loadPart')
open Sem (wp)
def enumObj (it : Addr) : Obj := { cls := .type "enumerate", data := .fields #[.none, .bool false, .ref it, rawInt 0, .none, .none] }
def tupIt (t : Addr) : Obj := { cls := .type "tuple_iterator", data := .fields #[.ref t, .int 0 0] }
theorem meets_enumT (t : Addr) (items : Array Value) (n : Nat) (dct : Option Addr) (sl : Array (Option Value)) :
    Meets (Builtin.«enumerate.__new__» ⟨[.type "enumerate", .ref t], []⟩) (fun _ R s => s.heap.get? t = some { cls := .type "tuple", dict := dct, data := .seq items n, slots := sl } ∧
      R (.ok (.ret (.ref (s.heap.push (tupIt t)).objs.size))) { s with heap := (s.heap.push (tupIt t)).push (enumObj s.heap.objs.size) }) :=
  .of_wp fun prog w A R s h => by
    obtain ⟨hp, g, d, tk, os⟩ := s
    obtain ⟨hl, h⟩ := h
    have hsub := sub_enumerate
    have hT : Heap.IsTuple (Shared.heap ⟨hp, g, d, tk, os⟩) t items := ⟨_, hl, rfl, n, rfl⟩
    wp_walk using wpAny_loadPart' hl
    refine wpAny_stack_any fun st => wpAny_pure ?_
    split
    · rename_i c _ _ _ _ _
      cases (c == Value.type "enumerate") <;> (wp_walk using wpAny_loadPart' hl, wpAny_pyIter_tuple hT; exact ⟨_, rfl, h⟩)
    · wp_walk using wpAny_loadPart' hl, wpAny_pyIter_tuple hT
      exact ⟨_, rfl, h⟩
section
variable {prog : Program} {w : World} {A : Around} {E : Value → Shared → Prop} {s : Shared}
theorem call_enumT {t : Addr} {items : Array Value} {Q : Value → Shared → Prop} (hT : s.heap.IsTuple t items)
    (h : ∀ h', IsEnum h' (s.heap.objs.size + 1) s.heap.objs.size 0 .none → h'.IsTupleIter s.heap.objs.size t 0 → (∀ b o, s.heap.get? b = some o → h'.get? b = some o) → Q (.ref (s.heap.objs.size + 1)) { s with heap := h' }) :
    wpAny (model prog w) A (call (.type "enumerate") [.ref t]) Q E s := by
  obtain ⟨⟨c, dct, dt, sl⟩, hl, hc, n, hd⟩ := hT
  obtain rfl : c = .type "tuple" := hc
  obtain rfl : dt = .seq items n := hd
  refine callType_new F.called_enumerate (by decide) (F.typeCall_enumerate_1 _) (F.newCall_enumerate_1 _) (fun obj => F.args_object_init_2 obj _) F.entry_enumerate_new (meets_enumT t items n dct sl) ⟨hl, ?_⟩
  have hz : (s.heap.push (tupIt t)).objs.size = s.heap.objs.size + 1 := Heap.size_push ..
  have he : IsEnum ((s.heap.push (tupIt t)).push (enumObj s.heap.objs.size)) (s.heap.objs.size + 1) s.heap.objs.size 0 .none := by
    have q := Heap.get?_push_size (s.heap.push (tupIt t)) (o := enumObj s.heap.objs.size) rfl
    rw [hz] at q
    exact q
  show _ ∧ _
  rw [hz]
  exact ⟨⟨_, he, rfl⟩, h _ he (Heap.get?_push_of_some _ (Heap.get?_push_size _ rfl) |> fun q => ⟨_, q, rfl, rfl⟩) fun b o x => Heap.get?_push_of_some _ (Heap.get?_push_of_some _ x)⟩
end
/-- the tuple at a, each item in a new pair with its place -/
def IteT (K : PySem.W.Frag) (a : Addr) : It where
  go := fun i H => ∃ (xs : List V) (x : V), SqT K H a xs ∧ xs[i]? = some x
  yld := fun i H v H' => ∃ T x, v = .ref T ∧ H T = none ∧ H' = upd H T (.tup [.int (i : Nat), x]) ∧ ∀ xs, SqT K H a xs → xs[i]? = some x
  stop := fun i H => ∃ xs : List V, SqT K H a xs ∧ xs.length = i
theorem turn_enumT {P : Program} {w : World} {K : PySem.W.Frag} {elts : List Expr} {kk : Nat} {tpos : Pos} (a e it : Addr) :
    Turn P w K (.Tuple elts kk tpos) (IteT K a) [e, it] e (fun i h => (∃ old, IsEnum h e it ((i : Nat) : Int) old) ∧ h.IsTupleIter it a i ∧ e ≠ it) where
  mem := List.mem_cons_self
  obj := fun i h st b hb => by
    obtain ⟨⟨old, he⟩, ⟨o, ho, hc, hd⟩, _⟩ := st
    have hb : b = e ∨ b = it := by simpa using hb
    rcases hb with rfl | rfl
    · exact ⟨_, he, fun v q => nomatch q⟩
    · exact ⟨o, ho, fun v q => by rw [hd] at q; cases q⟩
  keep := fun i h h' st k => by
    obtain ⟨⟨old, he⟩, hi, hne⟩ := st
    exact ⟨⟨old, k e (by simp) _ he⟩, hi.at fun o q => k it (by simp) o q, hne⟩
  item := by
    intro X hP hw hK hc i pins s σ H E I hf st hg
    subst hP hw hK
    obtain ⟨⟨old, he⟩, hit, hne⟩ := st
    obtain ⟨xs, x, hq, hx⟩ := hg
    obtain ⟨its, rv, p, hz⟩ := I.tuple hq
    obtain ⟨u, hu, ru⟩ := rv.get hx
    have hel : e < s.heap.objs.size := Heap.lt_size he
    have hil : it < s.heap.objs.size := by obtain ⟨_, q, _⟩ := hit; exact Heap.lt_size q
    have hat : a ≠ it := by
      intro z
      subst z
      obtain ⟨o, q1, c1, _⟩ := hit
      obtain ⟨o', q2, c2, _⟩ := p
      rw [q1] at q2; cases q2
      exact absurd (Value.type.inj (c1.symm.trans c2)) (by decide)
    have D := Draws.tuple (prog := X.prog) (w := X.w) (A := X.A.in1) (I.ok.hd hc) it a hat its.toArray
    have Dst : (fun i (h : Heap) => h.IsTupleIter it a i ∧ h.IsTuple a its.toArray) i s.heap := ⟨hit, p⟩
    have eat : e ≠ a := by
      intro z
      subst z
      obtain ⟨o', q2, c2, _⟩ := p
      rw [he] at q2; cases q2
      exact absurd (Value.type.inj c2) (by decide)
    have hi : i < its.toArray.size := by
      have := (List.getElem?_eq_some_iff.mp hu).1
      simpa using this
    refine wpAny_pyNext_enum_itemD D he Dst hi hne (by simp [hne, eat]) fun v h' tk hv ho hst hT hsz hk => ?_
    obtain rfl : v = u := by
      have hv : its.toArray[i]? = some v := hv
      rw [show its.toArray[i]? = some u by simpa using hu] at hv
      exact (Option.some.inj hv).symm
    refine ⟨_, rfl, wpAny_letOwnedTupleGo_enum (s := { s with heap := h', toks := tk + 1 }) ho fun h'' he' sb => ?_⟩
    have hT2 := (sb.2 _ (Nat.ne_of_gt hel)).trans hT
    have new : ObjOk X.prog X.w (upd H s.heap.objs.size (.tup [.int (i : Nat), x])) h'' s.heap.objs.size (.tup [.int (i : Nat), x]) :=
      ⟨by show 2 ≤ sizeLine; decide, [.int i tk, v], .cons ⟨_, rfl⟩ (.cons ru .nil), ⟨_, hT2, rfl, _, rfl⟩⟩
    have I1 : Inv X pins σ (upd H s.heap.objs.size (.tup [.int (i : Nat), x])) { s with heap := h'', toks := tk + 1 } :=
      I.turnedNew (ch := [e, it]) (fun b ob hb q => (sb.2 b (fun z => hb (by simp [z]))).trans (hk b ob (fun z => hb (by simp [z])) (fun z => hb (by simp [z])) q)) hf (Nat.le_refl _) new
    refine ⟨.ref s.heap.objs.size, _, I1, rfl, ⟨_, x, rfl, I.hok.fresh (Nat.le_refl _), rfl, fun ys hy => by rw [I.tuple_inj hy hq]; exact hx⟩, ⟨⟨v, ?_⟩, hst.1.at fun o q => (sb.2 it (Ne.symm hne)).trans q, hne⟩, fun b hb => ?_⟩
    · rw [show ((i + 1 : Nat) : Int) = (i : Int) + 1 by omega]
      exact he'
    · have hb' : b < s.heap.objs.size := by
        have z : b = e ∨ b = it := by simpa using hb
        rcases z with rfl | rfl <;> assumption
      rw [upd_ne (Nat.ne_of_lt hb')]
      exact (hf b hb).1
  done := by
    intro X hP hw hK hc i pins s σ H E I hf st hg
    subst hP hw hK
    obtain ⟨⟨old, he⟩, hit, hne⟩ := st
    obtain ⟨xs, hq, hx⟩ := hg
    obtain ⟨its, rv, p, hz⟩ := I.tuple hq
    obtain ⟨f0, f1, f2, f3, f4, f5⟩ := hf it (by simp)
    have hl := rv.length
    have hat : a ≠ it := by
      intro z
      subst z
      obtain ⟨o, q1, c1, _⟩ := hit
      obtain ⟨o', q2, c2, _⟩ := p
      rw [q1] at q2; cases q2
      exact absurd (Value.type.inj (c1.symm.trans c2)) (by decide)
    have D := Draws.tuple (prog := X.prog) (w := X.w) (A := X.A.in1) (I.ok.hd hc) it a hat its.toArray
    have hn : i = its.toArray.size := by simp; omega
    subst hn
    exact wpAny_pyNext_enum_endD D he ⟨hit, p⟩ fun h' eb => ⟨rfl, I.turned (t' := s.toks) (fun b o hb q => eb b o hb q) f0 f1 f3 f4 f5⟩
  self := fun A i s Q E st h => let ⟨⟨_, he⟩, _⟩ := st; wpAny_pyIter_enum he h
def iEnumT (K : PySem.W.Frag) (ta : TA) : TI := fun σ H R => ta σ H fun vs H1 => ∃ a xs, vs = [.ref a] ∧ SqT K H1 a xs ∧ R (IteT K a) H1
theorem pi_enumT {X : Cx} {e : Expr} {ta : TA} {p pos tpos : Pos} {elts : List Expr} {kk : Nat} (hg : Gl X "enumerate") (hm : X.mg "enumerate" = none) (ha : PA X [e] ta) (hs : starEach [e] X.env = [(false, eval e X.env)] := by rfl) :
    PI X (.Tuple elts kk tpos) (.Call (.Name "enumerate" p) [e] [] pos) (iEnumT X.K ta) := by
  refine ⟨fun pins s σ H R I h => ?_⟩
  refine Call_ (ld_blt I hg hm boot_enumerate (PyProof.Rows.callWith_type1 (thn (ha.run pos pins s σ H _ I h) fun us s1 ⟨vs, H1, I1, r1, q1⟩ => ?_) hs rfl))
  obtain ⟨a, xs, rfl, hq, q⟩ := q1
  cases r1 with
  | cons r rr =>
    cases rr
    cases r
    obtain ⟨its, rv, p', hz⟩ := I1.tuple hq
    refine call_enumT (show s1.heap.IsTuple a its.toArray from p') fun h' he hit hk => wpAny_pyIter_enum he ?_
    refine ⟨s1.heap.objs.size + 1, [s1.heap.objs.size + 1, s1.heap.objs.size], _, _, H1, rfl, I1.kept (t' := s1.toks) hk, turn_enumT a (s1.heap.objs.size + 1) s1.heap.objs.size, ⟨⟨.none, he⟩, hit, Nat.succ_ne_self _⟩, fun b hb => ?_, q⟩
    have hle : s1.heap.objs.size ≤ b := by
      have z : b = s1.heap.objs.size + 1 ∨ b = s1.heap.objs.size := by simpa using hb
      rcases z with rfl | rfl <;> omega
    exact I1.fpOk hle (I1.hok.fresh hle)
theorem walk_enumT {K : PySem.W.Frag} {a : Addr} {xs : List V} : Walk (IteT K a) xs.length (fun H => SqT K H a xs) (YPair (fun i => some (.int (i : Nat))) (fun i => xs[i]?)) := by
  refine ⟨fun i _ hi q => ⟨xs, xs[i], q, by simp [hi]⟩, fun _ q => ⟨xs, q, rfl⟩, fun i H v H' _ q y => ?_⟩
  obtain ⟨T, x, h1, h2, h3, h4⟩ := y
  exact ⟨T, .int (i : Nat), x, h1, h2, h3, rfl, h4 xs q⟩

/-! ### comprehensions whose items are data -/
theorem tYes_of {σ : L2.St} {H : Hp} {P R : Hp → Prop} (h : P H) : tYes σ H fun b H3 => if b = true then P H3 else R H3 := by
  show (if true = true then P H else R H)
  rw [if_pos rfl]
  exact h
/-- each turn gives data and leaves what stood; no test -/
theorem lc_dt {K : PySem.W.Frag} {J : It} {n : Nat} {G : Hp → Prop} {Y : Nat → Hp → V → Hp → Prop} (w : Walk J n G Y) {g : TG} {te : TE} {vs : List Nat} {σ : L2.St} {H : Hp} {D : Addr} {Qd : Hp → Prop} (hD : H D = none) (ds : List PyData) (hn : ds.length = n) (hz : n < sizeLine)
    (hG : ∀ H', Same H H' → G H')
    (hs : ∀ i x H1 H2 d (Nx : V → Hp → Prop), i < n → ds[i]? = some d → Same H H1 → (∃ acc, H1 D = some (.lst acc)) → Y i H1 x H2 → (∀ y H5, Same H1 H5 → Dt K H5 y d → Nx y H5) →
      g x (wipe σ vs) H2 fun σ2 H3 => wipe σ2 vs = wipe σ vs ∧ te σ2 H3 Nx)
    (hd : ∀ H' acc, Same H H' → H' D = some (.lst acc) → DtAll K H' acc ds → Qd H')
    (mono : ∀ x σ H Q Q', (∀ σ' H', Q σ' H' → Q' σ' H') → g x σ H Q → g x σ H Q') :
    ∃ W : Nat → Nat → Hp → Prop, (∃ m, W 0 m (upd H D (.lst []))) ∧ ∀ i m H, W i m H →
      (J.stop i H ∧ Qd H) ∨ (J.go i H ∧ ∃ Nx : Hp → Prop, (∀ H', Nx H' → ∃ m', m' < m ∧ W (i + 1) m' H') ∧ ∀ x H', J.yld i H x H' → g x (wipe σ vs) H' fun σ2 H2 => wipe σ2 vs = wipe σ vs ∧ tYes σ2 H2 fun b H3 =>
        if b = true then te σ2 H3 fun y H4 => ∃ acc, H4 D = some (.lst acc) ∧ acc.length < sizeLine ∧ Nx (upd H4 D (.lst (acc ++ [y]))) else Nx H3) := by
  refine lc_it w (fun i H' => ∃ acc, H' D = some (.lst acc) ∧ DtAll K H' acc (ds.take i) ∧ Same H H') ⟨[], upd_same, .nil, Same.new hD⟩ (fun i H' _ h => let ⟨_, _, _, s⟩ := h; hG H' s) (fun i x H1 H2 hi h y => ?_) fun H' h => ?_
  · obtain ⟨acc, a1, a2, a3⟩ := h
    have hi' : i < ds.length := by omega
    have hg := hs i x H1 H2 ds[i] (fun y H4 => ∃ acc, H4 D = some (.lst acc) ∧ acc.length < sizeLine ∧ ∃ acc', upd H4 D (.lst (acc ++ [y])) D = some (.lst acc') ∧ DtAll K (upd H4 D (.lst (acc ++ [y]))) acc' (ds.take (i + 1)) ∧ Same H (upd H4 D (.lst (acc ++ [y]))))
      hi (List.getElem?_eq_getElem hi') a3 ⟨acc, a1⟩ y fun y H5 s hy => ?_
    · exact mono _ _ _ _ _ (fun σ2 H3 q => ⟨q.1, tYes_of q.2⟩) hg
    · have b1 := s _ _ a1
      have kt : KeepT K H5 (upd H5 D (.lst (acc ++ [y]))) := KeepT.upd b1
      refine ⟨acc, b1, ?_, _, upd_same, ?_, fun b o e => ?_⟩
      · rw [a2.length, List.length_take]; omega
      · rw [List.take_succ, List.getElem?_eq_getElem hi']
        exact DtAll.app (DtAll.keepT (KeepT.trans (Same.keepT s) kt) a2) (.cons (Dt.keepT kt hy) .nil)
      · rw [upd_ne (ne_of_none e hD)]
        exact s _ _ (a3 _ _ e)
  · obtain ⟨acc, a1, a2, a3⟩ := h
    rw [← hn, List.take_length] at a2
    exact hd H' acc a3 a1 a2
theorem mono_name {i : Nat} : ∀ x (σ : L2.St) (H : Hp) (Q Q' : L2.St → Hp → Prop), (∀ σ' H', Q σ' H' → Q' σ' H') → gName i x σ H Q → gName i x σ H Q' := fun _ _ _ _ _ h q => h _ _ q
theorem mono_tup2 {K : PySem.W.Frag} {i j n : Nat} : ∀ x (σ : L2.St) (H : Hp) (Q Q' : L2.St → Hp → Prop), (∀ σ' H', Q σ' H' → Q' σ' H') → gTup K n (gCons (gName i) (gCons (gName j) gNil)) x σ H Q → gTup K n (gCons (gName i) (gCons (gName j) gNil)) x σ H Q' := by
  rintro x σ H Q Q' h ⟨a, xs, e1, e2, e3, v, r, e4, v', r', e5, e6, q⟩
  exact ⟨a, xs, e1, e2, e3, v, r, e4, v', r', e5, e6, h _ _ q⟩
end LK

set_option Elab.async false
set_option linter.all false
set_option maxRecDepth 100000
set_option maxHeartbeats 4000000
set_option exponentiation.threshold 3000
/-! More rules: text * int, two rules at one place, what == says of data. -/
namespace LK
open PySem PySem.Spec PyProof.Rows L2
theorem at_of' {α : Type} {xs : List α} {z : Int} {j : Nat} {v : α} (e : z = (j : Int)) (h : xs[j]? = some v) : atI xs z = some v := by
  rw [e]
  exact atI_nat h
/-- z repeated k times, by its codes -/
def repC (z : List Nat) (k : Int) : List Nat := (List.replicate k.toNat z).flatten
def repS (z : Str) (k : Int) : Str := ⟨(repC z.cps.toList k).toArray⟩
theorem repC_length (z : List Nat) (k : Int) : (repC z k).length = k.toNat * z.length := by simp [repC]
theorem foldl_arr (z : Array Nat) : ∀ (n : Nat) (acc : Array Nat), (List.replicate n z).foldl (· ++ ·) acc = acc ++ (List.replicate n z.toList).flatten.toArray
  | 0, acc => by simp
  | n + 1, acc => by
    rw [List.replicate_succ, List.foldl_cons, foldl_arr z n, List.replicate_succ, List.flatten_cons]
    apply Array.ext'
    simp
def rRepS : R2 := fun x y H Q => ∃ (z : Str) (k : Int), x = .str z ∧ y = .int k ∧ -1000000000000 ≤ k ∧ k < 1000000000000 ∧ z.length * k.toNat ≤ 1000000 ∧ Q (.str (repS z k)) H
theorem repS_arr (z : Str) (k : Int) : (⟨(List.replicate k.toNat z.cps).foldl (· ++ ·) #[]⟩ : Str) = repS z k := by
  rw [foldl_arr]
  simp [repS, repC]
theorem op_rep_str {X : Cx} : OpR X (binaryOp .Mult) rRepS := by
  intro pins s σ H x y v u Q I rx ry h
  obtain ⟨z, k, rfl, rfl, h1, h2, h3, q⟩ := h
  obtain ⟨t, rfl⟩ := rx
  obtain ⟨t', rfl⟩ := ry
  have szl : (1000000 : Nat) ≤ sizeLine := by decide
  have e1 : ¬ k < 1 → k = (k.toNat : Int) := fun h => by omega
  refine PySem.P.mul_str ?_ (fun hk hz => ?_) (fun hk hz => ?_) ?_
  · rw [decide_eq_false (by omega), decide_eq_false (by omega)]; rfl
  · have e0 : z.length ≠ 0 := fun e => by rw [e] at hz; simp at hz
    have hd : (9223372036854775807 : Int) / k ≥ 1000000 := by
      apply Int.le_ediv_of_mul_le (by omega)
      have hlen : k.toNat ≤ 1000000 := Nat.le_trans (Nat.le_mul_of_pos_left _ (by omega)) h3
      omega
    have hl : z.length ≤ 1000000 := Nat.le_trans (Nat.le_mul_of_pos_right _ (by omega)) h3
    show ¬ ((z.length : Int) > 9223372036854775807 / k)
    omega
  · unfold Builtin.Str.tooLong
    simp
    omega
  · split
    · rename_i hk
      have e : repS z k = Str.empty := by
        have : k.toNat = 0 := by omega
        simp [repS, repC, this]; rfl
      refine ⟨by decide, .str _, H, I.tok _, ⟨_, rfl⟩, ?_⟩
      rw [← e]; exact q
    · rename_i hk
      split
      · rename_i hz
        have e : repS z k = z := by
          rcases Bool.or_eq_true_iff.mp hz with h | h
          · have : k = 1 := by simpa using h
            subst this
            simp [repS, repC]
          · have : z.cps.toList = [] := by
              have : z.cps.size = 0 := by simpa [Str.length] using h
              exact List.eq_nil_of_length_eq_zero (by simpa using this)
            have e2 : (List.replicate k.toNat ([] : List Nat)).flatten = [] := by simp
            unfold repS repC
            rw [this, e2]
            cases z with
            | mk c =>
              have : c = #[] := Array.toList_inj.mp (by simpa using this)
              subst this; rfl
        refine ⟨.str _, H, I, ⟨t, rfl⟩, ?_⟩
        rw [← e]; exact q
      · rw [repS_arr]
        refine ⟨?_, .str _, H, I.tok _, ⟨_, rfl⟩, q⟩
        show (repC z.cps.toList k).toArray.size ≤ sizeLine
        rw [List.size_toArray, repC_length]
        have : z.cps.toList.length = z.length := by simp [Str.length]
        rw [this, Nat.mul_comm]; omega
/-! ### the objects at the beginning -/
def clsNames : List Str := ["Exception", "ArithmeticError", "ZeroDivisionError", "OverflowError", "LookupError", "IndexError", "KeyError", "NameError", "AttributeError", "TypeError", "ValueError", "StopIteration", "RuntimeError", "RecursionError", "MemoryError", "HostError"]
def clsBases : List Int := [-1, 1, 2, 2, 1, 5, 5, 1, 1, 1, 1, 1, 1, 13, 1, 1]
def builtNames : List Str := ["print", "len", "range", "repr", "str", "int", "list", "tuple", "dict", "iter", "next", "isinstance", "abs"]
def clsVar (i : Nat) (n : Str) : PyData := .tuple [.str n, .tuple [.str "ref", .int ((i : Int) + 1)]]
def nameVar (k n : Str) : PyData := .tuple [.str n, .tuple [.str k, .str n]]
def clsObj (n : Str) (b : Int) : PyData := .tuple [.str "class", .str n, .int b, .tuple []]
def clsVars : List PyData := clsNames.mapIdx clsVar
def startVars (hs : List Str) : List PyData := clsVars ++ builtNames.map (nameVar "built") ++ hs.map (nameVar "host")
def startD (hs : List Str) : List PyData := .tuple [.str "scope", .tuple (startVars hs), .tuple [], .tuple [], .int (-1), .bool false] :: List.zipWith clsObj clsNames clsBases
/-- a list at p, of the data ds -/
def ListAt (K : PySem.W.Frag) (H : Hp) (p : Addr) (ds : List PyData) : Prop := ∃ xs, H p = some (.lst xs) ∧ DtAll K H xs ds
def spStart (K : PySem.W.Frag) : Sp := fun vs H Q _ => ∃ (t : Addr) (hs : List Str), vs = [.ref t] ∧ SqT K H t (hs.map V.str) ∧ hs.length ≤ 1000 ∧
  ∀ (p : Addr) (H' : Hp), H p = none → Same H H' → ListAt K H' p (startD hs) → Q (.ref p) H'
theorem at0 {α : Type} {x : α} {ws : List α} : atI (x :: ws) 0 = some x := at_of' (j := 0) rfl rfl
theorem at1 {α : Type} {x y : α} {ws : List α} : atI (x :: y :: ws) 1 = some y := at_of' (j := 1) rfl rfl
theorem at2 {α : Type} {x y z : α} {ws : List α} : atI (x :: y :: z :: ws) 2 = some z := at_of' (j := 2) rfl rfl
/-- a written pair, triple as it is read -/
theorem Dt.head {K : PySem.W.Frag} {H : Hp} {v : V} {z : Str} {rest : List PyData} (h : Dt K H v (.tuple (.str z :: rest))) : ∃ a ws, v = .ref a ∧ SqT K H a (.str z :: ws) ∧ DtAll K H ws rest := by
  obtain ⟨q, xs, rfl, hs, ha⟩ := h.tuple_inv
  obtain ⟨x, ws, rfl, h1, hw⟩ := ha.cons_inv
  cases h1.str_inv
  exact ⟨q, ws, rfl, hs, hw⟩
theorem Dt.pair {K : PySem.W.Frag} {H : Hp} {v : V} {z : Str} {d : PyData} (h : Dt K H v (.tuple [.str z, d])) : ∃ a x, v = .ref a ∧ SqT K H a [.str z, x] ∧ Dt K H x d := by
  obtain ⟨a, ws, rfl, hs, hw⟩ := h.head
  obtain ⟨x, ws', rfl, h1, hn⟩ := hw.cons_inv
  cases hn.nil_inv
  exact ⟨a, x, rfl, hs, h1⟩
theorem Dt.triple {K : PySem.W.Frag} {H : Hp} {v : V} {z : Str} {d e : PyData} (h : Dt K H v (.tuple [.str z, d, e])) : ∃ a x y, v = .ref a ∧ SqT K H a [.str z, x, y] ∧ Dt K H x d ∧ Dt K H y e := by
  obtain ⟨a, ws, rfl, hs, hw⟩ := h.head
  obtain ⟨x, ws', rfl, h1, hn⟩ := hw.cons_inv
  obtain ⟨y, ws'', rfl, h2, hn2⟩ := hn.cons_inv
  cases hn2.nil_inv
  exact ⟨a, x, y, rfl, hs, h1, h2⟩
theorem listAt_mono {K : PySem.W.Frag} {H H' : Hp} {p : Addr} {ds : List PyData} (h : ListAt K H p ds) (e : Same H H') : ListAt K H' p ds := by
  obtain ⟨xs, hx, ax⟩ := h
  exact ⟨xs, e _ _ hx, DtAll.mono e ax⟩
theorem eqv_nil (ds : List PyData) : PyData.eqv (.tuple ds) (.tuple []) = ds.isEmpty := by
  cases ds <;> simp [PyData.eqv, PyData.eqvAll]
theorem listAt_upd {K : PySem.W.Frag} {H : Hp} {l l' : Addr} {ds : List PyData} {xs : List V} {o : HO} (h : ListAt K H l ds) (ne : l ≠ l') (hl : H l' = some (.lst xs)) : ListAt K (upd H l' o) l ds := by
  obtain ⟨ys, hy, ay⟩ := h
  exact ⟨ys, by rw [upd_ne ne]; exact hy, DtAll.keepT (KeepT.upd hl) ay⟩
theorem listAt_app {K : PySem.W.Frag} {H : Hp} {l : Addr} {ds : List PyData} {xs : List V} {v : V} {d : PyData} (h : ListAt K H l ds) (hl : H l = some (.lst xs)) (hd : Dt K H v d) : ListAt K (upd H l (.lst (xs ++ [v]))) l (ds ++ [d]) := by
  obtain ⟨ys, hy, ay⟩ := h
  rw [hl] at hy
  obtain rfl := HO.lst.inj (Option.some.inj hy)
  exact ⟨_, upd_same, DtAll.app (DtAll.keepT (KeepT.upd hl) ay) (.cons (Dt.keepT (KeepT.upd hl) hd) .nil)⟩
theorem listAt_keep {K : PySem.W.Frag} {H H' : Hp} {l p : Addr} {ds : List PyData} (h : ListAt K H l ds) (e : Keep p H H') (ne : l ≠ p) (hp : ∃ xs, H p = some (.lst xs)) : ListAt K H' l ds := by
  obtain ⟨ys, hy, ay⟩ := h
  exact ⟨ys, e _ _ hy ne, DtAll.keepT (Keep.keepT e hp) ay⟩
theorem listAt_made {K : PySem.W.Frag} {H : Hp} {l : Addr} {xs : List V} {ds : List PyData} (hl : H l = none) (h : DtAll K H xs ds) : ListAt K (upd H l (.lst xs)) l ds := ⟨xs, upd_same, DtAll.mono (Same.new hl) h⟩
/-! how long the objects at the beginning are, shown -/
def shortS (n : Str) : Bool := decide (n.length ≤ 40) && n.cps.toList.all (fun c => decide (c < 16 ^ 8))
theorem Sm.short {n : Str} (h : shortS n = true) : Sm (.str n) 0 500 := by
  obtain ⟨h1, h2⟩ := Bool.and_eq_true_iff.mp h
  exact (Sm.str (of_decide_eq_true h1) (strOk n h2)).mono (by decide) (by decide)
theorem cls_short : ∀ n ∈ clsNames, shortS n = true := by decide +kernel
theorem built_short : ∀ n ∈ builtNames, shortS n = true := by decide +kernel
theorem Sm.nm {k n : Str} (hk : shortS k = true) (hn : shortS n = true) : Sm (nameVar k n) 3 4000 :=
  (Sm.tup (.cons (Sm.short hn) (.cons (Sm.tup (.cons (Sm.short hk) (.cons (Sm.short hn) .nil))) .nil))).mono (by decide) (by decide)
theorem Sm.cv {i : Nat} {n : Str} (hi : i < 1000) (hn : shortS n = true) : Sm (clsVar i n) 3 4000 :=
  (Sm.tup (.cons (Sm.short hn) (.cons (Sm.tup (.cons (Sm.short (n := "ref") (by decide +kernel)) (.cons (Sm.int (Nat.lt_of_lt_of_le (show ((i : Int) + 1).natAbs < 2 ^ 20 by omega) (Nat.pow_le_pow_right (by decide) (by decide)))) .nil))) .nil))).mono (by decide) (by decide)
theorem Sm.co {b : Int} {n : Str} (hb : b.natAbs < 1000) (hn : shortS n = true) : Sm (clsObj n b) 3 4000 :=
  (Sm.tup (.cons (Sm.short (n := "class") (by decide +kernel)) (.cons (Sm.short hn) (.cons (Sm.int (Nat.lt_of_lt_of_le (show b.natAbs < 2 ^ 20 by omega) (Nat.pow_le_pow_right (by decide) (by decide)))) (.cons (Sm.tup .nil) .nil))))).mono (by decide) (by decide)
theorem SmAll.mem {ds : List PyData} {dp n N m M : Nat} (h : SmAll ds dp n N) (h1 : n ≤ m) (h2 : N ≤ M) : SmAll ds dp m M := ⟨h.ok, h.dp, Nat.le_trans h.len h1, Nat.le_trans h.sz h2⟩
theorem sm_vars {hs : List Str} {L : Nat} (h : ∀ n ∈ hs, shortS n = true) (hl : hs.length ≤ L) : SmAll (startVars hs) 3 (29 + L) (4000 * (29 + L)) := by
  have h1 : ∀ d ∈ startVars hs, Sm d 3 4000 := fun d hd => by
    rcases List.mem_append.mp hd with hd | hd
    · rcases List.mem_append.mp hd with hd | hd
      · obtain ⟨i, hi, rfl⟩ := List.mem_mapIdx.mp hd
        exact Sm.cv (Nat.lt_trans hi (by decide)) (cls_short _ (List.getElem_mem hi))
      · obtain ⟨n, hn, rfl⟩ := List.mem_map.mp hd
        exact Sm.nm (by decide +kernel) (built_short n hn)
    · obtain ⟨n, hn, rfl⟩ := List.mem_map.mp hd
      exact Sm.nm (by decide +kernel) (h n hn)
  have hlen : (startVars hs).length = 29 + hs.length := by
    simp only [startVars, List.length_append, List.length_map]
    have : clsVars.length = 16 := by decide
    have : builtNames.length = 13 := by decide
    omega
  exact (SmAll.many h1).mem (by omega) (by omega)
theorem sm_start {hs : List Str} {L : Nat} (h : ∀ n ∈ hs, shortS n = true) (hl : hs.length ≤ L) : ∀ d ∈ startD hs, Sm d 5 (5000 * (30 + L)) := fun d hd => by
  rcases List.mem_cons.mp hd with rfl | hd
  · exact (Sm.tup (.cons (Sm.short (n := "scope") (by decide +kernel)) (.cons (Sm.tup (sm_vars h hl)) (.cons (Sm.tup .nil) (.cons (Sm.tup .nil) (.cons (Sm.int (by decide)) (.cons (Sm.bool false) .nil))))))).mono (by decide) (by omega)
  · have : ∃ n b, d = clsObj n b ∧ n ∈ clsNames ∧ b.natAbs < 1000 := by
      have key : ∀ q ∈ List.zip clsNames clsBases, q.1 ∈ clsNames ∧ q.2.natAbs < 1000 := by decide +kernel
      rw [← List.map_uncurry_zip_eq_zipWith] at hd
      obtain ⟨q, hq, rfl⟩ := List.mem_map.mp hd
      exact ⟨q.1, q.2, rfl, key q hq⟩
    obtain ⟨n, b, rfl, hn, hb⟩ := this
    exact (Sm.co hb (cls_short n hn)).mono (by decide) (by omega)
theorem start_cls {hs : List Str} {k : Nat} (h1 : 1 ≤ k) (h2 : k ≤ 16) : ∃ rest, (startD hs)[k]? = some (.tuple (.str "class" :: rest)) := by
  obtain ⟨j, rfl⟩ : ∃ j, k = j + 1 := ⟨k - 1, by omega⟩
  have l1 : clsNames.length = 16 := by decide
  have l2 : clsBases.length = 16 := by decide
  refine ⟨[.str clsNames[j]!, .int clsBases[j]!, .tuple []], ?_⟩
  have e1 : clsNames[j]? = some clsNames[j]! := by rw [List.getElem!_eq_getElem?_getD]; rw [List.getElem?_eq_getElem (by omega)]; rfl
  have e2 : clsBases[j]? = some clsBases[j]! := by rw [List.getElem!_eq_getElem?_getD]; rw [List.getElem?_eq_getElem (by omega)]; rfl
  show (List.zipWith clsObj clsNames clsBases)[j]? = _
  rw [List.getElem?_zipWith, e1, e2]
  rfl
end LK

set_option Elab.async false
set_option linter.all false
set_option maxRecDepth 100000
set_option maxHeartbeats 4000000
set_option exponentiation.threshold 3000
/-! tuple * 1; rows: texts or tuples at one place; the type of what is read as a tuple; data equal to itself. -/
namespace LK
open PySem PySem.Spec PyProof.Rows L2
theorem tuple_mul1 (l : Addr) (items : Array Value) (n : Nat) (dd : Option Addr) (sl : Array (Option Value)) (u : Tok) :
    Meets (Builtin.«tuple.__mul__» ⟨[.ref l, .int 1 u], []⟩) (fun _ R s => s.heap.get? l = some { cls := .type "tuple", dict := dd, data := .seq items n, slots := sl } ∧ R (.ok (.ret (Value.ref l))) s) :=
  .of_wp fun prog w A R s h => by
    obtain ⟨hp, g, d, tk, os⟩ := s
    obtain ⟨hl, h⟩ := h
    have f1 := AutoSeq1.idx_int
    have c0 : (decide ((1 : Int) < -(2 ^ 63)) || decide ((1 : Int) ≥ 2 ^ 63)) = false := by decide
    have c1 : (items.isEmpty || (1 : Int) == 1) = true := by simp
    wp_walk using wpAny_loadPart' hl
    exact ⟨_, rfl, h⟩
/-- a tuple times an int from 1 to 1000 -/
def rRepTA (K : PySem.W.Frag) : R2 := fun x y H Q => ∃ l k xs, x = .ref l ∧ y = .int k ∧ SqT K H l xs ∧ xs ≠ [] ∧ 1 ≤ k ∧ k ≤ 1000 ∧ xs.length ≤ 1000 ∧ (k = 1 → Q (.ref l) H) ∧ (k ≠ 1 → ∀ p, H p = none → Q (.ref p) (upd H p (.tup (List.replicate k.toNat xs).flatten)))
section
variable {X : Cx}
theorem op_repTA : OpR X (binaryOp .Mult) (rRepTA X.K) := by
  intro pins s σ H x y v u Q I rx ry h
  obtain ⟨l, k, xs, rfl, rfl, hT, hne, h1, h2, hz, q1, q2⟩ := h
  by_cases hk : k = 1
  · subst hk
    cases rx
    obtain ⟨t, rfl⟩ := ry
    obtain ⟨its, r, ⟨⟨cls, dd, data, sl⟩, ho, hc, n, hd⟩, hs⟩ := I.tuple hT
    simp only at hc hd
    subst hc hd
    refine wpAny_binaryOp_repeat_ref (T := "tuple") (U := "int") (by decide) ⟨_, ho, rfl⟩ (fun s' => typeIs_int s' 1 t) noFill_tuple_mul F.fills_int_mul F.slot_int_rmul repeat_tuple F.slot_int_index.lookup
      (call_meets F.slot_int_rmul (typeIs_int s 1 t) F.entry_int_rmul (F.args_int_rmul_2 _ _) (int_rmul_tuple 1 t l its.toArray n dd sl)
        ⟨ho, rfl, ⟨_, ho, rfl⟩, call_meets F.slot_tuple_mul ⟨_, ho, rfl⟩ F.entry_tuple_mul (F.args_tuple_mul_2 _ _) (tuple_mul1 l its.toArray n dd sl t) ⟨ho, ?_⟩⟩)
    exact ⟨.ref l, H, I, rfl, q1 rfl⟩
  · exact op_repT pins s σ H _ _ v u Q I rx ry ⟨l, k, xs, rfl, rfl, hT, hne, by omega, h2, hz, q2 hk⟩
end
theorem SqT.tyX {K : PySem.W.Frag} {H : Hp} {a : Addr} {xs : List V} (h : SqT K H a xs) : TyX K H (.ref a) (.type "tuple") := by
  rcases h with (h | ⟨o, h⟩) | ⟨o, its, n, e, c, _⟩
  · exact .base (.tup h)
  · exact .fTuple h
  · exact .kTuple e c
/-! ### data equal to itself -/
mutual
theorem eqv_self : ∀ {d : PyData}, d.canLay0 = true → PyData.eqv d d = true
  | .none, _ => by simp [PyData.eqv]
  | .bool _, _ => by simp [PyData.eqv]
  | .int _, _ => by simp [PyData.eqv]
  | .str _, _ => by simp [PyData.eqv]
  | .list xs, h => by rw [PyData.eqv]; exact eqvAll_self (by simpa [PyData.canLay0] using h)
  | .tuple xs, h => by rw [PyData.eqv]; exact eqvAll_self (by simpa [PyData.canLay0] using h)
  | .dict _, h => absurd h (by simp [PyData.canLay0])
theorem eqvAll_self : ∀ {xs : List PyData}, PyData.canLayAll0 xs = true → PyData.eqvAll xs xs = true
  | [], _ => by simp [PyData.eqvAll]
  | x :: xs, h => by
    rw [PyData.canLayAll0, Bool.and_eq_true] at h
    rw [PyData.eqvAll, eqv_self h.1, eqvAll_self h.2]; rfl
end
theorem canLayAll0_of {ds : List PyData} (h : ∀ d ∈ ds, d.canLay0 = true) : PyData.canLayAll0 ds = true := by
  induction ds with
  | nil => rfl
  | cons d ds ih => rw [PyData.canLayAll0, h d (by simp), ih fun e he => h e (List.mem_cons_of_mem _ he)]; rfl
theorem depthAll_of {ds : List PyData} {n : Nat} (h : ∀ d ∈ ds, d.depth ≤ n) : PyData.depthAll ds ≤ n := by
  induction ds with
  | nil => exact Nat.zero_le _
  | cons d ds ih => rw [PyData.depthAll]; exact Nat.max_le.mpr ⟨h d (by simp), ih fun e he => h e (List.mem_cons_of_mem _ he)⟩
/-! ### rows: a text, or a tuple of small ints -/
def Item (d : PyData) : Prop := ∃ i : Int, d = .tuple [.str "int", .int i] ∧ 0 ≤ i ∧ i < 11
def Low (z : Str) : Prop := ∀ c ∈ z.cps.toList, c < 128
inductive Row : Bool → PyData → Nat → Prop
  | txt {z : Str} {n : Nat} : z.length = n → Low z → Row true (.str z) n
  | tup {ds : List PyData} {n : Nat} : ds.length = n → (∀ d ∈ ds, Item d) → Row false (.tuple ds) n
def catD : PyData → PyData → PyData
  | .str a, .str b => .str (a ++ b)
  | .tuple a, .tuple b => .tuple (a ++ b)
  | a, _ => a
def repD (d : PyData) (k : Int) : PyData := match d with
  | .str a => .str (repS a k)
  | .tuple a => .tuple (List.replicate k.toNat a).flatten
  | a => a
def noneD : PyData → PyData
  | .str a => .str (cutS a none (some 0))
  | .tuple _ => .tuple []
  | a => a
theorem len_app (a b : Str) : (a ++ b).length = a.length + b.length := strLen_append a b
theorem len_rep (z : Str) (k : Int) : (repS z k).length = z.length * k.toNat := by
  show (repC z.cps.toList k).toArray.size = _
  rw [List.size_toArray, repC_length, Nat.mul_comm]
  simp [Str.length]
theorem Low.app {a b : Str} (h : Low a) (g : Low b) : Low (a ++ b) := by
  intro c hc
  have e : (a ++ b).cps.toList = a.cps.toList ++ b.cps.toList := by
    show (a.cps ++ b.cps).toList = _
    simp
  rw [e] at hc
  rcases List.mem_append.mp hc with hc | hc
  · exact h c hc
  · exact g c hc
theorem Low.rep {a : Str} (h : Low a) (k : Int) : Low (repS a k) := by
  intro c hc
  have hc : c ∈ (List.replicate k.toNat a.cps.toList).flatten := by simpa [repS, repC] using hc
  obtain ⟨l, hl, hcl⟩ := List.mem_flatten.mp hc
  exact h c (List.eq_of_mem_replicate hl ▸ hcl)
theorem Low.cut {a : Str} (h : Low a) (lo hi : Option Int) : Low (cutS a lo hi) := by
  intro c hc
  have hc : c ∈ (a.cps.toList.drop (HT.sIx a.length 0 lo)).take (HT.sIx a.length a.length hi - HT.sIx a.length 0 lo) := hc
  exact h c (List.mem_of_mem_drop (List.mem_of_mem_take hc))
theorem cut_to (a : Str) (m : Nat) : (cutS a none (some (m : Int))).length ≤ m := by
  show ((a.cps.toList.drop (HT.sIx a.length 0 none)).take (HT.sIx a.length a.length (some (m : Int)) - HT.sIx a.length 0 none)).toArray.size ≤ m
  rw [List.size_toArray, List.length_take, HT.sIx_nat]
  omega
theorem Row.cat {t : Bool} {a b : PyData} {n m : Nat} (h : Row t a n) (g : Row t b m) : Row t (catD a b) (n + m) := by
  cases h with
  | txt e l =>
    cases g with
    | txt e2 l2 => exact .txt (by rw [len_app, e, e2]) (l.app l2)
  | tup e l =>
    cases g with
    | tup e2 l2 => exact .tup (by rw [List.length_append, e, e2]) fun d hd => (List.mem_append.mp hd).elim (l d) (l2 d)
theorem Row.rep {t : Bool} {a : PyData} {n : Nat} (h : Row t a n) (k : Int) : Row t (repD a k) (n * k.toNat) := by
  cases h with
  | txt e l => exact .txt (by rw [len_rep, e]) (l.rep k)
  | tup e l =>
    refine .tup (by rw [PyProof.Rows.lm_len_rep_flat, e, Nat.mul_comm]) fun d hd => ?_
    obtain ⟨x, hx, hdx⟩ := List.mem_flatten.mp hd
    exact l d (List.eq_of_mem_replicate hx ▸ hdx)
theorem Row.none {t : Bool} {a : PyData} {n : Nat} (h : Row t a n) : Row t (noneD a) 0 := by
  cases h with
  | @txt z _ e l => exact .txt (Nat.le_zero.mp (cut_to z 0)) (l.cut _ _)
  | tup e l => exact .tup rfl fun d hd => by cases hd
theorem Item.sm {d : PyData} (h : Item d) : Sm d 1 3000 := by
  obtain ⟨i, rfl, h0, h1⟩ := h
  exact (Sm.tup (.cons (Sm.short (n := "int") (by decide +kernel)) (.cons (Sm.int (Nat.lt_of_lt_of_le (show i.natAbs < 2 ^ 20 by omega) (Nat.pow_le_pow_right (by decide) (by decide)))) .nil))).mono (by decide) (by decide)
theorem Row.sm {t : Bool} {d : PyData} {n : Nat} (h : Row t d n) (hn : n ≤ 1000) : Sm d 2 3100000 := by
  cases h with
  | txt e l => exact (Sm.str (n := 1000) (by omega) fun c hc => Nat.lt_of_lt_of_le (l c hc) (by decide)).mono (by decide) (by decide)
  | tup e l => exact (Sm.tup ((SmAll.many fun d hd => (l d hd).sm).mem (m := 1000) (M := 3000000) (by omega) (by omega))).mono (by decide) (by decide)
theorem Row.lay {t : Bool} {d : PyData} {n : Nat} (h : Row t d n) : d.canLay0 = true := by
  cases h with
  | @txt z _ e l =>
    rw [PyData.canLay0]
    exact Array.all_eq_true_iff_forall_mem.mpr fun c hc => by
      have := l c (Array.mem_toList_iff.mpr hc)
      exact decide_eq_true (by omega)
  | tup e l =>
    rw [PyData.canLay0]
    exact canLayAll0_of fun d hd => by obtain ⟨i, rfl, _⟩ := l d hd; simp only [PyData.canLay0, PyData.canLayAll0, Bool.and_true]; decide +kernel
section
variable {X : Cx}
/-- a + b, two rows -/
def rCatD (K : PySem.W.Frag) : R2 := fun x y H Q => ∃ (t : Bool) (a b : PyData) (n m : Nat), Row t a n ∧ Row t b m ∧ Dt K H x a ∧ Dt K H y b ∧ n + m ≤ 2000 ∧ ∀ v H', Same H H' → Dt K H' v (catD a b) → Q v H'
theorem op_catD : OpR X (binaryOp .Add) (rCatD X.K) := by
  intro pins s σ H x y v u Q I rx ry h
  obtain ⟨t, a, b, n, m, ha, hb, da, db, hz, q⟩ := h
  cases ha with
  | txt e l =>
    cases hb with
    | txt e2 l2 =>
      cases da.str_inv; cases db.str_inv
      exact op_add_str pins s σ H _ _ v u Q I rx ry ⟨_, _, rfl, rfl, by rw [e, e2]; exact Nat.le_trans hz (by decide), q _ _ (Same.refl _) (.str _)⟩
  | @tup ds _ e l =>
    cases hb with
    | @tup es _ e2 l2 =>
      obtain ⟨p, xs, rfl, hs, ax⟩ := da.tuple_inv
      obtain ⟨p2, ys, rfl, hs2, ay⟩ := db.tuple_inv
      have lx := ax.length
      have ly := ay.length
      refine op_catA pins s σ H _ _ v u Q I rx ry ⟨p, p2, xs, ys, rfl, rfl, hs, hs2, by rw [lx, ly, e, e2]; exact Nat.le_trans hz (by decide), fun h0 => ?_, fun _ h0 => ?_, fun _ _ z hz => ?_⟩
      · subst h0
        have : ds = [] := List.eq_nil_of_length_eq_zero (by rw [← lx]; rfl)
        subst this
        exact q _ _ (Same.refl _) db
      · subst h0
        have : es = [] := List.eq_nil_of_length_eq_zero (by rw [← ly]; rfl)
        subst this
        refine q _ _ (Same.refl _) ?_
        show Dt X.K H (.ref p) (.tuple (ds ++ []))
        rw [List.append_nil]; exact da
      · exact q _ _ (Same.new hz) (Dt.made hz (DtAll.app ax ay))
/-- a * k, a row and an int -/
def rRepD (K : PySem.W.Frag) : R2 := fun x y H Q => ∃ (t : Bool) (a : PyData) (n : Nat) (k : Int), Row t a n ∧ Dt K H x a ∧ y = .int k ∧ 1 ≤ n ∧ 1 ≤ k ∧ n * k ≤ 1000 ∧ ∀ v H', Same H H' → Dt K H' v (repD a k) → Q v H'
theorem dtRep {K : PySem.W.Frag} {H : Hp} {xs : List V} {ds : List PyData} (h : DtAll K H xs ds) : ∀ m : Nat, DtAll K H (List.replicate m xs).flatten (List.replicate m ds).flatten
  | 0 => .nil
  | m + 1 => by
    rw [List.replicate_succ, List.flatten_cons, List.replicate_succ, List.flatten_cons]
    exact DtAll.app h (dtRep h m)
theorem op_repD : OpR X (binaryOp .Mult) (rRepD X.K) := by
  intro pins s σ H x y v u Q I rx ry h
  obtain ⟨t, a, n, k, ha, da, rfl, hn, hk, hz, q⟩ := h
  have k1 : k ≤ 1000 := by
    have : 1 * k ≤ n * k := Int.mul_le_mul_of_nonneg_right (by omega) (by omega)
    omega
  have n1 : n ≤ 1000 := by
    have : (n : Int) * 1 ≤ n * k := Int.mul_le_mul_of_nonneg_left hk (by omega)
    omega
  cases ha with
  | txt e l =>
    cases da.str_inv
    refine op_rep_str pins s σ H _ _ v u Q I rx ry ⟨_, k, rfl, rfl, by omega, by omega, ?_, q _ _ (Same.refl _) (.str _)⟩
    rw [e]
    exact Nat.le_trans (Nat.mul_le_mul n1 (show k.toNat ≤ 1000 by omega)) (by decide)
  | @tup ds _ e l =>
    obtain ⟨p, xs, rfl, hs, ax⟩ := da.tuple_inv
    have lx := ax.length
    refine op_repTA pins s σ H _ _ v u Q I rx ry ⟨p, k, xs, rfl, rfl, hs, fun z => ?_, hk, k1, by omega, fun h1 => ?_, fun h1 z hz => ?_⟩
    · subst z
      rw [List.length_nil] at lx
      omega
    · subst h1
      refine q _ _ (Same.refl _) ?_
      show Dt X.K H (.ref p) (.tuple (List.replicate 1 ds).flatten)
      rw [show (List.replicate 1 ds).flatten = ds by simp]
      exact da
    · exact q _ _ (Same.new hz) (Dt.made hz (dtRep ax _))
/-- a[:0], a row -/
def rNoneD (K : PySem.W.Frag) : V → Option Int → Option Int → Hp → VK → Prop := fun x lo hi H Q => ∃ (t : Bool) (a : PyData) (n : Nat), Row t a n ∧ Dt K H x a ∧ n ≤ 2000 ∧ lo = none ∧ hi = some 0 ∧ ∀ v H', Same H H' → Dt K H' v (noneD a) → Q v H'
theorem sl_noneD : SlR X (rNoneD X.K) := by
  intro pins s σ H x v vl vu lo hi sl Q I rx hs pl pu h
  obtain ⟨t, a, n, ha, da, hn, rfl, rfl, q⟩ := h
  cases ha with
  | txt e l =>
    cases da.str_inv
    exact sl_str pins s σ H _ v vl vu _ _ sl Q I rx hs pl pu ⟨_, rfl, by rw [e]; exact Nat.le_trans hn (by decide), q _ _ (Same.refl _) (.str _)⟩
  | @tup ds _ e l =>
    obtain ⟨p, xs, rfl, hq, ax⟩ := da.tuple_inv
    have lx := ax.length
    refine sl_tupA pins s σ H _ v vl vu _ _ sl Q I rx hs pl pu ⟨p, xs, rfl, hq, fun hw => ?_, fun _ z hz => ?_⟩
    · have h0 : ds.length = 0 := by
        have := hw.2
        rw [show (some (0 : Int)) = some ((0 : Nat) : Int) from rfl, HT.sIx_nat] at this
        omega
      have := List.eq_nil_of_length_eq_zero h0
      subst this
      exact q _ _ (Same.refl _) da
    · refine q _ _ (Same.new hz) (Dt.made hz ?_)
      have : cutV xs none (some 0) = [] := by
        apply List.eq_nil_of_length_eq_zero
        unfold cutV
        rw [List.length_take, show (some (0 : Int)) = some ((0 : Nat) : Int) from rfl, HT.sIx_nat]
        omega
      rw [this]
      exact .nil
/-- len(a), a row -/
def rLenD (K : PySem.W.Frag) : List V → Hp → VK → Prop := fun vs H Q => ∃ (v : V) (t : Bool) (a : PyData) (n : Nat), vs = [v] ∧ Row t a n ∧ Dt K H v a ∧ n ≤ 2000 ∧ Q (.int (n : Int)) H
theorem call_lenD' : CallR X (.builtin "len") (rLenD X.K) := by
  intro pins s σ H xs us Q I r h
  obtain ⟨v, t, a, n, rfl, ha, da, hn, q⟩ := h
  cases ha with
  | txt e l =>
    cases da.str_inv
    exact call_len pins s σ H _ us Q I r ⟨_, n, rfl, ⟨by rw [e]; exact Nat.le_trans hn (by decide), e.symm⟩, q⟩
  | @tup ds _ e l =>
    obtain ⟨p, ys, rfl, hq, ax⟩ := da.tuple_inv
    exact call_len pins s σ H _ us Q I r ⟨_, n, rfl, .inr ⟨_, hq, by rw [ax.length, e]⟩, q⟩
end
end LK

set_option Elab.async false
set_option linter.all false
set_option maxRecDepth 100000
set_option maxHeartbeats 4000000
set_option exponentiation.threshold 3000
/-! Letters, digits, underscores; texts of the top. -/
namespace LK
open PySem PySem.Spec PyProof.Rows L2 SX
def isD (c : Nat) : Bool := decide (48 ≤ c) && decide (c ≤ 57)
def isL (c : Nat) : Bool := (decide (65 ≤ c) && decide (c ≤ 90)) || (decide (97 ≤ c) && decide (c ≤ 122)) || c == 95
def isW (c : Nat) : Bool := isD c || isL c
theorem isW_lt {c : Nat} (h : isW c = true) : c < 128 := by
  simp [isW, isD, isL] at h; omega
theorem uni_alpha : ∀ c < 128, Unicode.isAlpha c = (isL c && c != 95) := by decide +kernel
theorem uni_digit : ∀ c < 128, Unicode.isDigit c = isD c := by decide +kernel
theorem uni_alnum : ∀ c < 128, Unicode.isAlnum c = (isW c && c != 95) := by decide +kernel
theorem alpha1 {c : Nat} (h : c < 128) : Txt.isalpha (S [c]) = (isL c && c != 95) := by
  show (decide ((S [c]).length > 0) && (S [c]).cps.all Unicode.isAlpha) = _
  rw [S_len]; simp [S, uni_alpha c h]
theorem digit1 {c : Nat} (h : c < 128) : Txt.isdigit (S [c]) = isD c := by
  show (decide ((S [c]).length > 0) && (S [c]).cps.all Unicode.isDigit) = _
  rw [S_len]; simp [S, uni_digit c h]
theorem alnum1 {c : Nat} (h : c < 128) : Txt.isalnum (S [c]) = (isW c && c != 95) := by
  show (decide ((S [c]).length > 0) && (S [c]).cps.all Unicode.isAlnum) = _
  rw [S_len]; simp [S, uni_alnum c h]
theorem digitS {a : List Nat} (h : ∀ c ∈ a, c < 128) (hne : a ≠ []) : Txt.isdigit (S a) = a.all isD := by
  show (decide ((S a).length > 0) && (S a).cps.all Unicode.isDigit) = _
  have : 0 < a.length := List.length_pos_iff.mpr hne
  rw [S_len, decide_eq_true this, Bool.true_and]
  show a.toArray.all Unicode.isDigit = _
  rw [List.all_toArray]
  apply Bool.eq_iff_iff.mpr
  rw [List.all_eq_true, List.all_eq_true]
  exact ⟨fun g c hc => uni_digit c (h c hc) ▸ g c hc, fun g c hc => (uni_digit c (h c hc)).symm ▸ g c hc⟩
/-! texts of the top -/
def GStr (mg : Str → Option Value) (x : Str) (z : Str) : Prop := ∃ t, mg x = some (.str z t)
def HasStr (K : PySem.W.Frag) (x : Str) (p : Str → Prop) : Prop := ∃ (z : Str) (t : Tok), PySem.W.nsIn K mainGlobals x = some (some (.str z t)) ∧ p z
theorem HasStr.mk' {K : PySem.W.Frag} {x : Str} {p : Str → Prop} {z : Str} {t : Tok} (a : PySem.W.nsIn K mainGlobals x = some (some (.str z t))) (b : p z) : HasStr K x p := ⟨z, t, a, b⟩
theorem HasStr.g {K : PySem.W.Frag} {mg : Str → Option Value} {h : Heap} {x : Str} {p : Str → Prop} (i : HasStr K x p) (X : K.In h) (G : h.Ns mainGlobals mg) : ∃ z, GStr mg x z ∧ p z := by
  obtain ⟨z, t, e, hp⟩ := i
  exact ⟨z, ⟨t, PySem.W.mg_of X G e⟩, hp⟩
theorem pe_globS {X : Cx} {x z : Str} {pos : Pos} (h : GStr X.mg x z) (hg : Gl X x) (hd : (x == ("__debug__" : Str)) = false := by decide) : PE X (.Name x pos) (tC (.str z)) := by
  obtain ⟨t, e⟩ := h
  exact pe_glob hg e ⟨t, rfl⟩ hd
theorem split1 {a : List Nat} {c : Nat} (h : c ∉ a) (hc : c < 256) : Txt.split (S a) (S [c]) = [S a] := by
  rw [split_S (by simp) (by simpa using hc)]
  have := SX.spl_join (c := c) (sep := []) (parts := [a]) (by simp) (by simpa using h)
  have e : TL.joinL [c] [a] = a := by simp [TL.joinL]
  rw [e] at this
  rw [this]; rfl
theorem lstrip1 {a : List Nat} {b : List Nat} (h : ∀ c, a.head? = some c → c ∉ b) : Txt.lstripChars (S a) (S b) = S a := by
  have e1 : (S a).cps.toList.takeWhile (S b).cps.contains = [] := tw0 a fun c hc => by
    have := h c hc
    show b.toArray.contains c = false
    rw [List.contains_toArray]
    simpa using this
  have e0 : stripLo (S b).cps.contains true (S a) = 0 := by
    unfold stripLo
    rw [if_pos rfl, e1] <;> rfl
  have e3 : stripHi (S b).cps.contains false (S a) 0 = (S a).length := by
    unfold stripHi
    rw [if_neg Bool.false_ne_true]
  unfold Txt.lstripChars Txt.stripBy stripSame
  rw [e0, e3]
  exact if_pos (by simp)
/-! while, its test's reading made monotone -/
def tUp (c : TT) : TT := fun σ H Q => ∃ P : Bool → Hp → Prop, c σ H P ∧ ∀ b H1, P b H1 → Q b H1
theorem pt_up {X : Cx} {e : Expr} {c : TT} (h : PT X e c) : PT X e (tUp c) :=
  ⟨fun pins s σ H Q I ⟨P, hP, k⟩ => thn (h.run pins s σ H P I hP) fun b s1 ⟨H1, I1, q⟩ => ⟨H1, I1, k _ _ q⟩⟩
theorem while_up {c : TT} {tb : TS} {D : Ends} {σ : L2.St} {H : Hp} (Pv : L2.St → Hp → Prop) (μ : L2.St → Hp → Nat) (h0 : Pv σ H)
    (hs : ∀ σ H, Pv σ H → c σ H fun b H1 => if b = true then tb { D with nx := fun σ' H' => Pv σ' H' ∧ μ σ' H' < μ σ H, ct := fun σ' H' => Pv σ' H' ∧ μ σ' H' < μ σ H, bk := D.nx } σ H1 else D.nx σ H1) : tWhile (tUp c) tb D σ H :=
  while_by Pv μ h0 (fun σ H p => ⟨_, hs σ H p, fun _ _ h => h⟩) (fun σ H Q Q' hq ⟨P, hP, k⟩ => ⟨P, hP, fun b H1 h => hq b H1 (k b H1 h)⟩)
theorem nl_S : ("\n" : Str) = S [10] := by decide +kernel
theorem us_S : ("_" : Str) = S [95] := by decide +kernel
theorem sp_S : (" " : Str) = S [32] := by decide +kernel
theorem hash_S : ("#" : Str) = S [35] := by decide +kernel
theorem sign_eq {c d : Nat} : decide (V.str ⟨#[c]⟩ = V.str (S [d])) = decide (c = d) := by
  by_cases h : c = d
  · subst h; rw [decide_eq_true rfl, decide_eq_true rfl]
  · rw [decide_eq_false h, decide_eq_false]
    intro e
    have := S_inj (a := [c]) (b := [d]) (V.str.inj e)
    exact h (by simpa using this)
theorem str_eq {a b : List Nat} : decide (V.str (S a) = V.str (S b)) = decide (a = b) := by
  by_cases h : a = b
  · subst h; rw [decide_eq_true rfl, decide_eq_true rfl]
  · rw [decide_eq_false h, decide_eq_false]
    intro e
    exact h (S_inj (V.str.inj e))
theorem starts1 {c d : Nat} {r : List Nat} : Txt.startswith (S (c :: r)) (S [d]) = decide (c = d) := by
  show (decide (0 + (S [d]).length ≤ (S (c :: r)).length) && ((c :: r).toArray.extract 0 (0 + (S [d]).length) == [d].toArray)) = _
  rw [S_len, S_len]
  have e : (c :: r).toArray.extract 0 (0 + [d].length) = #[c] := by simp
  rw [e]
  by_cases h : c = d
  · subst h; simp
  · simp [h]
theorem at_S {a : List Nat} {j c : Nat} (h : a[j]? = some c) : atI (S a).cps.toList (j : Int) = some c := atI_nat h
theorem cut_all {a : List Nat} : cutS (S a) (some 0) (some ((a.length : Nat) : Int)) = S a := by
  unfold cutS
  rw [S_len, show (some (0 : Int)) = some ((0 : Nat) : Int) from rfl, HT.sIx_nat, HT.sIx_nat]
  show (⟨((a.drop (min 0 a.length)).take (min a.length a.length - min 0 a.length)).toArray⟩ : Str) = ⟨a.toArray⟩
  rw [Nat.zero_min, List.drop_zero, Nat.min_self, Nat.sub_zero, List.take_length]
/-! a promise at a higher level -/
theorem FnG.mono {P : Program} {w : World} {K : PySem.W.Frag} {mg : Str → Option Value} {base : Heap} {CX : CXT} {j k : Nat} {f : Addr} {fd : FuncData} {ps : List Str} {sp : Sp} (F : FnG P w K mg base CX j f fd ps sp) (h : j ≤ k) : FnG P w K mg base CX k f fd ps sp :=
  ⟨F.len, fun A outer s H args us vs Q E hr => F.run A outer s H args us vs Q E (hr.mono h)⟩
theorem Use.mono {P : Program} {w : World} {K : PySem.W.Frag} {mg : Str → Option Value} {base : Heap} {CX : CXT} {x : Str} {j k : Nat} {ps : List Str} {sp : Sp} (U : Use P w K mg base CX x j ps sp) (h : j ≤ k) : Use P w K mg base CX x k ps sp := by
  obtain ⟨f, fd, ok, r⟩ := U.ex
  exact ⟨f, fd, ok.mono h, r⟩
/-! the signs that a program may hold -/
def okC (c : Nat) : Bool := c == 10 || (decide (32 ≤ c) && decide (c ≤ 126) && c != 37)
theorem okC_lt {c : Nat} (h : okC c = true) : c < 128 := by
  simp [okC] at h; omega
theorem lstrip_sp (a : List Nat) : Txt.lstripChars (S a) (S [32]) = S (a.dropWhile (· == 32)) := by
  have e1 : (S a).cps.toList.takeWhile (S [32]).cps.contains = a.takeWhile (· == 32) := by
    show a.takeWhile _ = _
    congr 1
    funext c
    show #[32].contains c = _
    simp [Array.contains, BEq.comm]
  have el : (a.takeWhile (· == 32)).length ≤ a.length := (List.takeWhile_prefix _).length_le
  have ed : a.drop (a.takeWhile (· == 32)).length = a.dropWhile (· == 32) := by
    have h := List.takeWhile_append_dropWhile (p := (· == 32)) (l := a)
    have : (a.takeWhile (· == 32) ++ a.dropWhile (· == 32)).drop (a.takeWhile (· == 32)).length = a.dropWhile (· == 32) := List.drop_left
    rwa [h] at this
  have e0 : stripLo (S [32]).cps.contains true (S a) = (a.takeWhile (· == 32)).length := by
    unfold stripLo
    rw [if_pos rfl, e1] <;> rfl
  have e3 : stripHi (S [32]).cps.contains false (S a) (a.takeWhile (· == 32)).length = (S a).length := by
    unfold stripHi
    rw [if_neg Bool.false_ne_true]
  unfold Txt.lstripChars Txt.stripBy stripSame stripped
  rw [e0, e3]
  split
  · rename_i h
    simp at h
    have : (a.takeWhile (· == 32)).length = 0 := by simpa using h
    rw [this, List.drop_zero] at ed
    rw [← ed]
  · show (⟨a.toArray.extract (a.takeWhile (· == 32)).length (S a).length⟩ : Str) = _
    rw [S_len, ← ed]
    congr 1
    apply Array.toList_inj.mp
    simp only [Array.toList_extract, List.extract_eq_drop_take]
    exact List.take_of_length_le (by rw [List.length_drop]; omega)
/-- z[i:j] by codes -/
theorem cut_S {a : List Nat} {i j : Nat} (hi : i ≤ a.length) (hj : j ≤ a.length) : cutS (S a) (some ((i : Nat) : Int)) (some ((j : Nat) : Int)) = S ((a.drop i).take (j - i)) := by
  unfold cutS
  rw [S_len, HT.sIx_nat, HT.sIx_nat, Nat.min_eq_left hi, Nat.min_eq_left hj]
/-- a line: so many spaces, and perhaps a word -/
def lnT (s : Nat) (w : List Nat) : List Nat := List.replicate s 32 ++ w
theorem lnT_len (s : Nat) (w : List Nat) : (lnT s w).length = s + w.length := by simp [lnT]
theorem lnT_sp {s : Nat} {w : List Nat} {i : Nat} (h : i < s) : (lnT s w)[i]? = some 32 := by
  unfold lnT
  rw [List.getElem?_append_left (by simpa using h), List.getElem?_replicate, if_pos h]
theorem lnT_w {s : Nat} {w : List Nat} {i : Nat} : (lnT s w)[s + i]? = w[i]? := by
  unfold lnT
  rw [List.getElem?_append_right (by simp), List.length_replicate, Nat.add_sub_cancel_left]
theorem lnT_drop (s : Nat) (w : List Nat) : (lnT s w).drop s = w := by
  unfold lnT
  rw [List.drop_append_of_le_length (by simp)]
  simp
/-- a while by an invariant that carries its measure -/
theorem while_upN {c : TT} {tb : TS} {D : Ends} {σ : L2.St} {H : Hp} (W : Nat → L2.St → Hp → Prop) (h0 : ∃ m, W m σ H)
    (hs : ∀ m σ H, W m σ H → c σ H fun b H1 => if b = true then tb { D with nx := fun σ' H' => ∃ m', m' < m ∧ W m' σ' H', ct := fun σ' H' => ∃ m', m' < m ∧ W m' σ' H', bk := D.nx } σ H1 else D.nx σ H1) : tWhile (tUp c) tb D σ H := by
  refine ⟨W, h0, fun m σ H w => ⟨_, hs m σ H w, fun b H1 h => ?_⟩⟩
  cases b with
  | false => exact h
  | true => exact ⟨_, fun σ' H' q => q, h⟩
end LK

set_option Elab.async false
set_option linter.all false
set_option maxRecDepth 100000
set_option maxHeartbeats 4000000
set_option exponentiation.threshold 3000
/-! What several laws share: boxes and lists beside changes of other objects. -/
namespace LK
open PySem PySem.Spec PyProof.Rows L2
section
variable {K : PySem.W.Frag}
theorem BoxAt.ne_new {H : Hp} {p dl b : Addr} (B : BoxAt H p dl) (h : H b = none) : b ≠ p ∧ b ≠ dl := by
  obtain ⟨xs, g⟩ := B.at_
  obtain ⟨ys, g2⟩ := B.dg
  exact ⟨fun e => (by subst e; rw [h] at g; cases g), fun e => (by subst e; rw [h] at g2; cases g2)⟩
theorem BoxAt.kp {H H' : Hp} {p dl : Addr} (B : BoxAt H p dl) (h : ∀ b o, b = p ∨ b = dl → H b = some o → H' b = some o) : BoxAt H' p dl := by
  obtain ⟨ds, k, a, b, c, d⟩ := B
  exact ⟨ds, k, h _ _ (.inl rfl) a, b, h _ _ (.inr rfl) c, d⟩
theorem BoxAt.keep' {H H' : Hp} {p dl l : Addr} (B : BoxAt H p dl) (k : Keep l H H') (h1 : l ≠ p) (h2 : l ≠ dl) : BoxAt H' p dl :=
  B.kp fun b o hb e => k b o e (by
    rcases hb with rfl | rfl
    · exact Ne.symm h1
    · exact Ne.symm h2)
theorem BoxAt.keep2 {H H' : Hp} {p dl l m : Addr} (B : BoxAt H p dl) (k : ∀ b o, H b = some o → b ≠ l → b ≠ m → H' b = some o) (h1 : l ≠ p) (h2 : l ≠ dl) (h3 : m ≠ p) (h4 : m ≠ dl) : BoxAt H' p dl :=
  B.kp fun b o hb e => by
    rcases hb with rfl | rfl
    · exact k _ _ e (Ne.symm h1) (Ne.symm h3)
    · exact k _ _ e (Ne.symm h2) (Ne.symm h4)
theorem KeepT.ins {p C dx : Addr} {H : Hp} {o : HO} {fs : List (Str × V)} (hp : H p = some (.ins C dx fs)) : KeepT K H (L2.upd H p o) := fun a xs h => by
  rcases h with (h | ⟨o', h⟩) | h
  · exact .inl (.inl (by rw [upd_ne (ne_of h hp (by intro z; cases z))]; exact h))
  · exact .inl (.inr ⟨o', by rw [upd_ne (ne_of h hp (by intro z; cases z))]; exact h⟩)
  · exact .inr h
theorem listAt_ins {p C dx l : Addr} {H : Hp} {o : HO} {fs : List (Str × V)} {ds : List PyData} (h : ListAt K H l ds) (hp : H p = some (.ins C dx fs)) : ListAt K (upd H p o) l ds := by
  obtain ⟨xs, e, a⟩ := h
  exact ⟨xs, by rw [upd_ne (ne_of e hp (by intro z; cases z))]; exact e, DtAll.keepT (KeepT.ins hp) a⟩
theorem Low.zero : Low "" := fun c hc => by
  have e : ("" : Str).cps.toList = [] := by decide +kernel
  rw [e] at hc; cases hc
theorem DtAll.take {H : Hp} : ∀ (n : Nat) {vs : List V} {ds : List PyData}, DtAll K H vs ds → DtAll K H (vs.take n) (ds.take n)
  | 0, _, _, _ => .nil
  | _ + 1, _, _, .nil => .nil
  | n + 1, _, _, .cons h a => .cons h (DtAll.take n a)
theorem len_start0 : (startD []).length = 17 := by decide
theorem sm_start0 : ∀ d ∈ startD [], Sm d 5 150000 := fun d hd => sm_start (hs := []) (L := 0) (by simp) (by simp) d hd
theorem sm_heap {ds : List PyData} (h : ds.length ≤ 30) (sm : ∀ d ∈ ds, Sm d 5 150000) : ShowOk (.list ds) := (Sm.lst ((SmAll.many sm).mem (m := 30) (M := 4500000) h (by omega))).show (by decide) (by decide)
theorem ListAt.dp {H : Hp} {l : Addr} {ds : List PyData} (h : ListAt K H l ds) : Dp K H (.ref l) (.list ds) := let ⟨_, e, a⟩ := h; .lst (SqL.of e) a.dp
end
theorem FnG.or {P : Program} {w : World} {K : PySem.W.Frag} {mg : Str → Option Value} {base : Heap} {CX : CXT} {k : Nat} {f : Addr} {fd : FuncData} {ps : List Str} {sp sp' : Sp} (A : FnG P w K mg base CX k f fd ps sp) (B : FnG P w K mg base CX k f fd ps sp') :
    FnG P w K mg base CX k f fd ps (fun vs H Q E => sp vs H Q E ∨ sp' vs H Q E) where
  len := fun vs H Q E h => h.elim (A.len vs H Q E) (B.len vs H Q E)
  run := fun A' outer s H args us vs Q E hr hg he hb hv h => h.elim (A.run A' outer s H args us vs Q E hr hg he hb hv) (B.run A' outer s H args us vs Q E hr hg he hb hv)
/-- start_heap of a list of names -/
def spStartL (K : PySem.W.Frag) : Sp := fun vs H Q _ => ∃ (t : Addr) (hs : List Str), vs = [.ref t] ∧ SqL K H t (hs.map V.str) ∧ hs.length ≤ 1000 ∧
  ∀ (p : Addr) (H' : Hp), H p = none → Same H H' → ListAt K H' p (startD hs) → Q (.ref p) H'
def spStart2 (K : PySem.W.Frag) : Sp := fun vs H Q E => spStart K vs H Q E ∨ spStartL K vs H Q E
theorem ip_fdiv {X : Cx} : PIp X .FloorDiv (rI CDiv fun i j => .int (i / j)) := fun pins s σ H x y v u Q I r1 r2 h => iop_fdiv pins s σ H x y v u Q I r1 r2 h
theorem none_back0 {p np : Addr} {H H' : Hp} (K1 : Keep p H H') (B : ∃ xs, H' p = some (.lst xs)) (h : H' np = none) : H np = none := by
  cases e : H np with
  | none => rfl
  | some o =>
    by_cases ep : np = p
    · subst ep
      obtain ⟨xs, g⟩ := B
      rw [g] at h; cases h
    · rw [K1 _ _ e ep] at h; cases h
end LK

set_option Elab.async false
set_option linter.all false
set_option maxRecDepth 100000
set_option maxHeartbeats 4000000
/-! dicts of the top: what a literal dict of the program gives, read where it stands. -/
namespace LK
open PySem PySem.Spec PyProof.Rows L2
/-- at a lies a dict of the top with these entries -/
def KDct (P : Program) (w : World) (K : PySem.W.Frag) (a : Addr) (kvs : List (Key × V)) : Prop := (a == sysModules) = false ∧ ∃ vs, KV kvs vs ∧ ∀ h : Heap, K.In h → h.DictOf (mixKind P w) a vs
def tDGetK (P : Program) (w : World) (K : PySem.W.Frag) (td ty : TE) : TE := fun σ H Q => td σ H fun x H1 => ty σ H1 fun y H2 => ∃ a kvs k v, x = .ref a ∧ KDct P w K a kvs ∧ y = kV k ∧ valV kvs k = some v ∧ Q v H2
def tDInK (P : Program) (w : World) (K : PySem.W.Frag) (ty td : TE) : TE := fun σ H Q => ty σ H fun y H1 => td σ H1 fun x H2 => ∃ a kvs k, x = .ref a ∧ KDct P w K a kvs ∧ y = kV k ∧ Q (.bl (valV kvs k).isSome) H2
section
variable {X : Cx} {o i : Expr} {pos : Pos} {td ty : TE}
theorem pe_dgetK (ho : PE X o td) (hi : PE X i ty) (hs : NoSl i) : PE X (.Subscript o i pos) (tDGetK X.prog X.w X.K td ty) := by
  refine ⟨fun pins s σ H Q I h => ?_⟩
  refine subD_of PySem.F.slot_dict_getitem.lookup hs (thn (ho.run pins s σ H _ I h) fun u s1 ⟨x, H1, I1, rx, q1⟩ => thn (hi.run pins s1 σ H1 _ I1 q1) fun iv s2 ⟨y, H2, I2, ry, a, kvs, k, v, ex, ⟨hsys, vs, rel, dd⟩, ey, l, q2⟩ => ?_)
  subst ex ey
  obtain rfl : u = Value.ref a := rx
  have dd := dd _ I2.kIn
  refine ⟨dd.typeIs, ?_⟩
  obtain ⟨w', hw, rw'⟩ := RelO.some_of (v := v) (o := valueAt vs k) (by rw [← l]; exact rel.val k)
  exact wpAny_getItem_of (kV_is ry) dd.mapOf hw ⟨v, H2, I2.tok _, rw', q2⟩
theorem pc_dinK (hi : PE X i ty) (ho : PE X o td) : PC X .In i o (tDInK X.prog X.w X.K ty td) := by
  refine ⟨fun pins s σ H Q I h => ?_⟩
  refine thn (hi.run pins s σ H _ I h) fun iv s1 ⟨y, H1, I1, ry, q1⟩ => thn (ho.run pins s1 σ H1 _ I1 q1) fun u s2 ⟨x, H2, I2, rx, a, kvs, k, ex, ⟨hsys, vs, rel, dd⟩, ey, q2⟩ => ?_
  subst ex ey
  obtain rfl : u = Value.ref a := rx
  have dd := dd _ I2.kIn
  refine wpAny_in_of (kV_is ry) hsys dd.mapOf ?_
  rw [← (rel.val k).isSome_eq]
  exact ⟨.bl _, H2, I2.tok _, rfl, q2⟩
end
/-! its fact from the top -/
def HasDct (P : Program) (w : World) (K : PySem.W.Frag) (x : Str) (kvs : List (Key × V)) : Prop := ∃ a, PySem.W.nsIn K mainGlobals x = some (some (.ref a)) ∧ KDct P w K a kvs
structure UseD (P : Program) (w : World) (K : PySem.W.Frag) (mg : Str → Option Value) (x : Str) (kvs : List (Key × V)) : Prop where
  ex : ∃ a, mg x = some (.ref a) ∧ KDct P w K a kvs
/-- entries whose keys and values are texts -/
inductive DEnt (w : World) : List DictEntry → List (Str × Str) → Prop
  | nil : DEnt w [] []
  | cons {e : DictEntry} {es : List DictEntry} {k v : Str} {ps : List (Str × Str)} {t t' : Tok} : e.key = .str k t → e.hash = hashStr w k → e.val = .str v t' → DEnt w es ps → DEnt w (e :: es) ((k, v) :: ps)
def txtKV (ps : List (Str × Str)) : List (Key × V) := ps.map fun p => (.inr p.1, .str p.2)
theorem DEnt.pairs {P : Program} {w : World} : ∀ {es : List DictEntry} {ps : List (Str × Str)}, DEnt w es ps → ∃ vs : List (Key × Value), KV (txtKV ps) vs ∧ PySem.Pairs (mixKind P w) es vs ∧ vs.map (·.1) = ps.map (fun p => (Sum.inr p.1 : Key)) ∧ ∀ e ∈ es, ∃ k, (mixKind P w).is k e.key = true ∧ e.hash = (mixKind P w).hash k
  | _, _, .nil => ⟨[], .nil, .nil, rfl, fun _ h => by cases h⟩
  | _, _, .cons (k := k) (v := v) (t := t) (t' := t') hk hh hv r => by
    obtain ⟨vs, a, b, c, d⟩ := DEnt.pairs (P := P) r
    refine ⟨(.inr k, .str v t') :: vs, .cons ⟨rfl, ⟨_, rfl⟩⟩ a, .cons (by rw [hk]; exact mixKind_str P w k t) hv b, by rw [List.map_cons, c]; rfl, fun e he => ?_⟩
    rcases List.mem_cons.mp he with rfl | he
    · exact ⟨.inr k, by rw [hk]; exact mixKind_str P w k t, hh⟩
    · exact d e he
theorem nodup_inr : ∀ {xs : List Str}, xs.Nodup → (xs.map (Sum.inr : Str → Key)).Nodup
  | [], _ => .nil
  | x :: r, h => by
    obtain ⟨h1, h2⟩ := List.nodup_cons.mp h
    refine List.nodup_cons.mpr ⟨fun hm => ?_, nodup_inr h2⟩
    obtain ⟨y, hy, e⟩ := List.mem_map.mp hm
    exact h1 (Sum.inr.inj e ▸ hy)
theorem HasDct.mk' {P : Program} {w : World} {K : PySem.W.Frag} {x : Str} {ps : List (Str × Str)} {a : Addr} {es : Array DictEntry} {ep : Nat} (h : PySem.W.nsIn K mainGlobals x = some (some (.ref a)))
    (b : K.lookup a = some { cls := .type "dict", data := .dict es ep }) (hs : (a == sysModules) = false) (c : DEnt w es.toList ps) (nd : (ps.map (·.1)).Nodup) : HasDct P w K x (txtKV ps) := by
  obtain ⟨vs, v1, v2, v3, v4⟩ := DEnt.pairs (P := P) c
  refine ⟨a, h, hs, vs, v1, fun hh hK => ⟨_, es, ep, hK a _ b, ⟨rfl, rfl, rfl⟩, rfl, fun e he => v4 e (Array.mem_toList_iff.mpr he), v2, ?_⟩⟩
  rw [v3]
  have : ps.map (fun p => (Sum.inr p.1 : Key)) = (ps.map (·.1)).map Sum.inr := by rw [List.map_map]; rfl
  rw [this]
  exact nodup_inr nd
theorem HasDct.g {P : Program} {w : World} {K : PySem.W.Frag} {mg : Str → Option Value} {h : Heap} {x : Str} {kvs : List (Key × V)} (D : HasDct P w K x kvs) (X : K.In h) (G : h.Ns mainGlobals mg) : UseD P w K mg x kvs := by
  obtain ⟨a, e, k⟩ := D
  exact ⟨a, PySem.W.mg_of X G e, k⟩
end LK

set_option Elab.async false
set_option linter.all false
set_option maxRecDepth 100000
set_option maxHeartbeats 4000000
/-! Defs held by names and by dicts of the top: action = D[k]; action(x). The keys and the length of a dict of the top. -/
namespace LK
open PySem PySem.Spec PyProof.Rows L2
/-! ### a def that a local holds -/
def tCallV (X : Cx) (k : Nat) (i : Nat) (t : TA) : TE := fun σ H Q => ∃ (f : Addr) (fd : FuncData) (ps : List Str) (sp : Sp), σ[i]? = some (some (.ref f)) ∧ FnG X.prog X.w X.K X.mg X.base CX0 k f fd ps sp ∧ PySem.W.keepIn X.K (.ref f) = true ∧ Binds X.K fd ps [] ∧
  t σ H fun vs H1 => sp vs H1 Q E0
section
variable {X : Cx} {k i : Nat} {x : Str} {p pos : Pos} {e : Expr} {es : List Expr} {t : TA}
theorem pe_callV (hv : PE X (.Name x p) (tVar i)) (hr : Room k X.A) (gd : X.A.guards = some []) (ha : PA X (e :: es) t)
    (he : starEach (e :: es) X.env = (false, eval e X.env) :: starEach es X.env := by rfl) (hpl : (backTo pos (starEach es X.env)).any (·.1) = false := by rfl) : PE X (.Call (.Name x p) (e :: es) [] pos) (tCallV X k i t) := by
  refine ⟨fun pins s σ H Q I ⟨f, fd, ps, sp, eσ, F, kp, hb, h⟩ => ?_⟩
  refine wpAny_Call_Name_kw (thn (hv.run pins s σ H (fun v H' => v = V.ref f ∧ H' = H) I ⟨_, eσ, rfl, rfl⟩) fun u s1 ⟨v, H', I1, rv, ev, eH⟩ => ?_)
  subst ev eH
  obtain rfl : u = Value.ref f := rv
  exact PySem.W.callWith_K (h₀ := X.base) I1.ok.mod.kin kp (thn (ha.run pos pins s1 σ _ _ I1 h) fun us s2 ⟨vs, H2, I2, r, q⟩ => ⟨I2.kIn, run_fnG F hr gd hb pass0 I2 r q⟩) he hpl
end
/-! ### defs by name and place -/
def HasFnA (K : PySem.W.Frag) (x : Str) (st : Stmt) (f : Addr) : Prop := ∃ (oc : Value) (od an : Option Addr) (kV doc pm cdv ct : Value) (osl : Array (Option Value)),
  PySem.W.nsIn K mainGlobals x = some (some (.ref f)) ∧ K.lookup f = some ⟨oc, od, .func (PySem.W.fnOf x x (defArgs st) (defBody st) (defScope st) .none kV doc pm an cdv ct), osl⟩ ∧
  PySem.W.codeIn K cdv x = true ∧ PySem.W.keepIn K (.ref f) = true
theorem HasFnA.mk' {K : PySem.W.Frag} {x : Str} {st : Stmt} {f : Addr} {oc : Value} {od an : Option Addr} {kV doc pm cdv ct : Value} {osl : Array (Option Value)} (a : PySem.W.nsIn K mainGlobals x = some (some (.ref f)))
    (b : K.lookup f = some ⟨oc, od, .func (PySem.W.fnOf x x (defArgs st) (defBody st) (defScope st) .none kV doc pm an cdv ct), osl⟩) (c : PySem.W.codeIn K cdv x = true) (d : PySem.W.keepIn K (.ref f) = true) : HasFnA K x st f := ⟨oc, od, an, kV, doc, pm, cdv, ct, osl, a, b, c, d⟩
theorem HasFnA.fn {K : PySem.W.Frag} {x : Str} {st : Stmt} {f : Addr} (h : HasFnA K x st f) : HasFn K x st := by
  obtain ⟨oc, od, an, kV, doc, pm, cdv, ct, osl, a, b, c, d⟩ := h
  exact ⟨f, oc, od, an, kV, doc, pm, cdv, ct, osl, a, b, c, d⟩
structure UseA (P : Program) (w : World) (K : PySem.W.Frag) (mg : Str → Option Value) (base : Heap) (x : Str) (k : Nat) (ps : List Str) (sp : Sp) (f : Addr) : Prop where
  ex : ∃ fd : FuncData, FnG P w K mg base CX0 k f fd ps sp ∧ mg x = some (.ref f) ∧ PySem.W.keepIn K (.ref f) = true ∧ Binds K fd ps []
section
variable {P : Program} {w : World} {K : PySem.W.Frag} {mg : Str → Option Value} {base h : Heap}
theorem UseA.use {x : Str} {k : Nat} {ps : List Str} {sp : Sp} {f : Addr} (U : UseA P w K mg base x k ps sp f) : Use P w K mg base CX0 x k ps sp := by
  obtain ⟨fd, r⟩ := U.ex
  exact ⟨f, fd, r⟩
theorem mk_useA {x : Str} {st : Stmt} {k : Nat} {ps : List Str} {sp : Sp} {f : Addr} (F : HasFnA K x st f) (X : K.In h) (G : h.Ns mainGlobals mg)
    (hb : ∀ (kV doc pm : Value) (an : Option Addr) (cdv ct : Value) (us : List Value), us.length = ps.length → bindArgs (PySem.W.fnOf x x (defArgs st) (defBody st) (defScope st) .none kV doc pm an cdv ct) ⟨us, []⟩ = pure (ps.zip us))
    (ok : ∀ (f : Addr) (fd : FuncData), Fun K x x st f fd → FnG P w K mg base CX0 k f fd ps sp) : UseA P w K mg base x k ps sp f := by
  obtain ⟨oc, od, an, kV, doc, pm, cdv, ct, osl, e, l, c, kp⟩ := F
  have Fn := fun_mk (st := st) l c kp
  exact ⟨_, ok f _ Fn, PySem.W.mg_of X G e, kp, Fn.binds hb⟩
end
/-! ### a dict of the top whose values are defs -/
inductive FEnt (w : World) : List DictEntry → List (Str × Addr) → Prop
  | nil : FEnt w [] []
  | cons {e : DictEntry} {es : List DictEntry} {k : Str} {v : Addr} {ps : List (Str × Addr)} {t : Tok} : e.key = .str k t → e.hash = hashStr w k → e.val = .ref v → FEnt w es ps → FEnt w (e :: es) ((k, v) :: ps)
def fnKV (ps : List (Str × Addr)) : List (Key × V) := ps.map fun p => (.inr p.1, .ref p.2)
theorem FEnt.pairs {P : Program} {w : World} : ∀ {es : List DictEntry} {ps : List (Str × Addr)}, FEnt w es ps → ∃ vs : List (Key × Value), KV (fnKV ps) vs ∧ PySem.Pairs (mixKind P w) es vs ∧ vs.map (·.1) = ps.map (fun p => (Sum.inr p.1 : Key)) ∧ ∀ e ∈ es, ∃ k, (mixKind P w).is k e.key = true ∧ e.hash = (mixKind P w).hash k
  | _, _, .nil => ⟨[], .nil, .nil, rfl, fun _ h => by cases h⟩
  | _, _, .cons (k := k) (v := v) (t := t) hk hh hv r => by
    obtain ⟨vs, a, b, c, d⟩ := FEnt.pairs (P := P) r
    refine ⟨(.inr k, .ref v) :: vs, .cons ⟨rfl, rfl⟩ a, .cons (by rw [hk]; exact mixKind_str P w k t) hv b, by rw [List.map_cons, c]; rfl, fun e he => ?_⟩
    rcases List.mem_cons.mp he with rfl | he
    · exact ⟨.inr k, by rw [hk]; exact mixKind_str P w k t, hh⟩
    · exact d e he
theorem HasDct.mkF {P : Program} {w : World} {K : PySem.W.Frag} {x : Str} {ps : List (Str × Addr)} {a : Addr} {es : Array DictEntry} {ep : Nat} (h : PySem.W.nsIn K mainGlobals x = some (some (.ref a)))
    (b : K.lookup a = some { cls := .type "dict", data := .dict es ep }) (hs : (a == sysModules) = false) (c : FEnt w es.toList ps) (nd : (ps.map (·.1)).Nodup) : HasDct P w K x (fnKV ps) := by
  obtain ⟨vs, v1, v2, v3, v4⟩ := FEnt.pairs (P := P) c
  refine ⟨a, h, hs, vs, v1, fun hh hK => ⟨_, es, ep, hK a _ b, ⟨rfl, rfl, rfl⟩, rfl, fun e he => v4 e (Array.mem_toList_iff.mpr he), v2, ?_⟩⟩
  rw [v3]
  have : ps.map (fun p => (Sum.inr p.1 : Key)) = (ps.map (·.1)).map Sum.inr := by rw [List.map_map]; rfl
  rw [this]
  exact nodup_inr nd
/-! ### list(D), len(D) -/
def rListK (P : Program) (w : World) (K : PySem.W.Frag) : List V → Hp → VK → Prop := fun xs H Q => ∃ p kvs, xs = [.ref p] ∧ KDct P w K p kvs ∧ kvs.length ≤ 1000 ∧ ∀ q, H q = none → Q (.ref q) (upd H q (.lst (kvs.map fun kv => kV kv.1)))
theorem call_listK {X : Cx} (hc : X.calm = true) : CallR X (.type "list") (rListK X.prog X.w X.K) := by
  intro pins s σ H xs us Q I r h
  obtain ⟨p, kvs, rfl, ⟨hsys, vs, rel, dd⟩, hz, q⟩ := h
  obtain ⟨u, rfl, rx⟩ := vals1 r
  obtain rfl : u = Value.ref p := rx
  obtain ⟨ep, hat⟩ := (dd _ I.kIn).dictAt
  have hl : kvs.length = vs.length := Paired.length rel
  have hz2 : vs.length ≤ sizeLine := by rw [← hl]; exact Nat.le_trans hz (by decide)
  refine PySem.W.kdl_call (PySem.W.kdl_dict (knd := mixKind X.prog X.w) (kvs := vs) (ep := ep) hsys) (I.ok.hd hc) hat hz2 fun h2 tk acc c kk hS it => ?_
  have ok : ObjOk X.prog X.w (upd H s.heap.objs.size (.lst (kvs.map fun kv => kV kv.1))) h2 s.heap.objs.size (.lst (kvs.map fun kv => kV kv.1)) := by
    refine ⟨by rw [List.length_map, hl]; exact hz2, acc.toList, c, ?_, by rw [Array.toArray_toList]; exact hS⟩
    have el : acc.toList.length = acc.size := by simp
    refine vals_of_at (by rw [List.length_map, el, it.1, hl]) fun j x y h1 h2 => ?_
    obtain ⟨k, z, hkz, hi⟩ := it.2 j y (by rw [← Array.getElem?_toList]; exact h2)
    have e1 : (kvs.map (·.1))[j]? = some k := by
      rw [KV.keys rel, List.getElem?_map, hkz]
      rfl
    have e3 : (kvs.map fun kv => kV kv.1) = (kvs.map (·.1)).map kV := by rw [List.map_map]; rfl
    rw [e3, List.getElem?_map, e1] at h1
    cases h1
    exact keyIs_rel hi
  exact ⟨.ref s.heap.objs.size, _, I.laid kk (Nat.le_refl _) ok, rfl, q _ (I.hok.fresh (Nat.le_refl _))⟩
theorem call_lenDK {X : Cx} : CallR X (.builtin "len") (fun xs H Q => ∃ p kvs, xs = [V.ref p] ∧ KDct X.prog X.w X.K p kvs ∧ kvs.length ≤ 1000 ∧ Q (.int (kvs.length : Nat)) H) := by
  intro pins s σ H xs us Q I r h
  obtain ⟨p, kvs, rfl, ⟨hsys, vs, rel, dd⟩, hz, q⟩ := h
  obtain ⟨u, rfl, rx⟩ := vals1 r
  obtain rfl : u = Value.ref p := rx
  have hl : kvs.length = vs.length := Paired.length rel
  refine call_len_dict hsys (dd _ I.kIn) (by rw [← hl]; omega) ?_
  exact ⟨.int (kvs.length : Nat), H, I.tok _, ⟨_, by rw [hl]⟩, q⟩
end LK

set_option Elab.async false
set_option linter.all false
set_option maxRecDepth 100000
set_option maxHeartbeats 4000000
/-! for k in D, D a dict of the top; dicts of the top whose values are tuples of the top -/
namespace LK
open PySem PySem.Spec PyProof.Rows L2
/-- a dict of the top, its object written out -/
def KDctI (P : Program) (w : World) (K : PySem.W.Frag) (a : Addr) (kvs : List (Key × V)) : Prop := KDct P w K a kvs ∧ ∃ (es : Array DictEntry) (ep : Nat), K.lookup a = some { cls := .type "dict", data := .dict es ep }
def HasDctI (P : Program) (w : World) (K : PySem.W.Frag) (x : Str) (kvs : List (Key × V)) : Prop := ∃ a, PySem.W.nsIn K mainGlobals x = some (some (.ref a)) ∧ KDctI P w K a kvs
structure UseI (P : Program) (w : World) (K : PySem.W.Frag) (mg : Str → Option Value) (x : Str) (kvs : List (Key × V)) : Prop where
  ex : ∃ a, mg x = some (.ref a) ∧ KDctI P w K a kvs
theorem HasDctI.g {P : Program} {w : World} {K : PySem.W.Frag} {mg : Str → Option Value} {h : Heap} {x : Str} {kvs : List (Key × V)} (D : HasDctI P w K x kvs) (X : K.In h) (G : h.Ns mainGlobals mg) : UseI P w K mg x kvs := by
  obtain ⟨a, e, k⟩ := D
  exact ⟨a, PySem.W.mg_of X G e, k⟩
theorem HasDct.i {P : Program} {w : World} {K : PySem.W.Frag} {x : Str} {kvs : List (Key × V)} {a : Addr} {es : Array DictEntry} {ep : Nat} (D : HasDct P w K x kvs) (h : PySem.W.nsIn K mainGlobals x = some (some (.ref a)))
    (b : K.lookup a = some { cls := .type "dict", data := .dict es ep }) : HasDctI P w K x kvs := by
  obtain ⟨a', e, k⟩ := D
  rw [h] at e
  cases e
  exact ⟨a, h, k, es, ep, b⟩
/-- the keys of the dict of the top at a -/
def ItkK (a : Addr) (kvs : List (Key × V)) : It :=
  ⟨fun i _ => i < kvs.length, fun i H x H' => H' = H ∧ ∃ k v, kvs[i]? = some (k, v) ∧ x = kV k, fun i _ => kvs.length ≤ i⟩
theorem KDctI.at {P : Program} {w : World} {K : PySem.W.Frag} {a : Addr} {kvs : List (Key × V)} (D : KDctI P w K a kvs) : ∃ (es : Array DictEntry) (ep : Nat) (vs : List (Key × Value)), (a == sysModules) = false ∧ KV kvs vs ∧
    ∀ h : Heap, K.In h → es.size = kvs.length ∧ h.get? a = some { cls := .type "dict", data := .dict es ep } ∧ h.DictAt (mixKind P w) a vs ep := by
  obtain ⟨⟨hs, vs, rel, dd⟩, es, ep, lk⟩ := D
  refine ⟨es, ep, vs, hs, rel, fun h hK => ?_⟩
  obtain ⟨o, es', ep', ho, hx, hd, r⟩ := dd h hK
  have e := hK a _ lk
  rw [ho] at e
  cases e
  cases hd
  have l1 := r.2.1.length
  have l2 : kvs.length = vs.length := Paired.length rel
  rw [Array.length_toList] at l1
  exact ⟨by omega, ho, _, _, ho, hx, rfl, r⟩
section
variable {P : Program} {w : World} {K : PySem.W.Frag} {tg : Expr} {a : Addr} {es : Array DictEntry} {ep : Nat} {kvs : List (Key × V)} {vs : List (Key × Value)}
theorem turn_keysK (it : Addr) (kv : KV kvs vs) (at_ : ∀ h : Heap, K.In h → es.size = kvs.length ∧ h.get? a = some { cls := .type "dict", data := .dict es ep } ∧ h.DictAt (mixKind P w) a vs ep) :
    Turn P w K tg (ItkK a kvs) [it] it (fun i h => h.IsKeyIter it a i kvs.length ep) where
  mem := by simp
  obj := fun i h st b hb => by
    have e : b = it := by simpa using hb
    subst e
    obtain ⟨oi, e, c, dd⟩ := st
    exact ⟨oi, e, fun v z => by rw [dd] at z; cases z⟩
  keep := fun i h h' st k => st.at fun oi e => k it (by simp) oi e
  item := by
    intro X hP hw hK hc i pins s σ H E I hf st hg
    subst hP hw hK
    obtain ⟨f0, f1, f2, f3, f4, f5⟩ := hf it (by simp)
    obtain ⟨hsz, hgd, hm⟩ := at_ _ I.kIn
    obtain ⟨⟨k, v⟩, hkv⟩ : ∃ p, kvs[i]? = some p := ⟨kvs[i], List.getElem?_eq_getElem hg⟩
    obtain ⟨u, hu, ru⟩ := kv_get kv hkv
    have hl : kvs.length = vs.length := Paired.length kv
    rw [hl] at st
    refine wpAny_pyNext_dict_item st hm hu fun key h' hkey st' sb => ?_
    have I1 : Inv X pins σ H { s with heap := h' } := I.turned (t' := s.toks) (fun b ob hb e => (sb.2 b hb).trans e) f0 f1 f3 f4 f5
    obtain ⟨oi, e, c, dd⟩ := id st'
    refine ⟨key, rfl, go_of (s := { s with heap := h' }) e c dd (by decide) ⟨kV k, H, I1, relV_key (show keyIs k key = true from hkey), ⟨rfl, k, v, hkv, rfl⟩, ?_, fun b hb => (hf b hb).1⟩⟩
    show h'.IsKeyIter it a (i + 1) kvs.length _
    rw [hl]
    exact st'
  done := by
    intro X hP hw hK hc i pins s σ H E I hf st hg
    subst hP hw hK
    obtain ⟨f0, f1, f2, f3, f4, f5⟩ := hf it (by simp)
    obtain ⟨hsz, hgd, hm⟩ := at_ _ I.kIn
    exact next_key_end (I.ok.hd hc) st hgd rfl hsz hg fun h' eb => ⟨rfl, I.turned (t' := s.toks) (fun b ob hb e => eb b ob hb e) f0 f1 f3 f4 f5⟩
  self := fun A i s Q E st h => wpAny_pyIter_keyiter st h
end
def iKeysK (P : Program) (w : World) (K : PySem.W.Frag) (td : TE) : TI := fun σ H R => td σ H fun x H1 => ∃ a kvs, x = .ref a ∧ KDctI P w K a kvs ∧ R (ItkK a kvs) H1
theorem pi_keysK {X : Cx} {tg e : Expr} {td : TE} (he : PE X e td) : PI X tg e (iKeysK X.prog X.w X.K td) := by
  refine ⟨fun pins s σ H R I h => ?_⟩
  refine thn (he.run pins s σ H _ I h) fun u s1 ⟨x, H1, I1, rx, a, kvs, ex, D, q⟩ => ?_
  subst ex
  obtain rfl : u = Value.ref a := rx
  obtain ⟨es, ep, vs, hs, kv, at_⟩ := D.at
  obtain ⟨hsz, hgd, hm⟩ := at_ _ I1.kIn
  refine iter_keys hs hgd ⟨rfl, rfl, rfl⟩ rfl (pi_one (tk := s1.toks) I1 _ (turn_keysK _ kv at_) ⟨_, Heap.get?_push_size _ rfl, rfl, ?_⟩ q)
  rw [hsz] <;> rfl
theorem walk_keysK {a : Addr} {kvs : List (Key × V)} : Walk (ItkK a kvs) kvs.length (fun _ => True) (fun i H x H' => H' = H ∧ ∃ k v, kvs[i]? = some (k, v) ∧ x = kV k) :=
  ⟨fun _ _ hi _ => hi, fun _ _ => Nat.le_refl _, fun _ _ _ _ _ _ y => y⟩
/-! ### dicts of the top whose values are tuples of the top -/
inductive TEnt (w : World) (K : PySem.W.Frag) : List DictEntry → List (Str × List V) → List (Str × Addr) → Prop
  | nil : TEnt w K [] [] []
  | cons {e : DictEntry} {es : List DictEntry} {k : Str} {a : Addr} {xs : List V} {ps : List (Str × List V)} {qs : List (Str × Addr)} {t : Tok} {od : Option Addr} {its : Array Value} {n : Nat} {sl : Array (Option Value)} :
      e.key = .str k t → e.hash = hashStr w k → e.val = .ref a → K.lookup a = some ⟨.type "tuple", od, .seq its n, sl⟩ → its.size ≤ sizeLine → Vals xs its.toList → TEnt w K es ps qs → TEnt w K (e :: es) ((k, xs) :: ps) ((k, a) :: qs)
theorem TEnt.f {w : World} {K : PySem.W.Frag} : ∀ {es : List DictEntry} {ps : List (Str × List V)} {qs : List (Str × Addr)}, TEnt w K es ps qs → FEnt w es qs ∧ ps.map (·.1) = qs.map (·.1) ∧ Paired (fun q p => KTup K q.2 p.2) qs ps
  | _, _, _, .nil => ⟨.nil, rfl, .nil⟩
  | _, _, _, .cons h1 h2 h3 h4 h5 h6 r => by
    obtain ⟨a, b, c⟩ := r.f
    exact ⟨.cons h1 h2 h3 a, by rw [List.map_cons, List.map_cons, b], .cons ⟨_, _, _, _, h4, h5, h6⟩ c⟩
/-- the dict x of the top: each key's value is a tuple of the top -/
def HasTupD (P : Program) (w : World) (K : PySem.W.Frag) (x : Str) (ps : List (Str × List V)) : Prop := ∃ qs : List (Str × Addr), HasDctI P w K x (fnKV qs) ∧ ps.map (·.1) = qs.map (·.1) ∧ Paired (fun q p => KTup K q.2 p.2) qs ps
structure UseT (P : Program) (w : World) (K : PySem.W.Frag) (mg : Str → Option Value) (x : Str) (ps : List (Str × List V)) : Prop where
  ex : ∃ qs : List (Str × Addr), UseI P w K mg x (fnKV qs) ∧ ps.map (·.1) = qs.map (·.1) ∧ Paired (fun q p => KTup K q.2 p.2) qs ps
theorem HasTupD.g {P : Program} {w : World} {K : PySem.W.Frag} {mg : Str → Option Value} {h : Heap} {x : Str} {ps : List (Str × List V)} (D : HasTupD P w K x ps) (X : K.In h) (G : h.Ns mainGlobals mg) : UseT P w K mg x ps := by
  obtain ⟨qs, a, b, c⟩ := D
  exact ⟨qs, a.g X G, b, c⟩
theorem HasTupD.mk' {P : Program} {w : World} {K : PySem.W.Frag} {x : Str} {ps : List (Str × List V)} {qs : List (Str × Addr)} {a : Addr} {es : Array DictEntry} {ep : Nat} (h : PySem.W.nsIn K mainGlobals x = some (some (.ref a)))
    (b : K.lookup a = some { cls := .type "dict", data := .dict es ep }) (hs : (a == sysModules) = false) (c : TEnt w K es.toList ps qs) (nd : (ps.map (·.1)).Nodup) : HasTupD P w K x ps := by
  obtain ⟨c1, c2, c3⟩ := c.f
  exact ⟨qs, (HasDct.mkF (P := P) h b hs c1 (c2 ▸ nd)).i h b, c2, c3⟩
end LK
namespace LK
open PySem PySem.Spec PyProof.Rows L2
/-! a name of the top that is bound to a def of another name -/
def HasFnN (K : PySem.W.Frag) (x y : Str) (st : Stmt) : Prop := ∃ (f : Addr) (oc : Value) (od an : Option Addr) (kV doc pm cdv ct : Value) (osl : Array (Option Value)),
  PySem.W.nsIn K mainGlobals x = some (some (.ref f)) ∧ K.lookup f = some ⟨oc, od, .func (PySem.W.fnOf y y (defArgs st) (defBody st) (defScope st) .none kV doc pm an cdv ct), osl⟩ ∧
  PySem.W.codeIn K cdv y = true ∧ PySem.W.keepIn K (.ref f) = true
theorem HasFnN.mk' {K : PySem.W.Frag} {x y : Str} {st : Stmt} {f : Addr} {oc : Value} {od an : Option Addr} {kV doc pm cdv ct : Value} {osl : Array (Option Value)} (a : PySem.W.nsIn K mainGlobals x = some (some (.ref f)))
    (b : K.lookup f = some ⟨oc, od, .func (PySem.W.fnOf y y (defArgs st) (defBody st) (defScope st) .none kV doc pm an cdv ct), osl⟩) (c : PySem.W.codeIn K cdv y = true) (d : PySem.W.keepIn K (.ref f) = true) : HasFnN K x y st :=
  ⟨f, oc, od, an, kV, doc, pm, cdv, ct, osl, a, b, c, d⟩
theorem HasFn.n {K : PySem.W.Frag} {x : Str} {st : Stmt} (F : HasFn K x st) : HasFnN K x x st := F
section
variable {P : Program} {w : World} {K : PySem.W.Frag} {mg : Str → Option Value} {base h : Heap} {CX : CXT}
theorem mk_useY {x y : Str} {st : Stmt} {k : Nat} {ps : List Str} {sp : Sp} (F : HasFnN K x y st) (X : K.In h) (G : h.Ns mainGlobals mg)
    (hb : ∀ (kV doc pm : Value) (an : Option Addr) (cdv ct : Value) (us : List Value), us.length = ps.length → bindArgs (PySem.W.fnOf y y (defArgs st) (defBody st) (defScope st) .none kV doc pm an cdv ct) ⟨us, []⟩ = pure (ps.zip us))
    (ok : ∀ (f : Addr) (fd : FuncData), Fun K y y st f fd → FnG P w K mg base CX k f fd ps sp) : Use P w K mg base CX x k ps sp := by
  obtain ⟨f, oc, od, an, kV, doc, pm, cdv, ct, osl, e, l, c, kp⟩ := F
  have Fn := fun_mk (st := st) l c kp
  exact ⟨f, _, ok f _ Fn, PySem.W.mg_of X G e, kp, Fn.binds hb⟩
/-- defs that call one another: a promise by depth; at each depth all of them, from the depth before -/
theorem mk_useG {x y : Str} {st : Stmt} {ps : List Str} (sp : Nat → Sp) (k0 kn : Nat) (F : HasFnN K x y st) (X : K.In h) (G : h.Ns mainGlobals mg)
    (hb : ∀ (kV doc pm : Value) (an : Option Addr) (cdv ct : Value) (us : List Value), us.length = ps.length → bindArgs (PySem.W.fnOf y y (defArgs st) (defBody st) (defScope st) .none kV doc pm an cdv ct) ⟨us, []⟩ = pure (ps.zip us))
    (h0 : ∀ vs H Q E, ¬ sp 0 vs H Q E)
    (ok : ∀ (n : Nat), Use P w K mg base CX x (k0 + kn * n) ps (sp n) → ∀ (f : Addr) (fd : FuncData), Fun K y y st f fd → FnG P w K mg base CX (k0 + kn * (n + 1)) f fd ps (sp (n + 1))) : ∀ n, Use P w K mg base CX x (k0 + kn * n) ps (sp n)
  | 0 => by
    obtain ⟨f, oc, od, an, kV, doc, pm, cdv, ct, osl, e, l, c, kp⟩ := F
    have Fn := fun_mk (st := st) l c kp
    exact ⟨f, _, ⟨fun vs H Q E s => absurd s (h0 vs H Q E), fun _ _ _ _ _ _ vs Q E _ _ _ _ _ s => absurd s (h0 _ _ _ _)⟩, PySem.W.mg_of X G e, kp, Fn.binds hb⟩
  | n + 1 => mk_useY F X G hb (ok n (mk_useG sp k0 kn F X G hb h0 ok n))
end
end LK
namespace LK
open PySem PySem.Spec PyProof.Rows L2
/-! a nested tuple of the top, as data -/
def HasDat (K : PySem.W.Frag) (x : Str) (d : PyData) : Prop := ∃ a, PySem.W.nsIn K mainGlobals x = some (some (.ref a)) ∧ ∀ H, Dt K H (.ref a) d
def GDat (K : PySem.W.Frag) (mg : Str → Option Value) (x : Str) (d : PyData) : Prop := ∃ a, mg x = some (.ref a) ∧ ∀ H, Dt K H (.ref a) d
theorem HasDat.g {K : PySem.W.Frag} {mg : Str → Option Value} {h : Heap} {x : Str} {d : PyData} (i : HasDat K x d) (X : K.In h) (G : h.Ns mainGlobals mg) : GDat K mg x d := by
  obtain ⟨a, e, r⟩ := i
  exact ⟨a, PySem.W.mg_of X G e, r⟩
theorem KTup.dt {K : PySem.W.Frag} {a : Addr} {xs : List V} {ds : List PyData} (h : KTup K a xs) (H : Hp) (d : DtAll K H xs ds) : Dt K H (.ref a) (.tuple ds) := .tup (h.sq H) d
theorem HasDat.mk2 {K : PySem.W.Frag} {x s z : Str} {a b : Addr} {od od2 : Option Addr} {its its2 : Array Value} {n n2 : Nat} {sl sl2 : Array (Option Value)} (h : PySem.W.nsIn K mainGlobals x = some (some (.ref a)))
    (h1 : K.lookup a = some ⟨.type "tuple", od, .seq its n, sl⟩) (z1 : its.size ≤ sizeLine) (v1 : Vals [.str s, .ref b] its.toList) (h2 : K.lookup b = some ⟨.type "tuple", od2, .seq its2 n2, sl2⟩) (z2 : its2.size ≤ sizeLine) (v2 : Vals [.str z] its2.toList) :
    HasDat K x (.tuple [.str s, .tuple [.str z]]) :=
  ⟨a, h, fun H => KTup.dt ⟨_, _, _, _, h1, z1, v1⟩ H (.cons (.str _) (.cons (KTup.dt ⟨_, _, _, _, h2, z2, v2⟩ H (.cons (.str _) .nil)) .nil))⟩
def tGD (K : PySem.W.Frag) (d : PyData) : TE := fun _ H Q => ∀ v, (∀ H, Dt K H v d) → Q v H
theorem pe_globD {X : Cx} {x : Str} {pos : Pos} {d : PyData} (h : GDat X.K X.mg x d) (hg : Gl X x) (hd : (x == ("__debug__" : Str)) = false := by decide) : PE X (.Name x pos) (tGD X.K d) := by
  obtain ⟨a, e, r⟩ := h
  exact ⟨fun pins s σ H Q I q => (pe_glob (v := .ref a) hg e rfl hd).run pins s σ H Q I (q (.ref a) r)⟩
end LK

set_option linter.all false
namespace LK
section
open PySem PySem.Spec PyProof.Rows L2
theorem FnG.up {P : Program} {w : World} {K : PySem.W.Frag} {mg : Str → Option Value} {base : Heap} {CX : CXT} {k k' : Nat} {f : Addr} {fd : FuncData} {ps : List Str} {sp : Sp} (F : FnG P w K mg base CX k f fd ps sp) (h : k ≤ k') : FnG P w K mg base CX k' f fd ps sp :=
  ⟨F.len, fun A outer s H args us vs Q E hr => F.run A outer s H args us vs Q E (hr.mono h)⟩
theorem Use.up {P : Program} {w : World} {K : PySem.W.Frag} {mg : Str → Option Value} {base : Heap} {CX : CXT} {k k' : Nat} {x : Str} {ps : List Str} {sp : Sp} (U : Use P w K mg base CX x k ps sp) (h : k ≤ k') : Use P w K mg base CX x k' ps sp := by
  obtain ⟨f, fd, F, r⟩ := U.ex
  exact ⟨f, fd, F.up h, r⟩
theorem HasDctI.mkF' {P : Program} {w : World} {K : PySem.W.Frag} {x : Str} {qs : List (Str × Addr)} {a : Addr} {es : Array DictEntry} {ep : Nat} (h : PySem.W.nsIn K mainGlobals x = some (some (.ref a)))
    (b : K.lookup a = some { cls := .type "dict", data := .dict es ep }) (hs : (a == sysModules) = false) (c : FEnt w es.toList qs) (nd : (qs.map (·.1)).Nodup) : HasDctI P w K x (fnKV qs) :=
  (HasDct.mkF (P := P) h b hs c nd).i h b
end
end LK

set_option Elab.async false
set_option linter.all false
set_option maxRecDepth 100000
set_option maxHeartbeats 4000000
/-! list(reversed(x)) of a tuple -/
namespace LK
open PySem PySem.Spec PyProof.Rows L2 SX
theorem nolen_rt : typeLookup (.type "reversed") "__len__" = pure none := by rw [typeLookup_type, builtinLookup_eq_fast]; kernel_rfl
theorem slot_rt_hint : Slot "reversed" "__length_hint__" "reversed.__length_hint__" :=
  .of (owner := "reversed") (n := "__length_hint__") (by rw [typeLookup_type, builtinLookup_eq_fast]; kernel_rfl) (by decide +kernel) (by decide +kernel) (by decide +kernel)
    (by first | exact .inl (by decide +kernel) | exact .inr (by decide +kernel)) (by rw [isSubtype_type]; kernel_rfl)
theorem entry_rt_hint : entryFor table "reversed.__length_hint__" = some Builtin.«reversed.__length_hint__» := entryFor_of_tree (by kernel_rfl)
theorem args_rt_hint (a : Value) : argsOk "reversed.__length_hint__" ⟨[a], []⟩ := by
  unfold argsOk; rw [signature?_of (id := "reversed.__length_hint__") (n := ['_', '_', 't', 'n', 'i', 'h', '_', 'h', 't', 'g', 'n', 'e', 'l', '_', '_']) (o := ['d', 'e', 's', 'r', 'e', 'v', 'e', 'r']) (by kernel_rfl) RT.owner_rt]; kernel_rfl
section
variable {prog : Program} {w : World} {A : Around} {E : Value → Shared → Prop} {s : Shared}
theorem hint_rt {it t : Addr} {items : Array Value} {Q : Bool → Shared → Prop} (hit : RT.IsRt s.heap it t ((items.size : Int) - 1)) (ht : IsTup s.heap t items) (hn : items.size ≤ sizeLine)
    (hQ : ∀ b tk, Q b { s with toks := tk }) : wpAny (model prog w) A (Builtin.List.listLengthHint (.ref it)) Q E s := by
  have hT : s.TypeIs (.ref it) "reversed" := hit.typeIs
  obtain ⟨o, ho, hc, hd⟩ := id hit
  unfold Builtin.List.listLengthHint
  refine wpAny_bind (wpAny_specialOf hT nolen_rt ?_)
  show wpAny _ _ (specialOf (Value.ref it) (Str.ofString "__length_hint__") >>= _) _ _ _
  refine wpAny_bind (wpAny_specialOf hT slot_rt_hint.lookup ?_)
  generalize hid : ("reversed.__length_hint__" : String) = id0
  wp_delta
  rw [show splitId id0 = some ("reversed", "__length_hint__") from by subst hid; decide +kernel]
  subst hid
  refine wpAny_bind (wpAny_isInstance (b := true) hT (by rw [isSubtype_type]; kernel_rfl) ?_)
  rw [if_neg (by decide)]
  rw [if_neg (by decide +kernel)]
  refine wpAny_bind (wpAny_rule ?_)
  refine wpAny_bind (wpAny_of_eq (slot_rt_hint.bind (.ref it)) ?_)
  refine wpAny_bind (wpAny_attempt (wpAny_call_entry slot_rt_hint hT entry_rt_hint ?_ (args_rt_hint _)))
  unfold Builtin.«reversed.__length_hint__»
  refine wpAny_bind (wpAny_of_eq (a := Value.ref it) rfl ?_)
  refine wpAny_bind (wpAny_field ho hd (x := .ref t) rfl ?_)
  rw [if_neg (show ¬ ((Value.ref t == Value.none) = true) from Bool.false_ne_true)]
  refine wpAny_bind (len_tuple ht (by rw [sizeLine_eq] at hn; omega) ?_)
  refine wpAny_bind (wpAny_of_eq (a := some ((items.size : Nat) : Int)) rfl ?_)
  refine wpAny_bind (wpAny_field (s := { s with toks := s.toks + 1 + 1 }) ho hd (x := rawInt ((items.size : Int) - 1)) rfl ?_)
  show wpAny _ _ (if ((items.size : Nat) : Int) < (items.size : Int) - 1 + 1 then _ else _) _ _ _
  rw [if_neg (by omega)]
  have e1 : (items.size : Int) - 1 + 1 = ((items.size : Nat) : Int) := by omega
  rw [e1]
  have hz := hn
  rw [sizeLine_eq] at hz
  unfold retInt
  refine wpAny_bind (wpAny_mkInt ?_)
  refine wpAny_pure ⟨_, rfl, ?_⟩
  dsimp only
  have f0 : ¬ (((items.size : Nat) : Int) < 0) := Int.not_lt.mpr (Int.natCast_nonneg _)
  have f1 : Builtin.List.listFitsIndex ((items.size : Nat) : Int) = true := by
    unfold Builtin.List.listFitsIndex
    rw [Bool.and_eq_true]
    exact ⟨decide_eq_true (by omega), decide_eq_true (by omega)⟩
  have f2 : Builtin.List.listTooLong ((items.size : Nat) : Int).toNat = false := by
    unfold Builtin.List.listTooLong
    rw [Int.toNat_natCast]
    exact decide_eq_false (Nat.not_lt.mpr hn)
  have f3 : ∀ tk, asInt? (Value.int ((items.size : Nat) : Int) tk) = pure (some ((items.size : Nat) : Int)) := fun _ => rfl
  generalize ((items.size : Nat) : Int) = N at f0 f1 f2 f3 ⊢
  rw [f3]
  refine wpAny_bind (wpAny_pure ?_)
  dsimp only
  rw [f1, if_neg (show ¬ ((!true) = true) by decide), if_neg f0, f2, if_neg Bool.false_ne_true]
  exact wpAny_pure (hQ _ _)
theorem walks_rt {t it : Addr} {items : Array Value} (hh : A.handled = none) (hne : t ≠ it) (hn : items.size ≤ sizeLine) :
    Walks prog w A it [it, t] [it] items.size (fun i v => items[items.size - 1 - i]? = some v) (fun i h => i ≤ items.size ∧ RT.IsRt h it t ((items.size : Int) - 1 - (i : Nat)) ∧ IsTup h t items) where
  sub := fun b hb => by rw [List.mem_singleton.mp hb]; simp
  frame := fun i h h' st hk => ⟨st.1, st.2.1.at fun o e => hk it (by simp) o e, let ⟨o, ho, r⟩ := st.2.2; ⟨o, hk t (by simp) o ho, r⟩⟩
  item := fun i s Q E hi st hQ => by
    have e1 : (items.size : Int) - 1 - ((i : Nat) : Int) = ((items.size - 1 - i : Nat) : Int) := by omega
    have st2 := st.2.1
    rw [e1] at st2
    have hx : items[items.size - 1 - i]? = some (items[items.size - 1 - i]'(by omega)) := Array.getElem?_eq_getElem (by omega)
    refine RT.next_rt_item st2 st.2.2 hx hn fun h' hit' sb => ?_
    have e2 : ((items.size - 1 - i : Nat) : Int) - 1 = (items.size : Int) - 1 - ((i + 1 : Nat) : Int) := by omega
    rw [e2] at hit'
    exact hQ _ h' _ hx ⟨hi, hit', let ⟨o, ho, r⟩ := st.2.2; ⟨o, (sb.2 t hne).trans ho, r⟩⟩ fun b o hb e => (sb.2 b (fun h => hb (by simp [h]))).trans e
  done := fun s Q E st hQ => by
    have st2 := st.2.1
    rw [show (items.size : Int) - 1 - ((items.size : Nat) : Int) = -1 by omega] at st2
    exact RT.next_rt_end hh st2 fun h' he => hQ h' s.toks fun b o hb e => he b o (fun h => hb (by simp [h])) e
  self := fun i s Q E st h => RT.iter_rt st.2.1 h
theorem extend_rt {R : Result → Shared → Prop} {it t S : Addr} {items : Array Value} (res : Value) (c₀ : Nat) (hh : A.handled = none) (hit : RT.IsRt s.heap it t ((items.size : Int) - 1)) (ht : IsTup s.heap t items) (hne : t ≠ it) (hn : items.size ≤ sizeLine) (hSi : S ≠ it) (hSt : S ≠ t)
    (hS : s.heap.get? S = some { cls := .type "list", data := .seq #[] c₀ })
    (hR : ∀ h' tk acc' c', (∀ b o, b ≠ S → b ≠ it → s.heap.get? b = some o → h'.get? b = some o) → h'.get? S = some { cls := .type "list", dict := none, data := .seq acc' c', slots := #[] } → ItemsOf (fun i v => items[items.size - 1 - i]? = some v) acc' items.size → R (.ok (.ret res)) { s with heap := h', toks := tk }) :
    wpAny (model prog w) A.in1 (Builtin.List.listExtendWith (.ref S) (.ref it) res)
      (fun fin s' => match fin with | .done f => R (.ok f) s' | .again c' => c'.quiet = true ∧ codeAny (model prog w) A c' R s') (fun e s' => R (.error e) s') s := by
  have W := walks_rt (prog := prog) (w := w) (A := A.in1) (items := items) hh hne hn
  have hSf : S ∉ [it, t] := by simp only [List.mem_cons, List.not_mem_nil, or_false, not_or]; exact ⟨hSi, hSt⟩
  have key : ∀ (h : Heap) (c₁ tk : Nat), (∀ b o, b ≠ S → s.heap.get? b = some o → h.get? b = some o) →
      h.get? S = some { cls := .type "list", data := .seq #[] c₁ } → codeAny (model prog w) A (.builtin "list.extend.loop" ⟨[.ref S, .ref it, res], []⟩) R { s with heap := h, toks := tk } := by
    intro h c₁ tk hk hS₁
    have hst : (fun (i : Nat) (h : Heap) => i ≤ items.size ∧ RT.IsRt h it t ((items.size : Int) - 1 - (i : Nat)) ∧ IsTup h t items) 0 h :=
      ⟨Nat.zero_le _, by rw [show (items.size : Int) - 1 - ((0 : Nat) : Int) = (items.size : Int) - 1 by omega]; exact hit.at fun o e => hk it o (Ne.symm hSi) e, let ⟨o, ho, r⟩ := ht; ⟨o, hk t o (Ne.symm hSt) ho, r⟩⟩
    refine codeAny_extend_loopS W.toS hn S hSf res items.size 0 _ #[] c₁ rfl (Nat.zero_le _) hst hS₁ (ItemsOf.nil _) fun s' acc' c' hm hS' hacc => ?_
    rw [Moved.eq_with hm]
    refine hR s'.heap s'.toks acc' c' (fun b o hb hb2 e => hm.heap b o (fun hmem => ?_) (hk b o hb e)) hS' hacc
    rcases List.mem_cons.mp hmem with e' | hmem
    · exact hb e'
    · exact hb2 (List.mem_singleton.mp hmem)
  have hT : s.TypeIs (.ref it) "reversed" := hit.typeIs
  have h1 : Builtin.List.listSameRef (.ref S) (.ref it) = false := by simp [Builtin.List.listSameRef, hSi]
  unfold Builtin.List.listExtendWith
  refine wpAny_bind (wpAny_typeOf hT ?_)
  rw [if_neg (by rw [h1]; decide)]
  refine wpAny_bind (RT.iter_rt hit ?_)
  refine wpAny_bind (wpAny_holding (hint_rt hit ht hn fun b tk => ?_))
  refine wpAny_ite_split (fun _ => ?_) (fun _ => wpAny_pure ⟨plainId_quiet PySem.F.plain_extend_loop _, key _ c₀ _ (fun b o _ e => e) hS⟩)
  refine wpAny_bind (wpAny_rule ?_)
  refine wpAny_bind ?_
  show wpAny _ _ (updateSeq S (·.push .none) >>= fun _ => updateSeq S (·.pop)) _ _ _
  refine wpAny_bind (wpAny_updateSeq (s := { s with toks := tk }) hS rfl ?_)
  have hS₂ := Heap.get?_update_self (Obj.mapSeq (·.push Value.none)) hS rfl
  refine wpAny_updateSeq (hz := by seq_fits) hS₂ rfl ?_
  have hS₃ := Heap.get?_update_self (Obj.mapSeq (·.pop)) hS₂ rfl
  refine wpAny_pure ⟨plainId_quiet PySem.F.plain_extend_loop _, key _ _ _ (fun b o hb e => ?_) hS₃⟩
  exact (Heap.get?_update_other _ _ (Ne.symm hb)).trans ((Heap.get?_update_other _ _ (Ne.symm hb)).trans e)
theorem call_listRt {it t : Addr} {items : Array Value} {Q : Value → Shared → Prop} (hh : A.handled = none) (hit : RT.IsRt s.heap it t ((items.size : Int) - 1)) (ht : IsTup s.heap t items) (hne : t ≠ it) (hn : items.size ≤ sizeLine)
    (hQ : ∀ h' tk acc' c', (∀ b o, b ≠ it → s.heap.get? b = some o → h'.get? b = some o) → h'.get? s.heap.objs.size = some { cls := .type "list", dict := none, data := .seq acc' c', slots := #[] } → ItemsOf (fun i v => items[items.size - 1 - i]? = some v) acc' items.size → Q (.ref s.heap.objs.size) { s with heap := h', toks := tk }) :
    wpAny (model prog w) A (call (.type "list") [.ref it]) Q E s := by
  refine callType_codes (Q₁ := fun obj s₁ => obj = .ref s.heap.objs.size ∧ s₁ = { s with heap := s.heap.push { cls := .type "list", data := .seq #[] } }) PySem.F.called_list (PySem.F.typeCall_list_1 _) PySem.F.entry_list_init
    (code_list_new _ ⟨rfl, rfl⟩) fun obj s₁ h₁ => ?_
  obtain ⟨rfl, rfl⟩ := h₁
  have hS : (s.heap.push { cls := .type "list", data := .seq #[] }).get? s.heap.objs.size = some { cls := .type "list", data := .seq #[] } := Heap.get?_push_size _ rfl
  have li : it < s.heap.objs.size := let ⟨_, e, _⟩ := hit; Heap.lt_size e
  have lt : t < s.heap.objs.size := let ⟨_, e, _⟩ := ht; Heap.lt_size e
  refine ⟨⟨_, hS, rfl⟩, PySem.F.args_list_init_2 _ _, ?_⟩
  show wpAny _ _ (do let old ← Builtin.List.listItems (.ref s.heap.objs.size); Builtin.List.listUpdate (.ref s.heap.objs.size) (fun _ => #[]); letGo old.toList.reverse; Builtin.List.listExtendWith (.ref s.heap.objs.size) (.ref it) .none) _ _ _
  refine wpAny_bind ?_
  unfold Builtin.List.listItems
  refine wpAny_bind (wpAny_seqItems hS rfl (wpAny_pure ?_))
  show wpAny _ _ (updateSeq s.heap.objs.size (fun _ => #[]) >>= fun _ => letGo (#[] : Array Value).toList.reverse >>= fun _ => Builtin.List.listExtendWith (.ref s.heap.objs.size) (.ref it) .none) _ _ _
  refine wpAny_bind (wpAny_updateSeq hS rfl ?_)
  have hS₂ := Heap.get?_update_self (Obj.mapSeq (fun _ => (#[] : Array Value))) hS rfl
  have oth : ∀ b o, b ≠ s.heap.objs.size → s.heap.get? b = some o → ((s.heap.push { cls := .type "list", data := .seq #[] }).update s.heap.objs.size (Obj.mapSeq (fun _ => (#[] : Array Value)))).get? b = some o :=
    fun b o hb e => (Heap.get?_update_other _ _ (Ne.symm hb)).trans (Heap.get?_push_of_some _ e)
  refine wpAny_bind (wpAny_letGo ?_)
  refine extend_rt (A := A.in1) .none _ hh (hit.at fun o e => oth it o (Nat.ne_of_lt li) e) (let ⟨o, ho, r⟩ := ht; ⟨o, oth t o (Nat.ne_of_lt lt) ho, r⟩) hne hn (Nat.ne_of_gt li) (Nat.ne_of_gt lt) hS₂ fun h' tk acc' c' hk hS' hacc => ?_
  exact ⟨rfl, hQ h' tk acc' c' (fun b o hb e => hk b o (Nat.ne_of_lt (Heap.lt_size e)) hb (oth b o (Nat.ne_of_lt (Heap.lt_size e)) e)) hS' hacc⟩
end
def tListRev (K : PySem.W.Frag) (te : TE) : TE := fun σ H Q => te σ H fun v H1 => ∃ (a : Addr) (xs : List V), v = .ref a ∧ SqT K H1 a xs ∧ ∀ q, H1 q = none → Q (.ref q) (L2.upd H1 q (.lst xs.reverse))
theorem pe_listRevT {X : Cx} {e : Expr} {te : TE} {p p2 pos pos2 : Pos} (hc : X.calm = true) (hg : Gl X "list") (hm : X.mg "list" = none) (hg2 : Gl X "reversed") (hm2 : X.mg "reversed" = none) (he : PE X e te)
    (hs : starEach [e] X.env = (false, eval e X.env) :: starEach [] X.env := by rfl)
    (hs2 : starEach [.Call (.Name "reversed" p2) [e] [] pos2] X.env = (false, eval (.Call (.Name "reversed" p2) [e] [] pos2) X.env) :: starEach [] X.env := by rfl) :
    PE X (.Call (.Name "list" p) [.Call (.Name "reversed" p2) [e] [] pos2] [] pos) (tListRev X.K te) := by
  refine ⟨fun pins s σ H Q I h => ?_⟩
  refine Call_ (ld_blt I hg hm PyProof.Rows.boot_list (PyProof.Rows.callWith_type1 (args_cons (Call_ (ld_blt I hg2 hm2 PyProof.Rows.boot_reversed (PyProof.Rows.callWith_type1 (args_cons (thn (he.run pins s σ H _ I h) fun u s1 ⟨v, H1, I1, r1, q1⟩ => args_nil ?_) hs) hs rfl))) hs2) hs2 rfl))
  obtain ⟨a, xs, ev, hq, q⟩ := q1
  subst ev
  obtain rfl : u = Value.ref a := r1
  obtain ⟨its, rv, p', hz⟩ := I1.tuple hq
  have hn : its.toArray.size ≤ sizeLine := by rw [List.size_toArray, ← rv.length]; exact hz
  refine RT.call_reversed_tup p' (fun A E Q k => len_tuple p' (by rw [sizeLine_eq] at hn; omega) k) (args_nil ?_)
  have k0 : ∀ b o, s1.heap.get? b = some o → (s1.heap.push (RT.rtObj a ((its.toArray.size : Int) - 1))).get? b = some o := fun b o e => Heap.get?_push_of_some _ e
  have I2 : Inv X pins σ H1 { s1 with heap := s1.heap.push (RT.rtObj a ((its.toArray.size : Int) - 1)), toks := s1.toks + 1 + 1 } := I1.kept (t' := s1.toks + 1 + 1) k0
  obtain ⟨f0, f1, f2, f3, f4, f5⟩ := I1.fpOk (H' := H1) (b := s1.heap.objs.size) (Nat.le_refl _) (I1.hok.fresh (Nat.le_refl _))
  obtain ⟨oa, hoa, _⟩ := id p'
  have hne : a ≠ s1.heap.objs.size := Nat.ne_of_lt (Heap.lt_size hoa)
  refine call_listRt (s := { s1 with heap := s1.heap.push (RT.rtObj a ((its.toArray.size : Int) - 1)), toks := s1.toks + 1 + 1 }) (I1.ok.hd hc) ⟨_, Heap.get?_push_size _ rfl, rfl, rfl⟩ (p'.keeps k0) hne hn fun h' tk acc c hk hS' hi => ?_
  have szp : (s1.heap.push (RT.rtObj a ((its.toArray.size : Int) - 1))).objs.size = s1.heap.objs.size + 1 := Heap.size_push ..
  have kk : ∀ b o, s1.heap.get? b = some o → h'.get? b = some o := fun b o e => hk b o (Nat.ne_of_lt (Heap.lt_size e)) (k0 b o e)
  have le : s1.heap.objs.size ≤ (s1.heap.push (RT.rtObj a ((its.toArray.size : Int) - 1))).objs.size := by rw [szp]; exact Nat.le_succ _
  refine ⟨.ref (s1.heap.push (RT.rtObj a ((its.toArray.size : Int) - 1))).objs.size, L2.upd H1 _ (.lst xs.reverse), I1.laid (t' := tk) kk le (show ObjOk X.prog X.w _ _ _ (.lst xs.reverse) from ⟨by rw [List.length_reverse]; exact hz, acc.toList, c, RT.vals_rev rv hi, ?_⟩), rfl, q _ (I1.hok.fresh le)⟩
  rw [Array.toArray_toList]
  exact hS'
end LK

set_option Elab.async false
set_option linter.all false
set_option maxRecDepth 100000
set_option maxHeartbeats 4000000
/-! list(reversed(x)) of a list -/
namespace LK
open PySem PySem.Spec PyProof.Rows L2 SX
section
variable {prog : Program} {w : World} {A : Around} {E : Value → Shared → Prop} {s : Shared}
theorem extend_lr {R : Result → Shared → Prop} {it t S : Addr} {items : Array Value} (res : Value) (c₀ : Nat) (hh : A.handled = none) (hit : s.heap.IsRevIter it t ((items.size : Int) - 1)) (ht : s.heap.IsList t items) (hne : t ≠ it) (hn : items.size ≤ sizeLine) (hSi : S ≠ it) (hSt : S ≠ t)
    (hS : s.heap.get? S = some { cls := .type "list", data := .seq #[] c₀ })
    (hR : ∀ h' tk acc' c', (∀ b o, b ≠ S → b ≠ it → s.heap.get? b = some o → h'.get? b = some o) → h'.get? S = some { cls := .type "list", dict := none, data := .seq acc' c', slots := #[] } → ItemsOf (fun i v => items[items.size - 1 - i]? = some v) acc' items.size → R (.ok (.ret res)) { s with heap := h', toks := tk }) :
    wpAny (model prog w) A.in1 (Builtin.List.listExtendWith (.ref S) (.ref it) res)
      (fun fin s' => match fin with | .done f => R (.ok f) s' | .again c' => c'.quiet = true ∧ codeAny (model prog w) A c' R s') (fun e s' => R (.error e) s') s := by
  have W := (Walks.listRev (prog := prog) (w := w) (A := A.in1) hh it t hne items).toS
  have hSf : S ∉ [it, t] := by simp only [List.mem_cons, List.not_mem_nil, or_false, not_or]; exact ⟨hSi, hSt⟩
  have hT : s.TypeIs (.ref it) "list_reverseiterator" := hit.typeIs
  have h1 : Builtin.List.listSameRef (.ref S) (.ref it) = false := by simp [Builtin.List.listSameRef, hSi]
  unfold Builtin.List.listExtendWith
  refine wpAny_bind (wpAny_typeOf hT ?_)
  rw [if_neg (by rw [h1]; decide)]
  refine wpAny_bind (wpAny_pyIter_revIter hit ?_)
  refine wpAny_bind (wpAny_holding ?_)
  unfold Builtin.List.listLengthHint
  refine wpAny_bind (wpAny_specialOf hT RT.nolen_lri ?_)
  show wpAny _ A.in1 (specialOf (Value.ref it) (Str.ofString "__length_hint__") >>= _) _ _ _
  refine wpAny_bind (wpAny_specialOf hT RT.hint_lri ?_)
  generalize hid : ("list_reverseiterator.__length_hint__" : String) = id0
  wp_delta
  rw [show splitId id0 = some ("list_reverseiterator", "__length_hint__") from by subst hid; decide +kernel]
  subst hid
  refine wpAny_bind (wpAny_isInstance (b := true) hT (by rw [isSubtype_type]; kernel_rfl) ?_)
  refine wpAny_pure ?_
  rw [if_neg (by decide)]
  have e0 : ((items.size : Nat) : Int) - 1 - ((0 : Nat) : Int) = (items.size : Int) - 1 := by omega
  refine wpAny_pure ⟨plainId_quiet PySem.F.plain_extend_loop _, codeAny_extend_loopS W hn S hSf res items.size 0 _ _ _ rfl (Nat.zero_le _) ⟨Nat.zero_le _, by rw [e0]; exact hit, ht⟩ hS (ItemsOf.nil _) fun s' acc' c' hm hS' hacc => ?_⟩
  rw [Moved.eq_with hm]
  refine hR s'.heap s'.toks acc' c' (fun b o hb hb2 e => hm.heap b o (fun hmem => ?_) e) hS' hacc
  rcases List.mem_cons.mp hmem with e' | hmem
  · exact hb e'
  · exact hb2 (List.mem_singleton.mp hmem)
theorem call_listLr {it t : Addr} {items : Array Value} {Q : Value → Shared → Prop} (hh : A.handled = none) (hit : s.heap.IsRevIter it t ((items.size : Int) - 1)) (ht : s.heap.IsList t items) (hne : t ≠ it) (hn : items.size ≤ sizeLine)
    (hQ : ∀ h' tk acc' c', (∀ b o, b ≠ it → s.heap.get? b = some o → h'.get? b = some o) → h'.get? s.heap.objs.size = some { cls := .type "list", dict := none, data := .seq acc' c', slots := #[] } → ItemsOf (fun i v => items[items.size - 1 - i]? = some v) acc' items.size → Q (.ref s.heap.objs.size) { s with heap := h', toks := tk }) :
    wpAny (model prog w) A (call (.type "list") [.ref it]) Q E s := by
  refine callType_codes (Q₁ := fun obj s₁ => obj = .ref s.heap.objs.size ∧ s₁ = { s with heap := s.heap.push { cls := .type "list", data := .seq #[] } }) PySem.F.called_list (PySem.F.typeCall_list_1 _) PySem.F.entry_list_init
    (code_list_new _ ⟨rfl, rfl⟩) fun obj s₁ h₁ => ?_
  obtain ⟨rfl, rfl⟩ := h₁
  have hS : (s.heap.push { cls := .type "list", data := .seq #[] }).get? s.heap.objs.size = some { cls := .type "list", data := .seq #[] } := Heap.get?_push_size _ rfl
  have li : it < s.heap.objs.size := let ⟨_, e, _⟩ := hit; Heap.lt_size e
  have lt : t < s.heap.objs.size := let ⟨_, e, _⟩ := id ht; Heap.lt_size e
  refine ⟨⟨_, hS, rfl⟩, PySem.F.args_list_init_2 _ _, ?_⟩
  show wpAny _ _ (do let old ← Builtin.List.listItems (.ref s.heap.objs.size); Builtin.List.listUpdate (.ref s.heap.objs.size) (fun _ => #[]); letGo old.toList.reverse; Builtin.List.listExtendWith (.ref s.heap.objs.size) (.ref it) .none) _ _ _
  refine wpAny_bind ?_
  unfold Builtin.List.listItems
  refine wpAny_bind (wpAny_seqItems hS rfl (wpAny_pure ?_))
  show wpAny _ _ (updateSeq s.heap.objs.size (fun _ => #[]) >>= fun _ => letGo (#[] : Array Value).toList.reverse >>= fun _ => Builtin.List.listExtendWith (.ref s.heap.objs.size) (.ref it) .none) _ _ _
  refine wpAny_bind (wpAny_updateSeq hS rfl ?_)
  have hS₂ := Heap.get?_update_self (Obj.mapSeq (fun _ => (#[] : Array Value))) hS rfl
  have oth : ∀ b o, b ≠ s.heap.objs.size → s.heap.get? b = some o → ((s.heap.push { cls := .type "list", data := .seq #[] }).update s.heap.objs.size (Obj.mapSeq (fun _ => (#[] : Array Value)))).get? b = some o :=
    fun b o hb e => (Heap.get?_update_other _ _ (Ne.symm hb)).trans (Heap.get?_push_of_some _ e)
  refine wpAny_bind (wpAny_letGo ?_)
  refine extend_lr (A := A.in1) .none _ hh (hit.at fun o e => oth it o (Nat.ne_of_lt li) e) (let ⟨o, ho, r⟩ := ht; ⟨o, oth t o (Nat.ne_of_lt lt) ho, r⟩) hne hn (Nat.ne_of_gt li) (Nat.ne_of_gt lt) hS₂ fun h' tk acc' c' hk hS' hacc => ?_
  exact ⟨rfl, hQ h' tk acc' c' (fun b o hb e => hk b o (Nat.ne_of_lt (Heap.lt_size e)) hb (oth b o (Nat.ne_of_lt (Heap.lt_size e)) e)) hS' hacc⟩
end
def tListRevL (K : PySem.W.Frag) (te : TE) : TE := fun σ H Q => te σ H fun v H1 => ∃ (a : Addr) (xs : List V), v = .ref a ∧ SqL K H1 a xs ∧ ∀ q, H1 q = none → Q (.ref q) (L2.upd H1 q (.lst xs.reverse))
theorem pe_listRevL {X : Cx} {e : Expr} {te : TE} {p p2 pos pos2 : Pos} (hc : X.calm = true) (hg : Gl X "list") (hm : X.mg "list" = none) (hg2 : Gl X "reversed") (hm2 : X.mg "reversed" = none) (he : PE X e te)
    (hs : starEach [e] X.env = (false, eval e X.env) :: starEach [] X.env := by rfl)
    (hs2 : starEach [.Call (.Name "reversed" p2) [e] [] pos2] X.env = (false, eval (.Call (.Name "reversed" p2) [e] [] pos2) X.env) :: starEach [] X.env := by rfl) :
    PE X (.Call (.Name "list" p) [.Call (.Name "reversed" p2) [e] [] pos2] [] pos) (tListRevL X.K te) := by
  refine ⟨fun pins s σ H Q I h => ?_⟩
  refine Call_ (ld_blt I hg hm PyProof.Rows.boot_list (PyProof.Rows.callWith_type1 (args_cons (Call_ (ld_blt I hg2 hm2 PyProof.Rows.boot_reversed (PyProof.Rows.callWith_type1 (args_cons (thn (he.run pins s σ H _ I h) fun u s1 ⟨v, H1, I1, r1, q1⟩ => args_nil ?_) hs) hs rfl))) hs2) hs2 rfl))
  obtain ⟨a, xs, ev, hq, q⟩ := q1
  subst ev
  obtain rfl : u = Value.ref a := r1
  obtain ⟨its, rv, p', hz⟩ := I1.list hq
  refine call_reversed_list p'.isList (args_nil ?_)
  have k0 : ∀ b o, s1.heap.get? b = some o → (s1.heap.push (revObj a ((its.toArray.size : Int) - 1))).get? b = some o := fun b o e => Heap.get?_push_of_some _ e
  have hl := p'.isList
  obtain ⟨ol, hol, _⟩ := id hl
  have hne : a ≠ s1.heap.objs.size := Nat.ne_of_lt (Heap.lt_size hol)
  have hn : its.toArray.size ≤ sizeLine := by rw [List.size_toArray, ← rv.length]; exact hz
  refine call_listLr (s := { s1 with heap := s1.heap.push (revObj a ((its.toArray.size : Int) - 1)) }) (I1.ok.hd hc) ⟨_, Heap.get?_push_size _ rfl, rfl, rfl⟩ (hl.push _) hne hn fun h' tk acc c hk hS' hi => ?_
  have szp : (s1.heap.push (revObj a ((its.toArray.size : Int) - 1))).objs.size = s1.heap.objs.size + 1 := Heap.size_push ..
  have kk : ∀ b o, s1.heap.get? b = some o → h'.get? b = some o := fun b o e => hk b o (Nat.ne_of_lt (Heap.lt_size e)) (k0 b o e)
  have le : s1.heap.objs.size ≤ (s1.heap.push (revObj a ((its.toArray.size : Int) - 1))).objs.size := by rw [szp]; exact Nat.le_succ _
  refine ⟨.ref (s1.heap.push (revObj a ((its.toArray.size : Int) - 1))).objs.size, L2.upd H1 _ (.lst xs.reverse), I1.laid (t' := tk) kk le (show ObjOk X.prog X.w _ _ _ (.lst xs.reverse) from ⟨by rw [List.length_reverse]; exact hz, acc.toList, c, RT.vals_rev rv hi, ?_⟩), rfl, q _ (I1.hok.fresh le)⟩
  rw [Array.toArray_toList]
  exact hS'
end LK

set_option linter.all false
namespace LK
open PySem PySem.Spec PyProof.Rows L2
/-- str of a whole number or a boolean -/
inductive StrOf : V → Str → Prop
  | int {i : Int} : i.natAbs.log2 < 1920 → StrOf (.int i) (toString i)
  | bl {b : Bool} : StrOf (.bl b) (if b = true then "True" else "False")
theorem call_strBI {X : Cx} : CallR X (.type "str") (fun xs H Q => ∃ v z, xs = [v] ∧ StrOf v z ∧ Q (.str z) H) := by
  intro pins s σ H xs us Q I r h
  obtain ⟨v, z, rfl, hz, q⟩ := h
  cases hz with
  | int hl =>
    obtain ⟨u, rfl, t, rfl⟩ := vals1 r
    exact PySem.P.str_of_int hl ⟨.str _, H, I.tok _, ⟨_, rfl⟩, q⟩
  | bl =>
    obtain ⟨u, rfl, r1⟩ := vals1 r
    cases r1
    rename_i b
    cases b <;> exact PySem.P.str_of_bool ⟨.str _, H, I.tok _, ⟨_, rfl⟩, q⟩
/-- x += text -/
theorem ip_add_str {X : Cx} : PIp X .Add (fun x y H Q => ∃ i j, x = .str i ∧ y = .str j ∧ i.length + j.length ≤ sizeLine ∧ Q (.str (i ++ j)) H) := fun pins s σ H x y v u Q I r1 r2 h => iop_add_str pins s σ H x y v u Q I r1 r2 h
end LK

set_option Elab.async false
set_option linter.all false
set_option maxRecDepth 100000
set_option maxHeartbeats 4000000
/-! dict(zip(x, y)) of two tuples; dict(x) of a tuple of pairs that has no dict of its own; d.update(e) of a dict -/
namespace LK
open PySem PySem.Spec PyProof.Rows L2 SX
section
variable {prog : Program} {w : World} {A : Around} {E : Value → Shared → Prop} {s : Shared} {z TI TO i1 i2 : Addr} {fp1 fp2 : List Addr} {n1 n2 : Nat} {P1 P2 : Nat → Value → Prop} {St1 St2 : Nat → Heap → Prop} {i : Nat}
/-- the next pair while the one before is still known -/
theorem zipH_item {T : Addr} {f : Bool} {oT : Obj} {Q : Value → Shared → Prop} (S : ZipSep2 z TI TO i1 i2 fp1 fp2) (D1 : Draws prog w A i1 fp1 n1 P1 St1) (D2 : Draws prog w A i2 fp2 n2 P2 St2)
    (hz : IsZipHeld s.heap z TI TO T f) (hT : s.heap.get? T = some oT) (hTI : IsTupOf2 s.heap TI (.ref i1) (.ref i2)) (st1 : St1 i s.heap) (st2 : St2 i s.heap) (hlt1 : i < n1) (hlt2 : i < n2)
    (hQ : ∀ x1 x2 h' tk, P1 i x1 → P2 i x2 → IsZipHeld h' z TI TO T true → St1 (i + 1) h' → St2 (i + 1) h' → IsTupOf2 h' s.heap.objs.size x1 x2 → h'.objs.size = s.heap.objs.size + 1 →
      (∀ c o, c ≠ z → c ≠ i1 → c ≠ i2 → s.heap.get? c = some o → h'.get? c = some o) → Q (.ref s.heap.objs.size) { s with heap := h', toks := tk }) :
    wpAny (model prog w) A (Builtin.«zip.__next__» ⟨[.ref z], []⟩) (fun fin s' => ∃ v, fin = .done (.ret v) ∧ Q v s') E s := by
  obtain ⟨hp, g, d, tk0, os⟩ := s
  show wpAny _ _ (field (.ref z) 2 >>= _) _ _ _
  refine wpAny_bind (wpAny_field hz rfl (x := .bool false) rfl ?_)
  show wpAny _ _ (field (.ref z) 3 >>= _) _ _ _
  refine wpAny_bind (wpAny_field hz rfl (x := .ref TI) rfl ?_)
  refine wpAny_bind (wpAny_seqItems hTI rfl ?_)
  show wpAny _ _ (Builtin.SmallTypes.ownedTupleIsFree (.ref z) >>= _) _ _ _
  refine wpAny_bind (wpAny_tupleHeld_zip hz hT fun h₁ hz₁ hs₁ => ?_)
  replace hs₁ : Heap.SameBut z hp h₁ := hs₁
  simp only [Bool.false_eq_true, if_false]
  refine wpAny_bind ?_
  rw [← Array.forIn_toList]
  simp only [List.forIn_cons, List.forIn_nil]
  refine wpAny_bind (wpAny_bind (wpAny_holding ?_))
  show wpAny _ _ (Builtin.SmallTypes.nextOf (.ref i1) >>= _) _ _ ⟨h₁, g, d, tk0, os⟩
  refine wpAny_bind (D1.item i _ _ _ hlt1 (D1.over st1 hs₁ S.zf1) fun x1 p1 tk1 hx1 sn1 hp1 => wpAny_pure ?_)
  replace hp1 : Heap.SameBut i1 h₁ p1 := hp1
  refine wpAny_pure ?_
  refine wpAny_bind (wpAny_bind (wpAny_holding ?_))
  show wpAny _ _ (Builtin.SmallTypes.nextOf (.ref i2) >>= _) _ _ ⟨p1, g, d, tk1, os⟩
  refine wpAny_bind (D2.item i _ _ _ hlt2 (D2.over (D2.over st2 hs₁ S.zf2) hp1 S.sep1_2) fun x2 p2 tk2 hx2 sn2 hp2 => wpAny_pure ?_)
  replace hp2 : Heap.SameBut i2 p1 p2 := hp2
  refine wpAny_pure (wpAny_pure ?_)
  show wpAny _ _ (newTuple [x1, x2] >>= _) _ _ ⟨p2, g, d, tk2, os⟩
  refine wpAny_bind (wpAny_newTuple ?_)
  have hsz : p2.objs.size = hp.objs.size := by rw [hp2.1, hp1.1, hs₁.1]
  have hz2 : IsZipHeld p2 z TI TO T true := hp2.extBut _ _ S.zi2 (hp1.extBut _ _ S.zi1 hz₁)
  have hk : ∀ c o, c ≠ z → c ≠ i1 → c ≠ i2 → hp.get? c = some o → p2.get? c = some o := fun c o c1 c2 c3 e => hp2.extBut _ _ c3 (hp1.extBut _ _ c2 (hs₁.extBut _ _ c1 e))
  have j1 : St1 (i + 1) p2 := D1.over sn1 hp2 S.sep2_1
  have up : ∀ c o, p2.get? c = some o → (p2.push { cls := .type "tuple", data := .seq #[x1, x2] }).get? c = some o := fun c o e => Heap.get?_push_of_some _ e
  refine wpAny_pure ⟨_, rfl, ?_⟩
  show Q (.ref p2.objs.size) ⟨p2.push { cls := .type "tuple", data := .seq #[x1, x2] }, g, d, tk2, os⟩
  have hp4 : IsTupOf2 (p2.push { cls := .type "tuple", data := .seq #[x1, x2] }) p2.objs.size x1 x2 := Heap.get?_push_size _ rfl
  have hz4 : (p2.push { cls := .type "tuple", data := .seq #[x1, x2] }).objs.size = p2.objs.size + 1 := Heap.size_push ..
  rw [hsz] at hp4 hz4 ⊢
  exact hQ x1 x2 _ tk2 hx1 hx2 (up _ _ hz2) (D1.frame _ _ _ j1 fun b _ o e => up b o e) (D2.frame _ _ _ sn2 fun b _ o e => up b o e) hp4 hz4 fun c o c1 c2 c3 e => up c o (hk c o c1 c2 c3 e)
/-- no next pair, while the last one is still known -/
theorem zipH_end {T : Addr} {f : Bool} {oT : Obj} {Q : Fin → Shared → Prop} (S : ZipSep2 z TI TO i1 i2 fp1 fp2) (D1 : Draws prog w A i1 fp1 n1 P1 St1) (D2 : Draws prog w A i2 fp2 n2 P2 St2)
    (hz : IsZipHeld s.heap z TI TO T f) (hT : s.heap.get? T = some oT) (hTI : IsTupOf2 s.heap TI (.ref i1) (.ref i2)) (st1 : St1 i s.heap) (st2 : St2 i s.heap) (hle1 : i ≤ n1) (hle2 : i ≤ n2) (hend : i = n1 ∨ i = n2)
    (hE : ∀ h' tk e, (∀ c o, c ≠ z → c ≠ i1 → c ≠ i2 → s.heap.get? c = some o → h'.get? c = some o) → (∃ o, h'.get? e = some o ∧ o.cls = .type "StopIteration") → E (.ref e) { s with heap := h', toks := tk }) :
    wpAny (model prog w) A (Builtin.«zip.__next__» ⟨[.ref z], []⟩) Q E s := by
  obtain ⟨hp, g, d, tk0, os⟩ := s
  show wpAny _ _ (field (.ref z) 2 >>= _) _ _ _
  refine wpAny_bind (wpAny_field hz rfl (x := .bool false) rfl ?_)
  show wpAny _ _ (field (.ref z) 3 >>= _) _ _ _
  refine wpAny_bind (wpAny_field hz rfl (x := .ref TI) rfl ?_)
  refine wpAny_bind (wpAny_seqItems hTI rfl ?_)
  show wpAny _ _ (Builtin.SmallTypes.ownedTupleIsFree (.ref z) >>= _) _ _ _
  refine wpAny_bind (wpAny_tupleHeld_zip hz hT fun h₁ hz₁ hs₁ => ?_)
  replace hs₁ : Heap.SameBut z hp h₁ := hs₁
  simp only [Bool.false_eq_true, if_false]
  refine wpAny_bind ?_
  rw [← Array.forIn_toList]
  simp only [List.forIn_cons, List.forIn_nil]
  refine wpAny_bind (wpAny_bind (wpAny_holding ?_))
  show wpAny _ _ (Builtin.SmallTypes.nextOf (.ref i1) >>= _) _ _ ⟨h₁, g, d, tk0, os⟩
  by_cases hlt1 : i < n1
  · refine wpAny_bind (D1.item i _ _ _ hlt1 (D1.over st1 hs₁ S.zf1) fun x1 p1 tk1 hx1 sn1 hp1 => wpAny_pure ?_)
    replace hp1 : Heap.SameBut i1 h₁ p1 := hp1
    have hi2 : i = n2 := by omega
    refine wpAny_pure ?_
    refine wpAny_bind (wpAny_bind (wpAny_holding ?_))
    show wpAny _ _ (Builtin.SmallTypes.nextOf (.ref i2) >>= _) _ _ ⟨p1, g, d, tk1, os⟩
    refine wpAny_bind (D2.done ⟨p1, g, d, tk1, os⟩ _ _ (by rw [← hi2]; exact D2.over (D2.over st2 hs₁ S.zf2) hp1 S.sep1_2) fun q e hq he => ?_)
    exact hE q tk1 e (fun c o c1 c2 c3 x => hq _ _ c3 (hp1.extBut _ _ c2 (hs₁.extBut _ _ c1 x))) he
  · have hi1 : i = n1 := by omega
    refine wpAny_bind (D1.done ⟨h₁, g, d, tk0, os⟩ _ _ (by rw [← hi1]; exact D1.over st1 hs₁ S.zf1) fun q e hq he => ?_)
    exact hE q tk0 e (fun c o c1 c2 _ x => hq _ _ c2 (hs₁.extBut _ _ c1 x)) he
theorem zipH_pyNext_item {T : Addr} {f : Bool} {oT : Obj} {Q : Option Value → Shared → Prop} (S : ZipSep2 z TI TO i1 i2 fp1 fp2) (D1 : Draws prog w A.in1 i1 fp1 n1 P1 St1) (D2 : Draws prog w A.in1 i2 fp2 n2 P2 St2)
    (hz : IsZipHeld s.heap z TI TO T f) (hT : s.heap.get? T = some oT) (hTI : IsTupOf2 s.heap TI (.ref i1) (.ref i2)) (st1 : St1 i s.heap) (st2 : St2 i s.heap) (hlt1 : i < n1) (hlt2 : i < n2)
    (hQ : ∀ x1 x2 h' tk, P1 i x1 → P2 i x2 → IsZipHeld h' z TI TO T true → St1 (i + 1) h' → St2 (i + 1) h' → IsTupOf2 h' s.heap.objs.size x1 x2 → h'.objs.size = s.heap.objs.size + 1 →
      (∀ c o, c ≠ z → c ≠ i1 → c ≠ i2 → s.heap.get? c = some o → h'.get? c = some o) → Q (some (.ref s.heap.objs.size)) { s with heap := h', toks := tk }) :
    wpAny (model prog w) A (pyNext (.ref z)) Q E s := by
  have hTy : s.TypeIs (.ref z) "zip" := ⟨_, hz, rfl⟩
  unfold pyNext
  exact wpAny_bind (wpAny_attempt (wpAny_callSpecial?_slot (name := Str.ofString "__next__") hTy F.slot_zip_next
    (wpAny_call_entry F.slot_zip_next hTy F.entry_zip_next
      (zipH_item S D1 D2 hz hT hTI st1 st2 hlt1 hlt2 fun x1 x2 h' tk y1 y2 b1 b2 b3 b4 b5 b6 => wpAny_pure (hQ x1 x2 h' tk y1 y2 b1 b2 b3 b4 b5 b6)) (F.args_zip_next_1 _))))
theorem zipH_pyNext_end {T : Addr} {f : Bool} {oT : Obj} {Q : Option Value → Shared → Prop} (S : ZipSep2 z TI TO i1 i2 fp1 fp2) (D1 : Draws prog w A.in1 i1 fp1 n1 P1 St1) (D2 : Draws prog w A.in1 i2 fp2 n2 P2 St2)
    (hz : IsZipHeld s.heap z TI TO T f) (hT : s.heap.get? T = some oT) (hTI : IsTupOf2 s.heap TI (.ref i1) (.ref i2)) (st1 : St1 i s.heap) (st2 : St2 i s.heap) (hle1 : i ≤ n1) (hle2 : i ≤ n2) (hend : i = n1 ∨ i = n2)
    (hQ : ∀ h' tk, (∀ c o, c ≠ z → c ≠ i1 → c ≠ i2 → s.heap.get? c = some o → h'.get? c = some o) → Q none { s with heap := h', toks := tk }) : wpAny (model prog w) A (pyNext (.ref z)) Q E s := by
  have hTy : s.TypeIs (.ref z) "zip" := ⟨_, hz, rfl⟩
  unfold pyNext
  refine wpAny_bind (wpAny_attempt (wpAny_callSpecial?_slot (name := Str.ofString "__next__") hTy F.slot_zip_next
    (wpAny_call_entry F.slot_zip_next hTy F.entry_zip_next (zipH_end S D1 D2 hz hT hTI st1 st2 hle1 hle2 hend fun h' tk e hk he => ?_) (F.args_zip_next_1 _))))
  obtain ⟨o, ho, hc⟩ := he
  refine wpAny_bind (wpAny_isInstance (T := "StopIteration") (b := true) ⟨o, ho, hc⟩ isSubtype_stop ?_)
  exact wpAny_pure (hQ _ _ hk)
end
/-- zip(x, y) of two tuples, as what dict takes -/
theorem pairs_zipT {prog : Program} {w : World} (z TI TO i1 i2 l1 l2 : Addr) (D : ZipApart z TI TO i1 i2 l1 l2) (S : ZipSep2 z TI TO i1 i2 [i1, l1] [i2, l2]) (xs ys : Array Value) :
    PairArg prog w "zip" z [z, TI, TO, i1, i2, l1, l2] [z, TO, i1, i2] (min xs.size ys.size) (fun i k v => xs[i]? = some k ∧ ys[i]? = some v)
      (fun h => IsZip h z TI TO .none ∧ IsTupOf2 h TI (.ref i1) (.ref i2) ∧ (∃ a b, IsTupOf2 h TO a b) ∧ h.IsTupleIter i1 l1 0 ∧ h.IsTupleIter i2 l2 0 ∧ h.IsTuple l1 xs ∧ h.IsTuple l2 ys) where
  type := fun s ok => ⟨_, ok.1, rfl⟩
  notDict := by decide
  keep := fun h h' ok hk => by
    obtain ⟨hz, hTI, ⟨a, b, hTO⟩, h1, h2, hl1, hl2⟩ := ok
    exact ⟨hk _ _ hz, hk _ _ hTI, ⟨a, b, hk _ _ hTO⟩, h1.at fun o e => hk _ o e, h2.at fun o e => hk _ o e, hl1.at fun o e => hk _ o e, hl2.at fun o e => hk _ o e⟩
  there := fun h ok b hb => by
    obtain ⟨hz, hTI, ⟨a, c, hTO⟩, ⟨o1, h1, _⟩, ⟨o2, h2, _⟩, ⟨o3, hl1, _⟩, ⟨o4, hl2, _⟩⟩ := ok
    simp only [List.mem_cons, List.not_mem_nil, or_false] at hb
    rcases hb with rfl | rfl | rfl | rfl | rfl | rfl | rfl
    all_goals first | exact ⟨_, hz⟩ | exact ⟨_, hTI⟩ | exact ⟨_, hTO⟩ | exact ⟨_, h1⟩ | exact ⟨_, h2⟩ | exact ⟨_, hl1⟩ | exact ⟨_, hl2⟩
  sub := fun b hb => by simp at hb ⊢; rcases hb with rfl | rfl | rfl | rfl <;> simp
  noKeys := fun A s Q E hA ok h => getAttrOr_miss_zip ok.1 rfl rfl rfl zip_no_keys (by decide +kernel) hA h
  iter := fun A s d Q E hA ok hd hdf h => by
    obtain ⟨hz, hTI, ⟨a, b, hTO⟩, h1, h2, hl1, hl2⟩ := ok
    simp only [List.mem_cons, List.not_mem_nil, or_false, not_or] at hdf
    obtain ⟨dz, dTI, dTO, di1, di2, dl1, dl2⟩ := hdf
    have D1 := Draws.tuple (prog := prog) (w := w) (A := A.in1) hA i1 l1 D.l1i1 xs
    have D2 := Draws.tuple (prog := prog) (w := w) (A := A.in1) hA i2 l2 D.l2i2 ys
    refine wpAny_pyIter_zip hz (h z [z, TO, i1, i2] (fun i h => IsTupOf2 h TI (.ref i1) (.ref i2) ∧ (h.IsTupleIter i1 l1 i ∧ h.IsTuple l1 xs) ∧ (h.IsTupleIter i2 l2 i ∧ h.IsTuple l2 ys) ∧
      ((IsZip h z TI TO .none ∧ ∃ a b, IsTupOf2 h TO a b) ∨ ∃ T f oT, IsZipHeld h z TI TO T f ∧ h.get? T = some oT ∧ T ≠ z ∧ T ≠ i1 ∧ T ≠ i2 ∧ T ≠ d)) s.heap s.toks ?_
      ⟨hTI, ⟨h1, hl1⟩, ⟨h2, hl2⟩, .inl ⟨hz, a, b, hTO⟩⟩ (fun _ _ e => e) fun b hb => .inl hb)
    exact {
      off := fun hm => by
        simp only [List.mem_cons, List.not_mem_nil, or_false] at hm
        rcases hm with e | e | e | e
        · exact dz e
        · exact dTO e
        · exact di1 e
        · exact di2 e
      frame := fun i h₁ h₂ st hk => by
        obtain ⟨hTI, st1, st2, hz⟩ := st
        refine ⟨hk _ _ (Ne.symm dTI) hTI, ⟨st1.1.at fun o e => hk _ o (Ne.symm di1) e, st1.2.at fun o e => hk _ o (Ne.symm dl1) e⟩, ⟨st2.1.at fun o e => hk _ o (Ne.symm di2) e, st2.2.at fun o e => hk _ o (Ne.symm dl2) e⟩, ?_⟩
        rcases hz with ⟨hz, a, b, hTO⟩ | ⟨T, f, oT, hz, hT, r1, r2, r3, r4⟩
        · exact .inl ⟨hk _ _ (Ne.symm dz) hz, a, b, hk _ _ (Ne.symm dTO) hTO⟩
        · exact .inr ⟨T, f, oT, hk _ _ (Ne.symm dz) hz, hk _ _ r4 hT, r1, r2, r3, r4⟩
      item := fun i s₁ Q₁ E₁ hi st hds hQ => by
        obtain ⟨hTI, st1, st2, hz⟩ := st
        have hix : i < xs.size := Nat.lt_of_lt_of_le hi (Nat.min_le_left ..)
        have hiy : i < ys.size := Nat.lt_of_lt_of_le hi (Nat.min_le_right ..)
        have lt : ∀ {c o}, s₁.heap.get? c = some o → s₁.heap.objs.size ≠ c := fun e => Nat.ne_of_gt (Heap.lt_size e)
        have n1 : s₁.heap.objs.size ≠ i1 := let ⟨_, e, _⟩ := st1.1; lt e
        have n2 : s₁.heap.objs.size ≠ i2 := let ⟨_, e, _⟩ := st2.1; lt e
        rcases hz with ⟨hz, a, b, hTO⟩ | ⟨T, f, oT, hz, hT, r1, r2, r3, r4⟩
        · refine wpAny_pyNext_zipD2_item S D1 D2 hz hTI hTO st1 st2 hix hiy fun x1 x2 h' tk p1 p2 b1 b2 b3 b4 b5 b6 hk => ?_
          exact hQ s₁.heap.objs.size _ _ h' tk ⟨p1, p2⟩ (.inl ⟨_, b5, rfl, _, rfl⟩)
            ⟨hk _ _ D.TIz D.TITO D.TIi1 D.TIi2 hTI, b3, b4, .inr ⟨s₁.heap.objs.size, false, _, b1, b5, lt hz, n1, n2, Nat.ne_of_gt hds⟩⟩
            fun c o hc e => hk c o (fun x => hc (by simp [x])) (fun x => hc (by simp [x])) (fun x => hc (by simp [x])) (fun x => hc (by simp [x])) e
        · refine zipH_pyNext_item S D1 D2 hz hT hTI st1 st2 hix hiy fun x1 x2 h' tk p1 p2 b1 b3 b4 b5 b6 hk => ?_
          exact hQ s₁.heap.objs.size _ _ h' tk ⟨p1, p2⟩ (.inl ⟨_, b5, rfl, _, rfl⟩)
            ⟨hk _ _ D.TIz D.TIi1 D.TIi2 hTI, b3, b4, .inr ⟨T, true, oT, b1, hk _ _ r1 r2 r3 hT, r1, r2, r3, r4⟩⟩
            fun c o hc e => hk c o (fun x => hc (by simp [x])) (fun x => hc (by simp [x])) (fun x => hc (by simp [x])) e
      done := fun s₁ Q₁ E₁ st hQ => by
        obtain ⟨hTI, st1, st2, hz⟩ := st
        have e1 : min xs.size ys.size ≤ xs.size := Nat.min_le_left ..
        have e2 : min xs.size ys.size ≤ ys.size := Nat.min_le_right ..
        have e3 : min xs.size ys.size = xs.size ∨ min xs.size ys.size = ys.size := by omega
        rcases hz with ⟨hz, a, b, hTO⟩ | ⟨T, f, oT, hz, hT, r1, r2, r3, r4⟩
        · exact wpAny_pyNext_zipD2_end S D1 D2 hz hTI hTO st1 st2 e1 e2 e3 fun h' tk hk => hQ h' tk fun c o hc e => hk c o (fun x => hc (by simp [x])) (fun x => hc (by simp [x])) (fun x => hc (by simp [x])) (fun x => hc (by simp [x])) e
        · exact zipH_pyNext_end S D1 D2 hz hT hTI st1 st2 e1 e2 e3 fun h' tk hk => hQ h' tk fun c o hc e => hk c o (fun x => hc (by simp [x])) (fun x => hc (by simp [x])) (fun x => hc (by simp [x])) e }
theorem sep_T {z TI TO i1 i2 a b : Addr} (D : ZipApart z TI TO i1 i2 a b) : ZipSep2 z TI TO i1 i2 [i1, a] [i2, b] :=
  ⟨D.TIz, D.TOz, D.TITO, D.TIi1, by simp, by simp [D.i1z.symm, D.l1z.symm], by simp [D.TOi1, D.l1TO.symm], D.TIi2, by simp, by simp [D.i2z.symm, D.l2z.symm], by simp [D.TOi2, D.l2TO.symm], by simp [D.i12, D.l2i1.symm], by simp [D.i12.symm, D.l1i2.symm]⟩
/-! ### dict(zip(x, y)) -/
def tDictZ (K : PySem.W.Frag) (ta : TA) : TE := fun σ H Q => ta σ H fun vs H1 => ∃ (a b : Addr) (ks : List Key) (ys : List V), vs = [.ref a, .ref b] ∧ SqT K H1 a (ks.map kV) ∧ SqT K H1 b ys ∧ ∀ p, H1 p = none → Q (.ref p) (L2.upd H1 p (.dK (mergeK [] (ks.zip ys))))
theorem kvs_zip : ∀ {ys : List V} {us : List Value} {ks : List Key}, Vals ys us → KV (ks.zip ys) (ks.zip us)
  | _, _, [], _ => .nil
  | [], us, k :: ks, r => by cases r; exact .nil
  | y :: ys, us, k :: ks, r => by
    cases r with
    | cons h t => exact .cons ⟨rfl, h⟩ (kvs_zip t)
theorem pe_dictZip {X : Cx} {e e2 : Expr} {ta : TA} {p p1 pos pos2 : Pos} (calm : X.calm = true) (hg : Gl X "zip") (hm : X.mg "zip" = none) (hgd : Gl X "dict") (hmd : X.mg "dict" = none) (ha : PA X [e, e2] ta)
    (hs : starEach [e, e2] X.env = (false, eval e X.env) :: starEach [e2] X.env := by rfl) (hpl : (backTo pos (starEach [e2] X.env)).any (·.1) = false := by rfl)
    (hs2 : starEach [.Call (.Name "zip" p) [e, e2] [] pos] X.env = (false, eval (.Call (.Name "zip" p) [e, e2] [] pos) X.env) :: starEach [] X.env := by rfl) :
    PE X (.Call (.Name "dict" p1) [.Call (.Name "zip" p) [e, e2] [] pos] [] pos2) (tDictZ X.K ta) := by
  refine ⟨fun pins s σ H Q I h => ?_⟩
  refine wpAny_Call_Name_kw (ld_blt I hgd hmd PyProof.Rows.boot_dict ?_ (by decide) (by decide))
  refine PyProof.Rows.callWith_type1 ?_ hs2 rfl
  rw [hs2]
  show wpAny _ _ (spliced ((false, eval (.Call (.Name "zip" p) [e, e2] [] pos) X.env) :: backTo pos2 (starEach [] X.env))) _ _ s
  refine Calls.spliced_cons ?_
  refine wpAny_Call_Name_kw (ld_blt I hg hm PyProof.Rows.boot_zip (PyProof.Rows.callWith_type1 (thn (ha.run pos pins s σ H _ I h) fun us s1 ⟨vs, H1, I1, r1, q1⟩ => ?_) hs hpl) (by decide) (by decide))
  obtain ⟨a, b, ks, ys, rfl, hqa, hqb, q⟩ := q1
  obtain ⟨u1, u2, rfl, r1, r2⟩ := vals2 r1
  cases r1
  cases r2
  obtain ⟨ia, ra, pa, za⟩ := I1.tuple hqa
  obtain ⟨ib, rb, pb, zb⟩ := I1.tuple hqb
  obtain ⟨oa, hoa, _⟩ := id pa
  obtain ⟨ob, hob, _⟩ := id pb
  have la : a < s1.heap.objs.size := Heap.lt_size hoa
  have lb : b < s1.heap.objs.size := Heap.lt_size hob
  have D := PySem.W.ktu_apart s1.heap.objs.size a b la lb
  refine zip_begins2 (begins_tuple a ia.toArray) (begins_tuple b ib.toArray) pa pb fun h' hz hTI hTO h1 h2 hsz hk => Calls.spliced_nil ?_
  have ka := ra.length
  rw [List.length_map] at ka za
  have hlen : (ks.zip ib).length = min ia.toArray.size ib.toArray.size := by simp; omega
  refine PySem.call_dict_pairs (knd := mixKind X.prog X.w) (kvs := ks.zip ib) (pairs_zipT _ _ _ _ _ a b D (sep_T D) ia.toArray ib.toArray) (I1.ok.hd calm)
    ⟨hz, hTI, ⟨_, _, hTO⟩, ⟨_, h1, rfl, rfl⟩, ⟨_, h2, rfl, rfl⟩, pa.keeps hk, pb.keeps hk⟩ ⟨hlen, fun i key v ⟨ek, ev⟩ => ?_⟩ (by simp; omega) fun h3 tk hd3 hk3 => ?_
  · have ek : ia[i]? = some key := by simpa using ek
    have ev : ib[i]? = some v := by simpa using ev
    have hi : i < ks.length := by have := (List.getElem?_eq_some_iff.mp ek).1; omega
    obtain ⟨u, hu, ru⟩ := ra.get (i := i) (x := kV ks[i]) (by simp [hi])
    rw [ek] at hu
    obtain rfl := Option.some.inj hu
    exact ⟨ks[i], by rw [List.getElem?_zip_eq_some]; exact ⟨by simp [hi], ev⟩, kV_is ru⟩
  · have le : s1.heap.objs.size ≤ h'.objs.size := by omega
    have hmz : (h'.objs.size == sysModules) = false := beq_eq_false_iff_ne.mpr (Nat.ne_of_gt (Nat.lt_of_lt_of_le I1.big le))
    have rel : KV (ks.zip ys) (ks.zip ib) := kvs_zip rb
    have hml : (mergeK [] (ks.zip ys)).length ≤ sizeLine := by
      refine Nat.le_trans (length_mergeK _ []) ?_
      simp; omega
    have kk : ∀ c o, s1.heap.get? c = some o → h3.get? c = some o := fun c o e => hk3 c o (fun hc => by
      have := Heap.lt_size e
      simp only [List.mem_cons, List.not_mem_nil, or_false] at hc
      rcases hc with e | e | e | e
      · rw [e] at this; exact absurd this (Nat.not_lt.mpr (Nat.le_add_right _ _))
      · rw [e] at this; exact absurd this (Nat.not_lt.mpr (Nat.le_add_right _ _))
      · rw [e] at this; exact absurd this (Nat.lt_irrefl _)
      · rw [e] at this; exact absurd this (Nat.not_lt.mpr (Nat.le_add_right _ _))) (hk c o e)
    exact ⟨.ref h'.objs.size, _, I1.laid (t' := tk) kk le (show ObjOk X.prog X.w _ _ _ (.dK (mergeK [] (ks.zip ys))) from ⟨hml, hmz, merged [] (ks.zip ib), KV.merge rel .nil, hd3⟩), rfl, q _ (I1.hok.fresh le)⟩
/-! ### tuples that have no dict of their own; dict(x) of one of pairs -/
def FT (H : Hp) (a : Addr) (ys : List V) : Prop := ∃ o : Obj, H a = some (.frz o (.tup ys)) ∧ o.dict = none
theorem FT.sq {K : PySem.W.Frag} {H : Hp} {a : Addr} {ys : List V} (h : FT H a ys) : SqT K H a ys := let ⟨o, e, _⟩ := h; .inl (.inr ⟨o, e⟩)
theorem FT.same {H H' : Hp} {a : Addr} {ys : List V} (h : FT H a ys) (e : Same H H') : FT H' a ys := let ⟨o, e1, e2⟩ := h; ⟨o, e _ _ e1, e2⟩
theorem call_tupleF {X : Cx} : CallR X (.type "tuple") (fun xs H Q => ∃ p ys, xs = [.ref p] ∧ SqL X.K H p ys ∧ ∀ l (o : Obj), H l = none → o.dict = none → Q (.ref l) (L2.upd H l (.frz o (.tup ys)))) := by
  intro pins s σ H xs us Q I r h
  obtain ⟨p, ys, rfl, hq, q⟩ := h
  obtain ⟨u, rfl, rx⟩ := vals1 r
  cases rx
  obtain ⟨its, r', pl, hz⟩ := I.list hq
  have hlen := r'.length
  refine call_tuple_list pl.isList (fun h' kp => ?_) (by simp only [List.size_toArray] <;> omega)
  have I1 : Inv X pins σ H { s with heap := h' } := I.kept (t' := s.toks) kp
  have I2 : Inv X pins σ (L2.upd H h'.objs.size (.frz { cls := .type "tuple", data := .seq its.toArray } (.tup ys))) { s with heap := h'.push { cls := .type "tuple", data := .seq its.toArray } } :=
    I1.laid (t' := s.toks) (fun b o e => Heap.get?_push_of_some _ e) (Nat.le_refl _) (show ObjOk X.prog X.w _ _ _ (.frz { cls := .type "tuple", data := .seq its.toArray } (.tup ys)) from ⟨Heap.get?_push_size _ rfl, hz, its, r', IsTup.new _ _⟩)
  exact ⟨.ref h'.objs.size, _, I2, rfl, q _ _ (I1.hok.fresh (Nat.le_refl _)) rfl⟩
theorem pairs_at {X : Cx} {pins : List (Addr × Obj)} {σ : L2.St} {H : Hp} {s : Shared} (I : Inv X pins σ H s) : ∀ {ps : List Addr} {kvs : List (Key × V)}, Paired (fun p kv => SqT X.K H p [kV kv.1, kv.2]) ps kvs →
    ∃ (prs : List (Key × Value)) (ws : List (Value × Value)), KV kvs prs ∧ prs.length = ps.length ∧ ws.length = ps.length ∧ ∀ (j : Nat) (x : Value × Value), ws[j]? = some x → ∃ (b : Addr) (k : Key), ps[j]? = some b ∧ prs[j]? = some (k, x.2) ∧ IsTup s.heap b #[x.1, x.2] ∧ (mixKind X.prog X.w).is k x.1 = true
  | _, _, .nil => ⟨[], [], .nil, rfl, rfl, fun j q e => by simp at e⟩
  | _, _, .cons (a := p) (b := kv) h t => by
    obtain ⟨prs, ws, r, hl, hw, hp⟩ := pairs_at I t
    obtain ⟨its, rv, ht, _⟩ := I.tuple h
    obtain ⟨u, y, ei, ru, ry⟩ := vals2 rv
    subst ei
    refine ⟨(kv.1, y) :: prs, (u, y) :: ws, .cons ⟨rfl, ry⟩ r, by rw [List.length_cons, List.length_cons, hl], by rw [List.length_cons, List.length_cons, hw], fun j q e => ?_⟩
    cases j with
    | zero =>
      have e' : (u, y) = q := Option.some.inj e
      subst e'
      exact ⟨p, kv.1, rfl, rfl, ht, kV_is ru⟩
    | succ j =>
      obtain ⟨b, k, e1, e2, e3⟩ := hp j q (by simpa using e)
      exact ⟨b, k, by simpa using e1, by simpa using e2, e3⟩
theorem call_dictT {X : Cx} (calm : X.calm = true) : CallR X (.type "dict") (fun xs H Q => ∃ (a : Addr) (ps : List Addr) (kvs : List (Key × V)), xs = [.ref a] ∧ FT H a (ps.map V.ref) ∧ Paired (fun p kv => SqT X.K H p [kV kv.1, kv.2]) ps kvs ∧
    ∀ p, H p = none → Q (.ref p) (L2.upd H p (.dK (mergeK [] kvs)))) := by
  intro pins s σ H xs us Q I r q
  obtain ⟨a, ps, kvs, ex, ⟨o, eo, od⟩, hp, q⟩ := q
  subst ex
  obtain ⟨u, eu, rx⟩ := vals1 r
  subst eu
  cases rx
  obtain ⟨ha, hz, its, rv, pt⟩ := (show ObjOk X.prog X.w H s.heap a (.frz o (.tup (ps.map V.ref))) from I.hok a _ eo)
  obtain ⟨o', ho', hc, n, hdat⟩ := pt
  rw [ha] at ho'
  obtain rfl := Option.some.inj ho'
  obtain rfl := refs_at rv
  rw [List.length_map] at hz
  obtain ⟨prs, ws, rel, hl, hw, hpr⟩ := pairs_at I hp
  refine PySem.call_dict_pairs (knd := mixKind X.prog X.w) (kvs := prs) (PairArg.tuple a (ps.map Value.ref).toArray (fun j => ps.getD j 0) ws) (I.ok.hd calm) ⟨⟨o, n, ha, hc, od, hdat⟩, by simp [hw], fun j k v e => ?_⟩ ⟨by rw [hl, hw], fun i key v e => ?_⟩ (by rw [hw]; exact hz) fun h' tk hd' k => ?_
  · obtain ⟨b, k', e1, _, e3, _⟩ := hpr j (k, v) e
    have eg : ps.getD j 0 = b := by rw [List.getD_eq_getElem?_getD, e1]; rfl
    refine ⟨by simp [e1], .inl ?_⟩
    show s.heap.IsTuple (ps.getD j 0) #[k, v]
    rw [eg]
    exact e3
  · obtain ⟨b, k', _, e2, _, e4⟩ := hpr i (key, v) e
    exact ⟨k', e2, e4⟩
  · have hm : (s.heap.objs.size == sysModules) = false := beq_eq_false_iff_ne.mpr (Nat.ne_of_gt I.big)
    have hlen : (mergeK [] kvs).length ≤ sizeLine := by
      refine Nat.le_trans (length_mergeK kvs []) ?_
      rw [List.length_nil, Nat.zero_add, rel.length, hl]
      exact hz
    exact ⟨.ref s.heap.objs.size, L2.upd H s.heap.objs.size (.dK (mergeK [] kvs)), I.laid (t' := tk) (fun b o e => k b o (fun h => nomatch h) e) (Nat.le_refl _) (show ObjOk X.prog X.w _ _ _ (.dK (mergeK [] kvs)) from ⟨hlen, hm, merged [] prs, KV.merge rel .nil, hd'⟩), rfl, q _ (I.hok.fresh (Nat.le_refl _))⟩
/-! ### d.update(e) of a dict -/
def tDUpd (td ty : TE) : TE := fun σ H Q => td σ H fun x H1 => ∃ a, x = .ref a ∧ IsD H1 a ∧ ty σ H1 fun y H2 => ∃ (b : Addr) (kvs more : List (Key × V)), y = .ref b ∧ a ≠ b ∧ H2 a = some (.dK kvs) ∧ Rd H2 b (.dK more) ∧ kvs.length + more.length ≤ sizeLine ∧ Q .non (L2.upd H2 a (.dK (mergeK kvs more)))
theorem d_update {X : Cx} {pins : List (Addr × Obj)} {σ : L2.St} {H : Hp} {s : Shared} {a b : Addr} {kvs more : List (Key × V)} {A : Around} {E : Value → Shared → Prop} {Q : Value → Shared → Prop} (I : Inv X pins σ H s) (e : H a = some (.dK kvs)) (eb : Rd H b (.dK more)) (hab : a ≠ b) (hl : kvs.length + more.length ≤ sizeLine)
    (h : ∀ s', Inv X pins σ (L2.upd H a (.dK (mergeK kvs more))) s' → Q .none s') : wpAny (model X.prog X.w) A (call (.builtin "dict.update") [.ref a, .ref b]) Q E s := by
  obtain ⟨z, hd, vs, rel, dd⟩ := dk_of I.hok e
  obtain ⟨zb, hb, ws, relb, db⟩ := dk_rd I.hok eb
  refine call_meetsIn PySem.F.slot_dict_update dd.typeIs PySem.F.entry_dict_update (PySem.F.args_dict_update_2 _ _) (meets_dict_update (mixKind X.prog X.w) a b hab hb)
    ⟨vs, ws, dd, db, by rw [← rel.length, ← relb.length]; exact hl, fun h' dd' _ hs => h _ ?_⟩
  have he : ∃ q, h'.get? a = some q := let ⟨q, _, _, hq, _⟩ := dd'; ⟨q, hq⟩
  exact d_write (t' := s.toks) I (by rw [e]; exact True.intro) hs he (dk_new (Nat.le_trans (length_mergeK more kvs) hl) hd (KV.merge relb rel) dd')
theorem pe_dupd {X : Cx} {o e : Expr} {apos cpos : Pos} {td ty : TE} (ho : PE X o td) (he : PE X e ty) (m : M1 X o "update" apos e cpos) : PE X (.Call (.Attribute o "update" apos) [e] [] cpos) (tDUpd td ty) := by
  refine ⟨fun pins s σ H Q I h => ?_⟩
  refine wpAny_Call_method m.base m.few m.line PySem.F.plainAttrs_dict PySem.F.slot_dict_update PySem.F.type_dict_update (thn (ho.run pins s σ H _ I h) fun u s1 ⟨x, H1, I1, rx, a, ex, d, q1⟩ => ?_)
  subst ex
  obtain rfl : u = Value.ref a := rx
  obtain ⟨t1, t2, _⟩ := isD_at I1 d
  refine ⟨t1, t2, ?_⟩
  rw [m.trees]
  refine Calls.callWith_builtin rfl (Calls.evalArgs_plain (Calls.spliced_cons (thn (he.run pins s1 σ H1 _ I1 q1) fun iv s2 ⟨y, H2, I2, ry, b, kvs, more, ey, hab, ea, eb, hl, q2⟩ => Calls.spliced_nil ?_)))
  subst ey
  obtain rfl : iv = Value.ref b := ry
  exact d_update I2 ea eb hab hl fun s3 I3 => ⟨.non, _, I3, rfl, q2⟩
/-! ### dicts of texts, told by what each text is -/
theorem valV_merge (k : Key) : ∀ (more kvs : List (Key × V)), (more.map (·.1)).Nodup → valV (mergeK kvs more) k = (valV more k).or (valV kvs k)
  | [], kvs, _ => by rw [valV_nil]; rfl
  | p :: r, kvs, h => by
    rw [List.map_cons, List.nodup_cons] at h
    show valV (mergeK (putK kvs p.1 p.2) r) k = _
    rw [valV_merge k r _ h.2, valV_put]
    by_cases c : p.1 = k
    · rw [valV_pos c, if_pos c.symm]
      have : valV r k = none := by
        cases e : valV r k with
        | none => rfl
        | some v =>
          exfalso
          have hs := valV_any k r
          rw [e] at hs
          obtain ⟨x, hx, hk⟩ := List.any_eq_true.mp hs
          exact h.1 (by rw [c, ← of_decide_eq_true hk]; exact List.mem_map_of_mem hx)
      rw [this]
      rfl
    · rw [valV_neg c, if_neg (Ne.symm c)]
/-- the dict at a is, for each text, what f says -/
def KfAt (K : PySem.W.Frag) (H : Hp) (a : Addr) (n : Nat) (f : Str → Option PyData) : Prop := ∃ kvs : List (Key × V), H a = some (.dK kvs) ∧ kvs.length ≤ n ∧ ∀ z, match f z with | none => valV kvs (.inr z) = none | some d => ∃ v, valV kvs (.inr z) = some v ∧ Dt K H v d
end LK

set_option Elab.async false
set_option linter.all false
set_option maxRecDepth 100000
set_option maxHeartbeats 4000000
/-! list(zip(x, y)) of two tuples: each step makes a new pair, which the list then holds; the list and the pairs are tracked from step to step -/
namespace LK
open PySem PySem.Spec PyProof.Rows L2 SX
theorem nolen_zip : typeLookup (.type "zip") "__len__" = pure none := by rw [typeLookup_type, builtinLookup_eq_fast]; kernel_rfl
theorem nohint_zip : typeLookup (.type "zip") "__length_hint__" = pure none := by rw [typeLookup_type, builtinLookup_eq_fast]; kernel_rfl
theorem hint_zip {prog : Program} {w : World} {A : Around} {E : Value → Shared → Prop} {s : Shared} {z : Addr} {Q : Bool → Shared → Prop} (hT : s.TypeIs (.ref z) "zip") (hQ : Q true s) :
    wpAny (model prog w) A (Builtin.List.listLengthHint (.ref z)) Q E s := by
  unfold Builtin.List.listLengthHint
  refine wpAny_bind (wpAny_specialOf hT nolen_zip ?_)
  show wpAny _ _ (specialOf (Value.ref z) (Str.ofString "__length_hint__") >>= _) _ _ _
  refine wpAny_bind (wpAny_specialOf hT nohint_zip ?_)
  exact wpAny_pure hQ
/-- where a zip of the tuples at a and b stands behind its i-th pair -/
def ZipT (z TI TO i1 i2 a b S : Addr) (xs ys : Array Value) (i : Nat) (h : Heap) : Prop :=
  IsTupOf2 h TI (.ref i1) (.ref i2) ∧ (h.IsTupleIter i1 a i ∧ h.IsTuple a xs) ∧ (h.IsTupleIter i2 b i ∧ h.IsTuple b ys) ∧
    ((IsZip h z TI TO .none ∧ ∃ x y, IsTupOf2 h TO x y) ∨ ∃ (T : Addr) (f : Bool) (oT : Obj), IsZipHeld h z TI TO T f ∧ h.get? T = some oT ∧ T ≠ z ∧ T ≠ i1 ∧ T ≠ i2 ∧ T ≠ S ∧ ∃ oO, h.get? TO = some oO)
theorem ZipT.at {z TI TO i1 i2 a b S : Addr} {xs ys : Array Value} {i : Nat} {h₁ h₂ : Heap} (st : ZipT z TI TO i1 i2 a b S xs ys i h₁) (hz : z ≠ S) (hTI : TI ≠ S) (hTO : TO ≠ S) (h1 : i1 ≠ S) (h2 : i2 ≠ S) (ha : a ≠ S) (hb : b ≠ S)
    (hk : ∀ c o, c ≠ S → h₁.get? c = some o → h₂.get? c = some o) : ZipT z TI TO i1 i2 a b S xs ys i h₂ := by
  obtain ⟨t, st1, st2, q⟩ := st
  refine ⟨hk _ _ hTI t, ⟨st1.1.at fun o e => hk _ o h1 e, st1.2.at fun o e => hk _ o ha e⟩, ⟨st2.1.at fun o e => hk _ o h2 e, st2.2.at fun o e => hk _ o hb e⟩, ?_⟩
  rcases q with ⟨q, x, y, t2⟩ | ⟨T, f, oT, q, hT, r1, r2, r3, r4, oO, r5⟩
  · exact .inl ⟨hk _ _ hz q, x, y, hk _ _ hTO t2⟩
  · exact .inr ⟨T, f, oT, hk _ _ hz q, hk _ _ r4 hT, r1, r2, r3, r4, oO, hk _ _ hTO r5⟩
/-- the pairs made so far: new, one for each place -/
def PairsAt (H0 H : Hp) (ts xs ys : List V) : Prop := ∀ (j : Nat) (t : V), ts[j]? = some t → ∃ (T : Addr) (x y : V), t = V.ref T ∧ H0 T = none ∧ H T = some (.tup [x, y]) ∧ xs[j]? = some x ∧ ys[j]? = some y
theorem Vals.getU : ∀ {xs : List V} {us : List Value} {i : Nat} {u : Value}, Vals xs us → us[i]? = some u → ∃ x, xs[i]? = some x ∧ RelV x u
  | _, _, 0, _, .cons h _, e => ⟨_, rfl, Option.some.inj e ▸ h⟩
  | _, _, i + 1, _, .cons _ a, e => Vals.getU (i := i) a (by simpa using e)
section
variable {X : Cx} {pins : List (Addr × Obj)} {σ : L2.St} {A : Around} {R : Result → Shared → Prop} {z TI TO i1 i2 a b S : Addr} {xs ys : Array Value} {vx vy : List V} {H0 : Hp}
theorem loopZ (hh : A.handled = none) (D : ZipApart z TI TO i1 i2 a b) (Sp : ZipSep2 z TI TO i1 i2 [i1, a] [i2, b]) (sz : S ≠ z) (sTI : S ≠ TI) (sTO : S ≠ TO) (s1 : S ≠ i1) (s2 : S ≠ i2) (sa : S ≠ a) (sb : S ≠ b)
    (rx : Vals vx xs.toList) (ry : Vals vy ys.toList) (hn : min xs.size ys.size ≤ sizeLine) (res : Value) :
    ∀ (k i : Nat) (s : Shared) (H : Hp) (ts : List V), min xs.size ys.size - i = k → i ≤ min xs.size ys.size → Inv X pins σ H s → (∀ c ∈ [z, TI, TO, i1, i2], FpOk X pins H c) → ZipT z TI TO i1 i2 a b S xs ys i s.heap →
      H S = some (.lst ts) → H0 S = none → Same H0 H → ts.length = i → PairsAt H0 H ts vx vy →
      (∀ (s' : Shared) (H' : Hp) (ts' : List V), Inv X pins σ H' s' → Same H0 H' → H' S = some (.lst ts') → ts'.length = min xs.size ys.size → PairsAt H0 H' ts' vx vy → R (.ok (.ret res)) s') →
      codeAny (model X.prog X.w) A (.builtin "list.extend.loop" ⟨[.ref S, .ref z, res], []⟩) R s := by
  have D1 := Draws.tuple (prog := X.prog) (w := X.w) (A := A.in1.in1) hh i1 a D.l1i1 xs
  have D2 := Draws.tuple (prog := X.prog) (w := X.w) (A := A.in1.in1) hh i2 b D.l2i2 ys
  have e1 : min xs.size ys.size ≤ xs.size := Nat.min_le_left ..
  have e2 : min xs.size ys.size ≤ ys.size := Nat.min_le_right ..
  have e3 : min xs.size ys.size = xs.size ∨ min xs.size ys.size = ys.size := by omega
  intro k
  induction k with
  | zero =>
    intro i s H ts hk hi I hf st hS h0S same hl hp hR
    have hin : i = min xs.size ys.size := by omega
    subst hin
    refine codeAny_builtin PySem.F.entry_extend_loop ?_
    rw [Around.under_plainId PySem.F.plain_extend_loop _]
    show wpAny _ A.in1 (pyNext (.ref z) >>= _) _ _ s
    obtain ⟨hTI, st1, st2, q⟩ := st
    have fin : ∀ h' tk, (∀ c o, c ∉ [z, TI, TO, i1, i2] → s.heap.get? c = some o → h'.get? c = some o) → R (.ok (.ret res)) { s with heap := h', toks := tk } := fun h' tk hk' =>
      hR _ H ts (I.turnedL (t' := tk) hk' hf) same hS hl hp
    rcases q with ⟨q, x, y, hTO⟩ | ⟨T, f, oT, q, hT, _⟩
    · refine wpAny_bind (wpAny_pyNext_zipD2_end Sp D1 D2 q hTI hTO st1 st2 e1 e2 e3 fun h' tk hk' => ?_)
      exact wpAny_pure (fin h' tk fun c o hc e => hk' c o (fun x => hc (by simp [x])) (fun x => hc (by simp [x])) (fun x => hc (by simp [x])) (fun x => hc (by simp [x])) e)
    · refine wpAny_bind (zipH_pyNext_end Sp D1 D2 q hT hTI st1 st2 e1 e2 e3 fun h' tk hk' => ?_)
      exact wpAny_pure (fin h' tk fun c o hc e => hk' c o (fun x => hc (by simp [x])) (fun x => hc (by simp [x])) (fun x => hc (by simp [x])) e)
  | succ k ih =>
    intro i s H ts hk hi I hf st hS h0S same hl hp hR
    have hlt : i < min xs.size ys.size := by omega
    refine codeAny_builtin PySem.F.entry_extend_loop ?_
    rw [Around.under_plainId PySem.F.plain_extend_loop _]
    show wpAny _ A.in1 (pyNext (.ref z) >>= _) _ _ s
    have lt : ∀ {c o}, s.heap.get? c = some o → s.heap.objs.size ≠ c := fun e => Nat.ne_of_gt (Heap.lt_size e)
    obtain ⟨hTI, st1, st2, q⟩ := st
    have n1 : s.heap.objs.size ≠ i1 := let ⟨_, e, _⟩ := st1.1; lt e
    have n2 : s.heap.objs.size ≠ i2 := let ⟨_, e, _⟩ := st2.1; lt e
    have nz : s.heap.objs.size ≠ z := by
      rcases q with ⟨q, _⟩ | ⟨_, _, _, q, _⟩
      · exact lt q
      · exact lt q
    have nTO : s.heap.objs.size ≠ TO := by
      rcases q with ⟨_, _, _, q⟩ | ⟨_, _, _, _, _, _, _, _, _, _, q⟩
      · exact lt q
      · exact lt q
    obtain ⟨hz, its, c, rv, hSo⟩ := (show ObjOk X.prog X.w H s.heap S (.lst ts) from I.hok S _ hS)
    have nS : s.heap.objs.size ≠ S := lt hSo
    -- what stands to be done behind the step
    have step : ∀ (x1 x2 : Value) (h' : Heap) (tk : Nat), xs[i]? = some x1 → ys[i]? = some x2 → (∃ (T : Addr) (f : Bool) (oT : Obj), IsZipHeld h' z TI TO T f ∧ h'.get? T = some oT ∧ T ≠ z ∧ T ≠ i1 ∧ T ≠ i2 ∧ T ≠ S ∧ ∃ oO, h'.get? TO = some oO) → (h'.IsTupleIter i1 a (i + 1) ∧ h'.IsTuple a xs) → (h'.IsTupleIter i2 b (i + 1) ∧ h'.IsTuple b ys) →
        IsTupOf2 h' s.heap.objs.size x1 x2 → (∀ c o, c ∉ [z, TO, i1, i2] → s.heap.get? c = some o → h'.get? c = some o) →
        wpAny (model X.prog X.w) A.in1 (updateSeq S (·.push (.ref s.heap.objs.size)) >>= fun _ => again (.builtin "list.extend.loop" ⟨[.ref S, .ref z, res], []⟩))
          (fun fin s' => match fin with | .done f => R (.ok f) s' | .again c' => c'.quiet = true ∧ codeAny (model X.prog X.w) A c' R s') (fun e s' => R (.error e) s') { s with heap := h', toks := tk } := by
      intro x1 x2 h' tk hx1 hx2 hzh j1 j2 hpr hk'
      obtain ⟨y1, gx, r1⟩ := LK.Vals.getU (i := i) (u := x1) rx (by simpa using hx1)
      obtain ⟨y2, gy, r2⟩ := LK.Vals.getU (i := i) (u := x2) ry (by simpa using hx2)
      have hTn : H s.heap.objs.size = none := I.hok.fresh (Nat.le_refl _)
      have new1 : ObjOk X.prog X.w (upd H s.heap.objs.size (.tup [y1, y2])) h' s.heap.objs.size (.tup [y1, y2]) := ⟨by show 2 ≤ sizeLine; decide, [x1, x2], .cons r1 (.cons r2 .nil), ⟨_, hpr, rfl, _, rfl⟩⟩
      have I1 : Inv X pins σ (upd H s.heap.objs.size (.tup [y1, y2])) { s with heap := h', toks := tk } :=
        I.turnedNew (ch := [z, TI, TO, i1, i2]) (fun c o hb e => hk' c o (fun hm => hb (by simp at hm ⊢; rcases hm with r | r | r | r <;> simp [r])) e) hf (Nat.le_refl _) new1
      have hSo' : h'.get? S = some { cls := .type "list", dict := none, data := .seq its.toArray c, slots := #[] } := hk' S _ (by simp [sz, sTO, s1, s2]) hSo
      have hS1 : (upd H s.heap.objs.size (.tup [y1, y2])) S = some (.lst ts) := by rw [upd_ne nS.symm]; exact hS
      have lits : its.length = i := by rw [← rv.length]; exact hl
      refine wpAny_bind ?_
      refine wpAny_updateSeq (s := { s with heap := h', toks := tk }) hSo' rfl (wpAny_pure ⟨plainId_quiet PySem.F.plain_extend_loop _, ?_⟩) (by simp only [List.size_toArray]; omega) (by show (its.toArray.push _).size ≤ sizeLine + 1; rw [Array.size_push, List.size_toArray]; omega)
      have oth : ∀ c o, c ≠ S → h'.get? c = some o → (h'.update S (Obj.mapSeq (·.push (.ref s.heap.objs.size)))).get? c = some o := fun c o hc e => (Heap.get?_update_other _ _ (Ne.symm hc)).trans e
      have gS := Heap.get?_update_self (Obj.mapSeq (·.push (.ref s.heap.objs.size))) hSo' rfl
      have new2 : ObjOk X.prog X.w (upd (upd H s.heap.objs.size (.tup [y1, y2])) S (.lst (ts ++ [.ref s.heap.objs.size]))) (h'.update S (Obj.mapSeq (·.push (.ref s.heap.objs.size)))) S (.lst (ts ++ [.ref s.heap.objs.size])) := by
        have ea : its.toArray.push (Value.ref s.heap.objs.size) = (its ++ [Value.ref s.heap.objs.size]).toArray := by simp
        have rvn : Vals (ts ++ [V.ref s.heap.objs.size]) (its ++ [Value.ref s.heap.objs.size]) := rv.append (.cons (show L2.RelV (V.ref s.heap.objs.size) (Value.ref s.heap.objs.size) from rfl) .nil)
        exact ⟨by simp; omega, its ++ [Value.ref s.heap.objs.size], _, rvn, by rw [← ea]; exact gS⟩
      have I2 := I1.write (x := S) (e := S) (o := .lst (ts ++ [.ref s.heap.objs.size])) (t' := tk) (by rw [hS1]; exact True.intro) (.inl rfl) oth ⟨_, gS⟩ new2
      refine ih (i + 1) _ _ (ts ++ [.ref s.heap.objs.size]) (by omega) hlt I2 (fun c hcm => ?_) ?_ upd_same h0S ?_ (by simp [hl]) ?_ hR
      · have hc := hf c hcm
        have cT : c ≠ s.heap.objs.size := by
          simp only [List.mem_cons, List.not_mem_nil, or_false] at hcm
          rcases hcm with r | r | r | r | r
          · rw [r]; exact nz.symm
          · rw [r]; exact (lt hTI).symm
          · rw [r]; exact nTO.symm
          · rw [r]; exact n1.symm
          · rw [r]; exact n2.symm
        have cS : c ≠ S := by
          simp only [List.mem_cons, List.not_mem_nil, or_false] at hcm
          rcases hcm with r | r | r | r | r <;> rw [r]
          · exact sz.symm
          · exact sTI.symm
          · exact sTO.symm
          · exact s1.symm
          · exact s2.symm
        exact ⟨by rw [upd_ne cS, upd_ne cT]; exact hc.1, hc.2⟩
      · exact ZipT.at (h₁ := h') ⟨hk' _ _ (by simp [D.TIz, D.TITO, D.TIi1, D.TIi2]) hTI, j1, j2, .inr hzh⟩ sz.symm sTI.symm sTO.symm s1.symm s2.symm sa.symm sb.symm oth
      · intro p o e
        have pS : p ≠ S := fun r => by rw [r, h0S] at e; cases e
        have eH := same p o e
        have pT : p ≠ s.heap.objs.size := fun r => by rw [r, hTn] at eH; cases eH
        rw [upd_ne pS, upd_ne pT]; exact eH
      · intro j t ej
        by_cases hj : j < ts.length
        · rw [List.getElem?_append_left hj] at ej
          obtain ⟨T, x, y, et, h0, hT, ex, ey⟩ := hp j t ej
          refine ⟨T, x, y, et, h0, ?_, ex, ey⟩
          have pS : T ≠ S := fun r => by rw [r, hS] at hT; cases hT
          have pT : T ≠ s.heap.objs.size := fun r => by rw [r, hTn] at hT; cases hT
          rw [upd_ne pS, upd_ne pT]; exact hT
        · rw [List.getElem?_append_right (by omega)] at ej
          have hj0 : j = ts.length := by
            rcases Nat.eq_or_lt_of_le (Nat.le_of_not_lt hj) with r | r
            · exact r.symm
            · rw [List.getElem?_eq_none (by simp; omega)] at ej; cases ej
          subst hj0
          simp at ej
          refine ⟨s.heap.objs.size, y1, y2, ej.symm, ?_, by rw [upd_ne nS]; exact upd_same, by rw [hl]; exact gx, by rw [hl]; exact gy⟩
          cases e : H0 s.heap.objs.size with
          | none => rfl
          | some o => have := same _ _ e; rw [hTn] at this; cases this
    have hix : i < xs.size := Nat.lt_of_lt_of_le hlt e1
    have hiy : i < ys.size := Nat.lt_of_lt_of_le hlt e2
    rcases q with ⟨q, x, y, hTO⟩ | ⟨T, f, oT, q, hT, r1, r2, r3, r4, oO, r5⟩
    · refine wpAny_bind (wpAny_pyNext_zipD2_item Sp D1 D2 q hTI hTO st1 st2 hix hiy fun x1 x2 h' tk p1 p2 b1 b2 b3 b4 b5 b6 hk' => ?_)
      exact step x1 x2 h' tk p1 p2 ⟨s.heap.objs.size, false, _, b1, b5, nz, n1, n2, nS, _, b2⟩ b3 b4 b5 fun c o hc e => hk' c o (fun x => hc (by simp [x])) (fun x => hc (by simp [x])) (fun x => hc (by simp [x])) (fun x => hc (by simp [x])) e
    · refine wpAny_bind (zipH_pyNext_item Sp D1 D2 q hT hTI st1 st2 hix hiy fun x1 x2 h' tk p1 p2 b1 b3 b4 b5 b6 hk' => ?_)
      exact step x1 x2 h' tk p1 p2 ⟨T, true, oT, b1, hk' _ _ r1 r2 r3 hT, r1, r2, r3, r4, oO, hk' _ _ Sp.TOz D.TOi1 D.TOi2 r5⟩ b3 b4 b5 fun c o hc e => hk' c o (fun x => hc (by simp [x])) (fun x => hc (by simp [x])) (fun x => hc (by simp [x])) e
theorem extendZ {s : Shared} {H : Hp} (hh : A.handled = none) (D : ZipApart z TI TO i1 i2 a b) (Sp : ZipSep2 z TI TO i1 i2 [i1, a] [i2, b]) (sz : S ≠ z) (sTI : S ≠ TI) (sTO : S ≠ TO) (s1 : S ≠ i1) (s2 : S ≠ i2) (sa : S ≠ a) (sb : S ≠ b)
    (rx : Vals vx xs.toList) (ry : Vals vy ys.toList) (hn : min xs.size ys.size ≤ sizeLine) (res : Value) (I : Inv X pins σ H s) (hf : ∀ c ∈ [z, TI, TO, i1, i2], FpOk X pins H c) (st : ZipT z TI TO i1 i2 a b S xs ys 0 s.heap) (hz : IsZip s.heap z TI TO .none)
    (hS : H S = some (.lst [])) (h0S : H0 S = none) (same : Same H0 H)
    (hR : ∀ (s' : Shared) (H' : Hp) (ts' : List V), Inv X pins σ H' s' → Same H0 H' → H' S = some (.lst ts') → ts'.length = min xs.size ys.size → PairsAt H0 H' ts' vx vy → R (.ok (.ret res)) s') :
    wpAny (model X.prog X.w) A.in1 (Builtin.List.listExtendWith (.ref S) (.ref z) res)
      (fun fin s' => match fin with | .done f => R (.ok f) s' | .again c' => c'.quiet = true ∧ codeAny (model X.prog X.w) A c' R s') (fun e s' => R (.error e) s') s := by
  have hT : s.TypeIs (.ref z) "zip" := ⟨_, hz, rfl⟩
  have h1 : Builtin.List.listSameRef (.ref S) (.ref z) = false := by simp [Builtin.List.listSameRef, sz]
  obtain ⟨hl, its, c, rv, hSo⟩ := (show ObjOk X.prog X.w H s.heap S (.lst []) from I.hok S _ hS)
  obtain rfl : its = [] := by cases rv; rfl
  unfold Builtin.List.listExtendWith
  refine wpAny_bind (wpAny_typeOf hT ?_)
  rw [if_neg (by rw [h1]; decide)]
  refine wpAny_bind (wpAny_pyIter_zip hz ?_)
  refine wpAny_bind (wpAny_holding (hint_zip hT ?_))
  refine wpAny_ite_split (fun _ => ?_) (fun h => absurd (by rfl) h)
  refine wpAny_bind (wpAny_rule ?_)
  refine wpAny_bind ?_
  show wpAny _ _ (updateSeq S (·.push .none) >>= fun _ => updateSeq S (·.pop)) _ _ _
  refine wpAny_bind (wpAny_updateSeq hSo rfl ?_)
  have hS₂ := Heap.get?_update_self (Obj.mapSeq (·.push Value.none)) hSo rfl
  refine wpAny_updateSeq (hz := by seq_fits) hS₂ rfl ?_
  have hS₃ := Heap.get?_update_self (Obj.mapSeq (·.pop)) hS₂ rfl
  have oth : ∀ c o, c ≠ S → s.heap.get? c = some o → ((s.heap.update S (Obj.mapSeq (·.push Value.none))).update S (Obj.mapSeq (·.pop))).get? c = some o := fun c o hc e => (Heap.get?_update_other _ _ (Ne.symm hc)).trans ((Heap.get?_update_other _ _ (Ne.symm hc)).trans e)
  have I2 := I.write (x := S) (e := S) (o := .lst []) (t' := s.toks) (by rw [hS]; exact True.intro) (.inl rfl) oth ⟨_, hS₃⟩ (show ObjOk X.prog X.w _ _ S (.lst []) from ⟨hl, [], _, .nil, hS₃⟩)
  refine wpAny_pure ⟨plainId_quiet PySem.F.plain_extend_loop _, loopZ hh D Sp sz sTI sTO s1 s2 sa sb rx ry hn res _ 0 _ _ [] rfl (Nat.zero_le _) I2 (fun c hcm => ?_) (st.at sz.symm sTI.symm sTO.symm s1.symm s2.symm sa.symm sb.symm oth) upd_same h0S (fun p o e => ?_) rfl (fun j t e => by simp at e) hR⟩
  · have hc := hf c hcm
    have cS : c ≠ S := by
      simp only [List.mem_cons, List.not_mem_nil, or_false] at hcm
      rcases hcm with r | r | r | r | r <;> rw [r]
      · exact sz.symm
      · exact sTI.symm
      · exact sTO.symm
      · exact s1.symm
      · exact s2.symm
    exact ⟨by rw [upd_ne cS]; exact hc.1, hc.2⟩
  · have pS : p ≠ S := fun r => by rw [r, h0S] at e; cases e
    rw [upd_ne pS]; exact same p o e
end
theorem call_listZ {X : Cx} {pins : List (Addr × Obj)} {σ : L2.St} {A : Around} {E : Value → Shared → Prop} {z TI TO i1 i2 a b : Addr} {xs ys : Array Value} {vx vy : List V} {s : Shared} {H : Hp} {Q : Value → Shared → Prop} (hh : A.handled = none) (D : ZipApart z TI TO i1 i2 a b) (Sp : ZipSep2 z TI TO i1 i2 [i1, a] [i2, b])
    (rx : Vals vx xs.toList) (ry : Vals vy ys.toList) (hn : min xs.size ys.size ≤ sizeLine) (I : Inv X pins σ H s) (hf : ∀ c ∈ [z, TI, TO, i1, i2], FpOk X pins H c) (hz : IsZip s.heap z TI TO .none) (hTI : IsTupOf2 s.heap TI (.ref i1) (.ref i2)) (hTO : ∃ x y, IsTupOf2 s.heap TO x y)
    (h1 : s.heap.IsTupleIter i1 a 0) (h2 : s.heap.IsTupleIter i2 b 0) (ha : s.heap.IsTuple a xs) (hb : s.heap.IsTuple b ys)
    (hQ : ∀ (s' : Shared) (q : Addr) (H' : Hp) (ts' : List V), Inv X pins σ H' s' → Same H H' → H q = none → H' q = some (.lst ts') → ts'.length = min xs.size ys.size → PairsAt H H' ts' vx vy → Q (.ref q) s') :
    wpAny (model X.prog X.w) A (call (.type "list") [.ref z]) Q E s := by
  refine callType_codes (Q₁ := fun obj s₁ => obj = .ref s.heap.objs.size ∧ s₁ = { s with heap := s.heap.push { cls := .type "list", data := .seq #[] } }) PySem.F.called_list (PySem.F.typeCall_list_1 _) PySem.F.entry_list_init
    (code_list_new _ ⟨rfl, rfl⟩) fun obj s₁ h₁ => ?_
  obtain ⟨rfl, rfl⟩ := h₁
  have hS : (s.heap.push { cls := .type "list", data := .seq #[] }).get? s.heap.objs.size = some { cls := .type "list", data := .seq #[] } := Heap.get?_push_size _ rfl
  refine ⟨⟨_, hS, rfl⟩, PySem.F.args_list_init_2 _ _, ?_⟩
  show wpAny _ _ (do let old ← Builtin.List.listItems (.ref s.heap.objs.size); Builtin.List.listUpdate (.ref s.heap.objs.size) (fun _ => #[]); letGo old.toList.reverse; Builtin.List.listExtendWith (.ref s.heap.objs.size) (.ref z) .none) _ _ _
  refine wpAny_bind ?_
  unfold Builtin.List.listItems
  refine wpAny_bind (wpAny_seqItems hS rfl (wpAny_pure ?_))
  show wpAny _ _ (updateSeq s.heap.objs.size (fun _ => #[]) >>= fun _ => letGo (#[] : Array Value).toList.reverse >>= fun _ => Builtin.List.listExtendWith (.ref s.heap.objs.size) (.ref z) .none) _ _ _
  refine wpAny_bind (wpAny_updateSeq hS rfl ?_)
  have hS₂ := Heap.get?_update_self (Obj.mapSeq (fun _ => (#[] : Array Value))) hS rfl
  have lt : ∀ {c o}, s.heap.get? c = some o → s.heap.objs.size ≠ c := fun e => Nat.ne_of_gt (Heap.lt_size e)
  have oth : ∀ b o, s.heap.get? b = some o → ((s.heap.push { cls := .type "list", data := .seq #[] }).update s.heap.objs.size (Obj.mapSeq (fun _ => (#[] : Array Value)))).get? b = some o :=
    fun b o e => (Heap.get?_update_other _ _ (lt e)).trans (Heap.get?_push_of_some _ e)
  have hn0 : H s.heap.objs.size = none := I.hok.fresh (Nat.le_refl _)
  have I2 : Inv X pins σ (upd H s.heap.objs.size (.lst [])) { s with heap := (s.heap.push { cls := .type "list", data := .seq #[] }).update s.heap.objs.size (Obj.mapSeq (fun _ => (#[] : Array Value))) } :=
    I.laid (t' := s.toks) oth (Nat.le_refl _) (show ObjOk X.prog X.w _ _ _ (.lst []) from ⟨Nat.zero_le _, [], _, .nil, hS₂⟩)
  refine wpAny_bind (wpAny_letGo ?_)
  obtain ⟨x0, y0, hTO⟩ := hTO
  have si1 : s.heap.objs.size ≠ i1 := let ⟨_, e, _⟩ := h1; lt e
  have si2 : s.heap.objs.size ≠ i2 := let ⟨_, e, _⟩ := h2; lt e
  have sa : s.heap.objs.size ≠ a := let ⟨_, e, _⟩ := ha; lt e
  have sb : s.heap.objs.size ≠ b := let ⟨_, e, _⟩ := hb; lt e
  refine extendZ (A := A.in1) (H0 := H) hh D Sp (lt hz) (lt hTI) (lt hTO) si1 si2 sa sb rx ry hn .none I2 (fun c hcm => ?_) ⟨oth _ _ hTI, ⟨h1.at fun o e => oth _ o e, ha.at fun o e => oth _ o e⟩, ⟨h2.at fun o e => oth _ o e, hb.at fun o e => oth _ o e⟩, .inl ⟨oth _ _ hz, x0, y0, oth _ _ hTO⟩⟩ (oth _ _ hz) upd_same hn0 (Same.new hn0) fun s' H' ts' I' e1 e2 e3 e4 => ?_
  · have hc := hf c hcm
    have cS : c ≠ s.heap.objs.size := by
      simp only [List.mem_cons, List.not_mem_nil, or_false] at hcm
      rcases hcm with r | r | r | r | r <;> rw [r]
      · exact (lt hz).symm
      · exact (lt hTI).symm
      · exact (lt hTO).symm
      · exact si1.symm
      · exact si2.symm
    exact ⟨by rw [upd_ne cS]; exact hc.1, hc.2⟩
  · exact ⟨rfl, hQ s' _ H' ts' I' e1 hn0 e2 e3 e4⟩
def tListZ (K : PySem.W.Frag) (ta : TA) : TE := fun σ H Q => ta σ H fun vs H1 => ∃ (a b : Addr) (xs ys : List V), vs = [.ref a, .ref b] ∧ SqT K H1 a xs ∧ SqT K H1 b ys ∧
  ∀ (q : Addr) (H' : Hp) (ts : List V), Same H1 H' → H1 q = none → H' q = some (.lst ts) → ts.length = min xs.length ys.length → PairsAt H1 H' ts xs ys → Q (.ref q) H'
theorem pe_listZ {X : Cx} {e e2 : Expr} {ta : TA} {p p1 pos pos2 : Pos} (calm : X.calm = true) (hg : Gl X "zip") (hm : X.mg "zip" = none) (hgl : Gl X "list") (hml : X.mg "list" = none) (ha : PA X [e, e2] ta)
    (hs : starEach [e, e2] X.env = (false, eval e X.env) :: starEach [e2] X.env := by rfl) (hpl : (backTo pos (starEach [e2] X.env)).any (·.1) = false := by rfl)
    (hs2 : starEach [.Call (.Name "zip" p) [e, e2] [] pos] X.env = (false, eval (.Call (.Name "zip" p) [e, e2] [] pos) X.env) :: starEach [] X.env := by rfl) :
    PE X (.Call (.Name "list" p1) [.Call (.Name "zip" p) [e, e2] [] pos] [] pos2) (tListZ X.K ta) := by
  refine ⟨fun pins s σ H Q I h => ?_⟩
  refine wpAny_Call_Name_kw (ld_blt I hgl hml PyProof.Rows.boot_list ?_ (by decide) (by decide))
  refine PyProof.Rows.callWith_type1 ?_ hs2 rfl
  rw [hs2]
  show wpAny _ _ (spliced ((false, eval (.Call (.Name "zip" p) [e, e2] [] pos) X.env) :: backTo pos2 (starEach [] X.env))) _ _ s
  refine Calls.spliced_cons ?_
  refine wpAny_Call_Name_kw (ld_blt I hg hm PyProof.Rows.boot_zip (PyProof.Rows.callWith_type1 (thn (ha.run pos pins s σ H _ I h) fun us s1 ⟨vs, H1, I1, r1, q1⟩ => ?_) hs hpl) (by decide) (by decide))
  obtain ⟨a, b, xs, ys, rfl, hqa, hqb, q⟩ := q1
  obtain ⟨u1, u2, rfl, r1, r2⟩ := vals2 r1
  cases r1
  cases r2
  obtain ⟨ia, ra, pa, za⟩ := I1.tuple hqa
  obtain ⟨ib, rb, pb, zb⟩ := I1.tuple hqb
  obtain ⟨oa, hoa, _⟩ := id pa
  obtain ⟨ob, hob, _⟩ := id pb
  have D := PySem.W.ktu_apart s1.heap.objs.size a b (Heap.lt_size hoa) (Heap.lt_size hob)
  refine zip_begins2 (begins_tuple a ia.toArray) (begins_tuple b ib.toArray) pa pb fun h' hz hTI hTO h1 h2 hsz hk => Calls.spliced_nil ?_
  have la := ra.length
  have lb := rb.length
  have I2 : Inv X pins σ H1 { s1 with heap := h' } := I1.kept (t' := s1.toks) hk
  refine call_listZ (s := { s1 with heap := h' }) (xs := ia.toArray) (ys := ib.toArray) (I1.ok.hd calm) D (sep_T D) ra rb (by simp only [List.size_toArray]; omega) I2 (fun c hcm => ?_) hz hTI ⟨_, _, hTO⟩ ⟨_, h1, rfl, rfl⟩ ⟨_, h2, rfl, rfl⟩ (pa.keeps hk) (pb.keeps hk) fun s' p H' ts I' e1 e2 e3 e4 e5 => ?_
  · have hle : s1.heap.objs.size ≤ c := by
      simp only [List.mem_cons, List.not_mem_nil, or_false] at hcm
      rcases hcm with z | z | z | z | z <;> rw [z] <;> first | exact Nat.le_add_right _ _ | exact Nat.le_refl _
    exact I1.fpOk hle (I1.hok.fresh hle)
  · exact ⟨.ref p, H', I', rfl, q p H' ts e1 e2 e3 (by rw [e4]; simp only [List.size_toArray]; omega) e5⟩
end LK

set_option Elab.async false
set_option linter.all false
set_option maxRecDepth 100000
/-! an int against an int or a boolean: less, at most -/
namespace LK
open PySem PySem.Spec PyProof.Rows L2
def NumI (x : V) (i : Int) : Prop := x = .int i ∨ ∃ b, x = .bl b ∧ i = if b then 1 else 0
section
open PySem.SeqAt
theorem g_lt_bi (x : Bool) (n : Int) (t : Tok) : Gives (Builtin.«int.__lt__» ⟨[.bool x, .int n t], []⟩) (.val (.bool (decide ((if x = true then (1 : Int) else 0) < n)))) := by
  refine .of_wp fun M A E s Q h => ?_
  rcases s with ⟨h1, h2, h3, h4, h5⟩
  wp_walk
  exact ⟨_, rfl, h⟩
theorem g_ge_bi (x : Bool) (n : Int) (t : Tok) : Gives (Builtin.«int.__ge__» ⟨[.bool x, .int n t], []⟩) (.val (.bool (decide ((if x = true then (1 : Int) else 0) ≥ n)))) := by
  refine .of_wp fun M A E s Q h => ?_
  rcases s with ⟨h1, h2, h3, h4, h5⟩
  wp_walk
  exact ⟨_, rfl, h⟩
theorem lt_bool_int {prog : Program} {w : World} {A : Around} {E : Value → Shared → Prop} {s : Shared} {Q : Value → Shared → Prop} {a : Bool} {b : Int} {u : Tok} (h : Q (.bool (decide ((if a then 1 else 0) < b))) s) : wpAny (model prog w) A (compareOp .Lt (.bool a) (.int b u)) Q E s := by
  show wpAny _ _ (richCompare .Lt (.bool a) (.int b u)) _ _ _
  exact rc_left_or (s := s) rfl (typeIs_int s b u) (by decide) F.sub_int_bool F.slot_bool_lt (call_gives F.slot_bool_lt rfl F.entry_int_lt (F.args_int_lt_2 _ _) (g_lt_bi a b u) ⟨nofun, h⟩) (.inl rfl)
theorem le_int_bool {prog : Program} {w : World} {A : Around} {E : Value → Shared → Prop} {s : Shared} {Q : Value → Shared → Prop} {a : Int} {t : Tok} {b : Bool} (h : Q (.bool (decide (a ≤ if b then 1 else 0))) s) : wpAny (model prog w) A (compareOp .LtE (.int a t) (.bool b)) Q E s := by
  show wpAny _ _ (richCompare .LtE (.int a t) (.bool b)) _ _ _
  exact rc_sub_first_or (s := s) (typeIs_int s a t) rfl (by decide) F.sub_bool_int F.slot_bool_ge_refl (call_gives F.slot_bool_ge_refl rfl F.entry_int_ge (F.args_int_ge_2 _ _) (g_ge_bi b a t) ⟨nofun, h⟩) (.inl rfl)
end
theorem op_leN {X : Cx} : OpR X (compareOp .LtE) (fun x y H Q => ∃ i j, x = .int i ∧ NumI y j ∧ Q (.bl (decide (i ≤ j))) H) := by
  intro pins s σ H x y v u Q I rx ry h
  obtain ⟨i, j, rfl, hy, q⟩ := h
  obtain ⟨t, rfl⟩ := rx
  rcases hy with rfl | ⟨b, rfl, rfl⟩
  · obtain ⟨t', rfl⟩ := ry
    exact le_int (fin_bl I q rfl)
  · cases ry
    exact le_int_bool (fin_bl I q rfl)
theorem op_ltN {X : Cx} : OpR X (compareOp .Lt) (fun x y H Q => ∃ i j, NumI x i ∧ y = .int j ∧ Q (.bl (decide (i < j))) H) := by
  intro pins s σ H x y v u Q I rx ry h
  obtain ⟨i, j, hx, rfl, q⟩ := h
  obtain ⟨t, rfl⟩ := ry
  rcases hx with rfl | ⟨b, rfl, rfl⟩
  · obtain ⟨t', rfl⟩ := rx
    exact lt_int (fin_bl I q rfl)
  · cases rx
    exact lt_bool_int (fin_bl I q rfl)
end LK

set_option Elab.async false
set_option linter.all false
set_option maxRecDepth 100000
set_option maxHeartbeats 4000000
/-! the four signs over ints and booleans, or over texts -/
namespace LK
open PySem PySem.Spec PyProof.Rows L2
def bi (b : Bool) : Int := if b = true then 1 else 0
section
open PySem.SeqAt
theorem cn_lt_bi (x : Bool) (n : Int) (t : Tok) : Gives (Builtin.«int.__lt__» ⟨[.bool x, .int n t], []⟩) (.val (.bool (decide (bi x < n)))) := by
  refine .of_wp fun M A E s Q h => ?_
  rcases s with ⟨h1, h2, h3, h4, h5⟩
  wp_walk
  exact ⟨_, rfl, h⟩
theorem cn_lt_bb (x y : Bool) : Gives (Builtin.«int.__lt__» ⟨[.bool x, .bool y], []⟩) (.val (.bool (decide (bi x < bi y)))) := by
  refine .of_wp fun M A E s Q h => ?_
  rcases s with ⟨h1, h2, h3, h4, h5⟩
  wp_walk
  exact ⟨_, rfl, h⟩
theorem cn_le_bi (x : Bool) (n : Int) (t : Tok) : Gives (Builtin.«int.__le__» ⟨[.bool x, .int n t], []⟩) (.val (.bool (decide (bi x ≤ n)))) := by
  refine .of_wp fun M A E s Q h => ?_
  rcases s with ⟨h1, h2, h3, h4, h5⟩
  wp_walk
  exact ⟨_, rfl, h⟩
theorem cn_le_bb (x y : Bool) : Gives (Builtin.«int.__le__» ⟨[.bool x, .bool y], []⟩) (.val (.bool (decide (bi x ≤ bi y)))) := by
  refine .of_wp fun M A E s Q h => ?_
  rcases s with ⟨h1, h2, h3, h4, h5⟩
  wp_walk
  exact ⟨_, rfl, h⟩
theorem cn_gt_bi (x : Bool) (n : Int) (t : Tok) : Gives (Builtin.«int.__gt__» ⟨[.bool x, .int n t], []⟩) (.val (.bool (decide (bi x > n)))) := by
  refine .of_wp fun M A E s Q h => ?_
  rcases s with ⟨h1, h2, h3, h4, h5⟩
  wp_walk
  exact ⟨_, rfl, h⟩
theorem cn_gt_bb (x y : Bool) : Gives (Builtin.«int.__gt__» ⟨[.bool x, .bool y], []⟩) (.val (.bool (decide (bi x > bi y)))) := by
  refine .of_wp fun M A E s Q h => ?_
  rcases s with ⟨h1, h2, h3, h4, h5⟩
  wp_walk
  exact ⟨_, rfl, h⟩
theorem cn_ge_bi (x : Bool) (n : Int) (t : Tok) : Gives (Builtin.«int.__ge__» ⟨[.bool x, .int n t], []⟩) (.val (.bool (decide (bi x ≥ n)))) := by
  refine .of_wp fun M A E s Q h => ?_
  rcases s with ⟨h1, h2, h3, h4, h5⟩
  wp_walk
  exact ⟨_, rfl, h⟩
theorem cn_ge_bb (x y : Bool) : Gives (Builtin.«int.__ge__» ⟨[.bool x, .bool y], []⟩) (.val (.bool (decide (bi x ≥ bi y)))) := by
  refine .of_wp fun M A E s Q h => ?_
  rcases s with ⟨h1, h2, h3, h4, h5⟩
  wp_walk
  exact ⟨_, rfl, h⟩
theorem cw_lt_bi {prog : Program} {w : World} {A : Around} {E : Value → Shared → Prop} {s : Shared} {Q : Value → Shared → Prop} {a : Bool} {b : Int} {u : Tok} (h : Q (.bool (decide (bi a < b))) s) : wpAny (model prog w) A (compareOp .Lt (.bool a) (.int b u)) Q E s := by
  show wpAny _ _ (richCompare .Lt (.bool a) (.int b u)) _ _ _
  exact rc_left_or (s := s) rfl (typeIs_int s b u) (by decide) F.sub_int_bool F.slot_bool_lt (call_gives F.slot_bool_lt rfl F.entry_int_lt (F.args_int_lt_2 _ _) (cn_lt_bi a b u) ⟨nofun, h⟩) (.inl rfl)
theorem cw_lt_ib {prog : Program} {w : World} {A : Around} {E : Value → Shared → Prop} {s : Shared} {Q : Value → Shared → Prop} {a : Int} {t : Tok} {b : Bool} (h : Q (.bool (decide (a < bi b))) s) : wpAny (model prog w) A (compareOp .Lt (.int a t) (.bool b)) Q E s := by
  show wpAny _ _ (richCompare .Lt (.int a t) (.bool b)) _ _ _
  exact rc_sub_first_or (s := s) (typeIs_int s a t) rfl (by decide) F.sub_bool_int F.slot_bool_gt_refl (call_gives F.slot_bool_gt_refl rfl F.entry_int_gt (F.args_int_gt_2 _ _) (cn_gt_bi b a t) ⟨nofun, h⟩) (.inl rfl)
theorem cw_lt_bb {prog : Program} {w : World} {A : Around} {E : Value → Shared → Prop} {s : Shared} {Q : Value → Shared → Prop} {a b : Bool} (h : Q (.bool (decide (bi a < bi b))) s) : wpAny (model prog w) A (compareOp .Lt (.bool a) (.bool b)) Q E s := by
  show wpAny _ _ (richCompare .Lt (.bool a) (.bool b)) _ _ _
  exact wpAny_richCompare_same_or (T := "bool") rfl rfl F.slot_bool_lt (call_gives F.slot_bool_lt rfl F.entry_int_lt (F.args_int_lt_2 _ _) (cn_lt_bb a b) ⟨nofun, h⟩) (.inl rfl)
theorem cw_le_bi {prog : Program} {w : World} {A : Around} {E : Value → Shared → Prop} {s : Shared} {Q : Value → Shared → Prop} {a : Bool} {b : Int} {u : Tok} (h : Q (.bool (decide (bi a ≤ b))) s) : wpAny (model prog w) A (compareOp .LtE (.bool a) (.int b u)) Q E s := by
  show wpAny _ _ (richCompare .LtE (.bool a) (.int b u)) _ _ _
  exact rc_left_or (s := s) rfl (typeIs_int s b u) (by decide) F.sub_int_bool F.slot_bool_le (call_gives F.slot_bool_le rfl F.entry_int_le (F.args_int_le_2 _ _) (cn_le_bi a b u) ⟨nofun, h⟩) (.inl rfl)
theorem cw_le_ib {prog : Program} {w : World} {A : Around} {E : Value → Shared → Prop} {s : Shared} {Q : Value → Shared → Prop} {a : Int} {t : Tok} {b : Bool} (h : Q (.bool (decide (a ≤ bi b))) s) : wpAny (model prog w) A (compareOp .LtE (.int a t) (.bool b)) Q E s := by
  show wpAny _ _ (richCompare .LtE (.int a t) (.bool b)) _ _ _
  exact rc_sub_first_or (s := s) (typeIs_int s a t) rfl (by decide) F.sub_bool_int F.slot_bool_ge_refl (call_gives F.slot_bool_ge_refl rfl F.entry_int_ge (F.args_int_ge_2 _ _) (cn_ge_bi b a t) ⟨nofun, h⟩) (.inl rfl)
theorem cw_le_bb {prog : Program} {w : World} {A : Around} {E : Value → Shared → Prop} {s : Shared} {Q : Value → Shared → Prop} {a b : Bool} (h : Q (.bool (decide (bi a ≤ bi b))) s) : wpAny (model prog w) A (compareOp .LtE (.bool a) (.bool b)) Q E s := by
  show wpAny _ _ (richCompare .LtE (.bool a) (.bool b)) _ _ _
  exact wpAny_richCompare_same_or (T := "bool") rfl rfl F.slot_bool_le (call_gives F.slot_bool_le rfl F.entry_int_le (F.args_int_le_2 _ _) (cn_le_bb a b) ⟨nofun, h⟩) (.inl rfl)
theorem cw_gt_bi {prog : Program} {w : World} {A : Around} {E : Value → Shared → Prop} {s : Shared} {Q : Value → Shared → Prop} {a : Bool} {b : Int} {u : Tok} (h : Q (.bool (decide (bi a > b))) s) : wpAny (model prog w) A (compareOp .Gt (.bool a) (.int b u)) Q E s := by
  show wpAny _ _ (richCompare .Gt (.bool a) (.int b u)) _ _ _
  exact rc_left_or (s := s) rfl (typeIs_int s b u) (by decide) F.sub_int_bool F.slot_bool_gt (call_gives F.slot_bool_gt rfl F.entry_int_gt (F.args_int_gt_2 _ _) (cn_gt_bi a b u) ⟨nofun, h⟩) (.inl rfl)
theorem cw_gt_ib {prog : Program} {w : World} {A : Around} {E : Value → Shared → Prop} {s : Shared} {Q : Value → Shared → Prop} {a : Int} {t : Tok} {b : Bool} (h : Q (.bool (decide (a > bi b))) s) : wpAny (model prog w) A (compareOp .Gt (.int a t) (.bool b)) Q E s := by
  show wpAny _ _ (richCompare .Gt (.int a t) (.bool b)) _ _ _
  exact rc_sub_first_or (s := s) (typeIs_int s a t) rfl (by decide) F.sub_bool_int F.slot_bool_lt_refl (call_gives F.slot_bool_lt_refl rfl F.entry_int_lt (F.args_int_lt_2 _ _) (cn_lt_bi b a t) ⟨nofun, h⟩) (.inl rfl)
theorem cw_gt_bb {prog : Program} {w : World} {A : Around} {E : Value → Shared → Prop} {s : Shared} {Q : Value → Shared → Prop} {a b : Bool} (h : Q (.bool (decide (bi a > bi b))) s) : wpAny (model prog w) A (compareOp .Gt (.bool a) (.bool b)) Q E s := by
  show wpAny _ _ (richCompare .Gt (.bool a) (.bool b)) _ _ _
  exact wpAny_richCompare_same_or (T := "bool") rfl rfl F.slot_bool_gt (call_gives F.slot_bool_gt rfl F.entry_int_gt (F.args_int_gt_2 _ _) (cn_gt_bb a b) ⟨nofun, h⟩) (.inl rfl)
theorem cw_ge_bi {prog : Program} {w : World} {A : Around} {E : Value → Shared → Prop} {s : Shared} {Q : Value → Shared → Prop} {a : Bool} {b : Int} {u : Tok} (h : Q (.bool (decide (bi a ≥ b))) s) : wpAny (model prog w) A (compareOp .GtE (.bool a) (.int b u)) Q E s := by
  show wpAny _ _ (richCompare .GtE (.bool a) (.int b u)) _ _ _
  exact rc_left_or (s := s) rfl (typeIs_int s b u) (by decide) F.sub_int_bool F.slot_bool_ge (call_gives F.slot_bool_ge rfl F.entry_int_ge (F.args_int_ge_2 _ _) (cn_ge_bi a b u) ⟨nofun, h⟩) (.inl rfl)
theorem cw_ge_ib {prog : Program} {w : World} {A : Around} {E : Value → Shared → Prop} {s : Shared} {Q : Value → Shared → Prop} {a : Int} {t : Tok} {b : Bool} (h : Q (.bool (decide (a ≥ bi b))) s) : wpAny (model prog w) A (compareOp .GtE (.int a t) (.bool b)) Q E s := by
  show wpAny _ _ (richCompare .GtE (.int a t) (.bool b)) _ _ _
  exact rc_sub_first_or (s := s) (typeIs_int s a t) rfl (by decide) F.sub_bool_int F.slot_bool_le_refl (call_gives F.slot_bool_le_refl rfl F.entry_int_le (F.args_int_le_2 _ _) (cn_le_bi b a t) ⟨nofun, h⟩) (.inl rfl)
theorem cw_ge_bb {prog : Program} {w : World} {A : Around} {E : Value → Shared → Prop} {s : Shared} {Q : Value → Shared → Prop} {a b : Bool} (h : Q (.bool (decide (bi a ≥ bi b))) s) : wpAny (model prog w) A (compareOp .GtE (.bool a) (.bool b)) Q E s := by
  show wpAny _ _ (richCompare .GtE (.bool a) (.bool b)) _ _ _
  exact wpAny_richCompare_same_or (T := "bool") rfl rfl F.slot_bool_ge (call_gives F.slot_bool_ge rfl F.entry_int_ge (F.args_int_ge_2 _ _) (cn_ge_bb a b) ⟨nofun, h⟩) (.inl rfl)
end
/-- two numbers, or two texts: p tells that the first is less, q that the second is -/
def OrdX (x y : V) (p q : Bool) : Prop := (∃ i j, NumI x i ∧ NumI y j ∧ p = decide (i < j) ∧ q = decide (j < i)) ∨ ∃ i j : Str, x = .str i ∧ y = .str j ∧ p = decide (i.cps.toList < j.cps.toList) ∧ q = decide (j.cps.toList < i.cps.toList)
theorem op_ltX {X : Cx} : OpR X (compareOp .Lt) (fun x y H Q => ∃ p q, OrdX x y p q ∧ Q (.bl p) H) := by
  intro pins s σ H x y v u Q I rx ry ⟨p, q, h, k⟩
  rcases h with ⟨i, j, hx, hy, rfl, rfl⟩ | ⟨i, j, rfl, rfl, rfl, rfl⟩
  · have e : decide (i < j) = decide (i < j) := rfl
    rw [← e] at k
    rcases hx with rfl | ⟨a, rfl, rfl⟩ <;> rcases hy with rfl | ⟨b, rfl, rfl⟩
    · obtain ⟨t, rfl⟩ := rx
      obtain ⟨t', rfl⟩ := ry
      exact lt_int (fin_bl I k rfl)
    · obtain ⟨t, rfl⟩ := rx
      cases ry
      exact cw_lt_ib (fin_bl I k rfl)
    · obtain ⟨t', rfl⟩ := ry
      cases rx
      exact cw_lt_bi (fin_bl I k rfl)
    · cases rx
      cases ry
      exact cw_lt_bb (fin_bl I k rfl)
  · exact op_lt_str pins s σ H _ _ v u Q I rx ry ⟨i, j, rfl, rfl, k⟩
theorem op_leX {X : Cx} : OpR X (compareOp .LtE) (fun x y H Q => ∃ p q, OrdX x y p q ∧ Q (.bl (!q)) H) := by
  intro pins s σ H x y v u Q I rx ry ⟨p, q, h, k⟩
  rcases h with ⟨i, j, hx, hy, rfl, rfl⟩ | ⟨i, j, rfl, rfl, rfl, rfl⟩
  · have e : decide (i ≤ j) = (!decide (j < i)) := by rw [← decide_not]; exact decide_eq_decide.mpr (by omega)
    rw [← e] at k
    rcases hx with rfl | ⟨a, rfl, rfl⟩ <;> rcases hy with rfl | ⟨b, rfl, rfl⟩
    · obtain ⟨t, rfl⟩ := rx
      obtain ⟨t', rfl⟩ := ry
      exact le_int (fin_bl I k rfl)
    · obtain ⟨t, rfl⟩ := rx
      cases ry
      exact cw_le_ib (fin_bl I k rfl)
    · obtain ⟨t', rfl⟩ := ry
      cases rx
      exact cw_le_bi (fin_bl I k rfl)
    · cases rx
      cases ry
      exact cw_le_bb (fin_bl I k rfl)
  · exact op_le_str pins s σ H _ _ v u Q I rx ry ⟨i, j, rfl, rfl, k⟩
theorem op_gtX {X : Cx} : OpR X (compareOp .Gt) (fun x y H Q => ∃ p q, OrdX x y p q ∧ Q (.bl q) H) := by
  intro pins s σ H x y v u Q I rx ry ⟨p, q, h, k⟩
  rcases h with ⟨i, j, hx, hy, rfl, rfl⟩ | ⟨i, j, rfl, rfl, rfl, rfl⟩
  · have e : decide (i > j) = decide (j < i) := rfl
    rw [← e] at k
    rcases hx with rfl | ⟨a, rfl, rfl⟩ <;> rcases hy with rfl | ⟨b, rfl, rfl⟩
    · obtain ⟨t, rfl⟩ := rx
      obtain ⟨t', rfl⟩ := ry
      exact gt_int (fin_bl I k rfl)
    · obtain ⟨t, rfl⟩ := rx
      cases ry
      exact cw_gt_ib (fin_bl I k rfl)
    · obtain ⟨t', rfl⟩ := ry
      cases rx
      exact cw_gt_bi (fin_bl I k rfl)
    · cases rx
      cases ry
      exact cw_gt_bb (fin_bl I k rfl)
  · exact op_gt_str pins s σ H _ _ v u Q I rx ry ⟨i, j, rfl, rfl, k⟩
theorem op_geX {X : Cx} : OpR X (compareOp .GtE) (fun x y H Q => ∃ p q, OrdX x y p q ∧ Q (.bl (!p)) H) := by
  intro pins s σ H x y v u Q I rx ry ⟨p, q, h, k⟩
  rcases h with ⟨i, j, hx, hy, rfl, rfl⟩ | ⟨i, j, rfl, rfl, rfl, rfl⟩
  · have e : decide (i ≥ j) = (!decide (i < j)) := by rw [← decide_not]; exact decide_eq_decide.mpr (by omega)
    rw [← e] at k
    rcases hx with rfl | ⟨a, rfl, rfl⟩ <;> rcases hy with rfl | ⟨b, rfl, rfl⟩
    · obtain ⟨t, rfl⟩ := rx
      obtain ⟨t', rfl⟩ := ry
      exact ge_int (fin_bl I k rfl)
    · obtain ⟨t, rfl⟩ := rx
      cases ry
      exact cw_ge_ib (fin_bl I k rfl)
    · obtain ⟨t', rfl⟩ := ry
      cases rx
      exact cw_ge_bi (fin_bl I k rfl)
    · cases rx
      cases ry
      exact cw_ge_bb (fin_bl I k rfl)
  · exact op_ge_str pins s σ H _ _ v u Q I rx ry ⟨i, j, rfl, rfl, k⟩
end LK

set_option Elab.async false
set_option linter.all false
set_option maxRecDepth 100000
set_option maxHeartbeats 4000000
/-! enumerate(zip(x, y)) of two lists: the pair that zip gave out is held by enumerate's, so zip's next step is taken from a zip that has given out nothing, or that still knows what it gave out, dead or alive -/
namespace LK
open PySem PySem.Spec PyProof.Rows L2
open Sem (wp)
section
variable {prog : Program} {w : World} {A : Around} {E : Value → Shared → Prop} {s : Shared} {z TI TO i1 i2 l1 l2 : Addr}
abbrev IsZ (h : Heap) (z TI TO : Addr) (f0 : Value) (f : Bool) : Prop := h.get? z = some { cls := .type "zip", dict := none, data := .fields #[f0, .bool f, .bool false, .ref TI, .ref TO], slots := #[] }
def ZAny (h : Heap) (z TI TO : Addr) : Prop := ∃ f0 f, IsZ h z TI TO f0 f ∧ (f0 = .none ∨ ∃ T : Addr, f0 = rawInt T)
def ZFree (h : Heap) (f0 : Value) : Prop := f0 = .none ∨ ∃ T : Addr, f0 = rawInt T ∧ h.get? T = none
theorem z_free {f0 : Value} {f : Bool} {Q : Bool → Shared → Prop} (hz : IsZ s.heap z TI TO f0 f) (hf : ZFree s.heap f0) (h : Q true s) : wpAny (model prog w) A (Builtin.SmallTypes.ownedTupleIsFree (.ref z)) Q E s := by
  unfold Builtin.SmallTypes.ownedTupleIsFree
  rcases hf with rfl | ⟨T, rfl, hT⟩
  · exact wpAny_bind (wpAny_field hz rfl (x := .none) rfl (wpAny_pure h))
  · refine wpAny_bind (wpAny_field hz rfl (x := rawInt T) rfl ?_)
    show wpAny _ _ (loadIfAlive ((T : Int).toNat) >>= _) _ _ _
    rw [Int.toNat_natCast]
    refine wpAny_bind ?_
    have dead : ∀ {R : Option Obj → Shared → Prop}, R none s → wpAny (model prog w) A (loadIfAlive T) R E s := fun {R} h => by
      have h' : R (s.heap.get? T) s := by rw [hT]; exact h
      exact fun _ _ _ => h'
    refine dead ?_
    simp only [Option.isNone_none, if_true]
    exact wpAny_pure h
/-- the next pair of a zip whose own tuple is free -/
theorem zf_item {f0 : Value} {f : Bool} {k1 k2 : Nat} {xs ys : Array Value} {x y a b : Value} {Q : Value → Shared → Prop} (D : ZipApart z TI TO i1 i2 l1 l2)
    (hz : IsZ s.heap z TI TO f0 f) (hf : ZFree s.heap f0) (hTI : IsPair s.heap TI (.ref i1) (.ref i2)) (hTO : IsPair s.heap TO a b)
    (h1 : s.heap.IsListIter i1 l1 k1) (h2 : s.heap.IsListIter i2 l2 k2) (hl1 : s.heap.IsList l1 xs) (hl2 : s.heap.IsList l2 ys) (hx : xs[k1]? = some x) (hy : ys[k2]? = some y)
    (hQ : ∀ h', IsZ h' z TI TO (rawInt s.heap.objs.size) false → IsPair h' TO x y → h'.IsListIter i1 l1 (k1 + 1) → h'.IsListIter i2 l2 (k2 + 1) → IsPair h' s.heap.objs.size x y → h'.objs.size = s.heap.objs.size + 1 →
      (∀ c o, c ≠ z → c ≠ TO → c ≠ i1 → c ≠ i2 → s.heap.get? c = some o → h'.get? c = some o) → Q (.ref s.heap.objs.size) { s with heap := h' }) :
    wpAny (model prog w) A (Builtin.«zip.__next__» ⟨[.ref z], []⟩) (fun fin s' => ∃ v, fin = .done (.ret v) ∧ Q v s') E s := by
  show wpAny _ _ (field (.ref z) 2 >>= _) _ _ _
  refine wpAny_bind (wpAny_field hz rfl (x := .bool false) rfl ?_)
  show wpAny _ _ (field (.ref z) 3 >>= _) _ _ _
  refine wpAny_bind (wpAny_field hz rfl (x := .ref TI) rfl ?_)
  refine wpAny_bind (wpAny_seqItems hTI rfl ?_)
  show wpAny _ _ (Builtin.SmallTypes.ownedTupleIsFree (.ref z) >>= _) _ _ _
  refine wpAny_bind (z_free hz hf ?_)
  simp only [if_true]
  refine wpAny_bind (wpAny_rule ?_)
  refine wpAny_bind (wpAny_field hz rfl (x := .ref TO) rfl ?_)
  refine wpAny_bind (wpAny_setField_rec hz (by simp) fun p1 z1 e1 => ?_)
  replace z1 : IsZ p1 z TI TO .ellipsis f := z1
  refine wpAny_bind ?_
  simp only [List.zipIdx_cons, List.zipIdx_nil, List.forIn_cons, List.forIn_nil]
  refine wpAny_bind (wpAny_bind (wpAny_onRaise ?_))
  show wpAny _ _ (Builtin.SmallTypes.nextOf (.ref i1) >>= _) _ _ _
  refine wpAny_bind (wpAny_nextOf_list_item (h1.extBut e1.extBut D.i1z) (hl1.extBut e1.extBut D.l1z) hx fun p2 q1 e2 => wpAny_pure ?_)
  have t2 : IsPair p2 TO a b := e2.extBut _ _ D.TOi1 (e1.extBut _ _ D.TOz hTO)
  refine wpAny_bind (wpAny_seqItems t2 rfl ?_)
  refine wpAny_bind (wpAny_updateSeq_pair t2 fun p3 t3 e3 => ?_)
  replace t3 : IsPair p3 TO x b := t3
  refine wpAny_bind (wpAny_letGo (wpAny_pure ?_))
  refine wpAny_bind (wpAny_bind (wpAny_onRaise ?_))
  show wpAny _ _ (Builtin.SmallTypes.nextOf (.ref i2) >>= _) _ _ _
  have g2 := ((h2.extBut e1.extBut D.i2z).extBut e2.extBut D.i12.symm).extBut e3.extBut D.TOi2.symm
  have m2 := ((hl2.extBut e1.extBut D.l2z).extBut e2.extBut D.l2i1).extBut e3.extBut D.l2TO
  refine wpAny_bind (wpAny_nextOf_list_item g2 m2 hy fun p4 q2 e4 => wpAny_pure ?_)
  have t4 : IsPair p4 TO x b := e4.extBut _ _ D.TOi2 t3
  refine wpAny_bind (wpAny_seqItems t4 rfl ?_)
  refine wpAny_bind (wpAny_updateSeq_pair t4 fun p5 t5 e5 => ?_)
  replace t5 : IsPair p5 TO x y := t5
  refine wpAny_bind (wpAny_letGo (wpAny_pure (wpAny_pure ?_)))
  refine wpAny_bind (wpAny_seqItems t5 rfl ?_)
  refine wpAny_bind (wpAny_newTuple ?_)
  have hsz : p5.objs.size = s.heap.objs.size := by rw [e5.1, e4.1, e3.1, e2.1, e1.1]
  have z5 : IsZ p5 z TI TO .ellipsis f := e5.extBut _ _ D.TOz.symm (e4.extBut _ _ D.i2z.symm (e3.extBut _ _ D.TOz.symm (e2.extBut _ _ D.i1z.symm z1)))
  have k5 : ∀ c o, c ≠ z → c ≠ TO → c ≠ i1 → c ≠ i2 → s.heap.get? c = some o → p5.get? c = some o := fun c o c1 c2 c3 c4 q => e5.extBut _ _ c2 (e4.extBut _ _ c4 (e3.extBut _ _ c2 (e2.extBut _ _ c3 (e1.extBut _ _ c1 q))))
  have a1 : p5.IsListIter i1 l1 (k1 + 1) := ((q1.extBut e3.extBut D.TOi1.symm).extBut e4.extBut D.i12).extBut e5.extBut D.TOi1.symm
  have a2 : p5.IsListIter i2 l2 (k2 + 1) := q2.extBut e5.extBut D.TOi2.symm
  have hzl : z < p5.objs.size := Heap.lt_size z5
  show wpAny _ _ (Builtin.SmallTypes.ownedTupleHandOut (.ref z) (.ref p5.objs.size) >>= _) _ _ _
  refine wpAny_bind ?_
  unfold Builtin.SmallTypes.ownedTupleHandOut
  have z6 : IsZ (p5.push { cls := .type "tuple", data := .seq #[x, y] }) z TI TO .ellipsis f := Heap.get?_push_of_some _ z5
  refine wpAny_bind (wpAny_setField_rec z6 (by simp) fun p7 z7 e7 => ?_)
  replace z7 : IsZ p7 z TI TO (rawInt p5.objs.size) f := z7
  refine wpAny_setField_rec z7 (by simp) fun p8 z8 e8 => ?_
  replace z8 : IsZ p8 z TI TO (rawInt p5.objs.size) false := z8
  have up : ∀ c o, c ≠ z → p5.get? c = some o → p8.get? c = some o := fun c o c1 q => e8.extBut _ _ c1 (e7.extBut _ _ c1 (Heap.get?_push_of_some _ q))
  have t8 : IsPair p8 p5.objs.size x y := e8.extBut _ _ (Nat.ne_of_gt hzl) (e7.extBut _ _ (Nat.ne_of_gt hzl) (Heap.get?_push_size _ rfl))
  have s8 : p8.objs.size = p5.objs.size + 1 := by rw [e8.1, e7.1, Heap.size_push]
  rw [hsz] at z8 t8 s8
  refine wpAny_pure ⟨_, rfl, ?_⟩
  show Q (.ref p5.objs.size) _
  rw [hsz]
  exact hQ p8 z8 (up _ _ D.TOz t5) (a1.at fun o q => up _ o D.i1z q) (a2.at fun o q => up _ o D.i2z q) t8 s8 fun c o c1 c2 c3 c4 q => up c o c1 (k5 c o c1 c2 c3 c4 q)
/-- the first list is at its end -/
theorem zf_end {f0 : Value} {f : Bool} {k1 : Nat} {xs : Array Value} {Q : Fin → Shared → Prop} (hh : A.handled = none) (D : ZipApart z TI TO i1 i2 l1 l2)
    (hz : IsZ s.heap z TI TO f0 f) (hf : ZFree s.heap f0) (hTI : IsPair s.heap TI (.ref i1) (.ref i2))
    (h1 : s.heap.IsListIter i1 l1 k1) (hl1 : s.heap.IsList l1 xs) (hx : xs[k1]? = none)
    (hE : ∀ h' e, (∀ c o, c ≠ z → c ≠ i1 → s.heap.get? c = some o → h'.get? c = some o) → (∃ o, h'.get? e = some o ∧ o.cls = .type "StopIteration") → E (.ref e) { s with heap := h' }) :
    wpAny (model prog w) A (Builtin.«zip.__next__» ⟨[.ref z], []⟩) Q E s := by
  show wpAny _ _ (field (.ref z) 2 >>= _) _ _ _
  refine wpAny_bind (wpAny_field hz rfl (x := .bool false) rfl ?_)
  show wpAny _ _ (field (.ref z) 3 >>= _) _ _ _
  refine wpAny_bind (wpAny_field hz rfl (x := .ref TI) rfl ?_)
  refine wpAny_bind (wpAny_seqItems hTI rfl ?_)
  show wpAny _ _ (Builtin.SmallTypes.ownedTupleIsFree (.ref z) >>= _) _ _ _
  refine wpAny_bind (z_free hz hf ?_)
  simp only [if_true]
  refine wpAny_bind (wpAny_rule ?_)
  refine wpAny_bind (wpAny_field hz rfl (x := .ref TO) rfl ?_)
  refine wpAny_bind (wpAny_setField_rec hz (by simp) fun p1 z1 e1 => ?_)
  replace z1 : IsZ p1 z TI TO .ellipsis f := z1
  refine wpAny_bind ?_
  simp only [List.zipIdx_cons, List.zipIdx_nil, List.forIn_cons, List.forIn_nil]
  refine wpAny_bind (wpAny_bind (wpAny_onRaise ?_))
  show wpAny _ _ (Builtin.SmallTypes.nextOf (.ref i1) >>= _) _ _ _
  refine wpAny_bind (wpAny_nextOf_list_end hh (h1.extBut e1.extBut D.i1z) (hl1.extBut e1.extBut D.l1z) hx fun p2 e e2 he => ?_)
  obtain ⟨oe, hoe, hce⟩ := he
  have z2 : IsZ p2 z TI TO .ellipsis f := e2 _ _ D.i1z.symm z1
  have hez : e ≠ z := fun q => by subst q; rw [z2] at hoe; cases hoe; simp at hce
  exact wpAny_setField_rec z2 (by simp) fun p3 _ e3 => hE p3 e (fun c o c1 c3 q => e3.extBut _ _ c1 (e2 _ _ c3 (e1.extBut _ _ c1 q))) ⟨oe, e3.extBut _ _ hez hoe, hce⟩
theorem ZAny.split {h : Heap} (H : ZAny h z TI TO) : (∃ f0 f, IsZ h z TI TO f0 f ∧ ZFree h f0) ∨ ∃ (T : Addr) (f : Bool) (o : Obj), IsZipHeld h z TI TO T f ∧ h.get? T = some o := by
  obtain ⟨f0, f, hz, rfl | ⟨T, rfl⟩⟩ := H
  · exact .inl ⟨_, f, hz, .inl rfl⟩
  · cases e : h.get? T with
    | none => exact .inl ⟨_, f, hz, .inr ⟨T, rfl, e⟩⟩
    | some o => exact .inr ⟨T, f, o, hz, e⟩
theorem za_next {k1 k2 : Nat} {xs ys : Array Value} {x y a b : Value} {Q : Value → Shared → Prop} (D : ZipApart z TI TO i1 i2 l1 l2)
    (hz : ZAny s.heap z TI TO) (hTI : IsPair s.heap TI (.ref i1) (.ref i2)) (hTO : IsPair s.heap TO a b)
    (h1 : s.heap.IsListIter i1 l1 k1) (h2 : s.heap.IsListIter i2 l2 k2) (hl1 : s.heap.IsList l1 xs) (hl2 : s.heap.IsList l2 ys) (hx : xs[k1]? = some x) (hy : ys[k2]? = some y)
    (hQ : ∀ h', ZAny h' z TI TO → (∃ a b, IsPair h' TO a b) → h'.IsListIter i1 l1 (k1 + 1) → h'.IsListIter i2 l2 (k2 + 1) → IsPair h' s.heap.objs.size x y → h'.objs.size = s.heap.objs.size + 1 →
      (∀ c o, c ≠ z → c ≠ TO → c ≠ i1 → c ≠ i2 → s.heap.get? c = some o → h'.get? c = some o) → Q (.ref s.heap.objs.size) { s with heap := h' }) :
    wpAny (model prog w) A (Builtin.SmallTypes.nextOf (.ref z)) Q E s := by
  have hTy : s.TypeIs (.ref z) "zip" := by obtain ⟨_, _, h, _⟩ := hz; exact ⟨_, h, rfl⟩
  unfold Builtin.SmallTypes.nextOf
  refine wpAny_bind (wpAny_callSpecial?_slot (name := Str.ofString "__next__") hTy F.slot_zip_next (wpAny_call_entry F.slot_zip_next hTy F.entry_zip_next ?_ (F.args_zip_next_1 _)))
  rcases hz.split with ⟨f0, f, hz, hf⟩ | ⟨T, f, o, hz, hT⟩
  · exact zf_item D hz hf hTI hTO h1 h2 hl1 hl2 hx hy fun h' a1 a2 a3 a4 a5 a6 a7 => wpAny_pure (hQ h' ⟨_, _, a1, .inr ⟨_, rfl⟩⟩ ⟨_, _, a2⟩ a3 a4 a5 a6 a7)
  · exact zip_next_item_held D hz hT hTI h1 h2 hl1 hl2 hx hy fun h' a1 a3 a4 a5 a6 a7 => wpAny_pure (hQ h' ⟨_, _, a1, .inr ⟨_, rfl⟩⟩ ⟨_, _, a7 _ _ D.TOz D.TOi1 D.TOi2 hTO⟩ a3 a4 a5 a6 fun c o c1 _ c3 c4 q => a7 c o c1 c3 c4 q)
theorem za_end {k1 k2 : Nat} {xs ys : Array Value} {Q : Value → Shared → Prop} (hh : A.handled = none) (D : ZipApart z TI TO i1 i2 l1 l2)
    (hz : ZAny s.heap z TI TO) (hTI : IsPair s.heap TI (.ref i1) (.ref i2)) (h1 : s.heap.IsListIter i1 l1 k1) (h2 : s.heap.IsListIter i2 l2 k2) (hl1 : s.heap.IsList l1 xs) (hl2 : s.heap.IsList l2 ys) (hx : xs[k1]? = none)
    (hE : ∀ h' e, (∀ c o, c ≠ z → c ≠ i1 → c ≠ i2 → s.heap.get? c = some o → h'.get? c = some o) → (∃ o, h'.get? e = some o ∧ o.cls = .type "StopIteration") → E (.ref e) { s with heap := h' }) :
    wpAny (model prog w) A (Builtin.SmallTypes.nextOf (.ref z)) Q E s := by
  have hTy : s.TypeIs (.ref z) "zip" := by obtain ⟨_, _, h, _⟩ := hz; exact ⟨_, h, rfl⟩
  unfold Builtin.SmallTypes.nextOf
  refine wpAny_bind (wpAny_callSpecial?_slot (name := Str.ofString "__next__") hTy F.slot_zip_next (wpAny_call_entry F.slot_zip_next hTy F.entry_zip_next ?_ (F.args_zip_next_1 _)))
  rcases hz.split with ⟨f0, f, hz, hf⟩ | ⟨T, f, o, hz, hT⟩
  · exact zf_end hh D hz hf hTI h1 hl1 hx fun h' e a1 a2 => hE h' e (fun c o c1 c2 _ q => a1 c o c1 c2 q) a2
  · exact zip_next_end_held hh D hz hT hTI h1 h2 hl1 hl2 (.inl hx) fun h' e a1 a2 => hE h' e a1 a2
/-- enumerate's next step over such a zip -/
theorem ez_next {e : Addr} {i : Int} {old : Value} {k1 k2 : Nat} {xs ys : Array Value} {x y a b : Value} {Q : Value → Shared → Prop} (D : ZipApart z TI TO i1 i2 l1 l2) (ez : e ≠ z) (eO : e ≠ TO) (e1 : e ≠ i1) (e2 : e ≠ i2)
    (he : IsEnum s.heap e z i old) (hz : ZAny s.heap z TI TO) (hTI : IsPair s.heap TI (.ref i1) (.ref i2)) (hTO : IsPair s.heap TO a b)
    (h1 : s.heap.IsListIter i1 l1 k1) (h2 : s.heap.IsListIter i2 l2 k2) (hl1 : s.heap.IsList l1 xs) (hl2 : s.heap.IsList l2 ys) (hx : xs[k1]? = some x) (hy : ys[k2]? = some y)
    (hQ : ∀ p1 h' tk, ZAny p1 z TI TO → (∃ a b, IsPair p1 TO a b) → p1.IsListIter i1 l1 (k1 + 1) → p1.IsListIter i2 l2 (k2 + 1) → IsPair p1 s.heap.objs.size x y → p1.objs.size = s.heap.objs.size + 1 →
      (∀ c o, c ≠ z → c ≠ TO → c ≠ i1 → c ≠ i2 → s.heap.get? c = some o → p1.get? c = some o) →
      IsEnumOut h' e z (i + 1) (.ref s.heap.objs.size) p1.objs.size → h'.get? p1.objs.size = some { cls := .type "tuple", data := .seq #[.int i tk, .ref s.heap.objs.size] } →
      (∀ c o, c ≠ e → p1.get? c = some o → h'.get? c = some o) → Q (.ref p1.objs.size) { s with heap := h', toks := tk + 1 }) :
    wpAny (model prog w) A (Builtin.«enumerate.__next__» ⟨[.ref e], []⟩) (fun fin s' => ∃ v, fin = .done (.ret v) ∧ Q v s') E s := by
  obtain ⟨hp, g, d, tk, os⟩ := s
  show wpAny _ _ (field (.ref e) 2 >>= _) _ _ _
  refine wpAny_bind (wpAny_field he rfl (x := .ref z) rfl ?_)
  refine wpAny_bind (za_next D hz hTI hTO h1 h2 hl1 hl2 hx hy fun p1 y1 y2 y3 y4 y5 y6 y7 => ?_)
  replace y5 : IsPair p1 hp.objs.size x y := y5
  replace y6 : p1.objs.size = hp.objs.size + 1 := y6
  replace y7 : ∀ c o, c ≠ z → c ≠ TO → c ≠ i1 → c ≠ i2 → hp.get? c = some o → p1.get? c = some o := y7
  have g1 : IsEnum p1 e z i old := y7 _ _ ez eO e1 e2 he
  show wpAny _ _ (field (.ref e) 3 >>= _) _ _ ⟨p1, g, d, tk, os⟩
  refine wpAny_bind (wpAny_field g1 rfl (x := rawInt i) rfl ?_)
  show wpAny _ _ (field (.ref e) 4 >>= _) _ _ ⟨p1, g, d, tk, os⟩
  refine wpAny_bind (wpAny_field g1 rfl (x := .none) rfl ?_)
  show wpAny _ _ (mkInt i >>= _) _ _ ⟨p1, g, d, tk, os⟩
  refine wpAny_bind (wpAny_mkInt ?_)
  show wpAny _ _ (setField (.ref e) 3 (rawInt (i + 1)) >>= _) _ _ ⟨p1, g, d, tk + 1, os⟩
  refine wpAny_bind (wpAny_setField_rec g1 (by simp) fun p2 g2 u2 => ?_)
  replace u2 : Heap.SameBut e p1 p2 := u2
  replace g2 : IsEnum p2 e z (i + 1) old := g2
  show wpAny _ _ (setField (.ref e) 4 .none >>= _) _ _ ⟨p2, g, d, tk + 1, os⟩
  refine wpAny_bind (wpAny_setField_rec g2 (by simp) fun p3 g3 u3 => ?_)
  replace u3 : Heap.SameBut e p2 p3 := u3
  replace g3 : IsEnum p3 e z (i + 1) old := g3
  show wpAny _ _ (newTuple [.int i tk, .ref hp.objs.size] >>= _) _ _ ⟨p3, g, d, tk + 1, os⟩
  refine wpAny_bind (wpAny_newTuple ?_)
  have hsz : p3.objs.size = p1.objs.size := by rw [u3.1, u2.1]
  have g4 : IsEnum (p3.push { cls := .type "tuple", data := .seq #[.int i tk, .ref hp.objs.size] }) e z (i + 1) old := Heap.get?_push_of_some _ g3
  have t4 : (p3.push { cls := .type "tuple", data := .seq #[.int i tk, .ref hp.objs.size] }).get? p1.objs.size = some { cls := .type "tuple", data := .seq #[.int i tk, .ref hp.objs.size] } := by rw [← hsz]; exact Heap.get?_push_size _ rfl
  have k4 : ∀ c o, c ≠ e → p1.get? c = some o → (p3.push { cls := .type "tuple", data := .seq #[.int i tk, .ref hp.objs.size] }).get? c = some o := fun c o hc q => Heap.get?_push_of_some _ (u3.extBut c o hc (u2.extBut c o hc q))
  have hel : e < p1.objs.size := Heap.lt_size g1
  show wpAny _ _ (Builtin.SmallTypes.ownedTupleIsFree (.ref e) >>= _) _ _ ⟨p3.push { cls := .type "tuple", data := .seq #[.int i tk, .ref hp.objs.size] }, g, d, tk + 1, os⟩
  rw [hsz]
  generalize p3.push { cls := .type "tuple", data := .seq #[.int i tk, .ref hp.objs.size] } = p4 at g4 t4 k4
  refine wpAny_bind ?_
  unfold Builtin.SmallTypes.ownedTupleIsFree
  refine wpAny_bind (wpAny_field g4 rfl (x := .none) rfl (wpAny_pure ?_))
  simp only [if_true]
  refine wpAny_bind (wpAny_rule ?_)
  refine wpAny_bind (wpAny_field g4 rfl (x := old) rfl ?_)
  refine wpAny_bind (wpAny_setField_rec g4 (by simp) fun p5 g5 u5 => ?_)
  replace u5 : Heap.SameBut e p4 p5 := u5
  replace g5 : IsEnum p5 e z (i + 1) (.ref hp.objs.size) := g5
  show wpAny _ _ (Builtin.SmallTypes.ownedTupleHandOut (.ref e) (.ref p1.objs.size) >>= _) _ _ ⟨p5, g, d, tk + 1, os⟩
  refine wpAny_bind ?_
  unfold Builtin.SmallTypes.ownedTupleHandOut
  refine wpAny_bind (wpAny_setField_rec g5 (by simp) fun p6 g6 u6 => ?_)
  replace u6 : Heap.SameBut e p5 p6 := u6
  replace g6 : IsEnumOut p6 e z (i + 1) (.ref hp.objs.size) p1.objs.size := g6
  refine wpAny_setField_rec g6 (by simp) fun p7 g7 u7 => ?_
  replace u7 : Heap.SameBut e p6 p7 := u7
  replace g7 : IsEnumOut p7 e z (i + 1) (.ref hp.objs.size) p1.objs.size := g7
  have k7 : ∀ c o, c ≠ e → p4.get? c = some o → p7.get? c = some o := fun c o hc q => u7.extBut c o hc (u6.extBut c o hc (u5.extBut c o hc q))
  exact wpAny_bind (wpAny_letGo (wpAny_pure ⟨_, rfl, hQ p1 p7 tk y1 y2 y3 y4 y5 y6 y7 g7 (k7 _ _ (Nat.ne_of_gt hel) t4) fun c o hc q => k7 c o hc (k4 c o hc q)⟩))
end
open AutoSeq1 (wpAny_loadPart')
theorem meets_enumZ (z TI TO : Addr) :
    Meets (Builtin.«enumerate.__new__» ⟨[.type "enumerate", .ref z], []⟩) (fun _ R s => IsZip s.heap z TI TO .none ∧ R (.ok (.ret (.ref s.heap.objs.size))) { s with heap := s.heap.push (enumObj z) }) :=
  .of_wp fun prog w A R s h => by
    obtain ⟨hp, g, d, tk, os⟩ := s
    obtain ⟨hl, h⟩ := h
    have hsub := sub_enumerate
    have hz : IsZip (Shared.heap ⟨hp, g, d, tk, os⟩) z TI TO .none := hl
    wp_walk using wpAny_loadPart' hl
    refine wpAny_stack_any fun st => wpAny_pure ?_
    split
    · rename_i c _ _ _ _ _
      cases (c == Value.type "enumerate") <;> (wp_walk using wpAny_loadPart' hl, wpAny_pyIter_zip hz; exact ⟨_, rfl, h⟩)
    · wp_walk using wpAny_loadPart' hl, wpAny_pyIter_zip hz
      exact ⟨_, rfl, h⟩
section
variable {prog : Program} {w : World} {A : Around} {E : Value → Shared → Prop} {s : Shared} {z TI TO i1 i2 l1 l2 : Addr}
theorem call_enumZ {Q : Value → Shared → Prop} (hz : IsZip s.heap z TI TO .none)
    (h : ∀ h', IsEnum h' s.heap.objs.size z 0 .none → (∀ b o, s.heap.get? b = some o → h'.get? b = some o) → Q (.ref s.heap.objs.size) { s with heap := h' }) :
    wpAny (model prog w) A (call (.type "enumerate") [.ref z]) Q E s := by
  refine callType_new F.called_enumerate (by decide) (F.typeCall_enumerate_1 _) (F.newCall_enumerate_1 _) (fun obj => F.args_object_init_2 obj _) F.entry_enumerate_new (meets_enumZ z TI TO) ⟨hz, ?_⟩
  have he : IsEnum (s.heap.push (enumObj z)) s.heap.objs.size z 0 .none := Heap.get?_push_size _ rfl
  exact ⟨⟨_, he, rfl⟩, h _ he fun b o x => Heap.get?_push_of_some _ x⟩
end
/-- the lists at a and b as they stand at each turn, the items in a new pair, that in a new pair with its place -/
def ItzE (K : PySem.W.Frag) (a b : Addr) : It where
  go := fun i H => ∃ (xs ys : List V) (x y : V), SqL K H a xs ∧ SqL K H b ys ∧ xs[i]? = some x ∧ ys[i]? = some y
  yld := fun i H v H' => ∃ T U x y, v = .ref U ∧ H T = none ∧ H U = none ∧ T ≠ U ∧ H' = upd (upd H T (.tup [x, y])) U (.tup [.int (i : Nat), .ref T]) ∧ (∀ xs, SqL K H a xs → xs[i]? = some x) ∧ ∀ ys, SqL K H b ys → ys[i]? = some y
  stop := fun i H => ∃ xs ys : List V, SqL K H a xs ∧ SqL K H b ys ∧ xs.length ≤ i
theorem turn_enumZ {P : Program} {w : World} {K : PySem.W.Frag} {elts : List Expr} {kk : Nat} {tpos : Pos} {a b e z TI TO i1 i2 : Addr} (D : ZipApart z TI TO i1 i2 a b) (ez : e ≠ z) (eI : e ≠ TI) (eO : e ≠ TO) (e1 : e ≠ i1) (e2 : e ≠ i2) :
    Turn P w K (.Tuple elts kk tpos) (ItzE K a b) [e, z, TI, TO, i1, i2] e (fun i h => (∃ old, IsEnum h e z ((i : Nat) : Int) old) ∧ ZAny h z TI TO ∧ IsPair h TI (.ref i1) (.ref i2) ∧ (∃ x y, IsPair h TO x y) ∧ h.IsListIter i1 a i ∧ h.IsListIter i2 b i) where
  mem := by simp
  obj := fun i h st c hc => by
    obtain ⟨⟨old, he⟩, ⟨f0, f, hz, _⟩, hTI, ⟨x, y, hTO⟩, ⟨o1, q1, _, d1⟩, ⟨o2, q2, _, d2⟩⟩ := st
    have e' : c = e ∨ c = z ∨ c = TI ∨ c = TO ∨ c = i1 ∨ c = i2 := by simpa using hc
    rcases e' with q | q | q | q | q | q
    · rw [q]; exact ⟨_, he, fun v q => nomatch q⟩
    · rw [q]; exact ⟨_, hz, fun v q => nomatch q⟩
    · rw [q]; exact ⟨_, hTI, fun v q => nomatch q⟩
    · rw [q]; exact ⟨_, hTO, fun v q => nomatch q⟩
    · rw [q]; exact ⟨o1, q1, fun v q => by rw [d1] at q; cases q⟩
    · rw [q]; exact ⟨o2, q2, fun v q => by rw [d2] at q; cases q⟩
  keep := fun i h h' st k => by
    obtain ⟨⟨old, he⟩, ⟨f0, f, hz, hf⟩, hTI, ⟨x, y, hTO⟩, h1, h2⟩ := st
    exact ⟨⟨old, k e (by simp) _ he⟩, ⟨f0, f, k z (by simp) _ hz, hf⟩, k TI (by simp) _ hTI, ⟨x, y, k TO (by simp) _ hTO⟩, h1.at fun o q => k i1 (by simp) o q, h2.at fun o q => k i2 (by simp) o q⟩
  item := by
    intro X hP hw hK hc i pins s σ H E I hf st hg
    subst hP hw hK
    obtain ⟨⟨old, he⟩, hz, hTI, ⟨x0, y0, hTO⟩, h1, h2⟩ := st
    obtain ⟨xs, ys, x, y, hqx, hqy, hx, hy⟩ := hg
    obtain ⟨its, rv, p, _⟩ := I.list hqx
    obtain ⟨its2, rv2, p2, _⟩ := I.list hqy
    obtain ⟨u, hu, ru⟩ := rv.get hx
    obtain ⟨u2, hu2, ru2⟩ := rv2.get hy
    have hTy : s.TypeIs (.ref e) "enumerate" := ⟨_, he, rfl⟩
    have cell : ∀ c ∈ [e, z, TI, TO, i1, i2], c < s.heap.objs.size := fun c hcm => by
      have e' : c = e ∨ c = z ∨ c = TI ∨ c = TO ∨ c = i1 ∨ c = i2 := by simpa using hcm
      obtain ⟨f0, f, hz', _⟩ := hz
      rcases e' with q | q | q | q | q | q
      · rw [q]; exact Heap.lt_size he
      · rw [q]; exact Heap.lt_size hz'
      · rw [q]; exact Heap.lt_size hTI
      · rw [q]; exact Heap.lt_size hTO
      · rw [q]; obtain ⟨_, q1, _⟩ := h1; exact Heap.lt_size q1
      · rw [q]; obtain ⟨_, q2, _⟩ := h2; exact Heap.lt_size q2
    unfold pyNext
    refine wpAny_bind (wpAny_attempt (wpAny_callSpecial?_slot (name := Str.ofString "__next__") hTy F.slot_enumerate_next (wpAny_call_entry F.slot_enumerate_next hTy F.entry_enumerate_next
      (ez_next D ez eO e1 e2 he hz hTI hTO h1 h2 p.isList p2.isList (x := u) (y := u2) (by simpa using hu) (by simpa using hu2) fun p1 h' tk y1 y2 y3 y4 y5 y6 y7 g7 t7 k7 => wpAny_pure ?_) (F.args_enumerate_next_1 _))))
    refine ⟨_, rfl, wpAny_letOwnedTupleGo_enum (s := { s with heap := h', toks := tk + 1 }) g7 fun h'' g'' sb => ?_⟩
    have hel := cell e (by simp)
    have k8 : ∀ c o, c ≠ e → p1.get? c = some o → h''.get? c = some o := fun c o hce q => (sb.2 c hce).trans (k7 c o hce q)
    have hTn : H s.heap.objs.size = none := I.hok.fresh (Nat.le_refl _)
    have new1 : ObjOk X.prog X.w (upd H s.heap.objs.size (.tup [x, y])) p1 s.heap.objs.size (.tup [x, y]) := ⟨by show 2 ≤ sizeLine; decide, [u, u2], .cons ru (.cons ru2 .nil), ⟨_, y5, rfl, _, rfl⟩⟩
    have I1 : Inv X pins σ (upd H s.heap.objs.size (.tup [x, y])) { s with heap := p1, toks := s.toks } :=
      I.turnedNew (ch := [e, z, TI, TO, i1, i2]) (fun c o hb q => y7 c o (fun q' => hb (by simp [q'])) (fun q' => hb (by simp [q'])) (fun q' => hb (by simp [q'])) (fun q' => hb (by simp [q'])) q) hf (Nat.le_refl _) new1
    have hf1 : ∀ c ∈ [e, z, TI, TO, i1, i2], FpOk X pins (upd H s.heap.objs.size (.tup [x, y])) c := fun c hcm => ⟨by rw [upd_ne (Nat.ne_of_lt (cell c hcm))]; exact (hf c hcm).1, (hf c hcm).2⟩
    have t8 : h''.get? p1.objs.size = some { cls := .type "tuple", data := .seq #[.int (i : Nat) tk, .ref s.heap.objs.size] } := (sb.2 _ (by rw [y6]; exact Nat.ne_of_gt (Nat.lt_succ_of_lt hel))).trans t7
    have new2 : ObjOk X.prog X.w (upd (upd H s.heap.objs.size (.tup [x, y])) p1.objs.size (.tup [.int (i : Nat), .ref s.heap.objs.size])) h'' p1.objs.size (.tup [.int (i : Nat), .ref s.heap.objs.size]) :=
      ⟨by show 2 ≤ sizeLine; decide, [.int (i : Nat) tk, .ref s.heap.objs.size], .cons ⟨_, rfl⟩ (.cons rfl .nil), ⟨_, t8, rfl, _, rfl⟩⟩
    have hTU : s.heap.objs.size ≠ p1.objs.size := by rw [y6]; exact Nat.ne_of_lt (Nat.lt_succ_self _)
    have hUn0 : (upd H s.heap.objs.size (.tup [x, y])) p1.objs.size = none := I1.hok.fresh (Nat.le_refl _)
    have hUn : H p1.objs.size = none := by rw [upd_ne hTU.symm] at hUn0; exact hUn0
    have I2 : Inv X pins σ (upd (upd H s.heap.objs.size (.tup [x, y])) p1.objs.size (.tup [.int (i : Nat), .ref s.heap.objs.size])) { s with heap := h'', toks := tk + 1 } :=
      I1.turnedNew (ch := [e, z, TI, TO, i1, i2]) (fun c o hb q => k8 c o (fun q' => hb (by simp [q'])) q) hf1 (Nat.le_refl _) new2
    refine ⟨.ref p1.objs.size, _, I2, rfl, ⟨_, _, x, y, rfl, hTn, hUn, hTU, rfl, fun l hl => by rw [I.list_inj hl hqx]; exact hx, fun l hl => by rw [I.list_inj hl hqy]; exact hy⟩, ⟨⟨.ref s.heap.objs.size, ?_⟩, ?_, ?_, ?_, ?_, ?_⟩, fun c hcm => ?_⟩
    · rw [show ((i + 1 : Nat) : Int) = (i : Int) + 1 by omega]
      exact g''
    · obtain ⟨f0, f, hz', hf'⟩ := y1
      exact ⟨f0, f, k8 _ _ ez.symm hz', hf'⟩
    · exact k8 _ _ eI.symm (y7 _ _ D.TIz D.TITO D.TIi1 D.TIi2 hTI)
    · obtain ⟨a', b', q⟩ := y2
      exact ⟨a', b', k8 _ _ eO.symm q⟩
    · exact y3.at fun o q => k8 _ o e1.symm q
    · exact y4.at fun o q => k8 _ o e2.symm q
    · have hlt := cell c hcm
      rw [upd_ne (by rw [y6]; exact Nat.ne_of_lt (Nat.lt_succ_of_lt hlt))]
      exact (hf1 c hcm).1
  done := by
    intro X hP hw hK hc i pins s σ H E I hf st hg
    subst hP hw hK
    obtain ⟨⟨old, he⟩, hz, hTI, ⟨x0, y0, hTO⟩, h1, h2⟩ := st
    obtain ⟨xs, ys, hqx, hqy, hend⟩ := hg
    obtain ⟨its, rv, p, _⟩ := I.list hqx
    obtain ⟨its2, rv2, p2, _⟩ := I.list hqy
    have l1 := rv.length
    have hx : its.toArray[i]? = none := by simp; omega
    have hTy : s.TypeIs (.ref e) "enumerate" := ⟨_, he, rfl⟩
    unfold pyNext
    refine wpAny_bind (wpAny_attempt (wpAny_callSpecial?_slot (name := Str.ofString "__next__") hTy F.slot_enumerate_next (wpAny_call_entry F.slot_enumerate_next hTy F.entry_enumerate_next ?_ (F.args_enumerate_next_1 _))))
    show wpAny _ _ (field (.ref e) 2 >>= _) _ _ _
    refine wpAny_bind (wpAny_field he rfl (x := .ref z) rfl ?_)
    refine wpAny_bind (za_end (I.ok.hd hc) D hz hTI h1 h2 p.isList p2.isList hx fun h' er hk hx' => ?_)
    obtain ⟨o, ho, hco⟩ := hx'
    refine wpAny_bind (wpAny_isInstance (T := "StopIteration") (b := true) ⟨o, ho, hco⟩ isSubtype_stop ?_)
    exact wpAny_pure ⟨rfl, I.turnedL (t' := s.toks) (ch := [e, z, TI, TO, i1, i2]) (fun c o hb q => hk c o (fun q' => hb (by simp [q'])) (fun q' => hb (by simp [q'])) (fun q' => hb (by simp [q'])) q) hf⟩
  self := fun A i s Q E st h => let ⟨⟨_, he⟩, _⟩ := st; wpAny_pyIter_enum he h
def iEnumZ (K : PySem.W.Frag) (ta : TA) : TI := fun σ H R => ta σ H fun vs H1 => ∃ a b xs ys, vs = [.ref a, .ref b] ∧ SqL K H1 a xs ∧ SqL K H1 b ys ∧ R (ItzE K a b) H1
theorem pi_enumZ {X : Cx} {e e2 : Expr} {ta : TA} {p p1 pos pos2 tpos : Pos} {elts : List Expr} {kk : Nat} (hg2 : Gl X "enumerate") (hm2 : X.mg "enumerate" = none) (hg : Gl X "zip") (hm : X.mg "zip" = none) (ha : PA X [e, e2] ta)
    (hs : starEach [e, e2] X.env = (false, eval e X.env) :: starEach [e2] X.env := by rfl) (hpl : (backTo pos (starEach [e2] X.env)).any (·.1) = false := by rfl)
    (hs2 : starEach [.Call (.Name "zip" p) [e, e2] [] pos] X.env = (false, eval (.Call (.Name "zip" p) [e, e2] [] pos) X.env) :: starEach [] X.env := by rfl) :
    PI X (.Tuple elts kk tpos) (.Call (.Name "enumerate" p1) [.Call (.Name "zip" p) [e, e2] [] pos] [] pos2) (iEnumZ X.K ta) := by
  refine ⟨fun pins s σ H R I h => ?_⟩
  refine Call_ (ld_blt I hg2 hm2 boot_enumerate (PyProof.Rows.callWith_type1 ?_ hs2 rfl))
  rw [hs2]
  show wpAny _ _ (spliced ((false, eval (.Call (.Name "zip" p) [e, e2] [] pos) X.env) :: backTo pos2 (starEach [] X.env))) _ _ s
  refine Calls.spliced_cons ?_
  refine Call_ (ld_blt I hg hm PyProof.Rows.boot_zip (PyProof.Rows.callWith_type1 (thn (ha.run pos pins s σ H _ I h) fun us s1 ⟨vs, H1, I1, r1, q1⟩ => ?_) hs hpl))
  obtain ⟨a, b, xs, ys, rfl, hqx, hqy, q⟩ := q1
  cases r1 with
  | cons r rr =>
    cases rr with
    | cons r' rr =>
      cases rr
      cases r
      cases r'
      obtain ⟨its, rv, p1', _⟩ := I1.list hqx
      obtain ⟨its2, rv2, p2', _⟩ := I1.list hqy
      refine call_zip_2 p1'.isList p2'.isList fun h' hz hTI hTO h1 h2 hsz hk => Calls.spliced_nil ?_
      refine call_enumZ (s := { s1 with heap := h' }) hz fun h'' he hk2 => wpAny_pyIter_enum he ?_
      have he5 : h'.objs.size = s1.heap.objs.size + 5 := hsz
      have I2 : Inv X pins σ H1 { s1 with heap := h'' } := I1.kept (t' := s1.toks) fun c o q => hk2 c o (hk c o q)
      have fresh6 : ∀ c, c ∈ [h'.objs.size, s1.heap.objs.size + 4, s1.heap.objs.size + 2, s1.heap.objs.size + 3, s1.heap.objs.size, s1.heap.objs.size + 1] → FpOk X pins H1 c := fun c hcm => by
        have e' : c = h'.objs.size ∨ c = s1.heap.objs.size + 4 ∨ c = s1.heap.objs.size + 2 ∨ c = s1.heap.objs.size + 3 ∨ c = s1.heap.objs.size ∨ c = s1.heap.objs.size + 1 := by simpa using hcm
        have hle : s1.heap.objs.size ≤ c := by
          rcases e' with z | z | z | z | z | z
          · rw [z, he5]; exact Nat.le_add_right _ _
          · rw [z]; exact Nat.le_add_right _ _
          · rw [z]; exact Nat.le_add_right _ _
          · rw [z]; exact Nat.le_add_right _ _
          · rw [z]; exact Nat.le_refl _
          · rw [z]; exact Nat.le_add_right _ _
        exact I1.fpOk hle (I1.hok.fresh hle)
      have ne : ∀ k, k < 5 → h'.objs.size ≠ s1.heap.objs.size + k := fun k hk5 q => by rw [he5] at q; exact absurd (Nat.add_left_cancel q) (Nat.ne_of_gt hk5)
      exact ⟨h'.objs.size, [h'.objs.size, s1.heap.objs.size + 4, s1.heap.objs.size + 2, s1.heap.objs.size + 3, s1.heap.objs.size, s1.heap.objs.size + 1], _, _, H1, rfl, I2,
        turn_enumZ (PySem.W.ktu_apart s1.heap.objs.size a b p1'.lt p2'.lt) (ne 4 (by decide)) (ne 2 (by decide)) (ne 3 (by decide)) (ne 0 (by decide)) (ne 1 (by decide)),
        ⟨⟨.none, he⟩, ⟨.none, false, hk2 _ _ hz, .inl rfl⟩, hk2 _ _ hTI, ⟨_, _, hk2 _ _ hTO⟩, h1.at fun o q => hk2 _ o q, h2.at fun o q => hk2 _ o q⟩, fresh6, q⟩
def YPP (xs ys : List V) : Nat → Hp → V → Hp → Prop := fun i H v H' => ∃ T U x y, v = .ref U ∧ H T = none ∧ H U = none ∧ T ≠ U ∧ H' = upd (upd H T (.tup [x, y])) U (.tup [.int (i : Nat), .ref T]) ∧ xs[i]? = some x ∧ ys[i]? = some y
theorem walk_enumZ {K : PySem.W.Frag} {a b : Addr} {xs ys : List V} (hl : xs.length = ys.length) : Walk (ItzE K a b) xs.length (fun H => SqL K H a xs ∧ SqL K H b ys) (YPP xs ys) := by
  refine ⟨fun i _ hi q => ⟨xs, ys, xs[i], ys[i]'(by omega), q.1, q.2, by simp [hi], List.getElem?_eq_getElem _⟩, fun _ q => ⟨xs, ys, q.1, q.2, Nat.le_refl _⟩, fun i H v H' _ q y => ?_⟩
  obtain ⟨T, U, x, y', h1, h2, h3, h4, h5, h6, h7⟩ := y
  exact ⟨T, U, x, y', h1, h2, h3, h4, h5, h6 xs q.1, h7 ys q.2⟩
end LK

set_option Elab.async false
set_option linter.all false
set_option maxRecDepth 100000
set_option maxHeartbeats 4000000
/-! enumerate(zip(x, y)) of two lists: the pair that zip gave out is held by enumerate's, so zip's next step is taken from a zip that has given out nothing, or that still knows what it gave out, dead or alive -/
namespace LK
open PySem PySem.Spec PyProof.Rows L2
open Sem (wp)
section
variable {prog : Program} {w : World} {A : Around} {E : Value → Shared → Prop} {s : Shared} {z TI TO i1 i2 l1 l2 : Addr}
/-- the next pair of a zip whose own tuple is free -/
theorem zf_itemT {f0 : Value} {f : Bool} {k1 k2 : Nat} {xs ys : Array Value} {x y a b : Value} {Q : Value → Shared → Prop} (D : ZipApart z TI TO i1 i2 l1 l2)
    (hz : IsZ s.heap z TI TO f0 f) (hf : ZFree s.heap f0) (hTI : IsPair s.heap TI (.ref i1) (.ref i2)) (hTO : IsPair s.heap TO a b)
    (h1 : s.heap.IsTupleIter i1 l1 k1) (h2 : s.heap.IsTupleIter i2 l2 k2) (hl1 : s.heap.IsTuple l1 xs) (hl2 : s.heap.IsTuple l2 ys) (hx : xs[k1]? = some x) (hy : ys[k2]? = some y)
    (hQ : ∀ h', IsZ h' z TI TO (rawInt s.heap.objs.size) false → IsPair h' TO x y → h'.IsTupleIter i1 l1 (k1 + 1) → h'.IsTupleIter i2 l2 (k2 + 1) → IsPair h' s.heap.objs.size x y → h'.objs.size = s.heap.objs.size + 1 →
      (∀ c o, c ≠ z → c ≠ TO → c ≠ i1 → c ≠ i2 → s.heap.get? c = some o → h'.get? c = some o) → Q (.ref s.heap.objs.size) { s with heap := h' }) :
    wpAny (model prog w) A (Builtin.«zip.__next__» ⟨[.ref z], []⟩) (fun fin s' => ∃ v, fin = .done (.ret v) ∧ Q v s') E s := by
  show wpAny _ _ (field (.ref z) 2 >>= _) _ _ _
  refine wpAny_bind (wpAny_field hz rfl (x := .bool false) rfl ?_)
  show wpAny _ _ (field (.ref z) 3 >>= _) _ _ _
  refine wpAny_bind (wpAny_field hz rfl (x := .ref TI) rfl ?_)
  refine wpAny_bind (wpAny_seqItems hTI rfl ?_)
  show wpAny _ _ (Builtin.SmallTypes.ownedTupleIsFree (.ref z) >>= _) _ _ _
  refine wpAny_bind (z_free hz hf ?_)
  simp only [if_true]
  refine wpAny_bind (wpAny_rule ?_)
  refine wpAny_bind (wpAny_field hz rfl (x := .ref TO) rfl ?_)
  refine wpAny_bind (wpAny_setField_rec hz (by simp) fun p1 z1 e1 => ?_)
  replace z1 : IsZ p1 z TI TO .ellipsis f := z1
  refine wpAny_bind ?_
  simp only [List.zipIdx_cons, List.zipIdx_nil, List.forIn_cons, List.forIn_nil]
  refine wpAny_bind (wpAny_bind (wpAny_onRaise ?_))
  show wpAny _ _ (Builtin.SmallTypes.nextOf (.ref i1) >>= _) _ _ _
  refine wpAny_bind (wpAny_nextOf_tuple_item (h1.extBut e1.extBut D.i1z) (hl1.extBut e1.extBut D.l1z) hx fun p2 q1 e2 => wpAny_pure ?_)
  have t2 : IsPair p2 TO a b := e2.extBut _ _ D.TOi1 (e1.extBut _ _ D.TOz hTO)
  refine wpAny_bind (wpAny_seqItems t2 rfl ?_)
  refine wpAny_bind (wpAny_updateSeq_pair t2 fun p3 t3 e3 => ?_)
  replace t3 : IsPair p3 TO x b := t3
  refine wpAny_bind (wpAny_letGo (wpAny_pure ?_))
  refine wpAny_bind (wpAny_bind (wpAny_onRaise ?_))
  show wpAny _ _ (Builtin.SmallTypes.nextOf (.ref i2) >>= _) _ _ _
  have g2 := ((h2.extBut e1.extBut D.i2z).extBut e2.extBut D.i12.symm).extBut e3.extBut D.TOi2.symm
  have m2 := ((hl2.extBut e1.extBut D.l2z).extBut e2.extBut D.l2i1).extBut e3.extBut D.l2TO
  refine wpAny_bind (wpAny_nextOf_tuple_item g2 m2 hy fun p4 q2 e4 => wpAny_pure ?_)
  have t4 : IsPair p4 TO x b := e4.extBut _ _ D.TOi2 t3
  refine wpAny_bind (wpAny_seqItems t4 rfl ?_)
  refine wpAny_bind (wpAny_updateSeq_pair t4 fun p5 t5 e5 => ?_)
  replace t5 : IsPair p5 TO x y := t5
  refine wpAny_bind (wpAny_letGo (wpAny_pure (wpAny_pure ?_)))
  refine wpAny_bind (wpAny_seqItems t5 rfl ?_)
  refine wpAny_bind (wpAny_newTuple ?_)
  have hsz : p5.objs.size = s.heap.objs.size := by rw [e5.1, e4.1, e3.1, e2.1, e1.1]
  have z5 : IsZ p5 z TI TO .ellipsis f := e5.extBut _ _ D.TOz.symm (e4.extBut _ _ D.i2z.symm (e3.extBut _ _ D.TOz.symm (e2.extBut _ _ D.i1z.symm z1)))
  have k5 : ∀ c o, c ≠ z → c ≠ TO → c ≠ i1 → c ≠ i2 → s.heap.get? c = some o → p5.get? c = some o := fun c o c1 c2 c3 c4 q => e5.extBut _ _ c2 (e4.extBut _ _ c4 (e3.extBut _ _ c2 (e2.extBut _ _ c3 (e1.extBut _ _ c1 q))))
  have a1 : p5.IsTupleIter i1 l1 (k1 + 1) := ((q1.extBut e3.extBut D.TOi1.symm).extBut e4.extBut D.i12).extBut e5.extBut D.TOi1.symm
  have a2 : p5.IsTupleIter i2 l2 (k2 + 1) := q2.extBut e5.extBut D.TOi2.symm
  have hzl : z < p5.objs.size := Heap.lt_size z5
  show wpAny _ _ (Builtin.SmallTypes.ownedTupleHandOut (.ref z) (.ref p5.objs.size) >>= _) _ _ _
  refine wpAny_bind ?_
  unfold Builtin.SmallTypes.ownedTupleHandOut
  have z6 : IsZ (p5.push { cls := .type "tuple", data := .seq #[x, y] }) z TI TO .ellipsis f := Heap.get?_push_of_some _ z5
  refine wpAny_bind (wpAny_setField_rec z6 (by simp) fun p7 z7 e7 => ?_)
  replace z7 : IsZ p7 z TI TO (rawInt p5.objs.size) f := z7
  refine wpAny_setField_rec z7 (by simp) fun p8 z8 e8 => ?_
  replace z8 : IsZ p8 z TI TO (rawInt p5.objs.size) false := z8
  have up : ∀ c o, c ≠ z → p5.get? c = some o → p8.get? c = some o := fun c o c1 q => e8.extBut _ _ c1 (e7.extBut _ _ c1 (Heap.get?_push_of_some _ q))
  have t8 : IsPair p8 p5.objs.size x y := e8.extBut _ _ (Nat.ne_of_gt hzl) (e7.extBut _ _ (Nat.ne_of_gt hzl) (Heap.get?_push_size _ rfl))
  have s8 : p8.objs.size = p5.objs.size + 1 := by rw [e8.1, e7.1, Heap.size_push]
  rw [hsz] at z8 t8 s8
  refine wpAny_pure ⟨_, rfl, ?_⟩
  show Q (.ref p5.objs.size) _
  rw [hsz]
  exact hQ p8 z8 (up _ _ D.TOz t5) (a1.at fun o q => up _ o D.i1z q) (a2.at fun o q => up _ o D.i2z q) t8 s8 fun c o c1 c2 c3 c4 q => up c o c1 (k5 c o c1 c2 c3 c4 q)
/-- the first list is at its end -/
theorem zf_endT {f0 : Value} {f : Bool} {k1 k2 : Nat} {xs ys : Array Value} {a b : Value} {Q : Fin → Shared → Prop} (hh : A.handled = none) (D : ZipApart z TI TO i1 i2 l1 l2)
    (hz : IsZ s.heap z TI TO f0 f) (hf : ZFree s.heap f0) (hTI : IsPair s.heap TI (.ref i1) (.ref i2)) (hTO : IsPair s.heap TO a b)
    (h1 : s.heap.IsTupleIter i1 l1 k1) (h2 : s.heap.IsTupleIter i2 l2 k2) (hl1 : s.heap.IsTuple l1 xs) (hl2 : s.heap.IsTuple l2 ys) (hx : xs[k1]? = none ∨ ys[k2]? = none)
    (hE : ∀ h' e, (∀ c o, c ≠ z → c ≠ TO → c ≠ i1 → c ≠ i2 → s.heap.get? c = some o → h'.get? c = some o) → (∃ o, h'.get? e = some o ∧ o.cls = .type "StopIteration") → E (.ref e) { s with heap := h' }) :
    wpAny (model prog w) A (Builtin.«zip.__next__» ⟨[.ref z], []⟩) Q E s := by
  show wpAny _ _ (field (.ref z) 2 >>= _) _ _ _
  refine wpAny_bind (wpAny_field hz rfl (x := .bool false) rfl ?_)
  show wpAny _ _ (field (.ref z) 3 >>= _) _ _ _
  refine wpAny_bind (wpAny_field hz rfl (x := .ref TI) rfl ?_)
  refine wpAny_bind (wpAny_seqItems hTI rfl ?_)
  show wpAny _ _ (Builtin.SmallTypes.ownedTupleIsFree (.ref z) >>= _) _ _ _
  refine wpAny_bind (z_free hz hf ?_)
  simp only [if_true]
  refine wpAny_bind (wpAny_rule ?_)
  refine wpAny_bind (wpAny_field hz rfl (x := .ref TO) rfl ?_)
  refine wpAny_bind (wpAny_setField_rec hz (by simp) fun p1 z1 e1 => ?_)
  replace z1 : IsZ p1 z TI TO .ellipsis f := z1
  refine wpAny_bind ?_
  simp only [List.zipIdx_cons, List.zipIdx_nil, List.forIn_cons, List.forIn_nil]
  refine wpAny_bind (wpAny_bind (wpAny_onRaise ?_))
  show wpAny _ _ (Builtin.SmallTypes.nextOf (.ref i1) >>= _) _ _ _
  cases ex : xs[k1]? with
  | none =>
    refine wpAny_bind (wpAny_nextOf_tuple_end hh (h1.extBut e1.extBut D.i1z) (hl1.extBut e1.extBut D.l1z) ex fun p2 e e2 he => ?_)
    obtain ⟨oe, hoe, hce⟩ := he
    have z2 : IsZ p2 z TI TO .ellipsis f := e2 _ _ D.i1z.symm z1
    have hez : e ≠ z := fun q => by subst q; rw [z2] at hoe; cases hoe; simp at hce
    exact wpAny_setField_rec z2 (by simp) fun p3 _ e3 => hE p3 e (fun c o c1 _ c3 _ q => e3.extBut _ _ c1 (e2 _ _ c3 (e1.extBut _ _ c1 q))) ⟨oe, e3.extBut _ _ hez hoe, hce⟩
  | some x =>
    have hy : ys[k2]? = none := by rcases hx with h | h; (rw [ex] at h; cases h); exact h
    refine wpAny_bind (wpAny_nextOf_tuple_item (h1.extBut e1.extBut D.i1z) (hl1.extBut e1.extBut D.l1z) ex fun p2 q1 e2 => wpAny_pure ?_)
    have t2 : IsPair p2 TO a b := e2.extBut _ _ D.TOi1 (e1.extBut _ _ D.TOz hTO)
    refine wpAny_bind (wpAny_seqItems t2 rfl ?_)
    refine wpAny_bind (wpAny_updateSeq_pair t2 fun p3 t3 e3 => ?_)
    replace t3 : IsPair p3 TO x b := t3
    refine wpAny_bind (wpAny_letGo (wpAny_pure ?_))
    refine wpAny_bind (wpAny_bind (wpAny_onRaise ?_))
    show wpAny _ _ (Builtin.SmallTypes.nextOf (.ref i2) >>= _) _ _ _
    have g2 := ((h2.extBut e1.extBut D.i2z).extBut e2.extBut D.i12.symm).extBut e3.extBut D.TOi2.symm
    have m2 := ((hl2.extBut e1.extBut D.l2z).extBut e2.extBut D.l2i1).extBut e3.extBut D.l2TO
    refine wpAny_bind (wpAny_nextOf_tuple_end hh g2 m2 hy fun p4 e e4 he => ?_)
    obtain ⟨oe, hoe, hce⟩ := he
    have z4 : IsZ p4 z TI TO .ellipsis f := e4 _ _ D.i2z.symm (e3.extBut _ _ D.TOz.symm (e2.extBut _ _ D.i1z.symm z1))
    have hez : e ≠ z := fun q => by subst q; rw [z4] at hoe; cases hoe; simp at hce
    exact wpAny_setField_rec z4 (by simp) fun p5 _ e5 => hE p5 e (fun c o c1 c2 c3 c4 q => e5.extBut _ _ c1 (e4 _ _ c4 (e3.extBut _ _ c2 (e2.extBut _ _ c3 (e1.extBut _ _ c1 q))))) ⟨oe, e5.extBut _ _ hez hoe, hce⟩
/-- the next pair of a zip whose own tuple is held -/
theorem zipT_next_item_held {T : Addr} {f : Bool} {oT : Obj} {k1 k2 : Nat} {xs ys : Array Value} {x y : Value} {Q : Value → Shared → Prop} (D : ZipApart z TI TO i1 i2 l1 l2)
    (hz : IsZipHeld s.heap z TI TO T f) (hT : s.heap.get? T = some oT) (hTI : IsPair s.heap TI (.ref i1) (.ref i2))
    (h1 : s.heap.IsTupleIter i1 l1 k1) (h2 : s.heap.IsTupleIter i2 l2 k2) (hl1 : s.heap.IsTuple l1 xs) (hl2 : s.heap.IsTuple l2 ys) (hx : xs[k1]? = some x) (hy : ys[k2]? = some y)
    (hQ : ∀ h', IsZipHeld h' z TI TO T true → h'.IsTupleIter i1 l1 (k1 + 1) → h'.IsTupleIter i2 l2 (k2 + 1) → IsPair h' s.heap.objs.size x y → h'.objs.size = s.heap.objs.size + 1 →
      (∀ c o, c ≠ z → c ≠ i1 → c ≠ i2 → s.heap.get? c = some o → h'.get? c = some o) → Q (.ref s.heap.objs.size) { s with heap := h' }) :
    wpAny (model prog w) A (Builtin.«zip.__next__» ⟨[.ref z], []⟩) (fun fin s' => ∃ v, fin = .done (.ret v) ∧ Q v s') E s := by
  show wpAny _ _ (field (.ref z) 2 >>= _) _ _ _
  refine wpAny_bind (wpAny_field hz rfl (x := .bool false) rfl ?_)
  show wpAny _ _ (field (.ref z) 3 >>= _) _ _ _
  refine wpAny_bind (wpAny_field hz rfl (x := .ref TI) rfl ?_)
  refine wpAny_bind (wpAny_seqItems hTI rfl ?_)
  show wpAny _ _ (Builtin.SmallTypes.ownedTupleIsFree (.ref z) >>= _) _ _ _
  refine wpAny_bind ?_
  unfold Builtin.SmallTypes.ownedTupleIsFree
  refine wpAny_bind (wpAny_field hz rfl (x := rawInt T) rfl ?_)
  show wpAny _ _ (loadIfAlive ((T : Int).toNat) >>= _) _ _ _
  rw [Int.toNat_natCast]
  refine wpAny_bind ?_
  have live : ∀ {R : Option Obj → Shared → Prop}, R (some oT) s → wpAny (model prog w) A (loadIfAlive T) R E s := fun {R} h => by
    have h' : R (s.heap.get? T) s := by rw [hT]; exact h
    exact fun _ _ _ => h'
  refine live ?_
  show wpAny _ _ (field (.ref z) 1 >>= _) _ _ _
  refine wpAny_bind (wpAny_field hz rfl (x := .bool f) rfl ?_)
  have main : ∀ h0, Heap.SameBut z s.heap h0 → IsZipHeld h0 z TI TO T true → ∀ {R : Bool → Shared → Prop}, R false { s with heap := h0 } → R false { s with heap := h0 } := fun _ _ _ _ r => r
  have fork : ∀ {R : Bool → Shared → Prop}, (∀ h0, Heap.SameBut z s.heap h0 → IsZipHeld h0 z TI TO T true → R false { s with heap := h0 }) → wpAny (model prog w) A (if (Value.bool f != Value.bool true) = true then setField (.ref z) 1 (.bool true) >>= fun _ => pure false else pure false) R E s := by
    intro R r
    cases f with
    | true => exact wpAny_pure (r s.heap ⟨rfl, fun _ _ => rfl⟩ hz)
    | false => exact wpAny_bind (wpAny_setField_rec hz (by simp) fun h0 z0 e0 => wpAny_pure (r h0 e0 z0))
  refine fork fun h0 e0 z0 => ?_
  have TI0 : IsPair h0 TI (.ref i1) (.ref i2) := by show h0.get? TI = _; rw [e0.2 _ D.TIz]; exact hTI
  have up0 : ∀ c o, c ≠ z → s.heap.get? c = some o → h0.get? c = some o := fun c o hc q => (e0.2 c hc).trans q
  have g1 : h0.IsTupleIter i1 l1 k1 := h1.at fun o q => up0 _ o D.i1z q
  have g2 : h0.IsTupleIter i2 l2 k2 := h2.at fun o q => up0 _ o D.i2z q
  have m1 : h0.IsTuple l1 xs := by obtain ⟨o, q, r⟩ := hl1; exact ⟨o, up0 _ _ D.l1z q, r⟩
  have m2 : h0.IsTuple l2 ys := by obtain ⟨o, q, r⟩ := hl2; exact ⟨o, up0 _ _ D.l2z q, r⟩
  simp only [Bool.false_eq_true, if_false]
  refine wpAny_bind ?_
  rw [← Array.forIn_toList]
  simp only [List.forIn_cons, List.forIn_nil]
  refine wpAny_bind (wpAny_bind (wpAny_holding ?_))
  show wpAny _ _ (Builtin.SmallTypes.nextOf (.ref i1) >>= _) _ _ _
  refine wpAny_bind (wpAny_nextOf_tuple_item g1 m1 hx fun p2 q1 e2 => wpAny_pure (wpAny_pure ?_))
  have g2' : p2.IsTupleIter i2 l2 k2 := g2.at fun o q => e2.extBut _ o D.i12.symm q
  have m2' : p2.IsTuple l2 ys := by obtain ⟨o, q, r⟩ := m2; exact ⟨o, e2.extBut _ o D.l2i1 q, r⟩
  refine wpAny_bind (wpAny_bind (wpAny_holding ?_))
  show wpAny _ _ (Builtin.SmallTypes.nextOf (.ref i2) >>= _) _ _ _
  refine wpAny_bind (wpAny_nextOf_tuple_item g2' m2' hy fun p3 q2 e3 => wpAny_pure (wpAny_pure (wpAny_pure ?_)))
  show wpAny _ _ (newTuple [x, y] >>= _) _ _ _
  refine wpAny_bind (wpAny_newTuple ?_)
  have hsz : p3.objs.size = s.heap.objs.size := by rw [e3.1, e2.1, e0.1]
  refine wpAny_pure ⟨_, rfl, ?_⟩
  show Q (.ref p3.objs.size) _
  have up : ∀ c o, c ≠ z → c ≠ i1 → c ≠ i2 → s.heap.get? c = some o → (p3.push { cls := .type "tuple", data := .seq #[x, y] }).get? c = some o := fun c o c1 c2 c3 q => Heap.get?_push_of_some _ (e3.extBut _ _ c3 (e2.extBut _ _ c2 (up0 c o c1 q)))
  have z3 : IsZipHeld (p3.push { cls := .type "tuple", data := .seq #[x, y] }) z TI TO T true := Heap.get?_push_of_some _ (e3.extBut _ _ D.i2z.symm (e2.extBut _ _ D.i1z.symm z0))
  have t3 : IsPair (p3.push { cls := .type "tuple", data := .seq #[x, y] }) s.heap.objs.size x y := by rw [← hsz]; exact Heap.get?_push_size _ rfl
  have s3 : (p3.push { cls := .type "tuple", data := .seq #[x, y] }).objs.size = s.heap.objs.size + 1 := by rw [Heap.size_push, hsz]
  rw [hsz]
  exact hQ _ z3 ((q1.at fun o q => e3.extBut _ o D.i12 q).at fun o q => Heap.get?_push_of_some _ q) (q2.at fun o q => Heap.get?_push_of_some _ q) t3 s3 up
theorem zipT_next_end_held {T : Addr} {f : Bool} {oT : Obj} {k1 k2 : Nat} {xs ys : Array Value} {Q : Fin → Shared → Prop} (hh : A.handled = none) (D : ZipApart z TI TO i1 i2 l1 l2)
    (hz : IsZipHeld s.heap z TI TO T f) (hT : s.heap.get? T = some oT) (hTI : IsPair s.heap TI (.ref i1) (.ref i2))
    (h1 : s.heap.IsTupleIter i1 l1 k1) (h2 : s.heap.IsTupleIter i2 l2 k2) (hl1 : s.heap.IsTuple l1 xs) (hl2 : s.heap.IsTuple l2 ys) (hx : xs[k1]? = none ∨ ys[k2]? = none)
    (hE : ∀ h' e, (∀ c o, c ≠ z → c ≠ i1 → c ≠ i2 → s.heap.get? c = some o → h'.get? c = some o) → (∃ o, h'.get? e = some o ∧ o.cls = .type "StopIteration") → E (.ref e) { s with heap := h' }) :
    wpAny (model prog w) A (Builtin.«zip.__next__» ⟨[.ref z], []⟩) Q E s := by
  show wpAny _ _ (field (.ref z) 2 >>= _) _ _ _
  refine wpAny_bind (wpAny_field hz rfl (x := .bool false) rfl ?_)
  show wpAny _ _ (field (.ref z) 3 >>= _) _ _ _
  refine wpAny_bind (wpAny_field hz rfl (x := .ref TI) rfl ?_)
  refine wpAny_bind (wpAny_seqItems hTI rfl ?_)
  show wpAny _ _ (Builtin.SmallTypes.ownedTupleIsFree (.ref z) >>= _) _ _ _
  refine wpAny_bind ?_
  unfold Builtin.SmallTypes.ownedTupleIsFree
  refine wpAny_bind (wpAny_field hz rfl (x := rawInt T) rfl ?_)
  show wpAny _ _ (loadIfAlive ((T : Int).toNat) >>= _) _ _ _
  rw [Int.toNat_natCast]
  refine wpAny_bind ?_
  have live : ∀ {R : Option Obj → Shared → Prop}, R (some oT) s → wpAny (model prog w) A (loadIfAlive T) R E s := fun {R} h => by
    have h' : R (s.heap.get? T) s := by rw [hT]; exact h
    exact fun _ _ _ => h'
  refine live ?_
  show wpAny _ _ (field (.ref z) 1 >>= _) _ _ _
  refine wpAny_bind (wpAny_field hz rfl (x := .bool f) rfl ?_)
  have fork : ∀ {R : Bool → Shared → Prop}, (∀ h0, Heap.SameBut z s.heap h0 → IsZipHeld h0 z TI TO T true → R false { s with heap := h0 }) → wpAny (model prog w) A (if (Value.bool f != Value.bool true) = true then setField (.ref z) 1 (.bool true) >>= fun _ => pure false else pure false) R E s := by
    intro R r
    cases f with
    | true => exact wpAny_pure (r s.heap ⟨rfl, fun _ _ => rfl⟩ hz)
    | false => exact wpAny_bind (wpAny_setField_rec hz (by simp) fun h0 z0 e0 => wpAny_pure (r h0 e0 z0))
  refine fork fun h0 e0 z0 => ?_
  have up0 : ∀ c o, c ≠ z → s.heap.get? c = some o → h0.get? c = some o := fun c o hc q => (e0.2 c hc).trans q
  have g1 : h0.IsTupleIter i1 l1 k1 := h1.at fun o q => up0 _ o D.i1z q
  have g2 : h0.IsTupleIter i2 l2 k2 := h2.at fun o q => up0 _ o D.i2z q
  have m1 : h0.IsTuple l1 xs := by obtain ⟨o, q, r⟩ := hl1; exact ⟨o, up0 _ _ D.l1z q, r⟩
  have m2 : h0.IsTuple l2 ys := by obtain ⟨o, q, r⟩ := hl2; exact ⟨o, up0 _ _ D.l2z q, r⟩
  simp only [Bool.false_eq_true, if_false]
  refine wpAny_bind ?_
  rw [← Array.forIn_toList]
  simp only [List.forIn_cons, List.forIn_nil]
  refine wpAny_bind (wpAny_bind (wpAny_holding ?_))
  show wpAny _ _ (Builtin.SmallTypes.nextOf (.ref i1) >>= _) _ _ _
  cases e1 : xs[k1]? with
  | none =>
    refine wpAny_bind (wpAny_nextOf_tuple_end hh g1 m1 e1 fun p2 e e2 he => ?_)
    exact hE p2 e (fun c o c1 c2 _ q => e2 c o c2 (up0 c o c1 q)) he
  | some x =>
    have hy : ys[k2]? = none := by rcases hx with h | h; (rw [e1] at h; cases h); exact h
    refine wpAny_bind (wpAny_nextOf_tuple_item g1 m1 e1 fun p2 q1 e2 => wpAny_pure (wpAny_pure ?_))
    have g2' : p2.IsTupleIter i2 l2 k2 := g2.at fun o q => e2.extBut _ o D.i12.symm q
    have m2' : p2.IsTuple l2 ys := by obtain ⟨o, q, r⟩ := m2; exact ⟨o, e2.extBut _ o D.l2i1 q, r⟩
    refine wpAny_bind (wpAny_bind (wpAny_holding ?_))
    show wpAny _ _ (Builtin.SmallTypes.nextOf (.ref i2) >>= _) _ _ _
    refine wpAny_bind (wpAny_nextOf_tuple_end hh g2' m2' hy fun p3 e e3 he => ?_)
    exact hE p3 e (fun c o c1 c2 c3 q => e3 c o c3 (e2.extBut _ _ c2 (up0 c o c1 q))) he
theorem za_nextT {k1 k2 : Nat} {xs ys : Array Value} {x y a b : Value} {Q : Value → Shared → Prop} (D : ZipApart z TI TO i1 i2 l1 l2)
    (hz : ZAny s.heap z TI TO) (hTI : IsPair s.heap TI (.ref i1) (.ref i2)) (hTO : IsPair s.heap TO a b)
    (h1 : s.heap.IsTupleIter i1 l1 k1) (h2 : s.heap.IsTupleIter i2 l2 k2) (hl1 : s.heap.IsTuple l1 xs) (hl2 : s.heap.IsTuple l2 ys) (hx : xs[k1]? = some x) (hy : ys[k2]? = some y)
    (hQ : ∀ h', ZAny h' z TI TO → (∃ a b, IsPair h' TO a b) → h'.IsTupleIter i1 l1 (k1 + 1) → h'.IsTupleIter i2 l2 (k2 + 1) → IsPair h' s.heap.objs.size x y → h'.objs.size = s.heap.objs.size + 1 →
      (∀ c o, c ≠ z → c ≠ TO → c ≠ i1 → c ≠ i2 → s.heap.get? c = some o → h'.get? c = some o) → Q (.ref s.heap.objs.size) { s with heap := h' }) :
    wpAny (model prog w) A (Builtin.SmallTypes.nextOf (.ref z)) Q E s := by
  have hTy : s.TypeIs (.ref z) "zip" := by obtain ⟨_, _, h, _⟩ := hz; exact ⟨_, h, rfl⟩
  unfold Builtin.SmallTypes.nextOf
  refine wpAny_bind (wpAny_callSpecial?_slot (name := Str.ofString "__next__") hTy F.slot_zip_next (wpAny_call_entry F.slot_zip_next hTy F.entry_zip_next ?_ (F.args_zip_next_1 _)))
  rcases hz.split with ⟨f0, f, hz, hf⟩ | ⟨T, f, o, hz, hT⟩
  · exact zf_itemT D hz hf hTI hTO h1 h2 hl1 hl2 hx hy fun h' a1 a2 a3 a4 a5 a6 a7 => wpAny_pure (hQ h' ⟨_, _, a1, .inr ⟨_, rfl⟩⟩ ⟨_, _, a2⟩ a3 a4 a5 a6 a7)
  · exact zipT_next_item_held D hz hT hTI h1 h2 hl1 hl2 hx hy fun h' a1 a3 a4 a5 a6 a7 => wpAny_pure (hQ h' ⟨_, _, a1, .inr ⟨_, rfl⟩⟩ ⟨_, _, a7 _ _ D.TOz D.TOi1 D.TOi2 hTO⟩ a3 a4 a5 a6 fun c o c1 _ c3 c4 q => a7 c o c1 c3 c4 q)
theorem za_endT {k1 k2 : Nat} {xs ys : Array Value} {a b : Value} {Q : Value → Shared → Prop} (hh : A.handled = none) (D : ZipApart z TI TO i1 i2 l1 l2)
    (hz : ZAny s.heap z TI TO) (hTI : IsPair s.heap TI (.ref i1) (.ref i2)) (hTO : IsPair s.heap TO a b) (h1 : s.heap.IsTupleIter i1 l1 k1) (h2 : s.heap.IsTupleIter i2 l2 k2) (hl1 : s.heap.IsTuple l1 xs) (hl2 : s.heap.IsTuple l2 ys) (hx : xs[k1]? = none ∨ ys[k2]? = none)
    (hE : ∀ h' e, (∀ c o, c ≠ z → c ≠ TO → c ≠ i1 → c ≠ i2 → s.heap.get? c = some o → h'.get? c = some o) → (∃ o, h'.get? e = some o ∧ o.cls = .type "StopIteration") → E (.ref e) { s with heap := h' }) :
    wpAny (model prog w) A (Builtin.SmallTypes.nextOf (.ref z)) Q E s := by
  have hTy : s.TypeIs (.ref z) "zip" := by obtain ⟨_, _, h, _⟩ := hz; exact ⟨_, h, rfl⟩
  unfold Builtin.SmallTypes.nextOf
  refine wpAny_bind (wpAny_callSpecial?_slot (name := Str.ofString "__next__") hTy F.slot_zip_next (wpAny_call_entry F.slot_zip_next hTy F.entry_zip_next ?_ (F.args_zip_next_1 _)))
  rcases hz.split with ⟨f0, f, hz, hf⟩ | ⟨T, f, o, hz, hT⟩
  · exact zf_endT hh D hz hf hTI hTO h1 h2 hl1 hl2 hx hE
  · exact zipT_next_end_held hh D hz hT hTI h1 h2 hl1 hl2 hx fun h' e a1 a2 => hE h' e (fun c o c1 _ c3 c4 q => a1 c o c1 c3 c4 q) a2
/-- enumerate's next step over such a zip -/
theorem ez_nextT {e : Addr} {i : Int} {old : Value} {k1 k2 : Nat} {xs ys : Array Value} {x y a b : Value} {Q : Value → Shared → Prop} (D : ZipApart z TI TO i1 i2 l1 l2) (ez : e ≠ z) (eO : e ≠ TO) (e1 : e ≠ i1) (e2 : e ≠ i2)
    (he : IsEnum s.heap e z i old) (hz : ZAny s.heap z TI TO) (hTI : IsPair s.heap TI (.ref i1) (.ref i2)) (hTO : IsPair s.heap TO a b)
    (h1 : s.heap.IsTupleIter i1 l1 k1) (h2 : s.heap.IsTupleIter i2 l2 k2) (hl1 : s.heap.IsTuple l1 xs) (hl2 : s.heap.IsTuple l2 ys) (hx : xs[k1]? = some x) (hy : ys[k2]? = some y)
    (hQ : ∀ p1 h' tk, ZAny p1 z TI TO → (∃ a b, IsPair p1 TO a b) → p1.IsTupleIter i1 l1 (k1 + 1) → p1.IsTupleIter i2 l2 (k2 + 1) → IsPair p1 s.heap.objs.size x y → p1.objs.size = s.heap.objs.size + 1 →
      (∀ c o, c ≠ z → c ≠ TO → c ≠ i1 → c ≠ i2 → s.heap.get? c = some o → p1.get? c = some o) →
      IsEnumOut h' e z (i + 1) (.ref s.heap.objs.size) p1.objs.size → h'.get? p1.objs.size = some { cls := .type "tuple", data := .seq #[.int i tk, .ref s.heap.objs.size] } →
      (∀ c o, c ≠ e → p1.get? c = some o → h'.get? c = some o) → Q (.ref p1.objs.size) { s with heap := h', toks := tk + 1 }) :
    wpAny (model prog w) A (Builtin.«enumerate.__next__» ⟨[.ref e], []⟩) (fun fin s' => ∃ v, fin = .done (.ret v) ∧ Q v s') E s := by
  obtain ⟨hp, g, d, tk, os⟩ := s
  show wpAny _ _ (field (.ref e) 2 >>= _) _ _ _
  refine wpAny_bind (wpAny_field he rfl (x := .ref z) rfl ?_)
  refine wpAny_bind (za_nextT D hz hTI hTO h1 h2 hl1 hl2 hx hy fun p1 y1 y2 y3 y4 y5 y6 y7 => ?_)
  replace y5 : IsPair p1 hp.objs.size x y := y5
  replace y6 : p1.objs.size = hp.objs.size + 1 := y6
  replace y7 : ∀ c o, c ≠ z → c ≠ TO → c ≠ i1 → c ≠ i2 → hp.get? c = some o → p1.get? c = some o := y7
  have g1 : IsEnum p1 e z i old := y7 _ _ ez eO e1 e2 he
  show wpAny _ _ (field (.ref e) 3 >>= _) _ _ ⟨p1, g, d, tk, os⟩
  refine wpAny_bind (wpAny_field g1 rfl (x := rawInt i) rfl ?_)
  show wpAny _ _ (field (.ref e) 4 >>= _) _ _ ⟨p1, g, d, tk, os⟩
  refine wpAny_bind (wpAny_field g1 rfl (x := .none) rfl ?_)
  show wpAny _ _ (mkInt i >>= _) _ _ ⟨p1, g, d, tk, os⟩
  refine wpAny_bind (wpAny_mkInt ?_)
  show wpAny _ _ (setField (.ref e) 3 (rawInt (i + 1)) >>= _) _ _ ⟨p1, g, d, tk + 1, os⟩
  refine wpAny_bind (wpAny_setField_rec g1 (by simp) fun p2 g2 u2 => ?_)
  replace u2 : Heap.SameBut e p1 p2 := u2
  replace g2 : IsEnum p2 e z (i + 1) old := g2
  show wpAny _ _ (setField (.ref e) 4 .none >>= _) _ _ ⟨p2, g, d, tk + 1, os⟩
  refine wpAny_bind (wpAny_setField_rec g2 (by simp) fun p3 g3 u3 => ?_)
  replace u3 : Heap.SameBut e p2 p3 := u3
  replace g3 : IsEnum p3 e z (i + 1) old := g3
  show wpAny _ _ (newTuple [.int i tk, .ref hp.objs.size] >>= _) _ _ ⟨p3, g, d, tk + 1, os⟩
  refine wpAny_bind (wpAny_newTuple ?_)
  have hsz : p3.objs.size = p1.objs.size := by rw [u3.1, u2.1]
  have g4 : IsEnum (p3.push { cls := .type "tuple", data := .seq #[.int i tk, .ref hp.objs.size] }) e z (i + 1) old := Heap.get?_push_of_some _ g3
  have t4 : (p3.push { cls := .type "tuple", data := .seq #[.int i tk, .ref hp.objs.size] }).get? p1.objs.size = some { cls := .type "tuple", data := .seq #[.int i tk, .ref hp.objs.size] } := by rw [← hsz]; exact Heap.get?_push_size _ rfl
  have k4 : ∀ c o, c ≠ e → p1.get? c = some o → (p3.push { cls := .type "tuple", data := .seq #[.int i tk, .ref hp.objs.size] }).get? c = some o := fun c o hc q => Heap.get?_push_of_some _ (u3.extBut c o hc (u2.extBut c o hc q))
  have hel : e < p1.objs.size := Heap.lt_size g1
  show wpAny _ _ (Builtin.SmallTypes.ownedTupleIsFree (.ref e) >>= _) _ _ ⟨p3.push { cls := .type "tuple", data := .seq #[.int i tk, .ref hp.objs.size] }, g, d, tk + 1, os⟩
  rw [hsz]
  generalize p3.push { cls := .type "tuple", data := .seq #[.int i tk, .ref hp.objs.size] } = p4 at g4 t4 k4
  refine wpAny_bind ?_
  unfold Builtin.SmallTypes.ownedTupleIsFree
  refine wpAny_bind (wpAny_field g4 rfl (x := .none) rfl (wpAny_pure ?_))
  simp only [if_true]
  refine wpAny_bind (wpAny_rule ?_)
  refine wpAny_bind (wpAny_field g4 rfl (x := old) rfl ?_)
  refine wpAny_bind (wpAny_setField_rec g4 (by simp) fun p5 g5 u5 => ?_)
  replace u5 : Heap.SameBut e p4 p5 := u5
  replace g5 : IsEnum p5 e z (i + 1) (.ref hp.objs.size) := g5
  show wpAny _ _ (Builtin.SmallTypes.ownedTupleHandOut (.ref e) (.ref p1.objs.size) >>= _) _ _ ⟨p5, g, d, tk + 1, os⟩
  refine wpAny_bind ?_
  unfold Builtin.SmallTypes.ownedTupleHandOut
  refine wpAny_bind (wpAny_setField_rec g5 (by simp) fun p6 g6 u6 => ?_)
  replace u6 : Heap.SameBut e p5 p6 := u6
  replace g6 : IsEnumOut p6 e z (i + 1) (.ref hp.objs.size) p1.objs.size := g6
  refine wpAny_setField_rec g6 (by simp) fun p7 g7 u7 => ?_
  replace u7 : Heap.SameBut e p6 p7 := u7
  replace g7 : IsEnumOut p7 e z (i + 1) (.ref hp.objs.size) p1.objs.size := g7
  have k7 : ∀ c o, c ≠ e → p4.get? c = some o → p7.get? c = some o := fun c o hc q => u7.extBut c o hc (u6.extBut c o hc (u5.extBut c o hc q))
  exact wpAny_bind (wpAny_letGo (wpAny_pure ⟨_, rfl, hQ p1 p7 tk y1 y2 y3 y4 y5 y6 y7 g7 (k7 _ _ (Nat.ne_of_gt hel) t4) fun c o hc q => k7 c o hc (k4 c o hc q)⟩))
end
/-- the lists at a and b as they stand at each turn, the items in a new pair, that in a new pair with its place -/
def ItzET (K : PySem.W.Frag) (a b : Addr) : It where
  go := fun i H => ∃ (xs ys : List V) (x y : V), SqT K H a xs ∧ SqT K H b ys ∧ xs[i]? = some x ∧ ys[i]? = some y
  yld := fun i H v H' => ∃ T U x y, v = .ref U ∧ H T = none ∧ H U = none ∧ T ≠ U ∧ H' = upd (upd H T (.tup [x, y])) U (.tup [.int (i : Nat), .ref T]) ∧ (∀ xs, SqT K H a xs → xs[i]? = some x) ∧ ∀ ys, SqT K H b ys → ys[i]? = some y
  stop := fun i H => ∃ xs ys : List V, SqT K H a xs ∧ SqT K H b ys ∧ (xs.length ≤ i ∨ ys.length ≤ i)
theorem turn_enumZT {P : Program} {w : World} {K : PySem.W.Frag} {elts : List Expr} {kk : Nat} {tpos : Pos} {a b e z TI TO i1 i2 : Addr} (D : ZipApart z TI TO i1 i2 a b) (ez : e ≠ z) (eI : e ≠ TI) (eO : e ≠ TO) (e1 : e ≠ i1) (e2 : e ≠ i2) :
    Turn P w K (.Tuple elts kk tpos) (ItzET K a b) [e, z, TI, TO, i1, i2] e (fun i h => (∃ old, IsEnum h e z ((i : Nat) : Int) old) ∧ ZAny h z TI TO ∧ IsPair h TI (.ref i1) (.ref i2) ∧ (∃ x y, IsPair h TO x y) ∧ h.IsTupleIter i1 a i ∧ h.IsTupleIter i2 b i) where
  mem := by simp
  obj := fun i h st c hc => by
    obtain ⟨⟨old, he⟩, ⟨f0, f, hz, _⟩, hTI, ⟨x, y, hTO⟩, ⟨o1, q1, _, d1⟩, ⟨o2, q2, _, d2⟩⟩ := st
    have e' : c = e ∨ c = z ∨ c = TI ∨ c = TO ∨ c = i1 ∨ c = i2 := by simpa using hc
    rcases e' with q | q | q | q | q | q
    · rw [q]; exact ⟨_, he, fun v q => nomatch q⟩
    · rw [q]; exact ⟨_, hz, fun v q => nomatch q⟩
    · rw [q]; exact ⟨_, hTI, fun v q => nomatch q⟩
    · rw [q]; exact ⟨_, hTO, fun v q => nomatch q⟩
    · rw [q]; exact ⟨o1, q1, fun v q => by rw [d1] at q; cases q⟩
    · rw [q]; exact ⟨o2, q2, fun v q => by rw [d2] at q; cases q⟩
  keep := fun i h h' st k => by
    obtain ⟨⟨old, he⟩, ⟨f0, f, hz, hf⟩, hTI, ⟨x, y, hTO⟩, h1, h2⟩ := st
    exact ⟨⟨old, k e (by simp) _ he⟩, ⟨f0, f, k z (by simp) _ hz, hf⟩, k TI (by simp) _ hTI, ⟨x, y, k TO (by simp) _ hTO⟩, h1.at fun o q => k i1 (by simp) o q, h2.at fun o q => k i2 (by simp) o q⟩
  item := by
    intro X hP hw hK hc i pins s σ H E I hf st hg
    subst hP hw hK
    obtain ⟨⟨old, he⟩, hz, hTI, ⟨x0, y0, hTO⟩, h1, h2⟩ := st
    obtain ⟨xs, ys, x, y, hqx, hqy, hx, hy⟩ := hg
    obtain ⟨its, rv, p, _⟩ := I.tuple hqx
    obtain ⟨its2, rv2, p2, _⟩ := I.tuple hqy
    obtain ⟨u, hu, ru⟩ := rv.get hx
    obtain ⟨u2, hu2, ru2⟩ := rv2.get hy
    have hTy : s.TypeIs (.ref e) "enumerate" := ⟨_, he, rfl⟩
    have cell : ∀ c ∈ [e, z, TI, TO, i1, i2], c < s.heap.objs.size := fun c hcm => by
      have e' : c = e ∨ c = z ∨ c = TI ∨ c = TO ∨ c = i1 ∨ c = i2 := by simpa using hcm
      obtain ⟨f0, f, hz', _⟩ := hz
      rcases e' with q | q | q | q | q | q
      · rw [q]; exact Heap.lt_size he
      · rw [q]; exact Heap.lt_size hz'
      · rw [q]; exact Heap.lt_size hTI
      · rw [q]; exact Heap.lt_size hTO
      · rw [q]; obtain ⟨_, q1, _⟩ := h1; exact Heap.lt_size q1
      · rw [q]; obtain ⟨_, q2, _⟩ := h2; exact Heap.lt_size q2
    unfold pyNext
    refine wpAny_bind (wpAny_attempt (wpAny_callSpecial?_slot (name := Str.ofString "__next__") hTy F.slot_enumerate_next (wpAny_call_entry F.slot_enumerate_next hTy F.entry_enumerate_next
      (ez_nextT D ez eO e1 e2 he hz hTI hTO h1 h2 p p2 (x := u) (y := u2) (by simpa using hu) (by simpa using hu2) fun p1 h' tk y1 y2 y3 y4 y5 y6 y7 g7 t7 k7 => wpAny_pure ?_) (F.args_enumerate_next_1 _))))
    refine ⟨_, rfl, wpAny_letOwnedTupleGo_enum (s := { s with heap := h', toks := tk + 1 }) g7 fun h'' g'' sb => ?_⟩
    have hel := cell e (by simp)
    have k8 : ∀ c o, c ≠ e → p1.get? c = some o → h''.get? c = some o := fun c o hce q => (sb.2 c hce).trans (k7 c o hce q)
    have hTn : H s.heap.objs.size = none := I.hok.fresh (Nat.le_refl _)
    have new1 : ObjOk X.prog X.w (upd H s.heap.objs.size (.tup [x, y])) p1 s.heap.objs.size (.tup [x, y]) := ⟨by show 2 ≤ sizeLine; decide, [u, u2], .cons ru (.cons ru2 .nil), ⟨_, y5, rfl, _, rfl⟩⟩
    have I1 : Inv X pins σ (upd H s.heap.objs.size (.tup [x, y])) { s with heap := p1, toks := s.toks } :=
      I.turnedNew (ch := [e, z, TI, TO, i1, i2]) (fun c o hb q => y7 c o (fun q' => hb (by simp [q'])) (fun q' => hb (by simp [q'])) (fun q' => hb (by simp [q'])) (fun q' => hb (by simp [q'])) q) hf (Nat.le_refl _) new1
    have hf1 : ∀ c ∈ [e, z, TI, TO, i1, i2], FpOk X pins (upd H s.heap.objs.size (.tup [x, y])) c := fun c hcm => ⟨by rw [upd_ne (Nat.ne_of_lt (cell c hcm))]; exact (hf c hcm).1, (hf c hcm).2⟩
    have t8 : h''.get? p1.objs.size = some { cls := .type "tuple", data := .seq #[.int (i : Nat) tk, .ref s.heap.objs.size] } := (sb.2 _ (by rw [y6]; exact Nat.ne_of_gt (Nat.lt_succ_of_lt hel))).trans t7
    have new2 : ObjOk X.prog X.w (upd (upd H s.heap.objs.size (.tup [x, y])) p1.objs.size (.tup [.int (i : Nat), .ref s.heap.objs.size])) h'' p1.objs.size (.tup [.int (i : Nat), .ref s.heap.objs.size]) :=
      ⟨by show 2 ≤ sizeLine; decide, [.int (i : Nat) tk, .ref s.heap.objs.size], .cons ⟨_, rfl⟩ (.cons rfl .nil), ⟨_, t8, rfl, _, rfl⟩⟩
    have hTU : s.heap.objs.size ≠ p1.objs.size := by rw [y6]; exact Nat.ne_of_lt (Nat.lt_succ_self _)
    have hUn0 : (upd H s.heap.objs.size (.tup [x, y])) p1.objs.size = none := I1.hok.fresh (Nat.le_refl _)
    have hUn : H p1.objs.size = none := by rw [upd_ne hTU.symm] at hUn0; exact hUn0
    have I2 : Inv X pins σ (upd (upd H s.heap.objs.size (.tup [x, y])) p1.objs.size (.tup [.int (i : Nat), .ref s.heap.objs.size])) { s with heap := h'', toks := tk + 1 } :=
      I1.turnedNew (ch := [e, z, TI, TO, i1, i2]) (fun c o hb q => k8 c o (fun q' => hb (by simp [q'])) q) hf1 (Nat.le_refl _) new2
    refine ⟨.ref p1.objs.size, _, I2, rfl, ⟨_, _, x, y, rfl, hTn, hUn, hTU, rfl, fun l hl => by rw [I.tuple_inj hl hqx]; exact hx, fun l hl => by rw [I.tuple_inj hl hqy]; exact hy⟩, ⟨⟨.ref s.heap.objs.size, ?_⟩, ?_, ?_, ?_, ?_, ?_⟩, fun c hcm => ?_⟩
    · rw [show ((i + 1 : Nat) : Int) = (i : Int) + 1 by omega]
      exact g''
    · obtain ⟨f0, f, hz', hf'⟩ := y1
      exact ⟨f0, f, k8 _ _ ez.symm hz', hf'⟩
    · exact k8 _ _ eI.symm (y7 _ _ D.TIz D.TITO D.TIi1 D.TIi2 hTI)
    · obtain ⟨a', b', q⟩ := y2
      exact ⟨a', b', k8 _ _ eO.symm q⟩
    · exact y3.at fun o q => k8 _ o e1.symm q
    · exact y4.at fun o q => k8 _ o e2.symm q
    · have hlt := cell c hcm
      rw [upd_ne (by rw [y6]; exact Nat.ne_of_lt (Nat.lt_succ_of_lt hlt))]
      exact (hf1 c hcm).1
  done := by
    intro X hP hw hK hc i pins s σ H E I hf st hg
    subst hP hw hK
    obtain ⟨⟨old, he⟩, hz, hTI, ⟨x0, y0, hTO⟩, h1, h2⟩ := st
    obtain ⟨xs, ys, hqx, hqy, hend⟩ := hg
    obtain ⟨its, rv, p, _⟩ := I.tuple hqx
    obtain ⟨its2, rv2, p2, _⟩ := I.tuple hqy
    have l1 := rv.length
    have l2 := rv2.length
    have hx : its.toArray[i]? = none ∨ its2.toArray[i]? = none := by rcases hend with h | h; (exact .inl (by simp; omega)); exact .inr (by simp; omega)
    have hTy : s.TypeIs (.ref e) "enumerate" := ⟨_, he, rfl⟩
    unfold pyNext
    refine wpAny_bind (wpAny_attempt (wpAny_callSpecial?_slot (name := Str.ofString "__next__") hTy F.slot_enumerate_next (wpAny_call_entry F.slot_enumerate_next hTy F.entry_enumerate_next ?_ (F.args_enumerate_next_1 _))))
    show wpAny _ _ (field (.ref e) 2 >>= _) _ _ _
    refine wpAny_bind (wpAny_field he rfl (x := .ref z) rfl ?_)
    refine wpAny_bind (za_endT (I.ok.hd hc) D hz hTI hTO h1 h2 p p2 hx fun h' er hk hx' => ?_)
    obtain ⟨o, ho, hco⟩ := hx'
    refine wpAny_bind (wpAny_isInstance (T := "StopIteration") (b := true) ⟨o, ho, hco⟩ isSubtype_stop ?_)
    exact wpAny_pure ⟨rfl, I.turnedL (t' := s.toks) (ch := [e, z, TI, TO, i1, i2]) (fun c o hb q => hk c o (fun q' => hb (by simp [q'])) (fun q' => hb (by simp [q'])) (fun q' => hb (by simp [q'])) (fun q' => hb (by simp [q'])) q) hf⟩
  self := fun A i s Q E st h => let ⟨⟨_, he⟩, _⟩ := st; wpAny_pyIter_enum he h
def iEnumZT (K : PySem.W.Frag) (ta : TA) : TI := fun σ H R => ta σ H fun vs H1 => ∃ a b xs ys, vs = [.ref a, .ref b] ∧ SqT K H1 a xs ∧ SqT K H1 b ys ∧ R (ItzET K a b) H1
theorem pi_enumZT {X : Cx} {e e2 : Expr} {ta : TA} {p p1 pos pos2 tpos : Pos} {elts : List Expr} {kk : Nat} (hg2 : Gl X "enumerate") (hm2 : X.mg "enumerate" = none) (hg : Gl X "zip") (hm : X.mg "zip" = none) (ha : PA X [e, e2] ta)
    (hs : starEach [e, e2] X.env = (false, eval e X.env) :: starEach [e2] X.env := by rfl) (hpl : (backTo pos (starEach [e2] X.env)).any (·.1) = false := by rfl)
    (hs2 : starEach [.Call (.Name "zip" p) [e, e2] [] pos] X.env = (false, eval (.Call (.Name "zip" p) [e, e2] [] pos) X.env) :: starEach [] X.env := by rfl) :
    PI X (.Tuple elts kk tpos) (.Call (.Name "enumerate" p1) [.Call (.Name "zip" p) [e, e2] [] pos] [] pos2) (iEnumZT X.K ta) := by
  refine ⟨fun pins s σ H R I h => ?_⟩
  refine Call_ (ld_blt I hg2 hm2 boot_enumerate (PyProof.Rows.callWith_type1 ?_ hs2 rfl))
  rw [hs2]
  show wpAny _ _ (spliced ((false, eval (.Call (.Name "zip" p) [e, e2] [] pos) X.env) :: backTo pos2 (starEach [] X.env))) _ _ s
  refine Calls.spliced_cons ?_
  refine Call_ (ld_blt I hg hm PyProof.Rows.boot_zip (PyProof.Rows.callWith_type1 (thn (ha.run pos pins s σ H _ I h) fun us s1 ⟨vs, H1, I1, r1, q1⟩ => ?_) hs hpl))
  obtain ⟨a, b, xs, ys, rfl, hqx, hqy, q⟩ := q1
  cases r1 with
  | cons r rr =>
    cases rr with
    | cons r' rr =>
      cases rr
      cases r
      cases r'
      obtain ⟨its, rv, p1', _⟩ := I1.tuple hqx
      obtain ⟨its2, rv2, p2', _⟩ := I1.tuple hqy
      refine RZ.call_zipT p1' p2' fun h' hz hTI hTO h1 h2 hsz hk => Calls.spliced_nil ?_
      refine call_enumZ (s := { s1 with heap := h' }) hz fun h'' he hk2 => wpAny_pyIter_enum he ?_
      have he5 : h'.objs.size = s1.heap.objs.size + 5 := hsz
      have I2 : Inv X pins σ H1 { s1 with heap := h'' } := I1.kept (t' := s1.toks) fun c o q => hk2 c o (hk c o q)
      have fresh6 : ∀ c, c ∈ [h'.objs.size, s1.heap.objs.size + 4, s1.heap.objs.size + 2, s1.heap.objs.size + 3, s1.heap.objs.size, s1.heap.objs.size + 1] → FpOk X pins H1 c := fun c hcm => by
        have e' : c = h'.objs.size ∨ c = s1.heap.objs.size + 4 ∨ c = s1.heap.objs.size + 2 ∨ c = s1.heap.objs.size + 3 ∨ c = s1.heap.objs.size ∨ c = s1.heap.objs.size + 1 := by simpa using hcm
        have hle : s1.heap.objs.size ≤ c := by
          rcases e' with z | z | z | z | z | z
          · rw [z, he5]; exact Nat.le_add_right _ _
          · rw [z]; exact Nat.le_add_right _ _
          · rw [z]; exact Nat.le_add_right _ _
          · rw [z]; exact Nat.le_add_right _ _
          · rw [z]; exact Nat.le_refl _
          · rw [z]; exact Nat.le_add_right _ _
        exact I1.fpOk hle (I1.hok.fresh hle)
      have ne : ∀ k, k < 5 → h'.objs.size ≠ s1.heap.objs.size + k := fun k hk5 q => by rw [he5] at q; exact absurd (Nat.add_left_cancel q) (Nat.ne_of_gt hk5)
      exact ⟨h'.objs.size, [h'.objs.size, s1.heap.objs.size + 4, s1.heap.objs.size + 2, s1.heap.objs.size + 3, s1.heap.objs.size, s1.heap.objs.size + 1], _, _, H1, rfl, I2,
        turn_enumZT (PySem.W.ktu_apart s1.heap.objs.size a b p1'.lt p2'.lt) (ne 4 (by decide)) (ne 2 (by decide)) (ne 3 (by decide)) (ne 0 (by decide)) (ne 1 (by decide)),
        ⟨⟨.none, he⟩, ⟨.none, false, hk2 _ _ hz, .inl rfl⟩, hk2 _ _ hTI, ⟨_, _, hk2 _ _ hTO⟩, h1.at fun o q => hk2 _ o q, h2.at fun o q => hk2 _ o q⟩, fresh6, q⟩
theorem walk_enumZT {K : PySem.W.Frag} {a b : Addr} {xs ys : List V} {n : Nat} (hn : n = min xs.length ys.length) : Walk (ItzET K a b) n (fun H => SqT K H a xs ∧ SqT K H b ys) (YPP xs ys) := by
  refine ⟨fun i _ hi q => ⟨xs, ys, xs[i]'(by omega), ys[i]'(by omega), q.1, q.2, List.getElem?_eq_getElem _, List.getElem?_eq_getElem _⟩, fun _ q => ⟨xs, ys, q.1, q.2, by omega⟩, fun i H v H' _ q y => ?_⟩
  obtain ⟨T, U, x, y', h1, h2, h3, h4, h5, h6, h7⟩ := y
  exact ⟨T, U, x, y', h1, h2, h3, h4, h5, h6 xs q.1, h7 ys q.2⟩
end LK

set_option Elab.async false
set_option linter.all false
set_option maxRecDepth 100000
set_option maxHeartbeats 4000000
/-! sets of pairs of tuples: set(), add, not in, where nothing is found -/
namespace LK
open PySem PySem.Spec PyProof.Rows L2
section
variable {prog : Program} {w : World} {A : Around} {E : Value → Shared → Prop} {s : Shared}
theorem hash_tt {a a1 a2 : Addr} {k1 k2 : List Key} {o : Obj} {n : Nat} {Q : Int → Shared → Prop} (hu : A.units + 1 < cLine) (ho : s.heap.get? a = some o) (hc : o.cls = .type "tuple") (hd : o.data = .seq #[.ref a1, .ref a2] n) (h1 : IsTupleKey (mixKind prog w) s.heap k1 a1) (h2 : IsTupleKey (mixKind prog w) s.heap k2 a2)
    (hQ : ∀ h tk, Q h { s with toks := tk }) : wpAny (model prog w) A (pyHash (.ref a)) Q E s := by
  have hT : s.TypeIs (.ref a) "tuple" := ⟨o, ho, hc⟩
  show wpAny _ _ (pyHashByItsType (.ref a)) _ _ _
  refine wpAny_bind (wpAny_cRoomFor_or (Or.inr (by omega)) ?_)
  refine wpAny_bind (wpAny_specialOf hT F.slot_tuple_hash.lookup ?_)
  show wpAny _ _ (if (some (Value.builtin "tuple.__hash__") == some Value.none) = true then _ else _) _ _ _
  rw [if_neg (by rw [beq_builtin_none "tuple.__hash__"]; exact Bool.false_ne_true)]
  refine wpAny_bind (wpAny_specialOf hT F.slot_tuple_hash.lookup ?_)
  refine wpAny_bind (wpAny_callSpecialIfBoundUnlessNone?_slot hT F.slot_tuple_hash (wpAny_call_entry F.slot_tuple_hash hT F.entry_tuple_hash ?_ ?_))
  · refine wpAny_bind (wpAny_pure ?_)
    refine wpAny_bind (wpAny_tupleItemsOf ho hd ?_)
    refine wpAny_bind ?_
    rw [← Array.forIn_toList]
    simp only [List.forIn_cons, List.forIn_nil]
    refine wpAny_bind (wpAny_bind (wpAny_pyHash_tuple (by show A.units + 1 < cLine; exact hu) h1 (wpAny_pure ?_)))
    refine wpAny_bind (wpAny_bind (wpAny_pyHash_tuple (by show A.units + 1 < cLine; exact hu) h2 (wpAny_pure ?_)))
    refine wpAny_pure ?_
    refine wpAny_ret_mkInt ?_
    show wpAny _ _ (pyHashByItsType.reduced _) _ _ _
    unfold pyHashByItsType.reduced
    split
    · exact wpAny_pure (hQ _ _)
    · exact wpAny_bind (wpAny_rule (wpAny_pure (hQ _ _)))
  · exact F.args_tuple_hash_1 (Value.ref a)
/-- two tuples that are not equal, told apart -/
theorem eqBool_no {a b : Addr} {d e : PyData} {as bs : List Addr} {Q : Bool → Shared → Prop} (ra : Reads s.heap (.ref a) d as) (rb : Reads s.heap (.ref b) e bs) (sd : d.canLay0 = true) (se : e.canLay0 = true) (hu : A.units + min d.depth e.depth < cLine) (hne : d.eqv e = false) (hab : a ≠ b)
    (hQ : Q false s) : wpAny (model prog w) A (eqBool (.ref a) (.ref b)) Q E s := by
  unfold eqBool
  refine wpAny_holding ?_
  rw [if_neg (by simp [hab])]
  refine wpAny_bind ?_
  refine SeqAt.compareEq_reads ra rb sd se hu ?_
  rw [hne]
  exact wpAny_pure hQ
/-- a tuple whose items are quiet -/
theorem quiet_tup {n m : Nat} {a : Addr} {o : Obj} {items : Array Value} {Q : Bool → Shared → Prop} (ho : s.heap.get? a = some o) (hc : o.cls = .type "tuple") (hd : o.data = .seq items m)
    (hi : ∀ y ∈ items.toList, ∀ {Q : Bool → Shared → Prop}, Q true s → wpAny (model prog w) A (eqIsQuiet n y) Q E s) (hQ : Q true s) : wpAny (model prog w) A (eqIsQuiet (n + 1) (.ref a)) Q E s := by
  have hT : s.TypeIs (.ref a) "tuple" := ⟨o, ho, hc⟩
  rw [eqIsQuiet.eq_def]
  refine wpAny_bind (wpAny_specialOf hT F.slot_tuple_eq.lookup ?_)
  refine wpAny_bind (wpAny_isInstance hT isSubtype_tuple_tuple ?_)
  simp only [Bool.not_true, Bool.false_eq_true, if_false]
  refine wpAny_bind (wpAny_seqItems ho hd (wpAny_bind ?_))
  show wpAny _ _ (forIn items _ _) _ _ _
  rw [← Array.forIn_toList]
  refine wpAny_forIn_list _ (fun rest r s' => r.fst = none ∧ s' = s ∧ ∀ v ∈ rest, v ∈ items.toList) _ (fun v rest r s' ⟨hr, hs, hall⟩ => ?_) (fun r s' ⟨hr, hs, _⟩ => ?_) items.toList _ ⟨rfl, rfl, fun v hv => hv⟩
  · subst hs
    refine wpAny_bind (hi v (hall v List.mem_cons_self) ?_)
    simp only [Bool.not_true, Bool.false_eq_true, if_false]
    exact wpAny_pure ⟨rfl, rfl, fun u hu => hall u (List.mem_cons_of_mem _ hu)⟩
  · subst hs
    rw [hr]
    exact wpAny_pure hQ
theorem class_tup {n m : Nat} {a : Addr} {o : Obj} {items : Array Value} {Q : Bool → Shared → Prop} (ho : s.heap.get? a = some o) (hc : o.cls = .type "tuple") (hd : o.data = .seq items m)
    (hi : ∀ y ∈ items.toList, ∀ {Q : Bool → Shared → Prop}, Q false s → wpAny (model prog w) A (ofAClassStatement n y) Q E s) (hQ : Q false s) : wpAny (model prog w) A (ofAClassStatement (n + 1) (.ref a)) Q E s := by
  have hT : s.TypeIs (.ref a) "tuple" := ⟨o, ho, hc⟩
  rw [ofAClassStatement.eq_def]
  refine wpAny_bind (wpAny_typeOf hT ?_)
  show wpAny _ _ (if (("tuple" : String) == "tuple") = true then _ else _) _ _ _
  rw [if_pos (by decide)]
  refine wpAny_bind (wpAny_pure ?_)
  simp only [Bool.not_true, Bool.false_eq_true, if_false]
  refine wpAny_bind (wpAny_seqItems ho hd (wpAny_bind ?_))
  show wpAny _ _ (forIn items _ _) _ _ _
  rw [← Array.forIn_toList]
  refine wpAny_forIn_list _ (fun rest r s' => r.fst = none ∧ s' = s ∧ ∀ v ∈ rest, v ∈ items.toList) _ (fun v rest r s' ⟨hr, hs, hall⟩ => ?_) (fun r s' ⟨hr, hs, _⟩ => ?_) items.toList _ ⟨rfl, rfl, fun v hv => hv⟩
  · subst hs
    refine wpAny_bind (hi v (hall v List.mem_cons_self) ?_)
    simp only [Bool.false_eq_true, if_false]
    exact wpAny_pure ⟨rfl, rfl, fun u hu => hall u (List.mem_cons_of_mem _ hu)⟩
  · subst hs
    rw [hr]
    exact wpAny_pure hQ
theorem val_tup {n m : Nat} {a : Addr} {o : Obj} {items : Array Value} {Q : Bool → Shared → Prop} (ho : s.heap.get? a = some o) (hc : o.cls = .type "tuple") (hd : o.data = .seq items m)
    (hi : ∀ y ∈ items.toList, ∀ {Q : Bool → Shared → Prop}, (∀ b, Q b s) → wpAny (model prog w) A (hashByValue n y) Q E s) (hQ : ∀ b, Q b s) : wpAny (model prog w) A (hashByValue (n + 1) (.ref a)) Q E s := by
  have hT : s.TypeIs (.ref a) "tuple" := ⟨o, ho, hc⟩
  rw [hashByValue.eq_def]
  refine wpAny_bind (wpAny_specialOf hT F.slot_tuple_hash.lookup ?_)
  refine wpAny_bind (wpAny_seqItems ho hd (wpAny_bind ?_))
  show wpAny _ _ (forIn items _ _) _ _ _
  rw [← Array.forIn_toList]
  refine wpAny_forIn_list _ (fun rest r s' => r.fst = none ∧ s' = s ∧ ∀ v ∈ rest, v ∈ items.toList) _ (fun v rest r s' ⟨hr, hs, hall⟩ => ?_) (fun r s' ⟨hr, hs, _⟩ => ?_) items.toList _ ⟨rfl, rfl, fun v hv => hv⟩
  · subst hs
    refine wpAny_bind (hi v (hall v List.mem_cons_self) fun b => ?_)
    cases b with
    | false => exact wpAny_pure (wpAny_pure (hQ _))
    | true =>
      simp only [Bool.not_true, Bool.false_eq_true, if_false]
      exact wpAny_pure ⟨rfl, rfl, fun u hu => hall u (List.mem_cons_of_mem _ hu)⟩
  · subst hs
    obtain ⟨r1, r2⟩ := r
    obtain rfl : r1 = none := hr
    exact wpAny_pure (hQ _)
/-- the set object at a: its elements by the table -/
structure MetR (h : Heap) (a : Addr) (L : List Addr) (es : Array (Int × Value)) (ep : Nat) (t : SetTable) : Prop where
  ob : ∃ o, h.get? a = some o ∧ o.ExactSet ∧ o.data = .set es ep t
  rows : es.toList.map (·.2) = L.map Value.ref
  tab : TabOk t (es.toList.map (·.1))
  m7 : t.mask = 7
  few : L.length ≤ 2
theorem MetR.len {h : Heap} {a : Addr} {L : List Addr} {es : Array (Int × Value)} {ep : Nat} {t : SetTable} (R : MetR h a L es ep t) : es.size = L.length := by
  have := congrArg List.length R.rows
  simpa using this
theorem MetR.fits {h : Heap} {a : Addr} {L : List Addr} {es : Array (Int × Value)} {ep : Nat} {t : SetTable} (R : MetR h a L es ep t) : t.fits es.size = true := by
  have h1 := R.tab.sz
  have h2 := R.len
  have h3 := R.tab.dm
  have h4 := R.few
  have h5 := R.m7
  rw [List.length_map, Array.length_toList] at h1
  unfold SetTable.fits SetTable.fill
  rw [h1, h3, h5, h2, beq_self_eq_true, Bool.true_and]
  exact decide_eq_true (by show L.length + 0 ≤ 7; omega)
structure Calm (prog : Program) (w : World) (A : Around) (E : Value → Shared → Prop) (s : Shared) (z : Addr) : Prop where
  q : ∀ {Q : Bool → Shared → Prop}, Q true s → wpAny (model prog w) A (eqIsQuiet 8 (.ref z)) Q E s
  c : ∀ {Q : Bool → Shared → Prop}, Q false s → wpAny (model prog w) A (ofAClassStatement 8 (.ref z)) Q E s
  v : ∀ {Q : Bool → Shared → Prop}, (∀ b, Q b s) → wpAny (model prog w) A (hashByValue 8 (.ref z)) Q E s
theorem seen_no {x : Addr} {ys : List Value} {Q : Bool → Shared → Prop} (hx : Calm prog w A E s x) (hy : ∀ y ∈ ys, ∃ z, y = .ref z ∧ Calm prog w A E s z) (hQ : Q false s) : wpAny (model prog w) A (searchCouldBeSeen (.ref x) ys) Q E s := by
  unfold searchCouldBeSeen
  refine wpAny_bind ?_
  refine wpAny_forIn_list _ (fun rest r s' => r.fst = none ∧ s' = s ∧ ∀ v ∈ rest, v ∈ ys) _ (fun v rest r s' ⟨hr, hs, hall⟩ => ?_) (fun r s' ⟨hr, hs, _⟩ => ?_) ys _ ⟨rfl, rfl, fun v hv => hv⟩
  · subst hs
    obtain ⟨z, rfl, cz⟩ := hy v (hall v List.mem_cons_self)
    have nx : ∀ u ∈ rest, u ∈ ys := fun u hu => hall u (List.mem_cons_of_mem _ hu)
    show wpAny _ _ (if ((x == z) || carriedByValue (.ref x) && carriedByValue (.ref z)) = true then _ else _) _ _ _
    split
    · exact wpAny_pure ⟨rfl, rfl, nx⟩
    · refine wpAny_bind (hx.q ?_)
      simp only [Bool.not_true, Bool.false_eq_true, if_false]
      refine wpAny_bind (cz.q ?_)
      simp only [Bool.not_true, Bool.false_eq_true, if_false]
      refine wpAny_bind (hx.c ?_)
      simp only [Bool.false_eq_true, if_false]
      refine wpAny_bind (cz.c ?_)
      simp only [Bool.false_eq_true, if_false]
      exact wpAny_pure ⟨rfl, rfl, nx⟩
  · subst hs
    obtain ⟨r1, r2⟩ := r
    obtain rfl : r1 = none := hr
    exact wpAny_pure hQ
theorem MetR.at {h : Heap} {a : Addr} {L : List Addr} {es : Array (Int × Value)} {ep : Nat} {t : SetTable} (R : MetR h a L es ep t) {e : Int × Value} (he : e ∈ es.toList) : ∃ z, e.2 = .ref z ∧ z ∈ L := by
  have : e.2 ∈ es.toList.map (·.2) := List.mem_map_of_mem he
  rw [R.rows] at this
  obtain ⟨z, hz, h⟩ := List.mem_map.mp this
  exact ⟨z, h.symm, hz⟩
theorem search_no {a x : Addr} {L : List Addr} {es : Array (Int × Value)} {ep : Nat} {t : SetTable} {h : Int} {add : Bool} (R : MetR s.heap a L es ep t) (cx : Calm prog w A E s x) (cL : ∀ z ∈ L, Calm prog w A E s z) {K : Nat} (hKf : K < 10 * SetTable.turns t.mask) (hK : ¬ way t.mask h K ∈ t.place.toList) (hKb : ∀ c, c < K → way t.mask h c ∈ t.place.toList)
    (heq : ∀ z ∈ L, ∀ {Q : Bool → Shared → Prop}, Q false s → wpAny (model prog w) A (eqBool (.ref z) (.ref x)) Q E s)
    {Q : SetFound → Shared → Prop} (hout : Q (.free (way t.mask h K) false) s) : ∀ (f c : Nat) (stand : Option SetTable.Probe), stand.getD (t.probeStart h) = nth t.mask (runAt t.mask (SetTable.bits h % (t.mask + 1)) (SetTable.bits h)) c → c ≤ K → K - c < f →
      wpAny (model prog w) A (setSearchFrom a (.ref x) h add f stand) Q E s
  | 0, c, stand, _, _, hf => absurd hf (Nat.not_lt_zero _)
  | f + 1, c, stand, hst, hc, hf => by
    obtain ⟨o, ho, hex, hd⟩ := R.ob
    rw [setSearchFrom_succ]
    refine wpAny_bind (wpAny_setState_of ho hd R.fits ?_)
    show wpAny _ _ (if t.gaveWay = true then _ else _) _ _ _
    rw [if_neg (by unfold SetTable.gaveWay; rw [R.m7]; decide)]
    refine wpAny_bind (wpAny_pure ?_)
    have key : ∀ (n : Nat) (p : SetTable.Probe), p.dummy = none → (nth t.mask p n).dummy = none := by
      intro n
      induction n with
      | zero => exact fun p h => h
      | succ n ih =>
        intro p h
        refine ih (adv t.mask p) ?_
        unfold adv
        split <;> exact h
    have sh : ∀ q, nth t.mask (nth t.mask (runAt t.mask (SetTable.bits h % (t.mask + 1)) (SetTable.bits h)) c) q = nth t.mask (runAt t.mask (SetTable.bits h % (t.mask + 1)) (SetTable.bits h)) (c + q) := fun q => (nth_add _ _ _ _).symm
    have hd0 := key c (runAt t.mask (SetTable.bits h % (t.mask + 1)) (SetTable.bits h)) rfl
    generalize nth t.mask (runAt t.mask (SetTable.bits h % (t.mask + 1)) (SetTable.bits h)) c = p0 at hst sh hd0
    have spec := go_spec t R.tab.ris R.tab.dm (fun i => (Option.map (fun x => x.fst) es[i]?).getD 0) h (10 * SetTable.turns t.mask) (K - c) p0 hd0 (by omega)
      (fun q hq => by rw [sh]; exact hKb (c + q) (by omega)) (by rw [sh, show c + (K - c) = K by omega]; exact hK)
    rw [hst]
    rcases spec with ⟨q, i, hq, hi, hh, hno, hpr⟩ | ⟨hno, hpr⟩
    · rw [show t.probe (fun i => (Option.map (fun x => x.fst) es[i]?).getD 0) h p0 = some (SetTable.Met.candidate (nth t.mask p0 q).j i (nth t.mask p0 (q + 1))) from hpr]
      have hil : i < es.size := by
        have h1 := (List.getElem?_eq_some_iff.mp hi).1
        have h2 := R.tab.sz
        rw [List.length_map, Array.length_toList] at h2
        rw [Array.length_toList] at h1
        omega
      have hes : es[i]? = some es[i] := Array.getElem?_eq_getElem hil
      obtain ⟨z, ez, hz⟩ := R.at (e := es[i]) (Array.getElem_mem_toList hil)
      have rest : wpAny (model prog w) A (searchRest a (.ref x) h add f es t (nth t.mask p0 q).j i (nth t.mask p0 (q + 1))) Q E s := by
        unfold searchRest
        rw [hes]
        show wpAny _ _ (holding [es[i].2] (eqBool es[i].2 (.ref x)) >>= _) _ _ _
        rw [ez]
        refine wpAny_bind (wpAny_holding (heq z hz ?_))
        refine wpAny_bind (wpAny_setState_of ho hd R.fits ?_)
        show wpAny _ _ (if (add && false) = true then _ else _) _ _ _
        rw [Bool.and_false, if_neg Bool.false_ne_true]
        have hsm : t.sameMemory t.moves t.mask = some true := by unfold SetTable.sameMemory; rw [if_pos (by simp)]
        rw [hsm]
        show wpAny _ _ (match if true = true then t.slot _ else SetTable.Slot.empty with | SetTable.Slot.live i' => _ | _ => _) _ _ _
        rw [if_pos rfl, slot_live R.tab.ris hi]
        show wpAny _ _ (match es[i]? with | some (fst, y') => _ | none => _) _ _ _
        rw [hes]
        show wpAny _ _ (isSame es[i].2 es[i].2 >>= _) _ _ _
        rw [ez]
        refine wpAny_bind (wpAny_isSame_ref_self (wpAny_bind (wpAny_pure ?_)))
        show wpAny _ _ (if false = true then _ else setSearchFrom a (.ref x) h add f (some (nth t.mask p0 (q + 1)))) _ _ _
        rw [if_neg Bool.false_ne_true]
        exact search_no R cx cL hKf hK hKb heq hout f (c + (q + 1)) (some (nth t.mask p0 (q + 1))) (sh (q + 1)) (by omega) (by omega)
      show wpAny _ _ (if (!t.led) = true then _ else searchRest a (.ref x) h add f es t (nth t.mask p0 q).j i (nth t.mask p0 (q + 1))) _ _ _
      split
      · refine wpAny_bind (seen_no cx (fun y hy => ?_) ?_)
        · obtain ⟨e, he, rfl⟩ := List.mem_map.mp hy
          rw [Array.toList_filter] at he
          obtain ⟨z', e1, e2⟩ := R.at (List.mem_filter.mp he).1
          exact ⟨z', e1, cL z' e2⟩
        · show wpAny _ _ (if false = true then _ else searchRest a (.ref x) h add f es t (nth t.mask p0 q).j i (nth t.mask p0 (q + 1))) _ _ _
          rw [if_neg Bool.false_ne_true]
          exact rest
      · exact rest
    · rw [show t.probe (fun i => (Option.map (fun x => x.fst) es[i]?).getD 0) h p0 = some (SetTable.Met.empty (nth t.mask p0 (K - c)).j none) from hpr]
      rw [sh, show c + (K - c) = K by omega]
      exact wpAny_pure hout
theorem search_new {a x : Addr} {L : List Addr} {es : Array (Int × Value)} {ep : Nat} {t : SetTable} {h : Int} {add : Bool} (R : MetR s.heap a L es ep t) (cx : Calm prog w A E s x) (cL : ∀ z ∈ L, Calm prog w A E s z)
    (heq : ∀ z ∈ L, ∀ {Q : Bool → Shared → Prop}, Q false s → wpAny (model prog w) A (eqBool (.ref z) (.ref x)) Q E s)
    {Q : SetFound → Shared → Prop} (hout : ∀ K, ¬ way t.mask h K ∈ t.place.toList → (∀ c, c < K → way t.mask h c ∈ t.place.toList) → Q (.free (way t.mask h K) false) s) : wpAny (model prog w) A (setSearch a (.ref x) h add) Q E s := by
  have hlen : (es.toList.map (·.1)).length ≤ t.mask := by
    rw [List.length_map, Array.length_toList, R.len, R.m7]
    have := R.few
    omega
  obtain ⟨K, hKf, hK, hKb⟩ := R.tab.first hlen h
  have hbig : K < 100000 := by
    have : 10 * SetTable.turns t.mask < 100000 := by rw [R.m7]; decide +kernel
    omega
  exact search_no R cx cL hKf hK hKb heq (hout K hK hKb) 100000 0 none rfl (Nat.zero_le _) (by omega)
/-- nothing of the kind is there -/
theorem find_no {a x : Addr} {L : List Addr} {es : Array (Int × Value)} {ep : Nat} {t : SetTable} {h : Int} (R : MetR s.heap a L es ep t) (cx : Calm prog w A E s x) (cL : ∀ z ∈ L, Calm prog w A E s z)
    (heq : ∀ z ∈ L, ∀ {Q : Bool → Shared → Prop}, Q false s → wpAny (model prog w) A (eqBool (.ref z) (.ref x)) Q E s)
    {Q : Option Nat → Shared → Prop} (hQ : Q none s) : wpAny (model prog w) A (setFind a (.ref x) h) Q E s := by
  obtain ⟨o, ho, hex, hd⟩ := R.ob
  unfold setFind
  rw [setFindIn.eq_def]
  refine wpAny_bind (wpAny_setState_of ho hd R.fits ?_)
  show wpAny _ _ (if byScan (.ref x) es = true then _ else _) _ _ _
  rw [if_neg (by unfold byScan; simp [Value.scannable])]
  exact wpAny_bind (search_new R cx cL heq fun K _ _ => wpAny_pure hQ)
theorem add_new {a x : Addr} {L : List Addr} {es : Array (Int × Value)} {ep : Nat} {t : SetTable} {h : Int} (R : MetR s.heap a L es ep t) (cx : Calm prog w A E s x) (cL : ∀ z ∈ L, Calm prog w A E s z) (hl : L.length ≤ 1)
    (heq : ∀ z ∈ L, ∀ {Q : Bool → Shared → Prop}, Q false s → wpAny (model prog w) A (eqBool (.ref z) (.ref x)) Q E s)
    {Q : Bool → Shared → Prop} (hQ : ∀ h' L' es' ep' t', Heap.SameBut a s.heap h' → MetR h' a L' es' ep' t' → (∀ z ∈ L', z = x ∨ z ∈ L) → L'.length = L.length + 1 → Q true { s with heap := h' }) : wpAny (model prog w) A (setAddHashed a (.ref x) h) Q E s := by
  obtain ⟨o, ho, hex, hd⟩ := R.ob
  unfold setAddHashed
  refine wpAny_holding ?_
  rw [setAddHashedIn.eq_def]
  refine wpAny_bind (wpAny_setState_of ho hd R.fits ?_)
  show wpAny _ _ (if byScan (.ref x) es = true then _ else _) _ _ _
  rw [if_neg (by unfold byScan; simp [Value.scannable])]
  refine wpAny_bind (search_new R cx cL heq fun K hK hKb => ?_)
  refine wpAny_bind (wpAny_setState_of ho hd R.fits ?_)
  obtain ⟨p1, p2, p3, p4, p5, p6, p7, p8, p9⟩ := R.tab.put hK hKb
  generalize hput : t.put (way t.mask h K) = tp at p1 p2 p3 p4 p5 p6 p7 p8 p9
  obtain ⟨t1, p⟩ := tp
  obtain rfl : p = SetTable.below t.place (way t.mask h K) := p1
  rw [List.length_map, Array.length_toList, R.len] at p9
  have fin : ∀ t2 : SetTable, t2.mask = 7 → t2.fill = t1.fill → TabOk t2 (List.take (SetTable.below t.place (way t.mask h K)) (es.toList.map (·.1)) ++ h :: List.drop (SetTable.below t.place (way t.mask h K)) (es.toList.map (·.1))) →
      wpAny (model prog w) A (storeSet a (SetTable.insertAt es (SetTable.below t.place (way t.mask h K)) (h, .ref x)) t2 >>= fun _ => if (!false && t2.tooFull) = true then setRelay a (SetTable.grown (es.size + 1)) >>= fun _ => pure true else pure true) Q E s := by
    intro t2 m2 f2 tab2
    have hsz : (SetTable.insertAt es (SetTable.below t.place (way t.mask h K)) (h, Value.ref x)).toList = es.toList.take (SetTable.below t.place (way t.mask h K)) ++ (h, Value.ref x) :: es.toList.drop (SetTable.below t.place (way t.mask h K)) := SetTable.toList_insertAt _ _ _
    have hsize : (SetTable.insertAt es (SetTable.below t.place (way t.mask h K)) (h, Value.ref x)).size = L.length + 1 := by
      rw [← Array.length_toList, hsz, List.length_append, List.length_cons, List.length_take, List.length_drop, Array.length_toList, R.len]
      omega
    refine wpAny_bind (wpAny_storeSet_of ho hd ?_ ?_)
    · have hnf : t2.tooFull = false := by
        unfold SetTable.tooFull
        rw [f2, p9, m2]
        exact decide_eq_false (by omega)
      show wpAny _ _ (if (!false && t2.tooFull) = true then _ else _) _ _ _
      rw [hnf, if_neg (by simp)]
      refine wpAny_pure ?_
      let p := SetTable.below t.place (way t.mask h K)
      refine hQ _ (L.take p ++ x :: L.drop p) (SetTable.insertAt es (SetTable.below t.place (way t.mask h K)) (h, Value.ref x)) (ep + 1) t2 (Heap.SameBut.update _ _ _) ⟨?_, ?_, ?_, m2, ?_⟩ ?_ ?_
      · obtain ⟨oc, od, odt, osl⟩ := o
        cases hd
        exact ⟨_, Heap.get?_update_self _ ho rfl, hex, rfl⟩
      · rw [hsz, List.map_append, List.map_cons, List.map_take, List.map_drop, R.rows, List.map_append, List.map_cons, List.map_take, List.map_drop]
      · rw [hsz, List.map_append, List.map_cons, List.map_take, List.map_drop]
        exact tab2
      · rw [List.length_append, List.length_cons, List.length_take, List.length_drop]; omega
      · intro z hz
        rcases List.mem_append.mp hz with hz | hz
        · exact .inr (List.mem_of_mem_take hz)
        · rcases List.mem_cons.mp hz with hz | hz
          · exact .inl hz
          · exact .inr (List.mem_of_mem_drop hz)
      · rw [List.length_append, List.length_cons, List.length_take, List.length_drop]; omega
    · rw [hsize]
      exact Nat.le_trans (show L.length + 1 ≤ 2 by omega) (by decide)
  dsimp only
  rw [hput]
  dsimp only
  show wpAny _ _ (if t1.plain = true then _ else _) _ _ _
  have go : ∀ b : Bool, wpAny (model prog w) A (storeSet a (SetTable.insertAt es (SetTable.below t.place (way t.mask h K)) (h, .ref x)) (if b = true then t1 else { mask := t1.mask, place := t1.place, dummies := t1.dummies, finger := t1.finger, led := t1.led, moves := t1.moves, plain := false }) >>= fun _ => if (!false && (if b = true then t1 else { mask := t1.mask, place := t1.place, dummies := t1.dummies, finger := t1.finger, led := t1.led, moves := t1.moves, plain := false }).tooFull) = true then setRelay a (SetTable.grown (es.size + 1)) >>= fun _ => pure true else pure true) Q E s := by
    intro b
    cases b with
    | true => exact fin t1 (p4.trans R.m7) rfl p3
    | false => exact fin { mask := t1.mask, place := t1.place, dummies := t1.dummies, finger := t1.finger, led := t1.led, moves := t1.moves, plain := false } (p4.trans R.m7) rfl ⟨p3.ris, p3.dm, p3.sz, p3.mok, p3.bd, p3.reach⟩
  split
  · exact wpAny_bind (cx.v fun b => go b)
  · exact wpAny_bind (wpAny_pure (go true))
theorem contains_no {a x : Addr} {L : List Addr} {es : Array (Int × Value)} {ep : Nat} {t : SetTable} {Q : Value → Shared → Prop} (R : MetR s.heap a L es ep t)
    (hh : ∀ {E : Value → Shared → Prop} {Q : Int → Shared → Prop}, (∀ h tk, Q h { s with toks := tk }) → wpAny (model prog w) A.in1 (pyHash (.ref x)) Q E s)
    (cx : ∀ E tk, Calm prog w A.in1 E { s with toks := tk } x) (cL : ∀ z ∈ L, ∀ E tk, Calm prog w A.in1 E { s with toks := tk } z)
    (heq : ∀ z ∈ L, ∀ {E : Value → Shared → Prop} {tk : Nat} {Q : Bool → Shared → Prop}, Q false { s with toks := tk } → wpAny (model prog w) A.in1 (eqBool (.ref z) (.ref x)) Q E { s with toks := tk })
    (hQ : ∀ tk, Q (.bool true) { s with toks := tk }) : wpAny (model prog w) A (compareOp .NotIn (.ref x) (.ref a)) Q E s := by
  obtain ⟨o, ho, hex, hd⟩ := R.ob
  have hT : s.TypeIs (.ref a) "set" := ⟨o, ho, hex.1⟩
  refine wpAny_bind ?_
  refine wpAny_holding ?_
  refine wpAny_bind (wpAny_specialOf hT F.slot_set_contains.lookup ?_)
  show wpAny _ _ (if (some (Value.builtin "set.__contains__") == some Value.none) = true then _ else _) _ _ _
  rw [if_neg (by rw [beq_builtin_none "set.__contains__"]; exact Bool.false_ne_true)]
  refine wpAny_bind (wpAny_callSpecialUnlessNone?_slot hT F.slot_set_contains (wpAny_call_entry F.slot_set_contains hT entry_set_contains ?_ (F.args_set_contains_2 (.ref a) (.ref x))))
  refine wpAny_bind (wpAny_bind (wpAny_pure (wpAny_pure ?_)))
  refine wpAny_bind (wpAny_tryCatch ?_)
  refine wpAny_holding ?_
  refine wpAny_bind (hh fun h tk => ?_)
  have R' : MetR ({ s with toks := tk } : Shared).heap a L es ep t := R
  refine wpAny_bind (find_no R' (cx _ tk) (fun z hz => cL z hz _ tk) (fun z hz {Q} hq => heq z hz hq) ?_)
  refine wpAny_pure ?_
  refine wpAny_pure ⟨_, rfl, ?_⟩
  exact wpAny_truthy_bool (wpAny_pure (hQ tk))
theorem add_call {a x : Addr} {L : List Addr} {es : Array (Int × Value)} {ep : Nat} {t : SetTable} {Q : Value → Shared → Prop} (R : MetR s.heap a L es ep t) (hl : L.length ≤ 1)
    (hh : ∀ {E : Value → Shared → Prop} {Q : Int → Shared → Prop}, (∀ h tk, Q h { s with toks := tk }) → wpAny (model prog w) A.in1 (pyHash (.ref x)) Q E s)
    (cx : ∀ E tk, Calm prog w A.in1 E { s with toks := tk } x) (cL : ∀ z ∈ L, ∀ E tk, Calm prog w A.in1 E { s with toks := tk } z)
    (heq : ∀ z ∈ L, ∀ {E : Value → Shared → Prop} {tk : Nat} {Q : Bool → Shared → Prop}, Q false { s with toks := tk } → wpAny (model prog w) A.in1 (eqBool (.ref z) (.ref x)) Q E { s with toks := tk })
    (hQ : ∀ h' L' es' ep' t' tk, Heap.SameBut a s.heap h' → MetR h' a L' es' ep' t' → (∀ z ∈ L', z = x ∨ z ∈ L) → L'.length = L.length + 1 → Q .none { s with heap := h', toks := tk }) : wpAny (model prog w) A (call (.builtin "set.add") [.ref a, .ref x]) Q E s := by
  obtain ⟨o, ho, hex, hd⟩ := R.ob
  have hT : s.TypeIs (.ref a) "set" := ⟨o, ho, hex.1⟩
  refine wpAny_call_entry F.slot_set_add hT F.entry_set_add ?_ (F.args_set_add_2 (.ref a) (.ref x))
  refine wpAny_bind (wpAny_bind (wpAny_pure (wpAny_pure ?_)))
  refine wpAny_bind ?_
  refine wpAny_holding ?_
  refine wpAny_bind (hh fun h tk => ?_)
  have R' : MetR ({ s with toks := tk } : Shared).heap a L es ep t := R
  refine add_new R' (cx _ tk) (fun z hz => cL z hz _ tk) hl (fun z hz {Q} hq => heq z hz hq) fun h' L' es' ep' t' sb R2 hm hn => ?_
  exact wpAny_pure ⟨_, rfl, hQ h' L' es' ep' t' tk sb R2 hm hn⟩
end
end LK

set_option Elab.async false
set_option linter.all false
set_option maxRecDepth 100000
set_option maxHeartbeats 4000000
/-! sets of pairs of references: the layer's rules -/
namespace LK
open PySem PySem.Spec PyProof.Rows L2
def MetO (a : Addr) (L : List Addr) : HO := .ext fun h => ∃ es ep t, MetR h a L es ep t
theorem MetR.move {h h' : Heap} {a : Addr} {L : List Addr} {es : Array (Int × Value)} {ep : Nat} {t : SetTable} (R : MetR h a L es ep t) (k : ∀ o, h.get? a = some o → h'.get? a = some o) : MetR h' a L es ep t := by
  obtain ⟨⟨o, e1, e2⟩, r, tb, m, f⟩ := R
  exact ⟨⟨o, k o e1, e2⟩, r, tb, m, f⟩
theorem metO_new {P : Program} {w : World} {H : Hp} {h : Heap} {a : Addr} {L : List Addr} {es : Array (Int × Value)} {ep : Nat} {t : SetTable} (R : MetR h a L es ep t) : ObjOk P w H h a (MetO a L) := by
  unfold MetO ObjOk
  refine ⟨⟨es, ep, t, R⟩, ?_, fun h1 h2 ⟨es, ep, t, R⟩ k => ⟨es, ep, t, R.move k⟩⟩
  obtain ⟨⟨o, e1, _⟩, _⟩ := R
  exact ⟨o, e1⟩
theorem metO_get {X : Cx} {pins : List (Addr × Obj)} {σ : L2.St} {H : Hp} {s : Shared} {a : Addr} {L : List Addr} (I : L2.Inv X pins σ H s) (h : H a = some (MetO a L)) : ∃ es ep t, MetR s.heap a L es ep t := by
  have := I.hok a _ h
  unfold MetO ObjOk at this
  exact this.1
theorem met_fresh {led : Bool} {h : Heap} {a : Addr} (e : h.get? a = some { cls := .type "set", data := .set #[] 0 (SetTable.fresh 0 0 led) }) : MetR h a [] #[] 0 (SetTable.fresh 0 0 led) :=
  ⟨⟨_, e, ⟨rfl, rfl, rfl⟩, rfl⟩, rfl, ⟨by simp [SetTable.fresh, Ris], rfl, rfl, .inl rfl, fun x hx => by simp [SetTable.fresh] at hx, fun i h j e => by simp at e⟩, rfl, Nat.zero_le _⟩
def rSet0M : List V → Hp → VK → Prop := fun xs H Q => xs = [] ∧ ∀ p, H p = none → Q (.ref p) (upd H p (MetO p []))
theorem cr_set0M {X : Cx} : CallR X (.type "set") rSet0M := by
  intro pins s σ H xs us Q I r h
  obtain ⟨rfl, q⟩ := h
  cases r
  refine setR_new fun _ => ?_
  exact ⟨V.ref s.heap.objs.size, _, Inv.laid (t' := s.toks) I (fun b u e => Heap.get?_push_of_some _ e) (Nat.le_refl _) (metO_new (met_fresh (Heap.get?_push_size _ rfl))), rfl, q _ (HOk.fresh I.hok (Nat.le_refl _))⟩
/-- a pair of references -/
def nD (i j : Nat) : PyData := .tuple [.tuple [.str "ref", .int (i : Int)], .tuple [.str "ref", .int (j : Int)]]
theorem nD_eqv (i j i' j' : Nat) : PyData.eqv (nD i j) (nD i' j') = (decide (i = i') && decide (j = j')) := by
  simp only [nD, PyData.eqv, PyData.eqvAll]
  by_cases h1 : i = i' <;> by_cases h2 : j = j' <;> simp [h1, h2] <;> omega
theorem nD_lay (i j : Nat) : (nD i j).canLay0 = true := by
  have h : PyData.strOk "ref" = true := by decide +kernel
  simp [nD, PyData.canLay0, PyData.canLayAll0, h]
section
variable {X : Cx} {pins : List (Addr × Obj)} {σ : L2.St} {H : Hp} {s : Shared}
theorem nD_at {z : Addr} {i j : Nat} (h : Dt X.K H (.ref z) (nD i j)) : ∃ z1 z2, SqT X.K H z [.ref z1, .ref z2] ∧ SqT X.K H z1 [.str "ref", .int (i : Int)] ∧ SqT X.K H z2 [.str "ref", .int (j : Int)] := by
  obtain ⟨a, xs, e, hs, d⟩ := h.tuple_inv
  cases e
  obtain ⟨v1, w1, rfl, d1, d⟩ := d.cons_inv
  obtain ⟨v2, w2, rfl, d2, d⟩ := d.cons_inv
  cases d.nil_inv
  have one : ∀ {v : V} {i : Nat}, Dt X.K H v (.tuple [.str "ref", .int (i : Int)]) → ∃ z1, v = .ref z1 ∧ SqT X.K H z1 [.str "ref", .int (i : Int)] := fun h => by
    obtain ⟨a, xs, e, hs, d⟩ := h.tuple_inv
    obtain ⟨v1, w1, rfl, d1, d⟩ := d.cons_inv
    obtain ⟨v2, w2, rfl, d2, d⟩ := d.cons_inv
    cases d.nil_inv
    cases d1.str_inv
    cases d2.int_inv
    exact ⟨a, e, hs⟩
  obtain ⟨z1, rfl, e1⟩ := one d1
  obtain ⟨z2, rfl, e2⟩ := one d2
  exact ⟨z1, z2, hs, e1, e2⟩
theorem nD_ne (I : L2.Inv X pins σ H s) {z u : Addr} {i j i' j' : Nat} (h : Dt X.K H (.ref z) (nD i j)) (g : Dt X.K H (.ref u) (nD i' j')) (hne : (i', j') ≠ (i, j)) : u ≠ z := by
  rintro rfl
  obtain ⟨z1, z2, a1, a2, a3⟩ := nD_at h
  obtain ⟨y1, y2, b1, b2, b3⟩ := nD_at g
  cases I.tuple_inj a1 b1
  have e1 := I.tuple_inj a2 b2
  have e2 := I.tuple_inj a3 b3
  injection e1 with _ e1
  injection e1 with e1 _
  injection e1 with e1
  injection e2 with _ e2
  injection e2 with e2 _
  injection e2 with e2
  refine hne ?_
  rw [Prod.mk.injEq]
  omega
theorem pair_tup (I : L2.Inv X pins σ H s) {z1 : Addr} {i : Nat} (h : SqT X.K H z1 [.str "ref", .int (i : Int)]) : ∃ o n t1 t2, s.heap.get? z1 = some o ∧ o.cls = .type "tuple" ∧ o.data = .seq #[.str "ref" t1, .int (i : Int) t2] n := by
  obtain ⟨its, hv, ⟨o, e1, e2, n, e3⟩, _⟩ := I.tuple h
  cases hv with
  | cons r1 hv =>
    cases hv with
    | cons r2 hv =>
      cases hv
      obtain ⟨t1, rfl⟩ := r1
      obtain ⟨t2, rfl⟩ := r2
      exact ⟨o, n, t1, t2, e1, e2, e3⟩
theorem pair_key (I : L2.Inv X pins σ H s) {z1 : Addr} {i : Nat} (h : SqT X.K H z1 [.str "ref", .int (i : Int)]) : IsTupleKey (mixKind X.prog X.w) s.heap [.inr "ref", .inl (i : Int)] z1 := by
  obtain ⟨its, hv, ⟨o, e1, e2, n, e3⟩, _⟩ := I.tuple h
  exact ⟨o, its.toArray, n, e1, e2, e3, by rw [List.toList_toArray]; exact items_are (ks := [.inr "ref", .inl (i : Int)]) hv⟩
theorem out_tup (I : L2.Inv X pins σ H s) {z z1 z2 : Addr} (h : SqT X.K H z [.ref z1, .ref z2]) : ∃ o n, s.heap.get? z = some o ∧ o.cls = .type "tuple" ∧ o.data = .seq #[.ref z1, .ref z2] n := by
  obtain ⟨its, hv, ⟨o, e1, e2, n, e3⟩, _⟩ := I.tuple h
  cases hv with
  | cons r1 hv =>
    cases hv with
    | cons r2 hv =>
      cases hv
      obtain rfl := r1
      obtain rfl := r2
      exact ⟨o, n, e1, e2, e3⟩
theorem nD_hash (I : L2.Inv X pins σ H s) {z : Addr} {i j : Nat} (h : Dt X.K H (.ref z) (nD i j)) (hu : X.A.units + 64 < cLine) {E : Value → Shared → Prop} {Q : Int → Shared → Prop} (q : ∀ h tk, Q h { s with toks := tk }) : wpAny (model X.prog X.w) X.A.in1 (pyHash (.ref z)) Q E s := by
  obtain ⟨z1, z2, a1, a2, a3⟩ := nD_at h
  obtain ⟨o, n, e1, e2, e3⟩ := out_tup I a1
  exact hash_tt (by show X.A.units + 1 + 1 < cLine; omega) e1 e2 e3 (pair_key I a2) (pair_key I a3) q
theorem nD_calm (I : L2.Inv X pins σ H s) {z : Addr} {i j : Nat} (h : Dt X.K H (.ref z) (nD i j)) (E : Value → Shared → Prop) (tk : Nat) : Calm X.prog X.w X.A.in1 E { s with toks := tk } z := by
  obtain ⟨z1, z2, a1, a2, a3⟩ := nD_at h
  obtain ⟨o, n, e1, e2, e3⟩ := out_tup I a1
  obtain ⟨o1, n1, t1, t2, f1, f2, f3⟩ := pair_tup I a2
  obtain ⟨o2, n2, t3, t4, g1, g2, g3⟩ := pair_tup I a3
  have two : ∀ {y : Value}, y ∈ (#[Value.ref z1, .ref z2] : Array Value).toList → y = .ref z1 ∨ y = .ref z2 := fun hy => by simpa using hy
  refine ⟨fun {Q} q => ?_, fun {Q} q => ?_, fun {Q} q => ?_⟩
  · refine quiet_tup (s := { s with toks := tk }) e1 e2 e3 (fun y hy Q q => ?_) q
    have leaf : ∀ y ∈ [Value.str "ref" t1, .int (i : Int) t2] ++ [Value.str "ref" t3, .int (j : Int) t4], ∀ {Q : Bool → Shared → Prop}, Q true { s with toks := tk } → wpAny (model X.prog X.w) X.A.in1 (eqIsQuiet 6 y) Q E { s with toks := tk } := fun y hy Q q => by
      have hc : carriedByValue y = true := by
        simp only [List.mem_append, List.mem_cons, List.not_mem_nil, or_false] at hy
        rcases hy with (rfl | rfl) | (rfl | rfl) <;> rfl
      rw [eqIsQuiet_byValue 6 hc]
      exact wpAny_pure q
    rcases two hy with rfl | rfl
    · exact quiet_tup (s := { s with toks := tk }) f1 f2 f3 (fun y hy Q q => leaf y (List.mem_append_left _ hy) q) q
    · exact quiet_tup (s := { s with toks := tk }) g1 g2 g3 (fun y hy Q q => leaf y (List.mem_append_right _ hy) q) q
  · refine class_tup (s := { s with toks := tk }) e1 e2 e3 (fun y hy Q q => ?_) q
    have leaf : ∀ y ∈ [Value.str "ref" t1, .int (i : Int) t2] ++ [Value.str "ref" t3, .int (j : Int) t4], ∀ {Q : Bool → Shared → Prop}, Q false { s with toks := tk } → wpAny (model X.prog X.w) X.A.in1 (ofAClassStatement 6 y) Q E { s with toks := tk } := fun y hy Q q => by
      simp only [List.mem_append, List.mem_cons, List.not_mem_nil, or_false] at hy
      rw [ofAClassStatement.eq_def]
      rcases hy with (rfl | rfl) | (rfl | rfl) <;> exact wpAny_pure q
    rcases two hy with rfl | rfl
    · exact class_tup (s := { s with toks := tk }) f1 f2 f3 (fun y hy Q q => leaf y (List.mem_append_left _ hy) q) q
    · exact class_tup (s := { s with toks := tk }) g1 g2 g3 (fun y hy Q q => leaf y (List.mem_append_right _ hy) q) q
  · refine val_tup (s := { s with toks := tk }) e1 e2 e3 (fun y hy Q q => ?_) q
    have leaf : ∀ y ∈ [Value.str "ref" t1, .int (i : Int) t2] ++ [Value.str "ref" t3, .int (j : Int) t4], ∀ {Q : Bool → Shared → Prop}, (∀ b, Q b { s with toks := tk }) → wpAny (model X.prog X.w) X.A.in1 (hashByValue 6 y) Q E { s with toks := tk } := fun y hy Q q => by
      simp only [List.mem_append, List.mem_cons, List.not_mem_nil, or_false] at hy
      rw [hashByValue.eq_def]
      rcases hy with (rfl | rfl) | (rfl | rfl) <;> exact wpAny_pure (q _)
    rcases two hy with rfl | rfl
    · exact val_tup (s := { s with toks := tk }) f1 f2 f3 (fun y hy Q q => leaf y (List.mem_append_left _ hy) q) q
    · exact val_tup (s := { s with toks := tk }) g1 g2 g3 (fun y hy Q q => leaf y (List.mem_append_right _ hy) q) q
theorem nD_noteq (I : L2.Inv X pins σ H s) {z u : Addr} {i j i' j' : Nat} (h : Dt X.K H (.ref z) (nD i j)) (g : Dt X.K H (.ref u) (nD i' j')) (hne : (i', j') ≠ (i, j)) (hu : X.A.units + 64 < cLine) {E : Value → Shared → Prop} {tk : Nat} {Q : Bool → Shared → Prop} (q : Q false { s with toks := tk }) :
    wpAny (model X.prog X.w) X.A.in1 (eqBool (.ref u) (.ref z)) Q E { s with toks := tk } := by
  obtain ⟨as, ra⟩ := Dp.reads I _ _ _ g.dp rfl
  obtain ⟨bs, rb⟩ := Dp.reads I _ _ _ h.dp rfl
  refine eqBool_no (s := { s with toks := tk }) ra rb (nD_lay _ _) (nD_lay _ _) ?_ ?_ (nD_ne I h g hne) q
  · show X.A.units + 1 + min (nD i' j').depth (nD i j).depth < cLine
    have hd : (nD i' j').depth = 2 := rfl
    rw [hd]
    have := Nat.min_le_left 2 (nD i j).depth
    omega
  · rw [nD_eqv]
    by_cases h1 : i' = i
    · have h2 : j' ≠ j := fun h2 => hne (by rw [h1, h2])
      rw [decide_eq_false h2, Bool.and_false]
    · rw [decide_eq_false h1, Bool.false_and]
end
def rNotM (K : PySem.W.Frag) : R2 := fun x y H Q => ∃ (z a : Addr) (L : List Addr) (i j : Nat), x = .ref z ∧ y = .ref a ∧ H a = some (MetO a L) ∧ Dt K H (.ref z) (nD i j) ∧ (∀ u ∈ L, ∃ i' j', Dt K H (.ref u) (nD i' j') ∧ (i', j') ≠ (i, j)) ∧ Q (.bl true) H
theorem op_notM {X : Cx} (hu : X.A.units + 64 < cLine) : OpR X (compareOp .NotIn) (rNotM X.K) := by
  intro pins s σ H x y v u Q I rx ry h
  obtain ⟨z, a, L, i, j, rfl, rfl, hm, hd, hL, q⟩ := h
  obtain rfl : v = .ref z := rx
  obtain rfl : u = .ref a := ry
  obtain ⟨es, ep, t, R⟩ := metO_get I hm
  refine contains_no R (fun {E Q} q => nD_hash I hd hu q) (fun E tk => nD_calm I hd E tk) (fun y hy E tk => ?_) (fun y hy {E tk Q} q => ?_) fun tk => ?_
  · obtain ⟨i', j', g, _⟩ := hL y hy
    exact nD_calm I g E tk
  · obtain ⟨i', j', g, hne⟩ := hL y hy
    exact nD_noteq I hd g hne hu q
  · exact ⟨.bl true, H, I.tok tk, rfl, q⟩
def rAddM (K : PySem.W.Frag) : V → List V → Hp → VK → Prop := fun x xs H Q => ∃ (z a : Addr) (L : List Addr) (i j : Nat), x = .ref a ∧ xs = [.ref z] ∧ H a = some (MetO a L) ∧ L.length ≤ 1 ∧ Dt K H (.ref z) (nD i j) ∧ (∀ u ∈ L, ∃ i' j', Dt K H (.ref u) (nD i' j') ∧ (i', j') ≠ (i, j)) ∧
  ∀ L' : List Addr, (∀ u ∈ L', u = z ∨ u ∈ L) → L'.length = L.length + 1 → Q .non (upd H a (MetO a L'))
theorem mt_addM {X : Cx} (hu : X.A.units + 64 < cLine) : MtR X "set.add" (rAddM X.K) := by
  intro pins s σ H x xs v us Q I rx rxs h
  obtain ⟨z, a, L, i, j, rfl, rfl, hm, hl, hd, hL, q⟩ := h
  obtain rfl : v = .ref a := rx
  cases rxs with
  | cons r1 rr =>
    cases rr
    obtain rfl := r1
    obtain ⟨es, ep, t, R⟩ := metO_get I hm
    refine add_call R hl (fun {E Q} q => nD_hash I hd hu q) (fun E tk => nD_calm I hd E tk) (fun y hy E tk => ?_) (fun y hy {E tk Q} q => ?_) fun h' L' es' ep' t' tk sb R2 hmm hn => ?_
    · obtain ⟨i', j', g, _⟩ := hL y hy
      exact nD_calm I g E tk
    · obtain ⟨i', j', g, hne⟩ := hL y hy
      exact nD_noteq I hd g hne hu q
    · refine ⟨.non, _, Inv.write (t' := tk) I (by rw [hm]; trivial) (.inl rfl) (fun b u hb e => (sb.2 b hb).trans e) ?_ (metO_new R2), rfl, q L' hmm hn⟩
      obtain ⟨⟨o, e1, _⟩, _⟩ := R2
      exact ⟨o, e1⟩
/-- a method of such a set -/
def tBMM (r : V → List V → Hp → VK → Prop) (to : TE) (t : TA) : TE := fun σ H Q => to σ H fun x H1 => (∃ a L, x = .ref a ∧ H1 a = some (MetO a L)) ∧ t σ H1 fun xs H2 => r x xs H2 Q
theorem pe_bmM {X : Cx} {o e : Expr} {es : List Expr} {to : TE} {t : TA} {name : Str} {apos cpos : Pos} {id : String} {r : V → List V → Hp → VK → Prop} (slot : Slot "set" name id) (hty : typeOf (Value.builtin id) = pure (Value.type "method_descriptor")) (hm : MtR X id r) (ho : PE X o to) (ha : PA X (e :: es) t)
    (hbase : attributeBase o name X.env (eval o X.env) = eval o X.env := by rfl)
    (hfew : ((((backTo cpos (starEach (e :: es) X.env)).all fun x => !x.fst) && (backToKw cpos (keywordEach [] X.env)).all fun x => x.fst.isSome) && decide (((e :: es).length + ([] : List Keyword).length + if ([] : List Keyword).isEmpty = true then 0 else 1) < 30)) = true := by rfl)
    (hline : (apos.endLine == cpos.line) = true := by rfl) (hs : starEach (e :: es) X.env = (false, eval e X.env) :: starEach es X.env := by rfl) (hplain : ((backTo cpos (starEach es X.env)).any fun x => x.fst) = false := by rfl) :
    PE X ((o.Attribute name apos).Call (e :: es) [] cpos) (tBMM r to t) := by
  refine ⟨fun pins s σ H Q I h => ?_⟩
  refine wpAny_Call_method_late hbase hfew hline rfl (thn (ho.run pins s σ H _ I h) fun v s1 ⟨x, H1, I1, r1, ty, q1⟩ => ?_)
  obtain ⟨a, L, rfl, hL⟩ := ty
  obtain rfl : v = .ref a := r1
  obtain ⟨es', ep, tb, R⟩ := metO_get I1 hL
  obtain ⟨ob, hob, hex, hd⟩ := R.ob
  refine ⟨"set", id, PySem.F.plainAttrs_set, slot, hty, ⟨ob, hob, hex.1⟩, fun b hb => ?_, ?_⟩
  · cases hb
    exact ⟨ob, hob, hex.2.1⟩
  · have hA := ha.run cpos pins s1 σ H1 (fun xs H2 => r (.ref a) xs H2 Q) I1 q1
    rw [hs] at hA ⊢
    refine Calls.callWith_builtin (by show (false || _) = false; rw [Bool.false_or]; exact hplain) (Calls.evalArgs_plain (thn hA fun us s2 ⟨vs, H2, I2, r2, q2⟩ => ?_))
    exact hm pins s2 σ H2 (.ref a) vs _ us Q I2 rfl r2 q2
end LK


set_option Elab.async false
set_option linter.all false
set_option maxRecDepth 100000
set_option maxHeartbeats 4000000
set_option exponentiation.threshold 3000
namespace K22
open PySem PySem.Spec PyProof.Rows LK SX
open L2 hiding spCell
def top (i : Nat) : Stmt := PySem.Challenge.pw_pyhold_k22_order_is_total.main.body.getD i (.Pass ⟨0, 0, 0, 0⟩)
structure Txt (K : PySem.W.Frag) (mg : Str → Option Value) : Prop where
  c_MOST_ENTRIES : GInt mg "MOST_ENTRIES" 1000
  c_TYPE_ERROR : GInt mg "TYPE_ERROR" 10
  c_TOO_LARGE : GTup K mg "TOO_LARGE" [V.str "raise", V.int 15, V.str "too large"]
  b_len : mg "len" = none
  b_int : mg "int" = none
  b_range : mg "range" = none
  b_list : mg "list" = none
  b_tuple : mg "tuple" = none
  b_str : mg "str" = none
  b_repr : mg "repr" = none
  b_reversed : mg "reversed" = none
  b_zip : mg "zip" = none
  b_isinstance : mg "isinstance" = none
  b_bool : mg "bool" = none
  b_enumerate : mg "enumerate" = none
  b_set : mg "set" = none
  b_min : mg "min" = none
abbrev s_law_cell : Stmt := top 34
abbrev N_law_cell : List Str := ["script", "k"]
abbrev P_law_cell : List Str := ["script", "k"]
theorem sc_law_cell : FnScope N_law_cell P_law_cell (defScope s_law_cell) := ⟨rfl, rfl, rfl, by decide +kernel, rfl, by decide +kernel, by decide +kernel⟩
abbrev s_law_digits : Stmt := top 35
abbrev N_law_digits : List Str := ["script", "first", "last", "digits", "k", "cell", "turn", "seed"]
abbrev P_law_digits : List Str := ["script", "first", "last"]
theorem sc_law_digits : FnScope N_law_digits P_law_digits (defScope s_law_digits) := ⟨rfl, rfl, rfl, by decide +kernel, rfl, by decide +kernel, by decide +kernel⟩
abbrev s_law_draw : Stmt := top 36
abbrev N_law_draw : List Str := ["box", "many", "at"]
abbrev P_law_draw : List Str := ["box", "many"]
theorem sc_law_draw : FnScope N_law_draw P_law_draw (defScope s_law_draw) := ⟨rfl, rfl, rfl, by decide +kernel, rfl, by decide +kernel, by decide +kernel⟩
section
variable {P : Program} {w : World} {K : PySem.W.Frag} {mg : Str → Option Value} {base : Heap}
theorem ok_draw {f : Addr} {fd : FuncData} (F : Fun K "_law_draw" "_law_draw" s_law_draw f fd) (T : Txt K mg) : FnG P w K mg base CX0 1 f fd P_law_draw (spDraw K) := by
  refine okG0 F sc_law_draw (fun vs H Q E h => ?_) fun cdv A outer s H vs Q E hr hg h => ?_
  · obtain ⟨p, dl, m, rfl, _⟩ := h
    rfl
  · obtain ⟨p, dl, m, rfl, B, hm, k⟩ := h
    obtain ⟨ds, n, hp, hn, hd, hl, hds⟩ := id B
    refine ⟨_, (pss_cons (ps_set (i := 2) sc_law_draw.nd rfl (Or.inl rfl) (pe_ix ix_list (pv 0) pe_int (fun _ _ => rfl)))
  (pss_cons (ps_asg (pe_op op_add (pv 2) pe_int) (pg_sub (pv 0) pe_int set_list))
  (pss_cons (ps_if (pt_cmpR op_lt (pv 2) (pe_callB call_len (by rfl) T.b_len PySem.boot_len (pa_cons (pe_ix ix_list (pv 0) pe_int (fun _ _ => rfl)) pa_nil)) (nomark _))
   (pss_one (ps_ret (pe_op op_mod (pe_callTy call_int1 (by rfl) T.b_int (by decide +kernel) (pa_cons (pe_ix ix_list (pe_ix ix_list (pv 0) pe_int (fun _ _ => rfl)) (pv 2) (fun _ _ => rfl)) pa_nil)) (pv 1))))
   pss_nil)
  (pss_one (ps_ret pe_int))))), ?_⟩
    -- at = box[1]; box[1] = at + 1
    refine ⟨_, rfl, p, _, _, _, rfl, rfl, SqL.of hp, rfl, ?_⟩
    refine ⟨_, rfl, _, _, rfl, rfl, _, rfl, p, _, _, _, rfl, rfl, hp, rfl, ?_⟩
    have npd : dl ≠ p := by
      intro e
      subst e
      rw [hp] at hd
      have e := HO.lst.inj (Option.some.inj hd)
      cases ds with
      | nil => cases e
      | cons d ds => cases (List.cons.inj e).1
    have B' : BoxAt (upd H p (.lst [.ref dl, .int (n + 1)])) p dl := ⟨ds, n + 1, upd_same, by omega, by rw [upd_ne npd]; exact hd, hl, hds⟩
    have kp : Keep p H (upd H p (.lst [.ref dl, .int (n + 1)])) := fun b o e hb => by rw [upd_ne hb]; exact e
    have hd' : upd H p (.lst [.ref dl, .int (n + 1)]) dl = some (.lst (ds.map V.int)) := by rw [upd_ne npd]; exact hd
    -- if at < len(box[0])
    refine ⟨_, rfl, _, rfl, p, _, _, _, rfl, rfl, SqL.of upd_same, rfl, _, _, rfl, .inl ⟨_, SqL.of hd', rfl⟩, ?_⟩
    refine ⟨_, _, rfl, rfl, _, rfl, ?_⟩
    refine ite2 (fun c => ?_) fun c => ?_
    · have c1 : n < (ds.length : Int) := by simpa using c
      have c2 : n.toNat < ds.length := by omega
      have mem := hds _ (List.getElem_mem c2)
      refine ⟨_, rfl, p, _, _, _, rfl, rfl, SqL.of upd_same, rfl, _, rfl, dl, _, _, .int ds[n.toNat], rfl, rfl, SqL.of hd', ?_, .inl ⟨_, rfl, ?_⟩⟩
      · have e : n = ((n.toNat : Nat) : Int) := by omega
        exact at_of e (by simp [c2])
      · refine ⟨_, rfl, _, _, rfl, rfl, hm, ?_⟩
        exact k _ _ (Int.emod_nonneg _ (by omega)) (Int.emod_lt_of_pos _ hm) B' kp
    · exact k 0 _ (Int.le_refl 0) hm B' kp
theorem ok_cell {f : Addr} {fd : FuncData} (F : Fun K "_law_cell" "_law_cell" s_law_cell f fd) (T : Txt K mg) : FnG P w K mg base CX0 1 f fd P_law_cell (spCell K) := by
  refine okG0 F sc_law_cell (fun vs H Q E h => ?_) fun cdv A outer s H vs Q E hr hg h => ?_
  · obtain ⟨a, ns, i, rfl, _⟩ := h
    rfl
  · obtain ⟨a, ns, i, rfl, hs, hi, k⟩ := h
    refine ⟨_, (pss_cons (ps_if (pt_cmpR op_lt (pv 1) (pe_callB call_len (by rfl) T.b_len PySem.boot_len (pa_cons (pv 0) pa_nil)) (nomark _))
   (pss_one (ps_ret (pe_ix ix_list (pv 0) (pv 1) (fun _ _ => rfl))))
   pss_nil)
  (pss_one (ps_ret pe_int))), ?_⟩
    refine ⟨_, rfl, _, rfl, _, _, rfl, .inl ⟨_, hs, rfl⟩, _, _, rfl, rfl, _, rfl, ?_⟩
    refine ite3 (fun c => ?_) fun _ => k 0
    have c1 : i < (ns.length : Int) := by simpa using c
    have c2 : i.toNat < ns.length := by omega
    exact ⟨_, rfl, _, rfl, a, _, _, .int ns[i.toNat], rfl, rfl, hs, at_of (show i = ((i.toNat : Nat) : Int) by omega) (by simp [c2]), k _⟩
theorem ok_digits {f : Addr} {fd : FuncData} (F : Fun K "_law_digits" "_law_digits" s_law_digits f fd) (T : Txt K mg) (U_law_cell : Use P w K mg base CX0 "_law_cell" 1 P_law_cell (spCell K)) : FnG P w K mg base CX0 2 f fd P_law_digits (spDigits K) := by
  refine okG0 F sc_law_digits (fun vs H Q E h => ?_) fun cdv A outer s H vs Q E hr hg h => ?_
  · obtain ⟨a, ns, lo, hi, rfl, _⟩ := h
    rfl
  · obtain ⟨a, ns, lo, hi, rfl, hs, hlo, hhi, k⟩ := h
    refine ⟨_, (pss_cons (ps_set (i := 3) sc_law_digits.nd rfl (Or.inl rfl) (pe_lst pa_nil))
  (pss_cons (ps_for PassesOwn.never rfl (pi_range2 (by rfl) T.b_range (pa_cons (pv 1) (pa_cons (pv 2) pa_nil))) (pg_name (i := 4) sc_law_digits.nd rfl (Or.inl rfl))
   (pss_cons (ps_set (i := 5) sc_law_digits.nd rfl (Or.inl rfl) (pe_use U_law_cell (hr.mono (by decide)) hg rfl (pa_cons (pv 0) (pa_cons (pv 4) pa_nil))))
  (C8.pss_cut (ps_if (pt_cmpR op_lt (pv 5) pe_int (nomark _))
   (pss_one (ps_set (i := 5) sc_law_digits.nd rfl (Or.inl rfl) (pe_op op_sub pe_int (pe_op op_mul pe_int (pv 5)))))
   pss_nil)
  (pss_one (ps_if (pt_cmpR op_ge (pv 5) (pe_op op_pow pe_int pe_int) (nomark _))
   (pss_one (ps_for PassesOwn.never rfl (pi_range1 (by rfl) T.b_range (pa_cons pe_int pa_nil)) (pg_name (i := 6) sc_law_digits.nd rfl (Or.inl rfl))
   (pss_one (ps_if (pt_cmpR op_gt (pv 5) pe_int (nomark _))
   (pss_cons (ps_expr (pe_bm PySem.F.plainAttrs_list PySem.F.slot_list_append PySem.F.type_list_append mt_append (pv 3) (pa_cons (pe_op op_mod (pe_callTy call_int1 (by rfl) T.b_int (by decide +kernel) (pa_cons (pv 5) pa_nil)) pe_int) pa_nil)))
  (pss_one (ps_set (i := 5) sc_law_digits.nd rfl (Or.inl rfl) (pe_op op_fdiv (pv 5) pe_int))))
   pss_nil))))
   (pss_cons (ps_set (i := 7) sc_law_digits.nd rfl (Or.inl rfl) (pe_op op_mod (pe_callTy call_int1 (by rfl) T.b_int (by decide +kernel) (pa_cons (pe_op op_add (pe_op op_add (pe_op op_mul (pv 5) pe_int) (pe_op op_mul (pv 4) pe_int)) pe_int) pa_nil)) pe_int))
  (pss_one (ps_for PassesOwn.never rfl (pi_range1 (by rfl) T.b_range (pa_cons pe_int pa_nil)) (pg_name (i := 6) sc_law_digits.nd rfl (Or.inl rfl))
   (pss_cons (ps_set (i := 7) sc_law_digits.nd rfl (Or.inl rfl) (pe_op op_mod (pe_callTy call_int1 (by rfl) T.b_int (by decide +kernel) (pa_cons (pe_op op_add (pe_op op_add (pe_op op_mul (pv 7) pe_int) (pe_op op_mul pe_int (pv 6))) pe_int) pa_nil)) pe_int))
  (pss_one (ps_expr (pe_bm PySem.F.plainAttrs_list PySem.F.slot_list_append PySem.F.type_list_append mt_append (pv 3) (pa_cons (pe_op op_mod (pe_callTy call_int1 (by rfl) T.b_int (by decide +kernel) (pa_cons (pe_op op_fdiv (pv 7) pe_int) pa_nil)) pe_int) pa_nil)))))))))))))
  (pss_one (ps_ret (pv 3))))), ?_⟩
    refine ⟨by decide, fun dl nd => ?_⟩
    have sz : (4000 : Nat) < sizeLine := by decide
    -- for k in range(first, last)
    refine ⟨_, rfl, _, rfl, _, _, rfl, ⟨by omega, by omega, by omega, by omega⟩, ?_⟩
    refine for_range (lo := (lo : Int)) (n := ((hi : Int) - (lo : Int)).toNat) (fun i σ H1 => ∃ x5 x6 x7 x4, σ = [some (.ref a), some (.int lo), some (.int hi), some (.ref dl), x4, x5, x6, x7] ∧ DigAt H H1 dl (60 * i)) ?_ ?_ ?_
    · exact ⟨none, none, none, none, rfl, [], upd_same, by simp, by simp, Same.new nd⟩
    · rintro i σ H1 hi' ⟨x5, x6, x7, x4, rfl, D⟩
      have S1 : Same H H1 := let ⟨_, _, _, _, z⟩ := D; z
      -- cell = _law_cell(script, k)
      refine ⟨_, rfl, _, rfl, a, ns, _, rfl, S1.seq hs, by omega, fun cell => ?_⟩
      -- if cell < 0: cell = 1 - 2 * cell
      refine ⟨fun σ H2 => ∃ c : Int, σ = [some (.ref a), some (.int lo), some (.int hi), some (.ref dl), some (.int ((lo : Int) + i)), some (.int c), x6, x7] ∧ H2 = H1, ?_, ?_⟩
      · refine ⟨_, rfl, _, _, rfl, rfl, _, rfl, ?_⟩
        refine ite3 (fun _ => ?_) fun _ => ⟨cell, rfl, rfl⟩
        exact ⟨_, rfl, _, _, rfl, rfl, .inl ⟨by decide, by decide⟩, _, _, rfl, rfl, _, rfl, rfl⟩
      · rintro _ _ ⟨c, rfl, rfl⟩
        -- if cell >= 10 ** 18
        refine ⟨_, rfl, _, _, rfl, rfl, ⟨by decide, by decide, by decide⟩, _, _, rfl, rfl, _, rfl, ?_⟩
        refine ite3 (fun hc => ?_) fun hc => ?_
        · refine ⟨_, rfl, by decide, by decide, ?_⟩
          refine for_range (lo := 0) (n := 60) (fun j σ H1 => ∃ (c : Int) (y6 : Option V), σ = [some (.ref a), some (.int lo), some (.int hi), some (.ref dl), some (.int ((lo : Int) + i)), some (.int c), y6, x7] ∧ DigAt H H1 dl (60 * i + j)) ⟨c, x6, rfl, D⟩ ?_ ?_
          · rintro j σ H2 hj ⟨c, y6, rfl, D2⟩
            obtain ⟨ds, hd, hl, _⟩ := id D2
            refine ⟨_, rfl, _, _, rfl, rfl, _, rfl, ?_⟩
            refine ite3 (fun hp => ?_) fun _ => ⟨c, _, rfl, D2.mono (by omega)⟩
            have hp : 0 < c := by simpa using hp
            refine ⟨_, rfl, .inl ⟨rfl, _, SqL.of hd⟩, _, rfl, .inl ⟨_, rfl, _, _, rfl, rfl, (by show (0 : Int) < 1000; decide), dl, _, _, rfl, rfl, hd, (by simp; omega), ?_⟩⟩
            refine ⟨_, rfl, _, _, rfl, rfl, ⟨by decide, by decide⟩, ?_⟩
            exact ⟨_, _, rfl, D2.add hd nd (Int.emod_nonneg _ (by decide)) (Int.emod_lt_of_pos _ (by decide))⟩
          · rintro σ H2 ⟨c, y6, rfl, D2⟩
            exact ⟨_, _, _, _, rfl, D2.mono (by omega)⟩
        · refine ⟨_, rfl, _, _, rfl, rfl, .inr ⟨by decide, by decide⟩, _, rfl, _, _, rfl, rfl, .inr ⟨by decide, by decide⟩, _, _, rfl, rfl, _, _, rfl, rfl, .inl ⟨_, rfl, _, _, rfl, rfl, (by show (0 : Int) < 2147483647; decide), ?_⟩⟩
          refine ⟨_, rfl, by decide, by decide, ?_⟩
          refine for_range (lo := 0) (n := 12) (fun j σ H1 => ∃ (sd : Int) (y6 : Option V), σ = [some (.ref a), some (.int lo), some (.int hi), some (.ref dl), some (.int ((lo : Int) + i)), some (.int c), y6, some (.int sd)] ∧ DigAt H H1 dl (60 * i + j)) ⟨_, x6, rfl, D⟩ ?_ ?_
          · rintro j σ H2 hj ⟨sd, y6, rfl, D2⟩
            obtain ⟨ds, hd, hl, _⟩ := id D2
            refine ⟨_, rfl, _, _, rfl, rfl, .inr ⟨by decide, by decide⟩, _, rfl, _, _, rfl, rfl, .inl ⟨by decide, by decide⟩, _, _, rfl, rfl, _, _, rfl, rfl, .inl ⟨_, rfl, _, _, rfl, rfl, (by show (0 : Int) < 2147483647; decide), ?_⟩⟩
            refine ⟨_, rfl, .inl ⟨rfl, _, SqL.of hd⟩, _, rfl, _, _, rfl, rfl, ⟨by decide, by decide⟩, .inl ⟨_, rfl, _, _, rfl, rfl, (by show (0 : Int) < 1000; decide), dl, _, _, rfl, rfl, hd, (by simp; omega), ?_⟩⟩
            exact ⟨_, _, rfl, D2.add hd nd (Int.emod_nonneg _ (by decide)) (Int.emod_lt_of_pos _ (by decide))⟩
          · rintro σ H2 ⟨sd, y6, rfl, D2⟩
            exact ⟨_, _, _, _, rfl, D2.mono (by omega)⟩
    · rintro σ H1 ⟨x5, x6, x7, x4, rfl, D⟩
      exact ⟨_, rfl, k dl H1 nd (D.mono (by omega))⟩
end

abbrev s_law_same : Stmt := top 39
abbrev N_law_same : List Str := ["actual", "due"]
abbrev P_law_same : List Str := ["actual", "due"]
theorem sc_law_same : FnScope N_law_same P_law_same (defScope s_law_same) := ⟨rfl, rfl, rfl, by decide +kernel, rfl, by decide +kernel, by decide +kernel⟩
section
variable {P : Program} {w : World} {K : PySem.W.Frag} {mg : Str → Option Value} {base : Heap}
theorem ok_same {f : Addr} {fd : FuncData} (F : Fun K "_law_same" "_law_same" s_law_same f fd) (T : Txt K mg) : FnG P w K mg base CX0 1 f fd P_law_same (spSame K) := by
  refine okG0 F sc_law_same (fun vs H Q E h => ?_) fun cdv A outer s H vs Q E hr hg h => ?_
  · obtain ⟨x, y, d, rfl, _⟩ := h
    rfl
  · obtain ⟨x, y, d, rfl, hx, hy, hs, k⟩ := h
    refine ⟨_, (pss_one (ps_ret (pe_cmpR op_eq (pe_callB (call_repr_data hg hr.units) (by rfl) T.b_repr (by decide +kernel) (pa_cons (pv 0) pa_nil)) (pe_callB (call_repr_data hg hr.units) (by rfl) T.b_repr (by decide +kernel) (pa_cons (pv 1) pa_nil)) (nomark _)))), ?_⟩
    refine ⟨_, rfl, _, d, rfl, hx, hs, _, rfl, _, d, rfl, hy, hs, rfl, ?_⟩
    rw [decide_eq_true rfl]
    exact k
end

section
/-! data whose texts are texts and that are not deep -/
def Shp (n : Nat) (d : PyData) : Prop := d.canLay0 = true ∧ d.depth ≤ n
theorem Shp.all {n : Nat} : ∀ {ds : List PyData}, (∀ d ∈ ds, Shp n d) → PyData.canLayAll0 ds = true ∧ PyData.depthAll ds ≤ n
  | [], _ => ⟨rfl, Nat.zero_le _⟩
  | d :: r, h => by
    obtain ⟨a, b⟩ := h d (by simp)
    obtain ⟨c, e⟩ := Shp.all (ds := r) fun x hx => h x (List.mem_cons_of_mem _ hx)
    exact ⟨by simp only [PyData.canLayAll0, a, c]; rfl, Nat.max_le.mpr ⟨b, e⟩⟩
theorem Shp.tup {n : Nat} {ds : List PyData} (h : ∀ d ∈ ds, Shp n d) : Shp (n + 1) (.tuple ds) := by
  obtain ⟨a, b⟩ := Shp.all h
  exact ⟨by simp only [PyData.canLay0]; exact a, show PyData.depthAll ds + 1 ≤ n + 1 by omega⟩
theorem Shp.lst {n : Nat} {ds : List PyData} (h : ∀ d ∈ ds, Shp n d) : Shp (n + 1) (.list ds) := by
  obtain ⟨a, b⟩ := Shp.all h
  exact ⟨by simp only [PyData.canLay0]; exact a, show PyData.depthAll ds + 1 ≤ n + 1 by omega⟩
theorem Shp.sh {n : Nat} {d : PyData} (h : Shp n d) (hn : n ≤ 64) : SeqAt.shaped d = true := by
  unfold SeqAt.shaped
  rw [h.1, decide_eq_true (Nat.le_trans h.2 hn)]; rfl
theorem Shp.mono {n m : Nat} {d : PyData} (h : Shp n d) (l : n ≤ m) : Shp m d := ⟨h.1, Nat.le_trans h.2 l⟩
theorem Shp.str {n : Nat} {x : Str} (h : PyData.canLay0 (.str x) = true) : Shp n (.str x) := ⟨h, Nat.zero_le _⟩
theorem Shp.int (n : Nat) (i : Int) : Shp n (.int i) := ⟨rfl, Nat.zero_le _⟩
theorem Shp.bool (n : Nat) (b : Bool) : Shp n (.bool b) := ⟨rfl, Nat.zero_le _⟩
theorem Shp.nil : Shp 1 (.tuple []) := Shp.tup (n := 0) fun _ h => by cases h
theorem Shp.cons2 {n : Nat} {d : PyData} {ds : List PyData} (h : Shp n d) (t : ∀ x ∈ ds, Shp n x) : ∀ x ∈ d :: ds, Shp n x := fun x hx => by
  rcases List.mem_cons.mp hx with rfl | hx
  · exact h
  · exact t x hx
theorem Shp.none2 {n : Nat} : ∀ x ∈ ([] : List PyData), Shp n x := fun _ h => by cases h
theorem Shp.strS {n : Nat} {a : List Nat} (h : ∀ c ∈ a, c < 128) : Shp n (.str (S a)) := by
  refine Shp.str ?_
  rw [PyData.canLay0]
  exact Array.all_eq_true_iff_forall_mem.mpr fun c hc => by
    have := h c (by simpa [S] using hc)
    exact decide_eq_true (by omega)
end

abbrev s_kind_name : Stmt := top 6
abbrev N_kind_name : List Str := ["heap", "value", "found"]
abbrev P_kind_name : List Str := ["heap", "value"]
theorem sc_kind_name : FnScope N_kind_name P_kind_name (defScope s_kind_name) := ⟨rfl, rfl, rfl, by decide +kernel, rfl, by decide +kernel, by decide +kernel⟩
section
variable {P : Program} {w : World} {K : PySem.W.Frag} {mg : Str → Option Value} {base : Heap}
abbrev vks : List (Str × Str) := [("none", "NoneType"), ("bool", "bool"), ("int", "int"), ("text", "str"), ("span", "range"), ("built", "builtin"), ("host", "host")]
abbrev oks : List (Str × Str) := [("list", "list"), ("tuple", "tuple"), ("dict", "dict"), ("scope", "scope"), ("func", "function"), ("class", "class"), ("bound", "method"), ("iter", "iterator"), ("gen", "generator")]
def refD (j : Nat) : PyData := .tuple [.str "ref", .int (j : Nat)]
/-- the name of a value's kind -/
inductive NameOf (hds : List PyData) : PyData → Str → Prop
  | oth (j : Nat) (z : Str) (r : List PyData) (t : Str) : hds[j]? = some (.tuple (.str z :: r)) → z ≠ "inst" → valV (txtKV oks) (.inr z) = some (.str t) → NameOf hds (refD j) t
  | inst (j i : Nat) (r r2 : List PyData) (c : PyData) (n : Str) : hds[j]? = some (.tuple (.str "inst" :: .int (i : Nat) :: r)) → hds[i]? = some (.tuple (c :: .str n :: r2)) → NameOf hds (refD j) n
  | val (z : Str) (r : List PyData) (t : Str) : z ≠ "ref" → valV (txtKV vks) (.inr z) = some (.str t) → NameOf hds (.tuple (.str z :: r)) t
theorem dec_str {a b : Str} (h : a ≠ b) : decide (V.str a = V.str b) = false := decide_eq_false fun e => h (V.str.inj e)
theorem dec_str1 (a : Str) : decide (V.str a = V.str a) = true := decide_eq_true rfl
theorem hd_at {H : Hp} {hp : Addr} {hds : List PyData} {j : Nat} {d : PyData} (L : ListAt K H hp hds) (h : hds[j]? = some d) : ∃ xs y, H hp = some (.lst xs) ∧ atI xs ((j : Nat) : Int) = some y ∧ Dt K H y d := by
  obtain ⟨xs, e, a⟩ := L
  obtain ⟨y, hy, dy⟩ := a.get h
  exact ⟨xs, y, e, atI_nat hy, dy⟩
theorem dt_two {H : Hp} {v : V} {a b : PyData} {r : List PyData} (h : Dt K H v (.tuple (a :: b :: r))) : ∃ q x y ws, v = .ref q ∧ SqT K H q (x :: y :: ws) ∧ Dt K H x a ∧ Dt K H y b := by
  cases h with
  | tup hs ha =>
    cases ha with
    | cons h1 h2 =>
      cases h2 with
      | cons h3 h4 => exact ⟨_, _, _, _, rfl, hs, h1, h3⟩
theorem dt_str {H : Hp} {v : V} {z : Str} (h : Dt K H v (.str z)) : v = .str z := by cases h; rfl
def spKName (K : PySem.W.Frag) : Sp := fun vs H Q _ => ∃ hp hds v d t, vs = [.ref hp, v] ∧ ListAt K H hp hds ∧ Dt K H v d ∧ NameOf hds d t ∧ Q (.str t) H
theorem ok_kname {f : Addr} {fd : FuncData} (F : Fun K "kind_name" "kind_name" s_kind_name f fd) (T : Txt K mg) (U_VALUE_KINDS : UseD P w K mg "VALUE_KINDS" (txtKV vks)) (U_OBJECT_KINDS : UseD P w K mg "OBJECT_KINDS" (txtKV oks)) : FnG P w K mg base CX0 1 f fd P_kind_name (spKName K) := by
  refine okG0 F sc_kind_name (fun vs H Q E h => ?_) fun cdv A outer s H vs Q E hr hg h => ?_
  · obtain ⟨hp, hds, v, d, t, rfl, _⟩ := h
    rfl
  · obtain ⟨hp, hds, v, d, t, rfl, L, dv, hk, k⟩ := h
    obtain ⟨aD_VALUE_KINDS, gD_VALUE_KINDS, kD1⟩ := U_VALUE_KINDS.ex
    obtain ⟨aD_OBJECT_KINDS, gD_OBJECT_KINDS, kD2⟩ := U_OBJECT_KINDS.ex
    refine ⟨_, (pss_cons (ps_if (pt_cmpR op_ne (pe_ix ix_tup (pv 1) pe_int (fun _ _ => rfl)) pe_str (nomark _))
   (pss_one (ps_ret (pe_dgetK (pe_glob (v := .ref aD_VALUE_KINDS) (by rfl) gD_VALUE_KINDS rfl) (pe_ix ix_tup (pv 1) pe_int (fun _ _ => rfl)) (fun _ _ => rfl))))
   pss_nil)
  (pss_cons (ps_set (i := 2) sc_kind_name.nd rfl (Or.inl rfl) (pe_ix ix_list (pv 0) (pe_ix ix_tup (pv 1) pe_int (fun _ _ => rfl)) (fun _ _ => rfl)))
  (pss_cons (ps_if (pt_cmpR op_eq (pe_ix ix_tup (pv 2) pe_int (fun _ _ => rfl)) pe_str (nomark _))
   (pss_one (ps_ret (pe_ix ix_tup (pe_ix ix_list (pv 0) (pe_ix ix_tup (pv 2) pe_int (fun _ _ => rfl)) (fun _ _ => rfl)) pe_int (fun _ _ => rfl))))
   pss_nil)
  (pss_one (ps_ret (pe_dgetK (pe_glob (v := .ref aD_OBJECT_KINDS) (by rfl) gD_OBJECT_KINDS rfl) (pe_ix ix_tup (pv 2) pe_int (fun _ _ => rfl)) (fun _ _ => rfl))))))), ?_⟩
    cases hk with
    | oth j z r t ho hi ht =>
      obtain ⟨q, x, rfl, hq, hx⟩ := Dt.pair dv
      cases hx.int_inv
      obtain ⟨zs, y, ez, hy, dy⟩ := hd_at L ho
      obtain ⟨q2, ws, rfl, hq2, _⟩ := dy.head
      refine ⟨_, rfl, q, _, _, _, rfl, rfl, hq, at0, rfl, _, rfl, iteFb (by decide +kernel) ?_⟩
      refine ⟨_, rfl, _, rfl, q, _, _, _, rfl, rfl, hq, at1, hp, _, _, _, rfl, rfl, SqL.of ez, hy, ?_⟩
      refine ⟨_, rfl, q2, _, _, _, rfl, rfl, hq2, at0, rfl, _, rfl, iteFb (dec_str hi) ?_⟩
      exact ⟨_, rfl, q2, _, _, _, rfl, rfl, hq2, at0, aD_OBJECT_KINDS, _, .inr z, _, rfl, kD2, rfl, ht, k⟩
    | inst j i r r2 c n ho hi =>
      obtain ⟨q, x, rfl, hq, hx⟩ := Dt.pair dv
      cases hx.int_inv
      obtain ⟨zs, y, ez, hy, dy⟩ := hd_at L ho
      obtain ⟨q2, u, u2, ws, rfl, hq2, du, du2⟩ := dt_two dy
      cases dt_str du
      cases du2.int_inv
      obtain ⟨zs', y', ez', hy', dy'⟩ := hd_at L hi
      obtain ⟨q3, u', u3, ws', rfl, hq3, du', du3⟩ := dt_two dy'
      cases dt_str du3
      refine ⟨_, rfl, q, _, _, _, rfl, rfl, hq, at0, rfl, _, rfl, iteFb (by decide +kernel) ?_⟩
      refine ⟨_, rfl, _, rfl, q, _, _, _, rfl, rfl, hq, at1, hp, _, _, _, rfl, rfl, SqL.of ez, hy, ?_⟩
      refine ⟨_, rfl, q2, _, _, _, rfl, rfl, hq2, at0, rfl, _, rfl, iteTb (dec_str1 _) ?_⟩
      exact ⟨_, rfl, _, rfl, q2, _, _, _, rfl, rfl, hq2, at1, hp, _, _, _, rfl, rfl, SqL.of ez', hy', q3, _, _, _, rfl, rfl, hq3, at1, k⟩
    | val z r t hz ht =>
      obtain ⟨q, ws, rfl, hq, _⟩ := Dt.head dv
      refine ⟨_, rfl, q, _, _, _, rfl, rfl, hq, at0, rfl, _, rfl, iteTb (by rw [dec_str hz]; rfl) ?_⟩
      exact ⟨_, rfl, q, _, _, _, rfl, rfl, hq, at0, aD_VALUE_KINDS, _, .inr z, _, rfl, kD1, rfl, ht, k⟩
end

section
variable {P : Program} {w : World} {K : PySem.W.Frag} {mg : Str → Option Value} {base : Heap}
theorem strlen_cat (a b : Str) : (a ++ b).length = a.length + b.length := by
  show (a.cps ++ b.cps).size = _
  rw [Array.size_append]; rfl
theorem ss_le {n : Nat} (h : n ≤ 100000) : n ≤ sizeLine := Nat.le_trans h (by decide)
theorem js_lt {n : Nat} (h : n ≤ 5000) : n < sizeLine := Nat.lt_of_le_of_lt h (by decide)
theorem dtAll_rev {H : Hp} : ∀ {ds : List PyData} {vs : List V}, DtAll K H vs ds → DtAll K H vs.reverse ds.reverse
  | [], vs, h => by rw [h.nil_inv]; exact .nil
  | d :: ds, vs, h => by
    obtain ⟨v, ws, rfl, dv, hw⟩ := DtAll.cons_inv h
    rw [List.reverse_cons, List.reverse_cons]
    exact DtAll.app (dtAll_rev hw) (.cons dv .nil)
theorem same_none' {H H1 : Hp} {l : Addr} (S : Same H H1) (h : H1 l = none) : H l = none := by
  cases e : H l with
  | none => rfl
  | some o => have := S _ _ e; rw [h] at this; cases this
theorem dt_pr {H : Hp} {v : V} {a b : PyData} (h : Dt K H v (.tuple [a, b])) : ∃ q x y, v = .ref q ∧ SqT K H q [x, y] ∧ Dt K H x a ∧ Dt K H y b := by
  cases h with
  | tup hs ha =>
    cases ha with
    | cons h1 h2 =>
      cases h2 with
      | cons h3 h4 =>
        cases h4
        exact ⟨_, _, _, rfl, hs, h1, h3⟩
theorem dtAll_snoc {H : Hp} : ∀ {ds : List PyData} {d : PyData} {ws : List V}, DtAll K H ws (ds ++ [d]) → ∃ ws0 y, ws = ws0 ++ [y] ∧ DtAll K H ws0 ds ∧ Dt K H y d
  | [], d, ws, h => by
    cases h with
    | cons h1 h2 => cases h2; exact ⟨[], _, rfl, .nil, h1⟩
  | e :: ds, d, ws, h => by
    cases h with
    | cons h1 h2 =>
      obtain ⟨ws0, y, rfl, a, b⟩ := dtAll_snoc h2
      exact ⟨_ :: ws0, y, rfl, .cons h1 a, b⟩
theorem js_lt10 {n : Nat} (h : n ≤ 10000) : n < sizeLine := Nat.lt_of_le_of_lt h (by decide)
theorem inV_strs {x : Str} (ys : List Str) : inV (.str x) (ys.map V.str) = decide (x ∈ ys) := by
  unfold inV
  induction ys with
  | nil => rfl
  | cons y r ih =>
    rw [List.map_cons, List.any_cons, ih]
    have : eqV (.str y) (.str x) = decide (y = x) := by
      show (y == x) = _
      by_cases e : y = x
      · subst e; simp
      · simp [e]
    rw [this]
    by_cases e : y = x
    · subst e; simp
    · have : x ≠ y := fun h => e h.symm
      simp [e, this]
end

section
--SPLIT
end
abbrev s_is_number : Stmt := top 7
abbrev N_is_number : List Str := ["value"]
abbrev P_is_number : List Str := ["value"]
theorem sc_is_number : FnScope N_is_number P_is_number (defScope s_is_number) := ⟨rfl, rfl, rfl, by decide +kernel, rfl, by decide +kernel, by decide +kernel⟩
abbrev s_same_leaf : Stmt := top 10
abbrev N_same_leaf : List Str := ["a", "b"]
abbrev P_same_leaf : List Str := ["a", "b"]
theorem sc_same_leaf : FnScope N_same_leaf P_same_leaf (defScope s_same_leaf) := ⟨rfl, rfl, rfl, by decide +kernel, rfl, by decide +kernel, by decide +kernel⟩
section
/-! values and rows of a heap -/
inductive Vl
  | non | bool (b : Bool) | int (i : Int) | text (z : Str) | span (a b : Int) | ref (k : Nat) | built (n : Str) | host (n : Str)
  deriving DecidableEq
def vlD : Vl → PyData
  | .non => .tuple [.str "none"]
  | .bool b => .tuple [.str "bool", .bool b]
  | .int i => .tuple [.str "int", .int i]
  | .text z => .tuple [.str "text", .str z]
  | .span a b => .tuple [.str "span", .int a, .int b]
  | .ref k => .tuple [.str "ref", .int (k : Nat)]
  | .built n => .tuple [.str "built", .str n]
  | .host n => .tuple [.str "host", .str n]
def kn : Vl → Nat
  | .non => 0 | .bool _ => 1 | .int _ => 2 | .text _ => 3 | .span _ _ => 4 | .ref _ => 5 | .built _ => 6 | .host _ => 7
def nmK : Nat → Str
  | 0 => "none" | 1 => "bool" | 2 => "int" | 3 => "text" | 4 => "span" | 5 => "ref" | 6 => "built" | _ => "host"
def knd (x : Vl) : Str := nmK (kn x)
theorem kn_lt (x : Vl) : kn x < 8 := by cases x <;> simp [kn]
theorem nmK_inj : ∀ i < 8, ∀ j < 8, i ≠ j → nmK i ≠ nmK j := by decide +kernel
theorem knd_ne {x y : Vl} (h : kn x ≠ kn y) : knd x ≠ knd y := nmK_inj _ (kn_lt x) _ (kn_lt y) h
theorem knd_is (x : Vl) (n : Nat) (hn : n < 8) : decide (V.str (knd x) = V.str (nmK n)) = decide (kn x = n) := by
  by_cases h : kn x = n
  · rw [decide_eq_true h, ← h]; exact decide_eq_true rfl
  · rw [decide_eq_false h]; exact decide_eq_false fun e => nmK_inj _ (kn_lt x) _ hn h (V.str.inj e)
def resD : Vl → List PyData
  | .non => [] | .bool b => [.bool b] | .int i => [.int i] | .text z => [.str z] | .span a b => [.int a, .int b] | .ref k => [.int (k : Nat)] | .built n => [.str n] | .host n => [.str n]
theorem vlD_eq (x : Vl) : vlD x = .tuple (.str (knd x) :: resD x) := by cases x <;> rfl
def numV : Vl → Option Int
  | .bool b => some (if b then 1 else 0)
  | .int i => some i
  | _ => none
def slx (x y : Vl) : Bool := match numV x, numV y with
  | some i, some j => decide (i = j)
  | _, _ => decide (x = y)
def sl (x y : Vl) : Bool := match x, y with
  | .span a b, .span c d => if a = b then decide (c = d) else decide (a = c ∧ b = d)
  | x, y => slx x y
/-- what == can take -/
def vOk : Vl → Prop
  | .text z => PyData.canLay0 (.str z) = true
  | .built n => PyData.canLay0 (.str n) = true
  | .host n => PyData.canLay0 (.str n) = true
  | _ => True
theorem vOk.shp {x : Vl} (h : vOk x) : Shp 1 (vlD x) := by
  have s : ∀ z : Str, PyData.canLay0 (.str z) = true → Shp 0 (.str z) := fun z h => Shp.str h
  cases x with
  | non => exact Shp.tup (Shp.cons2 (s _ (by decide +kernel)) Shp.none2)
  | bool b => exact Shp.tup (Shp.cons2 (s _ (by decide +kernel)) (Shp.cons2 (Shp.bool 0 b) Shp.none2))
  | int i => exact Shp.tup (Shp.cons2 (s _ (by decide +kernel)) (Shp.cons2 (Shp.int 0 i) Shp.none2))
  | text z => exact Shp.tup (Shp.cons2 (s _ (by decide +kernel)) (Shp.cons2 (s z h) Shp.none2))
  | span a b => exact Shp.tup (Shp.cons2 (s _ (by decide +kernel)) (Shp.cons2 (Shp.int 0 a) (Shp.cons2 (Shp.int 0 b) Shp.none2)))
  | ref k => exact Shp.tup (Shp.cons2 (s _ (by decide +kernel)) (Shp.cons2 (Shp.int 0 _) Shp.none2))
  | built n => exact Shp.tup (Shp.cons2 (s _ (by decide +kernel)) (Shp.cons2 (s n h) Shp.none2))
  | host n => exact Shp.tup (Shp.cons2 (s _ (by decide +kernel)) (Shp.cons2 (s n h) Shp.none2))
theorem bD {α : Type} [BEq α] [LawfulBEq α] [DecidableEq α] (a b : α) : (a == b) = decide (a = b) := by
  by_cases e : a = b
  · subst e; simp
  · simp [e]
theorem kndNe : ∀ x y : Vl, kn x ≠ kn y → PyData.eqv (vlD x) (vlD y) = false := fun x y h => by
  rw [vlD_eq, vlD_eq]
  show (PyData.eqv (.str (knd x)) (.str (knd y)) && _) = false
  have : PyData.eqv (.str (knd x)) (.str (knd y)) = false := by
    show (knd x == knd y) = false
    simpa using knd_ne h
  rw [this]
  rfl
theorem eqv_vl (x y : Vl) (h : numV x = none ∨ numV y = none) : PyData.eqv (vlD x) (vlD y) = decide (x = y) := by
  by_cases hk : kn x = kn y
  · cases x <;> cases y <;> first | (simp [kn] at hk; done) | skip
    · rfl
    · rcases h with h | h <;> cases h
    · rcases h with h | h <;> cases h
    · simp [vlD, PyData.eqv, PyData.eqvAll, bD]
    · simp [vlD, PyData.eqv, PyData.eqvAll, bD]
    · rename_i a b
      simp [vlD, PyData.eqv, PyData.eqvAll, bD]
      omega
    · simp [vlD, PyData.eqv, PyData.eqvAll, bD]
    · simp [vlD, PyData.eqv, PyData.eqvAll, bD]
  · rw [kndNe x y hk, decide_eq_false fun e => hk (by rw [e])]
theorem sl_num {x y : Vl} {i j : Int} (hx : numV x = some i) (hy : numV y = some j) : sl x y = decide (i = j) := by
  cases x <;> cases hx <;> cases y <;> cases hy <;> rfl
theorem sl_oth {x y : Vl} (h : numV x = none ∨ numV y = none) (hs : ∀ a b c d, x = .span a b → y = .span c d → a ≠ b) : sl x y = decide (x = y) := by
  unfold sl
  split
  · rename_i a b c d
    rw [if_neg (hs a b c d rfl rfl)]
    simp
  · unfold slx
    rcases h with h | h
    · rw [h]
    · rw [h]; split <;> first | rfl | (rename_i h2; cases h2)
end
section
variable {P : Program} {w : World} {K : PySem.W.Frag} {mg : Str → Option Value} {base : Heap}
theorem dvl {H : Hp} {v : V} {x : Vl} (h : Dt K H v (vlD x)) : ∃ q ws, v = .ref q ∧ SqT K H q (.str (knd x) :: ws) ∧ DtAll K H ws (resD x) := by
  rw [vlD_eq] at h
  cases h with
  | tup hs ha =>
    cases ha with
    | cons h1 h2 =>
      cases dt_str h1
      exact ⟨_, _, rfl, hs, h2⟩
def spIsNumV (K : PySem.W.Frag) : Sp := fun vs H Q _ => ∃ (v : V) (x : Vl), vs = [v] ∧ Dt K H v (vlD x) ∧ ∀ H', Same H H' → Q (.bl (numV x).isSome) H'
theorem ok_isnumV {f : Addr} {fd : FuncData} (F : Fun K "is_number" "is_number" s_is_number f fd) (T : Txt K mg) : FnG P w K mg base CX0 1 f fd P_is_number (spIsNumV K) := by
  refine okG0 F sc_is_number (fun vs H Q E h => ?_) fun cdv A outer s H vs Q E hr hg h => ?_
  · obtain ⟨v, x, rfl, _⟩ := h
    rfl
  · obtain ⟨v, x, rfl, hd, k⟩ := h
    obtain ⟨q, ws, rfl, hs, _⟩ := dvl hd
    have e0 : ∀ i < 8, inV (V.str (nmK i)) [V.str "int", V.str "bool"] = (i == 1 || i == 2) := by decide +kernel
    have e : inV (V.str (knd x)) [V.str "int", V.str "bool"] = (numV x).isSome := (e0 _ (kn_lt x)).trans (by cases x <;> rfl)
    refine ⟨_, (pss_one (ps_ret (pe_cmpR op_in_seq (pe_ix ix_tup (pv 0) pe_int (fun _ _ => rfl)) (pe_tup (pa_cons pe_str (pa_cons pe_str pa_nil))) (by rfl)))), ?_⟩
    refine ⟨_, rfl, q, _, _, _, rfl, rfl, hs, at0, sz_2, fun u hu => ⟨u, _, rfl, .inr (SqT.of upd_same), rfl, rfl, ?_⟩⟩
    rw [if_neg Bool.false_ne_true, e]
    exact k _ (Same.new hu)
def spSameLeaf (K : PySem.W.Frag) : Sp := fun vs H Q _ => ∃ (v u : V) (x y : Vl), vs = [v, u] ∧ Dt K H v (vlD x) ∧ Dt K H u (vlD y) ∧ vOk x ∧ vOk y ∧ ∀ H', Same H H' → Q (.bl (sl x y)) H'
theorem num_d {x : Vl} {i : Int} (h : numV x = some i) : ∃ d, resD x = [d] ∧ Shp 0 d ∧ ((d = .int i) ∨ ∃ b, d = .bool b ∧ i = if b then 1 else 0) := by
  cases x <;> cases h
  · exact ⟨_, rfl, Shp.bool 0 _, .inr ⟨_, rfl, rfl⟩⟩
  · exact ⟨_, rfl, Shp.int 0 _, .inl rfl⟩
theorem ok_sameleaf {f : Addr} {fd : FuncData} (F : Fun K "same_leaf" "same_leaf" s_same_leaf f fd) (T : Txt K mg) (U_is_number : Use P w K mg base CX0 "is_number" 1 P_is_number (spIsNumV K)) : FnG P w K mg base CX0 2 f fd P_same_leaf (spSameLeaf K) := by
  refine okG0 F sc_same_leaf (fun vs H Q E h => ?_) fun cdv A outer s H vs Q E hr hg h => ?_
  · obtain ⟨v, u, x, y, rfl, _⟩ := h
    rfl
  · obtain ⟨v, u, x, y, rfl, hx, hy, ox, oy, k⟩ := h
    refine ⟨_, (C8.pss_cut (ps_if (PW.pt (pw_and (pt_val (pe_use U_is_number (hr.mono (by decide)) hg rfl (pa_cons (pv 0) pa_nil))) (pw_and1 (pt_val (pe_use U_is_number (hr.mono (by decide)) hg rfl (pa_cons (pv 1) pa_nil))))))
   (pss_one (ps_ret (pe_cmpR (op_eqD hr.units) (pe_ix ix_tup (pv 0) pe_int (fun _ _ => rfl)) (pe_ix ix_tup (pv 1) pe_int (fun _ _ => rfl)) (nomark _))))
   pss_nil)
  (C8.pss_cut (ps_if (PW.pt (pw_and (pt_cmpR op_eq (pe_ix ix_tup (pv 0) pe_int (fun _ _ => rfl)) pe_str (nomark _)) (pw_and (pt_cmpR op_eq (pe_ix ix_tup (pv 1) pe_int (fun _ _ => rfl)) pe_str (nomark _)) (pw_and1 (pt_cmpR (op_eqD hr.units) (pe_ix ix_tup (pv 0) pe_int (fun _ _ => rfl)) (pe_ix ix_tup (pv 0) pe_int (fun _ _ => rfl)) (nomark _))))))
   (pss_one (ps_ret (pe_cmpR (op_eqD hr.units) (pe_ix ix_tup (pv 1) pe_int (fun _ _ => rfl)) (pe_ix ix_tup (pv 1) pe_int (fun _ _ => rfl)) (nomark _))))
   pss_nil)
  (pss_one (ps_ret (pe_cmpR (op_eqD hr.units) (pv 0) (pv 1) (nomark _)))))), ?_⟩
    obtain ⟨q1, w1, rfl, hs1, da1⟩ := dvl hx
    obtain ⟨q2, w2, rfl, hs2, da2⟩ := dvl hy
    refine ⟨fun σ H1 => σ = [some (.ref q1), some (.ref q2)] ∧ Same H H1 ∧ (numV x = none ∨ numV y = none), ?_, ?_⟩
    · refine ⟨_, rfl, _, x, rfl, hx, fun H1 S1 => ⟨_, rfl, ?_⟩⟩
      cases hnx : numV x with
      | none => exact iteFb rfl ⟨rfl, S1, .inl rfl⟩
      | some i =>
        refine iteTb rfl ⟨_, rfl, _, y, rfl, hy.mono S1, fun H2 S2 => ⟨_, rfl, ?_⟩⟩
        cases hny : numV y with
        | none => exact iteFb rfl ⟨rfl, S1.trans S2, .inr rfl⟩
        | some j =>
          refine iteTb rfl ?_
          obtain ⟨d, ed, sd, hd⟩ := num_d hnx
          obtain ⟨e, ee, se, he⟩ := num_d hny
          rw [ed] at da1
          rw [ee] at da2
          obtain ⟨v1, _, rfl, dv1, _⟩ := da1.cons_inv
          obtain ⟨v2, _, rfl, dv2, _⟩ := da2.cons_inv
          have S := S1.trans S2
          refine ⟨_, rfl, q1, _, _, _, rfl, rfl, Same.tupl S hs1, at1, _, rfl, q2, _, _, _, rfl, rfl, Same.tupl S hs2, at1, d, e, (dv1.mono S).dp, (dv2.mono S).dp, sd.sh (by decide), se.sh (by decide), ?_⟩
          have eq : PyData.eqv d e = sl x y := by
            rw [sl_num hnx hny]
            rcases hd with rfl | ⟨b, rfl, rfl⟩ <;> rcases he with rfl | ⟨c, rfl, rfl⟩
            · exact bD _ _
            · exact bD _ _
            · exact bD _ _
            · show (b == c) = _
              cases b <;> cases c <;> rfl
          rw [eq]
          exact k _ S
    rintro _ H1 ⟨rfl, S1, hno⟩
    refine ⟨fun σ H2 => σ = [some (.ref q1), some (.ref q2)] ∧ Same H H2 ∧ ∀ a b c d, x = .span a b → y = .span c d → a ≠ b, ?_, ?_⟩
    · refine ⟨_, rfl, q1, _, _, _, rfl, rfl, Same.tupl S1 hs1, at0, rfl, _, rfl, ?_⟩
      by_cases c1 : kn x = 4
      · refine iteTb ((knd_is x 4 (by decide)).trans (decide_eq_true c1)) ?_
        refine ⟨_, rfl, q2, _, _, _, rfl, rfl, Same.tupl S1 hs2, at0, rfl, _, rfl, ?_⟩
        by_cases c2 : kn y = 4
        · refine iteTb ((knd_is y 4 (by decide)).trans (decide_eq_true c2)) ?_
          cases x with
          | span a b =>
            cases y with
            | span c d =>
              obtain ⟨v1, _, rfl, dv1, da1⟩ := da1.cons_inv
              obtain ⟨v2, _, rfl, dv2, da1⟩ := da1.cons_inv
              obtain ⟨u1, _, rfl, du1, da2⟩ := da2.cons_inv
              obtain ⟨u2, _, rfl, du2, da2⟩ := da2.cons_inv
              refine ⟨_, rfl, q1, _, _, _, rfl, rfl, Same.tupl S1 hs1, at1, _, rfl, q1, _, _, _, rfl, rfl, Same.tupl S1 hs1, at2, .int a, .int b, (dv1.mono S1).dp, (dv2.mono S1).dp, rfl, rfl, _, rfl, ?_⟩
              have e1 : PyData.eqv (.int a) (.int b) = decide (a = b) := bD _ _
              rw [e1]
              refine ite3 (fun hc => ?_) fun hc => ?_
              · have hab := of_decide_eq_true hc
                refine ⟨_, rfl, q2, _, _, _, rfl, rfl, Same.tupl S1 hs2, at1, _, rfl, q2, _, _, _, rfl, rfl, Same.tupl S1 hs2, at2, .int _, .int d, (du1.mono S1).dp, (du2.mono S1).dp, rfl, rfl, ?_⟩
                have e2 : ∀ c : Int, PyData.eqv (.int c) (.int d) = decide (c = d) := fun c => bD _ _
                rw [e2]
                have e3 : sl (.span a b) (.span c d) = decide (c = d) := by show (if a = b then decide (c = d) else decide (a = c ∧ b = d)) = _; rw [if_pos hab]
                rw [← e3]
                exact k _ S1
              · exact ⟨rfl, S1, fun a' b' c' d' h _ => by cases h; exact of_decide_eq_false hc⟩
            | _ => simp [kn] at c2
          | _ => simp [kn] at c1
        · exact iteFb ((knd_is y 4 (by decide)).trans (decide_eq_false c2)) (iteFb rfl ⟨rfl, S1, fun _ _ _ _ _ h => absurd (by rw [h]; rfl) c2⟩)
      · exact iteFb ((knd_is x 4 (by decide)).trans (decide_eq_false c1)) (iteFb rfl ⟨rfl, S1, fun _ _ _ _ h _ => absurd (by rw [h]; rfl) c1⟩)
    · rintro _ H2 ⟨rfl, S2, hsp⟩
      refine ⟨_, rfl, _, rfl, _, _, (hx.mono S2).dp, (hy.mono S2).dp, ox.shp.sh (by decide), oy.shp.sh (by decide), ?_⟩
      rw [eqv_vl x y hno, ← sl_oth hno hsp]
      exact k _ S2
end

section
--SPLIT
end
abbrev s_object_kind : Stmt := top 8
abbrev N_object_kind : List Str := ["heap", "value"]
abbrev P_object_kind : List Str := ["heap", "value"]
theorem sc_object_kind : FnScope N_object_kind P_object_kind (defScope s_object_kind) := ⟨rfl, rfl, rfl, by decide +kernel, rfl, by decide +kernel, by decide +kernel⟩
section
variable {P : Program} {w : World} {K : PySem.W.Frag} {mg : Str → Option Value} {base : Heap}
inductive KindIs (hds : List PyData) : PyData → Str → Prop
  | plain {z : Str} {rest : List PyData} : V.str z ≠ V.str "ref" → KindIs hds (.tuple (.str z :: rest)) ""
  | obj {k : Nat} {kd : Str} {rest : List PyData} : hds[k]? = some (.tuple (.str kd :: rest)) → KindIs hds (.tuple [.str "ref", .int (k : Nat)]) kd
def spKind (K : PySem.W.Frag) : Sp := fun vs H Q _ => ∃ (hp : Addr) (hds : List PyData) (v : V) (d : PyData) (kd : Str), vs = [.ref hp, v] ∧ ListAt K H hp hds ∧ Dt K H v d ∧ KindIs hds d kd ∧ Q (.str kd) H
theorem ok_kind {f : Addr} {fd : FuncData} (F : Fun K "object_kind" "object_kind" s_object_kind f fd) (T : Txt K mg) : FnG P w K mg base CX0 1 f fd P_object_kind (spKind K) := by
  refine okG0 F sc_object_kind (fun vs H Q E h => ?_) fun cdv A outer s H vs Q E hr hg h => ?_
  · obtain ⟨hp, hds, v, d, kd, rfl, _⟩ := h
    rfl
  · obtain ⟨hp, hds, v, d, kd, rfl, ⟨xs, hx, ax⟩, hd, hk, k⟩ := h
    refine ⟨_, (pss_cons (ps_if (pt_cmpR op_ne (pe_ix ix_tup (pv 1) pe_int (fun _ _ => rfl)) pe_str (nomark _))
   (pss_one (ps_ret pe_str))
   pss_nil)
  (pss_one (ps_ret (pe_ix ix_tup (pe_ix ix_list (pv 0) (pe_ix ix_tup (pv 1) pe_int (fun _ _ => rfl)) (fun _ _ => rfl)) pe_int (fun _ _ => rfl))))), ?_⟩
    cases hk with
    | plain hz =>
      obtain ⟨q, ws, rfl, hs, _⟩ := hd.head
      exact ⟨_, rfl, q, _, _, _, rfl, rfl, hs, at0, rfl, _, rfl, iteTb (by rw [decide_eq_false hz]; rfl) k⟩
    | @obj i _ rest hh =>
      obtain ⟨q, y, rfl, hs, h2⟩ := hd.pair
      cases h2.int_inv
      obtain ⟨o, ho, dO⟩ := ax.get hh
      obtain ⟨qo, zs, rfl, hso, _⟩ := dO.head
      refine ⟨_, rfl, q, _, _, _, rfl, rfl, hs, at0, rfl, _, rfl, iteFb (by decide +kernel) ?_⟩
      exact ⟨_, rfl, _, rfl, q, _, _, _, rfl, rfl, hs, at1, hp, _, _, _, rfl, rfl, SqL.of hx, atI_nat ho, qo, _, _, _, rfl, rfl, hso, at0, k⟩
end

abbrev s_word : Stmt := top 15
abbrev N_word : List Str := ["heap", "value", "kind"]
abbrev P_word : List Str := ["heap", "value"]
theorem sc_word : FnScope N_word P_word (defScope s_word) := ⟨rfl, rfl, rfl, by decide +kernel, rfl, by decide +kernel, by decide +kernel⟩
abbrev s_key_text : Stmt := top 13
abbrev N_key_text : List Str := ["heap", "value", "words", "waiting", "part", "word"]
abbrev P_key_text : List Str := ["heap", "value"]
theorem sc_key_text : FnScope N_key_text P_key_text (defScope s_key_text) := ⟨rfl, rfl, rfl, by decide +kernel, rfl, by decide +kernel, by decide +kernel⟩
section
variable {P : Program} {w : World} {K : PySem.W.Frag} {mg : Str → Option Value} {base : Heap}
/-! rows of a heap -/
inductive Row
  | tup (vs : List Vl) | lst (vs : List Vl) | dct (es : List (Vl × Vl)) | oth (z : Str) (r : List PyData)
def entD (e : Vl × Vl) : PyData := .tuple [vlD e.1, vlD e.2]
def rkd : Row → Str
  | .tup _ => "tuple" | .lst _ => "list" | .dct _ => "dict" | .oth z _ => z
def rparts : Row → List PyData
  | .tup vs => vs.map vlD | .lst vs => vs.map vlD | .dct es => es.map entD | .oth _ _ => []
def rowD : Row → PyData
  | .oth z r => .tuple (.str z :: r)
  | .tup vs => .tuple [.str "tuple", .tuple (vs.map vlD)]
  | .lst vs => .tuple [.str "list", .tuple (vs.map vlD)]
  | .dct es => .tuple [.str "dict", .tuple (es.map entD)]
def isOth : Row → Prop
  | .oth z _ => z ≠ "tuple" ∧ z ≠ "list" ∧ z ≠ "dict"
  | _ => True
def rlen : Row → Nat
  | .tup vs => vs.length | .lst vs => vs.length | .dct es => es.length | .oth _ _ => 0
structure RowOk (r : Row) : Prop where
  oth : isOth r
  len : rlen r ≤ 1000
theorem rowD_hd (r : Row) : ∃ rest, rowD r = .tuple (.str (rkd r) :: rest) := by cases r <;> exact ⟨_, rfl⟩
theorem rowD_two {r : Row} (h : ∀ z q, r ≠ .oth z q) : rowD r = .tuple [.str (rkd r), .tuple (rparts r)] := by
  cases r with
  | oth z q => exact absurd rfl (h z q)
  | _ => rfl
def tsI (i : Int) : Str := Str.ofString (toString i)
def wordR (rows : List Row) : Vl → Str
  | .non => "none"
  | .bool b => tsI (if b = true then 1 else 0)
  | .int i => tsI i
  | .text z => (tsI ((z.length : Nat) : Int) ++ ":") ++ z
  | .ref k => match rows[k]? with
    | some (.tup vs) => "(" ++ tsI ((vs.length : Nat) : Int)
    | _ => ""
  | _ => ""
def wOk (rows : List Row) : Vl → Prop
  | .int i => i.natAbs < 2 ^ 260
  | .text z => z.length ≤ 2000
  | .ref k => ∃ r, rows[k]? = some r ∧ RowOk r
  | _ => True
theorem tsI_len {i : Int} (h : i.natAbs < 2 ^ 1900) : (tsI i).length ≤ 2000 := by
  have hl : i.natAbs.log2 < 1900 := PySem.Flt.log2_lt_of (by decide) h
  have e := int_text_length_le (k := 1900) (by decide) hl
  show (Str.ofString (toString i)).length ≤ 2000
  rw [PySem.ofString_length]; omega
theorem log_lt {i : Int} (h : i.natAbs < 2 ^ 300) : i.natAbs.log2 < 1920 := Nat.lt_of_lt_of_le (PySem.Flt.log2_lt_of (k := 300) (by decide) h) (by decide)
theorem small_lt {n : Nat} (h : n ≤ 2000) : ((n : Nat) : Int).natAbs < 2 ^ 300 := Nat.lt_of_le_of_lt (show _ ≤ 2000 by omega) (Nat.lt_of_lt_of_le (show 2000 < 2 ^ 11 by decide) (Nat.pow_le_pow_right (by decide) (by decide)))
theorem kindR {rows : List Row} {x : Vl} (h : ∀ k, x = .ref k → ∃ r, rows[k]? = some r ∧ RowOk r) : ∃ kd, KindIs (rows.map rowD) (vlD x) kd ∧ ((∀ k, x ≠ .ref k) → kd = "") ∧ ∀ k r, x = .ref k → rows[k]? = some r → kd = rkd r := by
  by_cases c : ∃ k, x = .ref k
  · obtain ⟨k, rfl⟩ := c
    obtain ⟨r, hr, _⟩ := h k rfl
    obtain ⟨rest, e⟩ := rowD_hd r
    exact ⟨rkd r, .obj (rest := rest) (by rw [List.getElem?_map, hr]; exact congrArg some e), fun h => absurd rfl (h k), fun k' r' h1 h2 => by cases h1; rw [hr] at h2; rw [Option.some.inj h2]⟩
  · have hk : kn x ≠ 5 := fun e => c (by cases x <;> simp [kn] at e; exact ⟨_, rfl⟩)
    exact ⟨"", by rw [vlD_eq]; exact .plain fun e => (knd_ne (y := .ref 0) hk) (V.str.inj e), fun _ => rfl, fun k _ e => absurd ⟨k, e⟩ c⟩
def spWord (K : PySem.W.Frag) : Sp := fun vs H Q _ => ∃ (hp : Addr) (rows : List Row) (v : V) (x : Vl), vs = [.ref hp, v] ∧ ListAt K H hp (rows.map rowD) ∧ Dt K H v (vlD x) ∧ wOk rows x ∧ ∀ H', Same H H' → Q (.str (wordR rows x)) H'
theorem ok_word {f : Addr} {fd : FuncData} (F : Fun K "_word" "_word" s_word f fd) (T : Txt K mg) (U_object_kind : Use P w K mg base CX0 "object_kind" 1 P_object_kind (spKind K)) : FnG P w K mg base CX0 2 f fd P_word (spWord K) := by
  refine okG0 F sc_word (fun vs H Q E h => ?_) fun cdv A outer s H vs Q E hr hg h => ?_
  · obtain ⟨hp, rows, v, x, rfl, _⟩ := h
    rfl
  · obtain ⟨hp, rows, v, x, rfl, L, dx, hw, k⟩ := h
    refine ⟨_, (pss_cons (ps_set (i := 2) sc_word.nd rfl (Or.inl rfl) (pe_ix ix_tup (pv 1) pe_int (fun _ _ => rfl)))
  (pss_cons (ps_if (pt_cmpR op_eq (pv 2) pe_str (nomark _))
   (pss_one (ps_ret pe_str))
   pss_nil)
  (pss_cons (ps_if (pt_cmpR op_in_seq (pv 2) (pe_tup (pa_cons pe_str (pa_cons pe_str pa_nil))) (by rfl))
   (pss_one (ps_ret (pe_callTy call_str_int (by rfl) T.b_str (by decide +kernel) (pa_cons (pe_callTy call_int1 (by rfl) T.b_int (by decide +kernel) (pa_cons (pe_ix ix_tup (pv 1) pe_int (fun _ _ => rfl)) pa_nil)) pa_nil))))
   pss_nil)
  (pss_cons (ps_if (pt_cmpR op_eq (pv 2) pe_str (nomark _))
   (pss_one (ps_ret (pe_op op_add_str (pe_op op_add_str (pe_callTy call_str_int (by rfl) T.b_str (by decide +kernel) (pa_cons (pe_callB call_len (by rfl) T.b_len PySem.boot_len (pa_cons (pe_ix ix_tup (pv 1) pe_int (fun _ _ => rfl)) pa_nil)) pa_nil)) pe_str) (pe_ix ix_tup (pv 1) pe_int (fun _ _ => rfl)))))
   pss_nil)
  (pss_cons (ps_if (pt_cmpR op_eq (pe_use U_object_kind (hr.mono (by decide)) hg rfl (pa_cons (pv 0) (pa_cons (pv 1) pa_nil))) pe_str (nomark _))
   (pss_one (ps_ret (pe_op op_add_str pe_str (pe_callTy call_str_int (by rfl) T.b_str (by decide +kernel) (pa_cons (pe_callB call_len (by rfl) T.b_len PySem.boot_len (pa_cons (pe_ix ix_tup (pe_ix ix_list (pv 0) (pe_ix ix_tup (pv 1) pe_int (fun _ _ => rfl)) (fun _ _ => rfl)) pe_int (fun _ _ => rfl)) pa_nil)) pa_nil)))))
   pss_nil)
  (pss_one (ps_ret pe_str))))))), ?_⟩
    obtain ⟨q, ws, rfl, hs, da⟩ := dvl dx
    refine ⟨_, rfl, q, _, _, _, rfl, rfl, hs, at0, ?_⟩
    have kd : ∀ n < 8, decide (V.str (knd x) = V.str (nmK n)) = decide (kn x = n) := fun n hn => knd_is x n hn
    refine ⟨_, rfl, rfl, _, rfl, ?_⟩
    by_cases c0 : kn x = 0
    · refine iteTb ((kd 0 (by decide)).trans (decide_eq_true c0)) ?_
      cases x <;> simp [kn] at c0
      exact k _ (Same.refl _)
    refine iteFb ((kd 0 (by decide)).trans (decide_eq_false c0)) ?_
    have e0 : ∀ i < 8, inV (V.str (nmK i)) [V.str "bool", V.str "int"] = (i == 1 || i == 2) := by decide +kernel
    refine ⟨_, rfl, sz_2, fun u hu => ⟨u, _, rfl, .inr (SqT.of upd_same), rfl, rfl, _, rfl, ?_⟩⟩
    have S1 := Same.new (o := .tup [V.str "bool", V.str "int"]) hu
    generalize upd H u _ = H1 at S1
    have num : ∀ i : Int, i.natAbs < 2 ^ 300 → i.natAbs.log2 < 1920 := fun i h => log_lt h
    by_cases c1 : kn x = 1 ∨ kn x = 2
    · refine iteTb (by rw [if_neg Bool.false_ne_true]; exact (e0 _ (kn_lt x)).trans (by rcases c1 with c | c <;> rw [c] <;> rfl)) ?_
      cases x with
      | bool b =>
        obtain ⟨v1, _, rfl, dv1, _⟩ := da.cons_inv
        cases dv1
        exact ⟨_, rfl, q, _, _, _, rfl, rfl, Same.tupl S1 hs, at1, .inr ⟨_, rfl, _, rfl, num _ (by cases b <;> exact Nat.lt_of_lt_of_le (show _ < 2 ^ 2 by decide) (Nat.pow_le_pow_right (by decide) (by decide))), k _ S1⟩⟩
      | int i =>
        obtain ⟨v1, _, rfl, dv1, _⟩ := da.cons_inv
        cases dv1.int_inv
        exact ⟨_, rfl, q, _, _, _, rfl, rfl, Same.tupl S1 hs, at1, .inl ⟨_, rfl, _, rfl, num _ (Nat.lt_of_lt_of_le hw (Nat.pow_le_pow_right (by decide) (by decide))), k _ S1⟩⟩
      | _ => simp [kn] at c1
    refine iteFb (by rw [if_neg Bool.false_ne_true]; exact (e0 _ (kn_lt x)).trans (by rw [not_or] at c1; simp [c1.1, c1.2])) ?_
    refine ⟨_, rfl, rfl, _, rfl, ?_⟩
    by_cases c3 : kn x = 3
    · refine iteTb ((kd 3 (by decide)).trans (decide_eq_true c3)) ?_
      cases x with
      | text z =>
        obtain ⟨v1, _, rfl, dv1, _⟩ := da.cons_inv
        cases dt_str dv1
        have hz : z.length ≤ 2000 := hw
        have ht := tsI_len (i := ((z.length : Nat) : Int)) (Nat.lt_of_lt_of_le (small_lt hz) (Nat.pow_le_pow_right (by decide) (by decide)))
        exact ⟨_, rfl, q, _, _, _, rfl, rfl, Same.tupl S1 hs, at1, _, _, rfl, ⟨ss_le (by omega), rfl⟩, _, rfl, num _ (small_lt hz), _, _, rfl, rfl, ss_le (by show (tsI _).length + 1 ≤ _; omega), _, rfl, q, _, _, _, rfl, rfl, Same.tupl S1 hs, at1, _, _, rfl, rfl, ss_le (by rw [strlen_cat]; show (tsI _).length + 1 + _ ≤ _; omega), k _ S1⟩
      | _ => simp [kn] at c3
    refine iteFb ((kd 3 (by decide)).trans (decide_eq_false c3)) ?_
    obtain ⟨kd1, hk, hk0, hk1⟩ := kindR (rows := rows) (x := x) (fun k e => by subst e; exact hw)
    refine ⟨_, rfl, _, rfl, hp, _, _, _, kd1, rfl, listAt_mono L S1, dx.mono S1, hk, rfl, _, rfl, ?_⟩
    by_cases c5 : kn x = 5
    · cases x with
      | ref j =>
        obtain ⟨r, hr, ok⟩ := hw
        obtain rfl := hk1 j r rfl hr
        cases r with
        | tup vs =>
          refine iteTb (dec_str1 _) ?_
          obtain ⟨xs, y, ez, hy, dy⟩ := hd_at (listAt_mono L S1) (j := j) (d := rowD (.tup vs)) (by rw [List.getElem?_map, hr]; rfl)
          obtain ⟨qo, x1, x2, rfl, hqo, d1, d2⟩ := dt_pr dy
          cases d2 with
          | @tup pt ps _ hps hd =>
          have lps := hd.length
          rw [List.length_map] at lps
          obtain ⟨v1, _, rfl, dv1, _⟩ := da.cons_inv
          cases dv1.int_inv
          have hlv : vs.length ≤ 1000 := ok.len
          refine ⟨_, rfl, _, rfl, q, _, _, _, rfl, rfl, Same.tupl S1 hs, at1, hp, _, _, _, rfl, rfl, SqL.of ez, hy, qo, _, _, _, rfl, rfl, hqo, at1, _, _, rfl, .inr ⟨_, hps, rfl⟩, ?_⟩
          rw [lps]
          have ht := tsI_len (i := ((vs.length : Nat) : Int)) (Nat.lt_of_lt_of_le (small_lt (by omega)) (Nat.pow_le_pow_right (by decide) (by decide)))
          have e : wordR rows (.ref j) = "(" ++ tsI ((vs.length : Nat) : Int) := by
            show (match rows[j]? with | some (.tup vs) => ("(" ++ tsI ((vs.length : Nat) : Int) : Str) | _ => "") = _
            rw [hr]
          rw [e] at k
          exact ⟨_, rfl, num _ (small_lt (by omega)), _, _, rfl, rfl, ss_le (by show 1 + (tsI _).length ≤ _; omega), k _ S1⟩
        | lst vs =>
          refine iteFb (dec_str (show ("list" : Str) ≠ "tuple" by decide)) ?_
          have e : wordR rows (.ref j) = "" := by
            show (match rows[j]? with | some (.tup vs) => ("(" ++ tsI ((vs.length : Nat) : Int) : Str) | _ => "") = _
            rw [hr]
          rw [e] at k
          exact k _ S1
        | dct es =>
          refine iteFb (dec_str (show ("dict" : Str) ≠ "tuple" by decide)) ?_
          have e : wordR rows (.ref j) = "" := by
            show (match rows[j]? with | some (.tup vs) => ("(" ++ tsI ((vs.length : Nat) : Int) : Str) | _ => "") = _
            rw [hr]
          rw [e] at k
          exact k _ S1
        | oth z rest =>
          refine iteFb (dec_str ok.oth.1) ?_
          have e : wordR rows (.ref j) = "" := by
            show (match rows[j]? with | some (.tup vs) => ("(" ++ tsI ((vs.length : Nat) : Int) : Str) | _ => "") = _
            rw [hr]
          rw [e] at k
          exact k _ S1
      | _ => simp [kn] at c5
    · rw [hk0 fun j e => c5 (by rw [e]; rfl)]
      refine iteFb (by decide +kernel) ?_
      have e : wordR rows x = "" := by
        cases x <;> simp [kn] at c0 c1 c3 c5 <;> rfl
      rw [e] at k
      exact k _ S1
/-- the words of a key: n turns, what waits (the next first); none: it is no key -/
inductive KW (rows : List Row) : Nat → List Vl → Option (List Str) → Prop
  | done : KW rows 1 [] (some [])
  | word {n : Nat} {x : Vl} {st : List Vl} {r : Option (List Str)} : wordR rows x ≠ "" → (∀ k, x ≠ .ref k) → wOk rows x → KW rows n st r → KW rows (n + 1) (x :: st) (r.map (wordR rows x :: ·))
  | tup {n k : Nat} {vs st : List Vl} {r : Option (List Str)} : rows[k]? = some (.tup vs) → vs.length ≤ 1000 → KW rows n (vs ++ st) r → KW rows (n + 1) (.ref k :: st) (r.map (wordR rows (.ref k) :: ·))
  | bad {x : Vl} {st : List Vl} : wordR rows x = "" → wOk rows x → KW rows 1 (x :: st) none
theorem wordR_len {rows : List Row} {x : Vl} (h : wOk rows x) : (wordR rows x).length ≤ 5000 := by
  have ti : ∀ i : Int, i.natAbs < 2 ^ 300 → (tsI i).length ≤ 2000 := fun i h => tsI_len (Nat.lt_of_lt_of_le h (Nat.pow_le_pow_right (by decide) (by decide)))
  cases x with
  | non => exact Nat.le_of_ble_eq_true rfl
  | bool b => exact Nat.le_trans (ti _ (by cases b <;> exact Nat.lt_of_lt_of_le (show _ < 2 ^ 2 by decide) (Nat.pow_le_pow_right (by decide) (by decide)))) (by decide)
  | int i => exact Nat.le_trans (ti i (Nat.lt_of_lt_of_le h (Nat.pow_le_pow_right (by decide) (by decide)))) (by decide)
  | text z =>
    have hz : z.length ≤ 2000 := h
    have := ti ((z.length : Nat) : Int) (small_lt hz)
    show ((tsI ((z.length : Nat) : Int) ++ ":") ++ z).length ≤ 5000
    rw [strlen_cat, strlen_cat]
    show _ + 1 + _ ≤ _
    omega
  | span a b => exact Nat.zero_le _
  | built n => exact Nat.zero_le _
  | host n => exact Nat.zero_le _
  | ref k =>
    obtain ⟨r, hr, ok⟩ := h
    show (match rows[k]? with | some (.tup vs) => ("(" ++ tsI ((vs.length : Nat) : Int) : Str) | _ => "").length ≤ _
    rw [hr]
    cases r with
    | tup vs =>
      have hv : vs.length ≤ 1000 := ok.len
      have := ti ((vs.length : Nat) : Int) (small_lt (by omega))
      show ("(" ++ tsI ((vs.length : Nat) : Int) : Str).length ≤ _
      rw [strlen_cat]
      show 1 + _ ≤ _
      omega
    | lst vs => exact Nat.zero_le _
    | dct vs => exact Nat.zero_le _
    | oth z r => exact Nat.zero_le _
def kresV (t : Str) : Option (List Str) → List V
  | some ws => [.str "ok", .str (Txt.join " " ws)]
  | none => [.str "raise", .int 10, .str ("not a key: " ++ t)]
def spKeyText (K : PySem.W.Frag) : Sp := fun vs H Q _ => ∃ (hp : Addr) (rows : List Row) (v : V) (x : Vl) (n : Nat) (r : Option (List Str)) (t : Str), vs = [.ref hp, v] ∧ ListAt K H hp (rows.map rowD) ∧ Dt K H v (vlD x) ∧ KW rows n [x] r ∧ n ≤ 900 ∧ (r = none → NameOf (rows.map rowD) (vlD x) t ∧ t.length ≤ 1000) ∧
  ∀ q H', Same H H' → H q = none → H' q = some (.tup (kresV t r)) → Q (.ref q) H'
theorem ok_keytext {f : Addr} {fd : FuncData} (F : Fun K "key_text" "key_text" s_key_text f fd) (T : Txt K mg) (U_word : Use P w K mg base CX0 "_word" 2 P_word (spWord K)) (U_kind_name : Use P w K mg base CX0 "kind_name" 1 P_kind_name (spKName K)) : FnG P w K mg base CX0 3 f fd P_key_text (spKeyText K) := by
  refine okG0 F sc_key_text (fun vs H Q E h => ?_) fun cdv A outer s H vs Q E hr hg h => ?_
  · obtain ⟨hp, rows, v, x, n, r, t, rfl, _⟩ := h
    rfl
  · obtain ⟨hp, rows, v, x, n, r, t, rfl, L, dx, kw, hn, hbad, k⟩ := h
    refine ⟨_, (pss_cons (ps_set (i := 2) sc_key_text.nd rfl (Or.inl rfl) (pe_lst pa_nil))
  (pss_cons (ps_set (i := 3) sc_key_text.nd rfl (Or.inl rfl) (pe_lst (pa_cons (pv 1) pa_nil)))
  (pss_cons (ps_while PassesOwn.never (pt_up (pt_truth (pv 3) (by intro _; rfl)))
   (pss_cons (ps_if (pt_cmpR op_eq (pe_callB call_len (by rfl) T.b_len PySem.boot_len (pa_cons (pv 2) pa_nil)) (pe_globI T.c_MOST_ENTRIES (by rfl)) (nomark _))
   (pss_one (ps_ret (pe_globT T.c_TOO_LARGE (by rfl))))
   pss_nil)
  (pss_cons (ps_set (i := 4) sc_key_text.nd rfl (Or.inl rfl) (pe_bm0 PySem.F.plainAttrs_list PySem.F.slot_list_pop PySem.F.type_list_pop mt_pop (pv 3)))
  (pss_cons (ps_set (i := 5) sc_key_text.nd rfl (Or.inl rfl) (pe_use U_word (hr.mono (by decide)) hg rfl (pa_cons (pv 0) (pa_cons (pv 4) pa_nil))))
  (pss_cons (ps_if (pt_cmpR op_eq (pv 5) pe_str (nomark _))
   (pss_one (ps_ret (pe_tup (pa_cons pe_str (pa_cons (pe_globI T.c_TYPE_ERROR (by rfl)) (pa_cons (pe_op op_add_str pe_str (pe_use U_kind_name (hr.mono (by decide)) hg rfl (pa_cons (pv 0) (pa_cons (pv 1) pa_nil)))) pa_nil))))))
   pss_nil)
  (pss_cons (ps_expr (pe_bm PySem.F.plainAttrs_list PySem.F.slot_list_append PySem.F.type_list_append mt_append (pv 2) (pa_cons (pv 5) pa_nil)))
  (pss_one (ps_if (pt_cmpR op_eq (pe_ix ix_tup (pv 4) pe_int (fun _ _ => rfl)) pe_str (nomark _))
   (pss_one (ps_expr (pe_bm PySem.F.plainAttrs_list PySem.F.slot_list_extend PySem.F.type_list_extend mt_extend (pv 3) (pa_cons (pe_listRevT rfl (by rfl) T.b_list (by rfl) T.b_reversed (pe_ix ix_tup (pe_ix ix_list (pv 0) (pe_ix ix_tup (pv 4) pe_int (fun _ _ => rfl)) (fun _ _ => rfl)) pe_int (fun _ _ => rfl))) pa_nil))))
   pss_nil))))))))
  (pss_one (ps_ret (pe_tup (pa_cons pe_str (pa_cons (pe_bm PySem.F.plainAttrs_str PySem.F.slot_str_join PySem.F.type_str_join mt_join pe_str (pa_cons (pv 2) pa_nil)) pa_nil)))))))), ?_⟩
    refine ⟨sz_0, fun wl hwl => ⟨_, rfl, sz_1, fun tl htl => ?_⟩⟩
    have S1 := Same.new (o := .lst []) hwl
    have ew1 : upd H wl (.lst []) wl = some (.lst []) := upd_same
    have S2 := S1.trans (Same.new (o := .lst [v]) htl)
    have nwt : wl ≠ tl := ne_of_none ew1 htl
    have hw0 : H wl = none := hwl
    have ht0 : H tl = none := same_none' S1 htl
    have ew2 : upd (upd H wl (.lst [])) tl (.lst [v]) wl = some (.lst []) := by rw [upd_ne nwt]; exact ew1
    have et2 : upd (upd H wl (.lst [])) tl (.lst [v]) tl = some (.lst [v]) := upd_same
    generalize upd (upd H wl (.lst [])) tl (.lst [v]) = H2 at S2 ew2 et2
    clear hwl htl S1 ew1
    have sp1 : (" " : Str).length = 1 := rfl
    refine while_upN (fun m σ H4 => ∃ (ws : List Str) (zs : List V) (st : List Vl) (r' : Option (List Str)) (x4 x5 : Option V), σ = [some (.ref hp), some v, some (.ref wl), some (.ref tl), x4, x5] ∧ Same H H4 ∧ H4 wl = some (.lst (ws.map V.str)) ∧ H4 tl = some (.lst zs) ∧ DtAll K H4 zs (st.reverse.map vlD) ∧ KW rows m st r' ∧ r = r'.map (ws ++ ·) ∧
        ws.length + m ≤ 900 ∧ (ws.map (·.length)).sum ≤ 5000 * ws.length ∧ st.length ≤ 1 + 1000 * ws.length)
      ⟨n, [], [v], [x], r, none, none, rfl, S2, ew2, et2, .cons (dx.mono S2) .nil, kw, by cases r <;> rfl, by simpa using hn, by simp, by simp⟩ ?_
    clear ew2 et2 S2
    rintro m σ H4 ⟨ws, zs, st, r', x4, x5, rfl, S4, ew, et, az, kw, hr', hm, hsum, hst⟩
    have lz := az.length
    rw [List.length_map, List.length_reverse] at lz
    refine ⟨_, rfl, !zs.isEmpty, .inl ⟨zs, SqL.of et, rfl⟩, ?_⟩
    cases st with
    | nil =>
      obtain rfl : zs = [] := List.length_eq_zero_iff.mp lz
      refine iteFb rfl ?_
      cases kw
      refine ⟨rfl, _, rfl, " ", wl, ws, rfl, rfl, .inl (SqL.of ew), by rw [sp1]; omega, sz_2, fun q hq => ?_⟩
      have e : r = some ws := by rw [hr']; show some (ws ++ []) = _; rw [List.append_nil]
      refine k q _ (S4.trans (Same.new hq)) (same_none' S4 hq) ?_
      rw [e]
      exact upd_same
    | cons y st =>
      have hne : (!zs.isEmpty) = true := by cases zs <;> simp at lz ⊢
      refine iteTb hne ?_
      rw [List.length_cons] at lz
      refine ⟨_, rfl, _, _, rfl, .inl ⟨_, SqL.of ew, rfl⟩, rfl, _, rfl, iteFb ?_ ?_⟩
      · rw [List.length_map]
        exact decide_eq_false fun e => by have := V.int.inj e; omega
      rw [List.reverse_cons, List.map_append] at az
      obtain ⟨zs0, u, rfl, az0, du⟩ := dtAll_snoc az
      refine ⟨_, rfl, .inl ⟨rfl, _, SqL.of et⟩, tl, _, u, rfl, rfl, et, by simp, ?_⟩
      rw [List.dropLast_concat]
      have kT : KeepT K H4 (upd H4 tl (.lst zs0)) := KeepT.upd et
      have S5 : Same H (upd H4 tl (.lst zs0)) := fun b o e => by rw [upd_ne (ne_of_none e ht0)]; exact S4 b o e
      have ew5 : upd H4 tl (.lst zs0) wl = some (.lst (ws.map V.str)) := by rw [upd_ne nwt]; exact ew
      have et5 : upd H4 tl (.lst zs0) tl = some (.lst zs0) := upd_same
      have az5 := az0.keepT kT
      have du5 := du.keepT kT
      generalize upd H4 tl (.lst zs0) = H5 at S5 ew5 et5 az5 du5
      clear kT az az0 du et ew S4
      obtain ⟨hwk, hcase⟩ : wOk rows y ∧ ((wordR rows y = "" ∧ r' = none) ∨ (wordR rows y ≠ "" ∧ (((∀ k, y ≠ .ref k) ∧ ∃ n' r2, m = n' + 1 ∧ KW rows n' st r2 ∧ r' = r2.map (wordR rows y :: ·)) ∨ (∃ k vs n' r2, y = .ref k ∧ rows[k]? = some (.tup vs) ∧ vs.length ≤ 1000 ∧ m = n' + 1 ∧ KW rows n' (vs ++ st) r2 ∧ r' = r2.map (wordR rows y :: ·))))) := by
        cases kw with
        | @word n' _ _ r2 h1 h2 h3 h4 => exact ⟨h3, .inr ⟨h1, .inl ⟨h2, n', r2, rfl, h4, rfl⟩⟩⟩
        | @tup n' kk vs _ r2 h1 h2 h3 =>
          refine ⟨⟨_, h1, trivial, h2⟩, .inr ⟨?_, .inr ⟨kk, vs, n', r2, rfl, h1, h2, rfl, h3, rfl⟩⟩⟩
          have e : wordR rows (.ref kk) = "(" ++ tsI ((vs.length : Nat) : Int) := by
            show (match rows[kk]? with | some (.tup vs) => ("(" ++ tsI ((vs.length : Nat) : Int) : Str) | _ => "") = _
            rw [h1]
          rw [e]
          intro h
          have := congrArg Str.length h
          rw [strlen_cat] at this
          have e2 : ("(" : Str).length = 1 ∧ ("" : Str).length = 0 := ⟨rfl, rfl⟩
          omega
        | bad h1 h2 => exact ⟨h2, .inl ⟨h1, rfl⟩⟩
      refine ⟨_, rfl, _, rfl, hp, rows, _, y, rfl, listAt_mono L S5, du5, hwk, fun H6 S6 => ?_⟩
      have S56 := S5.trans S6
      have ew6 := S6 _ _ ew5
      have et6 := S6 _ _ et5
      have az6 := DtAll.mono S6 az5
      have du6 := du5.mono S6
      have hwl6 := wordR_len hwk
      clear ew5 et5 az5 du5
      refine ⟨_, rfl, rfl, _, rfl, ?_⟩
      rcases hcase with ⟨h1, rfl⟩ | ⟨h1, hcase⟩
      · refine iteTb (by rw [h1]; rfl) ?_
        have er : r = none := hr'
        obtain ⟨hb1, hb2⟩ := hbad er
        have ln : ("not a key: " : Str).length = 11 := rfl
        refine ⟨_, rfl, _, rfl, hp, _, v, _, t, rfl, listAt_mono L S56, dx.mono S56, hb1, _, _, rfl, rfl, ss_le (by rw [ln]; omega), sz_3, fun q hq => ?_⟩
        refine k q _ (S56.trans (Same.new hq)) (same_none' S56 hq) ?_
        rw [er]
        exact upd_same
      refine iteFb (dec_str h1) ?_
      refine ⟨_, rfl, .inl ⟨rfl, _, SqL.of ew6⟩, _, rfl, wl, _, _, rfl, rfl, ew6, by rw [List.length_map]; exact js_lt (by omega), ?_⟩
      have kT : KeepT K H6 (upd H6 wl (.lst (ws.map V.str ++ [.str (wordR rows y)]))) := KeepT.upd ew6
      have S7 : Same H (upd H6 wl (.lst (ws.map V.str ++ [.str (wordR rows y)]))) := fun b o e => by rw [upd_ne (ne_of_none e hw0)]; exact S56 b o e
      have ew7 : upd H6 wl (.lst (ws.map V.str ++ [.str (wordR rows y)])) wl = some (.lst ((ws ++ [wordR rows y]).map V.str)) := by rw [upd_same, List.map_append]; rfl
      have et7 : upd H6 wl (.lst (ws.map V.str ++ [.str (wordR rows y)])) tl = some (.lst zs0) := by rw [upd_ne (Ne.symm nwt)]; exact et6
      have az7 := az6.keepT kT
      have du7 := du6.keepT kT
      generalize upd H6 wl (.lst (ws.map V.str ++ [.str (wordR rows y)])) = H7 at S7 ew7 et7 az7 du7
      clear kT ew6 et6 az6 du6
      obtain ⟨q, wq, rfl, hq, dq⟩ := dvl du7
      have hsum2 : ((ws ++ [wordR rows y]).map (·.length)).sum ≤ 5000 * (ws ++ [wordR rows y]).length := by
        rw [List.map_append, List.sum_append, List.length_append]
        show _ + ((wordR rows y).length + 0) ≤ 5000 * (ws.length + 1)
        omega
      have hl2 : (ws ++ [wordR rows y]).length = ws.length + 1 := by rw [List.length_append]; rfl
      have hr2 : ∀ r2 : Option (List Str), r' = r2.map (wordR rows y :: ·) → r = r2.map ((ws ++ [wordR rows y]) ++ ·) := fun r2 e => by
        rw [hr', e]
        cases r2 with
        | none => rfl
        | some l => show some (ws ++ (_ :: l)) = some ((ws ++ [_]) ++ l); rw [List.append_assoc]; rfl
      refine ⟨_, rfl, q, _, _, _, rfl, rfl, hq, at0, rfl, _, rfl, ?_⟩
      rcases hcase with ⟨h2, n', r2, rfl, h3, h4⟩ | ⟨kk, vs, n', r2, rfl, h2, h3, rfl, h4, h5⟩
      · have n5 : kn y ≠ 5 := fun e => by
          cases y <;> simp [kn] at e
          exact h2 _ rfl
        refine iteFb ((knd_is y 5 (by decide)).trans (decide_eq_false n5)) ?_
        exact ⟨n', Nat.lt_succ_self _, ws ++ [wordR rows y], zs0, st, r2, _, _, rfl, S7, ew7, et7, az7, h3, hr2 _ h4, by rw [hl2]; omega, hsum2, by rw [hl2]; rw [List.length_cons] at hst; omega⟩
      · refine iteTb ((knd_is (.ref kk) 5 (by decide)).trans (decide_eq_true rfl)) ?_
        obtain ⟨xs, o, ez, ho, dO⟩ := hd_at (listAt_mono L S7) (j := kk) (d := rowD (.tup vs)) (by rw [List.getElem?_map, h2]; rfl)
        obtain ⟨qo, x1, x2, rfl, hqo, d1, d2⟩ := dt_pr dO
        cases d2 with
        | @tup pt ps _ hps hd =>
        obtain ⟨v1, _, rfl, dv1, _⟩ := dq.cons_inv
        cases dv1.int_inv
        have lps := hd.length
        rw [List.length_map] at lps
        have lz0 := az7.length
        rw [List.length_map, List.length_reverse] at lz0
        rw [List.length_cons] at hst
        refine ⟨_, rfl, .inl ⟨rfl, _, SqL.of et7⟩, _, rfl, _, rfl, q, _, _, _, rfl, rfl, hq, at1, hp, _, _, _, rfl, rfl, SqL.of ez, ho, qo, _, _, _, rfl, rfl, hqo, at1, pt, ps, rfl, hps, fun rl hrl => ?_⟩
        have S8 := Same.new (o := .lst ps.reverse) hrl
        refine ⟨tl, rl, zs0, ps.reverse, rfl, rfl, S8 _ _ et7, upd_same, Nat.le_trans (show zs0.length + ps.reverse.length ≤ 5000000 by rw [List.length_reverse]; omega) (by decide), ?_⟩
        have et8 := S8 _ _ et7
        have kT8 : KeepT K (upd H7 rl (.lst ps.reverse)) (upd (upd H7 rl (.lst ps.reverse)) tl (.lst (zs0 ++ ps.reverse))) := KeepT.upd et8
        refine ⟨n', Nat.lt_succ_self _, ws ++ [wordR rows (.ref kk)], zs0 ++ ps.reverse, vs ++ st, r2, _, _, rfl, fun b o e => by rw [upd_ne (ne_of_none e ht0)]; exact (S7.trans S8) b o e, by rw [upd_ne nwt]; exact S8 _ _ ew7, upd_same, ?_, h4, hr2 _ h5, by rw [hl2]; omega, hsum2, by rw [hl2, List.length_append]; omega⟩
        rw [List.reverse_append, List.map_append, List.map_reverse (l := vs)]
        exact DtAll.app ((DtAll.mono S8 az7).keepT kT8) ((DtAll.mono S8 (dtAll_rev hd)).keepT kT8)
def KTx (rows : List Row) (kt : Vl → Str) (x : Vl) : Prop := ∃ n ws, KW rows n [x] (some ws) ∧ n ≤ 900 ∧ kt x = Txt.join " " ws
def bothR (p : Vl × Vl) : Bool := match p with
  | (.ref _, .ref _) => true
  | _ => false
theorem dt_ent {H : Hp} {v : V} {e : Vl × Vl} (h : Dt K H v (entD e)) : ∃ q x y, v = .ref q ∧ SqT K H q [x, y] ∧ Dt K H x (vlD e.1) ∧ Dt K H y (vlD e.2) := dt_pr h
end

section
--SPLIT
end
abbrev s_leader : Stmt := top 23
abbrev N_leader : List Str := ["leaders", "k", "above"]
abbrev P_leader : List Str := ["leaders", "k"]
theorem sc_leader : FnScope N_leader P_leader (defScope s_leader) := ⟨rfl, rfl, rfl, by decide +kernel, rfl, by decide +kernel, by decide +kernel⟩
section
/-! classes by leaders -/
inductive Rt (par : Nat → Nat) : Nat → Nat → Nat → Prop
  | self {r : Nat} : par r = r → Rt par 0 r r
  | up {n k r : Nat} : par k ≠ k → Rt par n (par k) r → Rt par (n + 1) k r
theorem Rt.root {par : Nat → Nat} {n k r : Nat} (h : Rt par n k r) : par r = r := by
  induction h with
  | self e => exact e
  | up _ _ ih => exact ih
theorem Rt.fn {par : Nat → Nat} {n k r : Nat} (h : Rt par n k r) : ∀ {n' r' : Nat}, Rt par n' k r' → n = n' ∧ r = r' := by
  induction h with
  | self e =>
    intro n' r' h'
    cases h' with
    | self _ => exact ⟨rfl, rfl⟩
    | up c _ => exact absurd e c
  | up c _ ih =>
    intro n' r' h'
    cases h' with
    | self e => exact absurd e c
    | up _ h2 =>
      obtain ⟨e1, e2⟩ := ih h2
      exact ⟨by rw [e1], e2⟩
theorem Rt.lt {par : Nat → Nat} {N n k r : Nat} (h : Rt par n k r) (hp : ∀ x < N, par x < N) (hk : k < N) : r < N := by
  induction h with
  | self _ => exact hk
  | up _ _ ih => exact ih (hp _ hk)
def halve (par : Nat → Nat) (k : Nat) : Nat → Nat := fun x => if x = k then par (par k) else par x
/-- the same leaders -/
def SameRt (par par' : Nat → Nat) : Prop := ∀ x n r, Rt par n x r → ∃ n', n' ≤ n ∧ Rt par' n' x r
theorem SameRt.refl (par : Nat → Nat) : SameRt par par := fun _ n _ h => ⟨n, Nat.le_refl _, h⟩
theorem SameRt.trans {a b c : Nat → Nat} (h1 : SameRt a b) (h2 : SameRt b c) : SameRt a c := fun x n r h => by
  obtain ⟨n1, l1, h1⟩ := h1 x n r h
  obtain ⟨n2, l2, h2⟩ := h2 x n1 r h1
  exact ⟨n2, by omega, h2⟩
theorem halve_same {par : Nat → Nat} {k : Nat} (hk : par k ≠ k) (hF : ∃ n r, Rt par n k r) : SameRt par (halve par k) := by
  have key : ∀ n x r, Rt par n x r → ∃ n', n' ≤ n ∧ Rt (halve par k) n' x r := by
    intro n
    induction n using Nat.strongRecOn with
    | _ n ih =>
      intro x r h
      cases h with
      | self e =>
        have hx : x ≠ k := fun c => by rw [c] at e; exact hk e
        exact ⟨0, Nat.le_refl _, .self (by unfold halve; rw [if_neg hx]; exact e)⟩
      | @up m _ _ c h2 =>
        by_cases hx : x = k
        · subst hx
          cases h2 with
          | self e =>
            refine ⟨1, by omega, .up ?_ ?_⟩
            · unfold halve; rw [if_pos rfl, e]; exact c
            · have e1 : halve par x x = par x := by unfold halve; rw [if_pos rfl, e]
              rw [e1]
              exact .self (by unfold halve; rw [if_neg c]; exact e)
          | @up m2 _ _ c2 h3 =>
            obtain ⟨n', l, h4⟩ := ih m2 (by omega) (par (par x)) r h3
            refine ⟨n' + 1, by omega, .up ?_ ?_⟩
            · unfold halve
              rw [if_pos rfl]
              intro e
              rw [e] at h3
              have := (Rt.up c (.up c2 (by rw [e]; exact h3))).fn h3
              omega
            · have e1 : halve par x x = par (par x) := by unfold halve; rw [if_pos rfl]
              rw [e1]
              exact h4
        · obtain ⟨n', l, h4⟩ := ih m (by omega) (par x) r h2
          have e1 : halve par k x = par x := by unfold halve; rw [if_neg hx]
          exact ⟨n' + 1, by omega, .up (by rw [e1]; exact c) (by rw [e1]; exact h4)⟩
  exact fun x n r h => key n x r h
/-- the dict holds the leaders -/
structure UF (N : Nat) (kvs : List (Key × V)) (par : Nat → Nat) : Prop where
  get : ∀ k : Nat, (valV kvs (.inl ((k : Nat) : Int)) = none ∧ par k = k) ∨ valV kvs (.inl ((k : Nat) : Int)) = some (.int ((par k : Nat) : Int))
  lt : ∀ k < N, par k < N
  all : ∀ k, ∃ n r, Rt par n k r
theorem UF.getD {N : Nat} {kvs : List (Key × V)} {par : Nat → Nat} (h : UF N kvs par) (k : Nat) : (valV kvs (.inl ((k : Nat) : Int))).getD (.int ((k : Nat) : Int)) = .int ((par k : Nat) : Int) := by
  rcases h.get k with ⟨h1, h2⟩ | h1
  · rw [h1, h2]; rfl
  · rw [h1]; rfl
theorem UF.some {N : Nat} {kvs : List (Key × V)} {par : Nat → Nat} (h : UF N kvs par) {k : Nat} (hk : par k ≠ k) : valV kvs (.inl ((k : Nat) : Int)) = .some (.int ((par k : Nat) : Int)) := by
  rcases h.get k with ⟨h1, h2⟩ | h1
  · exact absurd h2 hk
  · exact h1
theorem putK_old {kvs : List (Key × V)} {k : Key} (h : (valV kvs k).isSome = true) (u : V) : (putK kvs k u).length = kvs.length := by
  unfold putK
  rw [valV_any, if_pos h, List.length_map]
theorem UF.put {N : Nat} {kvs : List (Key × V)} {par : Nat → Nat} (h : UF N kvs par) {k j : Nat} {par' : Nat → Nat} (hp : ∀ x, par' x = if x = k then j else par x) (hj : k < N → j < N) (ha : ∀ x, ∃ n r, Rt par' n x r) : UF N (putK kvs (.inl ((k : Nat) : Int)) (.int ((j : Nat) : Int))) par' where
  get := fun x => by
    rw [valV_put, hp]
    by_cases e : x = k
    · subst e
      rw [if_pos rfl, if_pos rfl]
      exact .inr rfl
    · have e2 : ¬ (.inl ((x : Nat) : Int) : Key) = .inl ((k : Nat) : Int) := fun c => e (by have := Sum.inl.inj c; omega)
      rw [if_neg e2, if_neg e]
      exact h.get x
  lt := fun x hx => by
    rw [hp]
    split
    · rename_i e; exact hj (e ▸ hx)
    · exact h.lt x hx
  all := ha
end
section
variable {P : Program} {w : World} {K : PySem.W.Frag} {mg : Str → Option Value} {base : Heap}
def KeepD (a : Addr) (H H' : Hp) : Prop := ∀ b o, H b = some o → b ≠ a → H' b = some o
def spLeader (K : PySem.W.Frag) : Sp := fun vs H Q _ => ∃ (ld : Addr) (N k : Nat) (kvs : List (Key × V)) (par : Nat → Nat), vs = [.ref ld, .int (k : Nat)] ∧ H ld = some (.dK kvs) ∧ UF N kvs par ∧ k < N ∧ kvs.length ≤ 10000 ∧
  ∀ (n r : Nat) (kvs' : List (Key × V)) (par' : Nat → Nat) (H' : Hp), Rt par n k r → KeepD ld H H' → H' ld = some (.dK kvs') → kvs'.length = kvs.length → UF N kvs' par' → SameRt par par' → Q (.int (r : Nat)) H'
theorem ok_leader {f : Addr} {fd : FuncData} (F : Fun K "_leader" "_leader" s_leader f fd) (T : Txt K mg) : FnG P w K mg base CX0 1 f fd P_leader (spLeader K) := by
  refine okG0 F sc_leader (fun vs H Q E h => ?_) fun cdv A outer s H vs Q E hr hg h => ?_
  · obtain ⟨ld, N, k, kvs, par, rfl, _⟩ := h
    rfl
  · obtain ⟨ld, N, k, kvs, par, rfl, e, u, hk, hl, kk⟩ := h
    have hu : (A.deeper (envOfC "_leader" (defScope s_leader) s.heap.objs.size f cdv)).units + 1 < cLine := Nat.lt_of_le_of_lt (by omega) hr.units
    refine ⟨_, (pss_cons (ps_while PassesOwn.never (pt_up (pt_cmpR op_ne (pe_dget2 hu (pv 0) (pv 1) (pv 1) ⟨rfl, rfl, rfl, rfl⟩) (pv 1) (nomark _)))
   (pss_cons (ps_set (i := 2) sc_leader.nd rfl (Or.inl rfl) (pe_dget hu (pv 0) (pv 1) (fun _ _ => rfl)))
  (pss_cons (ps_dput hu (pv 0) (pv 1) (pe_dget2 hu (pv 0) (pv 2) (pv 2) ⟨rfl, rfl, rfl, rfl⟩) rfl)
  (pss_one (ps_set (i := 1) sc_leader.nd rfl (Or.inl rfl) (pv 2))))))
  (pss_one (ps_ret (pv 1)))), ?_⟩
    obtain ⟨n0, r, h0⟩ := u.all k
    refine while_upN (fun m σ H4 => ∃ (k' : Nat) (kvs' : List (Key × V)) (par' : Nat → Nat) (x2 : Option V), σ = [some (.ref ld), some (.int (k' : Nat)), x2] ∧ KeepD ld H H4 ∧ H4 ld = some (.dK kvs') ∧ kvs'.length = kvs.length ∧ UF N kvs' par' ∧ SameRt par par' ∧ Rt par' m k' r)
      ⟨n0, k, kvs, par, none, rfl, fun b o e _ => e, e, rfl, u, SameRt.refl _, h0⟩ ?_
    rintro m σ H4 ⟨k', kvs', par', x2, rfl, K4, e4, l4, u4, s4, r4⟩
    refine ⟨_, rfl, ld, rfl, .inl ⟨kvs', .inl e4⟩, _, rfl, _, rfl, _, DGet.k (k := .inl ((k' : Nat) : Int)) e4, ?_⟩
    rw [u4.getD]
    refine ⟨_, rfl, rfl, _, rfl, ?_⟩
    by_cases c : par' k' = k'
    · refine iteFb (by rw [c]; simp) ?_
      have hr0 : r = k' := by
        cases r4 with
        | self _ => rfl
        | up c2 _ => exact absurd c c2
      refine ⟨_, rfl, ?_⟩
      rw [← hr0]
      exact kk n0 r kvs' par' H4 h0 K4 e4 l4 u4 s4
    · refine iteTb (by rw [decide_eq_false (fun e => c (by have := V.int.inj e; omega))]; rfl) ?_
      have hs := u4.some c
      refine ⟨_, rfl, _, rfl, ld, _, rfl, by rw [← hs]; exact DGet.k (k := .inl ((k' : Nat) : Int)) e4, ?_⟩
      refine ⟨_, rfl, ld, rfl, .inl ⟨kvs', .inl e4⟩, _, rfl, _, rfl, _, DGet.k (k := .inl ((par' k' : Nat) : Int)) e4, ?_⟩
      rw [u4.getD]
      refine ⟨_, rfl, _, rfl, ld, _, rfl, DPut.k (k := .inl ((k' : Nat) : Int)) e4 (by rw [l4]; exact js_lt10 hl), ?_⟩
      have hh := halve_same c (u4.all k')
      have u5 : UF N (putK kvs' (.inl ((k' : Nat) : Int)) (.int ((par' (par' k') : Nat) : Int))) (halve par' k') := u4.put (fun x => rfl) (fun h => u4.lt _ (u4.lt _ h)) (fun x => by
        obtain ⟨n, r, h⟩ := u4.all x
        obtain ⟨n', _, h'⟩ := hh x n r h
        exact ⟨n', r, h'⟩)
      cases r4 with
      | self e => exact absurd e c
      | @up m' _ _ _ h2 =>
        obtain ⟨n', l', h'⟩ := hh _ _ _ h2
        exact ⟨_, rfl, n', by omega, par' k', _, halve par' k', _, rfl, fun b o e ne => by rw [upd_ne ne]; exact K4 b o e ne, upd_same, by rw [putK_old (by rw [hs]; rfl)]; exact l4, u5, s4.trans hh, h'⟩
end

section
--SPLIT
end
abbrev s_note_unequal : Stmt := top 24
abbrev N_note_unequal : List Str := ["trail", "at", "unequal", "one", "other", "above"]
abbrev P_note_unequal : List Str := ["trail", "at", "unequal"]
theorem sc_note_unequal : FnScope N_note_unequal P_note_unequal (defScope s_note_unequal) := ⟨rfl, rfl, rfl, by decide +kernel, rfl, by decide +kernel, by decide +kernel⟩
abbrev s_pairs_by_key : Stmt := top 27
abbrev N_pairs_by_key : List Str := ["heap", "entries", "others", "worths", "key", "worth", "pairs", "text"]
abbrev P_pairs_by_key : List Str := ["heap", "entries", "others"]
theorem sc_pairs_by_key : FnScope N_pairs_by_key P_pairs_by_key (defScope s_pairs_by_key) := ⟨rfl, rfl, rfl, by decide +kernel, rfl, by decide +kernel, by decide +kernel⟩
abbrev s_pairs_of_parts : Stmt := top 26
abbrev N_pairs_of_parts : List Str := ["heap", "one", "other"]
abbrev P_pairs_of_parts : List Str := ["heap", "one", "other"]
theorem sc_pairs_of_parts : FnScope N_pairs_of_parts P_pairs_of_parts (defScope s_pairs_of_parts) := ⟨rfl, rfl, rfl, by decide +kernel, rfl, by decide +kernel, by decide +kernel⟩
abbrev s_add_pairs : Stmt := top 25
abbrev N_add_pairs : List Str := ["heap", "trail", "at", "waiting", "one", "other", "_", "pairs", "a", "b"]
abbrev P_add_pairs : List Str := ["heap", "trail", "at", "waiting"]
theorem sc_add_pairs : FnScope N_add_pairs P_add_pairs (defScope s_add_pairs) := ⟨rfl, rfl, rfl, by decide +kernel, rfl, by decide +kernel, by decide +kernel⟩
section
/-! what is equal -/
abbrev Tr := Nat × Nat × Int
def trD (t : Tr) : PyData := .tuple [.int ((t.1 : Nat) : Int), .int ((t.2.1 : Nat) : Int), .int t.2.2]
def kPair (a b : Nat) : List Key := [.inl ((a : Nat) : Int), .inl ((b : Nat) : Int)]
/-- all that is noted as unequal is so -/
def Noted (NE : Nat → Nat → Prop) (kvs : List (List Key × V)) : Prop := ∀ x y, (valV kvs (kPair x y)).isSome = true → NE x y
def Chain (NE : Nat → Nat → Prop) (ts : List Tr) : Prop := ∀ (i : Nat) (t : Tr), ts[i]? = some t → t.2.2 < (i : Int) ∧ (0 ≤ t.2.2 → NE t.1 t.2.1 → ∃ t' : Tr, ts[t.2.2.toNat]? = some t' ∧ NE t'.1 t'.2.1)
theorem Noted.put {NE : Nat → Nat → Prop} {kvs : List (List Key × V)} (h : Noted NE kvs) {a b : Nat} (n : NE a b) (v : V) : Noted NE (putK kvs (kPair a b) v) := fun x y hx => by
  rw [valV_put] at hx
  by_cases e : kPair x y = kPair a b
  · unfold kPair at e
    have e1 := Sum.inl.inj (List.cons.inj e).1
    have e2 := Sum.inl.inj (List.cons.inj (List.cons.inj e).2).1
    have e1 : x = a := by omega
    have e2 : y = b := by omega
    subst e1 e2
    exact n
  · rw [if_neg e] at hx
    exact h x y hx
end
section
variable {P : Program} {w : World} {K : PySem.W.Frag} {mg : Str → Option Value} {base : Heap}
theorem dt_tr {H : Hp} {v : V} {t : Tr} (h : Dt K H v (trD t)) : ∃ q, v = .ref q ∧ SqT K H q [.int ((t.1 : Nat) : Int), .int ((t.2.1 : Nat) : Int), .int t.2.2] := by
  cases h with
  | tup hs ha =>
    cases ha with
    | cons h1 ha =>
      cases ha with
      | cons h2 ha =>
        cases ha with
        | cons h3 ha =>
          cases ha
          cases h1.int_inv
          cases h2.int_inv
          cases h3.int_inv
          exact ⟨_, rfl, hs⟩
def spNote (K : PySem.W.Frag) : Sp := fun vs H Q _ => ∃ (NE : Nat → Nat → Prop) (tr ud : Addr) (ts : List Tr) (i : Nat) (t : Tr) (kvs : List (List Key × V)), vs = [.ref tr, .int (i : Nat), .ref ud] ∧ ListAt K H tr (ts.map trD) ∧ H ud = some (.dT kvs) ∧ tr ≠ ud ∧ ts[i]? = some t ∧ NE t.1 t.2.1 ∧ Chain NE ts ∧ Noted NE kvs ∧ kvs.length + ts.length ≤ 4000000 ∧
  ∀ kvs' H', KeepD ud H H' → H' ud = some (.dT kvs') → Noted NE kvs' → kvs'.length ≤ kvs.length + ts.length → Q .non H'
theorem ok_note {f : Addr} {fd : FuncData} (F : Fun K "_note_unequal" "_note_unequal" s_note_unequal f fd) (T : Txt K mg) : FnG P w K mg base CX0 1 f fd P_note_unequal (spNote K) := by
  refine okG0 F sc_note_unequal (fun vs H Q E h => ?_) fun cdv A outer s H vs Q E hr hg h => ?_
  · obtain ⟨NE, tr, ud, ts, i, t, kvs, rfl, _⟩ := h
    rfl
  · obtain ⟨NE, tr, ud, ts, i, t, kvs, rfl, L, eu, hne, hi, hn, hc, hnt, hl, k⟩ := h
    have hu : (A.deeper (envOfC "_note_unequal" (defScope s_note_unequal) s.heap.objs.size f cdv)).units + 1 < cLine := Nat.lt_of_le_of_lt (by omega) hr.units
    refine ⟨_, (pss_one (ps_while PassesOwn.never (pt_up (pt_cmpR op_ge (pv 1) pe_int (nomark _)))
   (pss_cons (ps_asg (pe_ix ix_list (pv 0) (pv 1) (fun _ _ => rfl)) (pg_tup (by rfl) (pgs_cons (pg_name (i := 3) sc_note_unequal.nd rfl (Or.inl rfl)) (pgs_cons (pg_name (i := 4) sc_note_unequal.nd rfl (Or.inl rfl)) (pgs_cons (pg_name (i := 5) sc_note_unequal.nd rfl (Or.inl rfl)) pgs_nil)))))
  (pss_cons (ps_dput hu (pv 2) (pe_tup (pa_cons (pv 3) (pa_cons (pv 4) pa_nil))) pe_bl rfl)
  (pss_one (ps_set (i := 1) sc_note_unequal.nd rfl (Or.inl rfl) (pv 5))))))), ?_⟩
    have hts : i < ts.length := (List.getElem?_eq_some_iff.mp hi).1
    refine while_upN (fun m σ H4 => ∃ (at' : Int) (kvs' : List (List Key × V)) (x3 x4 x5 : Option V), σ = [some (.ref tr), some (.int at'), some (.ref ud), x3, x4, x5] ∧ KeepD ud H H4 ∧ H4 ud = some (.dT kvs') ∧ Noted NE kvs' ∧ (0 ≤ at' → ∃ t', ts[at'.toNat]? = some t' ∧ NE t'.1 t'.2.1) ∧ m = (at' + 1).toNat ∧ kvs'.length + m ≤ kvs.length + ts.length)
      ⟨i + 1, ((i : Nat) : Int), kvs, none, none, none, rfl, fun b o e _ => e, eu, hnt, fun _ => ⟨t, hi, hn⟩, by omega, by omega⟩ ?_
    rintro m σ H4 ⟨at', kvs', x3, x4, x5, rfl, K4, e4, n4, h4, hm, hl4⟩
    refine ⟨_, rfl, _, _, rfl, rfl, _, rfl, ?_⟩
    refine ite3 (fun c => ?_) fun c => ?_
    · have c : 0 ≤ at' := by have := of_decide_eq_true c; omega
      obtain ⟨t', ht', nt'⟩ := h4 c
      obtain ⟨j, rfl⟩ := Int.eq_ofNat_of_zero_le c
      have ht' : ts[j]? = some t' := ht'
      obtain ⟨zs, ez, az⟩ := id L
      have ez4 := K4 _ _ ez hne
      have L4 : ListAt K H4 tr (ts.map trD) := ⟨zs, ez4, az.keepT fun a xs h => by
        rcases h with (h | ⟨o', h⟩) | h
        · exact .inl (.inl (K4 _ _ h (ne_of h eu (by intro z; cases z))))
        · exact .inl (.inr ⟨o', K4 _ _ h (ne_of h eu (by intro z; cases z))⟩)
        · exact .inr h⟩
      obtain ⟨xs, y, ez4, hy, dy⟩ := hd_at L4 (j := j) (d := trD t') (by rw [List.getElem?_map, ht']; rfl)
      obtain ⟨q, rfl, hq⟩ := dt_tr dy
      refine ⟨_, rfl, _, rfl, tr, _, _, _, rfl, rfl, SqL.of ez4, hy, q, _, rfl, hq, rfl, _, _, rfl, _, _, rfl, _, _, rfl, rfl, ?_⟩
      refine ⟨_, rfl, _, rfl, _, rfl, sz_2, fun u hu2 => ⟨ud, _, rfl, DPut.t (k := kPair t'.1 t'.2.1) (Same.new hu2 _ _ e4) upd_same (Nat.lt_of_le_of_lt (show kvs'.length ≤ 4000000 by omega) (by decide)), ?_⟩⟩
      refine ⟨_, rfl, (t'.2.2 + 1).toNat, ?_, t'.2.2, _, _, _, _, rfl, fun b o e ne => by rw [upd_ne ne]; exact Same.new hu2 _ _ (K4 b o e ne), upd_same, n4.put nt' _, fun h0 => (hc j t' ht').2 h0 nt', rfl, ?_⟩
      · have := (hc j t' ht').1
        omega
      · have := (hc j t' ht').1
        have := length_putK kvs' (kPair t'.1 t'.2.1) (V.bl true)
        omega
    · exact k kvs' H4 K4 e4 n4 (by omega)
theorem keepT_D {a : Addr} {o : HO} {H H' : Hp} (e : H a = some o) (ho : ∀ xs, o ≠ .tup xs) (hf : ∀ ob xs, o ≠ .frz ob (.tup xs)) (hk : KeepD a H H') : KeepT K H H' := fun b xs h => by
  rcases h with (h | ⟨o', h⟩) | h
  · exact .inl (.inl (hk _ _ h (ne_of h e fun c => ho xs c.symm)))
  · exact .inl (.inr ⟨o', hk _ _ h (ne_of h e fun c => hf o' xs c.symm)⟩)
  · exact .inr h
theorem keepT_dT {a : Addr} {kvs : List (List Key × V)} {H H' : Hp} (e : H a = some (.dT kvs)) (hk : KeepD a H H') : KeepT K H H' := keepT_D e (fun _ h => nomatch h) (fun _ _ h => nomatch h) hk
theorem listAt_D {a l : Addr} {H H' : Hp} {ds : List PyData} (L : ListAt K H l ds) (hk : KeepD a H H') (kT : KeepT K H H') (hne : l ≠ a) : ListAt K H' l ds := by
  obtain ⟨xs, e, ax⟩ := L
  exact ⟨xs, hk _ _ e hne, ax.keepT kT⟩
/-! pairs of parts -/
def pairD (p : Vl × Vl) : PyData := .tuple [vlD p.1, vlD p.2]
def keyT (t : Str) : List Key := [.inr "ok", .inr t]
def byKey (kt : Vl → Str) (fs : List (Vl × Vl)) : List (Vl × Vl) → Option (List (Vl × Vl))
  | [] => some []
  | e :: es => match fs.find? (fun f => decide (kt f.1 = kt e.1)) with
    | none => none
    | some f => (byKey kt fs es).map ((e.2, f.2) :: ·)
def HasW (K : PySem.W.Frag) (kt : Vl → Str) (fs : List (Vl × Vl)) (kvs : List (List Key × V)) (H : Hp) : Prop := ∀ t : Str, match fs.find? (fun f => decide (kt f.1 = t)) with
  | none => valV kvs (keyT t) = none
  | some f => ∃ v, valV kvs (keyT t) = some v ∧ Dt K H v (vlD f.2)
theorem find_snoc {α : Type} (p : α → Bool) (l : List α) (x : α) : (l ++ [x]).find? p = match l.find? p with | some y => some y | none => if p x = true then some x else none := by
  rw [List.find?_append]
  cases l.find? p with
  | some y => rfl
  | none =>
    show [x].find? p = _
    rw [List.find?_cons]
    cases p x <;> rfl
theorem byKey_take (kt : Vl → Str) (fs : List (Vl × Vl)) : ∀ (es : List (Vl × Vl)) (i : Nat) (e : Vl × Vl) (ps : List (Vl × Vl)), es[i]? = some e → byKey kt fs (es.take i) = some ps →
    (∀ f, fs.find? (fun f => decide (kt f.1 = kt e.1)) = some f → byKey kt fs (es.take (i + 1)) = some (ps ++ [(e.2, f.2)])) ∧ (fs.find? (fun f => decide (kt f.1 = kt e.1)) = none → byKey kt fs es = none)
  | [], i, e, ps, h, _ => by simp at h
  | a :: es, 0, e, ps, h, hp => by
    cases h
    cases hp
    refine ⟨fun f hf => ?_, fun hf => ?_⟩
    · show (match fs.find? (fun f => decide (kt f.1 = kt a.1)) with | none => none | some f => (byKey kt fs []).map ((a.2, f.2) :: ·)) = _
      rw [hf]; rfl
    · show (match fs.find? (fun f => decide (kt f.1 = kt a.1)) with | none => none | some f => (byKey kt fs es).map ((a.2, f.2) :: ·)) = _
      rw [hf]
  | a :: es, i + 1, e, ps, h, hp => by
    have h : es[i]? = some e := h
    have hp : (match fs.find? (fun f => decide (kt f.1 = kt a.1)) with | none => none | some f => (byKey kt fs (es.take i)).map ((a.2, f.2) :: ·)) = some ps := hp
    cases hg : fs.find? (fun f => decide (kt f.1 = kt a.1)) with
    | none => rw [hg] at hp; cases hp
    | some g =>
      rw [hg] at hp
      cases hb : byKey kt fs (es.take i) with
      | none => rw [hb] at hp; cases hp
      | some ps' =>
        rw [hb] at hp
        cases hp
        obtain ⟨h1, h2⟩ := byKey_take kt fs es i e ps' h hb
        refine ⟨fun f hf => ?_, fun hf => ?_⟩
        · show (match fs.find? (fun f => decide (kt f.1 = kt a.1)) with | none => none | some f => (byKey kt fs (es.take (i + 1))).map ((a.2, f.2) :: ·)) = _
          rw [hg, h1 f hf]
          rfl
        · show (match fs.find? (fun f => decide (kt f.1 = kt a.1)) with | none => none | some f => (byKey kt fs es).map ((a.2, f.2) :: ·)) = _
          rw [hg, h2 hf]
          rfl
def spByKey (K : PySem.W.Frag) : Sp := fun vs H Q _ => ∃ (kt : Vl → Str) (hp : Addr) (rows : List Row) (v u : V) (es fs : List (Vl × Vl)), vs = [.ref hp, v, u] ∧ ListAt K H hp (rows.map rowD) ∧ Dt K H v (.tuple (es.map entD)) ∧ Dt K H u (.tuple (fs.map entD)) ∧ es.length ≤ 1000 ∧ fs.length ≤ 1000 ∧
  (∀ e ∈ es, KTx rows kt e.1) ∧ (∀ e ∈ fs, KTx rows kt e.1) ∧ (fs.map fun e => kt e.1).Nodup ∧ (byKey kt fs es = none → ∀ H', Same H H' → Q .non H') ∧ (∀ ps, byKey kt fs es = some ps → ∀ pl H', Same H H' → H pl = none → ListAt K H' pl (ps.map pairD) → Q (.ref pl) H')
theorem nodup_at {α : Type} {l : List α} {i : Nat} {x : α} (hn : l.Nodup) (h : l[i]? = some x) : x ∉ l.take i := fun hm => by
  have e : l = l.take i ++ l.drop i := (List.take_append_drop i l).symm
  rw [e, List.nodup_append] at hn
  have hd : x ∈ l.drop i := by
    have hi := (List.getElem?_eq_some_iff.mp h).1
    rw [List.drop_eq_getElem_cons hi]
    rw [(List.getElem?_eq_some_iff.mp h).2]
    simp
  exact hn.2.2 x hm x hd rfl
theorem ok_bykey {f : Addr} {fd : FuncData} (F : Fun K "_pairs_by_key" "_pairs_by_key" s_pairs_by_key f fd) (T : Txt K mg) (U_key_text : Use P w K mg base CX0 "key_text" 3 P_key_text (spKeyText K)) : FnG P w K mg base CX0 4 f fd P_pairs_by_key (spByKey K) := by
  refine okG0 F sc_pairs_by_key (fun vs H Q E h => ?_) fun cdv A outer s H vs Q E hr hg h => ?_
  · obtain ⟨kt, hp, rows, v, u, es, fs, rfl, _⟩ := h
    rfl
  · obtain ⟨kt, hp, rows, v, u, es, fs, rfl, L, de, df, le, lf, hke, hkf, hnd, k0, k1⟩ := h
    have hu : (A.deeper (envOfC "_pairs_by_key" (defScope s_pairs_by_key) s.heap.objs.size f cdv)).units + 1 < cLine := Nat.lt_of_le_of_lt (by omega) hr.units
    refine ⟨_, (pss_cons (ps_set (i := 3) sc_pairs_by_key.nd rfl (Or.inl rfl) pe_dnewT)
  (pss_cons (ps_for PassesOwn.never rfl (pi_tup (pv 2)) (pg_tup (by rfl) (pgs_cons (pg_name (i := 4) sc_pairs_by_key.nd rfl (Or.inl rfl)) (pgs_cons (pg_name (i := 5) sc_pairs_by_key.nd rfl (Or.inl rfl)) pgs_nil)))
   (pss_one (ps_dput hu (pv 3) (pe_use U_key_text (hr.mono (by decide)) hg rfl (pa_cons (pv 0) (pa_cons (pv 4) pa_nil))) (pv 5) rfl)))
  (pss_cons (ps_set (i := 6) sc_pairs_by_key.nd rfl (Or.inl rfl) (pe_lst pa_nil))
  (pss_cons (ps_for PassesOwn.never rfl (pi_tup (pv 1)) (pg_tup (by rfl) (pgs_cons (pg_name (i := 4) sc_pairs_by_key.nd rfl (Or.inl rfl)) (pgs_cons (pg_name (i := 5) sc_pairs_by_key.nd rfl (Or.inl rfl)) pgs_nil)))
   (pss_cons (ps_set (i := 7) sc_pairs_by_key.nd rfl (Or.inl rfl) (pe_use U_key_text (hr.mono (by decide)) hg rfl (pa_cons (pv 0) (pa_cons (pv 4) pa_nil))))
  (pss_cons (ps_if (pt_cmp (pc_dnotin hu (pv 7) (pv 3)))
   (pss_one (ps_ret pe_non))
   pss_nil)
  (pss_one (ps_expr (pe_bm PySem.F.plainAttrs_list PySem.F.slot_list_append PySem.F.type_list_append mt_append (pv 6) (pa_cons (pe_tup (pa_cons (pv 5) (pa_cons (pe_dget hu (pv 3) (pv 7) (fun _ _ => rfl)) pa_nil))) pa_nil)))))))
  (pss_one (ps_ret (pv 6))))))), ?_⟩
    refine fun ud hud => ?_
    have S1 := Same.new (o := .dT []) hud
    have eu1 : upd H ud (.dT []) ud = some (.dT []) := upd_same
    generalize upd H ud (.dT []) = H1 at S1 eu1
    cases de with
    | @tup ea exs _ hes ae =>
    cases df with
    | @tup fa fxs _ hfs af =>
    have lfx := af.length
    have lex := ae.length
    rw [List.length_map] at lfx lex
    refine ⟨_, rfl, fa, rfl, ⟨_, Same.tupl S1 hfs⟩, ?_⟩
    refine for_it (walk_tup (xs := fxs)) (fun i σ H4 => ∃ (kvs : List (List Key × V)) (x4 x5 : Option V), σ = [some (.ref hp), some (.ref ea), some (.ref fa), some (.ref ud), x4, x5, none, none] ∧ Same H H4 ∧ H4 ud = some (.dT kvs) ∧ kvs.length ≤ i ∧ HasW K kt (fs.take i) kvs H4) ⟨[], none, none, rfl, S1, eu1, Nat.le_refl _, fun t => rfl⟩ (fun _ _ _ _ h => let ⟨_, _, _, _, S, _⟩ := h; Same.tupl S hfs) ?_ ?_
    · rintro i v σ H4 H5 hi ⟨kvs, x4, x5, rfl, S4, e4, l4, w4⟩ ⟨rfl, hx⟩
      have hdi : fs[i]? = some fs[i] := List.getElem?_eq_getElem (by omega)
      have hmem := List.getElem_mem (l := fs) (n := i) (by omega)
      generalize fs[i] = g at hdi hmem
      obtain ⟨v', hv', dv⟩ := af.get (i := i) (d := entD g) (by rw [List.getElem?_map, hdi]; rfl)
      rw [hx] at hv'
      cases hv'
      obtain ⟨q, y1, y2, rfl, hq, d1, d2⟩ := dt_ent (dv.mono S4)
      refine ⟨q, _, rfl, hq, rfl, _, _, rfl, _, _, rfl, rfl, ?_⟩
      obtain ⟨n, ws, hkw, hn9, hkt⟩ := hkf g hmem
      refine ⟨_, rfl, _, rfl, _, rfl, _, rfl, hp, rows, _, g.1, n, some ws, "", rfl, listAt_mono L S4, d1, hkw, hn9, (fun h => nomatch h), fun qk H6 S6 hqn eq => ?_⟩
      have e6 := S6 _ _ e4
      refine ⟨ud, _, rfl, DPut.t (k := keyT (kt g.1)) e6 (by rw [eq, hkt]; rfl) (Nat.lt_of_le_of_lt (show kvs.length ≤ 1000 by omega) (by decide)), ?_⟩
      have S46 := S4.trans S6
      have kD : KeepD ud H6 (upd H6 ud (.dT (putK kvs (keyT (kt g.1)) y2))) := fun b o e ne => by rw [upd_ne ne]; exact e
      have kT := keepT_dT (K := K) e6 kD
      refine ⟨putK kvs (keyT (kt g.1)) y2, _, _, rfl, fun b o e => by rw [upd_ne (ne_of_none e hud)]; exact S46 b o e, upd_same, by have := length_putK kvs (keyT (kt g.1)) y2; omega, fun t => ?_⟩
      rw [List.take_succ, hdi]
      show match (fs.take i ++ [g]).find? _ with | none => _ | some f => _
      rw [find_snoc, valV_put]
      have w := w4 t
      by_cases ct : kt g.1 = t
      · subst ct
        have hno : (fs.take i).find? (fun f => decide (kt f.1 = kt g.1)) = none := by
          rw [List.find?_eq_none]
          intro f hf hc
          have hc := of_decide_eq_true hc
          have := nodup_at hnd (i := i) (x := kt g.1) (by rw [List.getElem?_map, hdi]; rfl)
          rw [← List.map_take] at this
          exact this (List.mem_map.mpr ⟨f, hf, hc⟩)
        rw [hno, if_pos (decide_eq_true rfl), if_pos rfl]
        exact ⟨_, rfl, (d2.mono S6).keepT kT⟩
      · have ne : ¬ keyT t = keyT (kt g.1) := fun c => ct (by have := Sum.inr.inj (List.cons.inj (List.cons.inj c).2).1; exact this.symm)
        rw [if_neg ne]
        cases hf : (fs.take i).find? (fun f => decide (kt f.1 = t)) with
        | none =>
          rw [hf] at w
          rw [if_neg (by rw [decide_eq_false ct]; exact Bool.false_ne_true)]
          exact w
        | some f =>
          rw [hf] at w
          obtain ⟨v, hv, dv⟩ := w
          exact ⟨v, hv, (dv.mono S6).keepT kT⟩
    · rintro σ H4 ⟨kvs, x4, x5, rfl, S4, e4, l4, w4⟩
      rw [lfx, List.take_length] at w4
      refine ⟨sz_0, fun pl hpl => ?_⟩
      have S5 := S4.trans (Same.new (o := .lst []) hpl)
      have npl : H pl = none := same_none' S4 hpl
      have nup : ud ≠ pl := ne_of_none e4 hpl
      have e5 := Same.new (o := .lst []) hpl _ _ e4
      have L5 : ListAt K (upd H4 pl (.lst [])) pl ([].map pairD) := ⟨[], upd_same, .nil⟩
      have w5 : HasW K kt fs kvs (upd H4 pl (.lst [])) := fun t => by
        have w := w4 t
        cases hf : fs.find? (fun f => decide (kt f.1 = t)) with
        | none => rw [hf] at w; exact w
        | some f =>
          rw [hf] at w
          obtain ⟨v, hv, dv⟩ := w
          exact ⟨v, hv, dv.mono (Same.new hpl)⟩
      generalize upd H4 pl (.lst []) = H5 at S5 e5 L5 w5
      refine ⟨_, rfl, ea, rfl, ⟨_, Same.tupl S5 hes⟩, ?_⟩
      refine for_it (walk_tup (xs := exs)) (fun i σ H6 => ∃ (ps : List (Vl × Vl)) (x4 x5 x7 : Option V), σ = [some (.ref hp), some (.ref ea), some (.ref fa), some (.ref ud), x4, x5, some (.ref pl), x7] ∧ Same H H6 ∧ H6 ud = some (.dT kvs) ∧ HasW K kt fs kvs H6 ∧ ListAt K H6 pl (ps.map pairD) ∧ byKey kt fs (es.take i) = some ps ∧ ps.length = i) ⟨[], _, _, _, rfl, S5, e5, w5, L5, rfl, rfl⟩ (fun _ _ _ _ h => let ⟨_, _, _, _, _, S, _⟩ := h; Same.tupl S hes) ?_ ?_
      · rintro i v σ H6 H7 hi ⟨ps, x4, x5, x7, rfl, S6, e6, w6, L6, hb, hpl6⟩ ⟨rfl, hx⟩
        have hdi : es[i]? = some es[i] := List.getElem?_eq_getElem (by omega)
        have hmem := List.getElem_mem (l := es) (n := i) (by omega)
        generalize es[i] = g at hdi hmem
        obtain ⟨v', hv', dv⟩ := ae.get (i := i) (d := entD g) (by rw [List.getElem?_map, hdi]; rfl)
        rw [hx] at hv'
        cases hv'
        obtain ⟨q, y1, y2, rfl, hq, d1, d2⟩ := dt_ent (dv.mono S6)
        obtain ⟨b1, b2⟩ := byKey_take kt fs es i g ps hdi hb
        refine ⟨q, _, rfl, hq, rfl, _, _, rfl, _, _, rfl, rfl, ?_⟩
        obtain ⟨n, ws, hkw, hn9, hkt⟩ := hke g hmem
        refine ⟨_, rfl, _, rfl, hp, rows, _, g.1, n, some ws, "", rfl, listAt_mono L S6, d1, hkw, hn9, (fun h => nomatch h), fun qk H8 S8 hqn eq => ?_⟩
        have e8 := S8 _ _ e6
        have eq8 : H8 qk = some (.tup ((keyT (kt g.1)).map kV)) := by rw [eq, hkt]; rfl
        have w := w6 (kt g.1)
        refine ⟨_, rfl, _, rfl, ud, _, rfl, DGet.t (k := keyT (kt g.1)) e8 eq8, _, rfl, ?_⟩
        cases hf : fs.find? (fun f => decide (kt f.1 = kt g.1)) with
        | none =>
          rw [hf] at w
          rw [w]
          exact iteTb rfl (k0 (b2 hf) _ (S6.trans S8))
        | some f =>
          rw [hf] at w
          obtain ⟨vw, hvw, dvw⟩ := w
          rw [hvw]
          refine iteFb rfl ?_
          obtain ⟨zs, ez, az⟩ := id (listAt_mono L6 S8)
          refine ⟨_, rfl, .inl ⟨rfl, _, SqL.of ez⟩, _, rfl, _, rfl, _, rfl, ud, _, rfl, by rw [← hvw]; exact DGet.t (k := keyT (kt g.1)) e8 eq8, sz_2, fun u hu => ?_⟩
          have S9 := Same.new (o := .tup [y2, vw]) hu
          have du := Dt.made (K := K) hu (.cons (d2.mono S8) (.cons (dvw.mono S8) .nil))
          have lz := az.length
          rw [List.length_map] at lz
          refine ⟨pl, _, _, rfl, rfl, S9 _ _ ez, js_lt (by omega), ?_⟩
          have S69 := S8.trans S9
          refine ⟨ps ++ [(g.2, f.2)], _, _, _, rfl, fun b o e => by rw [upd_ne (ne_of_none e npl)]; exact (S6.trans S69) b o e, by rw [upd_ne nup]; exact S69 _ _ e6, fun t => ?_, ?_, b1 f hf, by rw [List.length_append, hpl6]; rfl⟩
          · have w := w6 t
            have kT : KeepT K H7 _ := (Same.keepT S69).trans (KeepT.upd (o := .lst (zs ++ [V.ref u])) (S9 _ _ ez))
            cases hf : fs.find? (fun f => decide (kt f.1 = t)) with
            | none => rw [hf] at w; exact w
            | some f =>
              rw [hf] at w
              obtain ⟨v, hv, dv⟩ := w
              exact ⟨v, hv, dv.keepT kT⟩
          · rw [List.map_append]
            exact listAt_app (listAt_mono L6 S69) (S9 _ _ ez) du
      · rintro σ H6 ⟨ps, x4, x5, x7, rfl, S6, e6, w6, L6, hb, hpl6⟩
        rw [lex, List.take_length] at hb
        exact ⟨_, rfl, k1 ps hb pl H6 S6 npl L6⟩
end

section
--SPLIT
end
section
/-! pairs of parts of two rows -/
def vals : Row → List Vl
  | .tup vs => vs | .lst vs => vs | .dct es => es.map (·.2) | .oth _ _ => []
structure GoodR (kt : Vl → Str) (rows : List Row) (r : Row) : Prop where
  ok : RowOk r
  keys : ∀ es, r = .dct es → (∀ e ∈ es, KTx rows kt e.1) ∧ (es.map fun e => kt e.1).Nodup
  vs : ∀ v ∈ vals r, vOk v ∧ ∀ k, v = .ref k → k < rows.length
def pairsOf (kt : Vl → Str) : Row → Row → Option (List (Vl × Vl))
  | .tup a, .tup b => if a.length = b.length then some (a.zip b) else none
  | .lst a, .lst b => if a.length = b.length then some (a.zip b) else none
  | .dct a, .dct b => if a.length = b.length then byKey kt b a else none
  | _, _ => none
def newE (i : Nat) : List (Vl × Vl) → List Tr
  | [] => []
  | (.ref a, .ref b) :: ps => if a = b then newE i ps else (a, b, ((i : Nat) : Int)) :: newE i ps
  | _ :: ps => newE i ps
theorem pairsOf_vs {kt : Vl → Str} {rows : List Row} {r s : Row} (gr : GoodR kt rows r) (gs : GoodR kt rows s) {ps : List (Vl × Vl)} (h : pairsOf kt r s = some ps) : ps.length ≤ 1000 ∧ ∀ p ∈ ps, p.1 ∈ vals r ∧ p.2 ∈ vals s := by
  have zp : ∀ a b : List Vl, a.length ≤ 1000 → (if a.length = b.length then some (a.zip b) else none) = some ps → ps.length ≤ 1000 ∧ ∀ p ∈ ps, p.1 ∈ a ∧ p.2 ∈ b := fun a b ha h => by
    split at h
    · cases h
      exact ⟨by rw [List.length_zip]; omega, fun p hp => ⟨(List.of_mem_zip hp).1, (List.of_mem_zip hp).2⟩⟩
    · cases h
  have bk : ∀ (b a : List (Vl × Vl)) (ps : List (Vl × Vl)), byKey kt b a = some ps → ps.length = a.length ∧ ∀ p ∈ ps, p.1 ∈ a.map (·.2) ∧ p.2 ∈ b.map (·.2) := by
    intro b a
    induction a with
    | nil => intro ps h; cases h; exact ⟨rfl, fun p hp => nomatch hp⟩
    | cons e a ih =>
      intro ps h
      have h : (match b.find? (fun f => decide (kt f.1 = kt e.1)) with | none => none | some f => (byKey kt b a).map ((e.2, f.2) :: ·)) = some ps := h
      cases hf : b.find? (fun f => decide (kt f.1 = kt e.1)) with
      | none => rw [hf] at h; cases h
      | some f =>
        rw [hf] at h
        cases hb : byKey kt b a with
        | none => rw [hb] at h; cases h
        | some ps' =>
          rw [hb] at h
          cases h
          obtain ⟨h1, h2⟩ := ih ps' hb
          refine ⟨by rw [List.length_cons, List.length_cons, h1], fun p hp => ?_⟩
          rcases List.mem_cons.mp hp with rfl | hp
          · exact ⟨by simp, List.mem_map.mpr ⟨f, List.mem_of_find?_eq_some hf, rfl⟩⟩
          · obtain ⟨q1, q2⟩ := h2 p hp
            exact ⟨List.mem_cons_of_mem _ q1, q2⟩
  cases r with
  | tup a => cases s with
    | tup b => exact zp a b gr.ok.len h
    | _ => cases h
  | lst a => cases s with
    | lst b => exact zp a b gr.ok.len h
    | _ => cases h
  | dct a => cases s with
    | dct b =>
      have h : (if a.length = b.length then byKey kt b a else none) = some ps := h
      split at h
      · obtain ⟨h1, h2⟩ := bk b a ps h
        exact ⟨by rw [h1]; exact gr.ok.len, h2⟩
      · cases h
    | _ => cases h
  | oth z q => cases s <;> cases h
theorem newE_mem {i : Nat} : ∀ {ps : List (Vl × Vl)} {t : Tr}, t ∈ newE i ps → t.2.2 = (i : Int) ∧ (Vl.ref t.1, Vl.ref t.2.1) ∈ ps
  | [], t, h => nomatch h
  | p :: ps, t, h => by
    have ih := fun h => newE_mem (i := i) (ps := ps) (t := t) h
    unfold newE at h
    split at h
    · cases h
    · rename_i h0
      cases h0
      split at h
      · obtain ⟨a, b⟩ := ih h
        exact ⟨a, List.mem_cons_of_mem _ b⟩
      · rcases List.mem_cons.mp h with rfl | h
        · exact ⟨rfl, by simp⟩
        · obtain ⟨a, b⟩ := ih h
          exact ⟨a, List.mem_cons_of_mem _ b⟩
    · rename_i h0
      cases h0
      obtain ⟨a, b⟩ := ih h
      exact ⟨a, List.mem_cons_of_mem _ b⟩
theorem newE_len {i : Nat} : ∀ {ps : List (Vl × Vl)}, (newE i ps).length ≤ ps.length
  | [] => Nat.le_refl _
  | p :: ps => by
    have ih := newE_len (i := i) (ps := ps)
    unfold newE
    split
    · exact Nat.zero_le _
    · rename_i h0; cases h0
      split
      · rw [List.length_cons]; omega
      · rw [List.length_cons, List.length_cons]; omega
    · rename_i h0; cases h0
      rw [List.length_cons]; omega
theorem newE_snoc {i : Nat} (p : Vl × Vl) : ∀ ps : List (Vl × Vl), newE i (ps ++ [p]) = newE i ps ++ newE i [p]
  | [] => rfl
  | q :: ps => by
    have ih := newE_snoc (i := i) p ps
    obtain ⟨x, y⟩ := q
    cases x <;> cases y <;> first | exact ih | skip
    rename_i a b
    show (if a = b then newE i (ps ++ [p]) else _ :: newE i (ps ++ [p])) = (if a = b then newE i ps else _ :: newE i ps) ++ _
    rw [ih]
    split <;> rfl
end
section
variable {P : Program} {w : World} {K : PySem.W.Frag} {mg : Str → Option Value} {base : Heap}
theorem dtAll_of {H : Hp} : ∀ {ts : List V} {ds : List PyData}, ts.length = ds.length → (∀ (j : Nat) (t : V) (d : PyData), ts[j]? = some t → ds[j]? = some d → Dt K H t d) → DtAll K H ts ds
  | [], [], _, _ => .nil
  | [], d :: ds, h, _ => by simp at h
  | t :: ts, [], h, _ => by simp at h
  | t :: ts, d :: ds, h, hs => .cons (hs 0 t d rfl rfl) (dtAll_of (by simpa using h) fun j t' d' h1 h2 => hs (j + 1) t' d' h1 h2)
def spPairsOf (K : PySem.W.Frag) : Sp := fun vs H Q _ => ∃ (kt : Vl → Str) (hp : Addr) (rows : List Row) (v u : V) (r s : Row), vs = [.ref hp, v, u] ∧ ListAt K H hp (rows.map rowD) ∧ Dt K H v (rowD r) ∧ Dt K H u (rowD s) ∧ GoodR kt rows r ∧ GoodR kt rows s ∧
  (pairsOf kt r s = none → ∀ H', Same H H' → Q .non H') ∧ (∀ ps, pairsOf kt r s = some ps → ∀ pl H', Same H H' → H pl = none → ListAt K H' pl (ps.map pairD) → Q (.ref pl) H')
theorem dt_row {H : Hp} {v : V} {r : Row} (h : Dt K H v (rowD r)) : ∃ q ws, v = .ref q ∧ SqT K H q (.str (rkd r) :: ws) ∧ ((∀ z y, r ≠ .oth z y) → ∃ pt ps, ws = [.ref pt] ∧ SqT K H pt ps ∧ DtAll K H ps (rparts r)) := by
  by_cases c : ∀ z y, r ≠ .oth z y
  · rw [rowD_two c] at h
    obtain ⟨q, x, y, rfl, hq, d1, d2⟩ := dt_pr h
    cases dt_str d1
    cases d2 with
    | tup hs ha => exact ⟨q, _, rfl, hq, fun _ => ⟨_, _, rfl, hs, ha⟩⟩
  · obtain ⟨rest, e⟩ := rowD_hd r
    rw [e] at h
    cases h with
    | tup hs ha =>
      cases ha with
      | cons h1 h2 =>
        cases dt_str h1
        exact ⟨_, _, rfl, hs, fun h => absurd h c⟩
theorem rparts_len (r : Row) : (rparts r).length = rlen r := by cases r <;> simp [rparts, rlen]
theorem ok_pairsof {f : Addr} {fd : FuncData} (F : Fun K "_pairs_of_parts" "_pairs_of_parts" s_pairs_of_parts f fd) (T : Txt K mg) (U_pairs_by_key : Use P w K mg base CX0 "_pairs_by_key" 4 P_pairs_by_key (spByKey K)) : FnG P w K mg base CX0 5 f fd P_pairs_of_parts (spPairsOf K) := by
  refine okG0 F sc_pairs_of_parts (fun vs H Q E h => ?_) fun cdv A outer s H vs Q E hr hg h => ?_
  · obtain ⟨kt, hp, rows, v, u, r, s, rfl, _⟩ := h
    rfl
  · obtain ⟨kt, hp, rows, v, u, r, s', rfl, L, d1, d2, gr, gs, k0, k1⟩ := h
    refine ⟨_, (pss_cons (ps_if (PW.pt (pw_or (pt_cmpR op_ne (pe_ix ix_tup (pv 1) pe_int (fun _ _ => rfl)) (pe_ix ix_tup (pv 2) pe_int (fun _ _ => rfl)) (nomark _)) (pw_or1 (pt_cmpR op_notIn_seq (pe_ix ix_tup (pv 1) pe_int (fun _ _ => rfl)) (pe_tup (pa_cons pe_str (pa_cons pe_str (pa_cons pe_str pa_nil)))) (by rfl)))))
   (pss_one (ps_ret pe_non))
   pss_nil)
  (pss_cons (ps_if (pt_cmpR op_ne (pe_callB call_len (by rfl) T.b_len PySem.boot_len (pa_cons (pe_ix ix_tup (pv 1) pe_int (fun _ _ => rfl)) pa_nil)) (pe_callB call_len (by rfl) T.b_len PySem.boot_len (pa_cons (pe_ix ix_tup (pv 2) pe_int (fun _ _ => rfl)) pa_nil)) (nomark _))
   (pss_one (ps_ret pe_non))
   pss_nil)
  (pss_cons (ps_if (pt_cmpR op_eq (pe_ix ix_tup (pv 1) pe_int (fun _ _ => rfl)) pe_str (nomark _))
   (pss_one (ps_ret (pe_use U_pairs_by_key (hr.mono (by decide)) hg rfl (pa_cons (pv 0) (pa_cons (pe_ix ix_tup (pv 1) pe_int (fun _ _ => rfl)) (pa_cons (pe_ix ix_tup (pv 2) pe_int (fun _ _ => rfl)) pa_nil))))))
   pss_nil)
  (pss_one (ps_ret (pe_listZ rfl (by rfl) T.b_zip (by rfl) T.b_list (pa_cons (pe_ix ix_tup (pv 1) pe_int (fun _ _ => rfl)) (pa_cons (pe_ix ix_tup (pv 2) pe_int (fun _ _ => rfl)) pa_nil)))))))), ?_⟩
    obtain ⟨q1, w1, rfl, hq1, hw1⟩ := dt_row d1
    obtain ⟨q2, w2, rfl, hq2, hw2⟩ := dt_row d2
    refine ⟨_, rfl, q1, _, _, _, rfl, rfl, hq1, at0, _, rfl, q2, _, _, _, rfl, rfl, hq2, at0, rfl, _, rfl, ?_⟩
    by_cases ck : rkd r = rkd s'
    · refine iteFb (by rw [ck]; simp) ?_
      refine ⟨_, rfl, q1, _, _, _, rfl, rfl, hq1, at0, sz_3, fun t ht => ⟨t, _, rfl, .inr (SqT.of upd_same), rfl, rfl, _, rfl, ?_⟩⟩
      have S1 := Same.new (o := .tup [V.str "tuple", V.str "list", V.str "dict"]) ht
      generalize upd H t _ = H1 at S1
      have e3 : [V.str "tuple", V.str "list", V.str "dict"] = (["tuple", "list", "dict"] : List Str).map V.str := rfl
      by_cases co : ∀ z y, r ≠ .oth z y
      · have hin : inV (V.str (rkd r)) [V.str "tuple", V.str "list", V.str "dict"] = true := by
          rw [e3, inV_strs]
          cases r with
          | oth z y => exact absurd rfl (co z y)
          | tup a => exact decide_eq_true (show ("tuple" : Str) ∈ (["tuple", "list", "dict"] : List Str) by decide)
          | lst a => exact decide_eq_true (show ("list" : Str) ∈ (["tuple", "list", "dict"] : List Str) by decide)
          | dct a => exact decide_eq_true (show ("dict" : Str) ∈ (["tuple", "list", "dict"] : List Str) by decide)
        refine iteFb (by rw [if_pos rfl, hin]; rfl) ?_
        have co2 : ∀ z y, s' ≠ .oth z y := fun z y e => by
          subst e
          have h := gs.ok.oth
          have hz : rkd r = z := ck
          cases r with
          | oth z y => exact absurd rfl (co z y)
          | tup a => exact h.1 hz.symm
          | lst a => exact h.2.1 hz.symm
          | dct a => exact h.2.2 hz.symm
        obtain ⟨p1, x1, rfl, hp1, a1⟩ := hw1 co
        obtain ⟨p2, x2, rfl, hp2, a2⟩ := hw2 co2
        have l1 : x1.length = rlen r := by rw [a1.length, rparts_len]
        have l2 : x2.length = rlen s' := by rw [a2.length, rparts_len]
        refine ⟨_, rfl, q1, _, _, _, rfl, rfl, Same.tupl S1 hq1, at1, _, _, rfl, .inr ⟨_, Same.tupl S1 hp1, rfl⟩, _, rfl, q2, _, _, _, rfl, rfl, Same.tupl S1 hq2, at1, _, _, rfl, .inr ⟨_, Same.tupl S1 hp2, rfl⟩, rfl, _, rfl, ?_⟩
        rw [l1, l2]
        have zp : ∀ (a b : List Vl), rparts r = a.map vlD → rparts s' = b.map vlD → a.length = b.length → pairsOf kt r s' = some (a.zip b) → ∀ (q : Addr) (H' : Hp) (ts : List V), Same H1 H' → H1 q = none → H' q = some (.lst ts) → ts.length = min x1.length x2.length → PairsAt H1 H' ts x1 x2 → Q (.ref q) H' := fun a b e1 e2 hl he q H' ts S2 hq et lt pa => by
          refine k1 _ he q H' (S1.trans S2) (same_none' S1 hq) ⟨ts, et, dtAll_of ?_ fun j t d ht hd => ?_⟩
          · have m1 := a1.length
            have m2 := a2.length
            rw [e1, List.length_map] at m1
            rw [e2, List.length_map] at m2
            rw [lt, List.length_map, List.length_zip]
            omega
          · obtain ⟨T', x, y, rfl, hT, eT, ex, ey⟩ := pa j t ht
            rw [List.getElem?_map] at hd
            cases hz : (a.zip b)[j]? with
            | none => rw [hz] at hd; cases hd
            | some pr =>
              rw [hz] at hd
              cases hd
              obtain ⟨g1, g2⟩ := List.getElem?_zip_eq_some.mp hz
              rw [e1] at a1
              rw [e2] at a2
              obtain ⟨v1, hv1, dv1⟩ := a1.get (i := j) (d := vlD pr.1) (by rw [List.getElem?_map, g1]; rfl)
              obtain ⟨v2, hv2, dv2⟩ := a2.get (i := j) (d := vlD pr.2) (by rw [List.getElem?_map, g2]; rfl)
              rw [ex] at hv1
              rw [ey] at hv2
              cases hv1
              cases hv2
              exact .tup (SqT.of eT) (.cons ((dv1.mono S1).mono S2) (.cons ((dv2.mono S1).mono S2) .nil))
        by_cases cl : rlen r = rlen s'
        · refine iteFb (by rw [cl]; simp) ?_
          refine ⟨_, rfl, q1, _, _, _, rfl, rfl, Same.tupl S1 hq1, at0, rfl, _, rfl, ?_⟩
          cases r with
          | oth z y => exact absurd rfl (co z y)
          | tup a =>
            cases s' with
            | tup b =>
              refine iteFb (dec_str (show ("tuple" : Str) ≠ "dict" by decide)) ?_
              refine ⟨_, rfl, q1, _, _, _, rfl, rfl, Same.tupl S1 hq1, at1, _, rfl, q2, _, _, _, rfl, rfl, Same.tupl S1 hq2, at1, p1, p2, x1, x2, rfl, Same.tupl S1 hp1, Same.tupl S1 hp2, ?_⟩
              exact zp a b rfl rfl cl (if_pos cl)
            | lst b => exact absurd (show ("tuple" : Str) = "list" from ck) (by decide)
            | dct b => exact absurd (show ("tuple" : Str) = "dict" from ck) (by decide)
            | oth z y => exact absurd rfl (co2 z y)
          | lst a =>
            cases s' with
            | lst b =>
              refine iteFb (dec_str (show ("list" : Str) ≠ "dict" by decide)) ?_
              refine ⟨_, rfl, q1, _, _, _, rfl, rfl, Same.tupl S1 hq1, at1, _, rfl, q2, _, _, _, rfl, rfl, Same.tupl S1 hq2, at1, p1, p2, x1, x2, rfl, Same.tupl S1 hp1, Same.tupl S1 hp2, ?_⟩
              exact zp a b rfl rfl cl (if_pos cl)
            | tup b => exact absurd (show ("list" : Str) = "tuple" from ck) (by decide)
            | dct b => exact absurd (show ("list" : Str) = "dict" from ck) (by decide)
            | oth z y => exact absurd rfl (co2 z y)
          | dct a =>
            cases s' with
            | dct b =>
              refine iteTb (dec_str1 _) ?_
              have e : pairsOf kt (.dct a) (.dct b) = byKey kt b a := if_pos cl
              rw [e] at k0 k1
              obtain ⟨ka, _⟩ := gr.keys a rfl
              obtain ⟨kb, nb⟩ := gs.keys b rfl
              refine ⟨_, rfl, _, rfl, q1, _, _, _, rfl, rfl, Same.tupl S1 hq1, at1, _, rfl, q2, _, _, _, rfl, rfl, Same.tupl S1 hq2, at1, kt, hp, rows, _, _, a, b, rfl, listAt_mono L S1, .tup (Same.tupl S1 hp1) (DtAll.mono S1 a1), .tup (Same.tupl S1 hp2) (DtAll.mono S1 a2), gr.ok.len, gs.ok.len, ka, kb, nb, fun h H' S => k0 h H' (S1.trans S), fun ps h pl H' S hn Lp => k1 ps h pl H' (S1.trans S) (same_none' S1 hn) Lp⟩
            | tup b => exact absurd (show ("dict" : Str) = "tuple" from ck) (by decide)
            | lst b => exact absurd (show ("dict" : Str) = "list" from ck) (by decide)
            | oth z y => exact absurd rfl (co2 z y)
        · refine iteTb (by rw [decide_eq_false (fun e => cl (by have := V.int.inj e; omega))]; rfl) ?_
          have : pairsOf kt r s' = none := by
            cases r <;> cases s' <;> first | rfl | exact if_neg cl
          exact k0 this _ S1
      · have hin : inV (V.str (rkd r)) [V.str "tuple", V.str "list", V.str "dict"] = false ∧ pairsOf kt r s' = none := by
          rw [e3, inV_strs]
          cases r with
          | oth z y =>
            refine ⟨decide_eq_false ?_, by cases s' <;> rfl⟩
            obtain ⟨h1, h2, h3⟩ := gr.ok.oth
            show z ∉ _
            simp [h1, h2, h3]
          | tup a => exact absurd (fun z y h => by cases h) co
          | lst a => exact absurd (fun z y h => by cases h) co
          | dct a => exact absurd (fun z y h => by cases h) co
        exact iteTb (by rw [if_pos rfl, hin.1]; rfl) (k0 hin.2 _ S1)
    · refine iteTb (by rw [decide_eq_false (fun e => ck (V.str.inj e))]; rfl) (iteTb rfl ?_)
      have : pairsOf kt r s' = none := by cases r <;> cases s' <;> first | rfl | exact absurd rfl ck
      exact k0 this _ (Same.refl _)
def KeepL (a b : Addr) (H H' : Hp) : Prop := ∀ x o, H x = some o → x ≠ a → x ≠ b → H' x = some o
theorem keepT_L {a b : Addr} {xs ys : List V} {H H' : Hp} (ea : H a = some (.lst xs)) (eb : H b = some (.lst ys)) (hk : KeepL a b H H') : KeepT K H H' := fun c zs h => by
  rcases h with (h | ⟨o', h⟩) | h
  · exact .inl (.inl (hk _ _ h (ne_of h ea (by intro z; cases z)) (ne_of h eb (by intro z; cases z))))
  · exact .inl (.inr ⟨o', hk _ _ h (ne_of h ea (by intro z; cases z)) (ne_of h eb (by intro z; cases z))⟩)
  · exact .inr h
def natsV (ws : List Nat) : List V := ws.map fun i => V.int ((i : Nat) : Int)
/-- what came out of the parts of the pair t -/
structure AddR (kt : Vl → Str) (r s : Row) (i : Nat) (b : Bool) (more : List Tr) : Prop where
  yes : b = true → ∃ ps, pairsOf kt r s = some ps ∧ more = newE i ps ∧ ∀ p ∈ ps, bothR p = false → sl p.1 p.2 = true
  no : b = false → pairsOf kt r s = none ∨ ∃ ps p, pairsOf kt r s = some ps ∧ p ∈ ps ∧ bothR p = false ∧ sl p.1 p.2 = false
  mem : ∀ t ∈ more, t.2.2 = (i : Int) ∧ ∃ ps, pairsOf kt r s = some ps ∧ (Vl.ref t.1, Vl.ref t.2.1) ∈ ps
  len : more.length ≤ 1000
def spAddPairs (K : PySem.W.Frag) : Sp := fun vs H Q _ => ∃ (kt : Vl → Str) (hp tr wl : Addr) (rows : List Row) (ts : List Tr) (i : Nat) (t : Tr) (ws : List Nat) (r s : Row), vs = [.ref hp, .ref tr, .int (i : Nat), .ref wl] ∧ ListAt K H hp (rows.map rowD) ∧ ListAt K H tr (ts.map trD) ∧ H wl = some (.lst (natsV ws)) ∧ tr ≠ wl ∧ hp ≠ tr ∧ hp ≠ wl ∧
  ts[i]? = some t ∧ rows[t.1]? = some r ∧ rows[t.2.1]? = some s ∧ GoodR kt rows r ∧ GoodR kt rows s ∧ ts.length ≤ 2000000 ∧ ws.length ≤ 2000000 ∧
  ∀ b more H', KeepL tr wl H H' → ListAt K H' tr ((ts ++ more).map trD) → H' wl = some (.lst (natsV (ws ++ (List.range more.length).map (ts.length + ·)))) → AddR kt r s i b more → Q (.bl b) H'
theorem ok_addp {f : Addr} {fd : FuncData} (F : Fun K "_add_pairs" "_add_pairs" s_add_pairs f fd) (T : Txt K mg) (U_same_leaf : Use P w K mg base CX0 "same_leaf" 2 P_same_leaf (spSameLeaf K)) (U_pairs_of_parts : Use P w K mg base CX0 "_pairs_of_parts" 5 P_pairs_of_parts (spPairsOf K)) : FnG P w K mg base CX0 6 f fd P_add_pairs (spAddPairs K) := by
  refine okG0 F sc_add_pairs (fun vs H Q E h => ?_) fun cdv A outer s H vs Q E hr hg h => ?_
  · obtain ⟨kt, hp, tr, wl, rows, ts, i, t, ws, r, s, rfl, _⟩ := h
    rfl
  · obtain ⟨kt, hp, tr, wl, rows, ts, i, t, ws, r, s', rfl, L, Lt, ew, n1, n2, n3, hi, hr1, hs1, gr, gs, hl1, hl2, k⟩ := h
    refine ⟨_, (pss_cons (ps_asg (pe_ix ix_list (pv 1) (pv 2) (fun _ _ => rfl)) (pg_tup (by rfl) (pgs_cons (pg_name (i := 4) sc_add_pairs.nd rfl (Or.inl rfl)) (pgs_cons (pg_name (i := 5) sc_add_pairs.nd rfl (Or.inl rfl)) (pgs_cons (pg_name (i := 6) sc_add_pairs.nd rfl (Or.inl rfl)) pgs_nil)))))
  (pss_cons (ps_set (i := 7) sc_add_pairs.nd rfl (Or.inl rfl) (pe_use U_pairs_of_parts (hr.mono (by decide)) hg rfl (pa_cons (pv 0) (pa_cons (pe_ix ix_list (pv 0) (pv 4) (fun _ _ => rfl)) (pa_cons (pe_ix ix_list (pv 0) (pv 5) (fun _ _ => rfl)) pa_nil)))))
  (pss_cons (ps_if (pt_cmpR op_isN (pv 7) pe_non (nomark _))
   (pss_one (ps_ret pe_bl))
   pss_nil)
  (pss_cons (ps_for PassesOwn.never rfl (pi_list (pv 7)) (pg_tup (by rfl) (pgs_cons (pg_name (i := 8) sc_add_pairs.nd rfl (Or.inl rfl)) (pgs_cons (pg_name (i := 9) sc_add_pairs.nd rfl (Or.inl rfl)) pgs_nil)))
   (pss_one (ps_if (PW.pt (pw_or (pt_cmpR op_ne (pe_ix ix_tup (pv 8) pe_int (fun _ _ => rfl)) pe_str (nomark _)) (pw_or1 (pt_cmpR op_ne (pe_ix ix_tup (pv 9) pe_int (fun _ _ => rfl)) pe_str (nomark _)))))
   (pss_one (ps_if (pt_not (pt_val (pe_use U_same_leaf (hr.mono (by decide)) hg rfl (pa_cons (pv 8) (pa_cons (pv 9) pa_nil)))))
   (pss_one (ps_ret pe_bl))
   pss_nil))
   (pss_one (ps_if (pt_cmpR (op_neD hr.units) (pv 8) (pv 9) (nomark _))
   (pss_cons (ps_expr (pe_bm PySem.F.plainAttrs_list PySem.F.slot_list_append PySem.F.type_list_append mt_append (pv 3) (pa_cons (pe_callB call_len (by rfl) T.b_len PySem.boot_len (pa_cons (pv 1) pa_nil)) pa_nil)))
  (pss_one (ps_expr (pe_bm PySem.F.plainAttrs_list PySem.F.slot_list_append PySem.F.type_list_append mt_append (pv 1) (pa_cons (pe_tup (pa_cons (pe_ix ix_tup (pv 8) pe_int (fun _ _ => rfl)) (pa_cons (pe_ix ix_tup (pv 9) pe_int (fun _ _ => rfl)) (pa_cons (pv 2) pa_nil)))) pa_nil)))))
   pss_nil)))))
  (pss_one (ps_ret pe_bl)))))), ?_⟩
    obtain ⟨xs, y, ez, hy, dy⟩ := hd_at Lt (j := i) (d := trD t) (by rw [List.getElem?_map, hi]; rfl)
    obtain ⟨q, rfl, hq⟩ := dt_tr dy
    refine ⟨_, rfl, _, rfl, tr, _, _, _, rfl, rfl, SqL.of ez, hy, q, _, rfl, hq, rfl, _, _, rfl, _, _, rfl, _, _, rfl, rfl, ?_⟩
    obtain ⟨zs1, u1, ez1, hu1, d1⟩ := hd_at L (j := t.1) (d := rowD r) (by rw [List.getElem?_map, hr1]; rfl)
    obtain ⟨zs2, u2, ez2, hu2, d2⟩ := hd_at L (j := t.2.1) (d := rowD s') (by rw [List.getElem?_map, hs1]; rfl)
    refine ⟨_, rfl, _, rfl, _, rfl, hp, _, _, _, rfl, rfl, SqL.of ez1, hu1, _, rfl, _, rfl, hp, _, _, _, rfl, rfl, SqL.of ez2, hu2, ?_⟩
    have nil : (List.range ([] : List Tr).length).map (ts.length + ·) = [] := rfl
    refine ⟨kt, hp, rows, u1, u2, r, s', rfl, L, d1, d2, gr, gs, fun hno H1 S1 => ?_, fun ps hps pl H1 S1 hpl Lp => ?_⟩
    · refine ⟨_, rfl, rfl, _, rfl, iteTb rfl ?_⟩
      exact k false [] H1 (fun x o e _ _ => S1 _ _ e) (by rw [List.append_nil]; exact listAt_mono Lt S1) (by rw [nil, List.append_nil]; exact S1 _ _ ew) ⟨(fun h => nomatch h), fun _ => .inl hno, (fun t h => nomatch h), Nat.zero_le _⟩
    · refine ⟨_, rfl, rfl, _, rfl, iteFb rfl ?_⟩
      obtain ⟨hpl1, hpv⟩ := pairsOf_vs gr gs hps
      obtain ⟨zp, ezp, azp⟩ := id Lp
      have lzp := azp.length
      rw [List.length_map] at lzp
      have npt : pl ≠ tr := fun e => by rw [e] at hpl; rw [ez] at hpl; cases hpl
      have npw : pl ≠ wl := fun e => by rw [e] at hpl; rw [ew] at hpl; cases hpl
      have ew1 := S1 _ _ ew
      have Lt1 := listAt_mono Lt S1
      refine ⟨_, rfl, pl, rfl, ⟨_, SqL.of ezp⟩, ?_⟩
      refine for_it (walk_list (xs := zp)) (fun j σ H4 => ∃ (more : List Tr) (x8 x9 : Option V), σ = [some (.ref hp), some (.ref tr), some (.int (i : Nat)), some (.ref wl), some (.int ((t.1 : Nat) : Int)), some (.int ((t.2.1 : Nat) : Int)), some (.int t.2.2), some (.ref pl), x8, x9] ∧ KeepL tr wl H1 H4 ∧ ListAt K H4 tr ((ts ++ more).map trD) ∧ H4 wl = some (.lst (natsV (ws ++ (List.range more.length).map (ts.length + ·)))) ∧ more = newE i (ps.take j) ∧ ∀ p ∈ ps.take j, bothR p = false → sl p.1 p.2 = true)
        ⟨[], none, none, rfl, fun x o e _ _ => e, by rw [List.append_nil]; exact Lt1, by rw [nil, List.append_nil]; exact ew1, rfl, fun p hp => nomatch hp⟩ (fun _ _ _ _ h => let ⟨_, _, _, _, K4, _⟩ := h; SqL.of (K4 _ _ ezp npt npw)) ?_ ?_
      · rintro j v σ H4 H5 hj ⟨more, x8, x9, rfl, K4, L4, e4, hm, hok⟩ ⟨rfl, hx⟩
        have hdi : ps[j]? = some ps[j] := List.getElem?_eq_getElem (by omega)
        have hmem := List.getElem_mem (l := ps) (n := j) (by omega)
        generalize ps[j] = p at hdi hmem
        obtain ⟨v', hv', dv⟩ := azp.get (i := j) (d := pairD p) (by rw [List.getElem?_map, hdi]; rfl)
        rw [hx] at hv'
        cases hv'
        obtain ⟨zt, ezt, _⟩ := id Lt1
        have kT := keepT_L (K := K) ezt ew1 K4
        obtain ⟨q2, y1, y2, rfl, hq2, da, db⟩ := dt_pr (dv.keepT kT)
        have htk : ps.take (j + 1) = ps.take j ++ [p] := by rw [List.take_succ, hdi]; rfl
        have hml : more.length ≤ 1000 := by rw [hm]; exact Nat.le_trans newE_len (by rw [List.length_take]; omega)
        have kH : ∀ {H' : Hp}, KeepL tr wl H5 H' → KeepL tr wl H1 H' := fun h x o e a b => h x o (K4 x o e a b) a b
        refine ⟨q2, _, rfl, hq2, rfl, _, _, rfl, _, _, rfl, rfl, ?_⟩
        obtain ⟨qa, wa, rfl, hqa, dda⟩ := dvl da
        obtain ⟨qb, wb, rfl, hqb, ddb⟩ := dvl db
        obtain ⟨m1, m2⟩ := hpv p hmem
        have oa := (gr.vs _ m1).1
        have ob := (gs.vs _ m2).1
        rw [htk]
        have hmemM : ∀ t' ∈ more, t'.2.2 = (i : Int) ∧ ∃ ps, pairsOf kt r s' = some ps ∧ (Vl.ref t'.1, Vl.ref t'.2.1) ∈ ps := fun t' ht' => by
          rw [hm] at ht'
          obtain ⟨a, b⟩ := newE_mem ht'
          exact ⟨a, ps, hps, List.mem_of_mem_take b⟩
        -- what a leaf gives
        have leaf : bothR p = false → ∀ H', Same H5 H' → (sl p.1 p.2 = false → Q (.bl false) H') ∧ (sl p.1 p.2 = true → ∃ (more' : List Tr) (y8 y9 : Option V), [some (V.ref hp), some (.ref tr), some (.int (i : Nat)), some (.ref wl), some (.int ((t.1 : Nat) : Int)), some (.int ((t.2.1 : Nat) : Int)), some (.int t.2.2), some (.ref pl), some (.ref qa), some (.ref qb)] = [some (.ref hp), some (.ref tr), some (.int (i : Nat)), some (.ref wl), some (.int ((t.1 : Nat) : Int)), some (.int ((t.2.1 : Nat) : Int)), some (.int t.2.2), some (.ref pl), y8, y9] ∧ KeepL tr wl H1 H' ∧ ListAt K H' tr ((ts ++ more').map trD) ∧ H' wl = some (.lst (natsV (ws ++ (List.range more'.length).map (ts.length + ·)))) ∧ more' = newE i (ps.take j ++ [p]) ∧ ∀ p' ∈ ps.take j ++ [p], bothR p' = false → sl p'.1 p'.2 = true) := fun hb H' S' => by
          have kk : KeepL tr wl H1 H' := kH fun x o e _ _ => S' _ _ e
          refine ⟨fun hf => ?_, fun ht => ?_⟩
          · exact k false more H' (fun x o e a b => kk x o (S1 _ _ e) a b) (listAt_mono L4 S') (S' _ _ e4) ⟨(fun h => nomatch h), fun _ => .inr ⟨ps, p, hps, hmem, hb, hf⟩, hmemM, hml⟩
          · have en : newE i [p] = [] := by
              obtain ⟨x, y⟩ := p
              cases x <;> cases y <;> first | rfl | cases hb
            refine ⟨more, _, _, rfl, kk, listAt_mono L4 S', S' _ _ e4, by rw [newE_snoc, en, List.append_nil]; exact hm, fun p' hp' hb' => ?_⟩
            rcases List.mem_append.mp hp' with h | h
            · exact hok p' h hb'
            · rw [List.mem_singleton.mp h]; exact ht
        refine ⟨_, rfl, qa, _, _, _, rfl, rfl, hqa, at0, rfl, _, rfl, ?_⟩
        have leafRun : bothR p = false → spSameLeaf K [.ref qa, .ref qb] H5 (fun x H' => ∃ c, x = V.bl c ∧ if (!c) = true then Q (.bl false) H' else ∃ (more' : List Tr) (y8 y9 : Option V), [some (V.ref hp), some (.ref tr), some (.int (i : Nat)), some (.ref wl), some (.int ((t.1 : Nat) : Int)), some (.int ((t.2.1 : Nat) : Int)), some (.int t.2.2), some (.ref pl), some (.ref qa), some (.ref qb)] = [some (.ref hp), some (.ref tr), some (.int (i : Nat)), some (.ref wl), some (.int ((t.1 : Nat) : Int)), some (.int ((t.2.1 : Nat) : Int)), some (.int t.2.2), some (.ref pl), y8, y9] ∧ KeepL tr wl H1 H' ∧ ListAt K H' tr ((ts ++ more').map trD) ∧ H' wl = some (.lst (natsV (ws ++ (List.range more'.length).map (ts.length + ·)))) ∧ more' = newE i (ps.take j ++ [p]) ∧ ∀ p' ∈ ps.take j ++ [p], bothR p' = false → sl p'.1 p'.2 = true) E0 := fun hb => by
          refine ⟨_, _, p.1, p.2, rfl, da, db, oa, ob, fun H' S' => ⟨_, rfl, ?_⟩⟩
          obtain ⟨h1, h2⟩ := leaf hb H' S'
          cases hs : sl p.1 p.2 with
          | false => rw [if_pos (show (!false) = true from rfl)]; exact h1 hs
          | true => rw [if_neg (show ¬ (!true) = true by decide)]; exact h2 hs
        by_cases ca : kn p.1 = 5
        · refine iteFb (by rw [show decide (V.str (knd p.1) = V.str "ref") = decide (kn p.1 = 5) from knd_is _ 5 (by decide), ca]; rfl) ?_
          refine ⟨_, rfl, qb, _, _, _, rfl, rfl, hqb, at0, rfl, _, rfl, ?_⟩
          by_cases cb : kn p.2 = 5
          · refine iteFb (by rw [show decide (V.str (knd p.2) = V.str "ref") = decide (kn p.2 = 5) from knd_is _ 5 (by decide), cb]; rfl) ?_
            obtain ⟨x, y⟩ := p
            cases x with
            | ref c =>
              cases y with
              | ref d =>
                refine ⟨_, rfl, _, rfl, _, _, da.dp, db.dp, oa.shp.sh (by decide), ob.shp.sh (by decide), _, rfl, ?_⟩
                rw [eqv_vl _ _ (.inl rfl)]
                have en : ∀ e, (if c = d then ([] : List Tr) else [(c, d, ((i : Nat) : Int))]) = e → newE i [(Vl.ref c, Vl.ref d)] = e := fun e h => h
                by_cases hcd : c = d
                · subst hcd
                  refine iteFb (by rw [decide_eq_true rfl]; rfl) ?_
                  refine ⟨more, _, _, rfl, K4, L4, e4, by rw [newE_snoc, en [] (if_pos rfl), List.append_nil]; exact hm, fun p' hp' hb' => ?_⟩
                  rcases List.mem_append.mp hp' with h | h
                  · exact hok p' h hb'
                  · rw [List.mem_singleton.mp h] at hb'; cases hb'
                · refine iteTb (by rw [decide_eq_false (fun h => hcd (Vl.ref.inj h))]; rfl) ?_
                  obtain ⟨zt4, ezt4, azt4⟩ := id L4
                  have lt4 := azt4.length
                  rw [List.length_map, List.length_append] at lt4
                  refine ⟨_, rfl, .inl ⟨rfl, _, SqL.of e4⟩, _, rfl, _, _, rfl, .inl ⟨_, SqL.of ezt4, rfl⟩, wl, _, _, rfl, rfl, e4, Nat.lt_of_le_of_lt (show _ ≤ 2001000 by unfold natsV; rw [List.length_map, List.length_append, List.length_map, List.length_range]; omega) (by decide), ?_⟩
                  have ew6 : upd H5 wl (.lst (natsV (ws ++ (List.range more.length).map (ts.length + ·)) ++ [V.int ((zt4.length : Nat) : Int)])) wl = some (.lst (natsV (ws ++ (List.range (more.length + 1)).map (ts.length + ·)))) := by
                    rw [upd_same, lt4]
                    unfold natsV
                    rw [List.range_succ, List.map_append, List.map_append, List.map_append, List.map_append, List.append_assoc]
                    rfl
                  have kL : KeepL tr wl H5 (upd H5 wl (.lst (natsV (ws ++ (List.range more.length).map (ts.length + ·)) ++ [V.int ((zt4.length : Nat) : Int)]))) := fun x o e a b => by rw [upd_ne b]; exact e
                  have ezt6 : upd H5 wl (.lst (natsV (ws ++ (List.range more.length).map (ts.length + ·)) ++ [V.int ((zt4.length : Nat) : Int)])) tr = some (.lst zt4) := by rw [upd_ne n1]; exact ezt4
                  have kT6 : KeepT K H5 (upd H5 wl (.lst (natsV (ws ++ (List.range more.length).map (ts.length + ·)) ++ [V.int ((zt4.length : Nat) : Int)]))) := KeepT.upd e4
                  have kk6 := kH kL
                  have a6 := azt4.keepT kT6
                  generalize upd H5 wl (.lst (natsV (ws ++ (List.range more.length).map (ts.length + ·)) ++ [V.int ((zt4.length : Nat) : Int)])) = H6 at ew6 ezt6 kT6 kk6 a6
                  clear kL
                  obtain ⟨v1, _, rfl, dv1, _⟩ := dda.cons_inv
                  obtain ⟨v2, _, rfl, dv2, _⟩ := ddb.cons_inv
                  cases dv1.int_inv
                  cases dv2.int_inv
                  refine ⟨_, rfl, .inl ⟨rfl, _, SqL.of ezt6⟩, _, rfl, qa, _, _, _, rfl, rfl, kT6 _ _ hqa, at1, _, rfl, qb, _, _, _, rfl, rfl, kT6 _ _ hqb, at1, _, rfl, sz_3, fun u hu => ?_⟩
                  have S7 := Same.new (o := .tup [V.int ((c : Nat) : Int), V.int ((d : Nat) : Int), V.int ((i : Nat) : Int)]) hu
                  have du := Dt.made (K := K) hu (.cons (.int ((c : Nat) : Int)) (.cons (.int ((d : Nat) : Int)) (.cons (.int ((i : Nat) : Int)) .nil)))
                  have ezt7 := S7 _ _ ezt6
                  refine ⟨tr, _, _, rfl, rfl, ezt7, Nat.lt_of_le_of_lt (show zt4.length ≤ 2001000 by omega) (by decide), ?_⟩
                  refine ⟨more ++ [(c, d, ((i : Nat) : Int))], _, _, rfl, fun x o e a b => by rw [upd_ne a]; exact S7 _ _ (kk6 x o e a b), ?_, ?_, by rw [newE_snoc, en [(c, d, ((i : Nat) : Int))] (if_neg hcd), hm], fun p' hp' hb' => ?_⟩
                  · rw [← List.append_assoc, List.map_append]
                    exact listAt_app ⟨zt4, ezt7, DtAll.mono S7 a6⟩ ezt7 du
                  · rw [upd_ne (Ne.symm n1), List.length_append]
                    exact S7 _ _ ew6
                  · rcases List.mem_append.mp hp' with h | h
                    · exact hok p' h hb'
                    · rw [List.mem_singleton.mp h] at hb'; cases hb'
              | _ => simp [kn] at cb
            | _ => simp [kn] at ca
          · have hb : bothR p = false := by
              obtain ⟨x, y⟩ := p
              cases x <;> cases y <;> first | rfl | exact absurd rfl cb
            refine iteTb (by rw [show decide (V.str (knd p.2) = V.str "ref") = decide (kn p.2 = 5) from knd_is _ 5 (by decide), decide_eq_false cb]; rfl) ?_
            exact ⟨_, rfl, _, rfl, leafRun hb⟩
        · have hb : bothR p = false := by
            obtain ⟨x, y⟩ := p
            cases x <;> first | rfl | exact absurd rfl ca
          refine iteTb (by rw [show decide (V.str (knd p.1) = V.str "ref") = decide (kn p.1 = 5) from knd_is _ 5 (by decide), decide_eq_false ca]; rfl) (iteTb rfl ?_)
          exact ⟨_, rfl, _, rfl, leafRun hb⟩
      · rintro σ H4 ⟨more, x8, x9, rfl, K4, L4, e4, hm, hok⟩
        rw [lzp, List.take_length] at hm hok
        refine k true more H4 (fun x o e a b => K4 x o (S1 _ _ e) a b) L4 e4 ⟨fun _ => ⟨ps, hps, hm, hok⟩, (fun h => nomatch h), fun t' ht' => ?_, by rw [hm]; exact Nat.le_trans newE_len hpl1⟩
        rw [hm] at ht'
        obtain ⟨a, b⟩ := newE_mem ht'
        exact ⟨a, ps, hps, b⟩
end

section
--SPLIT
end
section
/-! what is equal: by unrolling to any depth -/
def can : Vl → Vl
  | .bool b => .int (if b then 1 else 0)
  | .span a b => if a = b then .span 0 0 else .span a b
  | x => x
theorem can_num {x : Vl} {i : Int} (h : numV x = some i) : can x = .int i := by cases x <;> cases h <;> rfl
theorem can_sp (a b : Int) : ∃ c d, can (.span a b) = .span c d := by
  show ∃ c d, (if a = b then Vl.span 0 0 else .span a b) = .span c d
  split
  · exact ⟨_, _, rfl⟩
  · exact ⟨_, _, rfl⟩
theorem can_int {x : Vl} {i : Int} (h : can x = .int i) : numV x = some i := by
  cases x with
  | bool b => exact congrArg some (Vl.int.inj h)
  | int j => exact congrArg some (Vl.int.inj h)
  | span a b => obtain ⟨c, d, e⟩ := can_sp a b; rw [e] at h; cases h
  | _ => cases h
theorem can_id {x : Vl} (h : numV x = none) (hs : ∀ a b, x ≠ .span a b) : can x = x := by
  cases x with
  | bool b => cases h
  | span a b => exact absurd rfl (hs a b)
  | _ => rfl
theorem sl_can (x y : Vl) : sl x y = decide (can x = can y) := by
  by_cases hs : ∃ a b c d, x = .span a b ∧ y = .span c d
  · obtain ⟨a, b, c, d, rfl, rfl⟩ := hs
    show (if a = b then decide (c = d) else decide (a = c ∧ b = d)) = decide ((if a = b then Vl.span 0 0 else .span a b) = (if c = d then Vl.span 0 0 else .span c d))
    by_cases h1 : a = b
    · rw [if_pos h1, if_pos h1]
      by_cases h2 : c = d
      · rw [if_pos h2, decide_eq_true h2]; exact (decide_eq_true rfl).symm
      · rw [if_neg h2, decide_eq_false h2]
        exact (decide_eq_false fun e => h2 (by cases e; rfl)).symm
    · rw [if_neg h1, if_neg h1]
      by_cases h2 : c = d
      · rw [if_pos h2, decide_eq_false fun e => h1 (by rw [e.1, e.2, h2])]
        exact (decide_eq_false fun e => h1 (by cases e; rfl)).symm
      · rw [if_neg h2]
        exact decide_eq_decide.mpr ⟨fun e => by rw [e.1, e.2], fun e => by cases e; exact ⟨rfl, rfl⟩⟩
  · have e1 : sl x y = slx x y := by
      unfold sl
      split
      · rename_i a b c d
        exact absurd ⟨a, b, c, d, rfl, rfl⟩ hs
      · rfl
    rw [e1]
    unfold slx
    split
    · rename_i i j hi hj
      rw [can_num hi, can_num hj]
      exact decide_eq_decide.mpr ⟨fun e => by rw [e], fun e => Vl.int.inj e⟩
    · rename_i hno
      refine decide_eq_decide.mpr ⟨fun e => by rw [e], fun e => ?_⟩
      cases hx : numV x with
      | some i =>
        rw [can_num hx] at e
        exact (hno i i hx (can_int e.symm)).elim
      | none =>
        cases hy : numV y with
        | some j =>
          rw [can_num hy] at e
          rw [can_int e] at hx
          cases hx
        | none =>
          by_cases sx : ∃ a b, x = .span a b
          · obtain ⟨a, b, rfl⟩ := sx
            by_cases sy : ∃ c d, y = .span c d
            · obtain ⟨c, d, rfl⟩ := sy
              exact absurd ⟨a, b, c, d, rfl, rfl⟩ hs
            · rw [can_id hy fun c d h => sy ⟨c, d, h⟩] at e
              obtain ⟨c, d, h⟩ := can_sp a b
              rw [h] at e
              exact absurd ⟨c, d, e.symm⟩ sy
          · by_cases sy : ∃ c d, y = .span c d
            · obtain ⟨c, d, rfl⟩ := sy
              rw [can_id hx fun c d h => sx ⟨c, d, h⟩] at e
              obtain ⟨c', d', h⟩ := can_sp c d
              rw [h] at e
              exact absurd ⟨c', d', e⟩ sx
            · rw [can_id hx fun c d h => sx ⟨c, d, h⟩, can_id hy fun c d h => sy ⟨c, d, h⟩] at e
              exact e
def VR (R : Nat → Nat → Prop) (x y : Vl) : Prop := match x, y with
  | .ref a, .ref b => R a b
  | x, y => sl x y = true
theorem VR.of_ref {R : Nat → Nat → Prop} {a b : Nat} : VR R (.ref a) (.ref b) ↔ R a b := Iff.rfl
theorem VR.leaf {R : Nat → Nat → Prop} {x y : Vl} (h : bothR (x, y) = false) : VR R x y ↔ sl x y = true := by
  cases x <;> cases y <;> first | exact Iff.rfl | cases h
theorem both_ref {x y : Vl} (h : bothR (x, y) = true) : ∃ a b, x = .ref a ∧ y = .ref b := by
  cases x <;> cases y <;> first | exact ⟨_, _, rfl, rfl⟩ | cases h
theorem VR.mono {R S : Nat → Nat → Prop} (h : ∀ a b, R a b → S a b) {x y : Vl} (r : VR R x y) : VR S x y := by
  cases hb : bothR (x, y) with
  | true => obtain ⟨a, b, rfl, rfl⟩ := both_ref hb; exact h a b r
  | false => exact (VR.leaf hb).mpr ((VR.leaf hb).mp r)
structure Equi (R : Nat → Nat → Prop) : Prop where
  rf : ∀ a, R a a
  sy : ∀ a b, R a b → R b a
  tr : ∀ a b c, R a b → R b c → R a c
theorem can_ref {x : Vl} {a : Nat} (h : can x = .ref a) : x = .ref a := by
  cases x with
  | ref b => exact h
  | span c d => obtain ⟨c', d', e⟩ := can_sp c d; rw [e] at h; cases h
  | bool b => cases h
  | _ => exact h
theorem VR.iff {R : Nat → Nat → Prop} {x y : Vl} : VR R x y ↔ (∃ a b, x = .ref a ∧ y = .ref b ∧ R a b) ∨ (bothR (x, y) = false ∧ can x = can y) := by
  cases hb : bothR (x, y) with
  | true =>
    obtain ⟨a, b, rfl, rfl⟩ := both_ref hb
    exact ⟨fun h => .inl ⟨a, b, rfl, rfl, h⟩, fun h => by
      rcases h with ⟨a', b', e1, e2, h⟩ | ⟨h, _⟩
      · cases e1; cases e2; exact h
      · cases h⟩
  | false =>
    rw [VR.leaf hb, sl_can]
    exact ⟨fun h => .inr ⟨rfl, of_decide_eq_true h⟩, fun h => by
      rcases h with ⟨a, b, rfl, rfl, h⟩ | ⟨_, h⟩
      · cases hb
      · exact decide_eq_true h⟩
theorem VR.rf {R : Nat → Nat → Prop} (E : Equi R) (x : Vl) : VR R x x := by
  cases hb : bothR (x, x) with
  | true => obtain ⟨a, b, rfl, _⟩ := both_ref hb; exact E.rf a
  | false => exact VR.iff.mpr (.inr ⟨hb, rfl⟩)
theorem both_sy {x y : Vl} : bothR (x, y) = bothR (y, x) := by cases x <;> cases y <;> rfl
theorem VR.sy {R : Nat → Nat → Prop} (E : Equi R) {x y : Vl} (h : VR R x y) : VR R y x := by
  rcases VR.iff.mp h with ⟨a, b, rfl, rfl, h⟩ | ⟨h1, h2⟩
  · exact E.sy a b h
  · exact VR.iff.mpr (.inr ⟨by rw [both_sy]; exact h1, h2.symm⟩)
theorem VR.tr {R : Nat → Nat → Prop} (E : Equi R) {x y z : Vl} (h : VR R x y) (g : VR R y z) : VR R x z := by
  rcases VR.iff.mp h with ⟨a, b, rfl, rfl, h⟩ | ⟨h1, h2⟩
  · rcases VR.iff.mp g with ⟨b', c, e, rfl, g⟩ | ⟨g1, g2⟩
    · cases e; exact E.tr _ _ _ h g
    · have := can_ref g2.symm
      subst this
      cases g1
  · rcases VR.iff.mp g with ⟨b, c, rfl, rfl, g⟩ | ⟨g1, g2⟩
    · have := can_ref (x := x) (a := b) h2
      subst this
      cases h1
    · refine VR.iff.mpr (.inr ⟨?_, h2.trans g2⟩)
      cases hb : bothR (x, z) with
      | false => rfl
      | true =>
        obtain ⟨a, c, rfl, rfl⟩ := both_ref hb
        have := can_ref (x := y) (a := a) h2.symm
        subst this
        cases h1
def PartsR (kt : Vl → Str) (R : Nat → Nat → Prop) (r s : Row) : Prop := ∃ ps, pairsOf kt r s = some ps ∧ ∀ p ∈ ps, VR R p.1 p.2
theorem PartsR.mono {kt : Vl → Str} {R S : Nat → Nat → Prop} (h : ∀ a b, R a b → S a b) {r s : Row} (p : PartsR kt R r s) : PartsR kt S r s := by
  obtain ⟨ps, e, k⟩ := p
  exact ⟨ps, e, fun p hp => (k p hp).mono h⟩
def StepR (kt : Vl → Str) (rows : List Row) (R : Nat → Nat → Prop) (a b : Nat) : Prop := a = b ∨ ∃ r s, rows[a]? = some r ∧ rows[b]? = some s ∧ PartsR kt R r s
def EqN (kt : Vl → Str) (rows : List Row) : Nat → Nat → Nat → Prop
  | 0 => fun _ _ => True
  | n + 1 => StepR kt rows (EqN kt rows n)
def EqA (kt : Vl → Str) (rows : List Row) (a b : Nat) : Prop := ∀ n, EqN kt rows n a b
def EqV (kt : Vl → Str) (rows : List Row) (x y : Vl) : Prop := VR (EqA kt rows) x y
theorem EqA.rf {kt : Vl → Str} {rows : List Row} (a : Nat) : EqA kt rows a a := fun n => by
  cases n with
  | zero => trivial
  | succ n => exact .inl rfl
theorem EqA.parts {kt : Vl → Str} {rows : List Row} {a b : Nat} (h : EqA kt rows a b) (hn : a ≠ b) : ∃ r s, rows[a]? = some r ∧ rows[b]? = some s ∧ PartsR kt (EqA kt rows) r s := by
  rcases h 1 with e | ⟨r, s, hr, hs, ps, hp, _⟩
  · exact absurd e hn
  · refine ⟨r, s, hr, hs, ps, hp, fun p hpm => ?_⟩
    have all : ∀ n, VR (EqN kt rows n) p.1 p.2 := fun n => by
      rcases h (n + 1) with e | ⟨r', s', hr', hs', ps', hp', k⟩
      · exact absurd e hn
      · rw [hr] at hr'
        rw [hs] at hs'
        cases hr'
        cases hs'
        rw [hp] at hp'
        cases hp'
        exact k p hpm
    cases hb : bothR (p.1, p.2) with
    | true =>
      obtain ⟨a', b', e1, e2⟩ := both_ref hb
      rw [e1, e2] at all ⊢
      exact fun n => all n
    | false => exact (VR.leaf hb).mpr ((VR.leaf hb).mp (all 0))
theorem EqA.co {kt : Vl → Str} {rows : List Row} {R : Nat → Nat → Prop} (h : ∀ a b, R a b → StepR kt rows R a b) : ∀ a b, R a b → EqA kt rows a b := by
  have key : ∀ n a b, R a b → EqN kt rows n a b := by
    intro n
    induction n with
    | zero => intro a b _; trivial
    | succ n ih =>
      intro a b hr
      rcases h a b hr with e | ⟨r, s, h1, h2, h3⟩
      · exact .inl e
      · exact .inr ⟨r, s, h1, h2, h3.mono ih⟩
  exact fun a b hr n => key n a b hr
theorem sub_back {α : Type} [DecidableEq α] : ∀ (l1 l2 : List α), l1.Nodup → (∀ x ∈ l1, x ∈ l2) → l2.length ≤ l1.length → ∀ x ∈ l2, x ∈ l1
  | [], l2, _, _, h, x, hx => by
    have : l2 = [] := List.length_eq_zero_iff.mp (by simpa using h)
    rw [this] at hx
    exact nomatch hx
  | a :: l1, l2, hn, hs, hl, x, hx => by
    have ha := hs a (by simp)
    have hn := List.nodup_cons.mp hn
    by_cases e : x = a
    · rw [e]; simp
    · refine List.mem_cons_of_mem _ (sub_back l1 (l2.erase a) hn.2 (fun y hy => ?_) ?_ x ((List.mem_erase_of_ne e).mpr hx))
      · exact (List.mem_erase_of_ne fun c => hn.1 (by rw [← c]; exact hy)).mpr (hs y (List.mem_cons_of_mem _ hy))
      · rw [List.length_erase_of_mem ha]
        rw [List.length_cons] at hl
        omega
/-- what byKey gives, without order -/
theorem byKey_iff {kt : Vl → Str} {R : Nat → Nat → Prop} {b : List (Vl × Vl)} (hb : (b.map fun e => kt e.1).Nodup) : ∀ a : List (Vl × Vl), (∃ ps, byKey kt b a = some ps ∧ ∀ p ∈ ps, VR R p.1 p.2) ↔ ∀ e ∈ a, ∃ f ∈ b, kt f.1 = kt e.1 ∧ VR R e.2 f.2
  | [] => ⟨(fun _ e he => nomatch he), fun _ => ⟨[], rfl, fun p hp => nomatch hp⟩⟩
  | e :: a => by
    have ih := byKey_iff (R := R) hb a
    have un : ∀ f g, f ∈ b → g ∈ b → kt f.1 = kt g.1 → f = g := by
      have key : ∀ l : List (Vl × Vl), (l.map fun e => kt e.1).Nodup → ∀ f g, f ∈ l → g ∈ l → kt f.1 = kt g.1 → f = g := by
        intro l
        induction l with
        | nil => intro _ f g hf; exact nomatch hf
        | cons x l ihl =>
          intro hn f g hf hg e
          rw [List.map_cons, List.nodup_cons] at hn
          rcases List.mem_cons.mp hf with rfl | hf1 <;> rcases List.mem_cons.mp hg with rfl | hg1
          · rfl
          · exact absurd (List.mem_map.mpr ⟨g, hg1, e.symm⟩ : kt f.1 ∈ l.map fun e => kt e.1) hn.1
          · exact absurd (List.mem_map.mpr ⟨f, hf1, e⟩ : kt g.1 ∈ l.map fun e => kt e.1) hn.1
          · exact ihl hn.2 f g hf1 hg1 e
      exact key b hb
    have unf : byKey kt b (e :: a) = match b.find? (fun f => decide (kt f.1 = kt e.1)) with | none => none | some f => (byKey kt b a).map ((e.2, f.2) :: ·) := rfl
    rw [unf]
    constructor
    · rintro ⟨ps, h, hp⟩
      cases hf : b.find? (fun f => decide (kt f.1 = kt e.1)) with
      | none => rw [hf] at h; cases h
      | some f =>
        rw [hf] at h
        cases hk : byKey kt b a with
        | none => rw [hk] at h; cases h
        | some ps' =>
          rw [hk] at h
          cases h
          intro g hg
          rcases List.mem_cons.mp hg with rfl | hg
          · exact ⟨f, List.mem_of_find?_eq_some hf, of_decide_eq_true (List.find?_some (p := fun f : Vl × Vl => decide (kt f.1 = kt _)) hf), hp (_, f.2) (by simp)⟩
          · exact ih.mp ⟨ps', hk, fun p hp' => hp p (List.mem_cons_of_mem _ hp')⟩ g hg
    · intro h
      obtain ⟨f, hf, he, hv⟩ := h e (by simp)
      obtain ⟨ps', hk, hp⟩ := ih.mpr fun g hg => h g (List.mem_cons_of_mem _ hg)
      cases hff : b.find? (fun f => decide (kt f.1 = kt e.1)) with
      | none => exact absurd (decide_eq_true he) (by simpa using List.find?_eq_none.mp hff f hf)
      | some f' =>
        have : f' = f := un f' f (List.mem_of_find?_eq_some hff) hf ((of_decide_eq_true (List.find?_some (p := fun f : Vl × Vl => decide (kt f.1 = kt e.1)) hff)).trans he.symm)
        subst this
        refine ⟨_, by rw [hk]; rfl, fun p hp' => ?_⟩
        rcases List.mem_cons.mp hp' with rfl | hp'
        · exact hv
        · exact hp p hp'
theorem zip_iff {R : Nat → Nat → Prop} {a b : List Vl} : (∃ ps, (if a.length = b.length then some (a.zip b) else none) = some ps ∧ ∀ p ∈ ps, VR R p.1 p.2) ↔ a.length = b.length ∧ ∀ (i : Nat) (x y : Vl), a[i]? = some x → b[i]? = some y → VR R x y := by
  constructor
  · rintro ⟨ps, h, hp⟩
    split at h
    · rename_i hl
      cases h
      refine ⟨hl, fun i x y hx hy => hp (x, y) (List.mem_of_getElem? (List.getElem?_zip_eq_some.mpr ⟨hx, hy⟩))⟩
    · cases h
  · rintro ⟨hl, h⟩
    refine ⟨_, if_pos hl, fun p hp => ?_⟩
    obtain ⟨i, hi⟩ := List.getElem?_of_mem hp
    obtain ⟨h1, h2⟩ := List.getElem?_zip_eq_some.mp hi
    exact h i _ _ h1 h2
structure KeyR (kt : Vl → Str) (r : Row) : Prop where
  nd : ∀ es, r = .dct es → (es.map fun e => kt e.1).Nodup
theorem parts_rf {kt : Vl → Str} {R : Nat → Nat → Prop} (E : Equi R) {r : Row} (k : KeyR kt r) (h : ∀ z y, r ≠ .oth z y) : PartsR kt R r r := by
  cases r with
  | oth z y => exact absurd rfl (h z y)
  | tup a => exact zip_iff.mpr ⟨rfl, fun i x y hx hy => by rw [hx] at hy; cases hy; exact VR.rf E x⟩
  | lst a => exact zip_iff.mpr ⟨rfl, fun i x y hx hy => by rw [hx] at hy; cases hy; exact VR.rf E x⟩
  | dct a =>
    obtain ⟨ps, h1, h2⟩ := (byKey_iff (R := R) (k.nd a rfl) a).mpr fun e he => ⟨e, he, rfl, VR.rf E _⟩
    exact ⟨ps, (if_pos rfl).trans h1, h2⟩
theorem parts_dct {kt : Vl → Str} {R : Nat → Nat → Prop} {a b : List (Vl × Vl)} (hb : (b.map fun e => kt e.1).Nodup) : PartsR kt R (.dct a) (.dct b) ↔ a.length = b.length ∧ ∀ e ∈ a, ∃ f ∈ b, kt f.1 = kt e.1 ∧ VR R e.2 f.2 := by
  have e : ∀ ps, pairsOf kt (.dct a) (.dct b) = some ps ↔ a.length = b.length ∧ byKey kt b a = some ps := fun ps => by
    show (if a.length = b.length then byKey kt b a else none) = some ps ↔ _
    split
    · rename_i h; exact ⟨fun x => ⟨h, x⟩, And.right⟩
    · rename_i h; exact ⟨(fun x => nomatch x), fun x => absurd x.1 h⟩
  constructor
  · rintro ⟨ps, h, hp⟩
    obtain ⟨h1, h2⟩ := (e ps).mp h
    exact ⟨h1, (byKey_iff hb a).mp ⟨ps, h2, hp⟩⟩
  · rintro ⟨h1, h2⟩
    obtain ⟨ps, h3, hp⟩ := (byKey_iff (R := R) hb a).mpr h2
    exact ⟨ps, (e ps).mpr ⟨h1, h3⟩, hp⟩
theorem parts_sy {kt : Vl → Str} {R : Nat → Nat → Prop} (E : Equi R) {r s : Row} (kr : KeyR kt r) (ks : KeyR kt s) (h : PartsR kt R r s) : PartsR kt R s r := by
  have zz : ∀ a b : List Vl, (∃ ps, (if a.length = b.length then some (a.zip b) else none) = some ps ∧ ∀ p ∈ ps, VR R p.1 p.2) → ∃ ps, (if b.length = a.length then some (b.zip a) else none) = some ps ∧ ∀ p ∈ ps, VR R p.1 p.2 := fun a b h => by
    obtain ⟨h1, h2⟩ := zip_iff.mp h
    exact zip_iff.mpr ⟨h1.symm, fun i x y hx hy => (h2 i y x hy hx).sy E⟩
  cases r <;> cases s <;> first | (obtain ⟨_, h, _⟩ := h; cases h; done) | skip
  · exact zz _ _ h
  · exact zz _ _ h
  · rename_i a b
    obtain ⟨h1, h2⟩ := (parts_dct (ks.nd b rfl)).mp h
    refine (parts_dct (kr.nd a rfl)).mpr ⟨h1.symm, fun f hf => ?_⟩
    have hin := sub_back (a.map fun e => kt e.1) (b.map fun e => kt e.1) (kr.nd a rfl) (fun t ht => by
      obtain ⟨e, he, rfl⟩ := List.mem_map.mp ht
      obtain ⟨f, hf, e1, _⟩ := h2 e he
      exact List.mem_map.mpr ⟨f, hf, e1⟩) (by rw [List.length_map, List.length_map]; omega) (kt f.1) (List.mem_map.mpr ⟨f, hf, rfl⟩)
    obtain ⟨e, he, e1⟩ := List.mem_map.mp hin
    obtain ⟨f', hf', e2, hv⟩ := h2 e he
    have : f' = f := by
      have key : ∀ l : List (Vl × Vl), (l.map fun e => kt e.1).Nodup → ∀ f g, f ∈ l → g ∈ l → kt f.1 = kt g.1 → f = g := by
        intro l
        induction l with
        | nil => intro _ f g hf; exact nomatch hf
        | cons x l ihl =>
          intro hn f g hf hg e
          rw [List.map_cons, List.nodup_cons] at hn
          rcases List.mem_cons.mp hf with rfl | hf1 <;> rcases List.mem_cons.mp hg with rfl | hg1
          · rfl
          · exact absurd (List.mem_map.mpr ⟨g, hg1, e.symm⟩ : kt f.1 ∈ l.map fun e => kt e.1) hn.1
          · exact absurd (List.mem_map.mpr ⟨f, hf1, e⟩ : kt g.1 ∈ l.map fun e => kt e.1) hn.1
          · exact ihl hn.2 f g hf1 hg1 e
      exact key b (ks.nd b rfl) f' f hf' hf (e2.trans e1)
    subst this
    exact ⟨e, he, e1, hv.sy E⟩
theorem parts_tr {kt : Vl → Str} {R : Nat → Nat → Prop} (E : Equi R) {r s t : Row} (ks : KeyR kt s) (kt' : KeyR kt t) (h : PartsR kt R r s) (g : PartsR kt R s t) : PartsR kt R r t := by
  have zz : ∀ a b c : List Vl, (∃ ps, (if a.length = b.length then some (a.zip b) else none) = some ps ∧ ∀ p ∈ ps, VR R p.1 p.2) → (∃ ps, (if b.length = c.length then some (b.zip c) else none) = some ps ∧ ∀ p ∈ ps, VR R p.1 p.2) → ∃ ps, (if a.length = c.length then some (a.zip c) else none) = some ps ∧ ∀ p ∈ ps, VR R p.1 p.2 := fun a b c h g => by
    obtain ⟨h1, h2⟩ := zip_iff.mp h
    obtain ⟨g1, g2⟩ := zip_iff.mp g
    refine zip_iff.mpr ⟨h1.trans g1, fun i x z hx hz => ?_⟩
    have hi := (List.getElem?_eq_some_iff.mp hx).1
    have hy : b[i]? = some (b[i]'(by omega)) := List.getElem?_eq_getElem _
    exact (h2 i x _ hx hy).tr E (g2 i _ z hy hz)
  cases r <;> cases s <;> first | (obtain ⟨_, h, _⟩ := h; cases h; done) | skip
  all_goals cases t <;> first | (obtain ⟨_, g, _⟩ := g; cases g; done) | skip
  · exact zz _ _ _ h g
  · exact zz _ _ _ h g
  · rename_i a b c
    obtain ⟨h1, h2⟩ := (parts_dct (ks.nd b rfl)).mp h
    obtain ⟨g1, g2⟩ := (parts_dct (kt'.nd c rfl)).mp g
    refine (parts_dct (kt'.nd c rfl)).mpr ⟨h1.trans g1, fun e he => ?_⟩
    obtain ⟨f, hf, e1, hv⟩ := h2 e he
    obtain ⟨f', hf', e2, hv'⟩ := g2 f hf
    exact ⟨f', hf', e2.trans e1, hv.tr E hv'⟩
/-- one step of an equivalence is one -/
theorem step_equi {kt : Vl → Str} {rows : List Row} {R : Nat → Nat → Prop} (E : Equi R) (hk : ∀ r ∈ rows, KeyR kt r) : Equi (StepR kt rows R) where
  rf := fun _ => .inl rfl
  sy := fun a b h => by
    rcases h with e | ⟨r, s, hr, hs, h⟩
    · exact .inl e.symm
    · exact .inr ⟨s, r, hs, hr, parts_sy E (hk r (List.mem_of_getElem? hr)) (hk s (List.mem_of_getElem? hs)) h⟩
  tr := fun a b c h g => by
    rcases h with rfl | ⟨r, s, hr, hs, h⟩
    · exact g
    · rcases g with rfl | ⟨s', t, hs', ht, g⟩
      · exact .inr ⟨r, s, hr, hs, h⟩
      · rw [hs] at hs'
        cases hs'
        exact .inr ⟨r, t, hr, ht, parts_tr E (hk s (List.mem_of_getElem? hs)) (hk t (List.mem_of_getElem? ht)) h g⟩
theorem eqA_equi {kt : Vl → Str} {rows : List Row} (hk : ∀ r ∈ rows, KeyR kt r) : Equi (EqA kt rows) := by
  have key : ∀ n, Equi (EqN kt rows n) := fun n => by
    induction n with
    | zero => exact ⟨fun _ => trivial, fun _ _ _ => trivial, fun _ _ _ _ _ => trivial⟩
    | succ n ih => exact step_equi ih hk
  exact ⟨fun a n => (key n).rf a, fun a b h n => (key n).sy a b (h n), fun a b c h g n => (key n).tr a b c (h n) (g n)⟩
end

section
--SPLIT
end
abbrev s_alike : Stmt := top 22
abbrev N_alike : List Str := ["heap", "a", "b", "unequal", "leaders", "trail", "waiting", "at", "one", "other", "_"]
abbrev P_alike : List Str := ["heap", "a", "b", "unequal"]
theorem sc_alike : FnScope N_alike P_alike (defScope s_alike) := ⟨rfl, rfl, rfl, by decide +kernel, rfl, by decide +kernel, by decide +kernel⟩
abbrev s_equal : Stmt := top 17
abbrev N_equal : List Str := ["heap", "a", "b"]
abbrev P_equal : List Str := ["heap", "a", "b"]
theorem sc_equal : FnScope N_equal P_equal (defScope s_equal) := ⟨rfl, rfl, rfl, by decide +kernel, rfl, by decide +kernel, by decide +kernel⟩
section
/-! the classes of the leaders -/
def CR (par : Nat → Nat) (x y : Nat) : Prop := ∃ n m r, Rt par n x r ∧ Rt par m y r
theorem cr_equi {par : Nat → Nat} (h : ∀ k, ∃ n r, Rt par n k r) : Equi (CR par) where
  rf := fun a => by obtain ⟨n, r, e⟩ := h a; exact ⟨n, n, r, e, e⟩
  sy := fun a b ⟨n, m, r, e, f⟩ => ⟨m, n, r, f, e⟩
  tr := fun a b c ⟨n, m, r, e, f⟩ ⟨n', m', r', e', f'⟩ => by
    obtain ⟨_, rfl⟩ := f.fn e'
    exact ⟨n, m', r, e, f'⟩
theorem cr_same {par par' : Nat → Nat} (h : ∀ k, ∃ n r, Rt par n k r) (s : SameRt par par') (x y : Nat) : CR par x y ↔ CR par' x y := by
  constructor
  · rintro ⟨n, m, r, e, f⟩
    obtain ⟨n', _, e'⟩ := s _ _ _ e
    obtain ⟨m', _, f'⟩ := s _ _ _ f
    exact ⟨n', m', r, e', f'⟩
  · rintro ⟨n, m, r, e, f⟩
    obtain ⟨n1, r1, h1⟩ := h x
    obtain ⟨n2, r2, h2⟩ := h y
    obtain ⟨_, _, h1'⟩ := s _ _ _ h1
    obtain ⟨_, _, h2'⟩ := s _ _ _ h2
    obtain ⟨_, rfl⟩ := h1'.fn e
    obtain ⟨_, rfl⟩ := h2'.fn f
    exact ⟨n1, n2, _, h1, h2⟩
def mergeP (par : Nat → Nat) (ra rb : Nat) : Nat → Nat := fun x => if x = ra then rb else par x
theorem merge_rt {par : Nat → Nat} {ra rb : Nat} (ha : par ra = ra) (hb : par rb = rb) (hne : ra ≠ rb) {n x r : Nat} (h : Rt par n x r) : ∃ n', Rt (mergeP par ra rb) n' x (if r = ra then rb else r) := by
  have rootb : Rt (mergeP par ra rb) 0 rb rb := .self (by unfold mergeP; rw [if_neg (Ne.symm hne)]; exact hb)
  induction h with
  | @self r e =>
    by_cases c : r = ra
    · subst c
      rw [if_pos rfl]
      have e1 : mergeP par r rb r = rb := by unfold mergeP; rw [if_pos rfl]
      exact ⟨1, .up (by rw [e1]; exact Ne.symm hne) (by rw [e1]; exact rootb)⟩
    · rw [if_neg c]
      exact ⟨0, .self (by unfold mergeP; rw [if_neg c]; exact e)⟩
  | @up n k r c _ ih =>
    obtain ⟨n', h'⟩ := ih
    have hk : k ≠ ra := fun e => c (by rw [e]; exact ha)
    have e1 : mergeP par ra rb k = par k := by unfold mergeP; rw [if_neg hk]
    exact ⟨n' + 1, .up (by rw [e1]; exact c) (by rw [e1]; exact h')⟩
theorem merge_cr {par : Nat → Nat} (all : ∀ k, ∃ n r, Rt par n k r) {one other ra rb n m : Nat} (ha : Rt par n one ra) (hb : Rt par m other rb) (hne : ra ≠ rb) :
    (∀ x y, CR par x y → CR (mergeP par ra rb) x y) ∧ CR (mergeP par ra rb) one other ∧ ∀ E : Nat → Nat → Prop, Equi E → (∀ x y, CR par x y → E x y) → E one other → ∀ x y, CR (mergeP par ra rb) x y → E x y := by
  have mr := fun {n x r} (h : Rt par n x r) => merge_rt ha.root hb.root hne h
  refine ⟨fun x y ⟨n, m, r, e, f⟩ => ?_, ?_, fun E hE h1 h2 x y ⟨n, m, r, e, f⟩ => ?_⟩
  · obtain ⟨n', e'⟩ := mr e
    obtain ⟨m', f'⟩ := mr f
    exact ⟨n', m', _, e', f'⟩
  · obtain ⟨n', e'⟩ := mr ha
    obtain ⟨m', f'⟩ := mr hb
    rw [if_pos rfl] at e'
    rw [if_neg (Ne.symm hne)] at f'
    exact ⟨n', m', _, e', f'⟩
  · obtain ⟨n1, r1, e1⟩ := all x
    obtain ⟨n2, r2, e2⟩ := all y
    obtain ⟨_, e1'⟩ := mr e1
    obtain ⟨_, e2'⟩ := mr e2
    obtain ⟨_, g1⟩ := e1'.fn e
    obtain ⟨_, g2⟩ := e2'.fn f
    have toA : ∀ {z nz : Nat}, Rt par nz z ra → E z one := fun h => h1 _ _ ⟨_, _, ra, h, ha⟩
    have toB : ∀ {z nz : Nat}, Rt par nz z rb → E z other := fun h => h1 _ _ ⟨_, _, rb, h, hb⟩
    by_cases c1 : r1 = ra <;> by_cases c2 : r2 = ra
    · subst c1; subst c2; exact h1 _ _ ⟨_, _, _, e1, e2⟩
    · rw [if_pos c1] at g1
      rw [if_neg c2] at g2
      rw [c1] at e1
      rw [g2, ← g1] at e2
      exact hE.tr _ _ _ (hE.tr _ _ _ (toA e1) h2) (hE.sy _ _ (toB e2))
    · rw [if_neg c1] at g1
      rw [if_pos c2] at g2
      rw [c2] at e2
      rw [g1, ← g2] at e1
      exact hE.tr _ _ _ (toB e1) (hE.sy _ _ (hE.tr _ _ _ (toA e2) h2))
    · rw [if_neg c1] at g1
      rw [if_neg c2] at g2
      rw [g1] at e1
      rw [g2] at e2
      exact h1 _ _ ⟨_, _, _, e1, e2⟩
/-- how many leaders there are -/
def nroots (par : Nat → Nat) (N : Nat) : Nat := ((List.range N).filter fun k => decide (par k = k)).length
theorem filt_le {p q : Nat → Bool} (h : ∀ x, q x = true → p x = true) : ∀ l : List Nat, (l.filter q).length ≤ (l.filter p).length
  | [] => Nat.le_refl _
  | x :: l => by
    have ih := filt_le h l
    rw [List.filter_cons, List.filter_cons]
    cases hq : q x with
    | true => rw [h x hq, if_pos rfl, if_pos rfl, List.length_cons, List.length_cons]; omega
    | false =>
      rw [if_neg Bool.false_ne_true]
      split
      · rw [List.length_cons]; omega
      · exact ih
theorem filt_lt {p q : Nat → Bool} (h : ∀ x, q x = true → p x = true) {a : Nat} (hp : p a = true) (hq : q a = false) : ∀ l : List Nat, a ∈ l → (l.filter q).length < (l.filter p).length
  | [], ha => nomatch ha
  | x :: l, ha => by
    have le := filt_le h l
    rw [List.filter_cons, List.filter_cons]
    by_cases e : x = a
    · subst e
      rw [hp, hq, if_pos rfl, if_neg Bool.false_ne_true, List.length_cons]
      omega
    · have ih := filt_lt h hp hq l ((List.mem_cons.mp ha).resolve_left (Ne.symm e))
      cases hqx : q x with
      | true => rw [h x hqx, if_pos rfl, if_pos rfl, List.length_cons, List.length_cons]; omega
      | false =>
        rw [if_neg Bool.false_ne_true]
        split
        · rw [List.length_cons]; omega
        · exact ih
theorem same_root {par par' : Nat → Nat} (h : ∀ k, ∃ n r, Rt par n k r) (s : SameRt par par') (r : Nat) : par r = r ↔ par' r = r := by
  constructor
  · intro e
    obtain ⟨n', l, h'⟩ := s r 0 r (.self e)
    exact h'.root
  · intro e
    obtain ⟨n, q, h1⟩ := h r
    obtain ⟨n', _, h2⟩ := s _ _ _ h1
    obtain ⟨_, e2⟩ := h2.fn (.self e)
    rw [e2] at h1
    exact h1.root
theorem nroots_same {par par' : Nat → Nat} (h : ∀ k, ∃ n r, Rt par n k r) (s : SameRt par par') (N : Nat) : nroots par' N = nroots par N := by
  unfold nroots
  congr 1
  refine List.filter_congr fun k _ => ?_
  exact decide_eq_decide.mpr (same_root h s k).symm
theorem nroots_merge {par : Nat → Nat} {ra rb N : Nat} (ha : par ra = ra) (hne : ra ≠ rb) (hl : ra < N) : nroots (mergeP par ra rb) N < nroots par N := by
  unfold nroots
  refine filt_lt (a := ra) (fun x hx => ?_) (decide_eq_true ha) (decide_eq_false ?_) _ (List.mem_range.mpr hl)
  · have hx := of_decide_eq_true hx
    unfold mergeP at hx
    split at hx
    · rename_i e; rw [e] at hx; exact absurd hx.symm hne
    · exact decide_eq_true hx
  · unfold mergeP
    rw [if_pos rfl]
    exact Ne.symm hne
theorem nroots_id (N : Nat) : nroots (fun x => x) N = N := by
  unfold nroots
  rw [List.filter_eq_self.mpr fun _ _ => decide_eq_true rfl, List.length_range]
/-- what holds while the pairs are gone through -/
structure AL (kt : Vl → Str) (rows : List Row) (a0 b0 : Nat) (par : Nat → Nat) (ts : List Tr) (ws : List Nat) (G : List (Nat × Nat)) : Prop where
  gen : ∀ E : Nat → Nat → Prop, Equi E → (∀ g ∈ G, E g.1 g.2) → ∀ x y, CR par x y → E x y
  prt : ∀ g ∈ G, ∃ r s ps, rows[g.1]? = some r ∧ rows[g.2]? = some s ∧ pairsOf kt r s = some ps ∧ ∀ p ∈ ps, (bothR p = false → sl p.1 p.2 = true) ∧ ∀ a b, p = (.ref a, .ref b) → a = b ∨ CR par a b ∨ ∃ j ∈ ws, ∃ ab, ts[j]? = some (a, b, ab)
  top : a0 = b0 ∨ CR par a0 b0 ∨ ∃ j ∈ ws, ∃ ab, ts[j]? = some (a0, b0, ab)
  lt : ∀ t ∈ ts, t.1 < rows.length ∧ t.2.1 < rows.length
  wlt : ∀ j ∈ ws, j < ts.length
  ch : Chain (fun x y => ¬ EqA kt rows x y) ts
  rt : ∀ (i : Nat) (t : Tr), ts[i]? = some t → t.2.2 < 0 → t.1 = a0 ∧ t.2.1 = b0
theorem AL.neq {kt : Vl → Str} {rows : List Row} {a0 b0 : Nat} {par : Nat → Nat} {ts : List Tr} {ws : List Nat} {G : List (Nat × Nat)} (h : AL kt rows a0 b0 par ts ws G) : ∀ (i : Nat) (t : Tr), ts[i]? = some t → ¬ EqA kt rows t.1 t.2.1 → ¬ EqA kt rows a0 b0 := by
  intro i
  induction i using Nat.strongRecOn with
  | _ i ih =>
    intro t ht hn
    by_cases c : t.2.2 < 0
    · obtain ⟨e1, e2⟩ := h.rt i t ht c
      rw [← e1, ← e2]
      exact hn
    · obtain ⟨h1, h2⟩ := h.ch i t ht
      obtain ⟨t', ht', hn'⟩ := h2 (by omega) hn
      exact ih t.2.2.toNat (by omega) t' ht' hn'
theorem AL.yes {kt : Vl → Str} {rows : List Row} {a0 b0 : Nat} {par : Nat → Nat} {ts : List Tr} {G : List (Nat × Nat)} (h : AL kt rows a0 b0 par ts [] G) (all : ∀ k, ∃ n r, Rt par n k r) (hk : ∀ r ∈ rows, KeyR kt r) : EqA kt rows a0 b0 := by
  have E := cr_equi all
  have S := step_equi (kt := kt) (rows := rows) E hk
  have sub : ∀ x y, CR par x y → StepR kt rows (CR par) x y := h.gen _ S fun g hg => by
    obtain ⟨r, s, ps, hr, hs, hp, hv⟩ := h.prt g hg
    refine .inr ⟨r, s, hr, hs, ps, hp, fun p hpm => ?_⟩
    obtain ⟨v1, v2⟩ := hv p hpm
    cases hb : bothR (p.1, p.2) with
    | false => exact (VR.leaf hb).mpr (v1 hb)
    | true =>
      obtain ⟨a, b, e1, e2⟩ := both_ref hb
      rw [e1, e2]
      have e : p = (.ref a, .ref b) := by obtain ⟨x, y⟩ := p; cases e1; cases e2; rfl
      rcases v2 a b e with e | h1 | ⟨j, hj, _⟩
      · rw [e]; exact E.rf b
      · exact h1
      · exact nomatch hj
  have co := EqA.co sub
  rcases h.top with e | h1 | ⟨j, hj, _⟩
  · rw [e]; exact EqA.rf b0
  · exact co _ _ h1
  · exact nomatch hj
theorem AL.skip {kt : Vl → Str} {rows : List Row} {a0 b0 : Nat} {par par' : Nat → Nat} {ts : List Tr} {ws : List Nat} {j : Nat} {t : Tr} {G : List (Nat × Nat)} (h : AL kt rows a0 b0 par ts (ws ++ [j]) G) (all : ∀ k, ∃ n r, Rt par n k r) (s : SameRt par par') (ht : ts[j]? = some t) (hc : CR par t.1 t.2.1) : AL kt rows a0 b0 par' ts ws G := by
  have tr : ∀ a b, (a = b ∨ CR par a b ∨ ∃ i ∈ ws ++ [j], ∃ ab, ts[i]? = some (a, b, ab)) → a = b ∨ CR par' a b ∨ ∃ i ∈ ws, ∃ ab, ts[i]? = some (a, b, ab) := fun a b hh => by
    rcases hh with e | e | ⟨i, hi, ab, e⟩
    · exact .inl e
    · exact .inr (.inl ((cr_same all s a b).mp e))
    · rcases List.mem_append.mp hi with hi | hi
      · exact .inr (.inr ⟨i, hi, ab, e⟩)
      · rw [List.mem_singleton.mp hi, ht] at e
        cases e
        exact .inr (.inl ((cr_same all s _ _).mp hc))
  refine ⟨fun E hE hg x y hxy => h.gen E hE hg x y ((cr_same all s x y).mpr hxy), fun g hg => ?_, tr _ _ h.top, h.lt, fun i hi => h.wlt i (List.mem_append_left _ hi), h.ch, h.rt⟩
  obtain ⟨r, q, ps, h1, h2, h3, h4⟩ := h.prt g hg
  exact ⟨r, q, ps, h1, h2, h3, fun p hp => ⟨(h4 p hp).1, fun a b e => tr a b ((h4 p hp).2 a b e)⟩⟩
theorem newE_in {i : Nat} : ∀ {ps : List (Vl × Vl)} {a b : Nat}, (Vl.ref a, Vl.ref b) ∈ ps → a ≠ b → (a, b, ((i : Nat) : Int)) ∈ newE i ps
  | [], a, b, h, _ => nomatch h
  | p :: ps, a, b, h, hn => by
    rcases List.mem_cons.mp h with rfl | h
    · show _ ∈ if a = b then newE i ps else _ :: newE i ps
      rw [if_neg hn]
      simp
    · have ih := newE_in (i := i) h hn
      unfold newE
      split
      · rename_i e; cases e
      · rename_i e
        cases e
        split
        · exact ih
        · exact List.mem_cons_of_mem _ ih
      · rename_i e
        cases e
        exact ih
theorem AL.go {kt : Vl → Str} {rows : List Row} {a0 b0 : Nat} {par par2 : Nat → Nat} {ts more : List Tr} {ws : List Nat} {j : Nat} {t : Tr} {G : List (Nat × Nat)} {r s : Row} {ra rb n m : Nat} (h : AL kt rows a0 b0 par ts (ws ++ [j]) G) (all : ∀ k, ∃ n r, Rt par n k r) (sm : SameRt par par2) (ht : ts[j]? = some t)
    (hr : rows[t.1]? = some r) (hs : rows[t.2.1]? = some s) (ha : Rt par2 n t.1 ra) (hb : Rt par2 m t.2.1 rb) (hne : ra ≠ rb) (gr : GoodR kt rows r) (gs : GoodR kt rows s) (A : AddR kt r s j true more) :
    AL kt rows a0 b0 (mergeP par2 ra rb) (ts ++ more) (ws ++ (List.range more.length).map (ts.length + ·)) (G ++ [(t.1, t.2.1)]) := by
  have all2 : ∀ k, ∃ n r, Rt par2 n k r := fun k => by
    obtain ⟨n, r, e⟩ := all k
    obtain ⟨n', _, e'⟩ := sm _ _ _ e
    exact ⟨n', r, e'⟩
  obtain ⟨m1, m2, m3⟩ := merge_cr all2 ha hb hne
  obtain ⟨ps, hp, hm, hl⟩ := A.yes rfl
  have hj : j < ts.length := (List.getElem?_eq_some_iff.mp ht).1
  have old : ∀ a b, (a = b ∨ CR par a b ∨ ∃ i ∈ ws ++ [j], ∃ ab, ts[i]? = some (a, b, ab)) → a = b ∨ CR (mergeP par2 ra rb) a b ∨ ∃ i ∈ ws ++ (List.range more.length).map (ts.length + ·), ∃ ab, (ts ++ more)[i]? = some (a, b, ab) := fun a b hh => by
    rcases hh with e | e | ⟨i, hi, ab, e⟩
    · exact .inl e
    · exact .inr (.inl (m1 _ _ ((cr_same all sm a b).mp e)))
    · rcases List.mem_append.mp hi with hi | hi
      · exact .inr (.inr ⟨i, List.mem_append_left _ hi, ab, by rw [List.getElem?_append_left (List.getElem?_eq_some_iff.mp e).1]; exact e⟩)
      · rw [List.mem_singleton.mp hi, ht] at e
        cases e
        exact .inr (.inl m2)
  refine ⟨fun E hE hg x y hxy => m3 E hE (fun x y e => h.gen E hE (fun g hg' => hg g (List.mem_append_left _ hg')) x y ((cr_same all sm x y).mpr e)) (hg (t.1, t.2.1) (by simp)) x y hxy, fun g hg => ?_, old _ _ h.top, fun t' ht' => ?_, fun i hi => ?_, fun i t' ht' => ?_, fun i t' ht' h0 => ?_⟩
  · rcases List.mem_append.mp hg with hg | hg
    · obtain ⟨r, q, ps, h1, h2, h3, h4⟩ := h.prt g hg
      exact ⟨r, q, ps, h1, h2, h3, fun p hp => ⟨(h4 p hp).1, fun a b e => old a b ((h4 p hp).2 a b e)⟩⟩
    · rw [List.mem_singleton.mp hg]
      refine ⟨r, s, ps, hr, hs, hp, fun p hpm => ⟨hl p hpm, fun a b e => ?_⟩⟩
      by_cases c : a = b
      · exact .inl c
      · have hin := newE_in (i := j) (by rw [← e]; exact hpm) c
        rw [← hm] at hin
        obtain ⟨i, hi⟩ := List.getElem?_of_mem hin
        have hil := (List.getElem?_eq_some_iff.mp hi).1
        refine .inr (.inr ⟨ts.length + i, List.mem_append_right _ (List.mem_map.mpr ⟨i, List.mem_range.mpr hil, rfl⟩), (j : Int), ?_⟩)
        rw [List.getElem?_append_right (by omega), show ts.length + i - ts.length = i by omega]
        exact hi
  · rcases List.mem_append.mp ht' with ht' | ht'
    · exact h.lt t' ht'
    · obtain ⟨_, ps', hp', hmem⟩ := A.mem t' ht'
      obtain ⟨_, hv⟩ := pairsOf_vs gr gs hp'
      obtain ⟨v1, v2⟩ := hv _ hmem
      exact ⟨(gr.vs _ v1).2 _ rfl, (gs.vs _ v2).2 _ rfl⟩
  · rcases List.mem_append.mp hi with hi | hi
    · have := h.wlt i (List.mem_append_left _ hi)
      rw [List.length_append]; omega
    · obtain ⟨k, hk, rfl⟩ := List.mem_map.mp hi
      have := List.mem_range.mp hk
      rw [List.length_append]; omega
  · by_cases c : i < ts.length
    · rw [List.getElem?_append_left c] at ht'
      obtain ⟨h1, h2⟩ := h.ch i t' ht'
      refine ⟨h1, fun h0 hn => ?_⟩
      obtain ⟨t2, e2, n2⟩ := h2 h0 hn
      exact ⟨t2, by rw [List.getElem?_append_left (List.getElem?_eq_some_iff.mp e2).1]; exact e2, n2⟩
    · rw [List.getElem?_append_right (by omega)] at ht'
      obtain ⟨e1, ps', hp', hmem⟩ := A.mem t' (List.mem_of_getElem? ht')
      refine ⟨by rw [e1]; omega, fun _ hn => ⟨t, ?_, fun he => hn ?_⟩⟩
      · rw [e1]
        show (ts ++ more)[((j : Nat) : Int).toNat]? = _
        rw [Int.toNat_natCast, List.getElem?_append_left hj]
        exact ht
      · have tne : t.1 ≠ t.2.1 := fun e => by
          rw [e] at ha
          exact hne (ha.fn hb).2
        obtain ⟨r', s', hr', hs', ps2, hp2, hv2⟩ := he.parts tne
        rw [hr] at hr'
        rw [hs] at hs'
        cases hr'
        cases hs'
        rw [hp'] at hp2
        cases hp2
        exact hv2 _ hmem
  · by_cases c : i < ts.length
    · rw [List.getElem?_append_left c] at ht'
      exact h.rt i t' ht' h0
    · rw [List.getElem?_append_right (by omega)] at ht'
      obtain ⟨e1, _⟩ := A.mem t' (List.mem_of_getElem? ht')
      rw [e1] at h0
      omega
theorem add_no {kt : Vl → Str} {rows : List Row} {a b : Nat} {r s : Row} {i : Nat} {more : List Tr} (hr : rows[a]? = some r) (hs : rows[b]? = some s) (hne : a ≠ b) (A : AddR kt r s i false more) : ¬ EqA kt rows a b := fun he => by
  obtain ⟨r', s', hr', hs', ps, hp, hv⟩ := he.parts hne
  rw [hr] at hr'
  rw [hs] at hs'
  cases hr'
  cases hs'
  rcases A.no rfl with h | ⟨ps', p, h1, h2, h3, h4⟩
  · rw [h] at hp; cases hp
  · rw [h1] at hp
    cases hp
    have := (VR.leaf h3).mp (hv p h2)
    rw [h4] at this
    cases this
end
section
variable {P : Program} {w : World} {K : PySem.W.Frag} {mg : Str → Option Value} {base : Heap}
theorem natsV_app (ws : List Nat) (j : Nat) : natsV (ws ++ [j]) = natsV ws ++ [V.int ((j : Nat) : Int)] := by unfold natsV; rw [List.map_append]; rfl
theorem keepT_dK' {a : Addr} {kvs : List (Key × V)} {H H' : Hp} (e : H a = some (.dK kvs)) (hk : KeepD a H H') : KeepT K H H' := keepT_D e (fun _ h => nomatch h) (fun _ _ h => nomatch h) hk
def NEq (kt : Vl → Str) (rows : List Row) : Nat → Nat → Prop := fun x y => ¬ EqA kt rows x y
def spAlike (K : PySem.W.Frag) : Sp := fun vs H Q _ => ∃ (kt : Vl → Str) (hp ud : Addr) (rows : List Row) (va vb : V) (x y : Vl) (kvs : List (List Key × V)), vs = [.ref hp, va, vb, .ref ud] ∧ ListAt K H hp (rows.map rowD) ∧ Dt K H va (vlD x) ∧ Dt K H vb (vlD y) ∧ vOk x ∧ vOk y ∧ (∀ k, x = .ref k → k < rows.length) ∧ (∀ k, y = .ref k → k < rows.length) ∧
  (∀ r ∈ rows, GoodR kt rows r) ∧ rows.length ≤ 1000 ∧ H ud = some (.dT kvs) ∧ Noted (NEq kt rows) kvs ∧ kvs.length ≤ 2000000 ∧
  ∀ b kvs' H', (b = true ↔ EqV kt rows x y) → KeepD ud H H' → H' ud = some (.dT kvs') → Noted (NEq kt rows) kvs' → kvs'.length ≤ kvs.length + 1002000 → (b = true → kvs' = kvs) → Q (.bl b) H'
theorem ok_alike {f : Addr} {fd : FuncData} (F : Fun K "_alike" "_alike" s_alike f fd) (T : Txt K mg) (U_same_leaf : Use P w K mg base CX0 "same_leaf" 2 P_same_leaf (spSameLeaf K)) (U_leader : Use P w K mg base CX0 "_leader" 1 P_leader (spLeader K))
    (U_note_unequal : Use P w K mg base CX0 "_note_unequal" 1 P_note_unequal (spNote K)) (U_add_pairs : Use P w K mg base CX0 "_add_pairs" 6 P_add_pairs (spAddPairs K)) : FnG P w K mg base CX0 7 f fd P_alike (spAlike K) := by
  refine okG0 F sc_alike (fun vs H Q E h => ?_) fun cdv A outer s H vs Q E hr hg h => ?_
  · obtain ⟨kt, hp, ud, rows, va, vb, x, y, kvs, rfl, _⟩ := h
    rfl
  · obtain ⟨kt, hp, ud, rows, va, vb, x, y, kvs, rfl, L, dx, dy, ox, oy, lx, ly, G0, hN, eud, hnt, hkl, k⟩ := h
    have hu : (A.deeper (envOfC "_alike" (defScope s_alike) s.heap.objs.size f cdv)).units + 1 < cLine := Nat.lt_of_le_of_lt (by omega) hr.units
    refine ⟨_, (pss_cons (ps_if (PW.pt (pw_or (pt_cmpR op_ne (pe_ix ix_tup (pv 1) pe_int (fun _ _ => rfl)) pe_str (nomark _)) (pw_or1 (pt_cmpR op_ne (pe_ix ix_tup (pv 2) pe_int (fun _ _ => rfl)) pe_str (nomark _)))))
   (pss_one (ps_ret (pe_use U_same_leaf (hr.mono (by decide)) hg rfl (pa_cons (pv 1) (pa_cons (pv 2) pa_nil)))))
   pss_nil)
  (pss_cons (ps_set (i := 4) sc_alike.nd rfl (Or.inl rfl) pe_dnewK)
  (pss_cons (ps_set (i := 5) sc_alike.nd rfl (Or.inl rfl) (pe_lst (pa_cons (pe_tup (pa_cons (pe_ix ix_tup (pv 1) pe_int (fun _ _ => rfl)) (pa_cons (pe_ix ix_tup (pv 2) pe_int (fun _ _ => rfl)) (pa_cons (pe_un un_neg pe_int) pa_nil)))) pa_nil)))
  (pss_cons (ps_set (i := 6) sc_alike.nd rfl (Or.inl rfl) (pe_lst (pa_cons pe_int pa_nil)))
  (pss_cons (ps_while PassesOwn.never (pt_up (pt_truth (pv 6) (by intro _; rfl)))
   (pss_cons (ps_set (i := 7) sc_alike.nd rfl (Or.inl rfl) (pe_bm0 PySem.F.plainAttrs_list PySem.F.slot_list_pop PySem.F.type_list_pop mt_pop (pv 6)))
  (pss_cons (ps_asg (pe_ix ix_list (pv 5) (pv 7) (fun _ _ => rfl)) (pg_tup (by rfl) (pgs_cons (pg_name (i := 8) sc_alike.nd rfl (Or.inl rfl)) (pgs_cons (pg_name (i := 9) sc_alike.nd rfl (Or.inl rfl)) (pgs_cons (pg_name (i := 10) sc_alike.nd rfl (Or.inl rfl)) pgs_nil)))))
  (pss_cons (ps_if (pt_cmp (pc_din hu (pe_tup (pa_cons (pv 8) (pa_cons (pv 9) pa_nil))) (pv 3)))
   (pss_cons (ps_expr (pe_use U_note_unequal (hr.mono (by decide)) hg rfl (pa_cons (pv 5) (pa_cons (pv 7) (pa_cons (pv 3) pa_nil)))))
  (pss_one (ps_ret pe_bl)))
   pss_nil)
  (pss_cons (ps_if (pt_cmpR op_eq (pe_use U_leader (hr.mono (by decide)) hg rfl (pa_cons (pv 4) (pa_cons (pv 8) pa_nil))) (pe_use U_leader (hr.mono (by decide)) hg rfl (pa_cons (pv 4) (pa_cons (pv 9) pa_nil))) (nomark _))
   (pss_one ps_continue)
   pss_nil)
  (pss_cons (ps_dput hu (pv 4) (pe_use U_leader (hr.mono (by decide)) hg rfl (pa_cons (pv 4) (pa_cons (pv 8) pa_nil))) (pe_use U_leader (hr.mono (by decide)) hg rfl (pa_cons (pv 4) (pa_cons (pv 9) pa_nil))) rfl)
  (pss_one (ps_if (pt_not (pt_val (pe_use U_add_pairs (hr.mono (by decide)) hg rfl (pa_cons (pv 0) (pa_cons (pv 5) (pa_cons (pv 7) (pa_cons (pv 6) pa_nil)))))))
   (pss_cons (ps_expr (pe_use U_note_unequal (hr.mono (by decide)) hg rfl (pa_cons (pv 5) (pa_cons (pv 7) (pa_cons (pv 3) pa_nil)))))
  (pss_one (ps_ret pe_bl)))
   pss_nil))))))))
  (pss_one (ps_ret pe_bl))))))), ?_⟩
    obtain ⟨qa, wa, rfl, hqa, dda⟩ := dvl dx
    obtain ⟨qb, wb, rfl, hqb, ddb⟩ := dvl dy
    have leafK : bothR (x, y) = false → spSameLeaf K [.ref qa, .ref qb] H Q E0 := fun hb => by
      refine ⟨_, _, x, y, rfl, dx, dy, ox, oy, fun H' S => k _ kvs H' ?_ (fun b o e _ => S b o e) (S _ _ eud) hnt (by omega) fun _ => rfl⟩
      exact (VR.leaf hb).symm
    refine ⟨_, rfl, qa, _, _, _, rfl, rfl, hqa, at0, rfl, _, rfl, ?_⟩
    by_cases ca : kn x = 5
    case neg =>
      have hb : bothR (x, y) = false := by cases x <;> first | rfl | exact absurd rfl ca
      refine iteTb (by rw [show decide (V.str (knd x) = V.str "ref") = decide (kn x = 5) from knd_is _ 5 (by decide), decide_eq_false ca]; rfl) (iteTb rfl ?_)
      exact ⟨_, rfl, _, rfl, leafK hb⟩
    refine iteFb (by rw [show decide (V.str (knd x) = V.str "ref") = decide (kn x = 5) from knd_is _ 5 (by decide), ca]; rfl) ?_
    refine ⟨_, rfl, qb, _, _, _, rfl, rfl, hqb, at0, rfl, _, rfl, ?_⟩
    by_cases cb : kn y = 5
    case neg =>
      have hb : bothR (x, y) = false := by cases x <;> cases y <;> first | rfl | exact absurd rfl cb
      refine iteTb (by rw [show decide (V.str (knd y) = V.str "ref") = decide (kn y = 5) from knd_is _ 5 (by decide), decide_eq_false cb]; rfl) ?_
      exact ⟨_, rfl, _, rfl, leafK hb⟩
    refine iteFb (by rw [show decide (V.str (knd y) = V.str "ref") = decide (kn y = 5) from knd_is _ 5 (by decide), cb]; rfl) ?_
    clear leafK
    cases x with
    | ref a0 =>
      cases y with
      | ref b0 =>
        have la := lx a0 rfl
        have lb := ly b0 rfl
        obtain ⟨v1, _, rfl, dv1, _⟩ := dda.cons_inv
        obtain ⟨v2, _, rfl, dv2, _⟩ := ddb.cons_inv
        cases dv1.int_inv
        cases dv2.int_inv
        refine fun ld hld => ?_
        have S1 := Same.new (o := .dK []) hld
        have eld1 : upd H ld (.dK []) ld = some (.dK []) := upd_same
        refine ⟨_, rfl, qa, _, _, _, rfl, rfl, Same.tupl S1 hqa, at1, _, rfl, qb, _, _, _, rfl, rfl, Same.tupl S1 hqb, at1, _, rfl, sz_3, fun u hu2 => ⟨sz_1, fun tr htr => ⟨sz_1, fun wl hwl => ?_⟩⟩⟩
        have S2 := S1.trans (Same.new (o := .tup [V.int ((a0 : Nat) : Int), V.int ((b0 : Nat) : Int), V.int (-1)]) hu2)
        have du := Dt.made (K := K) hu2 (.cons (.int ((a0 : Nat) : Int)) (.cons (.int ((b0 : Nat) : Int)) (.cons (.int (-1)) .nil)))
        have eld2 := Same.new (o := .tup [V.int ((a0 : Nat) : Int), V.int ((b0 : Nat) : Int), V.int (-1)]) hu2 _ _ eld1
        have S3 := S2.trans (Same.new (o := .lst [V.ref u]) htr)
        have S4 := S3.trans (Same.new (o := .lst [V.int 0]) hwl)
        have hld0 : H ld = none := hld
        have htr0 : H tr = none := same_none' S2 htr
        have hwl0 : H wl = none := same_none' S3 hwl
        have eld3 := Same.new (o := .lst [V.ref u]) htr _ _ eld2
        have etr3 : upd (upd (upd H ld (.dK [])) u (.tup [V.int ((a0 : Nat) : Int), V.int ((b0 : Nat) : Int), V.int (-1)])) tr (.lst [V.ref u]) tr = some (.lst [V.ref u]) := upd_same
        have nlt : ld ≠ tr := ne_of_none eld2 htr
        have nlw : ld ≠ wl := ne_of_none eld3 hwl
        have ntw : tr ≠ wl := ne_of_none etr3 hwl
        obtain ⟨hxs, ehp, _⟩ := id L
        have nht : hp ≠ tr := ne_of_none ehp htr0
        have nhw : hp ≠ wl := ne_of_none ehp hwl0
        have nhl : hp ≠ ld := ne_of_none ehp hld0
        have nul : ud ≠ ld := ne_of_none eud hld0
        have nut : ud ≠ tr := ne_of_none eud htr0
        have nuw : ud ≠ wl := ne_of_none eud hwl0
        have ew4 : upd (upd (upd (upd H ld (.dK [])) u (.tup [V.int ((a0 : Nat) : Int), V.int ((b0 : Nat) : Int), V.int (-1)])) tr (.lst [V.ref u])) wl (.lst [V.int 0]) wl = some (.lst (natsV [0])) := upd_same
        have eld4 := Same.new (o := .lst [V.int 0]) hwl _ _ eld3
        have Lt4 : ListAt K (upd (upd (upd (upd H ld (.dK [])) u (.tup [V.int ((a0 : Nat) : Int), V.int ((b0 : Nat) : Int), V.int (-1)])) tr (.lst [V.ref u])) wl (.lst [V.int 0])) tr (([(a0, b0, -1)] : List Tr).map trD) := listAt_mono ⟨_, upd_same, .cons (du.mono (Same.new htr)) .nil⟩ (Same.new hwl)
        change _ = some _ at ew4
        generalize upd (upd (upd (upd H ld (.dK [])) u (.tup [V.int ((a0 : Nat) : Int), V.int ((b0 : Nat) : Int), V.int (-1)])) tr (.lst [V.ref u])) wl (.lst [V.int 0]) = H4 at S4 ew4 eld4 Lt4
        clear S1 S2 S3 eld1 eld2 eld3 etr3 du hu2 htr hwl hld
        have A0 : AL kt rows a0 b0 (fun x => x) [(a0, b0, -1)] [0] [] := by
          refine ⟨fun E hE _ x y h => ?_, fun g hg => (nomatch hg), .inr (.inr ⟨0, by simp, -1, rfl⟩), fun t ht => ?_, fun j hj => ?_, fun i t ht => ?_, fun i t ht _ => ?_⟩
          · obtain ⟨n, m, r, e1, e2⟩ := h
            have id0 : ∀ {n z r : Nat}, Rt (fun x => x) n z r → z = r := fun h => by
              cases h with
              | self _ => rfl
              | up c _ => exact absurd rfl c
            rw [id0 e1, id0 e2]
            exact hE.rf r
          · rw [List.mem_singleton.mp ht]; exact ⟨la, lb⟩
          · rw [List.mem_singleton.mp hj]; exact Nat.one_pos
          · cases i with
            | zero => cases ht; exact ⟨(by decide : (-1 : Int) < 0), fun h => absurd h (show ¬ (0 : Int) ≤ -1 by decide)⟩
            | succ i => simp at ht
          · cases i with
            | zero => cases ht; exact ⟨rfl, rfl⟩
            | succ i => simp at ht
        have U0 : UF rows.length [] (fun x => x) := ⟨fun k => .inl ⟨rfl, rfl⟩, fun k h => h, fun k => ⟨0, k, .self rfl⟩⟩
        refine while_upN (fun m σ H5 => ∃ (kvl : List (Key × V)) (par : Nat → Nat) (ts : List Tr) (ws : List Nat) (G : List (Nat × Nat)) (x7 x8 x9 x10 : Option V), σ = [some (.ref hp), some (.ref qa), some (.ref qb), some (.ref ud), some (.ref ld), some (.ref tr), some (.ref wl), x7, x8, x9, x10] ∧ Same H H5 ∧ H5 ld = some (.dK kvl) ∧ ListAt K H5 tr (ts.map trD) ∧ H5 wl = some (.lst (natsV ws)) ∧
            UF rows.length kvl par ∧ AL kt rows a0 b0 par ts ws G ∧ m = nroots par rows.length * 1001 + ws.length ∧ kvl.length + nroots par rows.length ≤ rows.length ∧ ts.length ≤ 1 + 1000 * (rows.length - nroots par rows.length) ∧ ws.length ≤ 1 + 1000 * (rows.length - nroots par rows.length))
          ⟨_, [], fun x => x, [(a0, b0, -1)], [0], [], none, none, none, none, rfl, S4, eld4, Lt4, ew4, U0, A0, rfl, by rw [nroots_id]; exact Nat.le_of_eq (Nat.zero_add _), by rw [nroots_id, Nat.sub_self]; exact Nat.le_refl _, by rw [nroots_id, Nat.sub_self]; exact Nat.le_refl _⟩ ?_
        clear S4 ew4 eld4 Lt4 A0 U0 H4
        rintro m σ H5 ⟨kvl, par, ts, ws, G, x7, x8, x9, x10, rfl, S5, el5, Lt5, ew5, u5, A5, hm, hb1, hb2, hb3⟩
        have tsle : ts.length ≤ 1001000 := by omega
        have wsle : ws.length ≤ 1001000 := by omega
        have kvle : kvl.length ≤ 10000 := by omega
        refine ⟨_, rfl, !(natsV ws).isEmpty, .inl ⟨_, SqL.of ew5, rfl⟩, ?_⟩
        rcases List.eq_nil_or_concat ws with rfl | ⟨ws0, j, rfl⟩
        · refine iteFb rfl ?_
          have hy := A5.yes u5.all fun r hr => ⟨fun es e => ((G0 r hr).keys es e).2⟩
          exact k true kvs H5 ⟨fun _ => hy, fun _ => rfl⟩ (fun b o e _ => S5 b o e) (S5 _ _ eud) hnt (by omega) fun _ => rfl
        · rw [List.concat_eq_append] at *
          refine iteTb (by rw [natsV_app]; simp) ?_
          rw [natsV_app] at ew5
          have hj := A5.wlt j (by simp)
          obtain ⟨t, ht⟩ : ∃ t, ts[j]? = some t := ⟨ts[j], List.getElem?_eq_getElem hj⟩
          obtain ⟨l1, l2⟩ := A5.lt t (List.mem_of_getElem? ht)
          refine ⟨_, rfl, .inl ⟨rfl, _, SqL.of ew5⟩, wl, _, V.int ((j : Nat) : Int), rfl, rfl, ew5, by simp, ?_⟩
          rw [List.dropLast_concat]
          have kT6 : KeepT K H5 (upd H5 wl (.lst (natsV ws0))) := KeepT.upd ew5
          have S6 : Same H (upd H5 wl (.lst (natsV ws0))) := fun b o e => by rw [upd_ne (ne_of_none e hwl0)]; exact S5 b o e
          have el6 : upd H5 wl (.lst (natsV ws0)) ld = some (.dK kvl) := by rw [upd_ne nlw]; exact el5
          have Lt6 : ListAt K (upd H5 wl (.lst (natsV ws0))) tr (ts.map trD) := listAt_upd Lt5 ntw ew5
          have ew6 : upd H5 wl (.lst (natsV ws0)) wl = some (.lst (natsV ws0)) := upd_same
          generalize upd H5 wl (.lst (natsV ws0)) = H6 at S6 el6 Lt6 ew6 kT6
          clear S5 el5 Lt5 ew5 kT6
          obtain ⟨zt, yt, ezt, hyt, dyt⟩ := hd_at Lt6 (j := j) (d := trD t) (by rw [List.getElem?_map, ht]; rfl)
          obtain ⟨qt, rfl, hqt⟩ := dt_tr dyt
          refine ⟨_, rfl, _, rfl, tr, _, _, _, rfl, rfl, SqL.of ezt, hyt, qt, _, rfl, hqt, rfl, _, _, rfl, _, _, rfl, _, _, rfl, rfl, ?_⟩
          -- what is told when they are not equal
          have noK : NEq kt rows t.1 t.2.1 → ∀ H7 ts', Same H H7 → ListAt K H7 tr (ts'.map trD) → ts'.length ≤ 1002000 → ts'[j]? = some t → Chain (NEq kt rows) ts' → spNote K [.ref tr, .int ((j : Nat) : Int), .ref ud] H7 (fun _ H' => Q (.bl false) H') E0 := fun hn H7 ts' S7 L7 lt7 ht' hc' => by
            refine ⟨NEq kt rows, tr, ud, ts', j, t, kvs, rfl, L7, S7 _ _ eud, Ne.symm nut, ht', hn, hc', hnt, by omega, fun kvs' H' kD e' n' l' => ?_⟩
            refine k false kvs' H' ⟨(fun h => nomatch h), fun h => absurd h (A5.neq j t ht hn)⟩ (fun b o e ne => kD b o (S7 b o e) ne) e' n' (by omega) (fun h => nomatch h)
          refine ⟨_, rfl, _, rfl, sz_2, fun u hu3 => ⟨_, rfl, ud, _, rfl, DGet.t (k := kPair t.1 t.2.1) (Same.new hu3 _ _ (S6 _ _ eud)) upd_same, _, rfl, ?_⟩⟩
          have S7 := S6.trans (Same.new (o := .tup [V.int ((t.1 : Nat) : Int), V.int ((t.2.1 : Nat) : Int)]) hu3)
          have el7 := Same.new (o := .tup [V.int ((t.1 : Nat) : Int), V.int ((t.2.1 : Nat) : Int)]) hu3 _ _ el6
          have Lt7 := listAt_mono Lt6 (Same.new (o := .tup [V.int ((t.1 : Nat) : Int), V.int ((t.2.1 : Nat) : Int)]) hu3)
          have ew7 := Same.new (o := .tup [V.int ((t.1 : Nat) : Int), V.int ((t.2.1 : Nat) : Int)]) hu3 _ _ ew6
          generalize upd H6 u (.tup [V.int ((t.1 : Nat) : Int), V.int ((t.2.1 : Nat) : Int)]) = H7 at S7 el7 Lt7 ew7
          clear S6 el6 Lt6 ew6 ezt hqt dyt hyt
          cases hun : (valV kvs (kPair t.1 t.2.1)).isSome with
          | true =>
            refine iteTb rfl ?_
            exact ⟨_, rfl, _, rfl, _, rfl, noK (hnt _ _ hun) H7 ts S7 Lt7 (by omega) ht A5.ch⟩
          | false =>
            refine iteFb rfl ?_
            refine ⟨_, rfl, _, rfl, ld, rows.length, t.1, kvl, par, rfl, el7, u5, l1, kvle, fun n1 r1 kv1 p1 H8 h1 kD1 e1 le1 u1 s1 => ?_⟩
            refine ⟨_, rfl, _, rfl, ld, rows.length, t.2.1, kv1, p1, rfl, e1, u1, l2, by omega, fun n2 r2 kv2 p2 H9 h2 kD2 e2 le2 u2 s2 => ?_⟩
            have kD12 : ∀ b o, H7 b = some o → b ≠ ld → H9 b = some o := fun b o e ne => kD2 b o (kD1 b o e ne) ne
            have kT9 := keepT_dK' (K := K) el7 kD12
            have S9 : Same H H9 := fun b o e => kD12 b o (S7 b o e) (ne_of_none e hld0)
            have Lt9 := listAt_D Lt7 kD12 kT9 (Ne.symm nlt)
            have ew9 := kD12 _ _ ew7 (Ne.symm nlw)
            clear kD1 kD2
            refine ⟨rfl, _, rfl, ?_⟩
            -- the root of the other one by the first leaders
            obtain ⟨n2', q2, h2'⟩ := u5.all t.2.1
            obtain ⟨_, _, h2''⟩ := s1 _ _ _ h2'
            obtain ⟨_, rfl⟩ := h2''.fn h2
            by_cases cr : r1 = q2
            · refine iteTb (by rw [cr]; exact decide_eq_true rfl) ?_
              have s12 := s1.trans s2
              have A9 := A5.skip u5.all s12 ht ⟨n1, n2', q2, by rw [← cr]; exact h1, h2'⟩
              have nr9 := nroots_same u5.all s12 rows.length
              refine ⟨nroots p2 rows.length * 1001 + ws0.length, ?_, kv2, p2, ts, ws0, G, _, _, _, _, rfl, S9, e2, Lt9, ew9, u2, A9, rfl, by rw [nr9]; omega, by rw [nr9]; exact hb2, ?_⟩
              · rw [hm, nr9, List.length_append, List.length_singleton]; omega
              · rw [nr9]
                rw [List.length_append, List.length_singleton] at hb3
                omega
            · refine iteFb (decide_eq_false fun e => cr (by have := V.int.inj e; omega)) ?_
              refine ⟨_, rfl, _, rfl, ld, rows.length, t.2.1, kv2, p2, rfl, e2, u2, l2, by omega, fun n3 rb kv3 p3 H10 h3 kD3 e3 le3 u3 s3 => ?_⟩
              refine ⟨_, rfl, _, rfl, _, rfl, ld, rows.length, t.1, kv3, p3, rfl, e3, u3, l1, by omega, fun n4 ra kv4 p4 H11 h4 kD4 e4 le4 u4 s4 => ?_⟩
              have s14 := ((s1.trans s2).trans s3).trans s4
              have kD34 : KeepD ld H9 H11 := fun b o e ne => kD4 b o (kD3 b o e ne) ne
              have kT11 := keepT_dK' (K := K) e2 kD34
              have S11 : Same H H11 := fun b o e => kD34 b o (S9 b o e) (ne_of_none e hld0)
              have Lt11 := listAt_D Lt9 kD34 kT11 (Ne.symm nlt)
              have ew11 := kD34 _ _ ew9 (Ne.symm nlw)
              clear kD3 kD4 kD34 kT11 kT9 kD12
              -- the roots by the last leaders
              obtain ⟨_, _, ha⟩ := s14 _ _ _ h1
              obtain ⟨_, _, hb⟩ := s14 _ _ _ h2'
              obtain ⟨_, _, ha'⟩ := s4 _ _ _ h4
              obtain ⟨_, _, hb0⟩ := s3 _ _ _ h3
              obtain ⟨_, _, hb'⟩ := s4 _ _ _ hb0
              obtain ⟨_, rfl⟩ := ha.fn ha'
              obtain ⟨_, rfl⟩ := hb.fn hb'
              have nr4 := nroots_same u5.all s14 rows.length
              have lra := ha.lt u4.lt l1
              have lrb := hb.lt u4.lt l2
              have nrm := nroots_merge (N := rows.length) ha.root cr lra
              have kv4l : kv4.length = kvl.length := by omega
              refine ⟨ld, _, rfl, DPut.k (k := .inl ((r1 : Nat) : Int)) e4 (by rw [kv4l]; exact js_lt10 kvle), ?_⟩
              have u6 : UF rows.length (putK kv4 (.inl ((r1 : Nat) : Int)) (.int ((q2 : Nat) : Int))) (mergeP p4 r1 q2) := u4.put (fun x => rfl) (fun _ => lrb) fun z => by
                obtain ⟨n, r, h⟩ := u4.all z
                obtain ⟨n', h'⟩ := merge_rt ha.root hb.root cr h
                exact ⟨n', _, h'⟩
              have lput := length_putK kv4 (.inl ((r1 : Nat) : Int)) (V.int ((q2 : Nat) : Int))
              have kDp : KeepD ld H11 (upd H11 ld (.dK (putK kv4 (.inl ((r1 : Nat) : Int)) (.int ((q2 : Nat) : Int))))) := fun b o e ne => by rw [upd_ne ne]; exact e
              have kTp := keepT_dK' (K := K) e4 kDp
              have S12 : Same H (upd H11 ld (.dK (putK kv4 (.inl ((r1 : Nat) : Int)) (.int ((q2 : Nat) : Int))))) := fun b o e => kDp b o (S11 b o e) (ne_of_none e hld0)
              have Lt12 := listAt_D Lt11 kDp kTp (Ne.symm nlt)
              have ew12 := kDp _ _ ew11 (Ne.symm nlw)
              have el12 : upd H11 ld (.dK (putK kv4 (.inl ((r1 : Nat) : Int)) (.int ((q2 : Nat) : Int)))) ld = some (.dK (putK kv4 (.inl ((r1 : Nat) : Int)) (.int ((q2 : Nat) : Int)))) := upd_same
              generalize upd H11 ld (.dK (putK kv4 (.inl ((r1 : Nat) : Int)) (.int ((q2 : Nat) : Int)))) = H12 at S12 Lt12 ew12 el12
              clear kDp kTp S11 Lt11 ew11 S9 Lt9 ew9
              obtain ⟨r, hr⟩ : ∃ r, rows[t.1]? = some r := ⟨rows[t.1], List.getElem?_eq_getElem l1⟩
              obtain ⟨sr, hs⟩ : ∃ r, rows[t.2.1]? = some r := ⟨rows[t.2.1], List.getElem?_eq_getElem l2⟩
              have gr := G0 r (List.mem_of_getElem? hr)
              have gs := G0 sr (List.mem_of_getElem? hs)
              rw [List.length_append, List.length_singleton] at hb3 hm wsle
              refine ⟨_, rfl, _, rfl, _, rfl, _, rfl, kt, hp, tr, wl, rows, ts, j, t, ws0, r, sr, rfl, listAt_mono L S12, Lt12, ew12, ntw, nht, nhw, ht, hr, hs, gr, gs, by omega, by omega, fun b more H13 kL Lt13 ew13 AR => ⟨_, rfl, ?_⟩⟩
              have S13 : Same H H13 := fun b o e => kL b o (S12 b o e) (ne_of_none e htr0) (ne_of_none e hwl0)
              have hml := AR.len
              cases b with
              | false =>
                refine iteTb rfl ?_
                have tne : t.1 ≠ t.2.1 := fun e => by
                  rw [e] at ha
                  exact cr (ha.fn hb).2
                have hn : NEq kt rows t.1 t.2.1 := add_no hr hs tne AR
                have ch' : Chain (NEq kt rows) (ts ++ more) := fun i t' ht' => by
                  by_cases c : i < ts.length
                  · rw [List.getElem?_append_left c] at ht'
                    obtain ⟨g1, g2⟩ := A5.ch i t' ht'
                    refine ⟨g1, fun h0 hn => ?_⟩
                    obtain ⟨t2, e2, n2⟩ := g2 h0 hn
                    exact ⟨t2, by rw [List.getElem?_append_left (List.getElem?_eq_some_iff.mp e2).1]; exact e2, n2⟩
                  · rw [List.getElem?_append_right (by omega)] at ht'
                    obtain ⟨g1, _⟩ := AR.mem t' (List.mem_of_getElem? ht')
                    refine ⟨by rw [g1]; omega, fun _ _ => ⟨t, ?_, hn⟩⟩
                    rw [g1]
                    show (ts ++ more)[((j : Nat) : Int).toNat]? = _
                    rw [Int.toNat_natCast, List.getElem?_append_left hj]
                    exact ht
                exact ⟨_, rfl, _, rfl, _, rfl, noK hn H13 (ts ++ more) S13 Lt13 (by rw [List.length_append]; omega) (by rw [List.getElem?_append_left hj]; exact ht) ch'⟩
              | true =>
                refine iteFb rfl ?_
                have A6 := A5.go u5.all s14 ht hr hs ha hb cr gr gs AR
                have el13 := kL _ _ el12 nlt nlw
                refine ⟨nroots (mergeP p4 r1 q2) rows.length * 1001 + (ws0 ++ (List.range more.length).map (ts.length + ·)).length, ?_, _, mergeP p4 r1 q2, ts ++ more, ws0 ++ (List.range more.length).map (ts.length + ·), _, _, _, _, _, rfl, S13, el13, Lt13, ew13, u6, A6, rfl, by omega, ?_, ?_⟩
                · rw [List.length_append, List.length_map, List.length_range, hm]; omega
                · rw [List.length_append]; omega
                · rw [List.length_append, List.length_map, List.length_range]; omega
      | _ => simp [kn] at cb
    | _ => simp [kn] at ca
/-- equal, of things of a heap of rows -/
def spEqual (K : PySem.W.Frag) : Sp := fun vs H Q _ => ∃ (kt : Vl → Str) (hp : Addr) (rows : List Row) (va vb : V) (x y : Vl), vs = [.ref hp, va, vb] ∧ ListAt K H hp (rows.map rowD) ∧ Dt K H va (vlD x) ∧ Dt K H vb (vlD y) ∧ vOk x ∧ vOk y ∧ (∀ k, x = .ref k → k < rows.length) ∧ (∀ k, y = .ref k → k < rows.length) ∧
  (∀ r ∈ rows, GoodR kt rows r) ∧ rows.length ≤ 1000 ∧ ∀ b H', (b = true ↔ EqV kt rows x y) → Same H H' → Q (.bl b) H'
theorem ok_equal {f : Addr} {fd : FuncData} (F : Fun K "equal" "equal" s_equal f fd) (T : Txt K mg) (U_alike : Use P w K mg base CX0 "_alike" 7 P_alike (spAlike K)) : FnG P w K mg base CX0 8 f fd P_equal (spEqual K) := by
  refine okG0 F sc_equal (fun vs H Q E h => ?_) fun cdv A outer s H vs Q E hr hg h => ?_
  · obtain ⟨kt, hp, rows, va, vb, x, y, rfl, _⟩ := h
    rfl
  · obtain ⟨kt, hp, rows, va, vb, x, y, rfl, L, dx, dy, ox, oy, lx, ly, G0, hN, k⟩ := h
    refine ⟨_, (pss_one (ps_ret (pe_use U_alike (hr.mono (by decide)) hg rfl (pa_cons (pv 0) (pa_cons (pv 1) (pa_cons (pv 2) (pa_cons pe_dnewT pa_nil))))))), ?_⟩
    refine ⟨_, rfl, _, rfl, _, rfl, fun ud hud => ?_⟩
    have S := Same.new (o := .dT []) hud
    exact ⟨kt, hp, ud, rows, va, vb, x, y, [], rfl, listAt_mono L S, dx.mono S, dy.mono S, ox, oy, lx, ly, G0, hN, upd_same, (fun x y h => by rw [valV_nil] at h; cases h), Nat.zero_le _, fun b kvs' H' hb kD _ _ _ _ => k b H' hb fun c o e => kD c o (S c o e) (ne_of_none e hud)⟩
end

section
--SPLIT
end
section
/-! two lists, place by place -/
inductive P2 {α β : Type} (R : α → β → Prop) : List α → List β → Prop
  | nil : P2 R [] []
  | cons {a : α} {b : β} {as : List α} {bs : List β} : R a b → P2 R as bs → P2 R (a :: as) (b :: bs)
theorem P2.length {α β : Type} {R : α → β → Prop} : ∀ {as : List α} {bs : List β}, P2 R as bs → as.length = bs.length
  | _, _, .nil => rfl
  | _, _, .cons _ h => by rw [List.length_cons, List.length_cons, h.length]
theorem P2.imp {α β : Type} {R S : α → β → Prop} (f : ∀ a b, R a b → S a b) : ∀ {as : List α} {bs : List β}, P2 R as bs → P2 S as bs
  | _, _, .nil => .nil
  | _, _, .cons h r => .cons (f _ _ h) (P2.imp f r)
theorem P2.app {α β : Type} {R : α → β → Prop} {cs : List α} {ds : List β} (g : P2 R cs ds) : ∀ {as : List α} {bs : List β}, P2 R as bs → P2 R (as ++ cs) (bs ++ ds)
  | _, _, .nil => g
  | _, _, .cons h r => .cons h (P2.app g r)
theorem P2.get {α β : Type} {R : α → β → Prop} : ∀ {as : List α} {bs : List β} {i : Nat} {a : α}, P2 R as bs → as[i]? = some a → ∃ b, bs[i]? = some b ∧ R a b
  | _, _, 0, _, .cons h _, e => by cases e; exact ⟨_, rfl, h⟩
  | _, _, i + 1, _, .cons _ h, e => P2.get (i := i) h e
theorem P2.getB {α β : Type} {R : α → β → Prop} : ∀ {as : List α} {bs : List β} {i : Nat} {b : β}, P2 R as bs → bs[i]? = some b → ∃ a, as[i]? = some a ∧ R a b
  | _, _, 0, _, .cons h _, e => by cases e; exact ⟨_, rfl, h⟩
  | _, _, i + 1, _, .cons _ h, e => P2.getB (i := i) h e
theorem P2.func {α β : Type} {R : α → β → Prop} (f : ∀ a b c, R a b → R a c → b = c) : ∀ {as : List α} {bs cs : List β}, P2 R as bs → P2 R as cs → bs = cs
  | _, _, _, .nil, .nil => rfl
  | _, _, _, .cons h r, .cons h' r' => by rw [f _ _ _ h h', P2.func f r r']
/-! the drawn things: n levels of lists, then ints or texts -/
def TD (s : Bool) : Nat → PyData → Prop
  | 0, .int i => s = false ∧ i.natAbs < 2 ^ 80
  | 0, .str z => s = true ∧ shortS z = true ∧ PyData.canLay0 (.str z) = true
  | n + 1, .list ds => ds.length ≤ 8 ∧ ∀ d ∈ ds, TD s n d
  | _, _ => False
theorem TD.zero {s : Bool} {d : PyData} (h : TD s 0 d) : (∃ i : Int, d = .int i ∧ s = false ∧ i.natAbs < 2 ^ 80) ∨ ∃ z : Str, d = .str z ∧ s = true ∧ shortS z = true ∧ PyData.canLay0 (.str z) = true := by
  cases d with
  | int i => exact .inl ⟨i, rfl, h⟩
  | str z => exact .inr ⟨z, rfl, h⟩
  | _ => exact absurd h (by simp [TD])
theorem TD.succ {s : Bool} {n : Nat} {d : PyData} (h : TD s (n + 1) d) : ∃ ds, d = .list ds ∧ ds.length ≤ 8 ∧ ∀ d ∈ ds, TD s n d := by
  cases d with
  | list ds => exact ⟨ds, rfl, h⟩
  | _ => exact absurd h (by simp [TD])
def tri (p q r : Bool) : Prop := (p = true ∧ q = false ∧ r = false) ∨ (p = false ∧ q = true ∧ r = false) ∨ (p = false ∧ q = false ∧ r = true)
def ltL (lt : PyData → PyData → Bool) : List PyData → List PyData → Bool
  | x :: xs, y :: ys => if PyData.eqv x y = true then ltL lt xs ys else lt x y
  | [], ys => !ys.isEmpty
  | _ :: _, [] => false
def ltT : Nat → PyData → PyData → Bool
  | 0, .int i, .int j => decide (i < j)
  | 0, .str a, .str b => decide (a.cps.toList < b.cps.toList)
  | n + 1, .list xs, .list ys => ltL (ltT n) xs ys
  | _, _, _ => false
theorem eqv_int (a b : Int) : PyData.eqv (.int a) (.int b) = decide (a = b) := by
  simp only [PyData.eqv]
  by_cases h : a = b
  · rw [h, decide_eq_true rfl]; exact beq_self_eq_true b
  · rw [decide_eq_false h]; exact beq_eq_false_iff_ne.mpr h
theorem eqv_str (a b : Str) : PyData.eqv (.str a) (.str b) = decide (a = b) := by
  simp only [PyData.eqv]
  by_cases h : a = b
  · rw [h, decide_eq_true rfl]; exact beq_self_eq_true b
  · rw [decide_eq_false h]; exact beq_eq_false_iff_ne.mpr h
theorem eqvAll_iff : ∀ {xs ys : List PyData}, (∀ x ∈ xs, ∀ y ∈ ys, PyData.eqv x y = true ↔ x = y) → (PyData.eqvAll xs ys = true ↔ xs = ys)
  | [], [], _ => by simp [PyData.eqvAll]
  | [], _ :: _, _ => by simp [PyData.eqvAll]
  | _ :: _, [], _ => by simp [PyData.eqvAll]
  | x :: xs, y :: ys, h => by
    have h1 := h x (List.mem_cons_self) y (List.mem_cons_self)
    have h2 := eqvAll_iff (xs := xs) (ys := ys) fun a ha b hb => h a (List.mem_cons_of_mem _ ha) b (List.mem_cons_of_mem _ hb)
    simp only [PyData.eqvAll, Bool.and_eq_true, h1, h2, List.cons.injEq]
theorem eqv_td {s : Bool} : ∀ {n : Nat} {d e : PyData}, TD s n d → TD s n e → (PyData.eqv d e = true ↔ d = e)
  | 0, d, e, h, g => by
    rcases h.zero with ⟨i, rfl, h1, _⟩ | ⟨i, rfl, h1, _⟩ <;> rcases g.zero with ⟨j, rfl, g1, _⟩ | ⟨j, rfl, g1, _⟩
    · rw [eqv_int]; simp
    · rw [h1] at g1; cases g1
    · rw [h1] at g1; cases g1
    · rw [eqv_str]; simp
  | n + 1, d, e, h, g => by
    obtain ⟨ds, rfl, _, h2⟩ := h.succ
    obtain ⟨es, rfl, _, g2⟩ := g.succ
    rw [show PyData.eqv (.list ds) (.list es) = PyData.eqvAll ds es by simp only [PyData.eqv], eqvAll_iff fun x hx y hy => eqv_td (h2 x hx) (g2 y hy)]
    simp
theorem eqv_sy {s : Bool} {n : Nat} {d e : PyData} (h : TD s n d) (g : TD s n e) : PyData.eqv d e = PyData.eqv e d := Bool.eq_iff_iff.mpr ((eqv_td h g).trans (eq_comm.trans (eqv_td g h).symm))
theorem ltL_tri {s : Bool} {n : Nat} {lt : PyData → PyData → Bool} (ht : ∀ d e, TD s n d → TD s n e → tri (lt d e) (lt e d) (PyData.eqv d e)) : ∀ {xs ys : List PyData}, (∀ x ∈ xs, TD s n x) → (∀ y ∈ ys, TD s n y) → tri (ltL lt xs ys) (ltL lt ys xs) (PyData.eqvAll xs ys)
  | [], [], _, _ => .inr (.inr ⟨rfl, rfl, by simp [PyData.eqvAll]⟩)
  | [], _ :: _, _, _ => .inl ⟨rfl, rfl, by simp [PyData.eqvAll]⟩
  | _ :: _, [], _, _ => .inr (.inl ⟨rfl, rfl, by simp [PyData.eqvAll]⟩)
  | x :: xs, y :: ys, h, g => by
    have hx := h x List.mem_cons_self
    have hy := g y List.mem_cons_self
    have e1 := eqv_sy hx hy
    show tri (if PyData.eqv x y = true then ltL lt xs ys else lt x y) (if PyData.eqv y x = true then ltL lt ys xs else lt y x) _
    rw [← e1]
    simp only [PyData.eqvAll]
    cases c : PyData.eqv x y with
    | true =>
      rw [if_pos rfl, if_pos rfl, Bool.true_and]
      exact ltL_tri ht (fun a ha => h a (List.mem_cons_of_mem _ ha)) fun a ha => g a (List.mem_cons_of_mem _ ha)
    | false =>
      rw [if_neg Bool.false_ne_true, if_neg Bool.false_ne_true, Bool.false_and]
      have := ht x y hx hy
      rw [c] at this
      exact this
theorem tri_cps (a b : Str) : tri (decide (a.cps.toList < b.cps.toList)) (decide (b.cps.toList < a.cps.toList)) (decide (a = b)) := by
  by_cases h1 : a.cps.toList < b.cps.toList
  · refine .inl ⟨decide_eq_true h1, decide_eq_false (List.lt_asymm h1), decide_eq_false fun e => ?_⟩
    rw [e] at h1
    exact List.lt_irrefl _ h1
  · by_cases h2 : b.cps.toList < a.cps.toList
    · refine .inr (.inl ⟨decide_eq_false h1, decide_eq_true h2, decide_eq_false fun e => ?_⟩)
      rw [e] at h2
      exact List.lt_irrefl _ h2
    · refine .inr (.inr ⟨decide_eq_false h1, decide_eq_false h2, decide_eq_true ?_⟩)
      have := List.le_antisymm (List.not_lt.mp h2) (List.not_lt.mp h1)
      cases a; cases b
      exact congrArg _ (Array.toList_inj.mp this)
theorem ltT_tri {s : Bool} : ∀ {n : Nat} {d e : PyData}, TD s n d → TD s n e → tri (ltT n d e) (ltT n e d) (PyData.eqv d e)
  | 0, d, e, h, g => by
    rcases h.zero with ⟨i, rfl, h1, _⟩ | ⟨i, rfl, h1, _⟩ <;> rcases g.zero with ⟨j, rfl, g1, _⟩ | ⟨j, rfl, g1, _⟩
    · rw [eqv_int]
      show tri (decide (i < j)) (decide (j < i)) _
      rcases Int.lt_trichotomy i j with c | c | c
      · exact .inl ⟨decide_eq_true c, decide_eq_false (by omega), decide_eq_false (by omega)⟩
      · exact .inr (.inr ⟨decide_eq_false (by omega), decide_eq_false (by omega), decide_eq_true c⟩)
      · exact .inr (.inl ⟨decide_eq_false (by omega), decide_eq_true c, decide_eq_false (by omega)⟩)
    · rw [h1] at g1; cases g1
    · rw [h1] at g1; cases g1
    · rw [eqv_str]
      exact tri_cps i j
  | n + 1, d, e, h, g => by
    obtain ⟨ds, rfl, _, h2⟩ := h.succ
    obtain ⟨es, rfl, _, g2⟩ := g.succ
    rw [show PyData.eqv (.list ds) (.list es) = PyData.eqvAll ds es by simp only [PyData.eqv]]
    exact ltL_tri (fun d e => ltT_tri) h2 g2
theorem ltL_skip {lt : PyData → PyData → Bool} : ∀ {i : Nat} {xs ys : List PyData}, i ≤ xs.length → i ≤ ys.length → (∀ (j : Nat) (x y : PyData), j < i → xs[j]? = some x → ys[j]? = some y → PyData.eqv x y = true) → ltL lt xs ys = ltL lt (xs.drop i) (ys.drop i)
  | 0, _, _, _, _, _ => rfl
  | i + 1, [], _, h, _, _ => absurd h (by simp)
  | i + 1, _ :: _, [], _, h, _ => absurd h (by simp)
  | i + 1, x :: xs, y :: ys, h, g, e => by
    show (if PyData.eqv x y = true then ltL lt xs ys else lt x y) = _
    rw [if_pos (e 0 x y (by omega) rfl rfl)]
    exact ltL_skip (by simpa using h) (by simpa using g) fun j a b hj ha hb => e (j + 1) a b (by omega) ha hb
theorem ltL_at {lt : PyData → PyData → Bool} {i : Nat} {xs ys : List PyData} {x y : PyData} (hx : xs[i]? = some x) (hy : ys[i]? = some y) (e : ∀ (j : Nat) (x y : PyData), j < i → xs[j]? = some x → ys[j]? = some y → PyData.eqv x y = true) (hne : PyData.eqv x y = false) : ltL lt xs ys = lt x y := by
  obtain ⟨lx, ex⟩ := List.getElem?_eq_some_iff.mp hx
  obtain ⟨ly, ey⟩ := List.getElem?_eq_some_iff.mp hy
  rw [ltL_skip (Nat.le_of_lt lx) (Nat.le_of_lt ly) e, List.drop_eq_getElem_cons lx, List.drop_eq_getElem_cons ly, ex, ey]
  show (if PyData.eqv x y = true then _ else lt x y) = _
  rw [if_neg (by rw [hne]; exact Bool.false_ne_true)]
theorem ltL_end {lt : PyData → PyData → Bool} {xs ys : List PyData} (e : ∀ (j : Nat) (x y : PyData), xs[j]? = some x → ys[j]? = some y → PyData.eqv x y = true) : ltL lt xs ys = decide (xs.length < ys.length) := by
  rw [ltL_skip (i := min xs.length ys.length) (Nat.min_le_left _ _) (Nat.min_le_right _ _) fun j x y _ => e j x y]
  by_cases c : xs.length < ys.length
  · rw [decide_eq_true c, Nat.min_eq_left (by omega), List.drop_length]
    show (!(ys.drop xs.length).isEmpty) = true
    cases h : ys.drop xs.length with
    | nil => exact absurd (List.drop_eq_nil_iff.mp h) (by omega)
    | cons a b => rfl
  · rw [decide_eq_false c, Nat.min_eq_right (by omega), List.drop_length]
    cases xs.drop ys.length <;> rfl
/-! values of a heap that tell a thing -/
def mkR (kd : Bool) (vs : List Vl) : Row := if kd = true then .lst vs else .tup vs
def VT (rows : List Row) (kd : Bool) : Nat → Vl → PyData → Prop
  | 0, x, d => (∃ i, numV x = some i ∧ d = .int i) ∨ ∃ z, x = .text z ∧ d = .str z
  | n + 1, x, d => ∃ k vs ds, x = .ref k ∧ rows[k]? = some (mkR kd vs) ∧ d = .list ds ∧ P2 (VT rows kd n) vs ds
theorem mkR_inj {kd : Bool} {a b : List Vl} (h : mkR kd a = mkR kd b) : a = b := by
  cases kd <;> cases h <;> rfl
theorem VT.func {rows : List Row} {kd : Bool} : ∀ {n : Nat} {x : Vl} {d e : PyData}, VT rows kd n x d → VT rows kd n x e → d = e
  | 0, x, d, e, h, g => by
    rcases h with ⟨i, hi, rfl⟩ | ⟨z, rfl, rfl⟩ <;> rcases g with ⟨j, hj, rfl⟩ | ⟨z', h2, rfl⟩
    · rw [hi] at hj; cases hj; rfl
    · rw [h2] at hi; cases hi
    · cases hj
    · cases h2; rfl
  | n + 1, x, d, e, h, g => by
    obtain ⟨k, vs, ds, rfl, h1, rfl, h2⟩ := h
    obtain ⟨k', vs', es, h3, g1, rfl, g2⟩ := g
    cases h3
    rw [h1] at g1
    cases mkR_inj (Option.some.inj g1)
    rw [P2.func (R := VT rows kd n) (fun a b c h g => VT.func h g) h2 g2]
theorem VT.up {rows : List Row} {kd : Bool} (more : List Row) : ∀ {n : Nat} {x : Vl} {d : PyData}, VT rows kd n x d → VT (rows ++ more) kd n x d
  | 0, _, _, h => h
  | n + 1, _, _, ⟨k, vs, ds, h0, h1, h2, h3⟩ => ⟨k, vs, ds, h0, by rw [List.getElem?_append_left (List.getElem?_eq_some_iff.mp h1).1]; exact h1, h2, P2.imp (fun a b => VT.up more) h3⟩
theorem VT.ref {rows : List Row} {kd : Bool} : ∀ {n : Nat} {x : Vl} {d : PyData}, VT rows kd n x d → ∀ k, x = .ref k → k < rows.length
  | 0, _, _, h, k, e => by
    subst e
    rcases h with ⟨i, hi, _⟩ | ⟨z, hz, _⟩
    · cases hi
    · cases hz
  | n + 1, _, _, ⟨k, vs, ds, h0, h1, h2, h3⟩, k', e => by
    rw [h0] at e
    cases e
    exact (List.getElem?_eq_some_iff.mp h1).1
theorem VT.loop {rows : List Row} {kd : Bool} {i : Nat} {vs : List Vl} (h : rows[i]? = some (mkR kd vs)) (hm : .ref i ∈ vs) : ∀ {n : Nat} {d : PyData}, ¬ VT rows kd n (.ref i) d
  | 0, d, g => by
    rcases g with ⟨i, hi, _⟩ | ⟨z, hz, _⟩
    · cases hi
    · cases hz
  | n + 1, d, g => by
    obtain ⟨k, vs', ds, h0, h1, h2, h3⟩ := g
    cases h0
    rw [h] at h1
    cases mkR_inj (Option.some.inj h1)
    obtain ⟨j, hj⟩ := List.getElem?_of_mem hm
    obtain ⟨b, _, hb⟩ := h3.get hj
    exact VT.loop h hm hb
theorem VT.ok {rows : List Row} {kd s : Bool} : ∀ {n : Nat} {x : Vl} {d : PyData}, VT rows kd n x d → TD s n d → vOk x
  | 0, x, d, h, g => by
    rcases h with ⟨i, hi, rfl⟩ | ⟨z, rfl, rfl⟩
    · cases x <;> first | trivial | cases hi
    · exact g.2.2
  | n + 1, x, d, ⟨k, vs, ds, h0, h1, h2, h3⟩, g => by subst h0; trivial
theorem pairs_mkR (kt : Vl → Str) (kd : Bool) (a b : List Vl) : pairsOf kt (mkR kd a) (mkR kd b) = if a.length = b.length then some (a.zip b) else none := by cases kd <;> rfl
theorem eqN_parts {kt : Vl → Str} {rows : List Row} {a b : Nat} {r t : Row} (hr : rows[a]? = some r) (hs : rows[b]? = some t) (h : PartsR kt (EqA kt rows) r t) : EqA kt rows a b := fun n => by
  cases n with
  | zero => trivial
  | succ n => exact .inr ⟨r, t, hr, hs, h.mono fun a b h => h n⟩
theorem eq_vt {kt : Vl → Str} {rows : List Row} {kd s : Bool} : ∀ {n : Nat} {x y : Vl} {d e : PyData}, VT rows kd n x d → VT rows kd n y e → TD s n d → TD s n e → (EqV kt rows x y ↔ d = e)
  | 0, x, y, d, e, h, g, td, te => by
    have nr : ∀ {x d}, VT rows kd 0 x d → ∀ k, x ≠ .ref k := fun {x d} h k e => by
      subst e
      rcases h with ⟨i, hi, _⟩ | ⟨z, hz, _⟩
      · cases hi
      · cases hz
    have hb : bothR (x, y) = false := by
      cases hb : bothR (x, y) with
      | false => rfl
      | true => obtain ⟨a, b, rfl, _⟩ := both_ref hb; exact absurd rfl (nr h a)
    unfold EqV
    rw [VR.leaf hb, sl_can, decide_eq_true_iff]
    rcases h with ⟨i, hi, rfl⟩ | ⟨z, rfl, rfl⟩ <;> rcases g with ⟨j, hj, rfl⟩ | ⟨z', rfl, rfl⟩
    · rw [can_num hi, can_num hj]; simp
    · rw [td.1] at te; cases te.1
    · have h1 := td.1; have h2 := te.1; rw [h1] at h2; cases h2
    · simp [can]
  | n + 1, x, y, d, e, h, g, td, te => by
    obtain ⟨a, vs, ds, rfl, h1, rfl, h2⟩ := h
    obtain ⟨b, ws, es, rfl, g1, rfl, g2⟩ := g
    unfold EqV
    rw [VR.of_ref]
    constructor
    · intro he
      by_cases c : a = b
      · subst c
        rw [h1] at g1
        cases mkR_inj (Option.some.inj g1)
        rw [P2.func (R := VT rows kd n) (fun a b c h g => VT.func h g) h2 g2]
      · obtain ⟨r, t, hr, ht, hp⟩ := he.parts c
        rw [h1] at hr
        rw [g1] at ht
        cases hr
        cases ht
        unfold PartsR at hp
        rw [pairs_mkR] at hp
        obtain ⟨hl, hall⟩ := zip_iff.mp hp
        have : ds = es := List.ext_getElem? fun i => by
          cases hi : ds[i]? with
          | none =>
            have := List.getElem?_eq_none_iff.mp hi
            have l1 := h2.length
            have l2 := g2.length
            exact (List.getElem?_eq_none_iff.mpr (by omega)).symm
          | some d' =>
            obtain ⟨x', hx', vx⟩ := h2.getB hi
            have l1 := h2.length
            have l2 := g2.length
            obtain ⟨li, _⟩ := List.getElem?_eq_some_iff.mp hi
            have he : es[i]? = some es[i] := List.getElem?_eq_getElem (by omega)
            obtain ⟨y', hy', vy⟩ := g2.getB he
            have := (eq_vt (kt := kt) vx vy (td.2 _ (List.mem_of_getElem? hi)) (te.2 _ (List.mem_of_getElem? he))).mp (hall i x' y' hx' hy')
            rw [he, this]
        rw [this]
    · intro e
      cases e
      by_cases c : a = b
      · rw [c]; exact EqA.rf b
      · refine eqN_parts h1 g1 ?_
        unfold PartsR
        rw [pairs_mkR]
        refine zip_iff.mpr ⟨h2.length.trans g2.length.symm, fun i x' y' hx hy => ?_⟩
        obtain ⟨d1, hd1, v1⟩ := h2.get hx
        obtain ⟨d2, hd2, v2⟩ := g2.get hy
        rw [hd1] at hd2
        cases hd2
        exact (eq_vt v1 v2 (td.2 _ (List.mem_of_getElem? hd1)) (te.2 _ (List.mem_of_getElem? hd1))).mpr rfl
end

section
--SPLIT
end
abbrev s_row_of : Stmt := top 9
abbrev N_row_of : List Str := ["heap", "value"]
abbrev P_row_of : List Str := ["heap", "value"]
theorem sc_row_of : FnScope N_row_of P_row_of (defScope s_row_of) := ⟨rfl, rfl, rfl, by decide +kernel, rfl, by decide +kernel, by decide +kernel⟩
abbrev s_answer : Stmt := top 20
abbrev N_answer : List Str := ["holds"]
abbrev P_answer : List Str := ["holds"]
theorem sc_answer : FnScope N_answer P_answer (defScope s_answer) := ⟨rfl, rfl, rfl, by decide +kernel, rfl, by decide +kernel, by decide +kernel⟩
abbrev s_holds : Stmt := top 31
abbrev N_holds : List Str := ["op", "one", "other"]
abbrev P_holds : List Str := ["op", "one", "other"]
theorem sc_holds : FnScope N_holds P_holds (defScope s_holds) := ⟨rfl, rfl, rfl, by decide +kernel, rfl, by decide +kernel, by decide +kernel⟩
abbrev s_both_rows : Stmt := top 29
abbrev N_both_rows : List Str := ["heap", "a", "b", "kind"]
abbrev P_both_rows : List Str := ["heap", "a", "b"]
theorem sc_both_rows : FnScope N_both_rows P_both_rows (defScope s_both_rows) := ⟨rfl, rfl, rfl, by decide +kernel, rfl, by decide +kernel, by decide +kernel⟩
abbrev s_first_difference : Stmt := top 30
abbrev N_first_difference : List Str := ["heap", "one", "other", "unequal", "at", "a", "b"]
abbrev P_first_difference : List Str := ["heap", "one", "other", "unequal"]
theorem sc_first_difference : FnScope N_first_difference P_first_difference (defScope s_first_difference) := ⟨rfl, rfl, rfl, by decide +kernel, rfl, by decide +kernel, by decide +kernel⟩
abbrev s_order : Stmt := top 28
abbrev N_order : List Str := ["heap", "op", "a", "b", "met", "unequal", "one", "other", "place"]
abbrev P_order : List Str := ["heap", "op", "a", "b"]
theorem sc_order : FnScope N_order P_order (defScope s_order) := ⟨rfl, rfl, rfl, by decide +kernel, rfl, by decide +kernel, by decide +kernel⟩
abbrev s_compare : Stmt := top 18
abbrev N_compare : List Str := ["heap", "op", "a", "b"]
abbrev P_compare : List Str := ["heap", "op", "a", "b"]
theorem sc_compare : FnScope N_compare P_compare (defScope s_compare) := ⟨rfl, rfl, rfl, by decide +kernel, rfl, by decide +kernel, by decide +kernel⟩
section
variable {P : Program} {w : World} {K : PySem.W.Frag} {mg : Str → Option Value} {base : Heap}
/-! a row of the heap -/
theorem row_rd {H : Hp} {hp : Addr} {rows : List Row} {j : Nat} {r : Row} {va : V} (L : ListAt K H hp (rows.map rowD)) (e : rows[j]? = some r) (hr : ∀ z q, r ≠ .oth z q) (a : Dt K H va (vlD (.ref j))) :
    ∃ q zs y q2 x2, va = .ref q ∧ SqT K H q [.str "ref", .int ((j : Nat) : Int)] ∧ H hp = some (.lst zs) ∧ atI zs ((j : Nat) : Int) = some y ∧ y = .ref q2 ∧ SqT K H q2 [.str (rkd r), x2] ∧ Dt K H x2 (.tuple (rparts r)) := by
  obtain ⟨q, ws, rfl, hq, da⟩ := dvl a
  obtain ⟨v1, w1, rfl, dv1, dw⟩ := da.cons_inv
  have := dw.nil_inv
  subst this
  cases dv1.int_inv
  obtain ⟨zs, ez, az⟩ := L
  obtain ⟨y, hy, dy⟩ := az.get (i := j) (d := rowD r) (by rw [List.getElem?_map, e]; rfl)
  rw [rowD_two hr] at dy
  obtain ⟨q2, x1, x2, rfl, hq2, d1, d2⟩ := dt_pr dy
  cases dt_str d1
  exact ⟨q, zs, _, q2, x2, rfl, hq, ez, atI_nat hy, rfl, hq2, d2⟩
def spRowOf (K : PySem.W.Frag) : Sp := fun vs H Q _ => ∃ (hp : Addr) (rows : List Row) (j : Nat) (r : Row) (va : V), vs = [.ref hp, va] ∧ ListAt K H hp (rows.map rowD) ∧ rows[j]? = some r ∧ (∀ z q, r ≠ .oth z q) ∧ Dt K H va (vlD (.ref j)) ∧ ∀ v, Dt K H v (.tuple (rparts r)) → Q v H
theorem ok_rowof {f : Addr} {fd : FuncData} (F : Fun K "row_of" "row_of" s_row_of f fd) (T : Txt K mg) : FnG P w K mg base CX0 1 f fd P_row_of (spRowOf K) := by
  refine okG0 F sc_row_of (fun vs H Q E h => ?_) fun cdv A outer s H vs Q E hr hg h => ?_
  · obtain ⟨hp, rows, j, r, va, rfl, _⟩ := h
    rfl
  · obtain ⟨hp, rows, j, r, va, rfl, L, e, ho, a, k⟩ := h
    refine ⟨_, (pss_cons (ps_if (pt_cmpR op_eq (pe_ix ix_tup (pv 1) pe_int (fun _ _ => rfl)) pe_str (nomark _))
   pss_never
   pss_nil)
  (pss_one (ps_ret (pe_ix ix_tup (pe_ix ix_list (pv 0) (pe_ix ix_tup (pv 1) pe_int (fun _ _ => rfl)) (fun _ _ => rfl)) pe_int (fun _ _ => rfl))))), ?_⟩
    obtain ⟨q, zs, y, q2, x2, rfl, hq, ez, hy, rfl, hq2, d2⟩ := row_rd L e ho a
    refine ⟨_, rfl, q, _, _, _, rfl, rfl, hq, at0, rfl, _, rfl, iteFb (by decide +kernel) ?_⟩
    exact ⟨_, rfl, _, rfl, q, _, _, _, rfl, rfl, hq, at1, hp, _, _, _, rfl, rfl, SqL.of ez, hy, q2, _, _, _, rfl, rfl, hq2, at1, k _ d2⟩
def ansD (b : Bool) : PyData := .tuple [.str "ok", .tuple [.str "bool", .bool b]]
def spAnswer (K : PySem.W.Frag) : Sp := fun vs H Q _ => ∃ b : Bool, vs = [.bl b] ∧ ∀ v H', Same H H' → Dt K H' v (ansD b) → Q v H'
theorem ok_answer {f : Addr} {fd : FuncData} (F : Fun K "_answer" "_answer" s_answer f fd) (T : Txt K mg) : FnG P w K mg base CX0 1 f fd P_answer (spAnswer K) := by
  refine okG0 F sc_answer (fun vs H Q E h => ?_) fun cdv A outer s H vs Q E hr hg h => ?_
  · obtain ⟨b, rfl, _⟩ := h
    rfl
  · obtain ⟨b, rfl, k⟩ := h
    refine ⟨_, (pss_one (ps_ret (pe_tup (pa_cons pe_str (pa_cons (pe_tup (pa_cons pe_str (pa_cons (pv 0) pa_nil))) pa_nil))))), ?_⟩
    exact ⟨_, rfl, sz_2, fun u hu => ⟨sz_2, fun t ht => k _ _ ((Same.new hu).trans (Same.new ht)) (Dt.made ht (.cons (.str _) (.cons (Dt.made hu (.cons (.str _) (.cons (.bl _) .nil))) .nil)))⟩⟩
theorem show_ans (b : Bool) : ShowOk (ansD b) := (Sm.tup (.cons (Sm.short (n := "ok") (by decide +kernel)) (.cons (Sm.tup (.cons (Sm.short (n := "bool") (by decide +kernel)) (.cons (Sm.bool b) .nil))) .nil))).show (by decide) (by decide)
/-! a sign -/
def ansO (op : Str) (p q : Bool) : Bool := if op = "<" then p else if op = "<=" then !q else if op = ">" then q else !p
def spHolds : Sp := fun vs H Q _ => ∃ (op : Str) (x y : V) (p q : Bool), vs = [.str op, x, y] ∧ OrdX x y p q ∧ Q (.bl (ansO op p q)) H
theorem ok_holds {f : Addr} {fd : FuncData} (F : Fun K "_holds" "_holds" s_holds f fd) (T : Txt K mg) : FnG P w K mg base CX0 1 f fd P_holds spHolds := by
  refine okG0 F sc_holds (fun vs H Q E h => ?_) fun cdv A outer s H vs Q E hr hg h => ?_
  · obtain ⟨op, x, y, p, q, rfl, _⟩ := h
    rfl
  · obtain ⟨op, x, y, p, q, rfl, ho, k⟩ := h
    refine ⟨_, (pss_cons (ps_if (pt_cmpR op_eq (pv 0) pe_str (nomark _))
   (pss_one (ps_ret (pe_cmpR op_ltX (pv 1) (pv 2) (nomark _))))
   pss_nil)
  (pss_cons (ps_if (pt_cmpR op_eq (pv 0) pe_str (nomark _))
   (pss_one (ps_ret (pe_cmpR op_leX (pv 1) (pv 2) (nomark _))))
   pss_nil)
  (pss_cons (ps_if (pt_cmpR op_eq (pv 0) pe_str (nomark _))
   (pss_one (ps_ret (pe_cmpR op_gtX (pv 1) (pv 2) (nomark _))))
   pss_nil)
  (pss_one (ps_ret (pe_cmpR op_geX (pv 1) (pv 2) (nomark _))))))), ?_⟩
    refine ⟨_, rfl, rfl, _, rfl, ?_⟩
    unfold ansO at k
    by_cases c1 : op = "<"
    · refine iteTb (decide_eq_true (by rw [c1])) ?_
      rw [if_pos c1] at k
      exact ⟨_, rfl, _, rfl, _, _, ho, k⟩
    refine iteFb (dec_str c1) ?_
    rw [if_neg c1] at k
    refine ⟨_, rfl, rfl, _, rfl, ?_⟩
    by_cases c2 : op = "<="
    · refine iteTb (decide_eq_true (by rw [c2])) ?_
      rw [if_pos c2] at k
      exact ⟨_, rfl, _, rfl, _, _, ho, k⟩
    refine iteFb (dec_str c2) ?_
    rw [if_neg c2] at k
    refine ⟨_, rfl, rfl, _, rfl, ?_⟩
    by_cases c3 : op = ">"
    · refine iteTb (decide_eq_true (by rw [c3])) ?_
      rw [if_pos c3] at k
      exact ⟨_, rfl, _, rfl, _, _, ho, k⟩
    refine iteFb (dec_str c3) ?_
    rw [if_neg c3] at k
    exact ⟨_, rfl, _, rfl, _, _, ho, k⟩
/-! rows -/
def spBoth (K : PySem.W.Frag) : Sp := fun vs H Q _ => ∃ (hp : Addr) (hds : List PyData) (v v2 : V) (x y : PyData) (kx ky : Str), vs = [.ref hp, v, v2] ∧ ListAt K H hp hds ∧ Dt K H v x ∧ Dt K H v2 y ∧ KindIs hds x kx ∧ KindIs hds y ky ∧ ∀ H', Same H H' → Q (.bl (decide (kx ∈ (["tuple", "list"] : List Str) ∧ ky = kx))) H'
theorem ok_both {f : Addr} {fd : FuncData} (F : Fun K "_both_rows" "_both_rows" s_both_rows f fd) (T : Txt K mg) (U_object_kind : Use P w K mg base CX0 "object_kind" 1 P_object_kind (spKind K)) : FnG P w K mg base CX0 2 f fd P_both_rows (spBoth K) := by
  refine okG0 F sc_both_rows (fun vs H Q E h => ?_) fun cdv A outer s H vs Q E hr hg h => ?_
  · obtain ⟨hp, hds, v, v2, x, y, kx, ky, rfl, _⟩ := h
    rfl
  · obtain ⟨hp, hds, v, v2, x, y, kx, ky, rfl, L, dv, dv2, hx, hy, k⟩ := h
    refine ⟨_, (pss_cons (ps_set (i := 3) sc_both_rows.nd rfl (Or.inl rfl) (pe_use U_object_kind (hr.mono (by decide)) hg rfl (pa_cons (pv 0) (pa_cons (pv 1) pa_nil))))
  (pss_one (ps_ret (pe_and (pe_cmpR op_in_seq (pv 3) (pe_tup (pa_cons pe_str (pa_cons pe_str pa_nil))) (by rfl)) (pe_one (pe_cmpR op_eq (pe_use U_object_kind (hr.mono (by decide)) hg rfl (pa_cons (pv 0) (pa_cons (pv 2) pa_nil))) (pv 3) (nomark _))))))), ?_⟩
    refine ⟨_, rfl, _, rfl, hp, hds, _, _, kx, rfl, L, dv, hx, _, rfl, sz_2, fun u hu => ⟨u, _, rfl, .inr (SqT.of upd_same), rfl, rfl, _, rfl, ?_⟩⟩
    rw [if_neg Bool.false_ne_true, show [V.str "tuple", V.str "list"] = (["tuple", "list"] : List Str).map V.str from rfl, inV_strs]
    have S1 := Same.new (o := .tup [V.str "tuple", V.str "list"]) hu
    by_cases c : kx ∈ (["tuple", "list"] : List Str)
    · refine iteTb (decide_eq_true c) ?_
      refine ⟨_, rfl, _, rfl, hp, hds, _, _, ky, rfl, listAt_mono L S1, dv2.mono S1, hy, _, rfl, rfl, ?_⟩
      have e : decide (V.str ky = V.str kx) = decide (kx ∈ (["tuple", "list"] : List Str) ∧ ky = kx) := decide_eq_decide.mpr ⟨fun h => ⟨c, V.str.inj h⟩, fun h => by rw [h.2]⟩
      rw [e]
      exact k _ S1
    · have e : decide (kx ∈ (["tuple", "list"] : List Str) ∧ ky = kx) = false := decide_eq_false fun h => c h.1
      rw [e] at k
      rw [decide_eq_false c]
      exact iteFb rfl (k _ S1)
/-! the first items that differ -/
def FdIs (kt : Vl → Str) (rows : List Row) (xs ys : List Vl) (at' : Int) : Prop :=
  (at' = -1 ∧ ∀ (j : Nat) (x y : Vl), xs[j]? = some x → ys[j]? = some y → EqV kt rows x y) ∨
  ∃ (i : Nat) (x y : Vl), at' = ((i : Nat) : Int) ∧ xs[i]? = some x ∧ ys[i]? = some y ∧ ¬ EqV kt rows x y ∧ ∀ (j : Nat) (x y : Vl), j < i → xs[j]? = some x → ys[j]? = some y → EqV kt rows x y
def spFirst (K : PySem.W.Frag) : Sp := fun vs H Q _ => ∃ (kt : Vl → Str) (hp ud : Addr) (rows : List Row) (va vb : V) (xs ys : List Vl) (kvs : List (List Key × V)), vs = [.ref hp, va, vb, .ref ud] ∧ ListAt K H hp (rows.map rowD) ∧ Dt K H va (.tuple (xs.map vlD)) ∧ Dt K H vb (.tuple (ys.map vlD)) ∧
  (∀ x ∈ xs, vOk x ∧ ∀ k, x = .ref k → k < rows.length) ∧ (∀ x ∈ ys, vOk x ∧ ∀ k, x = .ref k → k < rows.length) ∧
  (∀ r ∈ rows, GoodR kt rows r) ∧ rows.length ≤ 1000 ∧ H ud = some (.dT kvs) ∧ Noted (NEq kt rows) kvs ∧ kvs.length ≤ 2000000 ∧
  ∀ at' kvs' H', FdIs kt rows xs ys at' → KeepD ud H H' → H' ud = some (.dT kvs') → Noted (NEq kt rows) kvs' → kvs'.length ≤ kvs.length + 1002000 → Q (.int at') H'
theorem ok_first {f : Addr} {fd : FuncData} (F : Fun K "_first_difference" "_first_difference" s_first_difference f fd) (T : Txt K mg) (U_alike : Use P w K mg base CX0 "_alike" 7 P_alike (spAlike K)) : FnG P w K mg base CX0 8 f fd P_first_difference (spFirst K) := by
  refine okG0 F sc_first_difference (fun vs H Q E h => ?_) fun cdv A outer s H vs Q E hr hg h => ?_
  · obtain ⟨kt, hp, ud, rows, va, vb, xs, ys, kvs, rfl, _⟩ := h
    rfl
  · obtain ⟨kt, hp, ud, rows, va, vb, xs, ys, kvs, rfl, L, da, db, ox, oy, G0, hN, eud, hnt, hkl, k⟩ := h
    refine ⟨_, (pss_cons (ps_for PassesOwn.never rfl (pi_enumZT (by rfl) T.b_enumerate (by rfl) T.b_zip (pa_cons (pv 1) (pa_cons (pv 2) pa_nil))) (pg_tup (by rfl) (pgs_cons (pg_name (i := 4) sc_first_difference.nd rfl (Or.inl rfl)) (pgs_cons (pg_tup (by rfl) (pgs_cons (pg_name (i := 5) sc_first_difference.nd rfl (Or.inl rfl)) (pgs_cons (pg_name (i := 6) sc_first_difference.nd rfl (Or.inl rfl)) pgs_nil))) pgs_nil)))
   (pss_one (ps_if (pt_not (pt_val (pe_use U_alike (hr.mono (by decide)) hg rfl (pa_cons (pv 0) (pa_cons (pv 5) (pa_cons (pv 6) (pa_cons (pv 3) pa_nil)))))))
   (pss_one (ps_ret (pv 4)))
   pss_nil)))
  (pss_one (ps_ret (pe_un un_neg pe_int)))), ?_⟩
    obtain ⟨pa, as, rfl, ha, aa⟩ := da.tuple_inv
    obtain ⟨pb, bs, rfl, hb, ab⟩ := db.tuple_inv
    have la := aa.length
    have lb := ab.length
    rw [List.length_map] at la lb
    have tS : ∀ {H' : Hp}, KeepD ud H H' → SqT K H' pa as ∧ SqT K H' pb bs := fun kD => let kT := keepT_dT eud kD; ⟨kT _ _ ha, kT _ _ hb⟩
    have nlt : hp ≠ ud := fun e => by
      obtain ⟨zs, ez, _⟩ := L
      rw [e, eud] at ez
      cases ez
    refine ⟨_, rfl, _, rfl, _, _, as, bs, rfl, ha, hb, ?_⟩
    refine for_it (walk_enumZT rfl) (fun i σ H1 => ∃ x4 x5 x6, σ = [some (.ref hp), some (.ref pa), some (.ref pb), some (.ref ud), x4, x5, x6] ∧ KeepD ud H H1 ∧ H1 ud = some (.dT kvs) ∧ ∀ (j : Nat) (x y : Vl), j < i → xs[j]? = some x → ys[j]? = some y → EqV kt rows x y) ⟨none, none, none, rfl, (fun b o e _ => e), eud, fun j x y h => absurd h (Nat.not_lt_zero j)⟩ (fun _ _ _ _ ⟨_, _, _, _, kD, _⟩ => tS kD) ?_ ?_
    · rintro i v σ H2 H3 hi ⟨x4, x5, x6, rfl, kD, e2, hall⟩ ⟨T, U, x, y, rfl, hT, hU, hTU, rfl, hx, hy⟩
      have S3 : Same H2 (upd (upd H2 T (.tup [x, y])) U (.tup [.int (i : Nat), .ref T])) := (Same.new hT).trans (Same.new (by rw [upd_ne hTU.symm]; exact hU))
      have eU := upd_same (H := upd H2 T (.tup [x, y])) (a := U) (o := HO.tup [.int (i : Nat), .ref T])
      have eT : upd (upd H2 T (.tup [x, y])) U (.tup [.int (i : Nat), .ref T]) T = some (.tup [x, y]) := by rw [upd_ne hTU]; exact upd_same
      generalize upd (upd H2 T (.tup [x, y])) U (.tup [.int (i : Nat), .ref T]) = H3 at S3 eU eT ⊢
      have kD3 : KeepD ud H H3 := fun b o e ne => S3 _ _ (kD b o e ne)
      have kT3 := keepT_dT (K := K) eud kD3
      obtain ⟨d1, hd1, dx⟩ := aa.getV hx
      obtain ⟨d2, hd2, dy⟩ := ab.getV hy
      rw [List.getElem?_map] at hd1 hd2
      obtain ⟨vx, hvx, rfl⟩ := Option.map_eq_some_iff.mp hd1
      obtain ⟨vy, hvy, rfl⟩ := Option.map_eq_some_iff.mp hd2
      have mx := ox vx (List.mem_of_getElem? hvx)
      have my := oy vy (List.mem_of_getElem? hvy)
      refine ⟨U, _, rfl, SqT.of eU, rfl, _, _, rfl, _, _, rfl, T, _, rfl, SqT.of eT, rfl, _, _, rfl, _, _, rfl, rfl, rfl, ?_⟩
      refine ⟨_, rfl, _, rfl, _, rfl, _, rfl, kt, hp, ud, rows, x, y, vx, vy, kvs, rfl, listAt_D L kD3 kT3 nlt, dx.keepT kT3, dy.keepT kT3, mx.1, my.1, mx.2, my.2, G0, hN, S3 _ _ e2, hnt, hkl, fun b kvs' H4 hb kD4 e4 hnt4 hl4 hsame => ?_⟩
      have kD34 : KeepD ud H H4 := fun b o e ne => kD4 b o (kD3 b o e ne) ne
      refine ⟨_, rfl, ?_⟩
      cases b with
      | true =>
        refine iteFb rfl ?_
        cases hsame rfl
        refine ⟨_, _, _, rfl, kD34, e4, fun j x' y' hj hx' hy' => ?_⟩
        by_cases c : j < i
        · exact hall j x' y' c hx' hy'
        · obtain rfl : j = i := by omega
          rw [hvx] at hx'
          rw [hvy] at hy'
          cases hx'
          cases hy'
          exact hb.mp rfl
      | false =>
        refine iteTb rfl ?_
        exact ⟨_, rfl, k _ kvs' H4 (.inr ⟨i, vx, vy, rfl, hvx, hvy, fun h => (by cases hb.mpr h), hall⟩) kD34 e4 hnt4 hl4⟩
    · rintro σ H2 ⟨x4, x5, x6, rfl, kD, e2, hall⟩
      refine ⟨_, rfl, k _ kvs H2 (.inl ⟨rfl, fun j x y hx hy => ?_⟩) kD e2 hnt (by omega)⟩
      have l1 := (List.getElem?_eq_some_iff.mp hx).1
      have l2 := (List.getElem?_eq_some_iff.mp hy).1
      exact hall j x y (by omega) hx hy
/-! the order -/
theorem numD {H : Hp} {v : V} {x : Vl} {i : Int} (h : Dt K H v (vlD x)) (hi : numV x = some i) : ∃ q u, v = .ref q ∧ SqT K H q [.str (knd x), u] ∧ NumI u i := by
  cases x with
  | bool b =>
    obtain ⟨q, u, rfl, hq, d⟩ := h.pair
    cases d.bool_inv
    cases hi
    exact ⟨q, _, rfl, hq, .inr ⟨b, rfl, rfl⟩⟩
  | int j =>
    obtain ⟨q, u, rfl, hq, d⟩ := h.pair
    cases d.int_inv
    cases hi
    exact ⟨q, _, rfl, hq, .inl rfl⟩
  | _ => cases hi
theorem kindV {rows : List Row} {x : Vl} (h : ∀ k, x = .ref k → ∃ r, rows[k]? = some r) : ∃ kd, KindIs (rows.map rowD) (vlD x) kd ∧ ((∀ k, x ≠ .ref k) → kd = "") ∧ ∀ k r, x = .ref k → rows[k]? = some r → kd = rkd r := by
  cases x with
  | ref k =>
    obtain ⟨r, hr⟩ := h k rfl
    obtain ⟨rest, e⟩ := rowD_hd r
    exact ⟨rkd r, .obj (rest := rest) (by rw [List.getElem?_map, hr, ← e]; rfl), fun h => absurd rfl (h k), fun k' r' e' hr' => by cases e'; rw [hr] at hr'; cases hr'; rfl⟩
  | _ => exact ⟨"", .plain (by decide +kernel), fun _ => rfl, fun k r e => by cases e⟩
def spOrder (K : PySem.W.Frag) : Sp := fun vs H Q _ => ∃ (kt : Vl → Str) (hp : Addr) (rows : List Row) (kd s : Bool) (n : Nat) (op : Str) (va vb : V) (x y : Vl) (d e : PyData), vs = [.ref hp, .str op, va, vb] ∧ ListAt K H hp (rows.map rowD) ∧ Dt K H va (vlD x) ∧ Dt K H vb (vlD y) ∧
  VT rows kd n x d ∧ VT rows kd n y e ∧ TD s n d ∧ TD s n e ∧ n ≤ 2 ∧ (∀ r ∈ rows, GoodR kt rows r) ∧ rows.length ≤ 1000 ∧ ∀ u H', Same H H' → Dt K H' u (ansD (ansO op (ltT n d e) (ltT n e d))) → Q u H'
theorem ok_order {f : Addr} {fd : FuncData} (F : Fun K "_order" "_order" s_order f fd) (T : Txt K mg) (U_is_number : Use P w K mg base CX0 "is_number" 1 P_is_number (spIsNumV K)) (U_both_rows : Use P w K mg base CX0 "_both_rows" 2 P_both_rows (spBoth K)) (U_row_of : Use P w K mg base CX0 "row_of" 1 P_row_of (spRowOf K)) (U_first_difference : Use P w K mg base CX0 "_first_difference" 8 P_first_difference (spFirst K)) (U_answer : Use P w K mg base CX0 "_answer" 1 P_answer (spAnswer K)) (U_holds : Use P w K mg base CX0 "_holds" 1 P_holds spHolds) : FnG P w K mg base CX0 9 f fd P_order (spOrder K) := by
  refine okG0 F sc_order (fun vs H Q E h => ?_) fun cdv A outer s H vs Q E hr hg h => ?_
  · obtain ⟨kt, hp, rows, kd, sx, n, op, va, vb, x, y, d, e, rfl, _⟩ := h
    rfl
  · obtain ⟨kt, hp, rows, kd, sx, n, op, va, vb, x, y, d, e, rfl, L, dx, dy, vx, vy, tx, ty, hn, G0, hN, k⟩ := h
    have hu : (A.deeper (envOfC "_order" (defScope s_order) s.heap.objs.size f cdv)).units + 1 < cLine := Nat.lt_of_le_of_lt (by omega) hr.units
    refine ⟨_, (pss_cons (ps_set (i := 4) sc_order.nd rfl (Or.inl rfl) (pe_callTy0 cr_set0M (by rfl) T.b_set (by decide +kernel)))
  (pss_cons (ps_set (i := 5) sc_order.nd rfl (Or.inl rfl) pe_dnewT)
  (C8.pss_cut (ps_while PassesOwn.never (pt_up (PW.pt (pw_and (pt_val (pe_use U_both_rows (hr.mono (by decide)) hg rfl (pa_cons (pv 0) (pa_cons (pv 2) (pa_cons (pv 3) pa_nil))))) (pw_and1 (pt_cmpR (op_notM hr.units) (pe_tup (pa_cons (pv 2) (pa_cons (pv 3) pa_nil))) (pv 4) (by rfl))))))
   (pss_cons (ps_expr (pe_bmM PySem.F.slot_set_add PySem.F.type_set_add (mt_addM hr.units) (pv 4) (pa_cons (pe_tup (pa_cons (pv 2) (pa_cons (pv 3) pa_nil))) pa_nil)))
  (pss_cons (ps_set (i := 6) sc_order.nd rfl (Or.inl rfl) (pe_use U_row_of (hr.mono (by decide)) hg rfl (pa_cons (pv 0) (pa_cons (pv 2) pa_nil))))
  (pss_cons (ps_set (i := 7) sc_order.nd rfl (Or.inl rfl) (pe_use U_row_of (hr.mono (by decide)) hg rfl (pa_cons (pv 0) (pa_cons (pv 3) pa_nil))))
  (pss_cons (ps_set (i := 8) sc_order.nd rfl (Or.inl rfl) (pe_use U_first_difference (hr.mono (by decide)) hg rfl (pa_cons (pv 0) (pa_cons (pv 6) (pa_cons (pv 7) (pa_cons (pv 5) pa_nil))))))
  (pss_cons (ps_if (pt_cmpR op_lt (pv 8) pe_int (nomark _))
   (pss_one (ps_ret (pe_use U_answer (hr.mono (by decide)) hg rfl (pa_cons (pe_use U_holds (hr.mono (by decide)) hg rfl (pa_cons (pv 1) (pa_cons (pe_callB call_len (by rfl) T.b_len PySem.boot_len (pa_cons (pv 6) pa_nil)) (pa_cons (pe_callB call_len (by rfl) T.b_len PySem.boot_len (pa_cons (pv 7) pa_nil)) pa_nil)))) pa_nil))))
   pss_nil)
  (pss_cons (ps_set (i := 2) sc_order.nd rfl (Or.inl rfl) (pe_ix ix_tup (pv 6) (pv 8) (fun _ _ => rfl)))
  (pss_one (ps_set (i := 3) sc_order.nd rfl (Or.inl rfl) (pe_ix ix_tup (pv 7) (pv 8) (fun _ _ => rfl)))))))))))
  (C8.pss_cut (ps_if (PW.pt (pw_or (PW.pt (pw_and (pt_val (pe_use U_is_number (hr.mono (by decide)) hg rfl (pa_cons (pv 2) pa_nil))) (pw_and1 (pt_val (pe_use U_is_number (hr.mono (by decide)) hg rfl (pa_cons (pv 3) pa_nil)))))) (pw_or1 (PW.pt (pw_and (pt_cmpR op_eq (pe_ix ix_tup (pv 2) pe_int (fun _ _ => rfl)) pe_str (nomark _)) (pw_and1 (pt_cmpR op_eq (pe_ix ix_tup (pv 3) pe_int (fun _ _ => rfl)) pe_str (nomark _))))))))
   (pss_one (ps_ret (pe_use U_answer (hr.mono (by decide)) hg rfl (pa_cons (pe_use U_holds (hr.mono (by decide)) hg rfl (pa_cons (pv 1) (pa_cons (pe_ix ix_tup (pv 2) pe_int (fun _ _ => rfl)) (pa_cons (pe_ix ix_tup (pv 3) pe_int (fun _ _ => rfl)) pa_nil)))) pa_nil))))
   pss_nil)
  pss_never)))), ?_⟩
    refine ⟨rfl, fun p hp0 => fun p2 hp2 => ?_⟩
    have hne : p2 ≠ p := fun h => by rw [h, upd_same] at hp2; cases hp2
    have S0 : Same H (upd (upd H p (MetO p [])) p2 (.dT [])) := (Same.new hp0).trans (Same.new hp2)
    have em : upd (upd H p (MetO p [])) p2 (.dT []) p = some (MetO p []) := by rw [upd_ne hne.symm]; exact upd_same
    have ed := upd_same (H := upd H p (MetO p [])) (a := p2) (o := HO.dT [])
    have hp20 : H p2 = none := same_none' (Same.new hp0) hp2
    generalize upd (upd H p (MetO p [])) p2 (.dT []) = H0 at S0 em ed ⊢
    refine ⟨fun σ H1 => ∃ (va' vb' : V) (x' y' : Vl) (d' e' : PyData) (x6 x7 x8 : Option V), σ = [some (.ref hp), some (.str op), some va', some vb', some (.ref p), some (.ref p2), x6, x7, x8] ∧ Same H H1 ∧ Dt K H1 va' (vlD x') ∧ Dt K H1 vb' (vlD y') ∧ VT rows kd 0 x' d' ∧ VT rows kd 0 y' e' ∧ TD sx 0 d' ∧ TD sx 0 e' ∧ ltT 0 d' e' = ltT n d e ∧ ltT 0 e' d' = ltT n e d, ?_, ?_⟩
    · refine while_upN (fun m σ H1 => ∃ (r : Nat) (va' vb' : V) (x' y' : Vl) (d' e' : PyData) (Lm : List Addr) (kvs : List (List Key × V)) (x6 x7 x8 : Option V), σ = [some (.ref hp), some (.str op), some va', some vb', some (.ref p), some (.ref p2), x6, x7, x8] ∧ Same H H1 ∧ Dt K H1 va' (vlD x') ∧ Dt K H1 vb' (vlD y') ∧ VT rows kd m x' d' ∧ VT rows kd m y' e' ∧ TD sx m d' ∧ TD sx m e' ∧ ltT m d' e' = ltT n d e ∧ ltT m e' d' = ltT n e d ∧
          m + r ≤ 2 ∧ H1 p = some (MetO p Lm) ∧ Lm.length = r ∧ (∀ u ∈ Lm, ∃ i j, Dt K H1 (.ref u) (nD i j) ∧ x' ≠ .ref i) ∧ H1 p2 = some (.dT kvs) ∧ Noted (NEq kt rows) kvs ∧ kvs.length ≤ r * 1002000) ⟨n, 0, va, vb, x, y, d, e, [], [], none, none, none, rfl, S0, dx.mono S0, dy.mono S0, vx, vy, tx, ty, rfl, rfl, by omega, em, rfl, (fun _ h => nomatch h), ed, (fun x y h => by rw [valV_nil] at h; cases h), by simp⟩ ?_
      clear S0 em ed hp2 H0 dx dy vx vy tx ty va vb x y
      rintro m σ H1 ⟨r, va', vb', x', y', d', e', Lm, kvs, x6, x7, x8, rfl, S1, dx, dy, vx, vy, tx, ty, el1, el2, hmr, em, hLr, hL, ed, hnt, hkl⟩
      have L1 := listAt_mono L S1
      obtain ⟨kx, hkx, kx0, kx1⟩ := kindV (rows := rows) (x := x') fun k e => ⟨_, List.getElem?_eq_getElem (vx.ref k e)⟩
      obtain ⟨ky, hky, ky0, ky1⟩ := kindV (rows := rows) (x := y') fun k e => ⟨_, List.getElem?_eq_getElem (vy.ref k e)⟩
      refine ⟨_, rfl, _, rfl, _, rfl, hp, _, va', vb', _, _, kx, ky, rfl, L1, dx, dy, hkx, hky, fun H2 S2 => ⟨_, rfl, ?_⟩⟩
      have S12 := S1.trans S2
      have dx := dx.mono S2
      have dy := dy.mono S2
      cases m with
      | zero =>
        have e0 : kx = "" := kx0 fun k e => by
          subst e
          rcases vx with ⟨i, hi, _⟩ | ⟨z, hz, _⟩
          · cases hi
          · cases hz
        refine iteFb (decide_eq_false fun h => by rw [e0] at h; exact absurd h.1 (by decide)) ?_
        exact ⟨va', vb', x', y', d', e', x6, x7, x8, rfl, S12, dx, dy, vx, vy, tx, ty, el1, el2⟩
      | succ m =>
        obtain ⟨i, vs, ds, rfl, hi, rfl, hP⟩ := vx
        obtain ⟨j, ws, es, rfl, hj, rfl, hP2⟩ := vy
        have ex := kx1 i _ rfl hi
        have ey := ky1 j _ rfl hj
        have e3 : rkd (mkR kd vs) ∈ (["tuple", "list"] : List Str) ∧ rkd (mkR kd ws) = rkd (mkR kd vs) := by cases kd <;> exact ⟨by simp [mkR, rkd], rfl⟩
        refine iteTb (decide_eq_true (by rw [ex, ey]; exact e3)) ?_
        clear kx0 kx1 ky0 ky1 hkx hky ex ey
        have em := S2 _ _ em
        have ed := S2 _ _ ed
        have hL2 : ∀ u ∈ Lm, ∃ i' j', Dt K H2 (.ref u) (nD i' j') ∧ (i', j') ≠ (i, j) := fun u hu => by
          obtain ⟨i', j', h1, h2⟩ := hL u hu
          exact ⟨i', j', h1.mono S2, fun e => h2 (by rw [(Prod.mk.inj e).1])⟩
        have noth : ∀ {l : List Vl} (z : Str) (q : List PyData), mkR kd l ≠ .oth z q := fun z q h => by cases kd <;> cases h
        have erp : ∀ l : List Vl, rparts (mkR kd l) = l.map vlD := fun l => by cases kd <;> rfl
        have evl : ∀ l : List Vl, vals (mkR kd l) = l := fun l => by cases kd <;> rfl
        refine ⟨_, rfl, _, rfl, sz_2, fun z hz => ?_⟩
        have S3 := Same.new (o := .tup [va', vb']) hz
        have dz : Dt K (upd H2 z (.tup [va', vb'])) (.ref z) (nD i j) := Dt.made hz (.cons dx (.cons dy .nil))
        generalize upd H2 z (.tup [va', vb']) = H3 at S3 dz ⊢
        have em := S3 _ _ em
        have ed := S3 _ _ ed
        have S13 := S12.trans S3
        have dx := dx.mono S3
        have dy := dy.mono S3
        have hL3 : ∀ u ∈ Lm, ∃ i' j', Dt K H3 (.ref u) (nD i' j') ∧ (i', j') ≠ (i, j) := fun u hu => by
          obtain ⟨i', j', h1, h2⟩ := hL2 u hu
          exact ⟨i', j', h1.mono S3, h2⟩
        refine ⟨_, rfl, z, p, Lm, i, j, rfl, rfl, em, dz, hL3, _, rfl, iteTb rfl ?_⟩
        refine ⟨_, rfl, ⟨p, Lm, rfl, em⟩, _, rfl, _, rfl, sz_2, fun z2 hz2 => ?_⟩
        have S4 := Same.new (o := .tup [va', vb']) hz2
        have dz2 : Dt K (upd H3 z2 (.tup [va', vb'])) (.ref z2) (nD i j) := Dt.made hz2 (.cons dx (.cons dy .nil))
        generalize upd H3 z2 (.tup [va', vb']) = H4 at S4 dz2 ⊢
        have em := S4 _ _ em
        have ed := S4 _ _ ed
        have S14 := S13.trans S4
        have dx := dx.mono S4
        have dy := dy.mono S4
        have hL4 : ∀ u ∈ Lm, ∃ i' j', Dt K H4 (.ref u) (nD i' j') ∧ (i', j') ≠ (i, j) := fun u hu => by
          obtain ⟨i', j', h1, h2⟩ := hL3 u hu
          exact ⟨i', j', h1.mono S4, h2⟩
        clear hL2 hL3 S2 S3 S12 S13 dz hz hz2 L1 S1
        refine ⟨z2, p, Lm, i, j, rfl, rfl, em, by omega, dz2, hL4, fun Lm' hm' hl' => ?_⟩
        have kD5 : KeepD p H4 (upd H4 p (MetO p Lm')) := fun b o e ne => by rw [upd_ne ne]; exact e
        have kT5 : KeepT K H4 (upd H4 p (MetO p Lm')) := keepT_D em (fun xs h => by unfold MetO at h; cases h) (fun o xs h => by unfold MetO at h; cases h) kD5
        have em5 := upd_same (H := H4) (a := p) (o := MetO p Lm')
        have ed5 := kD5 _ _ ed hne
        have S5 : Same H (upd H4 p (MetO p Lm')) := fun b o e => kD5 b o (S14 b o e) (ne_of_none e hp0)
        generalize upd H4 p (MetO p Lm') = H5 at kD5 kT5 em5 ed5 S5 ⊢
        have dx := dx.keepT kT5
        have dy := dy.keepT kT5
        have L5 := listAt_mono L S5
        clear ed S14 S4
        refine ⟨_, rfl, _, rfl, hp, rows, i, _, va', rfl, L5, hi, noth, dx, fun v1 d1 => ?_⟩
        refine ⟨_, rfl, _, rfl, hp, rows, j, _, vb', rfl, L5, hj, noth, dy, fun v2 d2 => ?_⟩
        rw [erp] at d1 d2
        have ox := (G0 _ (List.mem_of_getElem? hi)).vs
        have oy := (G0 _ (List.mem_of_getElem? hj)).vs
        rw [evl] at ox oy
        refine ⟨_, rfl, _, rfl, _, rfl, _, rfl, kt, hp, p2, rows, v1, v2, vs, ws, kvs, rfl, L5, d1, d2, ox, oy, G0, hN, ed5, hnt, by omega, fun at' kvs' H6 hfd kD6 ed6 hnt6 hl6 => ?_⟩
        have kT6 := keepT_dT (K := K) ed5 kD6
        have S6 : Same H H6 := fun b o e => kD6 b o (S5 b o e) (ne_of_none e hp20)
        obtain ⟨q1, ys1, rfl, hq1, a1⟩ := (d1.keepT kT6).tuple_inv
        obtain ⟨q2, ys2, rfl, hq2, a2⟩ := (d2.keepT kT6).tuple_inv
        have l1 := a1.length
        have l2 := a2.length
        rw [List.length_map] at l1 l2
        have lp1 := hP.length
        have lp2 := hP2.length
        have tdx := tx.2
        have tdy := ty.2
        have eqp : ∀ {a : Nat} {x1 y1 : Vl} {d1 e1 : PyData}, vs[a]? = some x1 → ws[a]? = some y1 → ds[a]? = some d1 → es[a]? = some e1 → (EqV kt rows x1 y1 ↔ PyData.eqv d1 e1 = true) := fun {a x1 y1 d1 e1} h1 h2 h3 h4 => by
          obtain ⟨d1', g1, w1⟩ := hP.get h1
          obtain ⟨e1', g2, w2⟩ := hP2.get h2
          rw [h3] at g1
          rw [h4] at g2
          cases g1
          cases g2
          have t1 := tdx _ (List.mem_of_getElem? h3)
          have t2 := tdy _ (List.mem_of_getElem? h4)
          exact (eq_vt w1 w2 t1 t2).trans (eqv_td t1 t2).symm
        have eqq : ∀ {a : Nat}, (∀ (b : Nat) (x1 y1 : Vl), b < a → vs[b]? = some x1 → ws[b]? = some y1 → EqV kt rows x1 y1) → ∀ (b : Nat) (d1 e1 : PyData), b < a → ds[b]? = some d1 → es[b]? = some e1 → PyData.eqv d1 e1 = true := fun {a} h b d1 e1 hb h1 h2 => by
          obtain ⟨x1, g1, _⟩ := hP.getB h1
          obtain ⟨y1, g2, _⟩ := hP2.getB h2
          exact (eqp g1 g2 h1 h2).mp (h b x1 y1 hb g1 g2)
        have eqs : ∀ {a : Nat}, (∀ (b : Nat) (d1 e1 : PyData), b < a → ds[b]? = some d1 → es[b]? = some e1 → PyData.eqv d1 e1 = true) → ∀ (b : Nat) (d1 e1 : PyData), b < a → es[b]? = some d1 → ds[b]? = some e1 → PyData.eqv d1 e1 = true := fun {a} h b d1 e1 hb h1 h2 => by
          rw [eqv_sy (tdy _ (List.mem_of_getElem? h1)) (tdx _ (List.mem_of_getElem? h2))]
          exact h b e1 d1 hb h2 h1
        refine ⟨_, rfl, _, _, rfl, rfl, _, rfl, ?_⟩
        rcases hfd with ⟨rfl, hall⟩ | ⟨i0, x1, y1, rfl, hx1, hy1, hne1, hall⟩
        · refine iteTb (by decide) ?_
          have q11 : ∀ (b : Nat) (d1 e1 : PyData), ds[b]? = some d1 → es[b]? = some e1 → PyData.eqv d1 e1 = true := fun b d1 e1 h1 h2 => eqq (a := b + 1) (fun b x y _ => hall b x y) b d1 e1 (by omega) h1 h2
          have e1l : ltT (m + 1) (.list ds) (.list es) = decide (ds.length < es.length) := ltL_end q11
          have e2l : ltT (m + 1) (.list es) (.list ds) = decide (es.length < ds.length) := ltL_end fun b d1 e1 h1 h2 => eqs (a := b + 1) (fun b d e _ => q11 b d e) b d1 e1 (by omega) h1 h2
          refine ⟨_, rfl, _, rfl, _, _, rfl, .inr ⟨_, hq1, rfl⟩, _, rfl, _, _, rfl, .inr ⟨_, hq2, rfl⟩, op, _, _, ltT n d e, ltT n e d, rfl, ?_, _, rfl, fun v H' S' dv => k v H' (S6.trans S') dv⟩
          refine .inl ⟨_, _, .inl rfl, .inl rfl, ?_, ?_⟩
          · rw [← el1, e1l]; exact decide_eq_decide.mpr (by omega)
          · rw [← el2, e2l]; exact decide_eq_decide.mpr (by omega)
        · refine iteFb (decide_eq_false (by omega)) ?_
          obtain ⟨d1', g1, w1⟩ := hP.get hx1
          obtain ⟨e1', g2, w2⟩ := hP2.get hy1
          have t1 := tdx _ (List.mem_of_getElem? g1)
          have t2 := tdy _ (List.mem_of_getElem? g2)
          have ne1 : PyData.eqv d1' e1' = false := Bool.eq_false_iff.mpr fun h => hne1 ((eqp hx1 hy1 g1 g2).mpr h)
          have ne2 : PyData.eqv e1' d1' = false := by rw [eqv_sy t2 t1]; exact ne1
          have q11 := eqq hall
          have e1l : ltT (m + 1) (.list ds) (.list es) = ltT m d1' e1' := ltL_at g1 g2 q11 ne1
          have e2l : ltT (m + 1) (.list es) (.list ds) = ltT m e1' d1' := ltL_at g2 g1 (eqs q11) ne2
          obtain ⟨u1, hu1, du1⟩ := a1.get (i := i0) (d := vlD x1) (by rw [List.getElem?_map, hx1]; rfl)
          obtain ⟨u2, hu2, du2⟩ := a2.get (i := i0) (d := vlD y1) (by rw [List.getElem?_map, hy1]; rfl)
          refine ⟨_, rfl, _, rfl, q1, _, _, _, rfl, rfl, hq1, atI_nat hu1, ?_⟩
          refine ⟨_, rfl, _, rfl, q2, _, _, _, rfl, rfl, hq2, atI_nat hu2, ?_⟩
          refine ⟨m, by omega, r + 1, u1, u2, x1, y1, d1', e1', Lm', kvs', _, _, _, rfl, S6, du1, du2, w1, w2, t1, t2, e1l ▸ el1, e2l ▸ el2, by omega, kD6 _ _ em5 hne.symm, by omega, fun u hu => ?_, ed6, hnt6, by omega⟩
          rcases hm' u hu with rfl | hu
          · exact ⟨i, j, (dz2.keepT kT5).keepT kT6, fun h => VT.loop hi (h ▸ List.mem_of_getElem? hx1) (h ▸ w1)⟩
          · obtain ⟨i', j', h1, _⟩ := hL4 u hu
            refine ⟨i', j', (h1.keepT kT5).keepT kT6, fun h => ?_⟩
            have : 0 < Lm.length := List.length_pos_of_mem hu
            obtain rfl : m = 0 := by omega
            subst h
            rcases w1 with ⟨i, hi, _⟩ | ⟨z, hz, _⟩
            · cases hi
            · cases hz
    · rintro _ H1 ⟨va', vb', x', y', d', e', x6, x7, x8, rfl, S1, dx, dy, vx, vy, tx, ty, el1, el2⟩
      refine ⟨fun _ _ => False, ?_, fun _ _ h => h.elim⟩
      rcases vx with ⟨i, hi, rfl⟩ | ⟨z, rfl, rfl⟩
      · rcases vy with ⟨j, hj, rfl⟩ | ⟨z, rfl, rfl⟩
        · obtain ⟨q1, u1, rfl, hq1, n1⟩ := numD dx hi
          obtain ⟨q2, u2, rfl, hq2, n2⟩ := numD dy hj
          refine ⟨_, rfl, _, x', rfl, dx, fun H2 S2 => ⟨_, rfl, iteTb (by rw [hi]; rfl) ?_⟩⟩
          refine ⟨_, rfl, _, y', rfl, dy.mono S2, fun H3 S3 => ⟨_, rfl, iteTb (by rw [hj]; rfl) ?_⟩⟩
          have S13 := S2.trans S3
          refine ⟨_, rfl, _, rfl, q1, _, _, _, rfl, rfl, Same.tupl S13 hq1, at1, _, rfl, q2, _, _, _, rfl, rfl, Same.tupl S13 hq2, at1, op, _, _, ltT n d e, ltT n e d, rfl, ?_, _, rfl, fun v H' S' dv => k v H' ((S1.trans S13).trans S') dv⟩
          exact .inl ⟨i, j, n1, n2, el1.symm, el2.symm⟩
        · have h1 := tx.1; have h2 := ty.1; rw [h1] at h2; cases h2
      · rcases vy with ⟨j, hj, rfl⟩ | ⟨z2, rfl, rfl⟩
        · have h1 := tx.1; have h2 := ty.1; rw [h1] at h2; cases h2
        · obtain ⟨q1, u1, rfl, hq1, n1⟩ := dx.pair
          obtain ⟨q2, u2, rfl, hq2, n2⟩ := dy.pair
          cases dt_str n1
          cases dt_str n2
          refine ⟨_, rfl, _, .text z, rfl, dx, fun H2 S2 => ⟨_, rfl, iteFb rfl (iteFb rfl ?_)⟩⟩
          refine ⟨_, rfl, q1, _, _, _, rfl, rfl, Same.tupl S2 hq1, at0, rfl, _, rfl, iteTb (by decide +kernel) ?_⟩
          refine ⟨_, rfl, q2, _, _, _, rfl, rfl, Same.tupl S2 hq2, at0, rfl, _, rfl, iteTb (by decide +kernel) ?_⟩
          refine ⟨_, rfl, _, rfl, q1, _, _, _, rfl, rfl, Same.tupl S2 hq1, at1, _, rfl, q2, _, _, _, rfl, rfl, Same.tupl S2 hq2, at1, op, _, _, ltT n d e, ltT n e d, rfl, ?_, _, rfl, fun v H' S' dv => k v H' ((S1.trans S2).trans S') dv⟩
          exact .inr ⟨z, z2, rfl, rfl, el1.symm, el2.symm⟩
/-! the comparisons -/
theorem ops_in {op : Str} (h : op ∈ (["<", "<=", ">", ">="] : List Str)) : op ∉ (["==", "!="] : List Str) ∧ op ∉ (["is", "isnot"] : List Str) ∧ op ≠ "in" ∧ op ≠ "notin" := by
  have : ∀ op ∈ (["<", "<=", ">", ">="] : List Str), op ∉ (["==", "!="] : List Str) ∧ op ∉ (["is", "isnot"] : List Str) ∧ op ≠ "in" ∧ op ≠ "notin" := by decide +kernel
  exact this op h
def cmpO (op : Str) (p q r : Bool) : Bool := if op = "==" then r else if op = "!=" then !r else ansO op p q
def spCompare (K : PySem.W.Frag) : Sp := fun vs H Q _ => ∃ (kt : Vl → Str) (hp : Addr) (rows : List Row) (kd s : Bool) (n : Nat) (op : Str) (va vb : V) (x y : Vl) (d e : PyData), vs = [.ref hp, .str op, va, vb] ∧ op ∈ (["<", "<=", ">", ">=", "==", "!="] : List Str) ∧ ListAt K H hp (rows.map rowD) ∧ Dt K H va (vlD x) ∧ Dt K H vb (vlD y) ∧
  VT rows kd n x d ∧ VT rows kd n y e ∧ TD s n d ∧ TD s n e ∧ n ≤ 2 ∧ (∀ r ∈ rows, GoodR kt rows r) ∧ rows.length ≤ 1000 ∧ ∀ u H', Same H H' → Dt K H' u (ansD (cmpO op (ltT n d e) (ltT n e d) (PyData.eqv d e))) → Q u H'
theorem ok_compare {f : Addr} {fd : FuncData} (F : Fun K "compare" "compare" s_compare f fd) (T : Txt K mg) (U_answer : Use P w K mg base CX0 "_answer" 1 P_answer (spAnswer K)) (U_equal : Use P w K mg base CX0 "equal" 8 P_equal (spEqual K)) (U_order : Use P w K mg base CX0 "_order" 9 P_order (spOrder K)) : FnG P w K mg base CX0 10 f fd P_compare (spCompare K) := by
  refine okG0 F sc_compare (fun vs H Q E h => ?_) fun cdv A outer s H vs Q E hr hg h => ?_
  · obtain ⟨kt, hp, rows, kd, sx, n, op, va, vb, x, y, d, e, rfl, _⟩ := h
    rfl
  · obtain ⟨kt, hp, rows, kd, sx, n, op, va, vb, x, y, d, e, rfl, hop, L, dx, dy, vx, vy, tx, ty, hn, G0, hN, k⟩ := h
    refine ⟨_, (pss_cons (ps_if (pt_cmpR op_in_seq (pv 1) (pe_tup (pa_cons pe_str (pa_cons pe_str pa_nil))) (by rfl))
   (pss_one (ps_ret (pe_use U_answer (hr.mono (by decide)) hg rfl (pa_cons (pe_cmpR op_eq (pe_use U_equal (hr.mono (by decide)) hg rfl (pa_cons (pv 0) (pa_cons (pv 2) (pa_cons (pv 3) pa_nil)))) (pe_cmpR op_eq (pv 1) pe_str (nomark _)) (nomark _)) pa_nil))))
   pss_nil)
  (pss_cons (ps_if (pt_cmpR op_in_seq (pv 1) (pe_tup (pa_cons pe_str (pa_cons pe_str pa_nil))) (by rfl))
   pss_never
   pss_nil)
  (pss_cons (ps_if (pt_cmpR op_eq (pv 1) pe_str (nomark _))
   pss_never
   pss_nil)
  (pss_cons (ps_if (pt_cmpR op_eq (pv 1) pe_str (nomark _))
   pss_never
   pss_nil)
  (pss_one (ps_ret (pe_use U_order (hr.mono (by decide)) hg rfl (pa_cons (pv 0) (pa_cons (pv 1) (pa_cons (pv 2) (pa_cons (pv 3) pa_nil))))))))))), ?_⟩
    have i1 : ∀ zs : List Str, zs.map V.str = zs.map V.str := fun _ => rfl
    refine ⟨_, rfl, sz_2, fun u hu => ⟨u, _, rfl, .inr (SqT.of upd_same), rfl, rfl, _, rfl, ?_⟩⟩
    have S1 := Same.new (o := .tup [V.str "==", V.str "!="]) hu
    generalize upd H u _ = H1 at S1 ⊢
    rw [if_neg Bool.false_ne_true, show [V.str "==", V.str "!="] = (["==", "!="] : List Str).map V.str from rfl, inV_strs]
    unfold cmpO at k
    by_cases c : op ∈ (["==", "!="] : List Str)
    · refine iteTb (decide_eq_true c) ?_
      refine ⟨_, rfl, _, rfl, _, rfl, kt, hp, rows, va, vb, x, y, rfl, listAt_mono L S1, dx.mono S1, dy.mono S1, vx.ok tx, vy.ok ty, vx.ref, vy.ref, G0, hN, fun b H2 hb S2 => ?_⟩
      have eb : b = PyData.eqv d e := Bool.eq_iff_iff.mpr (hb.trans ((eq_vt vx vy tx ty).trans (eqv_td tx ty).symm))
      refine ⟨_, rfl, rfl, rfl, _, rfl, fun v H3 S3 dv => k v H3 ((S1.trans S2).trans S3) ?_⟩
      rw [← eb]
      have e2 : ∀ b' : Bool, decide (V.bl b = V.bl b') = decide (b = b') := fun b' => decide_eq_decide.mpr ⟨V.bl.inj, fun h => by rw [h]⟩
      rw [e2] at dv
      by_cases c1 : op = "=="
      · rw [if_pos c1]
        rw [show decide (V.str op = V.str "==") = true from decide_eq_true (by rw [c1])] at dv
        cases b <;> exact dv
      · rw [if_neg c1, if_pos (by simpa [c1] using c)]
        rw [show decide (V.str op = V.str "==") = false from dec_str c1] at dv
        cases b <;> exact dv
    · have c1 : op ≠ "==" := fun h => c (by simp [h])
      have c2 : op ≠ "!=" := fun h => c (by simp [h])
      rw [if_neg c1, if_neg c2] at k
      have hop4 : op ∈ (["<", "<=", ">", ">="] : List Str) := by simpa [c1, c2] using hop
      obtain ⟨_, n2, n3, n4⟩ := ops_in hop4
      refine iteFb (decide_eq_false c) ?_
      refine ⟨_, rfl, sz_2, fun u2 hu2 => ⟨u2, _, rfl, .inr (SqT.of upd_same), rfl, rfl, _, rfl, ?_⟩⟩
      have S2 := S1.trans (Same.new (o := .tup [V.str "is", V.str "isnot"]) hu2)
      generalize upd H1 u2 _ = H2 at S2 ⊢
      rw [if_neg Bool.false_ne_true, show [V.str "is", V.str "isnot"] = (["is", "isnot"] : List Str).map V.str from rfl, inV_strs]
      refine iteFb (decide_eq_false n2) ?_
      refine ⟨_, rfl, rfl, _, rfl, iteFb (dec_str n3) ?_⟩
      refine ⟨_, rfl, rfl, _, rfl, iteFb (dec_str n4) ?_⟩
      exact ⟨_, rfl, _, rfl, _, rfl, _, rfl, kt, hp, rows, kd, sx, n, op, va, vb, x, y, d, e, rfl, listAt_mono L S2, dx.mono S2, dy.mono S2, vx, vy, tx, ty, hn, G0, hN, fun u H' S' du => k u H' (S2.trans S') du⟩
end

section
--SPLIT
end
section
/-! nested host lists of ints and texts -/
mutual
inductive Hl (K : PySem.W.Frag) (H : Hp) (N : Addr → Prop) : V → PyData → Prop
  | int (i : Int) : Hl K H N (.int i) (.int i)
  | str (z : Str) : Hl K H N (.str z) (.str z)
  | lst {a : Addr} {xs : List V} {ds : List PyData} : H a = some (.lst xs) → N a → HlAll K H N xs ds → Hl K H N (.ref a) (.list ds)
inductive HlAll (K : PySem.W.Frag) (H : Hp) (N : Addr → Prop) : List V → List PyData → Prop
  | nil : HlAll K H N [] []
  | cons {v : V} {vs : List V} {d : PyData} {ds : List PyData} : Hl K H N v d → HlAll K H N vs ds → HlAll K H N (v :: vs) (d :: ds)
end
mutual
theorem Hl.up {K : PySem.W.Frag} {H H' : Hp} {N N' : Addr → Prop} (kk : ∀ a u, N a → H a = some u → H' a = some u) (hn : ∀ a u, N a → H a = some u → N' a) : ∀ {v : V} {d : PyData}, Hl K H N v d → Hl K H' N' v d
  | _, _, .int i => .int i
  | _, _, .str z => .str z
  | _, _, .lst h1 h2 h3 => .lst (kk _ _ h2 h1) (hn _ _ h2 h1) (HlAll.up kk hn h3)
theorem HlAll.up {K : PySem.W.Frag} {H H' : Hp} {N N' : Addr → Prop} (kk : ∀ a u, N a → H a = some u → H' a = some u) (hn : ∀ a u, N a → H a = some u → N' a) : ∀ {vs : List V} {ds : List PyData}, HlAll K H N vs ds → HlAll K H' N' vs ds
  | _, _, .nil => .nil
  | _, _, .cons h1 h2 => .cons (Hl.up kk hn h1) (HlAll.up kk hn h2)
end
theorem Hl.mono {K : PySem.W.Frag} {H H' : Hp} {N : Addr → Prop} {v : V} {d : PyData} (h : Hl K H N v d) (S : Same H H') : Hl K H' N v d := h.up (fun a u _ e => S a u e) fun _ _ h _ => h
theorem HlAll.mono {K : PySem.W.Frag} {H H' : Hp} {N : Addr → Prop} {v : List V} {d : List PyData} (h : HlAll K H N v d) (S : Same H H') : HlAll K H' N v d := h.up (fun a u _ e => S a u e) fun _ _ h _ => h
mutual
theorem Hl.dp {K : PySem.W.Frag} {H : Hp} {N : Addr → Prop} : ∀ {v : V} {d : PyData}, Hl K H N v d → Dp K H v d
  | _, _, .int i => .int i
  | _, _, .str z => .str z
  | _, _, .lst h1 _ h3 => .lst (SqL.of h1) (HlAll.dp h3)
theorem HlAll.dp {K : PySem.W.Frag} {H : Hp} {N : Addr → Prop} : ∀ {vs : List V} {ds : List PyData}, HlAll K H N vs ds → DpAll K H vs ds
  | _, _, .nil => .nil
  | _, _, .cons h1 h2 => .cons (Hl.dp h1) (HlAll.dp h2)
end
theorem HlAll.length {K : PySem.W.Frag} {H : Hp} {N : Addr → Prop} : ∀ {vs : List V} {ds : List PyData}, HlAll K H N vs ds → vs.length = ds.length
  | _, _, .nil => rfl
  | _, _, .cons _ h => by rw [List.length_cons, List.length_cons, h.length]
theorem HlAll.app {K : PySem.W.Frag} {H : Hp} {N : Addr → Prop} {ws : List V} {us : List PyData} (g : HlAll K H N ws us) : ∀ {vs : List V} {ds : List PyData}, HlAll K H N vs ds → HlAll K H N (vs ++ ws) (ds ++ us)
  | _, _, .nil => g
  | _, _, .cons h1 h => .cons h1 (HlAll.app g h)
theorem HlAll.take {K : PySem.W.Frag} {H : Hp} {N : Addr → Prop} : ∀ (n : Nat) {vs : List V} {ds : List PyData}, HlAll K H N vs ds → HlAll K H N (vs.take n) (ds.take n)
  | 0, _, _, _ => by rw [List.take_zero, List.take_zero]; exact .nil
  | n + 1, _, _, .nil => .nil
  | n + 1, _, _, .cons h1 h => .cons h1 (HlAll.take n h)
theorem HlAll.getV {K : PySem.W.Frag} {H : Hp} {N : Addr → Prop} : ∀ {vs : List V} {ds : List PyData} {i : Nat} {v : V}, HlAll K H N vs ds → vs[i]? = some v → ∃ d, ds[i]? = some d ∧ Hl K H N v d
  | _, _, 0, _, .cons h1 _, e => by cases e; exact ⟨_, rfl, h1⟩
  | _, _, i + 1, _, .cons _ h, e => HlAll.getV (i := i) h e
theorem TD.shp {s : Bool} : ∀ {n : Nat} {d : PyData}, TD s n d → Shp n d
  | 0, d, h => by
    rcases h.zero with ⟨i, rfl, _⟩ | ⟨z, rfl, _, _, h⟩
    · exact Shp.int _ _
    · exact Shp.str h
  | n + 1, d, h => by
    obtain ⟨ds, rfl, _, h2⟩ := h.succ
    exact Shp.lst fun x hx => TD.shp (h2 x hx)
end
abbrev s_law_thing : Stmt := top 40
abbrev N_law_thing : List Str := ["box", "depth", "like", "parts", "k", "text"]
abbrev P_law_thing : List Str := ["box", "depth", "like"]
theorem sc_law_thing : FnScope N_law_thing P_law_thing (defScope s_law_thing) := ⟨rfl, rfl, rfl, by decide +kernel, rfl, by decide +kernel, by decide +kernel⟩
abbrev s_law_put : Stmt := top 41
abbrev N_law_put : List Str := ["box", "heap", "thing", "kind", "items", "part"]
abbrev P_law_put : List Str := ["box", "heap", "thing", "kind"]
theorem sc_law_put : FnScope N_law_put P_law_put (defScope s_law_put) := ⟨rfl, rfl, rfl, by decide +kernel, rfl, by decide +kernel, by decide +kernel⟩
abbrev s_law_less : Stmt := top 42
abbrev N_law_less : List Str := ["one", "two", "k"]
abbrev P_law_less : List Str := ["one", "two"]
theorem sc_law_less : FnScope N_law_less P_law_less (defScope s_law_less) := ⟨rfl, rfl, rfl, by decide +kernel, rfl, by decide +kernel, by decide +kernel⟩
section
variable {P : Program} {w : World} {K : PySem.W.Frag} {mg : Str → Option Value} {base : Heap}
def lkB (lk : Nat) : Bool := decide (lk = 1)
def TxtOk (i : Nat) (z : Str) : Prop := z.length = i ∧ ∀ c ∈ z.cps.toList, c ∈ ("aAb ~\n" : Str).cps.toList
theorem TxtOk.app {i j : Nat} {z : Str} {ch : Nat} (h : TxtOk i z) (hc : ("aAb ~\n" : Str).cps.toList[j]? = some ch) : TxtOk (i + 1) (z ++ { cps := #[ch] }) := by
  refine ⟨?_, fun c hm => ?_⟩
  · show (z.cps ++ #[ch]).size = i + 1
    rw [Array.size_append]
    exact congrArg (· + 1) h.1
  · have : c ∈ (z.cps ++ #[ch]).toList := hm
    rw [Array.toList_append] at this
    rcases List.mem_append.mp this with g | g
    · exact h.2 c g
    · rw [List.mem_singleton.mp g]
      exact List.mem_of_getElem? hc
theorem TxtOk.ok {i : Nat} {z : Str} (h : TxtOk i z) (hi : i ≤ 3) : shortS z = true ∧ PyData.canLay0 (.str z) = true := by
  have h2 : ∀ c ∈ ("aAb ~\n" : Str).cps.toList, c < 128 := by decide +kernel
  refine ⟨?_, ?_⟩
  · unfold shortS
    rw [Bool.and_eq_true]
    refine ⟨decide_eq_true (by rw [h.1]; omega), List.all_eq_true.mpr fun c hc => decide_eq_true ?_⟩
    exact Nat.lt_of_lt_of_le (h2 c (h.2 c hc)) (by decide)
  · rw [PyData.canLay0]
    exact Array.all_eq_true_iff_forall_mem.mpr fun c hc => by
      have := h2 c (h.2 c (by simpa using hc))
      exact decide_eq_true (by omega)
theorem six : ∀ j : Nat, j < 6 → ∃ ch, ("aAb ~\n" : Str).cps.toList[j]? = some ch := fun j hj => by
  have h : ∀ j < 6, (("aAb ~\n" : Str).cps.toList[j]?).isSome = true := by decide +kernel
  exact Option.isSome_iff_exists.mp (h j hj)
def spThing (K : PySem.W.Frag) (N : Nat) : Sp := fun vs H Q _ => ∃ (m : Nat) (p dl : Addr) (lk : Nat), m < N ∧ vs = [.ref p, .int ((m : Nat) : Int), .int ((lk : Nat) : Int)] ∧ BoxAt H p dl ∧ lk < 3 ∧
    ∀ v H' d, BoxAt H' p dl → Keep p H H' → Hl K H' (fun a => H a = none) v d → TD (lkB lk) m d → (∀ ds, d = .list ds → ds.length ≤ 4) → Q v H'
theorem thing0 {K : PySem.W.Frag} {vs : List V} {H : Hp} {Q : VK} {E : XK} (h : spThing K 0 vs H Q E) : False := let ⟨_, _, _, _, h, _⟩ := h; Nat.not_lt_zero _ h
theorem ok_thing {n : Nat} {f : Addr} {fd : FuncData} (F : Fun K "_law_thing" "_law_thing" s_law_thing f fd) (T : Txt K mg) (U_law_thing : Use P w K mg base CX0 "_law_thing" (2 + n) P_law_thing (spThing K n)) (U_law_draw : Use P w K mg base CX0 "_law_draw" 1 P_law_draw (spDraw K)) : FnG P w K mg base CX0 (2 + n + 1) f fd P_law_thing (spThing K (n + 1)) := by
  refine okG0 F sc_law_thing (fun vs H Q E h => ?_) fun cdv A outer s H vs Q E hr hg h => ?_
  · obtain ⟨m, p, dl, lk, _, rfl, _⟩ := h
    rfl
  · obtain ⟨m, p, dl, lk, hm, rfl, B, hlk, k⟩ := h
    refine ⟨_, (pss_cons (ps_if (pt_cmpR op_gt (pv 1) pe_int (nomark _))
   (pss_cons (ps_set (i := 3) sc_law_thing.nd rfl (Or.inl rfl) (pe_lst pa_nil))
  (pss_cons (ps_for PassesOwn.never rfl (pi_range1 (by rfl) T.b_range (pa_cons (pe_use U_law_draw (hr.mono (by omega)) hg rfl (pa_cons (pv 0) (pa_cons pe_int pa_nil))) pa_nil)) (pg_name (i := 4) sc_law_thing.nd rfl (Or.inl rfl))
   (pss_one (ps_expr (pe_bm PySem.F.plainAttrs_list PySem.F.slot_list_append PySem.F.type_list_append mt_append (pv 3) (pa_cons (pe_use U_law_thing (hr.mono (by omega)) hg rfl (pa_cons (pv 0) (pa_cons (pe_op op_sub (pv 1) pe_int) (pa_cons (pv 2) pa_nil)))) pa_nil)))))
  (pss_one (ps_ret (pv 3)))))
   pss_nil)
  (pss_cons (ps_if (pt_cmpR op_eq (pv 2) pe_int (nomark _))
   (pss_one (ps_ret (pe_op op_sub (pe_use U_law_draw (hr.mono (by omega)) hg rfl (pa_cons (pv 0) (pa_cons pe_int pa_nil))) pe_int)))
   pss_nil)
  (pss_cons (ps_if (pt_cmpR op_eq (pv 2) pe_int (nomark _))
   (pss_cons (ps_set (i := 5) sc_law_thing.nd rfl (Or.inl rfl) pe_str)
  (pss_cons (ps_for PassesOwn.never rfl (pi_range1 (by rfl) T.b_range (pa_cons (pe_use U_law_draw (hr.mono (by omega)) hg rfl (pa_cons (pv 0) (pa_cons pe_int pa_nil))) pa_nil)) (pg_name (i := 4) sc_law_thing.nd rfl (Or.inl rfl))
   (pss_one (ps_set (i := 5) sc_law_thing.nd rfl (Or.inl rfl) (pe_op op_add_str (pv 5) (pe_ix ix_str pe_str (pe_use U_law_draw (hr.mono (by omega)) hg rfl (pa_cons (pv 0) (pa_cons pe_int pa_nil))) (fun _ _ => rfl))))))
  (pss_one (ps_ret (pv 5)))))
   pss_nil)
  (pss_one (ps_ret (pe_op op_add (pe_use U_law_draw (hr.mono (by omega)) hg rfl (pa_cons (pv 0) (pa_cons pe_int pa_nil))) (pe_op op_mul (pe_op op_pow pe_int pe_int) (pe_use U_law_draw (hr.mono (by omega)) hg rfl (pa_cons (pv 0) (pa_cons pe_int pa_nil)))))))))), ?_⟩
    refine ⟨_, rfl, _, _, rfl, rfl, _, rfl, ?_⟩
    have fr' : ∀ {H1 : Hp} {a : Addr}, BoxAt H1 p dl → Keep p H H1 → H1 a = none → H a = none := fun {H1 a} B1 K1 h => by
      cases e : H a with
      | none => rfl
      | some o =>
        rw [K1 _ _ e (B1.ne_new h).1] at h; cases h
    cases m with
    | succ m =>
      refine iteTb (decide_eq_true (by omega)) ?_
      refine ⟨sz_0, fun l hl => ?_⟩
      obtain ⟨nlp, nld⟩ := B.ne_new hl
      have S1 := Same.new (o := .lst []) hl
      have B1 := B.same S1
      have e1 := upd_same (H := H) (a := l) (o := HO.lst [])
      generalize upd H l (.lst []) = H1 at S1 B1 e1
      refine ⟨_, rfl, p, dl, 5, rfl, B1, by decide, fun r H2 r0 r1 B2 K2 => ?_⟩
      obtain ⟨c, rfl⟩ := Int.eq_ofNat_of_zero_le r0
      refine ⟨_, rfl, by omega, by omega, ?_⟩
      refine for_range (lo := 0) (n := c) (fun i σ H3 => ∃ (xs : List V) (ds : List PyData) (x4 : Option V), σ = [some (.ref p), some (.int ((m + 1 : Nat) : Int)), some (.int ((lk : Nat) : Int)), some (.ref l), x4, none] ∧ BoxAt H3 p dl ∧ Keep p H H3 ∧ H3 l = some (.lst xs) ∧ HlAll K H3 (fun a => H a = none ∧ a ≠ l) xs ds ∧ ds.length = i ∧ ∀ d ∈ ds, TD (lkB lk) m d) ⟨[], [], none, rfl, B2, (Same.keep S1).trans K2, K2 _ _ e1 nlp, .nil, rfl, fun _ h => nomatch h⟩ ?_ ?_
      · rintro i σ H3 hi ⟨xs, ds, x4, rfl, B3, K3, e3, h3, hl3, ht3⟩
        refine ⟨_, rfl, .inl ⟨rfl, _, SqL.of e3⟩, _, rfl, _, rfl, _, _, rfl, rfl, _, rfl, m, p, dl, lk, by omega, ?_, B3, hlk, fun v H4 d B4 K4 hv hd _ => ?_⟩
        · show [V.ref p, V.int ((((m + 1 : Nat) : Int)) - 1), V.int (lk : Int)] = _
          rw [show (((m + 1 : Nat) : Int)) - 1 = ((m : Nat) : Int) by omega]
        have lx := h3.length
        have e4 := K4 _ _ e3 nlp
        refine ⟨l, _, _, rfl, rfl, e4, js_lt (by omega), ?_⟩
        have keep5 : ∀ a u, (H a = none ∧ a ≠ l) → H3 a = some u → upd H4 l (.lst (xs ++ [v])) a = some u := fun a u h e => by
          rw [upd_ne h.2]
          exact K4 _ _ e (B.ne_new h.1).1
        refine ⟨xs ++ [v], ds ++ [d], _, rfl, B4.upd nlp nld, fun b o e ne => ?_, upd_same, HlAll.app (.cons (hv.up (fun a u h e => ?_) (fun a u h e => ?_)) .nil) (h3.up keep5 fun _ _ h _ => h), by rw [List.length_append, hl3]; rfl, fun x hx => ?_⟩
        · rw [upd_ne (ne_of_none e hl)]
          exact K4 _ _ (K3 _ _ e ne) ne
        · rw [upd_ne (ne_of_none e3 h).symm]
          exact e
        · exact ⟨fr' B3 K3 h, (ne_of_none e3 h).symm⟩
        · rcases List.mem_append.mp hx with h | h
          · exact ht3 x h
          · rw [List.mem_singleton.mp h]; exact hd
      · rintro σ H3 ⟨xs, ds, x4, rfl, B3, K3, e3, h3, hl3, ht3⟩
        refine ⟨_, rfl, k _ H3 (.list ds) B3 K3 (.lst e3 hl (h3.up (fun _ _ _ e => e) fun _ _ h _ => h.1)) ⟨by omega, ht3⟩ fun ds' e => by cases e; omega⟩
    | zero =>
      refine iteFb (by decide) ?_
      refine ⟨_, rfl, rfl, _, rfl, ?_⟩
      by_cases c0 : lk = 0
      · subst c0
        refine iteTb (by decide) ?_
        refine ⟨_, rfl, p, dl, 3, rfl, B, by decide, fun r H2 r0 r1 B2 K2 => ⟨_, _, rfl, rfl, ?_⟩⟩
        exact k _ H2 (.int (r - 1)) B2 K2 (.int _) ⟨rfl, by omega⟩ fun ds e => by cases e
      refine iteFb (decide_eq_false fun h => by have := V.int.inj h; omega) ?_
      refine ⟨_, rfl, rfl, _, rfl, ?_⟩
      by_cases c1 : lk = 1
      · subst c1
        refine iteTb (by decide) ?_
        refine ⟨_, rfl, p, dl, 4, rfl, B, by decide, fun r H2 r0 r1 B2 K2 => ?_⟩
        obtain ⟨c, rfl⟩ := Int.eq_ofNat_of_zero_le r0
        refine ⟨_, rfl, by omega, by omega, ?_⟩
        refine for_range (lo := 0) (n := c) (fun i σ H3 => ∃ (z : Str) (x4 : Option V), σ = [some (.ref p), some (.int ((0 : Nat) : Int)), some (.int ((1 : Nat) : Int)), none, x4, some (.str z)] ∧ BoxAt H3 p dl ∧ Keep p H H3 ∧ TxtOk i z) ⟨"", none, rfl, B2, K2, by exact ⟨rfl, fun c hc => by cases hc⟩⟩ ?_ ?_
        · rintro i σ H3 hi ⟨z, x4, rfl, B3, K3, hz⟩
          refine ⟨_, rfl, _, rfl, p, dl, 6, rfl, B3, by decide, fun r H4 r0 r1 B4 K4 => ?_⟩
          obtain ⟨j, rfl⟩ := Int.eq_ofNat_of_zero_le r0
          obtain ⟨ch, hch⟩ := six j (by omega)
          refine ⟨_, _, ch, rfl, rfl, by decide, atI_nat hch, _, _, rfl, rfl, ?_, ?_⟩
          · have := hz.1
            exact Nat.le_trans (show z.length + 1 ≤ 100 by rw [this]; omega) (by decide)
          · exact ⟨_, _, rfl, B4, K3.trans K4, hz.app hch⟩
        · rintro σ H3 ⟨z, x4, rfl, B3, K3, hz⟩
          exact ⟨_, rfl, k _ H3 (.str z) B3 K3 (.str z) ⟨rfl, hz.ok (by omega)⟩ fun ds e => by cases e⟩
      refine iteFb (decide_eq_false fun h => by have := V.int.inj h; omega) ?_
      refine ⟨_, rfl, p, dl, 3, rfl, B, by decide, fun r H2 r0 r1 B2 K2 => ⟨_, _, rfl, rfl, ⟨by decide, by decide, by decide⟩, _, rfl, p, dl, 2, rfl, B2, by decide, fun r2 H3 r20 r21 B3 K3 => ⟨_, _, rfl, rfl, .inr (by omega), _, _, rfl, rfl, ?_⟩⟩⟩
      have e1 : (2 : Int) ^ (64 : Int).toNat = 18446744073709551616 := by decide
      have e2 : (2 : Nat) ^ 80 = 1208925819614629174706176 := by decide
      have hb : (r + 2 ^ (64 : Int).toNat * r2).natAbs < 2 ^ 80 := by rw [e1, e2]; omega
      exact k _ H3 (.int (r + 2 ^ (64 : Int).toNat * r2)) B3 (K2.trans K3) (.int _) ⟨by simp [lkB, c1], hb⟩ fun ds e => by cases e
/-! the order, told by the law -/
def spLess (K : PySem.W.Frag) (L : Nat) : Sp := fun vs H Q _ => ∃ (n : Nat) (v u : V) (d e : PyData) (N M : Addr → Prop) (s : Bool), n < L ∧ vs = [v, u] ∧ Hl K H N v d ∧ Hl K H M u e ∧ TD s n d ∧ TD s n e ∧ n ≤ 10 ∧ ∀ H', Same H H' → Q (.bl (ltT n d e)) H'
theorem less0 {K : PySem.W.Frag} {vs : List V} {H : Hp} {Q : VK} {E : XK} (h : spLess K 0 vs H Q E) : False := let ⟨_, _, _, _, _, _, _, _, h, _⟩ := h; Nat.not_lt_zero _ h
theorem ok_less {L : Nat} {f : Addr} {fd : FuncData} (F : Fun K "_law_less" "_law_less" s_law_less f fd) (T : Txt K mg) (U_law_less : Use P w K mg base CX0 "_law_less" (1 + L) P_law_less (spLess K L)) : FnG P w K mg base CX0 (1 + L + 1) f fd P_law_less (spLess K (L + 1)) := by
  refine okG0 F sc_law_less (fun vs H Q E h => ?_) fun cdv A outer s H vs Q E hr hg h => ?_
  · obtain ⟨n, v, u, d, e, N, M, sx, _, rfl, _⟩ := h
    rfl
  · obtain ⟨n, v, u, d, e, N, M, sx, hnL, rfl, hv, hu, td, te, hn, k⟩ := h
    refine ⟨_, (pss_cons (ps_if (pt_not (pt_val (pe_callB call_isi (by rfl) T.b_isinstance (by decide +kernel) (pa_cons (pv 0) (pa_cons (pe_bltn (v := .ty "list") (by rfl) T.b_list (by decide +kernel) rfl) pa_nil)))))
   (pss_one (ps_ret (pe_cmpR op_ltX (pv 0) (pv 1) (nomark _))))
   pss_nil)
  (pss_cons (ps_for PassesOwn.never rfl (pi_range1 (by rfl) T.b_range (pa_cons (pe_callB (call_min2 rfl) (by rfl) T.b_min (by decide +kernel) (pa_cons (pe_callB call_len (by rfl) T.b_len PySem.boot_len (pa_cons (pv 0) pa_nil)) (pa_cons (pe_callB call_len (by rfl) T.b_len PySem.boot_len (pa_cons (pv 1) pa_nil)) pa_nil))) pa_nil)) (pg_name (i := 2) sc_law_less.nd rfl (Or.inl rfl))
   (pss_one (ps_if (pt_cmpR (op_neD hr.units) (pe_ix ix_list (pv 0) (pv 2) (fun _ _ => rfl)) (pe_ix ix_list (pv 1) (pv 2) (fun _ _ => rfl)) (nomark _))
   (pss_one (ps_ret (pe_use U_law_less (hr.mono (by omega)) hg rfl (pa_cons (pe_ix ix_list (pv 0) (pv 2) (fun _ _ => rfl)) (pa_cons (pe_ix ix_list (pv 1) (pv 2) (fun _ _ => rfl)) pa_nil)))))
   pss_nil)))
  (pss_one (ps_ret (pe_cmpR op_ltX (pe_callB call_len (by rfl) T.b_len PySem.boot_len (pa_cons (pv 0) pa_nil)) (pe_callB call_len (by rfl) T.b_len PySem.boot_len (pa_cons (pv 1) pa_nil)) (nomark _)))))), ?_⟩
    cases n with
    | zero =>
      rcases td.zero with ⟨i, rfl, t1, _⟩ | ⟨z, rfl, t1, _⟩ <;> rcases te.zero with ⟨j, rfl, t2, _⟩ | ⟨z2, rfl, t2, _⟩
      · cases hv
        cases hu
        refine ⟨_, rfl, _, _, _, _, false, rfl, .ty _, .base (.int i), kit_ty (by decide +kernel), _, rfl, iteTb rfl ?_⟩
        exact ⟨_, rfl, _, rfl, _, _, .inl ⟨i, j, .inl rfl, .inl rfl, rfl, rfl⟩, k _ (Same.refl _)⟩
      · rw [t1] at t2; cases t2
      · rw [t1] at t2; cases t2
      · cases hv
        cases hu
        refine ⟨_, rfl, _, _, _, _, false, rfl, .ty _, .base (.str z), kit_ty (by decide +kernel), _, rfl, iteTb rfl ?_⟩
        exact ⟨_, rfl, _, rfl, _, _, .inr ⟨z, z2, rfl, rfl, rfl, rfl⟩, k _ (Same.refl _)⟩
    | succ n =>
      obtain ⟨ds, rfl, l1, t1⟩ := td.succ
      obtain ⟨es, rfl, l2, t2⟩ := te.succ
      obtain ⟨a, xs, ea, aa, rfl⟩ : ∃ a xs, H a = some (.lst xs) ∧ HlAll K H N xs ds ∧ v = .ref a := by cases hv with | lst h1 _ h3 => exact ⟨_, _, h1, h3, rfl⟩
      obtain ⟨b, ys, eb, ab, rfl⟩ : ∃ a xs, H a = some (.lst xs) ∧ HlAll K H M xs es ∧ u = .ref a := by cases hu with | lst h1 _ h3 => exact ⟨_, _, h1, h3, rfl⟩
      have lx := aa.length
      have ly := ab.length
      refine ⟨_, rfl, _, _, _, _, true, rfl, .ty _, .base (.lst ea), if_pos (beq_self_eq_true _), _, rfl, iteFb rfl ?_⟩
      have em : (if (ys.length : Int) < (xs.length : Int) then (ys.length : Int) else (xs.length : Int)) = ((min xs.length ys.length : Nat) : Int) := by split <;> omega
      refine ⟨_, rfl, _, _, rfl, .inl ⟨_, SqL.of ea, rfl⟩, _, rfl, _, _, rfl, .inl ⟨_, SqL.of eb, rfl⟩, _, _, rfl, ?_⟩
      rw [em]
      refine ⟨_, rfl, by omega, by omega, ?_⟩
      refine for_range (lo := 0) (n := min xs.length ys.length) (fun i σ H3 => ∃ (x2 : Option V), σ = [some (.ref a), some (.ref b), x2] ∧ Same H H3 ∧ ∀ (j : Nat) (x y : PyData), j < i → ds[j]? = some x → es[j]? = some y → PyData.eqv x y = true) ⟨none, rfl, Same.refl _, fun j _ _ h => absurd h (Nat.not_lt_zero j)⟩ ?_ ?_
      · rintro i σ H3 hi ⟨x2, rfl, S3, hall⟩
        have hx : xs[i]? = some xs[i] := List.getElem?_eq_getElem (by omega)
        have hy : ys[i]? = some ys[i] := List.getElem?_eq_getElem (by omega)
        generalize xs[i] = x at hx
        generalize ys[i] = y at hy
        obtain ⟨d1, hd1, k1⟩ := aa.getV hx
        obtain ⟨e1, he1, k2⟩ := ab.getV hy
        have q1 := t1 _ (List.mem_of_getElem? hd1)
        have q2 := t2 _ (List.mem_of_getElem? he1)
        have atx : atI xs (0 + (i : Int)) = some x := by rw [show 0 + (i : Int) = ((i : Nat) : Int) by omega]; exact atI_nat hx
        have aty : atI ys (0 + (i : Int)) = some y := by rw [show 0 + (i : Int) = ((i : Nat) : Int) by omega]; exact atI_nat hy
        refine ⟨_, rfl, _, rfl, a, _, _, x, rfl, rfl, SqL.of (S3 _ _ ea), atx, _, rfl, _, rfl, b, _, _, y, rfl, rfl, SqL.of (S3 _ _ eb), aty, d1, e1, (k1.mono S3).dp, (k2.mono S3).dp, q1.shp.sh (by omega), q2.shp.sh (by omega), _, rfl, ?_⟩
        cases c : PyData.eqv d1 e1 with
        | true =>
          refine iteFb rfl ⟨_, rfl, S3, fun j x' y' hj hx' hy' => ?_⟩
          by_cases cj : j < i
          · exact hall j x' y' cj hx' hy'
          · obtain rfl : j = i := by omega
            rw [hd1] at hx'
            rw [he1] at hy'
            cases hx'
            cases hy'
            exact c
        | false =>
          refine iteTb rfl ?_
          have el : ltT (n + 1) (.list ds) (.list es) = ltT n d1 e1 := ltL_at hd1 he1 hall c
          exact ⟨_, rfl, _, rfl, a, _, _, x, rfl, rfl, SqL.of (S3 _ _ ea), atx, _, rfl, _, rfl, b, _, _, y, rfl, rfl, SqL.of (S3 _ _ eb), aty, n, x, y, d1, e1, N, M, sx, by omega, rfl, k1.mono S3, k2.mono S3, q1, q2, by omega, fun H' S' => by rw [← el]; exact k H' (S3.trans S')⟩
      · rintro σ H3 ⟨x2, rfl, S3, hall⟩
        have el : ltT (n + 1) (.list ds) (.list es) = decide (ds.length < es.length) := ltL_end fun j x y h1 h2 => hall j x y (by
          have := (List.getElem?_eq_some_iff.mp h1).1
          have := (List.getElem?_eq_some_iff.mp h2).1
          omega) h1 h2
        refine ⟨_, rfl, _, _, rfl, .inl ⟨_, SqL.of (S3 _ _ ea), rfl⟩, _, rfl, _, _, rfl, .inl ⟨_, SqL.of (S3 _ _ eb), rfl⟩, _, _, .inl ⟨_, _, .inl rfl, .inl rfl, rfl, rfl⟩, ?_⟩
        have := k H3 S3
        rw [el] at this
        rw [show decide ((xs.length : Int) < (ys.length : Int)) = decide (ds.length < es.length) from decide_eq_decide.mpr (by omega)]
        exact this
end

section
--SPLIT
end
section
variable {P : Program} {w : World} {K : PySem.W.Frag} {mg : Str → Option Value} {base : Heap}
/-! the drawn thing in the heap -/
structure VP (M : Nat) (v : Vl) : Prop where
  ok : vOk v
  lt : ∀ k, v = .ref k → k < M
  sm : (∀ k, v ≠ .ref k) → Sm (vlD v) 1 6000
theorem VP.mono {M M' : Nat} {v : Vl} (h : VP M v) (hm : M ≤ M') : VP M' v := ⟨h.ok, fun k e => Nat.lt_of_lt_of_le (h.lt k e) hm, h.sm⟩
def RP (M : Nat) (kd : Bool) (r : Row) : Prop := ∃ vs, r = mkR kd vs ∧ vs.length ≤ 8 ∧ ∀ v ∈ vs, VP M v
theorem RP.mono {M M' : Nat} {kd : Bool} {r : Row} (h : RP M kd r) (hm : M ≤ M') : RP M' kd r := let ⟨vs, a, b, c⟩ := h; ⟨vs, a, b, fun v hv => (c v hv).mono hm⟩
def szN : Nat → Nat
  | 0 => 0
  | n + 1 => 1 + 8 * szN n
theorem sm_int80 {i : Int} (h : i.natAbs < 2 ^ 80) : Sm (.int i) 0 2000 := Sm.int (Nat.lt_of_lt_of_le h (Nat.pow_le_pow_right (by decide) (by decide)))
theorem vp_leaf {M : Nat} {d : PyData} {s : Bool} {rows : List Row} {kd : Bool} {x : Vl} (hv : VT rows kd 0 x d) (ht : TD s 0 d) (hb : ∀ i, x = .int i → d = .int i) : VP M x := by
  refine ⟨hv.ok ht, fun k e => ?_, fun _ => ?_⟩
  · subst e
    rcases hv with ⟨i, hi, _⟩ | ⟨z, hz, _⟩
    · cases hi
    · cases hz
  · rcases hv with ⟨i, hi, rfl⟩ | ⟨z, rfl, rfl⟩
    · cases x with
      | bool b => exact (Sm.tup (.cons (Sm.short (n := "bool") (by decide +kernel)) (.cons (Sm.bool b) .nil))).mono (by decide) (by decide)
      | int j =>
        cases hi
        exact (Sm.tup (.cons (Sm.short (n := "int") (by decide +kernel)) (.cons (sm_int80 ht.2) .nil))).mono (by decide) (by decide)
      | _ => cases hi
    · exact (Sm.tup (.cons (Sm.short (n := "text") (by decide +kernel)) (.cons (Sm.short ht.2.1) .nil))).mono (by decide) (by decide)
def knd2 (kd : Bool) : Str := if kd = true then "list" else "tuple"
def spPut (K : PySem.W.Frag) (L : Nat) : Sp := fun vs H Q _ => ∃ (n : Nat) (p dl hp : Addr) (rows : List Row) (v : V) (d : PyData) (N : Addr → Prop) (s kd : Bool), n < L ∧ vs = [.ref p, .ref hp, v, .str (knd2 kd)] ∧ BoxAt H p dl ∧ hp ≠ p ∧ hp ≠ dl ∧ ListAt K H hp (rows.map rowD) ∧ Hl K H N v d ∧ (∀ a, N a → a ≠ p ∧ a ≠ hp) ∧ TD s n d ∧ rows.length + szN n ≤ 1000 ∧
    ∀ u H' x rows', BoxAt H' p dl → KeepL p hp H H' → ListAt K H' hp ((rows ++ rows').map rowD) → Dt K H' u (vlD x) → VT (rows ++ rows') kd n x d → VP (rows.length + rows'.length) x → (∀ r ∈ rows', RP (rows.length + rows'.length) kd r) → rows'.length ≤ szN n → Q u H'
theorem put0 {K : PySem.W.Frag} {vs : List V} {H : Hp} {Q : VK} {E : XK} (h : spPut K 0 vs H Q E) : False := let ⟨_, _, _, _, _, _, _, _, _, _, h, _⟩ := h; Nat.not_lt_zero _ h
theorem ok_lput {M : Nat} {f : Addr} {fd : FuncData} (F : Fun K "_law_put" "_law_put" s_law_put f fd) (T : Txt K mg) (U_law_put : Use P w K mg base CX0 "_law_put" (2 + M) P_law_put (spPut K M)) (U_law_draw : Use P w K mg base CX0 "_law_draw" 1 P_law_draw (spDraw K)) : FnG P w K mg base CX0 (2 + M + 1) f fd P_law_put (spPut K (M + 1)) := by
  refine okG0 F sc_law_put (fun vs H Q E h => ?_) fun cdv A outer s H vs Q E hr hg h => ?_
  · obtain ⟨n, p, dl, hp, rows, v, d, N, sx, kd, _, rfl, _⟩ := h
    rfl
  · obtain ⟨n, p, dl, hp, rows, v, d, N, sx, kd, hnM, rfl, B, n1, n2, L, hv, hN, td, hb, k⟩ := h
    refine ⟨_, (pss_cons (ps_if (pt_val (pe_callB call_isi (by rfl) T.b_isinstance (by decide +kernel) (pa_cons (pv 2) (pa_cons (pe_bltn (v := .ty "str") (by rfl) T.b_str (by decide +kernel) rfl) pa_nil))))
   (pss_one (ps_ret (pe_tup (pa_cons pe_str (pa_cons (pv 2) pa_nil)))))
   pss_nil)
  (pss_cons (ps_if (pt_val (pe_callB call_isi (by rfl) T.b_isinstance (by decide +kernel) (pa_cons (pv 2) (pa_cons (pe_bltn (v := .ty "int") (by rfl) T.b_int (by decide +kernel) rfl) pa_nil))))
   (pss_cons (ps_if (PW.pt (pw_and (pt_cmpR op_in_seq (pv 2) (pe_tup (pa_cons pe_int (pa_cons pe_int pa_nil))) (by rfl)) (pw_and1 (pt_cmpR op_eq (pe_use U_law_draw (hr.mono (by omega)) hg rfl (pa_cons (pv 0) (pa_cons pe_int pa_nil))) pe_int (nomark _)))))
   (pss_one (ps_ret (pe_tup (pa_cons pe_str (pa_cons (pe_cmpR op_eq (pv 2) pe_int (nomark _)) pa_nil)))))
   pss_nil)
  (pss_one (ps_ret (pe_tup (pa_cons pe_str (pa_cons (pv 2) pa_nil))))))
   pss_nil)
  (pss_cons (ps_set (i := 4) sc_law_put.nd rfl (Or.inl rfl) (pe_lst pa_nil))
  (pss_cons (ps_for PassesOwn.never rfl (pi_list (pv 2)) (pg_name (i := 5) sc_law_put.nd rfl (Or.inl rfl))
   (pss_one (ps_expr (pe_bm PySem.F.plainAttrs_list PySem.F.slot_list_append PySem.F.type_list_append mt_append (pv 4) (pa_cons (pe_use U_law_put (hr.mono (by omega)) hg rfl (pa_cons (pv 0) (pa_cons (pv 1) (pa_cons (pv 5) (pa_cons (pv 3) pa_nil))))) pa_nil)))))
  (pss_cons (ps_expr (pe_bm PySem.F.plainAttrs_list PySem.F.slot_list_append PySem.F.type_list_append mt_append (pv 1) (pa_cons (pe_tup (pa_cons (pv 3) (pa_cons (pe_callTy call_tuple_of (by rfl) T.b_tuple (by decide +kernel) (pa_cons (pv 4) pa_nil)) pa_nil))) pa_nil)))
  (pss_one (ps_ret (pe_tup (pa_cons pe_str (pa_cons (pe_op op_sub (pe_callB call_len (by rfl) T.b_len PySem.boot_len (pa_cons (pv 1) pa_nil)) pe_int) pa_nil)))))))))), ?_⟩
    cases n with
    | zero =>
      rcases td.zero with ⟨i, rfl, t1, t2⟩ | ⟨z, rfl, t1, t2⟩
      · cases hv
        refine ⟨_, rfl, _, _, _, _, false, rfl, .ty _, .base (.int i), kit_ty (by decide +kernel), _, rfl, iteFb rfl ?_⟩
        refine ⟨_, rfl, _, _, _, _, true, rfl, .ty _, .base (.int i), if_pos (beq_self_eq_true _), _, rfl, iteTb rfl ?_⟩
        have hfin : ∀ {H2 : Hp} (z : Str) (w1 : V) (x : Vl) (d1 : PyData), BoxAt H2 p dl → Keep p H H2 → vlD x = .tuple [.str z, d1] → (∀ H', Dt K H' w1 d1) → numV x = some i → ∀ u, H2 u = none → Q (.ref u) (upd H2 u (.tup [.str z, w1])) := fun {H2} z w1 x d1 B2 kL ex hw hn u hu => by
          have S2 := Same.new (o := .tup [V.str z, w1]) hu
          have hx : VT rows kd 0 x (.int i) := .inl ⟨i, hn, rfl⟩
          have L2 : ListAt K H2 hp (rows.map rowD) := listAt_keep L kL n1 B.at_
          refine k _ _ x [] (B2.same S2) (fun b o e h1 _ => S2 _ _ (kL _ _ e h1)) (by rw [List.append_nil]; exact listAt_mono L2 S2) ?_ (by rw [List.append_nil]; exact hx) (vp_leaf (s := sx) hx ⟨t1, t2⟩ fun i e => by subst e; cases hn; rfl) (fun _ h => nomatch h) (Nat.zero_le _)
          rw [ex]
          exact Dt.made hu (.cons (.str _) (.cons (hw _) .nil))
        have hin : inV (.int i) [V.int 0, V.int 1] = decide (i = 0 ∨ i = 1) := by
          unfold inV
          simp [eqV]
          have eb : ∀ a b : Int, (a == b) = decide (b = a) := fun a b => by
            by_cases h : b = a
            · rw [h, decide_eq_true rfl]; exact beq_self_eq_true a
            · rw [decide_eq_false h]; exact beq_eq_false_iff_ne.mpr (Ne.symm h)
          rw [eb, eb]
        refine ⟨_, rfl, sz_2, fun u hu => ⟨u, _, rfl, .inr (SqT.of upd_same), rfl, rfl, _, rfl, ?_⟩⟩
        rw [if_neg Bool.false_ne_true, hin]
        have S1 := Same.new (o := .tup [V.int 0, V.int 1]) hu
        generalize upd H u (.tup [V.int 0, V.int 1]) = H1 at S1 ⊢
        have B1 := B.same S1
        by_cases c : i = 0 ∨ i = 1
        · refine iteTb (decide_eq_true c) ?_
          refine ⟨_, rfl, p, dl, 2, rfl, B1, by decide, fun r H2 r0 r1 B2 K2 => ⟨rfl, _, rfl, ?_⟩⟩
          have K02 : Keep p H H2 := (Same.keep S1).trans K2
          by_cases cr : r = 0
          · refine iteTb (decide_eq_true (by rw [cr])) ?_
            refine ⟨_, rfl, rfl, sz_2, fun q hq => ?_⟩
            refine hfin "bool" _ (.bool (decide (V.int i = V.int 1))) (.bool (decide (V.int i = V.int 1))) B2 K02 rfl (fun _ => .bl _) ?_ q hq
            rcases c with rfl | rfl <;> rfl
          · refine iteFb (decide_eq_false fun h => cr (V.int.inj h)) ?_
            exact ⟨_, rfl, sz_2, fun q hq => hfin "int" _ (.int i) (.int i) B2 K02 rfl (fun _ => .int _) rfl q hq⟩
        · rw [decide_eq_false c]
          exact iteFb rfl ⟨_, rfl, sz_2, fun q hq => hfin "int" _ (.int i) (.int i) B1 (Same.keep S1) rfl (fun _ => .int _) rfl q hq⟩
      · cases hv
        refine ⟨_, rfl, _, _, _, _, true, rfl, .ty _, .base (.str z), if_pos (beq_self_eq_true _), _, rfl, iteTb rfl ?_⟩
        refine ⟨_, rfl, sz_2, fun u hu => ?_⟩
        have S1 := Same.new (o := .tup [V.str "text", V.str z]) hu
        have hx : VT rows kd 0 (.text z) (.str z) := .inr ⟨z, rfl, rfl⟩
        exact k _ _ (.text z) [] (B.same S1) (fun b o e _ _ => S1 b o e) (by rw [List.append_nil]; exact listAt_mono L S1) (Dt.made hu (.cons (.str _) (.cons (.str _) .nil))) (by rw [List.append_nil]; exact hx) (vp_leaf (s := sx) hx ⟨t1, t2⟩ fun i e => by cases e) (fun _ h => nomatch h) (Nat.zero_le _)
    | succ n =>
      obtain ⟨ds, rfl, l1, t1⟩ := td.succ
      obtain ⟨a, xs, ea, na, aa, rfl⟩ : ∃ a xs, H a = some (.lst xs) ∧ N a ∧ HlAll K H N xs ds ∧ v = .ref a := by cases hv with | lst h1 h2 h3 => exact ⟨_, _, h1, h2, h3, rfl⟩
      obtain ⟨nap, nah⟩ := hN a na
      refine ⟨_, rfl, _, _, _, _, false, rfl, .ty _, .base (.lst ea), kit_ty (by decide +kernel), _, rfl, iteFb rfl ?_⟩
      refine ⟨_, rfl, _, _, _, _, false, rfl, .ty _, .base (.lst ea), kit_ty (by decide +kernel), _, rfl, iteFb rfl ?_⟩
      refine ⟨sz_0, fun l hl => ?_⟩
      have lx := aa.length
      obtain ⟨nlp, nld⟩ := B.ne_new hl
      have nlh : hp ≠ l := let ⟨_, e, _⟩ := L; ne_of_none e hl
      have nla : a ≠ l := ne_of_none ea hl
      have S1 := Same.new (o := .lst []) hl
      have B1 := B.same S1
      have L1 := listAt_mono L S1
      have e1 := upd_same (H := H) (a := l) (o := HO.lst [])
      have ea1 := S1 _ _ ea
      have aa1 := aa.mono S1
      generalize upd H l (.lst []) = H1 at S1 B1 L1 e1 ea1 aa1
      refine ⟨_, rfl, a, rfl, ⟨_, SqL.of ea1⟩, ?_⟩
      refine for_it (walk_list (xs := xs)) (fun i σ H2 => ∃ (ys : List V) (vs : List Vl) (rows1 : List Row) (x5 : Option V), σ = [some (.ref p), some (.ref hp), some (.ref a), some (.str (knd2 kd)), some (.ref l), x5] ∧ BoxAt H2 p dl ∧ KeepL p hp H H2 ∧ ListAt K H2 hp ((rows ++ rows1).map rowD) ∧ H2 l = some (.lst ys) ∧ DtAll K H2 ys (vs.map vlD) ∧ P2 (VT (rows ++ rows1) kd n) vs (ds.take i) ∧
          rows1.length ≤ i * szN n ∧ (∀ r ∈ rows1, RP (rows.length + rows1.length) kd r) ∧ (∀ v ∈ vs, VP (rows.length + rows1.length) v)) ⟨[], [], [], none, rfl, B1, (fun b o e _ _ => S1 b o e), by rw [List.append_nil]; exact L1, e1, .nil, .nil, by simp, (fun _ h => nomatch h), fun _ h => nomatch h⟩ (fun _ _ _ _ ⟨_, _, _, _, _, _, kL, _⟩ => SqL.of (kL _ _ ea nap nah)) ?_ ?_
      · rintro i v σ H2 H3 hi ⟨ys, vs, rows1, x5, rfl, B2, kL, L2, e2, dv2, hP, hr1, hR, hV⟩ ⟨rfl, hx⟩
        obtain ⟨d1, hd1, hv1⟩ := aa.getV hx
        have lvs := hP.length
        rw [List.length_take] at lvs
        have ldv := dv2.length
        rw [List.length_map] at ldv
        have hil : i < ds.length := by omega
        have hmul : (i + 1) * szN n ≤ 8 * szN n := Nat.mul_le_mul_right _ (by omega)
        have hmul2 : (i + 1) * szN n = i * szN n + szN n := by rw [Nat.add_mul, Nat.one_mul]
        have hb' : rows.length + (1 + 8 * szN n) ≤ 1000 := hb
        refine ⟨_, rfl, .inl ⟨rfl, _, SqL.of e2⟩, _, rfl, _, rfl, _, rfl, _, rfl, n, p, dl, hp, rows ++ rows1, v, d1, N, sx, kd, by omega, rfl, B2, n1, n2, L2, hv1.up (fun b o hb e => kL b o e (hN b hb).1 (hN b hb).2) (fun _ _ h _ => h), hN, t1 _ (List.mem_of_getElem? hd1), by rw [List.length_append]; omega, fun u H4 x rows2 B4 kL4 L4 du hx4 vp4 hR4 hr4 => ?_⟩
        rw [List.append_assoc] at L4 hx4
        rw [List.length_append] at vp4 hR4
        have e4 := kL4 _ _ e2 nlp nlh.symm
        have kT4 : KeepT K H3 H4 := let ⟨_, hb⟩ := B2.at_; let ⟨_, hh, _⟩ := L2; keepT_L hb hh kL4
        refine ⟨l, _, _, rfl, rfl, e4, js_lt (by omega), ?_⟩
        have S5 : KeepD l H4 (upd H4 l (.lst (ys ++ [u]))) := fun b o e ne => by rw [upd_ne ne]; exact e
        have kT5 : KeepT K H4 (upd H4 l (.lst (ys ++ [u]))) := KeepT.upd e4
        refine ⟨ys ++ [u], vs ++ [x], rows1 ++ rows2, _, rfl, B4.upd nlp nld, fun b o e h1 h2 => ?_, listAt_D L4 S5 kT5 nlh, upd_same, ?_, ?_, by rw [List.length_append]; omega, fun r hr => ?_, fun v hv => ?_⟩
        · rw [upd_ne (ne_of_none e hl)]
          exact kL4 _ _ (kL _ _ e h1 h2) h1 h2
        · rw [List.map_append]
          exact DtAll.app ((dv2.keepT kT4).keepT kT5) (.cons (du.keepT kT5) .nil)
        · rw [List.take_succ, hd1]
          refine P2.app (.cons hx4 .nil) (P2.imp (fun a b h => ?_) hP)
          have := VT.up rows2 h
          rw [List.append_assoc] at this
          exact this
        · rw [List.length_append, ← Nat.add_assoc]
          rcases List.mem_append.mp hr with h | h
          · exact (hR r h).mono (by omega)
          · exact hR4 r h
        · rw [List.length_append, ← Nat.add_assoc]
          rcases List.mem_append.mp hv with h | h
          · exact (hV v h).mono (by omega)
          · rw [List.mem_singleton.mp h]; exact vp4
      · rintro σ H2 ⟨ys, vs, rows1, x5, rfl, B2, kL, L2, e2, dv2, hP, hr1, hR, hV⟩
        rw [lx, List.take_length] at hP
        have ldv := dv2.length
        rw [List.length_map] at ldv
        have lP := hP.length
        obtain ⟨zs, ez, az⟩ := L2
        have lz := az.length
        rw [List.length_map, List.length_append] at lz
        have hb' : rows.length + (1 + 8 * szN n) ≤ 1000 := hb
        have hmul : xs.length * szN n ≤ 8 * szN n := Nat.mul_le_mul_right _ (by omega)
        refine ⟨_, rfl, .inl ⟨rfl, _, SqL.of ez⟩, _, rfl, _, rfl, l, ys, rfl, .inl ⟨SqL.of e2, fun t ht => ⟨sz_2, fun q hq => ?_⟩⟩⟩
        have S3 := Same.new (o := .tup ys) ht
        have dt : Dt K (upd H2 t (.tup ys)) (.ref t) (.tuple (vs.map vlD)) := Dt.made ht dv2
        generalize upd H2 t (.tup ys) = H3 at S3 dt hq ⊢
        have S4 := S3.trans (Same.new (o := .tup [V.str (knd2 kd), V.ref t]) hq)
        have dq : Dt K (upd H3 q (.tup [.str (knd2 kd), .ref t])) (.ref q) (rowD (mkR kd vs)) := by
          rw [show rowD (mkR kd vs) = .tuple [.str (knd2 kd), .tuple (vs.map vlD)] by cases kd <;> rfl]
          exact Dt.made hq (.cons (.str _) (.cons dt .nil))
        generalize upd H3 q (.tup [.str (knd2 kd), .ref t]) = H4 at S4 dq ⊢
        have ez4 := S4 _ _ ez
        have az4 := DtAll.mono S4 az
        refine ⟨hp, _, _, rfl, rfl, ez4, js_lt (by omega), ?_⟩
        have kT5 : KeepT K H4 (upd H4 hp (.lst (zs ++ [.ref q]))) := KeepT.upd ez4
        have L5 : ListAt K (upd H4 hp (.lst (zs ++ [.ref q]))) hp ((rows ++ (rows1 ++ [mkR kd vs])).map rowD) := ⟨_, upd_same, by
          rw [← List.append_assoc, List.map_append]
          exact DtAll.app (az4.keepT kT5) (.cons (dq.keepT kT5) .nil)⟩
        have kL5 : KeepL p hp H (upd H4 hp (.lst (zs ++ [.ref q]))) := fun b o e h1 h2 => by
          rw [upd_ne h2]
          exact S4 _ _ (kL _ _ e h1 h2)
        have B5 := (B2.same S4).upd (o := .lst (zs ++ [.ref q])) n1 n2
        have e5 := upd_same (H := H4) (a := hp) (o := HO.lst (zs ++ [V.ref q]))
        generalize upd H4 hp (.lst (zs ++ [.ref q])) = H5 at L5 kL5 B5 e5 ⊢
        refine ⟨_, rfl, _, _, rfl, .inl ⟨_, SqL.of e5, rfl⟩, _, _, rfl, rfl, sz_2, fun z hz => ?_⟩
        have S6 := Same.new (o := .tup [V.str "ref", V.int (((zs ++ [V.ref q]).length : Int) - 1)]) hz
        have dz : Dt K (upd H5 z (.tup [V.str "ref", V.int (((zs ++ [V.ref q]).length : Int) - 1)])) (.ref z) (vlD (.ref (rows.length + rows1.length))) := by
          show Dt K _ _ (.tuple [.str "ref", .int (((rows.length + rows1.length : Nat)) : Int)])
          have e : (((rows.length + rows1.length : Nat)) : Int) = ((zs ++ [V.ref q]).length : Int) - 1 := by rw [List.length_append, lz]; simp
          rw [e]
          exact Dt.made hz (.cons (.str _) (.cons (.int _) .nil))
        refine k _ _ (.ref (rows.length + rows1.length)) (rows1 ++ [mkR kd vs]) (B5.same S6) (fun b o e h1 h2 => S6 _ _ (kL5 _ _ e h1 h2)) (listAt_mono L5 S6) dz ⟨_, vs, ds, rfl, ?_, rfl, P2.imp (fun a b h => ?_) hP⟩ ⟨trivial, fun k e => ?_, fun h => absurd rfl (h _)⟩ (fun r hr => ?_) ?_
        · rw [← List.append_assoc, ← List.length_append, List.getElem?_append_right (Nat.le_refl _), Nat.sub_self]
          rfl
        · have := VT.up [mkR kd vs] h
          rw [List.append_assoc] at this
          exact this
        · cases e
          rw [List.length_append, List.length_singleton]
          omega
        · rw [List.length_append, List.length_singleton]
          rcases List.mem_append.mp hr with h | h
          · exact (hR r h).mono (by omega)
          · rw [List.mem_singleton.mp h]
            exact ⟨vs, rfl, by omega, fun v hv => (hV v hv).mono (by omega)⟩
        · show _ ≤ 1 + 8 * szN n
          rw [List.length_append, List.length_singleton]
          omega
end

section
--SPLIT
end
abbrev s_law : Stmt := top 43
abbrev N_law : List Str := ["script", "box", "depth", "like", "one", "two", "kind", "heap", "a", "b", "kept", "less", "more", "same", "dues", "due"]
abbrev P_law : List Str := ["script"]
theorem sc_law : FnScope N_law P_law (defScope s_law) := ⟨rfl, rfl, rfl, by decide +kernel, rfl, by decide +kernel, by decide +kernel⟩
section
variable {P : Program} {w : World} {K : PySem.W.Frag} {mg : Str → Option Value} {base : Heap}
def spLaw (K : PySem.W.Frag) : Sp := fun vs H Q _ => ∃ (a : Addr) (ns : List Int), vs = [.ref a] ∧ SqL K H a (ns.map V.int) ∧ ns.length ≤ 63 ∧ ∀ H', Q (.bl true) H'
theorem good_rows {rows : List Row} {kd : Bool} (h : ∀ r ∈ rows, RP rows.length kd r) : ∀ r ∈ rows, GoodR (wordR []) rows r := fun r hr => by
  obtain ⟨vs, rfl, hl, hv⟩ := h r hr
  have evl : vals (mkR kd vs) = vs := by cases kd <;> rfl
  have ho : isOth (mkR kd vs) := by cases kd <;> trivial
  have hlen : rlen (mkR kd vs) ≤ 1000 := by cases kd <;> exact Nat.le_trans hl (by decide)
  have hnd : ∀ es, mkR kd vs ≠ .dct es := fun es e => by cases kd <;> cases e
  refine ⟨⟨ho, hlen⟩, (fun es e => absurd e (hnd es)), fun v hvv => ?_⟩
  rw [evl] at hvv
  exact ⟨(hv v hvv).ok, (hv v hvv).lt⟩
theorem VP.sm2 {v : Vl} (h : VP 100 v) : Sm (vlD v) 1 6000 := by
  by_cases c : ∃ k, v = .ref k
  · obtain ⟨k, rfl⟩ := c
    have := h.lt k rfl
    exact (Sm.tup (.cons (Sm.short (n := "ref") (by decide +kernel)) (.cons (sm_int80 (i := ((k : Nat) : Int)) (Nat.lt_of_lt_of_le (show ((k : Nat) : Int).natAbs < 2 ^ 20 by omega) (Nat.pow_le_pow_right (by decide) (by decide)))) .nil))).mono (by decide) (by decide)
  · exact h.sm fun k e => c ⟨k, e⟩
theorem show_heap {rows : List Row} {kd : Bool} (h : ∀ r ∈ rows, RP rows.length kd r) (hl : rows.length ≤ 20) : ShowOk (.list (rows.map rowD)) := by
  have h1 : ∀ d ∈ rows.map rowD, Sm d 5 100000 := fun d hd => by
    obtain ⟨r, hr, rfl⟩ := List.mem_map.mp hd
    obtain ⟨vs, rfl, hv8, hv⟩ := (h r hr).mono (show rows.length ≤ 100 by omega)
    have h2 : ∀ d ∈ vs.map vlD, Sm d 1 6000 := fun d hd => by
      obtain ⟨v, hv1, rfl⟩ := List.mem_map.mp hd
      exact (hv v hv1).sm2
    have h3 : Sm (.tuple (vs.map vlD)) 2 60000 := (Sm.tup (SmAll.many h2)).mono (by decide) (by rw [List.length_map]; omega)
    have key : ∀ z : Str, shortS z = true → Sm (.tuple [.str z, .tuple (vs.map vlD)]) 5 100000 := fun z hz => (Sm.tup (.cons (Sm.short hz) (.cons h3 .nil))).mono (by decide) (by decide)
    cases kd
    · exact key "tuple" (by decide +kernel)
    · exact key "list" (by decide +kernel)
  refine (Sm.lst (SmAll.many h1)).show (by decide) ?_
  rw [List.length_map]
  exact Nat.le_trans (show _ ≤ 2000043 by omega) (by decide)
theorem HlAll.drop {H : Hp} {N : Addr → Prop} : ∀ (n : Nat) {vs : List V} {ds : List PyData}, HlAll K H N vs ds → HlAll K H N (vs.drop n) (ds.drop n)
  | 0, _, _, h => h
  | n + 1, _, _, .nil => .nil
  | n + 1, _, _, .cons _ h => HlAll.drop n h
theorem hl_cut {H : Hp} {N : Addr → Prop} {vs : List V} {ds : List PyData} (h : HlAll K H N vs ds) (lo hi : Option Int) : ∃ ds', HlAll K H N (cutV vs lo hi) ds' ∧ ds'.length ≤ ds.length ∧ ∀ d ∈ ds', d ∈ ds :=
  ⟨_, (h.drop _).take _, by rw [List.length_take, List.length_drop]; omega, fun d hd => List.mem_of_mem_drop (List.mem_of_mem_take hd)⟩
def DuesAt (p q r : Bool) (H : Hp) (dq : Addr) : Prop := ∃ ws, H dq = some (.lst ws) ∧ ∀ w ∈ ws, ∃ (z : Addr) (op : Str) (b : Bool), w = .ref z ∧ H z = some (.lst [.str op, .bl b]) ∧ op ∈ (["<", "<=", ">", ">=", "==", "!="] : List Str) ∧ b = cmpO op p q r
theorem szN_le : ∀ {n : Nat}, n < 3 → szN n ≤ 9 := fun {n} h => by
  rcases n with _ | _ | _ | n <;> first | decide | omega
theorem ok_law {f : Addr} {fd : FuncData} (F : Fun K "law" "law" s_law f fd) (T : Txt K mg) (U_law_digits : Use P w K mg base CX0 "_law_digits" 2 P_law_digits (spDigits K)) (U_law_draw : Use P w K mg base CX0 "_law_draw" 1 P_law_draw (spDraw K)) (U_law_thing : Use P w K mg base CX0 "_law_thing" 5 P_law_thing (spThing K 3)) (U_law_put : Use P w K mg base CX0 "_law_put" 5 P_law_put (spPut K 3)) (U_law_less : Use P w K mg base CX0 "_law_less" 4 P_law_less (spLess K 3))
    (U_law_same : Use P w K mg base CX0 "_law_same" 1 P_law_same (spSame K)) (U_compare : Use P w K mg base CX0 "compare" 10 P_compare (spCompare K)) : FnG P w K mg base CX0 11 f fd P_law (spLaw K) := by
  refine okG0 F sc_law (fun vs H Q E h => ?_) fun cdv A outer s H vs Q E hr hg h => ?_
  · obtain ⟨a, ns, rfl, _⟩ := h
    rfl
  · obtain ⟨a, ns, rfl, hs, hn, k⟩ := h
    refine ⟨_, (pss_cons (ps_set (i := 1) sc_law.nd rfl (Or.inl rfl) (pe_lst (pa_cons (pe_use U_law_digits (hr.mono (by decide)) hg rfl (pa_cons (pv 0) (pa_cons pe_int (pa_cons pe_int pa_nil)))) (pa_cons pe_int pa_nil))))
  (pss_cons (ps_set (i := 2) sc_law.nd rfl (Or.inl rfl) (pe_use U_law_draw (hr.mono (by decide)) hg rfl (pa_cons (pv 1) (pa_cons pe_int pa_nil))))
  (pss_cons (ps_set (i := 3) sc_law.nd rfl (Or.inl rfl) (pe_use U_law_draw (hr.mono (by decide)) hg rfl (pa_cons (pv 1) (pa_cons pe_int pa_nil))))
  (pss_cons (ps_set (i := 4) sc_law.nd rfl (Or.inl rfl) (pe_use U_law_thing (hr.mono (by decide)) hg rfl (pa_cons (pv 1) (pa_cons (pv 2) (pa_cons (pv 3) pa_nil)))))
  (pss_cons (ps_set (i := 5) sc_law.nd rfl (Or.inl rfl) (pe_use U_law_thing (hr.mono (by decide)) hg rfl (pa_cons (pv 1) (pa_cons (pv 2) (pa_cons (pv 3) pa_nil)))))
  (C8.pss_cut (ps_if (PW.pt (pw_and (pt_cmpR op_gt (pv 2) pe_int (nomark _)) (pw_and1 (pt_cmpR op_eq (pe_use U_law_draw (hr.mono (by decide)) hg rfl (pa_cons (pv 1) (pa_cons pe_int pa_nil))) pe_int (nomark _)))))
   (pss_one (ps_set (i := 5) sc_law.nd rfl (Or.inl rfl) (pe_op op_cat (pe_slice sl_list (pv 4) po_none (po_some (pe_use U_law_draw (hr.mono (by decide)) hg rfl (pa_cons (pv 1) (pa_cons pe_int pa_nil))))) (pv 5))))
   pss_nil)
  (pss_cons (ps_set (i := 6) sc_law.nd rfl (Or.inl rfl) (pe_ix ix_list (pe_lst (pa_cons pe_str (pa_cons pe_str pa_nil))) (pe_use U_law_draw (hr.mono (by decide)) hg rfl (pa_cons (pv 1) (pa_cons pe_int pa_nil))) (fun _ _ => rfl)))
  (pss_cons (ps_set (i := 7) sc_law.nd rfl (Or.inl rfl) (pe_lst pa_nil))
  (pss_cons (ps_set (i := 8) sc_law.nd rfl (Or.inl rfl) (pe_use U_law_put (hr.mono (by decide)) hg rfl (pa_cons (pv 1) (pa_cons (pv 7) (pa_cons (pv 4) (pa_cons (pv 6) pa_nil))))))
  (pss_cons (ps_set (i := 9) sc_law.nd rfl (Or.inl rfl) (pe_use U_law_put (hr.mono (by decide)) hg rfl (pa_cons (pv 1) (pa_cons (pv 7) (pa_cons (pv 5) (pa_cons (pv 6) pa_nil))))))
  (pss_cons (ps_set (i := 10) sc_law.nd rfl (Or.inl rfl) (pe_callB (call_repr_data hg hr.units) (by rfl) T.b_repr (by decide +kernel) (pa_cons (pv 7) pa_nil)))
  (pss_cons (ps_set (i := 11) sc_law.nd rfl (Or.inl rfl) (pe_use U_law_less (hr.mono (by decide)) hg rfl (pa_cons (pv 4) (pa_cons (pv 5) pa_nil))))
  (pss_cons (ps_set (i := 12) sc_law.nd rfl (Or.inl rfl) (pe_use U_law_less (hr.mono (by decide)) hg rfl (pa_cons (pv 5) (pa_cons (pv 4) pa_nil))))
  (pss_cons (ps_set (i := 13) sc_law.nd rfl (Or.inl rfl) (pe_cmpR (op_eqD hr.units) (pv 4) (pv 5) (nomark _)))
  (C8.pss_cut (ps_set (i := 14) sc_law.nd rfl (Or.inl rfl) (pe_lst (pa_cons (pe_lst (pa_cons pe_str (pa_cons (pv 11) pa_nil))) (pa_cons (pe_lst (pa_cons pe_str (pa_cons (pe_or (pv 11) (pe_one (pv 13))) pa_nil))) (pa_cons (pe_lst (pa_cons pe_str (pa_cons (pv 12) pa_nil))) (pa_cons (pe_lst (pa_cons pe_str (pa_cons (pe_or (pv 12) (pe_one (pv 13))) pa_nil))) (pa_cons (pe_lst (pa_cons pe_str (pa_cons (pv 13) pa_nil))) (pa_cons (pe_lst (pa_cons pe_str (pa_cons (pe_not (pv 13)) pa_nil))) pa_nil))))))))
  (pss_cons (ps_for PassesOwn.never rfl (pi_list (pv 14)) (pg_name (i := 15) sc_law.nd rfl (Or.inl rfl))
   (pss_one (ps_if (pt_not (pt_val (pe_use U_law_same (hr.mono (by decide)) hg rfl (pa_cons (pe_use U_compare (hr.mono (by decide)) hg rfl (pa_cons (pv 7) (pa_cons (pe_ix ix_list (pv 15) pe_int (fun _ _ => rfl)) (pa_cons (pv 8) (pa_cons (pv 9) pa_nil))))) (pa_cons (pe_tup (pa_cons pe_str (pa_cons (pe_tup (pa_cons pe_str (pa_cons (pe_ix ix_list (pv 15) pe_int (fun _ _ => rfl)) pa_nil))) pa_nil))) pa_nil)))))
   (pss_one (ps_ret pe_bl))
   pss_nil)))
  (pss_one (ps_ret (pe_and (pe_cmpR op_eq (pe_op op_add (pe_op op_add (pe_callTy call_int1 (by rfl) T.b_int (by decide +kernel) (pa_cons (pv 11) pa_nil)) (pe_callTy call_int1 (by rfl) T.b_int (by decide +kernel) (pa_cons (pv 12) pa_nil))) (pe_callTy call_int1 (by rfl) T.b_int (by decide +kernel) (pa_cons (pv 13) pa_nil))) pe_int (nomark _)) (pe_one (pe_cmpR op_eq (pe_callB (call_repr_data hg hr.units) (by rfl) T.b_repr (by decide +kernel) (pa_cons (pv 7) pa_nil)) (pv 10) (nomark _)))))))))))))))))))))), ?_⟩
    refine ⟨_, rfl, a, ns, 0, 63, rfl, hs, by decide, by decide, fun dl H1 nd D => ?_⟩
    obtain ⟨ds, hd, hl, hds, S1⟩ := D
    refine ⟨sz_2, fun p hp0 => ?_⟩
    have B0 : BoxAt (upd H1 p (.lst [.ref dl, .int 0])) p dl := ⟨ds, 0, upd_same, by decide, by rw [upd_ne (ne_of_none hd hp0)]; exact hd, hl, hds⟩
    generalize upd H1 p (.lst [.ref dl, .int 0]) = H2 at B0
    clear hd hds S1 hp0
    refine ⟨_, rfl, p, dl, 3, rfl, B0, by decide, fun r H3 r0 r1 B3 K3 => ?_⟩
    obtain ⟨D, rfl⟩ := Int.eq_ofNat_of_zero_le r0
    refine ⟨_, rfl, p, dl, 3, rfl, B3, by decide, fun r H4 r2 r3 B4 K4 => ?_⟩
    obtain ⟨lk, rfl⟩ := Int.eq_ofNat_of_zero_le r2
    have hD : D < 3 := by omega
    have hlk : lk < 3 := by omega
    refine ⟨_, rfl, _, rfl, _, rfl, D, p, dl, lk, hD, rfl, B4, hlk, fun v1 H5 d1 B5 K5 m1 t1 l1 => ?_⟩
    refine ⟨_, rfl, _, rfl, _, rfl, D, p, dl, lk, hD, rfl, B5, hlk, fun v2 H6 d2 B6 K6 m2 t2 l2 => ?_⟩
    have h1 : Hl K H6 (fun b => b ≠ p) v1 d1 := m1.up (fun b u hb e => K6 _ _ e (B4.ne_new hb).1) (fun b u hb _ => (B4.ne_new hb).1)
    have h2 : Hl K H6 (fun b => b ≠ p) v2 d2 := m2.up (fun _ _ _ e => e) (fun b u hb _ => (B5.ne_new hb).1)
    clear m1 m2 B0 B3 K3 B4 K4 B5 K5 K6 r0 r1 r2 r3 H2 H3 H4 H5
    generalize lkB lk = sx at t1 t2
    refine ⟨fun σ H7 => ∃ v3 d3, σ = [some (.ref a), some (.ref p), some (.int ((D : Nat) : Int)), some (.int ((lk : Nat) : Int)), some v1, some v3, none, none, none, none, none, none, none, none, none, none] ∧ BoxAt H7 p dl ∧ Hl K H7 (fun b => b ≠ p) v1 d1 ∧ Hl K H7 (fun b => b ≠ p) v3 d3 ∧ TD sx D d3, ?_, ?_⟩
    · refine ⟨_, rfl, _, _, rfl, rfl, _, rfl, ?_⟩
      cases D with
      | zero => exact iteFb (by decide) ⟨v2, d2, rfl, B6, h1, h2, t2⟩
      | succ m =>
        refine iteTb (decide_eq_true (by omega)) ?_
        refine ⟨_, rfl, p, dl, 2, rfl, B6, by decide, fun r H7 r0 r1 B7 K7 => ⟨rfl, _, rfl, ?_⟩⟩
        have h1 := h1.up (N' := fun b => b ≠ p) (fun b u hb e => K7 _ _ e hb) fun _ _ h _ => h
        have h2 := h2.up (N' := fun b => b ≠ p) (fun b u hb e => K7 _ _ e hb) fun _ _ h _ => h
        by_cases c : r = 0
        · refine iteTb (decide_eq_true (by rw [c])) ?_
          obtain ⟨ds1, rfl, _, u1⟩ := t1.succ
          obtain ⟨ds2, rfl, _, u2⟩ := t2.succ
          have l1 := l1 _ rfl
          have l2 := l2 _ rfl
          refine ⟨_, rfl, _, rfl, p, dl, 5, rfl, B7, by decide, fun r8 H8 _ _ B8 K8 => ?_⟩
          have h1 := h1.up (N' := fun b => b ≠ p) (fun b u hb e => K8 _ _ e hb) fun _ _ h _ => h
          have h2 := h2.up (N' := fun b => b ≠ p) (fun b u hb e => K8 _ _ e hb) fun _ _ h _ => h
          obtain ⟨a1, xs1, e1, na1, g1, rfl⟩ : ∃ a xs, H8 a = some (.lst xs) ∧ a ≠ p ∧ HlAll K H8 (fun b => b ≠ p) xs ds1 ∧ v1 = .ref a := by cases h1 with | lst k1 k2 k3 => exact ⟨_, _, k1, k2, k3, rfl⟩
          obtain ⟨a2, xs2, e2, na2, g2, rfl⟩ : ∃ a xs, H8 a = some (.lst xs) ∧ a ≠ p ∧ HlAll K H8 (fun b => b ≠ p) xs ds2 ∧ v2 = .ref a := by cases h2 with | lst k1 k2 k3 => exact ⟨_, _, k1, k2, k3, rfl⟩
          obtain ⟨ds3, g3, l3, m3⟩ := hl_cut g1 none (some r8)
          refine ⟨r8, rfl, a1, xs1, rfl, SqL.of e1, fun q hq => ?_⟩
          have S9 := Same.new (o := .lst (cutV xs1 none (some r8))) hq
          have eq9 := upd_same (H := H8) (a := q) (o := HO.lst (cutV xs1 none (some r8)))
          generalize upd H8 q (.lst (cutV xs1 none (some r8))) = H9 at S9 eq9 ⊢
          have ll3 := g3.length
          have ll2 := g2.length
          refine ⟨_, rfl, q, a2, _, _, rfl, rfl, eq9, S9 _ _ e2, Nat.le_of_lt (js_lt (by omega)), fun q2 hq2 => ?_⟩
          have S10 := S9.trans (Same.new (o := .lst (cutV xs1 none (some r8) ++ xs2)) hq2)
          have eq10 := upd_same (H := H9) (a := q2) (o := HO.lst (cutV xs1 none (some r8) ++ xs2))
          generalize upd H9 q2 (.lst (cutV xs1 none (some r8) ++ xs2)) = H10 at S10 eq10 ⊢
          have nq2 : q2 ≠ p := ((B8.same S9).ne_new hq2).1
          refine ⟨_, .list (ds3 ++ ds2), rfl, B8.same S10, h1.mono S10, .lst eq10 nq2 (HlAll.app (g2.mono S10) (g3.mono S10)), by rw [List.length_append]; omega, fun d hd => ?_⟩
          rcases List.mem_append.mp hd with h | h
          · exact u1 d (m3 d h)
          · exact u2 d h
        · refine iteFb (decide_eq_false fun h => c (V.int.inj h)) ?_
          exact ⟨v2, d2, rfl, B7, h1, h2, t2⟩
    · clear t2 l2 h2 h1 B6 H6
      rintro _ H6 ⟨v2, d2, rfl, B6, h1, h2, t2⟩
      have n12 : ∀ {b : Addr} {u : HO}, b ≠ p → True := fun _ => trivial
      refine ⟨sz_2, fun kl hkl => ⟨_, rfl, p, dl, 2, rfl, B6.same (Same.new hkl), by decide, fun r H7 r0 r1 B7 K7 => ?_⟩⟩
      have nkl := B6.ne_new hkl
      have S7 := Same.new (o := .lst [V.str "tuple", V.str "list"]) hkl
      have ekl := K7 _ _ (upd_same (H := H6) (a := kl) (o := HO.lst [V.str "tuple", V.str "list"])) nkl.1
      replace h1 := (h1.mono S7).up (N' := fun b => b ≠ p) (fun b u hb e => K7 _ _ e hb) fun _ _ h _ => h
      replace h2 := (h2.mono S7).up (N' := fun b => b ≠ p) (fun b u hb e => K7 _ _ e hb) fun _ _ h _ => h
      obtain ⟨kd, hkd⟩ : ∃ kd : Bool, atI [V.str "tuple", V.str "list"] r = some (.str (knd2 kd)) := by
        by_cases c : r = 0
        · subst c; exact ⟨false, rfl⟩
        · obtain rfl : r = 1 := by omega
          exact ⟨true, rfl⟩
      refine ⟨kl, _, _, _, rfl, rfl, SqL.of ekl, hkd, ?_⟩
      clear ekl K7 S7 nkl hkl B6
      refine ⟨sz_0, fun hp hhp => ?_⟩
      obtain ⟨n1, n2⟩ := B7.ne_new hhp
      have S8 := Same.new (o := .lst []) hhp
      have B8 := B7.same S8
      have L8 : ListAt K (upd H7 hp (.lst [])) hp (([] : List Row).map rowD) := ⟨[], upd_same, .nil⟩
      replace h1 := h1.up (N' := fun b => b ≠ p ∧ b ≠ hp) (fun b u hb e => S8 _ _ e) fun b u h e => ⟨h, ne_of_none e hhp⟩
      replace h2 := h2.up (N' := fun b => b ≠ p ∧ b ≠ hp) (fun b u hb e => S8 _ _ e) fun b u h e => ⟨h, ne_of_none e hhp⟩
      generalize upd H7 hp (.lst []) = H8 at B8 L8 h1 h2
      clear S8 B7 hhp
      have hz := szN_le hD
      have upL : ∀ {H H' : Hp} {v : V} {d : PyData}, KeepL p hp H H' → Hl K H (fun b => b ≠ p ∧ b ≠ hp) v d → Hl K H' (fun b => b ≠ p ∧ b ≠ hp) v d := fun kL h => h.up (fun b u hb e => kL _ _ e hb.1 hb.2) fun _ _ h _ => h
      refine ⟨_, rfl, _, rfl, _, rfl, _, rfl, D, p, dl, hp, [], v1, d1, _, sx, kd, hD, rfl, B8, n1, n2, L8, h1, (fun _ h => h), t1, by simp; omega, fun va H9 x rows1 B9 kL9 L9 dx vx vpx hR1 hr1 => ?_⟩
      rw [List.nil_append] at L9 vx
      rw [List.length_nil, Nat.zero_add] at vpx hR1
      replace h1 := upL kL9 h1
      replace h2 := upL kL9 h2
      clear L8 B8 kL9 H8
      refine ⟨_, rfl, _, rfl, _, rfl, _, rfl, D, p, dl, hp, rows1, v2, d2, _, sx, kd, hD, rfl, B9, n1, n2, L9, h2, (fun _ h => h), t2, by omega, fun vb H10 y rows2 B10 kL10 L10 dy vy vpy hR2 hr2 => ?_⟩
      replace h1 := upL kL10 h1
      replace h2 := upL kL10 h2
      have kT10 : KeepT K H9 H10 := let ⟨_, hb⟩ := B9.at_; let ⟨_, hh, _⟩ := L9; keepT_L hb hh kL10
      replace dx := dx.keepT kT10
      replace vx := VT.up rows2 vx
      have hR : ∀ r ∈ rows1 ++ rows2, RP (rows1 ++ rows2).length kd r := fun r hr => by
        rw [List.length_append]
        rcases List.mem_append.mp hr with h | h
        · exact (hR1 r h).mono (by omega)
        · exact hR2 r h
      have hrl : (rows1 ++ rows2).length ≤ 20 := by rw [List.length_append]; omega
      clear hR1 hR2 hr1 hr2 kT10 L9 B9 kL10 H9 B10 vpx vpy
      generalize rows1 ++ rows2 = rows at *
      have gd := good_rows hR
      have hsh := show_heap hR hrl
      have dL : ∀ {H'}, ListAt K H' hp (rows.map rowD) → Dp K H' (.ref hp) (.list (rows.map rowD)) := fun L => let ⟨xs, e, a⟩ := L; .lst (SqL.of e) a.dp
      refine ⟨_, rfl, _, _, rfl, dL L10, hsh, ?_⟩
      refine ⟨_, rfl, _, rfl, D, v1, v2, d1, d2, _, _, sx, hD, rfl, h1, h2, t1, t2, by omega, fun H11 S11 => ?_⟩
      replace h1 := h1.mono S11
      replace h2 := h2.mono S11
      have L11 := listAt_mono L10 S11
      replace dx := dx.mono S11
      replace dy := dy.mono S11
      refine ⟨_, rfl, _, rfl, D, v2, v1, d2, d1, _, _, sx, hD, rfl, h2, h1, t2, t1, by omega, fun H12 S12 => ?_⟩
      replace h1 := h1.mono S12
      replace h2 := h2.mono S12
      have L12 := listAt_mono L11 S12
      replace dx := dx.mono S12
      replace dy := dy.mono S12
      clear S11 S12 L11 L10 H11 H10
      refine ⟨_, rfl, _, rfl, d1, d2, h1.dp, h2.dp, t1.shp.sh (by omega), t2.shp.sh (by omega), ?_⟩
      have htri := ltT_tri t1 t2
      have hcmp : ∀ (op : Str) (Q' : Prop), True := fun _ _ => trivial
      generalize e1 : ltT D d1 d2 = less at htri ⊢
      generalize e2 : ltT D d2 d1 = more at htri ⊢
      generalize e3 : PyData.eqv d1 d2 = same at htri ⊢
      have hs0 := Same.refl H12
      refine ⟨fun σ H13 => ∃ dq : Addr, σ = [some (.ref a), some (.ref p), some (.int ((D : Nat) : Int)), some (.int ((lk : Nat) : Int)), some v1, some v2, some (.str (knd2 kd)), some (.ref hp), some va, some vb, some (.str (PyData.list (rows.map rowD)).shown), some (.bl less), some (.bl more), some (.bl same), some (.ref dq), none] ∧ Same H12 H13 ∧ DuesAt less more same H13 dq, ?_, ?_⟩
      · generalize hH : H12 = H0 at *
        clear hH
        rcases htri with ⟨rfl, rfl, rfl⟩ | ⟨rfl, rfl, rfl⟩ | ⟨rfl, rfl, rfl⟩
        · refine ⟨_, rfl, sz_2, fun q1 hq1 => ?_⟩
          have S1 := Same.new (o := .lst [V.str "<", V.bl true]) hq1
          have f1 := upd_same (H := H0) (a := q1) (o := HO.lst [V.str "<", V.bl true])
          generalize upd H0 q1 (.lst [V.str "<", V.bl true]) = H1 at S1 f1 ⊢
          refine ⟨_, rfl, _, rfl, iteTb rfl ⟨sz_2, fun q2 hq2 => ?_⟩⟩
          have S2 := Same.new (o := .lst [V.str "<=", V.bl true]) hq2
          have f2 := upd_same (H := H1) (a := q2) (o := HO.lst [V.str "<=", V.bl true])
          generalize upd H1 q2 (.lst [V.str "<=", V.bl true]) = H2 at S2 f2 ⊢
          replace f1 := S2 _ _ f1
          refine ⟨_, rfl, sz_2, fun q3 hq3 => ?_⟩
          have S3 := Same.new (o := .lst [V.str ">", V.bl false]) hq3
          have f3 := upd_same (H := H2) (a := q3) (o := HO.lst [V.str ">", V.bl false])
          generalize upd H2 q3 (.lst [V.str ">", V.bl false]) = H3 at S3 f3 ⊢
          replace f1 := S3 _ _ f1
          replace f2 := S3 _ _ f2
          refine ⟨_, rfl, _, rfl, iteFb rfl ⟨_, rfl, sz_2, fun q4 hq4 => ?_⟩⟩
          have S4 := Same.new (o := .lst [V.str ">=", V.bl false]) hq4
          have f4 := upd_same (H := H3) (a := q4) (o := HO.lst [V.str ">=", V.bl false])
          generalize upd H3 q4 (.lst [V.str ">=", V.bl false]) = H4 at S4 f4 ⊢
          replace f1 := S4 _ _ f1
          replace f2 := S4 _ _ f2
          replace f3 := S4 _ _ f3
          refine ⟨_, rfl, sz_2, fun q5 hq5 => ?_⟩
          have S5 := Same.new (o := .lst [V.str "==", V.bl false]) hq5
          have f5 := upd_same (H := H4) (a := q5) (o := HO.lst [V.str "==", V.bl false])
          generalize upd H4 q5 (.lst [V.str "==", V.bl false]) = H5 at S5 f5 ⊢
          replace f1 := S5 _ _ f1
          replace f2 := S5 _ _ f2
          replace f3 := S5 _ _ f3
          replace f4 := S5 _ _ f4
          refine ⟨_, rfl, _, rfl, sz_2, fun q6 hq6 => ?_⟩
          have S6 := Same.new (o := .lst [V.str "!=", V.bl (!false)]) hq6
          have f6 := upd_same (H := H5) (a := q6) (o := HO.lst [V.str "!=", V.bl (!false)])
          generalize upd H5 q6 (.lst [V.str "!=", V.bl (!false)]) = H6 at S6 f6 ⊢
          replace f1 := S6 _ _ f1
          replace f2 := S6 _ _ f2
          replace f3 := S6 _ _ f3
          replace f4 := S6 _ _ f4
          replace f5 := S6 _ _ f5
          refine ⟨Nat.le_of_lt (js_lt (by simp)), fun dq hdq => ?_⟩
          have S7 := Same.new (o := .lst [V.ref q1, V.ref q2, V.ref q3, V.ref q4, V.ref q5, V.ref q6]) hdq
          refine ⟨dq, rfl, (((((S1.trans S2).trans S3).trans S4).trans S5).trans S6).trans S7, [V.ref q1, V.ref q2, V.ref q3, V.ref q4, V.ref q5, V.ref q6], upd_same, fun w hw => ?_⟩
          simp only [List.mem_cons, List.not_mem_nil, or_false] at hw
          rcases hw with rfl | rfl | rfl | rfl | rfl | rfl
          · exact ⟨q1, "<", _, rfl, S7 _ _ f1, by decide +kernel, by decide +kernel⟩
          · exact ⟨q2, "<=", _, rfl, S7 _ _ f2, by decide +kernel, by decide +kernel⟩
          · exact ⟨q3, ">", _, rfl, S7 _ _ f3, by decide +kernel, by decide +kernel⟩
          · exact ⟨q4, ">=", _, rfl, S7 _ _ f4, by decide +kernel, by decide +kernel⟩
          · exact ⟨q5, "==", _, rfl, S7 _ _ f5, by decide +kernel, by decide +kernel⟩
          · exact ⟨q6, "!=", _, rfl, S7 _ _ f6, by decide +kernel, by decide +kernel⟩
        · refine ⟨_, rfl, sz_2, fun q1 hq1 => ?_⟩
          have S1 := Same.new (o := .lst [V.str "<", V.bl false]) hq1
          have f1 := upd_same (H := H0) (a := q1) (o := HO.lst [V.str "<", V.bl false])
          generalize upd H0 q1 (.lst [V.str "<", V.bl false]) = H1 at S1 f1 ⊢
          refine ⟨_, rfl, _, rfl, iteFb rfl ⟨_, rfl, sz_2, fun q2 hq2 => ?_⟩⟩
          have S2 := Same.new (o := .lst [V.str "<=", V.bl false]) hq2
          have f2 := upd_same (H := H1) (a := q2) (o := HO.lst [V.str "<=", V.bl false])
          generalize upd H1 q2 (.lst [V.str "<=", V.bl false]) = H2 at S2 f2 ⊢
          replace f1 := S2 _ _ f1
          refine ⟨_, rfl, sz_2, fun q3 hq3 => ?_⟩
          have S3 := Same.new (o := .lst [V.str ">", V.bl true]) hq3
          have f3 := upd_same (H := H2) (a := q3) (o := HO.lst [V.str ">", V.bl true])
          generalize upd H2 q3 (.lst [V.str ">", V.bl true]) = H3 at S3 f3 ⊢
          replace f1 := S3 _ _ f1
          replace f2 := S3 _ _ f2
          refine ⟨_, rfl, _, rfl, iteTb rfl ⟨sz_2, fun q4 hq4 => ?_⟩⟩
          have S4 := Same.new (o := .lst [V.str ">=", V.bl true]) hq4
          have f4 := upd_same (H := H3) (a := q4) (o := HO.lst [V.str ">=", V.bl true])
          generalize upd H3 q4 (.lst [V.str ">=", V.bl true]) = H4 at S4 f4 ⊢
          replace f1 := S4 _ _ f1
          replace f2 := S4 _ _ f2
          replace f3 := S4 _ _ f3
          refine ⟨_, rfl, sz_2, fun q5 hq5 => ?_⟩
          have S5 := Same.new (o := .lst [V.str "==", V.bl false]) hq5
          have f5 := upd_same (H := H4) (a := q5) (o := HO.lst [V.str "==", V.bl false])
          generalize upd H4 q5 (.lst [V.str "==", V.bl false]) = H5 at S5 f5 ⊢
          replace f1 := S5 _ _ f1
          replace f2 := S5 _ _ f2
          replace f3 := S5 _ _ f3
          replace f4 := S5 _ _ f4
          refine ⟨_, rfl, _, rfl, sz_2, fun q6 hq6 => ?_⟩
          have S6 := Same.new (o := .lst [V.str "!=", V.bl (!false)]) hq6
          have f6 := upd_same (H := H5) (a := q6) (o := HO.lst [V.str "!=", V.bl (!false)])
          generalize upd H5 q6 (.lst [V.str "!=", V.bl (!false)]) = H6 at S6 f6 ⊢
          replace f1 := S6 _ _ f1
          replace f2 := S6 _ _ f2
          replace f3 := S6 _ _ f3
          replace f4 := S6 _ _ f4
          replace f5 := S6 _ _ f5
          refine ⟨Nat.le_of_lt (js_lt (by simp)), fun dq hdq => ?_⟩
          have S7 := Same.new (o := .lst [V.ref q1, V.ref q2, V.ref q3, V.ref q4, V.ref q5, V.ref q6]) hdq
          refine ⟨dq, rfl, (((((S1.trans S2).trans S3).trans S4).trans S5).trans S6).trans S7, [V.ref q1, V.ref q2, V.ref q3, V.ref q4, V.ref q5, V.ref q6], upd_same, fun w hw => ?_⟩
          simp only [List.mem_cons, List.not_mem_nil, or_false] at hw
          rcases hw with rfl | rfl | rfl | rfl | rfl | rfl
          · exact ⟨q1, "<", _, rfl, S7 _ _ f1, by decide +kernel, by decide +kernel⟩
          · exact ⟨q2, "<=", _, rfl, S7 _ _ f2, by decide +kernel, by decide +kernel⟩
          · exact ⟨q3, ">", _, rfl, S7 _ _ f3, by decide +kernel, by decide +kernel⟩
          · exact ⟨q4, ">=", _, rfl, S7 _ _ f4, by decide +kernel, by decide +kernel⟩
          · exact ⟨q5, "==", _, rfl, S7 _ _ f5, by decide +kernel, by decide +kernel⟩
          · exact ⟨q6, "!=", _, rfl, S7 _ _ f6, by decide +kernel, by decide +kernel⟩
        · refine ⟨_, rfl, sz_2, fun q1 hq1 => ?_⟩
          have S1 := Same.new (o := .lst [V.str "<", V.bl false]) hq1
          have f1 := upd_same (H := H0) (a := q1) (o := HO.lst [V.str "<", V.bl false])
          generalize upd H0 q1 (.lst [V.str "<", V.bl false]) = H1 at S1 f1 ⊢
          refine ⟨_, rfl, _, rfl, iteFb rfl ⟨_, rfl, sz_2, fun q2 hq2 => ?_⟩⟩
          have S2 := Same.new (o := .lst [V.str "<=", V.bl true]) hq2
          have f2 := upd_same (H := H1) (a := q2) (o := HO.lst [V.str "<=", V.bl true])
          generalize upd H1 q2 (.lst [V.str "<=", V.bl true]) = H2 at S2 f2 ⊢
          replace f1 := S2 _ _ f1
          refine ⟨_, rfl, sz_2, fun q3 hq3 => ?_⟩
          have S3 := Same.new (o := .lst [V.str ">", V.bl false]) hq3
          have f3 := upd_same (H := H2) (a := q3) (o := HO.lst [V.str ">", V.bl false])
          generalize upd H2 q3 (.lst [V.str ">", V.bl false]) = H3 at S3 f3 ⊢
          replace f1 := S3 _ _ f1
          replace f2 := S3 _ _ f2
          refine ⟨_, rfl, _, rfl, iteFb rfl ⟨_, rfl, sz_2, fun q4 hq4 => ?_⟩⟩
          have S4 := Same.new (o := .lst [V.str ">=", V.bl true]) hq4
          have f4 := upd_same (H := H3) (a := q4) (o := HO.lst [V.str ">=", V.bl true])
          generalize upd H3 q4 (.lst [V.str ">=", V.bl true]) = H4 at S4 f4 ⊢
          replace f1 := S4 _ _ f1
          replace f2 := S4 _ _ f2
          replace f3 := S4 _ _ f3
          refine ⟨_, rfl, sz_2, fun q5 hq5 => ?_⟩
          have S5 := Same.new (o := .lst [V.str "==", V.bl true]) hq5
          have f5 := upd_same (H := H4) (a := q5) (o := HO.lst [V.str "==", V.bl true])
          generalize upd H4 q5 (.lst [V.str "==", V.bl true]) = H5 at S5 f5 ⊢
          replace f1 := S5 _ _ f1
          replace f2 := S5 _ _ f2
          replace f3 := S5 _ _ f3
          replace f4 := S5 _ _ f4
          refine ⟨_, rfl, _, rfl, sz_2, fun q6 hq6 => ?_⟩
          have S6 := Same.new (o := .lst [V.str "!=", V.bl (!true)]) hq6
          have f6 := upd_same (H := H5) (a := q6) (o := HO.lst [V.str "!=", V.bl (!true)])
          generalize upd H5 q6 (.lst [V.str "!=", V.bl (!true)]) = H6 at S6 f6 ⊢
          replace f1 := S6 _ _ f1
          replace f2 := S6 _ _ f2
          replace f3 := S6 _ _ f3
          replace f4 := S6 _ _ f4
          replace f5 := S6 _ _ f5
          refine ⟨Nat.le_of_lt (js_lt (by simp)), fun dq hdq => ?_⟩
          have S7 := Same.new (o := .lst [V.ref q1, V.ref q2, V.ref q3, V.ref q4, V.ref q5, V.ref q6]) hdq
          refine ⟨dq, rfl, (((((S1.trans S2).trans S3).trans S4).trans S5).trans S6).trans S7, [V.ref q1, V.ref q2, V.ref q3, V.ref q4, V.ref q5, V.ref q6], upd_same, fun w hw => ?_⟩
          simp only [List.mem_cons, List.not_mem_nil, or_false] at hw
          rcases hw with rfl | rfl | rfl | rfl | rfl | rfl
          · exact ⟨q1, "<", _, rfl, S7 _ _ f1, by decide +kernel, by decide +kernel⟩
          · exact ⟨q2, "<=", _, rfl, S7 _ _ f2, by decide +kernel, by decide +kernel⟩
          · exact ⟨q3, ">", _, rfl, S7 _ _ f3, by decide +kernel, by decide +kernel⟩
          · exact ⟨q4, ">=", _, rfl, S7 _ _ f4, by decide +kernel, by decide +kernel⟩
          · exact ⟨q5, "==", _, rfl, S7 _ _ f5, by decide +kernel, by decide +kernel⟩
          · exact ⟨q6, "!=", _, rfl, S7 _ _ f6, by decide +kernel, by decide +kernel⟩
      · rintro _ H13 ⟨dq, rfl, S13, hdq⟩
        obtain ⟨ws, edq, hws⟩ := hdq
        have L13 := listAt_mono L12 S13
        replace dx := dx.mono S13
        replace dy := dy.mono S13
        refine ⟨_, rfl, dq, rfl, ⟨_, SqL.of edq⟩, ?_⟩
        refine for_it (walk_list (xs := ws)) (fun i σ H14 => ∃ x15 : Option V, σ = [some (.ref a), some (.ref p), some (.int ((D : Nat) : Int)), some (.int ((lk : Nat) : Int)), some v1, some v2, some (.str (knd2 kd)), some (.ref hp), some va, some vb, some (.str (PyData.list (rows.map rowD)).shown), some (.bl less), some (.bl more), some (.bl same), some (.ref dq), x15] ∧ Same H13 H14) ⟨none, rfl, Same.refl _⟩ (fun _ _ _ _ h => let ⟨_, _, S⟩ := h; SqL.of (S _ _ edq)) ?_ ?_
        · rintro i w0 σ H14 H14' hi ⟨x15, rfl, S14⟩ ⟨rfl, hw⟩
          obtain ⟨z, op, b, rfl, ez, hop, rfl⟩ := hws w0 (List.mem_of_getElem? hw)
          have ez14 := S14 _ _ ez
          refine ⟨_, rfl, _, rfl, z, _, _, _, rfl, rfl, SqL.of ez14, at0, _, rfl, _, rfl, wordR [], hp, rows, kd, sx, D, op, va, vb, x, y, d1, d2, rfl, hop, listAt_mono L13 S14, dx.mono S14, dy.mono S14, vx, vy, t1, t2, by omega, gd, by omega, fun u1 H15 S15 du1 => ?_⟩
          rw [e1, e2, e3] at du1
          have S115 := S14.trans S15
          refine ⟨_, rfl, z, _, _, _, rfl, rfl, SqL.of (S15 _ _ ez14), at1, sz_2, fun u2 hu2 => ⟨sz_2, fun u3 hu3 => ?_⟩⟩
          have S21 := (Same.new (o := .tup [V.str "bool", V.bl (cmpO op less more same)]) hu2).trans (Same.new (o := .tup [V.str "ok", V.ref u2]) hu3)
          have du3 := Dt.made (K := K) hu3 (.cons (.str "ok") (.cons (Dt.made hu2 (.cons (.str "bool") (.cons (.bl (cmpO op less more same)) .nil))) .nil))
          exact ⟨u1, _, ansD (cmpO op less more same), rfl, (du1.mono S21).dp, du3.dp, show_ans _, true, rfl, iteFb rfl ⟨_, rfl, S115.trans S21⟩⟩
        · rintro σ H14 ⟨x15, rfl, S14⟩
          refine ⟨_, rfl, .inr ⟨less, rfl, _, rfl, .inr ⟨more, rfl, _, _, rfl, rfl, _, rfl, .inr ⟨same, rfl, _, _, rfl, rfl, rfl, _, rfl, iteTb ?_ ⟨_, rfl, _, _, rfl, dL (listAt_mono L13 S14), hsh, _, rfl, rfl, ?_⟩⟩⟩⟩⟩
          · rcases htri with ⟨rfl, rfl, rfl⟩ | ⟨rfl, rfl, rfl⟩ | ⟨rfl, rfl, rfl⟩ <;> rfl
          · rw [decide_eq_true rfl]
            exact k _
end

theorem walk_mk {l : PySem.W.OpenLaw} {w : World} {K : PySem.W.Frag} {h : Heap} {mg : Str → Option Value} {fa : Addr} (X : K.In h) (G : h.Ns mainGlobals mg) (hfa : mg "law" = some (.ref fa))
    (f0 : HasFn K "_law_cell" s_law_cell)
    (f1 : HasFn K "_law_digits" s_law_digits)
    (f2 : HasFn K "_law_draw" s_law_draw)
    (f3 : HasFn K "_law_thing" s_law_thing)
    (f4 : HasFn K "_law_put" s_law_put)
    (f5 : HasFn K "_law_less" s_law_less)
    (f6 : HasFn K "_law_same" s_law_same)
    (f7 : HasFn K "_answer" s_answer)
    (f8 : HasFn K "is_number" s_is_number)
    (f9 : HasFn K "same_leaf" s_same_leaf)
    (f10 : HasFn K "_leader" s_leader)
    (f11 : HasFn K "_note_unequal" s_note_unequal)
    (f12 : HasFn K "object_kind" s_object_kind)
    (f13 : HasFn K "_word" s_word)
    (f14 : HasFn K "kind_name" s_kind_name)
    (f15 : HasFn K "key_text" s_key_text)
    (f16 : HasFn K "_pairs_by_key" s_pairs_by_key)
    (f17 : HasFn K "_pairs_of_parts" s_pairs_of_parts)
    (f18 : HasFn K "_add_pairs" s_add_pairs)
    (f19 : HasFn K "_alike" s_alike)
    (f20 : HasFn K "equal" s_equal)
    (f21 : HasFn K "_both_rows" s_both_rows)
    (f22 : HasFn K "row_of" s_row_of)
    (f23 : HasFn K "_first_difference" s_first_difference)
    (f24 : HasFn K "_holds" s_holds)
    (f25 : HasFn K "_order" s_order)
    (f26 : HasFn K "compare" s_compare)
    (f27 : HasFn K "law" s_law)
    (c0 : HasInt K "MOST_ENTRIES" 1000)
    (c1 : HasInt K "TYPE_ERROR" 10)
    (c2 : HasTup K "TOO_LARGE" [V.str "raise", V.int 15, V.str "too large"])
    (b_len : PySem.W.nsIn K mainGlobals "len" = some none)
    (b_int : PySem.W.nsIn K mainGlobals "int" = some none)
    (b_range : PySem.W.nsIn K mainGlobals "range" = some none)
    (b_list : PySem.W.nsIn K mainGlobals "list" = some none)
    (b_tuple : PySem.W.nsIn K mainGlobals "tuple" = some none)
    (b_str : PySem.W.nsIn K mainGlobals "str" = some none)
    (b_repr : PySem.W.nsIn K mainGlobals "repr" = some none)
    (b_reversed : PySem.W.nsIn K mainGlobals "reversed" = some none)
    (b_zip : PySem.W.nsIn K mainGlobals "zip" = some none)
    (b_isinstance : PySem.W.nsIn K mainGlobals "isinstance" = some none)
    (b_bool : PySem.W.nsIn K mainGlobals "bool" = some none)
    (b_enumerate : PySem.W.nsIn K mainGlobals "enumerate" = some none)
    (b_set : PySem.W.nsIn K mainGlobals "set" = some none)
    (b_min : PySem.W.nsIn K mainGlobals "min" = some none)
    (d_VALUE_KINDS : HasDct l.prog w K "VALUE_KINDS" (txtKV vks))
    (d_OBJECT_KINDS : HasDct l.prog w K "OBJECT_KINDS" (txtKV oks)) :
    ∃ fd : FuncData, (∀ (s : Shared) (v : Value), BindsTo s fd ⟨[v], []⟩ [("script", v)]) ∧ ∀ base : Heap, K.In base → base.Ns mainGlobals mg → FnG l.prog w K mg base CX0 11 fa fd ["script"] (spLaw K) := by
  have T : Txt K mg := ⟨c0.g X G, c1.g X G, c2.g X G, PySem.W.mg_none_of X G b_len, PySem.W.mg_none_of X G b_int, PySem.W.mg_none_of X G b_range, PySem.W.mg_none_of X G b_list, PySem.W.mg_none_of X G b_tuple, PySem.W.mg_none_of X G b_str, PySem.W.mg_none_of X G b_repr, PySem.W.mg_none_of X G b_reversed, PySem.W.mg_none_of X G b_zip, PySem.W.mg_none_of X G b_isinstance, PySem.W.mg_none_of X G b_bool, PySem.W.mg_none_of X G b_enumerate, PySem.W.mg_none_of X G b_set, PySem.W.mg_none_of X G b_min⟩
  refine law_use f27 X G hfa (fun _ _ _ _ _ _ _ => rfl) fun base X' G' fd F => ?_
  have U_VALUE_KINDS : UseD l.prog w K mg "VALUE_KINDS" _ := d_VALUE_KINDS.g X G
  have U_OBJECT_KINDS : UseD l.prog w K mg "OBJECT_KINDS" _ := d_OBJECT_KINDS.g X G
  have U_law_cell := mk_use (P := l.prog) (w := w) (mg := mg) (base := base) f0 X G (fun _ _ _ _ _ _ us hl => match us, hl with | [_, _], _ => rfl) fun f fd F => ok_cell F T
  have U_law_digits := mk_use (P := l.prog) (w := w) (mg := mg) (base := base) f1 X G (fun _ _ _ _ _ _ us hl => match us, hl with | [_, _, _], _ => rfl) fun f fd F => ok_digits F T (Use.up U_law_cell (by omega))
  have U_law_draw := mk_use (P := l.prog) (w := w) (mg := mg) (base := base) f2 X G (fun _ _ _ _ _ _ us hl => match us, hl with | [_, _], _ => rfl) fun f fd F => ok_draw F T
  have U_law_thing : Use l.prog w K mg base CX0 "_law_thing" 5 P_law_thing (spThing K 3) := mk_useG (P := l.prog) (w := w) (mg := mg) (base := base) (fun n => spThing K n) 2 1 f3.n X G (fun _ _ _ _ _ _ us hl => match us, hl with | [_, _, _], _ => rfl) (fun _ _ _ _ h => (thing0 h)) (fun n U_law_thing f fd F => by
      have h := ok_thing (n := n) F T (Use.up U_law_thing (by omega)) (Use.up U_law_draw (by omega))
      have e : 2 + 1 * n + 1 = 2 + 1 * (n + 1) := by omega
      first | exact h | (rw [← e]; exact h) | (rw [Nat.one_mul]; exact h)) 3
  have U_law_put : Use l.prog w K mg base CX0 "_law_put" 5 P_law_put (spPut K 3) := mk_useG (P := l.prog) (w := w) (mg := mg) (base := base) (fun n => spPut K n) 2 1 f4.n X G (fun _ _ _ _ _ _ us hl => match us, hl with | [_, _, _, _], _ => rfl) (fun _ _ _ _ h => (put0 h)) (fun n U_law_put f fd F => by
      have h := ok_lput (M := n) F T (Use.up U_law_put (by omega)) (Use.up U_law_draw (by omega))
      have e : 2 + 1 * n + 1 = 2 + 1 * (n + 1) := by omega
      first | exact h | (rw [← e]; exact h) | (rw [Nat.one_mul]; exact h)) 3
  have U_law_less : Use l.prog w K mg base CX0 "_law_less" 4 P_law_less (spLess K 3) := mk_useG (P := l.prog) (w := w) (mg := mg) (base := base) (fun n => spLess K n) 1 1 f5.n X G (fun _ _ _ _ _ _ us hl => match us, hl with | [_, _], _ => rfl) (fun _ _ _ _ h => (less0 h)) (fun n U_law_less f fd F => by
      have h := ok_less (L := n) F T (Use.up U_law_less (by omega))
      have e : 1 + 1 * n + 1 = 1 + 1 * (n + 1) := by omega
      first | exact h | (rw [← e]; exact h) | (rw [Nat.one_mul]; exact h)) 3
  have U_law_same := mk_use (P := l.prog) (w := w) (mg := mg) (base := base) f6 X G (fun _ _ _ _ _ _ us hl => match us, hl with | [_, _], _ => rfl) fun f fd F => ok_same F T
  have U_answer := mk_use (P := l.prog) (w := w) (mg := mg) (base := base) f7 X G (fun _ _ _ _ _ _ us hl => match us, hl with | [_], _ => rfl) fun f fd F => ok_answer F T
  have U_is_number := mk_use (P := l.prog) (w := w) (mg := mg) (base := base) f8 X G (fun _ _ _ _ _ _ us hl => match us, hl with | [_], _ => rfl) fun f fd F => ok_isnumV F T
  have U_same_leaf := mk_use (P := l.prog) (w := w) (mg := mg) (base := base) f9 X G (fun _ _ _ _ _ _ us hl => match us, hl with | [_, _], _ => rfl) fun f fd F => ok_sameleaf F T (Use.up U_is_number (by omega))
  have U_leader := mk_use (P := l.prog) (w := w) (mg := mg) (base := base) f10 X G (fun _ _ _ _ _ _ us hl => match us, hl with | [_, _], _ => rfl) fun f fd F => ok_leader F T
  have U_note_unequal := mk_use (P := l.prog) (w := w) (mg := mg) (base := base) f11 X G (fun _ _ _ _ _ _ us hl => match us, hl with | [_, _, _], _ => rfl) fun f fd F => ok_note F T
  have U_object_kind := mk_use (P := l.prog) (w := w) (mg := mg) (base := base) f12 X G (fun _ _ _ _ _ _ us hl => match us, hl with | [_, _], _ => rfl) fun f fd F => ok_kind F T
  have U_word := mk_use (P := l.prog) (w := w) (mg := mg) (base := base) f13 X G (fun _ _ _ _ _ _ us hl => match us, hl with | [_, _], _ => rfl) fun f fd F => ok_word F T (Use.up U_object_kind (by omega))
  have U_kind_name := mk_use (P := l.prog) (w := w) (mg := mg) (base := base) f14 X G (fun _ _ _ _ _ _ us hl => match us, hl with | [_, _], _ => rfl) fun f fd F => ok_kname F T U_VALUE_KINDS U_OBJECT_KINDS
  have U_key_text := mk_use (P := l.prog) (w := w) (mg := mg) (base := base) f15 X G (fun _ _ _ _ _ _ us hl => match us, hl with | [_, _], _ => rfl) fun f fd F => ok_keytext F T (Use.up U_word (by omega)) (Use.up U_kind_name (by omega))
  have U_pairs_by_key := mk_use (P := l.prog) (w := w) (mg := mg) (base := base) f16 X G (fun _ _ _ _ _ _ us hl => match us, hl with | [_, _, _], _ => rfl) fun f fd F => ok_bykey F T (Use.up U_key_text (by omega))
  have U_pairs_of_parts := mk_use (P := l.prog) (w := w) (mg := mg) (base := base) f17 X G (fun _ _ _ _ _ _ us hl => match us, hl with | [_, _, _], _ => rfl) fun f fd F => ok_pairsof F T (Use.up U_pairs_by_key (by omega))
  have U_add_pairs := mk_use (P := l.prog) (w := w) (mg := mg) (base := base) f18 X G (fun _ _ _ _ _ _ us hl => match us, hl with | [_, _, _, _], _ => rfl) fun f fd F => ok_addp F T (Use.up U_same_leaf (by omega)) (Use.up U_pairs_of_parts (by omega))
  have U_alike := mk_use (P := l.prog) (w := w) (mg := mg) (base := base) f19 X G (fun _ _ _ _ _ _ us hl => match us, hl with | [_, _, _, _], _ => rfl) fun f fd F => ok_alike F T (Use.up U_same_leaf (by omega)) (Use.up U_leader (by omega)) (Use.up U_note_unequal (by omega)) (Use.up U_add_pairs (by omega))
  have U_equal := mk_use (P := l.prog) (w := w) (mg := mg) (base := base) f20 X G (fun _ _ _ _ _ _ us hl => match us, hl with | [_, _, _], _ => rfl) fun f fd F => ok_equal F T (Use.up U_alike (by omega))
  have U_both_rows := mk_use (P := l.prog) (w := w) (mg := mg) (base := base) f21 X G (fun _ _ _ _ _ _ us hl => match us, hl with | [_, _, _], _ => rfl) fun f fd F => ok_both F T (Use.up U_object_kind (by omega))
  have U_row_of := mk_use (P := l.prog) (w := w) (mg := mg) (base := base) f22 X G (fun _ _ _ _ _ _ us hl => match us, hl with | [_, _], _ => rfl) fun f fd F => ok_rowof F T
  have U_first_difference := mk_use (P := l.prog) (w := w) (mg := mg) (base := base) f23 X G (fun _ _ _ _ _ _ us hl => match us, hl with | [_, _, _, _], _ => rfl) fun f fd F => ok_first F T (Use.up U_alike (by omega))
  have U_holds := mk_use (P := l.prog) (w := w) (mg := mg) (base := base) f24 X G (fun _ _ _ _ _ _ us hl => match us, hl with | [_, _, _], _ => rfl) fun f fd F => ok_holds F T
  have U_order := mk_use (P := l.prog) (w := w) (mg := mg) (base := base) f25 X G (fun _ _ _ _ _ _ us hl => match us, hl with | [_, _, _, _], _ => rfl) fun f fd F => ok_order F T (Use.up U_is_number (by omega)) (Use.up U_both_rows (by omega)) (Use.up U_row_of (by omega)) (Use.up U_first_difference (by omega)) (Use.up U_answer (by omega)) (Use.up U_holds (by omega))
  have U_compare := mk_use (P := l.prog) (w := w) (mg := mg) (base := base) f26 X G (fun _ _ _ _ _ _ us hl => match us, hl with | [_, _, _, _], _ => rfl) fun f fd F => ok_compare F T (Use.up U_answer (by omega)) (Use.up U_equal (by omega)) (Use.up U_order (by omega))
  exact ok_law F T (Use.up U_law_digits (by omega)) (Use.up U_law_draw (by omega)) (Use.up U_law_thing (by omega)) (Use.up U_law_put (by omega)) (Use.up U_law_less (by omega)) (Use.up U_law_same (by omega)) (Use.up U_compare (by omega))
end K22
open PySem PySem.W PyProof.Rows
set_option maxRecDepth 100000 in
set_option maxHeartbeats 0 in
theorem PySem.Challenge.cw_pyhold_k22_order_is_total_holds : PySem.Challenge.rw_pyhold_k22_order_is_total.Holds := by
  w_on; o_law; k_head; (case hw => w_witness2)
  k_fill
  refine LK.walkG (l := PySem.Challenge.rw_pyhold_k22_order_is_total) (n := 63) (k := 11) (x := "script") (CX := L2.CX0) (sp := K22.spLaw) rfl (by decide) rfl ⟨rfl, by decide, by decide⟩ (fun w h Y => PySem.W.kIn_of Y) ?F (fun K H a ns hl _ hS => ⟨a, ns, rfl, hS, hl, fun _ => rfl⟩) (fun _ _ _ _ z => z)
  case F =>
    intro w mg fa h KX G hmg
    refine' K22.walk_mk KX G hmg ?f0 ?f1 ?f2 ?f3 ?f4 ?f5 ?f6 ?f7 ?f8 ?f9 ?f10 ?f11 ?f12 ?f13 ?f14 ?f15 ?f16 ?f17 ?f18 ?f19 ?f20 ?f21 ?f22 ?f23 ?f24 ?f25 ?f26 ?f27 ?c0 ?c1 ?c2 ?b_len ?b_int ?b_range ?b_list ?b_tuple ?b_str ?b_repr ?b_reversed ?b_zip ?b_isinstance ?b_bool ?b_enumerate ?b_set ?b_min ?d_VALUE_KINDS ?d_OBJECT_KINDS
    case f0 => refine' LK.HasFn.mk' ?a ?b ?c ?d; (case a => k_is); (case b => k_is); (case c => k_is); (case d => k_is)
    case f1 => refine' LK.HasFn.mk' ?a ?b ?c ?d; (case a => k_is); (case b => k_is); (case c => k_is); (case d => k_is)
    case f2 => refine' LK.HasFn.mk' ?a ?b ?c ?d; (case a => k_is); (case b => k_is); (case c => k_is); (case d => k_is)
    case f3 => refine' LK.HasFn.mk' ?a ?b ?c ?d; (case a => k_is); (case b => k_is); (case c => k_is); (case d => k_is)
    case f4 => refine' LK.HasFn.mk' ?a ?b ?c ?d; (case a => k_is); (case b => k_is); (case c => k_is); (case d => k_is)
    case f5 => refine' LK.HasFn.mk' ?a ?b ?c ?d; (case a => k_is); (case b => k_is); (case c => k_is); (case d => k_is)
    case f6 => refine' LK.HasFn.mk' ?a ?b ?c ?d; (case a => k_is); (case b => k_is); (case c => k_is); (case d => k_is)
    case f7 => refine' LK.HasFn.mk' ?a ?b ?c ?d; (case a => k_is); (case b => k_is); (case c => k_is); (case d => k_is)
    case f8 => refine' LK.HasFn.mk' ?a ?b ?c ?d; (case a => k_is); (case b => k_is); (case c => k_is); (case d => k_is)
    case f9 => refine' LK.HasFn.mk' ?a ?b ?c ?d; (case a => k_is); (case b => k_is); (case c => k_is); (case d => k_is)
    case f10 => refine' LK.HasFn.mk' ?a ?b ?c ?d; (case a => k_is); (case b => k_is); (case c => k_is); (case d => k_is)
    case f11 => refine' LK.HasFn.mk' ?a ?b ?c ?d; (case a => k_is); (case b => k_is); (case c => k_is); (case d => k_is)
    case f12 => refine' LK.HasFn.mk' ?a ?b ?c ?d; (case a => k_is); (case b => k_is); (case c => k_is); (case d => k_is)
    case f13 => refine' LK.HasFn.mk' ?a ?b ?c ?d; (case a => k_is); (case b => k_is); (case c => k_is); (case d => k_is)
    case f14 => refine' LK.HasFn.mk' ?a ?b ?c ?d; (case a => k_is); (case b => k_is); (case c => k_is); (case d => k_is)
    case f15 => refine' LK.HasFn.mk' ?a ?b ?c ?d; (case a => k_is); (case b => k_is); (case c => k_is); (case d => k_is)
    case f16 => refine' LK.HasFn.mk' ?a ?b ?c ?d; (case a => k_is); (case b => k_is); (case c => k_is); (case d => k_is)
    case f17 => refine' LK.HasFn.mk' ?a ?b ?c ?d; (case a => k_is); (case b => k_is); (case c => k_is); (case d => k_is)
    case f18 => refine' LK.HasFn.mk' ?a ?b ?c ?d; (case a => k_is); (case b => k_is); (case c => k_is); (case d => k_is)
    case f19 => refine' LK.HasFn.mk' ?a ?b ?c ?d; (case a => k_is); (case b => k_is); (case c => k_is); (case d => k_is)
    case f20 => refine' LK.HasFn.mk' ?a ?b ?c ?d; (case a => k_is); (case b => k_is); (case c => k_is); (case d => k_is)
    case f21 => refine' LK.HasFn.mk' ?a ?b ?c ?d; (case a => k_is); (case b => k_is); (case c => k_is); (case d => k_is)
    case f22 => refine' LK.HasFn.mk' ?a ?b ?c ?d; (case a => k_is); (case b => k_is); (case c => k_is); (case d => k_is)
    case f23 => refine' LK.HasFn.mk' ?a ?b ?c ?d; (case a => k_is); (case b => k_is); (case c => k_is); (case d => k_is)
    case f24 => refine' LK.HasFn.mk' ?a ?b ?c ?d; (case a => k_is); (case b => k_is); (case c => k_is); (case d => k_is)
    case f25 => refine' LK.HasFn.mk' ?a ?b ?c ?d; (case a => k_is); (case b => k_is); (case c => k_is); (case d => k_is)
    case f26 => refine' LK.HasFn.mk' ?a ?b ?c ?d; (case a => k_is); (case b => k_is); (case c => k_is); (case d => k_is)
    case f27 => refine' LK.HasFn.mk' ?a ?b ?c ?d; (case a => k_is); (case b => k_is); (case c => k_is); (case d => k_is)
    case c0 => refine' LK.HasInt.mk' ?a ?b; (case a => k_is); (case b => decide +kernel)
    case c1 => refine' LK.HasInt.mk' ?a ?b; (case a => k_is); (case b => decide +kernel)
    case c2 => refine' LK.HasTup.mk' ?a ?b ?c ?d; (case a => k_is); (case b => k_is); (case c => decide); (case d => repeat (first | exact .nil | refine .cons ⟨_, rfl⟩ ?_))
    case b_len => k_is
    case b_int => k_is
    case b_range => k_is
    case b_list => k_is
    case b_tuple => k_is
    case b_str => k_is
    case b_repr => k_is
    case b_reversed => k_is
    case b_zip => k_is
    case b_isinstance => k_is
    case b_bool => k_is
    case b_enumerate => k_is
    case b_set => k_is
    case b_min => k_is
    case d_VALUE_KINDS => refine' LK.HasDct.mk' ?a ?b ?c ?d ?e; (case a => k_is); (case b => k_is); (case c => rfl); (case d => repeat (first | exact .nil | refine .cons rfl rfl rfl ?_)); (case e => decide +kernel)
    case d_OBJECT_KINDS => refine' LK.HasDct.mk' ?a ?b ?c ?d ?e; (case a => k_is); (case b => k_is); (case c => rfl); (case d => repeat (first | exact .nil | refine .cons rfl rfl rfl ?_)); (case e => decide +kernel)


