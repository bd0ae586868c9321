import PyProof.Rows.All
import Wide.All
import OpenK.AllK
import Wide.FinOn
import HandS.ForMost
import HandS.Wide
import HandS.WideMore
import HandS.TupAny
import HandS.TupLen
import HandS.Evl
import HandS.Codes
import PyProof.ReprLen
import PyProof.StrLawsRepr
import HandS.Walk
import HandS.Zip
import KE.GoesMore
import HandS.Style
import HandS.TupMul
import PyProof.StrOps2
import HandS.IsInst
import HandS.StrMore
import HandS.Dict
import HandS.Conv
import KE.KDictList
import HandS.Iter
import HandS.Rev
import HandS.RevTup
import KE.KRevIter
import HandS.FStr
import HandS.SetKeys
import HandS.ReplaceLit
import PySem.Challenge.RW_pyhold_k23_unlike_kinds
set_option Elab.async false
set_option linter.all false
set_option maxRecDepth 100000
set_option maxHeartbeats 4000000
/-! A layer of one's own over the hand layer: defs by name, data, the helpers that the laws share. -/
namespace LK
open PySem PySem.Spec PyProof.Rows L2

/-! ### a def's promise where nothing is being shown (repr asks who is) -/
structure FnG (P : Program) (w : World) (K : PySem.W.Frag) (mg : Str → Option Value) (base : Heap) (CX : CXT) (k : Nat) (f : Addr) (fd : FuncData) (ps : List Str) (sp : Sp) : Prop where
  len : ∀ vs H Q E, sp vs H Q E → vs.length = ps.length
  run : ∀ (A : Around) (outer : List Env) (s : Shared) (H : Hp) (args : Args) (us : List Value) (vs : List V) (Q : VK) (E : XK), Room k A → A.guards = some [] →
    Env0 P w K mg base A outer s H → BindsTo s fd args (ps.zip us) → Vals vs us → sp vs H Q E → codeAny (model P w) A (.call (.ref f) args) (CR CX outer P w H s Q E) s
section
variable {P : Program} {w : World} {K : PySem.W.Frag} {mg : Str → Option Value} {base : Heap} {CX : CXT}
theorem FnG.imp {k : Nat} {f : Addr} {fd : FuncData} {ps : List Str} {sp sp' : Sp} (F : FnG P w K mg base CX k f fd ps sp) (h : ∀ vs H Q E, sp' vs H Q E → sp vs H Q E) : FnG P w K mg base CX k f fd ps sp' where
  len := fun vs H Q E q => F.len vs H Q E (h vs H Q E q)
  run := fun A outer s H args us vs Q E hr hg he hb hv hs => F.run A outer s H args us vs Q E hr hg he hb hv (h vs H Q E hs)
/-- the rule for a def: its body as a term of rules, and the reading of that term -/
theorem okG {x qual : Str} {st : Stmt} {f : Addr} {fd : FuncData} {N ps : List Str} {k : Nat} {sp : Sp} (F : Fun K x qual st f fd) (S : FnScope N ps (defScope st)) (len : ∀ vs H Q E, sp vs H Q E → vs.length = ps.length)
    (body : ∀ (cdv : Value) (A : Around) (outer : List Env) (s : Shared) (H : Hp) (vs : List V) (Q : VK) (E : XK), Room k (A.deeper (envOfC qual (defScope st) s.heap.objs.size f cdv)) →
      (A.deeper (envOfC qual (defScope st) s.heap.objs.size f cdv)).guards = some [] → sp vs H Q E →
      ∃ t, PSs (cxOf CX P w K mg base N qual (defScope st) f cdv A outer s H E) (defBody st) t ∧ t { nx := fun _ H' => Q .non H', rt := Q } (start N vs) H) :
    FnG P w K mg base CX (k + 1) f fd ps sp := by
  obtain ⟨oc, od, kV, doc, pm, an, cdv, ct, osl, rfl, lk, hcd⟩ := F.ex
  refine ⟨len, fun A outer s H args us vs Q E hr hgd e0 hb r hsp => ?_⟩
  have inn : K.In s.heap := e0.mod.kin.keeps fun b o e => (e0.bs b o e).1
  refine codeAny_call_function hr.depth (inn _ _ lk) rfl S.co S.gen rfl (PySem.W.codeRec_of inn hcd) (hb _ _ _ _ ?_)
  refine wpAny_newFunctionEnv_cells S.kind (fun y hy => ?_) fun env he s1 made => ?_
  · obtain ⟨n, v⟩ := y
    exact (S.par n (List.of_mem_zip hy).1).elim .inl fun q => .inr ⟨q, PySem.W.cellsFrom_some _ _ _ (.inl q)⟩
  · subst he
    have lim : s.heap.NoLimit := e0.mod.nolimit.keeps fun b o e => (e0.bs b o e).1
    refine ⟨lim.keeps made.toInCall.keep, codeAny_func ?_⟩
    obtain ⟨t, ht, hq⟩ := body cdv A outer s H vs Q E (hr.deeper _) hgd hsp
    refine wpAny_mono (ht.run [] s1 (start N vs) H _ (inv_start S hr.hd e0 (len _ _ _ _ hsp) r made) hq) (fun fl s' hs => ?_) fun e s' hs => hs
    cases fl with
    | ret u => exact let ⟨v, _, H', J, rv, q⟩ := hs; ⟨v, H', J.os, J.bare, J.base, J.hok, rv, q⟩
    | next => exact let ⟨_, H', J, q⟩ := hs; ⟨V.non, H', J.os, J.bare, J.base, J.hok, rfl, q⟩
    | brk => exact let ⟨_, _, _, q⟩ := hs; q.elim
    | cont => exact let ⟨_, _, _, q⟩ := hs; q.elim
/-- .. whose body lets no exception out -/
theorem okG0 {x qual : Str} {st : Stmt} {f : Addr} {fd : FuncData} {N ps : List Str} {k : Nat} {sp : Sp} (F : Fun K x qual st f fd) (S : FnScope N ps (defScope st)) (len : ∀ vs H Q E, sp vs H Q E → vs.length = ps.length)
    (body : ∀ (cdv : Value) (A : Around) (outer : List Env) (s : Shared) (H : Hp) (vs : List V) (Q : VK) (E : XK), Room k (A.deeper (envOfC qual (defScope st) s.heap.objs.size f cdv)) →
      (A.deeper (envOfC qual (defScope st) s.heap.objs.size f cdv)).guards = some [] → sp vs H Q E →
      ∃ t, PSs (cxOf CX0 P w K mg base N qual (defScope st) f cdv A outer s H E).nox (defBody st) t ∧ t { nx := fun _ H' => Q .non H', rt := Q } (start N vs) H) :
    FnG P w K mg base CX0 (k + 1) f fd ps sp :=
  okG F S len fun cdv A outer s H vs Q E hr hg hs => let ⟨t, ht, q⟩ := body cdv A outer s H vs Q E hr hg hs; ⟨t, ht.nox, q⟩
end
section
variable {X : Cx} {CX : CXT} {k : Nat} {f : Addr} {fd : FuncData} {ps : List Str} {sp : Sp} {E : XK} {x : Str} {p pos : Pos} {e : Expr} {es : List Expr} {t : TA}
theorem run_fnG {pins : List (Addr × Obj)} {σ : L2.St} {H : Hp} {s : Shared} {Q : VK} {us : List Value} {vs : List V} (F : FnG X.prog X.w X.K X.mg X.base CX k f fd ps sp) (hr : Room k X.A) (hg : X.A.guards = some []) (hb : Binds X.K fd ps [])
    (hx : Passes CX X E) (I : Inv X pins σ H s) (r : Vals vs us) (h : sp vs H Q E) : wpAny (model X.prog X.w) X.A (call (.ref f) us) (EP X pins σ Q) X.xe s := by
  have hl : (us ++ []).length = ps.length := by rw [List.append_nil, ← r.length, F.len _ _ _ _ h]
  have hbs := hb s us I.kIn hl
  rw [List.append_nil] at hbs
  refine wpAny_call (codeAny_mono (F.run X.A X.stack s H ⟨us, []⟩ us vs Q E hr hg I.env0 hbs r h) fun res s' hq => ?_)
  match res, hq with
  | .error e, hq => exact hx pins σ H s e s' I hq
  | .ok (.ret u), hq => exact I.after hq
  | .ok .next, hq => exact hq.elim
  | .ok .brk, hq => exact hq.elim
  | .ok .cont, hq => exact hq.elim
end

/-! ### defs of the text, by name -/
/-- what the top has left of the def x, whose statement is st -/
def HasFn (K : PySem.W.Frag) (x : Str) (st : Stmt) : Prop := ∃ (f : Addr) (oc : Value) (od an : Option Addr) (kV doc pm cdv ct : Value) (osl : Array (Option Value)),
  PySem.W.nsIn K mainGlobals x = some (some (.ref f)) ∧ K.lookup f = some ⟨oc, od, .func (PySem.W.fnOf x x (defArgs st) (defBody st) (defScope st) .none kV doc pm an cdv ct), osl⟩ ∧
  PySem.W.codeIn K cdv x = true ∧ PySem.W.keepIn K (.ref f) = true
/-- the def x may be called: its promise sp, by level k -/
structure Use (P : Program) (w : World) (K : PySem.W.Frag) (mg : Str → Option Value) (base : Heap) (CX : CXT) (x : Str) (k : Nat) (ps : List Str) (sp : Sp) : Prop where
  ex : ∃ (f : Addr) (fd : FuncData), FnG P w K mg base CX k f fd ps sp ∧ mg x = some (.ref f) ∧ PySem.W.keepIn K (.ref f) = true ∧ Binds K fd ps []
section
variable {P : Program} {w : World} {K : PySem.W.Frag} {mg : Str → Option Value} {base h : Heap} {CX : CXT}
theorem mk_use {x : Str} {st : Stmt} {k : Nat} {ps : List Str} {sp : Sp} (F : HasFn K x st) (X : K.In h) (G : h.Ns mainGlobals mg)
    (hb : ∀ (kV doc pm : Value) (an : Option Addr) (cdv ct : Value) (us : List Value), us.length = ps.length → bindArgs (PySem.W.fnOf x x (defArgs st) (defBody st) (defScope st) .none kV doc pm an cdv ct) ⟨us, []⟩ = pure (ps.zip us))
    (ok : ∀ (f : Addr) (fd : FuncData), Fun K x x st f fd → FnG P w K mg base CX k f fd ps sp) : Use P w K mg base CX x k ps sp := by
  obtain ⟨f, oc, od, an, kV, doc, pm, cdv, ct, osl, e, l, c, kp⟩ := F
  have Fn := fun_mk (st := st) l c kp
  exact ⟨f, _, ok f _ Fn, PySem.W.mg_of X G e, kp, Fn.binds hb⟩
theorem Use.imp {x : Str} {k : Nat} {ps : List Str} {sp sp' : Sp} (U : Use P w K mg base CX x k ps sp) (h : ∀ vs H Q E, sp' vs H Q E → sp vs H Q E) : Use P w K mg base CX x k ps sp' := by
  obtain ⟨f, fd, ok, r⟩ := U.ex
  exact ⟨f, fd, ok.imp h, r⟩
end
section
variable {X : Cx} {CX : CXT} {E : XK} {k : Nat} {x : Str} {ps : List Str} {sp : Sp} {p pos : Pos} {e : Expr} {es : List Expr} {t : TA}
theorem pe_useX (U : Use X.prog X.w X.K X.mg X.base CX x k ps sp) (hx : Passes CX X E) (hr : Room k X.A) (gd : X.A.guards = some []) (hg : Gl X x) (ha : PA X (e :: es) t) (hdb : (x == ("__debug__" : Str)) = false := by decide)
    (he : starEach (e :: es) X.env = (false, eval e X.env) :: starEach es X.env := by rfl) (hpl : (backTo pos (starEach es X.env)).any (·.1) = false := by rfl) : PE X (.Call (.Name x p) (e :: es) [] pos) (fun σ H Q => t σ H fun vs H1 => sp vs H1 Q E) := by
  obtain ⟨f, fd, ok, hm, kp, hb⟩ := U.ex
  refine ⟨fun pins s σ H Q I h => wpAny_Call_Name_kw (ld_glob I hg hm ?_ hdb)⟩
  exact PySem.W.callWith_K (h₀ := X.base) I.ok.mod.kin kp (thn (ha.run pos pins s σ H _ I h) fun us s1 ⟨vs, H1, I1, r, q⟩ => ⟨I1.kIn, run_fnG ok hr gd hb hx I1 r q⟩) he hpl
def tUse (sp : Sp) (E : XK) (t : TA) : TE := fun σ H Q => t σ H fun vs H1 => sp vs H1 Q E
theorem pe_use (U : Use X.prog X.w X.K X.mg X.base CX0 x k ps sp) (hr : Room k X.A) (gd : X.A.guards = some []) (hg : Gl X x) (ha : PA X (e :: es) t) (hdb : (x == ("__debug__" : Str)) = false := by decide)
    (he : starEach (e :: es) X.env = (false, eval e X.env) :: starEach es X.env := by rfl) (hpl : (backTo pos (starEach es X.env)).any (·.1) = false := by rfl) : PE X (.Call (.Name x p) (e :: es) [] pos) (tUse sp E0 t) := pe_useX U pass0 hr gd hg ha hdb he hpl
theorem pe_use0 (U : Use X.prog X.w X.K X.mg X.base CX0 x k ps sp) (hr : Room k X.A) (gd : X.A.guards = some []) (hg : Gl X x) (hdb : (x == ("__debug__" : Str)) = false := by decide) : PE X (.Call (.Name x p) [] [] pos) (tUse sp E0 tNil) := by
  obtain ⟨f, fd, ok, hm, kp, hb⟩ := U.ex
  exact ⟨fun pins s σ H Q I h => wpAny_Call_Name_kw (ld_glob I hg hm (PySem.W.callWith_K0 I.kIn kp (run_fnG (us := []) ok hr gd hb pass0 I .nil h)) hdb)⟩
end

/-! ### what stays -/
theorem Same.new {H : Hp} {p : Addr} {o : HO} (h : H p = none) : Same H (upd H p o) := fun b u e => by
  rw [upd_ne (ne_of_none e h)]; exact e
theorem Same.rd {H H' : Hp} {a : Addr} {u : HO} (e : Same H H') (h : Rd H a u) : Rd H' a u := by
  rcases h with h | ⟨o, h⟩
  · exact .inl (e _ _ h)
  · exact .inr ⟨o, e _ _ h⟩
theorem Same.tupl {K : PySem.W.Frag} {H H' : Hp} {a : Addr} {xs : List V} (e : Same H H') (h : SqT K H a xs) : SqT K H' a xs := by
  rcases h with h | h
  · exact .inl (Same.rd e h)
  · exact .inr h
theorem SqT.mono {K : PySem.W.Frag} {H H' : Hp} {a : Addr} {xs : List V} (h : SqT K H a xs) (e : Same H H') : SqT K H' a xs := Same.tupl e h
theorem SqL.mono {K : PySem.W.Frag} {H H' : Hp} {a : Addr} {xs : List V} (h : SqL K H a xs) (e : Same H H') : SqL K H' a xs := e.seq h

/-! ### data: none, bools, ints, texts, tuples (and lists that stand still) -/
mutual
theorem Dp.mono {K : PySem.W.Frag} {H H' : Hp} (e : Same H H') : ∀ {v : V} {d : PyData}, Dp K H v d → Dp K H' v d
  | _, _, .non => .non
  | _, _, .bl b => .bl b
  | _, _, .int i => .int i
  | _, _, .str x => .str x
  | _, _, .lst h a => .lst (e.seq h) (DpAll.mono e a)
  | _, _, .tup h a => .tup (Same.tupl e h) (DpAll.mono e a)
theorem DpAll.mono {K : PySem.W.Frag} {H H' : Hp} (e : Same H H') : ∀ {vs : List V} {ds : List PyData}, DpAll K H vs ds → DpAll K H' vs ds
  | _, _, .nil => .nil
  | _, _, .cons h a => .cons (Dp.mono e h) (DpAll.mono e a)
end
/-- a tuple just made -/
theorem Dp.made {K : PySem.W.Frag} {H : Hp} {p : Addr} {xs : List V} {ds : List PyData} (hp : H p = none) (h : DpAll K H xs ds) : Dp K (upd H p (.tup xs)) (.ref p) (.tuple ds) :=
  .tup (SqT.of upd_same) (DpAll.mono (Same.new hp) h)
theorem DpAll.length {K : PySem.W.Frag} {H : Hp} : ∀ {vs : List V} {ds : List PyData}, DpAll K H vs ds → vs.length = ds.length
  | _, _, .nil => rfl
  | _, _, .cons _ t => by simp [DpAll.length t]
theorem DpAll.app {K : PySem.W.Frag} {H : Hp} : ∀ {vs ws : List V} {ds es : List PyData}, DpAll K H vs ds → DpAll K H ws es → DpAll K H (vs ++ ws) (ds ++ es)
  | _, _, _, _, .nil, t => t
  | _, _, _, _, .cons h a, t => .cons h (DpAll.app a t)

/-! ### repr of data -/
mutual
theorem Dp.noDict {K : PySem.W.Frag} {H : Hp} : ∀ {v : V} {d : PyData}, Dp K H v d → d.hasDict = false
  | _, _, .non => rfl
  | _, _, .bl _ => rfl
  | _, _, .int _ => rfl
  | _, _, .str _ => rfl
  | _, _, .lst _ a => by simp only [PyData.hasDict]; exact DpAll.noDict a
  | _, _, .tup _ a => by simp only [PyData.hasDict]; exact DpAll.noDict a
theorem DpAll.noDict {K : PySem.W.Frag} {H : Hp} : ∀ {vs : List V} {ds : List PyData}, DpAll K H vs ds → PyData.hasDictAll ds = false
  | _, _, .nil => rfl
  | _, _, .cons h a => by simp only [PyData.hasDictAll, Dp.noDict h, DpAll.noDict a, Bool.or_self]
end
/-- what repr asks of data -/
structure ShowOk (d : PyData) : Prop where
  ok : d.showable = true
  dp : d.depth ≤ 60
  sz : d.shown.length ≤ sizeLine
def rRepr (K : PySem.W.Frag) : List V → Hp → VK → Prop := fun xs H Q => ∃ v d, xs = [v] ∧ Dp K H v d ∧ ShowOk d ∧ Q (.str d.shown) H
section
variable {X : Cx}
theorem call_repr_data (hg : X.A.guards = some []) (hu : X.A.units + 64 < cLine) : CallR X (.builtin "repr") (rRepr X.K) := by
  intro pins s σ H xs us Q I r h
  obtain ⟨v, d, rfl, hd, ⟨hs, hdp, hsz⟩, q⟩ := h
  obtain ⟨u, rfl, rv⟩ := vals1 r
  obtain ⟨as, rr⟩ := Dp.reads I d v u hd rv
  have nd := Dp.noDict hd
  cases d with
  | none => cases rr; exact PySem.P.repr_of_none ⟨.str _, H, I.tok _, ⟨_, rfl⟩, q⟩
  | bool b => cases rr; exact PySem.P.repr_of_bool ⟨.str _, H, I.tok _, ⟨_, rfl⟩, by simpa [PyData.shown] using q⟩
  | int i => cases rr; exact PySem.P.repr_of_int (of_decide_eq_true (by simpa [PyData.showable] using hs)) ⟨.str _, H, I.tok _, ⟨_, rfl⟩, by simpa [PyData.shown] using q⟩
  | str x => cases rr; exact PySem.P.repr_of_str (hsz := by simpa [PyData.shown] using hsz) ⟨.str _, H, I.tok _, ⟨_, rfl⟩, by simpa [PyData.shown] using q⟩
  | list ds =>
    obtain ⟨a, rfl⟩ := PyProof.Rows.isRef_of_reads rr rfl
    exact repr_of_reads' rr hs (PyData.noDict_hsm nd) hg (by omega) (fun _ _ e => e) (fun h' u tk hk => ⟨.str _, H, I.kept hk, ⟨_, rfl⟩, q⟩) hsz
  | tuple ds =>
    obtain ⟨a, rfl⟩ := PyProof.Rows.isRef_of_reads rr rfl
    exact repr_of_reads' rr hs (PyData.noDict_hsm nd) hg (by omega) (fun _ _ e => e) (fun h' u tk hk => ⟨.str _, H, I.kept hk, ⟨_, rfl⟩, q⟩) hsz
  | dict kv => cases hd
end

/-! ### the law's own call -/
/-- the heap behind the top, seen with the script at a locked, or with nothing tracked -/
theorem law_callG {P : Program} {w : World} {K : PySem.W.Frag} {mg mb : Str → Option Value} {CX : CXT} {k : Nat} {fa a : Addr} {fd : FuncData} {x : Str} {sp : Sp} {s₁ : Shared} {vs : List Value} {ns : List Int}
    (inn : K.In s₁.heap) (hns : s₁.heap.Ns mainGlobals mg) (hb : s₁.heap.Ns builtinsNs mb) (hbb : ∀ x : Str, x ≠ "__name__" → mb x = bootBuiltins x) (hlim : s₁.heap.NoLimit) (hgens : s₁.gens = #[])
    (ha : s₁.heap.get? a = some { cls := .type "list", data := .seq vs.toArray }) (hi : IntsAre vs ns) (hl : ns.length ≤ sizeLine) (hr : Room k callerA)
    (F : ∀ base : Heap, K.In base → base.Ns mainGlobals mg → FnG P w K mg base CX k fa fd [x] sp) (hbind : ∀ (s : Shared) (u : Value), BindsTo s fd ⟨[u], []⟩ [(x, u)])
    (hsp : ∀ H : Hp, Only H → SqL K H a (ns.map V.int) → sp [.ref a] H (fun v _ => v = .bl true) fun _ _ _ => False)
    (hCX : ∀ H e s', CX [] H s₁ (fun _ _ _ => False) e s' → False) :
    codeAny (model P w) callerA (.call (.ref fa) ⟨[.ref a], []⟩) (fun r s' => r = .ok (.ret (.bool true)) ∧ OldK s₁.heap s'.heap ∧ s'.os = s₁.os ∧ AllBare s'.gens) s₁ := by
  have rv := vals_ints hi
  have run : ∀ H : Hp, Only H → SqL K H a (ns.map V.int) → HOk P w H s₁.heap → (∀ b u, H b = some u → b = a ∧ K.lookup a = none) →
      codeAny (model P w) callerA (.call (.ref fa) ⟨[.ref a], []⟩) (fun r s' => r = .ok (.ret (.bool true)) ∧ OldK s₁.heap s'.heap ∧ s'.os = s₁.os ∧ AllBare s'.gens) s₁ := by
    intro H only hS hok at_a
    -- what is no list stays in the base
    have free : ∀ {b : Addr} {o : Obj}, s₁.heap.get? b = some o → (∀ its n, o.data ≠ .seq its n) → H b = none := fun {b o} e hd => by
      cases q : H b with
      | none => rfl
      | some u =>
        obtain ⟨rfl, _⟩ := at_a b u q
        rw [ha] at e; cases e
        exact absurd rfl (hd _ _)
    have names : ∀ {b : Addr} {m : Str → Option Value}, s₁.heap.Ns b m → (hidT s₁.heap H).Ns b m := fun {b m} hn => by
      obtain ⟨o, es, ep, e, d, r⟩ := hn
      exact ⟨o, es, ep, hidT_get e (free e fun its n z => by rw [d] at z; cases z), d, r⟩
    have inb : K.In (hidT s₁.heap H) := fun b o e => by
      refine hidT_get (inn b o e) ?_
      cases q : H b with
      | none => rfl
      | some u =>
        obtain ⟨rfl, hk⟩ := at_a b u q
        rw [e] at hk; cases hk
    have md : Mod K mg (hidT s₁.heap H) := by
      obtain ⟨mc, h1, h2⟩ := hlim
      exact ⟨inb, names hns, ⟨mb, names hb, hbb⟩, ⟨mc, names h1, h2⟩⟩
    have none_in : ∀ b : Addr, b ∉ ([] : List Addr) := fun b z => nomatch z
    have e0 : Env0 P w K mg (hidT s₁.heap H) callerA [] s₁ H := ⟨rfl, md, fun b o e => of_hidT e, Nat.le_of_eq (hidT_size _ _), trivial, fun b z => absurd z (none_in b), hok, .of_eq hgens⟩
    refine codeAny_mono ((F _ inb (names hns)).run callerA [] s₁ H ⟨[.ref a], []⟩ [.ref a] [.ref a] _ _ hr rfl e0 (hbind s₁ (.ref a)) (.cons rfl .nil) (hsp H only hS)) fun r s' h => ?_
    match r, h with
    | .error e, h => exact (hCX H e s' h).elim
    | .ok .next, h => exact False.elim h
    | .ok .brk, h => exact False.elim h
    | .ok .cont, h => exact False.elim h
    | .ok (.ret u), h =>
      obtain ⟨v, H', os, bare, un, hok', r', q⟩ := h
      obtain rfl : v = V.bl true := q
      obtain rfl : u = Value.bool true := r'
      refine ⟨rfl, OldK.of_keep fun b o e => ?_, os, bare⟩
      cases q : H b with
      | none => exact un.keep b o e q (none_in b) (none_in b)
      | some u =>
        rcases only b with z | ⟨ob, xs, z⟩
        · rw [q] at z; cases z
        · have e1 : s₁.heap.get? b = some ob := (hok b _ z).1
          rw [e] at e1; cases e1
          exact (hok' b _ (un.frzs b o _ z)).1
  cases hk : K.lookup a with
  | some o =>
    have e := inn a o hk
    rw [ha] at e; cases e
    have sz : vs.toArray.size ≤ sizeLine := by rw [List.size_toArray, hi.length]; exact hl
    exact run (fun _ => none) (fun _ => .inl rfl) (.inr ⟨_, vs.toArray, _, hk, rfl, rfl, rfl, sz, by simpa using rv⟩) (fun b u z => nomatch (show (none : Option HO) = some u from z)) fun b u z => nomatch (show (none : Option HO) = some u from z)
  | none =>
    let u0 : HO := .frz { cls := .type "list", data := .seq vs.toArray } (.lst (ns.map V.int))
    have at1 : ∀ b u, upd (fun _ => none) a u0 b = some u → b = a ∧ u = u0 := fun b u z => by
      by_cases hb : b = a
      · subst hb; rw [upd_same] at z; exact ⟨rfl, (Option.some.inj z).symm⟩
      · rw [upd_ne hb] at z; cases z
    refine run (upd (fun _ => none) a u0) (fun b => ?_) (.inl (.inr ⟨_, upd_same⟩)) (fun b u z => ?_) fun b u z => ⟨(at1 b u z).1, hk⟩
    · by_cases hb : b = a
      · subst hb; exact .inr ⟨_, _, upd_same⟩
      · exact .inl (by rw [upd_ne hb])
    · obtain ⟨rfl, rfl⟩ := at1 b u z
      exact ⟨ha, by rw [List.length_map]; exact hl, vs, _, rv, ha⟩
theorem walkG {l : PySem.W.OpenLaw} {n k : Nat} {q : Program} {loose : List Str} {XP : (Str → Option Value) → Heap → Prop} {YP : World → Heap → Prop} {d : DefRec} {K : Params → PySem.W.Frag} {CX : CXT} {sp : PySem.W.Frag → Sp} {x : Str}
    (hn : l.most = some n) (hn2 : n ≤ sizeLine) (hdf : d.params.defaults = []) (hr : Room k callerA)
    (hY : ∀ (w : World) (h : Heap), YP w h → (K w.params).In h)
    (F : ∀ (w : World) (mg : Str → Option Value) (fa : Addr) (h : Heap), (K w.params).In h → h.Ns mainGlobals mg → mg d.name = some (.ref fa) →
      ∃ fd : FuncData, (∀ (s : Shared) (u : Value), BindsTo s fd ⟨[u], []⟩ [(x, u)]) ∧
        ∀ base : Heap, (K w.params).In base → base.Ns mainGlobals mg → FnG l.prog w (K w.params) mg base CX k fa fd [x] (sp (K w.params)))
    (hsp : ∀ (K : PySem.W.Frag) (H : Hp) (a : Addr) (ns : List Int), ns.length ≤ n → Only H → SqL K H a (ns.map V.int) → sp K [.ref a] H (fun v _ => v = .bl true) fun _ _ _ => False)
    (hCX : ∀ (H : Hp) (s : Shared) (e : Value) (s' : Shared), CX [] H s (fun _ _ _ => False) e s' → False) :
    PySem.W.WalkO q loose XP YP l.row.toRowW d [] (fun f vs => PySem.call f vs) :=
  Att.attach_call hn hdf fun w s₀ s₁ mg mb fa o pm cd doc a vs ns G Y ho hd hcd hmg hobj hints hlen hg =>
    let ⟨fd, hb, hF⟩ := F w mg fa _ (hY w _ Y) G.T.g hmg
    law_callG (hY w _ Y) G.T.g G.T.b G.T.builtins G.T.nolimit hg hobj hints (Nat.le_trans hlen hn2) hr hF hb (fun H hO hS => hsp (K w.params) H a ns hlen hO hS) fun H e s' => hCX H s₁ e s'
/-- from the top's facts: the law's def and its arguments -/
theorem law_use {P : Program} {w : World} {K : PySem.W.Frag} {mg : Str → Option Value} {h : Heap} {CX : CXT} {k : Nat} {fa : Addr} {st : Stmt} {x : Str} {sp : Sp} (L : HasFn K "law" st) (X : K.In h) (G : h.Ns mainGlobals mg) (hfa : mg "law" = some (.ref fa))
    (hb : ∀ (kV doc pm : Value) (an : Option Addr) (cdv ct v : Value), bindArgs (PySem.W.fnOf "law" "law" (defArgs st) (defBody st) (defScope st) .none kV doc pm an cdv ct) ⟨[v], []⟩ = pure [(x, v)])
    (ok : ∀ base : Heap, K.In base → base.Ns mainGlobals mg → ∀ fd, Fun K "law" "law" st fa fd → FnG P w K mg base CX k fa fd [x] sp) :
    ∃ fd : FuncData, (∀ (s : Shared) (v : Value), BindsTo s fd ⟨[v], []⟩ [(x, v)]) ∧ ∀ base : Heap, K.In base → base.Ns mainGlobals mg → FnG P w K mg base CX k fa fd [x] sp := by
  obtain ⟨f, oc, od, an, kV, doc, pm, cdv, ct, osl, e, l, c, kp⟩ := L
  have z := hfa.symm.trans (PySem.W.mg_of X G e)
  cases z
  have Fn := fun_mk (st := st) l c kp
  exact ⟨_, fun s v => .of_eq (hb ..), fun base h1 h2 => ok base h1 h2 _ Fn⟩

/-! ### tests whose answer is known -/
theorem iteFb {c : Bool} {A B : Prop} (h : c = false) (b : B) : if c = true then A else B := by rw [h]; exact iteF b
theorem iteTb {c : Bool} {A B : Prop} (h : c = true) (a : A) : if c = true then A else B := by rw [h]; exact iteT a
theorem ite3 {c : Bool} {A B : Prop} (h1 : c = true → A) (h2 : c = false → B) : if c = true then A else B := by
  cases c with
  | true => exact iteT (h1 rfl)
  | false => exact iteF (h2 rfl)

/-! ### constants of the top -/
def HasInt (K : PySem.W.Frag) (x : Str) (n : Int) : Prop := ∃ (t : Tok) (m : Int), PySem.W.nsIn K mainGlobals x = some (some (.int m t)) ∧ m = n
def KTup (K : PySem.W.Frag) (a : Addr) (xs : List V) : Prop := ∃ (od : Option Addr) (its : Array Value) (n : Nat) (sl : Array (Option Value)), K.lookup a = some ⟨.type "tuple", od, .seq its n, sl⟩ ∧ its.size ≤ sizeLine ∧ Vals xs its.toList
def HasTup (K : PySem.W.Frag) (x : Str) (xs : List V) : Prop := ∃ a, PySem.W.nsIn K mainGlobals x = some (some (.ref a)) ∧ KTup K a xs
theorem KTup.sq {K : PySem.W.Frag} {a : Addr} {xs : List V} (h : KTup K a xs) (H : Hp) : SqT K H a xs := by
  obtain ⟨od, its, n, sl, e, z, v⟩ := h
  exact .inr ⟨_, its, n, e, rfl, rfl, z, v⟩
/-- the module's names, as the defs see them -/
def GInt (mg : Str → Option Value) (x : Str) (n : Int) : Prop := ∃ t, mg x = some (.int n t)
def GTup (K : PySem.W.Frag) (mg : Str → Option Value) (x : Str) (xs : List V) : Prop := ∃ a, mg x = some (.ref a) ∧ KTup K a xs
theorem HasInt.g {K : PySem.W.Frag} {mg : Str → Option Value} {h : Heap} {x : Str} {n : Int} (i : HasInt K x n) (X : K.In h) (G : h.Ns mainGlobals mg) : GInt mg x n := by
  obtain ⟨t, m, e, rfl⟩ := i
  exact ⟨t, PySem.W.mg_of X G e⟩
theorem HasTup.g {K : PySem.W.Frag} {mg : Str → Option Value} {h : Heap} {x : Str} {xs : List V} (i : HasTup K x xs) (X : K.In h) (G : h.Ns mainGlobals mg) : GTup K mg x xs := by
  obtain ⟨a, e, k⟩ := i
  exact ⟨a, PySem.W.mg_of X G e, k⟩
section
variable {X : Cx} {x : Str} {pos : Pos}
theorem pe_globI {n : Int} (h : GInt X.mg x n) (hg : Gl X x) (hd : (x == ("__debug__" : Str)) = false := by decide) : PE X (.Name x pos) (tC (.int n)) := by
  obtain ⟨t, e⟩ := h
  exact pe_glob hg e ⟨t, rfl⟩ hd
/-- a tuple of the top: it is read as xs, wherever it stands -/
def tGT (K : PySem.W.Frag) (xs : List V) : TE := fun _ H Q => ∀ a, KTup K a xs → Q (.ref a) H
theorem pe_globT {xs : List V} (h : GTup X.K X.mg x xs) (hg : Gl X x) (hd : (x == ("__debug__" : Str)) = false := by decide) : PE X (.Name x pos) (tGT X.K xs) := by
  obtain ⟨a, e, k⟩ := h
  exact ⟨fun pins s σ H Q I q => (pe_glob (v := .ref a) hg e rfl hd).run pins s σ H Q I (q a k)⟩
end

/-! ### // by any divisor but 0 -/
def CDivX (_ j : Int) : Prop := j ≠ 0 ∧ j.natAbs.log2 < 9000
theorem op_fdivX {X : Cx} : OpR X (binaryOp .FloorDiv) (rI CDivX fun i j => .int (i.fdiv j)) := opI fun _ _ _ _ _ _ _ hc q => floordiv_int hc.1 q (.inl (PyProof.noPylong_of_log2 hc.2))
theorem fdiv_le_pos (i : Int) {j : Int} (hj : 0 < j) : (i.fdiv j).natAbs ≤ i.natAbs + 1 := by
  have e := Int.mul_fdiv_add_fmod i j
  have h0 := Int.fmod_nonneg_of_pos i hj
  have h1 := Int.fmod_lt_of_pos i hj
  have a : (i.fdiv j).natAbs ≤ (j * i.fdiv j).natAbs := by
    rw [Int.natAbs_mul]; exact Nat.le_mul_of_pos_left _ (by omega)
  by_cases hi : 0 ≤ i
  · have : 0 ≤ i.fdiv j := Int.fdiv_nonneg hi (by omega)
    have : 0 ≤ j * i.fdiv j := Int.mul_nonneg (by omega) this
    omega
  · have q : i.fdiv j ≤ -1 := by
      by_cases z : 0 ≤ i.fdiv j
      · have := Int.mul_nonneg (show 0 ≤ j by omega) z
        omega
      · omega
    have r : -1 + i ≤ i.fdiv j := by
      have : i.fdiv j * (j - 1) ≤ (-1) * (j - 1) := Int.mul_le_mul_of_nonneg_right q (by omega)
      have e2 : j * i.fdiv j = i.fdiv j * (j - 1) + i.fdiv j := by rw [Int.mul_sub, Int.mul_one, Int.mul_comm]; omega
      omega
    omega
theorem fdiv_le (i j : Int) : (i.fdiv j).natAbs ≤ i.natAbs + 1 := by
  by_cases h : 0 < j
  · exact fdiv_le_pos i h
  · by_cases h2 : j = 0
    · subst h2; rw [Int.fdiv_zero]; omega
    · have e : i.fdiv j = (-i).fdiv (-j) := by rw [Int.neg_fdiv_neg]
      have := fdiv_le_pos (-i) (show 0 < -j by omega)
      rw [e]; omega

/-! ### how long a shown thing is at most -/
structure Sm (d : PyData) (dp N : Nat) : Prop where
  ok : d.showable = true
  dp : d.depth ≤ dp
  sz : d.shown.length ≤ N
structure SmAll (ds : List PyData) (dp n N : Nat) : Prop where
  ok : PyData.showableAll ds = true
  dp : PyData.depthAll ds ≤ dp
  len : ds.length ≤ n
  sz : ((PyData.shownAll ds).map (·.length)).sum ≤ N
theorem Sm.show {d : PyData} {dp N : Nat} (h : Sm d dp N) (h1 : dp ≤ 60) (h2 : N ≤ sizeLine) : ShowOk d := ⟨h.ok, Nat.le_trans h.dp h1, Nat.le_trans h.sz h2⟩
theorem Sm.mono {d : PyData} {dp N dp' N' : Nat} (h : Sm d dp N) (h1 : dp ≤ dp') (h2 : N ≤ N') : Sm d dp' N' := ⟨h.ok, Nat.le_trans h.dp h1, Nat.le_trans h.sz h2⟩
theorem shownAll_length : ∀ ds : List PyData, (PyData.shownAll ds).length = ds.length
  | [] => rfl
  | d :: ds => by simp [PyData.shownAll, shownAll_length ds]
theorem Sm.int {i : Int} (h : i.natAbs < 2 ^ 1900) : Sm (.int i) 0 2000 := by
  have hl : i.natAbs.log2 < 1900 := PySem.Flt.log2_lt_of (by decide) h
  refine ⟨?_, Nat.le_refl 0, ?_⟩
  · simp only [PyData.showable, decide_eq_true_eq]; omega
  · have e := int_text_length_le (k := 1900) (by decide) hl
    show (Str.ofString (toString i)).length ≤ 2000
    rw [PySem.ofString_length]; omega
theorem Sm.bool (b : Bool) : Sm (.bool b) 0 10 := ⟨rfl, Nat.le_refl 0, by cases b <;> decide +kernel⟩
theorem Sm.none : Sm .none 0 10 := ⟨rfl, Nat.le_refl 0, by decide +kernel⟩
theorem Sm.str {x : Str} {n : Nat} (h : x.length ≤ n) (hc : ∀ c ∈ x.cps.toList, c < 16 ^ 8) : Sm (.str x) 0 (10 * n + 2) := ⟨rfl, Nat.le_refl 0, by
  have e := PySem.StrLaws.reprText_len x hc
  show (reprText x).length ≤ _
  omega⟩
theorem SmAll.nil : SmAll [] 0 0 0 := ⟨rfl, Nat.le_refl 0, Nat.le_refl 0, Nat.le_refl 0⟩
theorem SmAll.cons {d : PyData} {ds : List PyData} {dp dp' n N M : Nat} (h : Sm d dp N) (t : SmAll ds dp' n M) : SmAll (d :: ds) (max dp dp') (n + 1) (N + M) := by
  have h1 := h.dp
  have h2 := t.dp
  refine ⟨by simp [PyData.showableAll, h.ok, t.ok], ?_, by have := t.len; simp; omega, ?_⟩
  · simp only [PyData.depthAll]; omega
  · have := h.sz
    have := t.sz
    simp only [PyData.shownAll, List.map_cons, List.sum_cons]; omega
theorem Sm.tup {ds : List PyData} {dp n N : Nat} (h : SmAll ds dp n N) : Sm (.tuple ds) (dp + 1) (N + 2 * n + 3) := by
  refine ⟨by simpa [PyData.showable] using h.ok, by simp only [PyData.depth]; have := h.dp; omega, ?_⟩
  have e := tupleText_len_le (PyData.shownAll ds)
  have := h.sz
  have := h.len
  rw [shownAll_length] at e
  show (tupleText (PyData.shownAll ds)).length ≤ _
  omega
theorem Sm.lst {ds : List PyData} {dp n N : Nat} (h : SmAll ds dp n N) : Sm (.list ds) (dp + 1) (N + 2 * n + 3) := by
  refine ⟨by simpa [PyData.showable] using h.ok, by simp only [PyData.depth]; have := h.dp; omega, ?_⟩
  have e := listText_len_le (PyData.shownAll ds)
  have := h.sz
  have := h.len
  rw [shownAll_length] at e
  show (listText (PyData.shownAll ds)).length ≤ _
  omega
theorem SmAll.many {dp N : Nat} : ∀ {ds : List PyData}, (∀ d ∈ ds, Sm d dp N) → SmAll ds dp ds.length (N * ds.length)
  | [], _ => ⟨rfl, Nat.zero_le _, Nat.le_refl 0, Nat.zero_le _⟩
  | d :: ds, h => by
    have t := SmAll.cons (h d (by simp)) (SmAll.many (fun e he => h e (List.mem_cons_of_mem _ he)))
    rw [Nat.max_self] at t
    refine ⟨t.ok, t.dp, t.len, Nat.le_trans t.sz ?_⟩
    rw [List.length_cons, Nat.mul_succ]; omega
theorem sz_0 : (0 : Nat) ≤ sizeLine := by decide
theorem sz_1 : (1 : Nat) ≤ sizeLine := by decide
theorem sz_2 : (2 : Nat) ≤ sizeLine := by decide
theorem sz_3 : (3 : Nat) ≤ sizeLine := by decide
theorem sz_4 : (4 : Nat) ≤ sizeLine := by decide
theorem sz_5 : (5 : Nat) ≤ sizeLine := by decide
/-! ### the ends: each premise a fact that k_is finds -/
theorem HasFn.mk' {K : PySem.W.Frag} {x : Str} {st : Stmt} {f : Addr} {oc : Value} {od an : Option Addr} {kV doc pm cdv ct : Value} {osl : Array (Option Value)} (a : PySem.W.nsIn K mainGlobals x = some (some (.ref f)))
    (b : K.lookup f = some ⟨oc, od, .func (PySem.W.fnOf x x (defArgs st) (defBody st) (defScope st) .none kV doc pm an cdv ct), osl⟩) (c : PySem.W.codeIn K cdv x = true) (d : PySem.W.keepIn K (.ref f) = true) : HasFn K x st :=
  ⟨f, oc, od, an, kV, doc, pm, cdv, ct, osl, a, b, c, d⟩
theorem HasInt.mk' {K : PySem.W.Frag} {x : Str} {n m : Int} {t : Tok} (a : PySem.W.nsIn K mainGlobals x = some (some (.int m t))) (e : m = n) : HasInt K x n := ⟨t, m, a, e⟩
theorem HasTup.mk' {K : PySem.W.Frag} {x : Str} {xs : List V} {a : Addr} {od : Option Addr} {its : Array Value} {n : Nat} {sl : Array (Option Value)} (h : PySem.W.nsIn K mainGlobals x = some (some (.ref a)))
    (b : K.lookup a = some ⟨.type "tuple", od, .seq its n, sl⟩) (z : its.size ≤ sizeLine) (v : Vals xs its.toList) : HasTup K x xs := ⟨a, h, od, its, n, sl, b, z, v⟩
/-! ### what the laws' helpers promise -/
/-! the digits and the place -/
def BoxAt (H : Hp) (p dl : Addr) : Prop := ∃ (ds : List Int) (k : Int), H p = some (.lst [.ref dl, .int k]) ∧ 0 ≤ k ∧ H dl = some (.lst (ds.map V.int)) ∧ ds.length ≤ 4000 ∧ ∀ d ∈ ds, 0 ≤ d ∧ d < 1000
theorem BoxAt.at_ {H : Hp} {p dl : Addr} (h : BoxAt H p dl) : ∃ xs, H p = some (.lst xs) := let ⟨_, _, a, _⟩ := h; ⟨_, a⟩
theorem BoxAt.dg {H : Hp} {p dl : Addr} (h : BoxAt H p dl) : ∃ xs, H dl = some (.lst xs) := let ⟨_, _, _, _, c, _⟩ := h; ⟨_, c⟩
def Keep (p : Addr) (H H' : Hp) : Prop := ∀ b o, H b = some o → b ≠ p → H' b = some o
def spDraw (K : PySem.W.Frag) : Sp := fun vs H Q _ => ∃ (p dl : Addr) (m : Int), vs = [.ref p, .int m] ∧ BoxAt H p dl ∧ 0 < m ∧ ∀ r H', 0 ≤ r → r < m → BoxAt H' p dl → Keep p H H' → Q (.int r) H'
def spCell (K : PySem.W.Frag) : Sp := fun vs H Q _ => ∃ (a : Addr) (ns : List Int) (i : Int), vs = [.ref a, .int i] ∧ SqL K H a (ns.map V.int) ∧ 0 ≤ i ∧ ∀ r, Q (.int r) H
def DigAt (H0 H : Hp) (dl : Addr) (n : Nat) : Prop := ∃ ds : List Int, H dl = some (.lst (ds.map V.int)) ∧ ds.length ≤ n ∧ (∀ d ∈ ds, 0 ≤ d ∧ d < 1000) ∧ Same H0 H
theorem DigAt.mono {H0 H : Hp} {dl : Addr} {n m : Nat} (h : DigAt H0 H dl n) (l : n ≤ m) : DigAt H0 H dl m := let ⟨ds, a, b, c, d⟩ := h; ⟨ds, a, by omega, c, d⟩
theorem DigAt.add {H0 H : Hp} {dl : Addr} {n : Nat} {r : Int} {xs : List V} (h : DigAt H0 H dl n) (hx : H dl = some (.lst xs)) (nd : H0 dl = none) (h0 : 0 ≤ r) (h1 : r < 1000) : DigAt H0 (upd H dl (.lst (xs ++ [.int r]))) dl (n + 1) := by
  obtain ⟨ds, a, b, c, d⟩ := h
  rw [hx] at a
  obtain rfl := HO.lst.inj (Option.some.inj a)
  refine ⟨ds ++ [r], by rw [upd_same, List.map_append]; rfl, by simp; omega, fun z hz => ?_, fun q o e => by rw [upd_ne (ne_of_none e nd)]; exact d q o e⟩
  rcases List.mem_append.mp hz with hz | hz
  · exact c z hz
  · have : z = r := by simpa using hz
    omega
def spDigits (K : PySem.W.Frag) : Sp := fun vs H Q _ => ∃ (a : Addr) (ns : List Int) (lo hi : Nat), vs = [.ref a, .int lo, .int hi] ∧ SqL K H a (ns.map V.int) ∧ lo ≤ hi ∧ hi ≤ 64 ∧
  ∀ (p : Addr) (H' : Hp), H p = none → DigAt H H' p 4000 → Q (.ref p) H'
def spBound : Sp := fun vs H Q _ => vs = [] ∧ Q (.int (2 ^ 256)) H
theorem Keep.trans {p : Addr} {H H1 H2 : Hp} (a : Keep p H H1) (b : Keep p H1 H2) : Keep p H H2 := fun c o h ne => b c o (a c o h ne) ne
theorem Keep.refl (p : Addr) (H : Hp) : Keep p H H := fun _ _ h _ => h
def Sgn (z : Int) : Prop := z = 1 ∨ z = -1
theorem Sgn.mul {z n : Int} (h : Sgn z) : (z * n).natAbs = n.natAbs := by
  rcases h with rfl | rfl <;> omega
theorem Sgn.wide {z n : Int} (h : Sgn z) (hn : n.natAbs < 2 ^ 300) : CMulW z n := wide_mul (a := 2) (b := 300) (by rcases h with rfl | rfl <;> decide) hn (by decide) (by decide) (by decide)
def spNumber (K : PySem.W.Frag) : Sp := fun vs H Q _ => ∃ (p dl : Addr), vs = [.ref p] ∧ BoxAt H p dl ∧ ∀ (n : Int) H', n.natAbs < 2 ^ 260 → BoxAt H' p dl → Keep p H H' → Q (.int n) H'
def spSame (K : PySem.W.Frag) : Sp := fun vs H Q _ => ∃ (x y : V) (d : PyData), vs = [x, y] ∧ Dp K H x d ∧ Dp K H y d ∧ ShowOk d ∧ Q (.bl true) H
theorem Same.keep {p : Addr} {H H' : Hp} (e : Same H H') : Keep p H H' := fun b o h _ => e b o h
theorem BoxAt.same {p dl : Addr} {H H' : Hp} (h : BoxAt H p dl) (e : Same H H') : BoxAt H' p dl := by
  obtain ⟨ds, k, a, b, c, d⟩ := h
  exact ⟨ds, k, e _ _ a, b, e _ _ c, d⟩
theorem BoxAt.upd {p dl l : Addr} {H : Hp} {o : HO} (h : BoxAt H p dl) (h1 : l ≠ p) (h2 : l ≠ dl) : BoxAt (L2.upd H l o) p dl := by
  obtain ⟨ds, k, a, b, c, d⟩ := h
  exact ⟨ds, k, by rw [upd_ne (Ne.symm h1)]; exact a, b, by rw [upd_ne (Ne.symm h2)]; exact c, d⟩
theorem strOk (s : Str) (h : s.cps.toList.all (fun c => decide (c < 16 ^ 8)) = true) : ∀ c ∈ s.cps.toList, c < 16 ^ 8 := fun c hc => of_decide_eq_true (List.all_eq_true.mp h c hc)

/-! ### data without lists: what no change of a list can reach -/
mutual
inductive Dt (K : PySem.W.Frag) (H : Hp) : V → PyData → Prop
  | non : Dt K H .non .none
  | bl (b : Bool) : Dt K H (.bl b) (.bool b)
  | int (i : Int) : Dt K H (.int i) (.int i)
  | str (x : Str) : Dt K H (.str x) (.str x)
  | tup {a : Addr} {xs : List V} {ds : List PyData} : SqT K H a xs → DtAll K H xs ds → Dt K H (.ref a) (.tuple ds)
inductive DtAll (K : PySem.W.Frag) (H : Hp) : List V → List PyData → Prop
  | nil : DtAll K H [] []
  | cons {v : V} {vs : List V} {d : PyData} {ds : List PyData} : Dt K H v d → DtAll K H vs ds → DtAll K H (v :: vs) (d :: ds)
end
mutual
theorem Dt.dp {K : PySem.W.Frag} {H : Hp} : ∀ {v : V} {d : PyData}, Dt K H v d → Dp K H v d
  | _, _, .non => .non
  | _, _, .bl b => .bl b
  | _, _, .int i => .int i
  | _, _, .str x => .str x
  | _, _, .tup h a => .tup h (DtAll.dp a)
theorem DtAll.dp {K : PySem.W.Frag} {H : Hp} : ∀ {vs : List V} {ds : List PyData}, DtAll K H vs ds → DpAll K H vs ds
  | _, _, .nil => .nil
  | _, _, .cons h a => .cons (Dt.dp h) (DtAll.dp a)
end
/-- every tuple that H reads H' reads as well -/
def KeepT (K : PySem.W.Frag) (H H' : Hp) : Prop := ∀ a xs, SqT K H a xs → SqT K H' a xs
mutual
theorem Dt.keepT {K : PySem.W.Frag} {H H' : Hp} (e : KeepT K H H') : ∀ {v : V} {d : PyData}, Dt K H v d → Dt K H' v d
  | _, _, .non => .non
  | _, _, .bl b => .bl b
  | _, _, .int i => .int i
  | _, _, .str x => .str x
  | _, _, .tup h a => .tup (e _ _ h) (DtAll.keepT e a)
theorem DtAll.keepT {K : PySem.W.Frag} {H H' : Hp} (e : KeepT K H H') : ∀ {vs : List V} {ds : List PyData}, DtAll K H vs ds → DtAll K H' vs ds
  | _, _, .nil => .nil
  | _, _, .cons h a => .cons (Dt.keepT e h) (DtAll.keepT e a)
end
theorem KeepT.refl (K : PySem.W.Frag) (H : Hp) : KeepT K H H := fun _ _ h => h
theorem KeepT.trans {K : PySem.W.Frag} {H H1 H2 : Hp} (a : KeepT K H H1) (b : KeepT K H1 H2) : KeepT K H H2 := fun c xs h => b c xs (a c xs h)
theorem Same.keepT {K : PySem.W.Frag} {H H' : Hp} (e : Same H H') : KeepT K H H' := fun _ _ h => Same.tupl e h
theorem Keep.keepT {K : PySem.W.Frag} {p : Addr} {H H' : Hp} (e : Keep p H H') (hp : ∃ xs, H p = some (.lst xs)) : KeepT K H H' := fun a xs h => by
  obtain ⟨ys, hp⟩ := hp
  rcases h with (h | ⟨o, h⟩) | h
  · exact .inl (.inl (e _ _ h (ne_of h hp (by intro z; cases z))))
  · exact .inl (.inr ⟨o, e _ _ h (ne_of h hp (by intro z; cases z))⟩)
  · exact .inr h
theorem KeepT.upd {K : PySem.W.Frag} {p : Addr} {H : Hp} {o : HO} {xs : List V} (hp : H p = some (.lst xs)) : KeepT K H (upd H p o) :=
  Keep.keepT (p := p) (fun b u e hb => by rw [upd_ne hb]; exact e) ⟨xs, hp⟩
theorem Dt.mono {K : PySem.W.Frag} {H H' : Hp} {v : V} {d : PyData} (e : Same H H') (h : Dt K H v d) : Dt K H' v d := h.keepT (Same.keepT e)
theorem DtAll.mono {K : PySem.W.Frag} {H H' : Hp} {v : List V} {d : List PyData} (e : Same H H') (h : DtAll K H v d) : DtAll K H' v d := h.keepT (Same.keepT e)
theorem Dt.made {K : PySem.W.Frag} {H : Hp} {p : Addr} {xs : List V} {ds : List PyData} (hp : H p = none) (h : DtAll K H xs ds) : Dt K (L2.upd H p (.tup xs)) (.ref p) (.tuple ds) := .tup (SqT.of upd_same) (DtAll.mono (Same.new hp) h)
theorem DtAll.length {K : PySem.W.Frag} {H : Hp} {vs : List V} {ds : List PyData} (h : DtAll K H vs ds) : vs.length = ds.length := LK.DpAll.length h.dp
theorem DtAll.app {K : PySem.W.Frag} {H : Hp} : ∀ {vs ws : List V} {ds es : List PyData}, DtAll K H vs ds → DtAll K H ws es → DtAll K H (vs ++ ws) (ds ++ es)
  | _, _, _, _, .nil, t => t
  | _, _, _, _, .cons h a, t => .cons h (DtAll.app a t)
theorem DtAll.get {K : PySem.W.Frag} {H : Hp} : ∀ {vs : List V} {ds : List PyData} {i : Nat} {d : PyData}, DtAll K H vs ds → ds[i]? = some d → ∃ v, vs[i]? = some v ∧ Dt K H v d
  | _, _, 0, _, .cons h _, e => ⟨_, rfl, Option.some.inj e ▸ h⟩
  | _, _, i + 1, _, .cons _ a, e => DtAll.get (i := i) a e
theorem DtAll.getV {K : PySem.W.Frag} {H : Hp} : ∀ {vs : List V} {ds : List PyData} {i : Nat} {v : V}, DtAll K H vs ds → vs[i]? = some v → ∃ d, ds[i]? = some d ∧ Dt K H v d
  | _, _, 0, _, .cons h _, e => ⟨_, rfl, Option.some.inj e ▸ h⟩
  | _, _, i + 1, _, .cons _ a, e => DtAll.getV (i := i) a e
theorem Dt.tuple_inv {K : PySem.W.Frag} {H : Hp} {v : V} {ds : List PyData} (h : Dt K H v (.tuple ds)) : ∃ a xs, v = .ref a ∧ SqT K H a xs ∧ DtAll K H xs ds := by
  cases h with
  | tup h a => exact ⟨_, _, rfl, h, a⟩
theorem DtAll.cons_inv {K : PySem.W.Frag} {H : Hp} {vs : List V} {d : PyData} {ds : List PyData} (h : DtAll K H vs (d :: ds)) : ∃ v ws, vs = v :: ws ∧ Dt K H v d ∧ DtAll K H ws ds := by
  cases h with
  | cons h a => exact ⟨_, _, rfl, h, a⟩
theorem DtAll.nil_inv {K : PySem.W.Frag} {H : Hp} {vs : List V} (h : DtAll K H vs []) : vs = [] := by cases h; rfl
theorem Dt.int_inv {K : PySem.W.Frag} {H : Hp} {v : V} {i : Int} (h : Dt K H v (.int i)) : v = .int i := by cases h; rfl
theorem Dt.str_inv {K : PySem.W.Frag} {H : Hp} {v : V} {x : Str} (h : Dt K H v (.str x)) : v = .str x := by cases h; rfl
theorem Dt.bool_inv {K : PySem.W.Frag} {H : Hp} {v : V} {b : Bool} (h : Dt K H v (.bool b)) : v = .bl b := by cases h; rfl
theorem dtStrs {K : PySem.W.Frag} {H : Hp} : ∀ xs : List Str, DtAll K H (xs.map V.str) (xs.map PyData.str)
  | [] => .nil
  | x :: xs => .cons (.str x) (dtStrs xs)
end LK

set_option Elab.async false
set_option linter.all false
set_option maxRecDepth 100000
set_option maxHeartbeats 4000000
/-! enumerate of a tuple. -/
namespace LK
open PySem PySem.Spec PyProof.Rows L2
open AutoSeq1 (wpAny_loadPart')
open Sem (wp)
def enumObj (it : Addr) : Obj := { cls := .type "enumerate", data := .fields #[.none, .bool false, .ref it, rawInt 0, .none, .none] }
def tupIt (t : Addr) : Obj := { cls := .type "tuple_iterator", data := .fields #[.ref t, .int 0 0] }
theorem meets_enumT (t : Addr) (items : Array Value) (n : Nat) (dct : Option Addr) (sl : Array (Option Value)) :
    Meets (Builtin.«enumerate.__new__» ⟨[.type "enumerate", .ref t], []⟩) (fun _ R s => s.heap.get? t = some { cls := .type "tuple", dict := dct, data := .seq items n, slots := sl } ∧
      R (.ok (.ret (.ref (s.heap.push (tupIt t)).objs.size))) { s with heap := (s.heap.push (tupIt t)).push (enumObj s.heap.objs.size) }) :=
  .of_wp fun prog w A R s h => by
    obtain ⟨hp, g, d, tk, os⟩ := s
    obtain ⟨hl, h⟩ := h
    have hsub := sub_enumerate
    have hT : Heap.IsTuple (Shared.heap ⟨hp, g, d, tk, os⟩) t items := ⟨_, hl, rfl, n, rfl⟩
    wp_walk using wpAny_loadPart' hl
    refine wpAny_stack_any fun st => wpAny_pure ?_
    split
    · rename_i c _ _ _ _ _
      cases (c == Value.type "enumerate") <;> (wp_walk using wpAny_loadPart' hl, wpAny_pyIter_tuple hT; exact ⟨_, rfl, h⟩)
    · wp_walk using wpAny_loadPart' hl, wpAny_pyIter_tuple hT
      exact ⟨_, rfl, h⟩
section
variable {prog : Program} {w : World} {A : Around} {E : Value → Shared → Prop} {s : Shared}
theorem call_enumT {t : Addr} {items : Array Value} {Q : Value → Shared → Prop} (hT : s.heap.IsTuple t items)
    (h : ∀ h', IsEnum h' (s.heap.objs.size + 1) s.heap.objs.size 0 .none → h'.IsTupleIter s.heap.objs.size t 0 → (∀ b o, s.heap.get? b = some o → h'.get? b = some o) → Q (.ref (s.heap.objs.size + 1)) { s with heap := h' }) :
    wpAny (model prog w) A (call (.type "enumerate") [.ref t]) Q E s := by
  obtain ⟨⟨c, dct, dt, sl⟩, hl, hc, n, hd⟩ := hT
  obtain rfl : c = .type "tuple" := hc
  obtain rfl : dt = .seq items n := hd
  refine callType_new F.called_enumerate (by decide) (F.typeCall_enumerate_1 _) (F.newCall_enumerate_1 _) (fun obj => F.args_object_init_2 obj _) F.entry_enumerate_new (meets_enumT t items n dct sl) ⟨hl, ?_⟩
  have hz : (s.heap.push (tupIt t)).objs.size = s.heap.objs.size + 1 := Heap.size_push ..
  have he : IsEnum ((s.heap.push (tupIt t)).push (enumObj s.heap.objs.size)) (s.heap.objs.size + 1) s.heap.objs.size 0 .none := by
    have q := Heap.get?_push_size (s.heap.push (tupIt t)) (o := enumObj s.heap.objs.size) rfl
    rw [hz] at q
    exact q
  show _ ∧ _
  rw [hz]
  exact ⟨⟨_, he, rfl⟩, h _ he (Heap.get?_push_of_some _ (Heap.get?_push_size _ rfl) |> fun q => ⟨_, q, rfl, rfl⟩) fun b o x => Heap.get?_push_of_some _ (Heap.get?_push_of_some _ x)⟩
end
/-- the tuple at a, each item in a new pair with its place -/
def IteT (K : PySem.W.Frag) (a : Addr) : It where
  go := fun i H => ∃ (xs : List V) (x : V), SqT K H a xs ∧ xs[i]? = some x
  yld := fun i H v H' => ∃ T x, v = .ref T ∧ H T = none ∧ H' = upd H T (.tup [.int (i : Nat), x]) ∧ ∀ xs, SqT K H a xs → xs[i]? = some x
  stop := fun i H => ∃ xs : List V, SqT K H a xs ∧ xs.length = i
theorem turn_enumT {P : Program} {w : World} {K : PySem.W.Frag} {elts : List Expr} {kk : Nat} {tpos : Pos} (a e it : Addr) :
    Turn P w K (.Tuple elts kk tpos) (IteT K a) [e, it] e (fun i h => (∃ old, IsEnum h e it ((i : Nat) : Int) old) ∧ h.IsTupleIter it a i ∧ e ≠ it) where
  mem := List.mem_cons_self
  obj := fun i h st b hb => by
    obtain ⟨⟨old, he⟩, ⟨o, ho, hc, hd⟩, _⟩ := st
    have hb : b = e ∨ b = it := by simpa using hb
    rcases hb with rfl | rfl
    · exact ⟨_, he, fun v q => nomatch q⟩
    · exact ⟨o, ho, fun v q => by rw [hd] at q; cases q⟩
  keep := fun i h h' st k => by
    obtain ⟨⟨old, he⟩, hi, hne⟩ := st
    exact ⟨⟨old, k e (by simp) _ he⟩, hi.at fun o q => k it (by simp) o q, hne⟩
  item := by
    intro X hP hw hK hc i pins s σ H E I hf st hg
    subst hP hw hK
    obtain ⟨⟨old, he⟩, hit, hne⟩ := st
    obtain ⟨xs, x, hq, hx⟩ := hg
    obtain ⟨its, rv, p, hz⟩ := I.tuple hq
    obtain ⟨u, hu, ru⟩ := rv.get hx
    have hel : e < s.heap.objs.size := Heap.lt_size he
    have hil : it < s.heap.objs.size := by obtain ⟨_, q, _⟩ := hit; exact Heap.lt_size q
    have hat : a ≠ it := by
      intro z
      subst z
      obtain ⟨o, q1, c1, _⟩ := hit
      obtain ⟨o', q2, c2, _⟩ := p
      rw [q1] at q2; cases q2
      exact absurd (Value.type.inj (c1.symm.trans c2)) (by decide)
    have D := Draws.tuple (prog := X.prog) (w := X.w) (A := X.A.in1) (I.ok.hd hc) it a hat its.toArray
    have Dst : (fun i (h : Heap) => h.IsTupleIter it a i ∧ h.IsTuple a its.toArray) i s.heap := ⟨hit, p⟩
    have eat : e ≠ a := by
      intro z
      subst z
      obtain ⟨o', q2, c2, _⟩ := p
      rw [he] at q2; cases q2
      exact absurd (Value.type.inj c2) (by decide)
    have hi : i < its.toArray.size := by
      have := (List.getElem?_eq_some_iff.mp hu).1
      simpa using this
    refine wpAny_pyNext_enum_itemD D he Dst hi hne (by simp [hne, eat]) fun v h' tk hv ho hst hT hsz hk => ?_
    obtain rfl : v = u := by
      have hv : its.toArray[i]? = some v := hv
      rw [show its.toArray[i]? = some u by simpa using hu] at hv
      exact (Option.some.inj hv).symm
    refine ⟨_, rfl, wpAny_letOwnedTupleGo_enum (s := { s with heap := h', toks := tk + 1 }) ho fun h'' he' sb => ?_⟩
    have hT2 := (sb.2 _ (Nat.ne_of_gt hel)).trans hT
    have new : ObjOk X.prog X.w (upd H s.heap.objs.size (.tup [.int (i : Nat), x])) h'' s.heap.objs.size (.tup [.int (i : Nat), x]) :=
      ⟨by show 2 ≤ sizeLine; decide, [.int i tk, v], .cons ⟨_, rfl⟩ (.cons ru .nil), ⟨_, hT2, rfl, _, rfl⟩⟩
    have I1 : Inv X pins σ (upd H s.heap.objs.size (.tup [.int (i : Nat), x])) { s with heap := h'', toks := tk + 1 } :=
      I.turnedNew (ch := [e, it]) (fun b ob hb q => (sb.2 b (fun z => hb (by simp [z]))).trans (hk b ob (fun z => hb (by simp [z])) (fun z => hb (by simp [z])) q)) hf (Nat.le_refl _) new
    refine ⟨.ref s.heap.objs.size, _, I1, rfl, ⟨_, x, rfl, I.hok.fresh (Nat.le_refl _), rfl, fun ys hy => by rw [I.tuple_inj hy hq]; exact hx⟩, ⟨⟨v, ?_⟩, hst.1.at fun o q => (sb.2 it (Ne.symm hne)).trans q, hne⟩, fun b hb => ?_⟩
    · rw [show ((i + 1 : Nat) : Int) = (i : Int) + 1 by omega]
      exact he'
    · have hb' : b < s.heap.objs.size := by
        have z : b = e ∨ b = it := by simpa using hb
        rcases z with rfl | rfl <;> assumption
      rw [upd_ne (Nat.ne_of_lt hb')]
      exact (hf b hb).1
  done := by
    intro X hP hw hK hc i pins s σ H E I hf st hg
    subst hP hw hK
    obtain ⟨⟨old, he⟩, hit, hne⟩ := st
    obtain ⟨xs, hq, hx⟩ := hg
    obtain ⟨its, rv, p, hz⟩ := I.tuple hq
    obtain ⟨f0, f1, f2, f3, f4, f5⟩ := hf it (by simp)
    have hl := rv.length
    have hat : a ≠ it := by
      intro z
      subst z
      obtain ⟨o, q1, c1, _⟩ := hit
      obtain ⟨o', q2, c2, _⟩ := p
      rw [q1] at q2; cases q2
      exact absurd (Value.type.inj (c1.symm.trans c2)) (by decide)
    have D := Draws.tuple (prog := X.prog) (w := X.w) (A := X.A.in1) (I.ok.hd hc) it a hat its.toArray
    have hn : i = its.toArray.size := by simp; omega
    subst hn
    exact wpAny_pyNext_enum_endD D he ⟨hit, p⟩ fun h' eb => ⟨rfl, I.turned (t' := s.toks) (fun b o hb q => eb b o hb q) f0 f1 f3 f4 f5⟩
  self := fun A i s Q E st h => let ⟨⟨_, he⟩, _⟩ := st; wpAny_pyIter_enum he h
def iEnumT (K : PySem.W.Frag) (ta : TA) : TI := fun σ H R => ta σ H fun vs H1 => ∃ a xs, vs = [.ref a] ∧ SqT K H1 a xs ∧ R (IteT K a) H1
theorem pi_enumT {X : Cx} {e : Expr} {ta : TA} {p pos tpos : Pos} {elts : List Expr} {kk : Nat} (hg : Gl X "enumerate") (hm : X.mg "enumerate" = none) (ha : PA X [e] ta) (hs : starEach [e] X.env = [(false, eval e X.env)] := by rfl) :
    PI X (.Tuple elts kk tpos) (.Call (.Name "enumerate" p) [e] [] pos) (iEnumT X.K ta) := by
  refine ⟨fun pins s σ H R I h => ?_⟩
  refine Call_ (ld_blt I hg hm boot_enumerate (PyProof.Rows.callWith_type1 (thn (ha.run pos pins s σ H _ I h) fun us s1 ⟨vs, H1, I1, r1, q1⟩ => ?_) hs rfl))
  obtain ⟨a, xs, rfl, hq, q⟩ := q1
  cases r1 with
  | cons r rr =>
    cases rr
    cases r
    obtain ⟨its, rv, p', hz⟩ := I1.tuple hq
    refine call_enumT (show s1.heap.IsTuple a its.toArray from p') fun h' he hit hk => wpAny_pyIter_enum he ?_
    refine ⟨s1.heap.objs.size + 1, [s1.heap.objs.size + 1, s1.heap.objs.size], _, _, H1, rfl, I1.kept (t' := s1.toks) hk, turn_enumT a (s1.heap.objs.size + 1) s1.heap.objs.size, ⟨⟨.none, he⟩, hit, Nat.succ_ne_self _⟩, fun b hb => ?_, q⟩
    have hle : s1.heap.objs.size ≤ b := by
      have z : b = s1.heap.objs.size + 1 ∨ b = s1.heap.objs.size := by simpa using hb
      rcases z with rfl | rfl <;> omega
    exact I1.fpOk hle (I1.hok.fresh hle)
theorem walk_enumT {K : PySem.W.Frag} {a : Addr} {xs : List V} : Walk (IteT K a) xs.length (fun H => SqT K H a xs) (YPair (fun i => some (.int (i : Nat))) (fun i => xs[i]?)) := by
  refine ⟨fun i _ hi q => ⟨xs, xs[i], q, by simp [hi]⟩, fun _ q => ⟨xs, q, rfl⟩, fun i H v H' _ q y => ?_⟩
  obtain ⟨T, x, h1, h2, h3, h4⟩ := y
  exact ⟨T, .int (i : Nat), x, h1, h2, h3, rfl, h4 xs q⟩

/-! ### comprehensions whose items are data -/
theorem tYes_of {σ : L2.St} {H : Hp} {P R : Hp → Prop} (h : P H) : tYes σ H fun b H3 => if b = true then P H3 else R H3 := by
  show (if true = true then P H else R H)
  rw [if_pos rfl]
  exact h
/-- each turn gives data and leaves what stood; no test -/
theorem lc_dt {K : PySem.W.Frag} {J : It} {n : Nat} {G : Hp → Prop} {Y : Nat → Hp → V → Hp → Prop} (w : Walk J n G Y) {g : TG} {te : TE} {vs : List Nat} {σ : L2.St} {H : Hp} {D : Addr} {Qd : Hp → Prop} (hD : H D = none) (ds : List PyData) (hn : ds.length = n) (hz : n < sizeLine)
    (hG : ∀ H', Same H H' → G H')
    (hs : ∀ i x H1 H2 d (Nx : V → Hp → Prop), i < n → ds[i]? = some d → Same H H1 → (∃ acc, H1 D = some (.lst acc)) → Y i H1 x H2 → (∀ y H5, Same H1 H5 → Dt K H5 y d → Nx y H5) →
      g x (wipe σ vs) H2 fun σ2 H3 => wipe σ2 vs = wipe σ vs ∧ te σ2 H3 Nx)
    (hd : ∀ H' acc, Same H H' → H' D = some (.lst acc) → DtAll K H' acc ds → Qd H')
    (mono : ∀ x σ H Q Q', (∀ σ' H', Q σ' H' → Q' σ' H') → g x σ H Q → g x σ H Q') :
    ∃ W : Nat → Nat → Hp → Prop, (∃ m, W 0 m (upd H D (.lst []))) ∧ ∀ i m H, W i m H →
      (J.stop i H ∧ Qd H) ∨ (J.go i H ∧ ∃ Nx : Hp → Prop, (∀ H', Nx H' → ∃ m', m' < m ∧ W (i + 1) m' H') ∧ ∀ x H', J.yld i H x H' → g x (wipe σ vs) H' fun σ2 H2 => wipe σ2 vs = wipe σ vs ∧ tYes σ2 H2 fun b H3 =>
        if b = true then te σ2 H3 fun y H4 => ∃ acc, H4 D = some (.lst acc) ∧ acc.length < sizeLine ∧ Nx (upd H4 D (.lst (acc ++ [y]))) else Nx H3) := by
  refine lc_it w (fun i H' => ∃ acc, H' D = some (.lst acc) ∧ DtAll K H' acc (ds.take i) ∧ Same H H') ⟨[], upd_same, .nil, Same.new hD⟩ (fun i H' _ h => let ⟨_, _, _, s⟩ := h; hG H' s) (fun i x H1 H2 hi h y => ?_) fun H' h => ?_
  · obtain ⟨acc, a1, a2, a3⟩ := h
    have hi' : i < ds.length := by omega
    have hg := hs i x H1 H2 ds[i] (fun y H4 => ∃ acc, H4 D = some (.lst acc) ∧ acc.length < sizeLine ∧ ∃ acc', upd H4 D (.lst (acc ++ [y])) D = some (.lst acc') ∧ DtAll K (upd H4 D (.lst (acc ++ [y]))) acc' (ds.take (i + 1)) ∧ Same H (upd H4 D (.lst (acc ++ [y]))))
      hi (List.getElem?_eq_getElem hi') a3 ⟨acc, a1⟩ y fun y H5 s hy => ?_
    · exact mono _ _ _ _ _ (fun σ2 H3 q => ⟨q.1, tYes_of q.2⟩) hg
    · have b1 := s _ _ a1
      have kt : KeepT K H5 (upd H5 D (.lst (acc ++ [y]))) := KeepT.upd b1
      refine ⟨acc, b1, ?_, _, upd_same, ?_, fun b o e => ?_⟩
      · rw [a2.length, List.length_take]; omega
      · rw [List.take_succ, List.getElem?_eq_getElem hi']
        exact DtAll.app (DtAll.keepT (KeepT.trans (Same.keepT s) kt) a2) (.cons (Dt.keepT kt hy) .nil)
      · rw [upd_ne (ne_of_none e hD)]
        exact s _ _ (a3 _ _ e)
  · obtain ⟨acc, a1, a2, a3⟩ := h
    rw [← hn, List.take_length] at a2
    exact hd H' acc a3 a1 a2
theorem mono_name {i : Nat} : ∀ x (σ : L2.St) (H : Hp) (Q Q' : L2.St → Hp → Prop), (∀ σ' H', Q σ' H' → Q' σ' H') → gName i x σ H Q → gName i x σ H Q' := fun _ _ _ _ _ h q => h _ _ q
theorem mono_tup2 {K : PySem.W.Frag} {i j n : Nat} : ∀ x (σ : L2.St) (H : Hp) (Q Q' : L2.St → Hp → Prop), (∀ σ' H', Q σ' H' → Q' σ' H') → gTup K n (gCons (gName i) (gCons (gName j) gNil)) x σ H Q → gTup K n (gCons (gName i) (gCons (gName j) gNil)) x σ H Q' := by
  rintro x σ H Q Q' h ⟨a, xs, e1, e2, e3, v, r, e4, v', r', e5, e6, q⟩
  exact ⟨a, xs, e1, e2, e3, v, r, e4, v', r', e5, e6, h _ _ q⟩
end LK

set_option Elab.async false
set_option linter.all false
set_option maxRecDepth 100000
set_option maxHeartbeats 4000000
set_option exponentiation.threshold 3000
/-! More rules: text * int, two rules at one place, what == says of data. -/
namespace LK
open PySem PySem.Spec PyProof.Rows L2
theorem at_of' {α : Type} {xs : List α} {z : Int} {j : Nat} {v : α} (e : z = (j : Int)) (h : xs[j]? = some v) : atI xs z = some v := by
  rw [e]
  exact atI_nat h
/-- z repeated k times, by its codes -/
def repC (z : List Nat) (k : Int) : List Nat := (List.replicate k.toNat z).flatten
def repS (z : Str) (k : Int) : Str := ⟨(repC z.cps.toList k).toArray⟩
theorem repC_length (z : List Nat) (k : Int) : (repC z k).length = k.toNat * z.length := by simp [repC]
theorem foldl_arr (z : Array Nat) : ∀ (n : Nat) (acc : Array Nat), (List.replicate n z).foldl (· ++ ·) acc = acc ++ (List.replicate n z.toList).flatten.toArray
  | 0, acc => by simp
  | n + 1, acc => by
    rw [List.replicate_succ, List.foldl_cons, foldl_arr z n, List.replicate_succ, List.flatten_cons]
    apply Array.ext'
    simp
def rRepS : R2 := fun x y H Q => ∃ (z : Str) (k : Int), x = .str z ∧ y = .int k ∧ -1000000000000 ≤ k ∧ k < 1000000000000 ∧ z.length * k.toNat ≤ 1000000 ∧ Q (.str (repS z k)) H
theorem repS_arr (z : Str) (k : Int) : (⟨(List.replicate k.toNat z.cps).foldl (· ++ ·) #[]⟩ : Str) = repS z k := by
  rw [foldl_arr]
  simp [repS, repC]
theorem op_rep_str {X : Cx} : OpR X (binaryOp .Mult) rRepS := by
  intro pins s σ H x y v u Q I rx ry h
  obtain ⟨z, k, rfl, rfl, h1, h2, h3, q⟩ := h
  obtain ⟨t, rfl⟩ := rx
  obtain ⟨t', rfl⟩ := ry
  have szl : (1000000 : Nat) ≤ sizeLine := by decide
  have e1 : ¬ k < 1 → k = (k.toNat : Int) := fun h => by omega
  refine PySem.P.mul_str ?_ (fun hk hz => ?_) (fun hk hz => ?_) ?_
  · rw [decide_eq_false (by omega), decide_eq_false (by omega)]; rfl
  · have e0 : z.length ≠ 0 := fun e => by rw [e] at hz; simp at hz
    have hd : (9223372036854775807 : Int) / k ≥ 1000000 := by
      apply Int.le_ediv_of_mul_le (by omega)
      have hlen : k.toNat ≤ 1000000 := Nat.le_trans (Nat.le_mul_of_pos_left _ (by omega)) h3
      omega
    have hl : z.length ≤ 1000000 := Nat.le_trans (Nat.le_mul_of_pos_right _ (by omega)) h3
    show ¬ ((z.length : Int) > 9223372036854775807 / k)
    omega
  · unfold Builtin.Str.tooLong
    simp
    omega
  · split
    · rename_i hk
      have e : repS z k = Str.empty := by
        have : k.toNat = 0 := by omega
        simp [repS, repC, this]; rfl
      refine ⟨by decide, .str _, H, I.tok _, ⟨_, rfl⟩, ?_⟩
      rw [← e]; exact q
    · rename_i hk
      split
      · rename_i hz
        have e : repS z k = z := by
          rcases Bool.or_eq_true_iff.mp hz with h | h
          · have : k = 1 := by simpa using h
            subst this
            simp [repS, repC]
          · have : z.cps.toList = [] := by
              have : z.cps.size = 0 := by simpa [Str.length] using h
              exact List.eq_nil_of_length_eq_zero (by simpa using this)
            have e2 : (List.replicate k.toNat ([] : List Nat)).flatten = [] := by simp
            unfold repS repC
            rw [this, e2]
            cases z with
            | mk c =>
              have : c = #[] := Array.toList_inj.mp (by simpa using this)
              subst this; rfl
        refine ⟨.str _, H, I, ⟨t, rfl⟩, ?_⟩
        rw [← e]; exact q
      · rw [repS_arr]
        refine ⟨?_, .str _, H, I.tok _, ⟨_, rfl⟩, q⟩
        show (repC z.cps.toList k).toArray.size ≤ sizeLine
        rw [List.size_toArray, repC_length]
        have : z.cps.toList.length = z.length := by simp [Str.length]
        rw [this, Nat.mul_comm]; omega
/-! ### the objects at the beginning -/
def clsNames : List Str := ["Exception", "ArithmeticError", "ZeroDivisionError", "OverflowError", "LookupError", "IndexError", "KeyError", "NameError", "AttributeError", "TypeError", "ValueError", "StopIteration", "RuntimeError", "RecursionError", "MemoryError", "HostError"]
def clsBases : List Int := [-1, 1, 2, 2, 1, 5, 5, 1, 1, 1, 1, 1, 1, 13, 1, 1]
def builtNames : List Str := ["print", "len", "range", "repr", "str", "int", "list", "tuple", "dict", "iter", "next", "isinstance", "abs"]
def clsVar (i : Nat) (n : Str) : PyData := .tuple [.str n, .tuple [.str "ref", .int ((i : Int) + 1)]]
def nameVar (k n : Str) : PyData := .tuple [.str n, .tuple [.str k, .str n]]
def clsObj (n : Str) (b : Int) : PyData := .tuple [.str "class", .str n, .int b, .tuple []]
def clsVars : List PyData := clsNames.mapIdx clsVar
def startVars (hs : List Str) : List PyData := clsVars ++ builtNames.map (nameVar "built") ++ hs.map (nameVar "host")
def startD (hs : List Str) : List PyData := .tuple [.str "scope", .tuple (startVars hs), .tuple [], .tuple [], .int (-1), .bool false] :: List.zipWith clsObj clsNames clsBases
/-- a list at p, of the data ds -/
def ListAt (K : PySem.W.Frag) (H : Hp) (p : Addr) (ds : List PyData) : Prop := ∃ xs, H p = some (.lst xs) ∧ DtAll K H xs ds
def spStart (K : PySem.W.Frag) : Sp := fun vs H Q _ => ∃ (t : Addr) (hs : List Str), vs = [.ref t] ∧ SqT K H t (hs.map V.str) ∧ hs.length ≤ 1000 ∧
  ∀ (p : Addr) (H' : Hp), H p = none → Same H H' → ListAt K H' p (startD hs) → Q (.ref p) H'
theorem at0 {α : Type} {x : α} {ws : List α} : atI (x :: ws) 0 = some x := at_of' (j := 0) rfl rfl
theorem at1 {α : Type} {x y : α} {ws : List α} : atI (x :: y :: ws) 1 = some y := at_of' (j := 1) rfl rfl
theorem at2 {α : Type} {x y z : α} {ws : List α} : atI (x :: y :: z :: ws) 2 = some z := at_of' (j := 2) rfl rfl
/-- a written pair, triple as it is read -/
theorem Dt.head {K : PySem.W.Frag} {H : Hp} {v : V} {z : Str} {rest : List PyData} (h : Dt K H v (.tuple (.str z :: rest))) : ∃ a ws, v = .ref a ∧ SqT K H a (.str z :: ws) ∧ DtAll K H ws rest := by
  obtain ⟨q, xs, rfl, hs, ha⟩ := h.tuple_inv
  obtain ⟨x, ws, rfl, h1, hw⟩ := ha.cons_inv
  cases h1.str_inv
  exact ⟨q, ws, rfl, hs, hw⟩
theorem Dt.pair {K : PySem.W.Frag} {H : Hp} {v : V} {z : Str} {d : PyData} (h : Dt K H v (.tuple [.str z, d])) : ∃ a x, v = .ref a ∧ SqT K H a [.str z, x] ∧ Dt K H x d := by
  obtain ⟨a, ws, rfl, hs, hw⟩ := h.head
  obtain ⟨x, ws', rfl, h1, hn⟩ := hw.cons_inv
  cases hn.nil_inv
  exact ⟨a, x, rfl, hs, h1⟩
theorem Dt.triple {K : PySem.W.Frag} {H : Hp} {v : V} {z : Str} {d e : PyData} (h : Dt K H v (.tuple [.str z, d, e])) : ∃ a x y, v = .ref a ∧ SqT K H a [.str z, x, y] ∧ Dt K H x d ∧ Dt K H y e := by
  obtain ⟨a, ws, rfl, hs, hw⟩ := h.head
  obtain ⟨x, ws', rfl, h1, hn⟩ := hw.cons_inv
  obtain ⟨y, ws'', rfl, h2, hn2⟩ := hn.cons_inv
  cases hn2.nil_inv
  exact ⟨a, x, y, rfl, hs, h1, h2⟩
theorem listAt_mono {K : PySem.W.Frag} {H H' : Hp} {p : Addr} {ds : List PyData} (h : ListAt K H p ds) (e : Same H H') : ListAt K H' p ds := by
  obtain ⟨xs, hx, ax⟩ := h
  exact ⟨xs, e _ _ hx, DtAll.mono e ax⟩
theorem eqv_nil (ds : List PyData) : PyData.eqv (.tuple ds) (.tuple []) = ds.isEmpty := by
  cases ds <;> simp [PyData.eqv, PyData.eqvAll]
theorem listAt_upd {K : PySem.W.Frag} {H : Hp} {l l' : Addr} {ds : List PyData} {xs : List V} {o : HO} (h : ListAt K H l ds) (ne : l ≠ l') (hl : H l' = some (.lst xs)) : ListAt K (upd H l' o) l ds := by
  obtain ⟨ys, hy, ay⟩ := h
  exact ⟨ys, by rw [upd_ne ne]; exact hy, DtAll.keepT (KeepT.upd hl) ay⟩
theorem listAt_app {K : PySem.W.Frag} {H : Hp} {l : Addr} {ds : List PyData} {xs : List V} {v : V} {d : PyData} (h : ListAt K H l ds) (hl : H l = some (.lst xs)) (hd : Dt K H v d) : ListAt K (upd H l (.lst (xs ++ [v]))) l (ds ++ [d]) := by
  obtain ⟨ys, hy, ay⟩ := h
  rw [hl] at hy
  obtain rfl := HO.lst.inj (Option.some.inj hy)
  exact ⟨_, upd_same, DtAll.app (DtAll.keepT (KeepT.upd hl) ay) (.cons (Dt.keepT (KeepT.upd hl) hd) .nil)⟩
theorem listAt_keep {K : PySem.W.Frag} {H H' : Hp} {l p : Addr} {ds : List PyData} (h : ListAt K H l ds) (e : Keep p H H') (ne : l ≠ p) (hp : ∃ xs, H p = some (.lst xs)) : ListAt K H' l ds := by
  obtain ⟨ys, hy, ay⟩ := h
  exact ⟨ys, e _ _ hy ne, DtAll.keepT (Keep.keepT e hp) ay⟩
theorem listAt_made {K : PySem.W.Frag} {H : Hp} {l : Addr} {xs : List V} {ds : List PyData} (hl : H l = none) (h : DtAll K H xs ds) : ListAt K (upd H l (.lst xs)) l ds := ⟨xs, upd_same, DtAll.mono (Same.new hl) h⟩
/-! how long the objects at the beginning are, shown -/
def shortS (n : Str) : Bool := decide (n.length ≤ 40) && n.cps.toList.all (fun c => decide (c < 16 ^ 8))
theorem Sm.short {n : Str} (h : shortS n = true) : Sm (.str n) 0 500 := by
  obtain ⟨h1, h2⟩ := Bool.and_eq_true_iff.mp h
  exact (Sm.str (of_decide_eq_true h1) (strOk n h2)).mono (by decide) (by decide)
theorem cls_short : ∀ n ∈ clsNames, shortS n = true := by decide +kernel
theorem built_short : ∀ n ∈ builtNames, shortS n = true := by decide +kernel
theorem Sm.nm {k n : Str} (hk : shortS k = true) (hn : shortS n = true) : Sm (nameVar k n) 3 4000 :=
  (Sm.tup (.cons (Sm.short hn) (.cons (Sm.tup (.cons (Sm.short hk) (.cons (Sm.short hn) .nil))) .nil))).mono (by decide) (by decide)
theorem Sm.cv {i : Nat} {n : Str} (hi : i < 1000) (hn : shortS n = true) : Sm (clsVar i n) 3 4000 :=
  (Sm.tup (.cons (Sm.short hn) (.cons (Sm.tup (.cons (Sm.short (n := "ref") (by decide +kernel)) (.cons (Sm.int (Nat.lt_of_lt_of_le (show ((i : Int) + 1).natAbs < 2 ^ 20 by omega) (Nat.pow_le_pow_right (by decide) (by decide)))) .nil))) .nil))).mono (by decide) (by decide)
theorem Sm.co {b : Int} {n : Str} (hb : b.natAbs < 1000) (hn : shortS n = true) : Sm (clsObj n b) 3 4000 :=
  (Sm.tup (.cons (Sm.short (n := "class") (by decide +kernel)) (.cons (Sm.short hn) (.cons (Sm.int (Nat.lt_of_lt_of_le (show b.natAbs < 2 ^ 20 by omega) (Nat.pow_le_pow_right (by decide) (by decide)))) (.cons (Sm.tup .nil) .nil))))).mono (by decide) (by decide)
theorem SmAll.mem {ds : List PyData} {dp n N m M : Nat} (h : SmAll ds dp n N) (h1 : n ≤ m) (h2 : N ≤ M) : SmAll ds dp m M := ⟨h.ok, h.dp, Nat.le_trans h.len h1, Nat.le_trans h.sz h2⟩
theorem sm_vars {hs : List Str} {L : Nat} (h : ∀ n ∈ hs, shortS n = true) (hl : hs.length ≤ L) : SmAll (startVars hs) 3 (29 + L) (4000 * (29 + L)) := by
  have h1 : ∀ d ∈ startVars hs, Sm d 3 4000 := fun d hd => by
    rcases List.mem_append.mp hd with hd | hd
    · rcases List.mem_append.mp hd with hd | hd
      · obtain ⟨i, hi, rfl⟩ := List.mem_mapIdx.mp hd
        exact Sm.cv (Nat.lt_trans hi (by decide)) (cls_short _ (List.getElem_mem hi))
      · obtain ⟨n, hn, rfl⟩ := List.mem_map.mp hd
        exact Sm.nm (by decide +kernel) (built_short n hn)
    · obtain ⟨n, hn, rfl⟩ := List.mem_map.mp hd
      exact Sm.nm (by decide +kernel) (h n hn)
  have hlen : (startVars hs).length = 29 + hs.length := by
    simp only [startVars, List.length_append, List.length_map]
    have : clsVars.length = 16 := by decide
    have : builtNames.length = 13 := by decide
    omega
  exact (SmAll.many h1).mem (by omega) (by omega)
theorem sm_start {hs : List Str} {L : Nat} (h : ∀ n ∈ hs, shortS n = true) (hl : hs.length ≤ L) : ∀ d ∈ startD hs, Sm d 5 (5000 * (30 + L)) := fun d hd => by
  rcases List.mem_cons.mp hd with rfl | hd
  · exact (Sm.tup (.cons (Sm.short (n := "scope") (by decide +kernel)) (.cons (Sm.tup (sm_vars h hl)) (.cons (Sm.tup .nil) (.cons (Sm.tup .nil) (.cons (Sm.int (by decide)) (.cons (Sm.bool false) .nil))))))).mono (by decide) (by omega)
  · have : ∃ n b, d = clsObj n b ∧ n ∈ clsNames ∧ b.natAbs < 1000 := by
      have key : ∀ q ∈ List.zip clsNames clsBases, q.1 ∈ clsNames ∧ q.2.natAbs < 1000 := by decide +kernel
      rw [← List.map_uncurry_zip_eq_zipWith] at hd
      obtain ⟨q, hq, rfl⟩ := List.mem_map.mp hd
      exact ⟨q.1, q.2, rfl, key q hq⟩
    obtain ⟨n, b, rfl, hn, hb⟩ := this
    exact (Sm.co hb (cls_short n hn)).mono (by decide) (by omega)
theorem start_cls {hs : List Str} {k : Nat} (h1 : 1 ≤ k) (h2 : k ≤ 16) : ∃ rest, (startD hs)[k]? = some (.tuple (.str "class" :: rest)) := by
  obtain ⟨j, rfl⟩ : ∃ j, k = j + 1 := ⟨k - 1, by omega⟩
  have l1 : clsNames.length = 16 := by decide
  have l2 : clsBases.length = 16 := by decide
  refine ⟨[.str clsNames[j]!, .int clsBases[j]!, .tuple []], ?_⟩
  have e1 : clsNames[j]? = some clsNames[j]! := by rw [List.getElem!_eq_getElem?_getD]; rw [List.getElem?_eq_getElem (by omega)]; rfl
  have e2 : clsBases[j]? = some clsBases[j]! := by rw [List.getElem!_eq_getElem?_getD]; rw [List.getElem?_eq_getElem (by omega)]; rfl
  show (List.zipWith clsObj clsNames clsBases)[j]? = _
  rw [List.getElem?_zipWith, e1, e2]
  rfl
end LK

set_option Elab.async false
set_option linter.all false
set_option maxRecDepth 100000
set_option maxHeartbeats 4000000
set_option exponentiation.threshold 3000
/-! tuple * 1; rows: texts or tuples at one place; the type of what is read as a tuple; data equal to itself. -/
namespace LK
open PySem PySem.Spec PyProof.Rows L2
theorem tuple_mul1 (l : Addr) (items : Array Value) (n : Nat) (dd : Option Addr) (sl : Array (Option Value)) (u : Tok) :
    Meets (Builtin.«tuple.__mul__» ⟨[.ref l, .int 1 u], []⟩) (fun _ R s => s.heap.get? l = some { cls := .type "tuple", dict := dd, data := .seq items n, slots := sl } ∧ R (.ok (.ret (Value.ref l))) s) :=
  .of_wp fun prog w A R s h => by
    obtain ⟨hp, g, d, tk, os⟩ := s
    obtain ⟨hl, h⟩ := h
    have f1 := AutoSeq1.idx_int
    have c0 : (decide ((1 : Int) < -(2 ^ 63)) || decide ((1 : Int) ≥ 2 ^ 63)) = false := by decide
    have c1 : (items.isEmpty || (1 : Int) == 1) = true := by simp
    wp_walk using wpAny_loadPart' hl
    exact ⟨_, rfl, h⟩
/-- a tuple times an int from 1 to 1000 -/
def rRepTA (K : PySem.W.Frag) : R2 := fun x y H Q => ∃ l k xs, x = .ref l ∧ y = .int k ∧ SqT K H l xs ∧ xs ≠ [] ∧ 1 ≤ k ∧ k ≤ 1000 ∧ xs.length ≤ 1000 ∧ (k = 1 → Q (.ref l) H) ∧ (k ≠ 1 → ∀ p, H p = none → Q (.ref p) (upd H p (.tup (List.replicate k.toNat xs).flatten)))
section
variable {X : Cx}
theorem op_repTA : OpR X (binaryOp .Mult) (rRepTA X.K) := by
  intro pins s σ H x y v u Q I rx ry h
  obtain ⟨l, k, xs, rfl, rfl, hT, hne, h1, h2, hz, q1, q2⟩ := h
  by_cases hk : k = 1
  · subst hk
    cases rx
    obtain ⟨t, rfl⟩ := ry
    obtain ⟨its, r, ⟨⟨cls, dd, data, sl⟩, ho, hc, n, hd⟩, hs⟩ := I.tuple hT
    simp only at hc hd
    subst hc hd
    refine wpAny_binaryOp_repeat_ref (T := "tuple") (U := "int") (by decide) ⟨_, ho, rfl⟩ (fun s' => typeIs_int s' 1 t) noFill_tuple_mul F.fills_int_mul F.slot_int_rmul repeat_tuple F.slot_int_index.lookup
      (call_meets F.slot_int_rmul (typeIs_int s 1 t) F.entry_int_rmul (F.args_int_rmul_2 _ _) (int_rmul_tuple 1 t l its.toArray n dd sl)
        ⟨ho, rfl, ⟨_, ho, rfl⟩, call_meets F.slot_tuple_mul ⟨_, ho, rfl⟩ F.entry_tuple_mul (F.args_tuple_mul_2 _ _) (tuple_mul1 l its.toArray n dd sl t) ⟨ho, ?_⟩⟩)
    exact ⟨.ref l, H, I, rfl, q1 rfl⟩
  · exact op_repT pins s σ H _ _ v u Q I rx ry ⟨l, k, xs, rfl, rfl, hT, hne, by omega, h2, hz, q2 hk⟩
end
theorem SqT.tyX {K : PySem.W.Frag} {H : Hp} {a : Addr} {xs : List V} (h : SqT K H a xs) : TyX K H (.ref a) (.type "tuple") := by
  rcases h with (h | ⟨o, h⟩) | ⟨o, its, n, e, c, _⟩
  · exact .base (.tup h)
  · exact .fTuple h
  · exact .kTuple e c
/-! ### data equal to itself -/
mutual
theorem eqv_self : ∀ {d : PyData}, d.canLay0 = true → PyData.eqv d d = true
  | .none, _ => by simp [PyData.eqv]
  | .bool _, _ => by simp [PyData.eqv]
  | .int _, _ => by simp [PyData.eqv]
  | .str _, _ => by simp [PyData.eqv]
  | .list xs, h => by rw [PyData.eqv]; exact eqvAll_self (by simpa [PyData.canLay0] using h)
  | .tuple xs, h => by rw [PyData.eqv]; exact eqvAll_self (by simpa [PyData.canLay0] using h)
  | .dict _, h => absurd h (by simp [PyData.canLay0])
theorem eqvAll_self : ∀ {xs : List PyData}, PyData.canLayAll0 xs = true → PyData.eqvAll xs xs = true
  | [], _ => by simp [PyData.eqvAll]
  | x :: xs, h => by
    rw [PyData.canLayAll0, Bool.and_eq_true] at h
    rw [PyData.eqvAll, eqv_self h.1, eqvAll_self h.2]; rfl
end
theorem canLayAll0_of {ds : List PyData} (h : ∀ d ∈ ds, d.canLay0 = true) : PyData.canLayAll0 ds = true := by
  induction ds with
  | nil => rfl
  | cons d ds ih => rw [PyData.canLayAll0, h d (by simp), ih fun e he => h e (List.mem_cons_of_mem _ he)]; rfl
theorem depthAll_of {ds : List PyData} {n : Nat} (h : ∀ d ∈ ds, d.depth ≤ n) : PyData.depthAll ds ≤ n := by
  induction ds with
  | nil => exact Nat.zero_le _
  | cons d ds ih => rw [PyData.depthAll]; exact Nat.max_le.mpr ⟨h d (by simp), ih fun e he => h e (List.mem_cons_of_mem _ he)⟩
/-! ### rows: a text, or a tuple of small ints -/
def Item (d : PyData) : Prop := ∃ i : Int, d = .tuple [.str "int", .int i] ∧ 0 ≤ i ∧ i < 11
def Low (z : Str) : Prop := ∀ c ∈ z.cps.toList, c < 128
inductive Row : Bool → PyData → Nat → Prop
  | txt {z : Str} {n : Nat} : z.length = n → Low z → Row true (.str z) n
  | tup {ds : List PyData} {n : Nat} : ds.length = n → (∀ d ∈ ds, Item d) → Row false (.tuple ds) n
def catD : PyData → PyData → PyData
  | .str a, .str b => .str (a ++ b)
  | .tuple a, .tuple b => .tuple (a ++ b)
  | a, _ => a
def repD (d : PyData) (k : Int) : PyData := match d with
  | .str a => .str (repS a k)
  | .tuple a => .tuple (List.replicate k.toNat a).flatten
  | a => a
def noneD : PyData → PyData
  | .str a => .str (cutS a none (some 0))
  | .tuple _ => .tuple []
  | a => a
theorem len_app (a b : Str) : (a ++ b).length = a.length + b.length := strLen_append a b
theorem len_rep (z : Str) (k : Int) : (repS z k).length = z.length * k.toNat := by
  show (repC z.cps.toList k).toArray.size = _
  rw [List.size_toArray, repC_length, Nat.mul_comm]
  simp [Str.length]
theorem Low.app {a b : Str} (h : Low a) (g : Low b) : Low (a ++ b) := by
  intro c hc
  have e : (a ++ b).cps.toList = a.cps.toList ++ b.cps.toList := by
    show (a.cps ++ b.cps).toList = _
    simp
  rw [e] at hc
  rcases List.mem_append.mp hc with hc | hc
  · exact h c hc
  · exact g c hc
theorem Low.rep {a : Str} (h : Low a) (k : Int) : Low (repS a k) := by
  intro c hc
  have hc : c ∈ (List.replicate k.toNat a.cps.toList).flatten := by simpa [repS, repC] using hc
  obtain ⟨l, hl, hcl⟩ := List.mem_flatten.mp hc
  exact h c (List.eq_of_mem_replicate hl ▸ hcl)
theorem Low.cut {a : Str} (h : Low a) (lo hi : Option Int) : Low (cutS a lo hi) := by
  intro c hc
  have hc : c ∈ (a.cps.toList.drop (HT.sIx a.length 0 lo)).take (HT.sIx a.length a.length hi - HT.sIx a.length 0 lo) := hc
  exact h c (List.mem_of_mem_drop (List.mem_of_mem_take hc))
theorem cut_to (a : Str) (m : Nat) : (cutS a none (some (m : Int))).length ≤ m := by
  show ((a.cps.toList.drop (HT.sIx a.length 0 none)).take (HT.sIx a.length a.length (some (m : Int)) - HT.sIx a.length 0 none)).toArray.size ≤ m
  rw [List.size_toArray, List.length_take, HT.sIx_nat]
  omega
theorem Row.cat {t : Bool} {a b : PyData} {n m : Nat} (h : Row t a n) (g : Row t b m) : Row t (catD a b) (n + m) := by
  cases h with
  | txt e l =>
    cases g with
    | txt e2 l2 => exact .txt (by rw [len_app, e, e2]) (l.app l2)
  | tup e l =>
    cases g with
    | tup e2 l2 => exact .tup (by rw [List.length_append, e, e2]) fun d hd => (List.mem_append.mp hd).elim (l d) (l2 d)
theorem Row.rep {t : Bool} {a : PyData} {n : Nat} (h : Row t a n) (k : Int) : Row t (repD a k) (n * k.toNat) := by
  cases h with
  | txt e l => exact .txt (by rw [len_rep, e]) (l.rep k)
  | tup e l =>
    refine .tup (by rw [PyProof.Rows.lm_len_rep_flat, e, Nat.mul_comm]) fun d hd => ?_
    obtain ⟨x, hx, hdx⟩ := List.mem_flatten.mp hd
    exact l d (List.eq_of_mem_replicate hx ▸ hdx)
theorem Row.none {t : Bool} {a : PyData} {n : Nat} (h : Row t a n) : Row t (noneD a) 0 := by
  cases h with
  | @txt z _ e l => exact .txt (Nat.le_zero.mp (cut_to z 0)) (l.cut _ _)
  | tup e l => exact .tup rfl fun d hd => by cases hd
theorem Item.sm {d : PyData} (h : Item d) : Sm d 1 3000 := by
  obtain ⟨i, rfl, h0, h1⟩ := h
  exact (Sm.tup (.cons (Sm.short (n := "int") (by decide +kernel)) (.cons (Sm.int (Nat.lt_of_lt_of_le (show i.natAbs < 2 ^ 20 by omega) (Nat.pow_le_pow_right (by decide) (by decide)))) .nil))).mono (by decide) (by decide)
theorem Row.sm {t : Bool} {d : PyData} {n : Nat} (h : Row t d n) (hn : n ≤ 1000) : Sm d 2 3100000 := by
  cases h with
  | txt e l => exact (Sm.str (n := 1000) (by omega) fun c hc => Nat.lt_of_lt_of_le (l c hc) (by decide)).mono (by decide) (by decide)
  | tup e l => exact (Sm.tup ((SmAll.many fun d hd => (l d hd).sm).mem (m := 1000) (M := 3000000) (by omega) (by omega))).mono (by decide) (by decide)
theorem Row.lay {t : Bool} {d : PyData} {n : Nat} (h : Row t d n) : d.canLay0 = true := by
  cases h with
  | @txt z _ e l =>
    rw [PyData.canLay0]
    exact Array.all_eq_true_iff_forall_mem.mpr fun c hc => by
      have := l c (Array.mem_toList_iff.mpr hc)
      exact decide_eq_true (by omega)
  | tup e l =>
    rw [PyData.canLay0]
    exact canLayAll0_of fun d hd => by obtain ⟨i, rfl, _⟩ := l d hd; simp only [PyData.canLay0, PyData.canLayAll0, Bool.and_true]; decide +kernel
section
variable {X : Cx}
/-- a + b, two rows -/
def rCatD (K : PySem.W.Frag) : R2 := fun x y H Q => ∃ (t : Bool) (a b : PyData) (n m : Nat), Row t a n ∧ Row t b m ∧ Dt K H x a ∧ Dt K H y b ∧ n + m ≤ 2000 ∧ ∀ v H', Same H H' → Dt K H' v (catD a b) → Q v H'
theorem op_catD : OpR X (binaryOp .Add) (rCatD X.K) := by
  intro pins s σ H x y v u Q I rx ry h
  obtain ⟨t, a, b, n, m, ha, hb, da, db, hz, q⟩ := h
  cases ha with
  | txt e l =>
    cases hb with
    | txt e2 l2 =>
      cases da.str_inv; cases db.str_inv
      exact op_add_str pins s σ H _ _ v u Q I rx ry ⟨_, _, rfl, rfl, by rw [e, e2]; exact Nat.le_trans hz (by decide), q _ _ (Same.refl _) (.str _)⟩
  | @tup ds _ e l =>
    cases hb with
    | @tup es _ e2 l2 =>
      obtain ⟨p, xs, rfl, hs, ax⟩ := da.tuple_inv
      obtain ⟨p2, ys, rfl, hs2, ay⟩ := db.tuple_inv
      have lx := ax.length
      have ly := ay.length
      refine op_catA pins s σ H _ _ v u Q I rx ry ⟨p, p2, xs, ys, rfl, rfl, hs, hs2, by rw [lx, ly, e, e2]; exact Nat.le_trans hz (by decide), fun h0 => ?_, fun _ h0 => ?_, fun _ _ z hz => ?_⟩
      · subst h0
        have : ds = [] := List.eq_nil_of_length_eq_zero (by rw [← lx]; rfl)
        subst this
        exact q _ _ (Same.refl _) db
      · subst h0
        have : es = [] := List.eq_nil_of_length_eq_zero (by rw [← ly]; rfl)
        subst this
        refine q _ _ (Same.refl _) ?_
        show Dt X.K H (.ref p) (.tuple (ds ++ []))
        rw [List.append_nil]; exact da
      · exact q _ _ (Same.new hz) (Dt.made hz (DtAll.app ax ay))
/-- a * k, a row and an int -/
def rRepD (K : PySem.W.Frag) : R2 := fun x y H Q => ∃ (t : Bool) (a : PyData) (n : Nat) (k : Int), Row t a n ∧ Dt K H x a ∧ y = .int k ∧ 1 ≤ n ∧ 1 ≤ k ∧ n * k ≤ 1000 ∧ ∀ v H', Same H H' → Dt K H' v (repD a k) → Q v H'
theorem dtRep {K : PySem.W.Frag} {H : Hp} {xs : List V} {ds : List PyData} (h : DtAll K H xs ds) : ∀ m : Nat, DtAll K H (List.replicate m xs).flatten (List.replicate m ds).flatten
  | 0 => .nil
  | m + 1 => by
    rw [List.replicate_succ, List.flatten_cons, List.replicate_succ, List.flatten_cons]
    exact DtAll.app h (dtRep h m)
theorem op_repD : OpR X (binaryOp .Mult) (rRepD X.K) := by
  intro pins s σ H x y v u Q I rx ry h
  obtain ⟨t, a, n, k, ha, da, rfl, hn, hk, hz, q⟩ := h
  have k1 : k ≤ 1000 := by
    have : 1 * k ≤ n * k := Int.mul_le_mul_of_nonneg_right (by omega) (by omega)
    omega
  have n1 : n ≤ 1000 := by
    have : (n : Int) * 1 ≤ n * k := Int.mul_le_mul_of_nonneg_left hk (by omega)
    omega
  cases ha with
  | txt e l =>
    cases da.str_inv
    refine op_rep_str pins s σ H _ _ v u Q I rx ry ⟨_, k, rfl, rfl, by omega, by omega, ?_, q _ _ (Same.refl _) (.str _)⟩
    rw [e]
    exact Nat.le_trans (Nat.mul_le_mul n1 (show k.toNat ≤ 1000 by omega)) (by decide)
  | @tup ds _ e l =>
    obtain ⟨p, xs, rfl, hs, ax⟩ := da.tuple_inv
    have lx := ax.length
    refine op_repTA pins s σ H _ _ v u Q I rx ry ⟨p, k, xs, rfl, rfl, hs, fun z => ?_, hk, k1, by omega, fun h1 => ?_, fun h1 z hz => ?_⟩
    · subst z
      rw [List.length_nil] at lx
      omega
    · subst h1
      refine q _ _ (Same.refl _) ?_
      show Dt X.K H (.ref p) (.tuple (List.replicate 1 ds).flatten)
      rw [show (List.replicate 1 ds).flatten = ds by simp]
      exact da
    · exact q _ _ (Same.new hz) (Dt.made hz (dtRep ax _))
/-- a[:0], a row -/
def rNoneD (K : PySem.W.Frag) : V → Option Int → Option Int → Hp → VK → Prop := fun x lo hi H Q => ∃ (t : Bool) (a : PyData) (n : Nat), Row t a n ∧ Dt K H x a ∧ n ≤ 2000 ∧ lo = none ∧ hi = some 0 ∧ ∀ v H', Same H H' → Dt K H' v (noneD a) → Q v H'
theorem sl_noneD : SlR X (rNoneD X.K) := by
  intro pins s σ H x v vl vu lo hi sl Q I rx hs pl pu h
  obtain ⟨t, a, n, ha, da, hn, rfl, rfl, q⟩ := h
  cases ha with
  | txt e l =>
    cases da.str_inv
    exact sl_str pins s σ H _ v vl vu _ _ sl Q I rx hs pl pu ⟨_, rfl, by rw [e]; exact Nat.le_trans hn (by decide), q _ _ (Same.refl _) (.str _)⟩
  | @tup ds _ e l =>
    obtain ⟨p, xs, rfl, hq, ax⟩ := da.tuple_inv
    have lx := ax.length
    refine sl_tupA pins s σ H _ v vl vu _ _ sl Q I rx hs pl pu ⟨p, xs, rfl, hq, fun hw => ?_, fun _ z hz => ?_⟩
    · have h0 : ds.length = 0 := by
        have := hw.2
        rw [show (some (0 : Int)) = some ((0 : Nat) : Int) from rfl, HT.sIx_nat] at this
        omega
      have := List.eq_nil_of_length_eq_zero h0
      subst this
      exact q _ _ (Same.refl _) da
    · refine q _ _ (Same.new hz) (Dt.made hz ?_)
      have : cutV xs none (some 0) = [] := by
        apply List.eq_nil_of_length_eq_zero
        unfold cutV
        rw [List.length_take, show (some (0 : Int)) = some ((0 : Nat) : Int) from rfl, HT.sIx_nat]
        omega
      rw [this]
      exact .nil
/-- len(a), a row -/
def rLenD (K : PySem.W.Frag) : List V → Hp → VK → Prop := fun vs H Q => ∃ (v : V) (t : Bool) (a : PyData) (n : Nat), vs = [v] ∧ Row t a n ∧ Dt K H v a ∧ n ≤ 2000 ∧ Q (.int (n : Int)) H
theorem call_lenD' : CallR X (.builtin "len") (rLenD X.K) := by
  intro pins s σ H xs us Q I r h
  obtain ⟨v, t, a, n, rfl, ha, da, hn, q⟩ := h
  cases ha with
  | txt e l =>
    cases da.str_inv
    exact call_len pins s σ H _ us Q I r ⟨_, n, rfl, ⟨by rw [e]; exact Nat.le_trans hn (by decide), e.symm⟩, q⟩
  | @tup ds _ e l =>
    obtain ⟨p, ys, rfl, hq, ax⟩ := da.tuple_inv
    exact call_len pins s σ H _ us Q I r ⟨_, n, rfl, .inr ⟨_, hq, by rw [ax.length, e]⟩, q⟩
end
end LK

set_option Elab.async false
set_option linter.all false
set_option maxRecDepth 100000
set_option maxHeartbeats 4000000
set_option exponentiation.threshold 3000
/-! Letters, digits, underscores; texts of the top. -/
namespace LK
open PySem PySem.Spec PyProof.Rows L2 SX
def isD (c : Nat) : Bool := decide (48 ≤ c) && decide (c ≤ 57)
def isL (c : Nat) : Bool := (decide (65 ≤ c) && decide (c ≤ 90)) || (decide (97 ≤ c) && decide (c ≤ 122)) || c == 95
def isW (c : Nat) : Bool := isD c || isL c
theorem isW_lt {c : Nat} (h : isW c = true) : c < 128 := by
  simp [isW, isD, isL] at h; omega
theorem uni_alpha : ∀ c < 128, Unicode.isAlpha c = (isL c && c != 95) := by decide +kernel
theorem uni_digit : ∀ c < 128, Unicode.isDigit c = isD c := by decide +kernel
theorem uni_alnum : ∀ c < 128, Unicode.isAlnum c = (isW c && c != 95) := by decide +kernel
theorem alpha1 {c : Nat} (h : c < 128) : Txt.isalpha (S [c]) = (isL c && c != 95) := by
  show (decide ((S [c]).length > 0) && (S [c]).cps.all Unicode.isAlpha) = _
  rw [S_len]; simp [S, uni_alpha c h]
theorem digit1 {c : Nat} (h : c < 128) : Txt.isdigit (S [c]) = isD c := by
  show (decide ((S [c]).length > 0) && (S [c]).cps.all Unicode.isDigit) = _
  rw [S_len]; simp [S, uni_digit c h]
theorem alnum1 {c : Nat} (h : c < 128) : Txt.isalnum (S [c]) = (isW c && c != 95) := by
  show (decide ((S [c]).length > 0) && (S [c]).cps.all Unicode.isAlnum) = _
  rw [S_len]; simp [S, uni_alnum c h]
theorem digitS {a : List Nat} (h : ∀ c ∈ a, c < 128) (hne : a ≠ []) : Txt.isdigit (S a) = a.all isD := by
  show (decide ((S a).length > 0) && (S a).cps.all Unicode.isDigit) = _
  have : 0 < a.length := List.length_pos_iff.mpr hne
  rw [S_len, decide_eq_true this, Bool.true_and]
  show a.toArray.all Unicode.isDigit = _
  rw [List.all_toArray]
  apply Bool.eq_iff_iff.mpr
  rw [List.all_eq_true, List.all_eq_true]
  exact ⟨fun g c hc => uni_digit c (h c hc) ▸ g c hc, fun g c hc => (uni_digit c (h c hc)).symm ▸ g c hc⟩
/-! texts of the top -/
def GStr (mg : Str → Option Value) (x : Str) (z : Str) : Prop := ∃ t, mg x = some (.str z t)
def HasStr (K : PySem.W.Frag) (x : Str) (p : Str → Prop) : Prop := ∃ (z : Str) (t : Tok), PySem.W.nsIn K mainGlobals x = some (some (.str z t)) ∧ p z
theorem HasStr.mk' {K : PySem.W.Frag} {x : Str} {p : Str → Prop} {z : Str} {t : Tok} (a : PySem.W.nsIn K mainGlobals x = some (some (.str z t))) (b : p z) : HasStr K x p := ⟨z, t, a, b⟩
theorem HasStr.g {K : PySem.W.Frag} {mg : Str → Option Value} {h : Heap} {x : Str} {p : Str → Prop} (i : HasStr K x p) (X : K.In h) (G : h.Ns mainGlobals mg) : ∃ z, GStr mg x z ∧ p z := by
  obtain ⟨z, t, e, hp⟩ := i
  exact ⟨z, ⟨t, PySem.W.mg_of X G e⟩, hp⟩
theorem pe_globS {X : Cx} {x z : Str} {pos : Pos} (h : GStr X.mg x z) (hg : Gl X x) (hd : (x == ("__debug__" : Str)) = false := by decide) : PE X (.Name x pos) (tC (.str z)) := by
  obtain ⟨t, e⟩ := h
  exact pe_glob hg e ⟨t, rfl⟩ hd
theorem split1 {a : List Nat} {c : Nat} (h : c ∉ a) (hc : c < 256) : Txt.split (S a) (S [c]) = [S a] := by
  rw [split_S (by simp) (by simpa using hc)]
  have := SX.spl_join (c := c) (sep := []) (parts := [a]) (by simp) (by simpa using h)
  have e : TL.joinL [c] [a] = a := by simp [TL.joinL]
  rw [e] at this
  rw [this]; rfl
theorem lstrip1 {a : List Nat} {b : List Nat} (h : ∀ c, a.head? = some c → c ∉ b) : Txt.lstripChars (S a) (S b) = S a := by
  have e1 : (S a).cps.toList.takeWhile (S b).cps.contains = [] := tw0 a fun c hc => by
    have := h c hc
    show b.toArray.contains c = false
    rw [List.contains_toArray]
    simpa using this
  have e0 : stripLo (S b).cps.contains true (S a) = 0 := by
    unfold stripLo
    rw [if_pos rfl, e1] <;> rfl
  have e3 : stripHi (S b).cps.contains false (S a) 0 = (S a).length := by
    unfold stripHi
    rw [if_neg Bool.false_ne_true]
  unfold Txt.lstripChars Txt.stripBy stripSame
  rw [e0, e3]
  exact if_pos (by simp)
/-! while, its test's reading made monotone -/
def tUp (c : TT) : TT := fun σ H Q => ∃ P : Bool → Hp → Prop, c σ H P ∧ ∀ b H1, P b H1 → Q b H1
theorem pt_up {X : Cx} {e : Expr} {c : TT} (h : PT X e c) : PT X e (tUp c) :=
  ⟨fun pins s σ H Q I ⟨P, hP, k⟩ => thn (h.run pins s σ H P I hP) fun b s1 ⟨H1, I1, q⟩ => ⟨H1, I1, k _ _ q⟩⟩
theorem while_up {c : TT} {tb : TS} {D : Ends} {σ : L2.St} {H : Hp} (Pv : L2.St → Hp → Prop) (μ : L2.St → Hp → Nat) (h0 : Pv σ H)
    (hs : ∀ σ H, Pv σ H → c σ H fun b H1 => if b = true then tb { D with nx := fun σ' H' => Pv σ' H' ∧ μ σ' H' < μ σ H, ct := fun σ' H' => Pv σ' H' ∧ μ σ' H' < μ σ H, bk := D.nx } σ H1 else D.nx σ H1) : tWhile (tUp c) tb D σ H :=
  while_by Pv μ h0 (fun σ H p => ⟨_, hs σ H p, fun _ _ h => h⟩) (fun σ H Q Q' hq ⟨P, hP, k⟩ => ⟨P, hP, fun b H1 h => hq b H1 (k b H1 h)⟩)
theorem nl_S : ("\n" : Str) = S [10] := by decide +kernel
theorem us_S : ("_" : Str) = S [95] := by decide +kernel
theorem sp_S : (" " : Str) = S [32] := by decide +kernel
theorem hash_S : ("#" : Str) = S [35] := by decide +kernel
theorem sign_eq {c d : Nat} : decide (V.str ⟨#[c]⟩ = V.str (S [d])) = decide (c = d) := by
  by_cases h : c = d
  · subst h; rw [decide_eq_true rfl, decide_eq_true rfl]
  · rw [decide_eq_false h, decide_eq_false]
    intro e
    have := S_inj (a := [c]) (b := [d]) (V.str.inj e)
    exact h (by simpa using this)
theorem str_eq {a b : List Nat} : decide (V.str (S a) = V.str (S b)) = decide (a = b) := by
  by_cases h : a = b
  · subst h; rw [decide_eq_true rfl, decide_eq_true rfl]
  · rw [decide_eq_false h, decide_eq_false]
    intro e
    exact h (S_inj (V.str.inj e))
theorem starts1 {c d : Nat} {r : List Nat} : Txt.startswith (S (c :: r)) (S [d]) = decide (c = d) := by
  show (decide (0 + (S [d]).length ≤ (S (c :: r)).length) && ((c :: r).toArray.extract 0 (0 + (S [d]).length) == [d].toArray)) = _
  rw [S_len, S_len]
  have e : (c :: r).toArray.extract 0 (0 + [d].length) = #[c] := by simp
  rw [e]
  by_cases h : c = d
  · subst h; simp
  · simp [h]
theorem at_S {a : List Nat} {j c : Nat} (h : a[j]? = some c) : atI (S a).cps.toList (j : Int) = some c := atI_nat h
theorem cut_all {a : List Nat} : cutS (S a) (some 0) (some ((a.length : Nat) : Int)) = S a := by
  unfold cutS
  rw [S_len, show (some (0 : Int)) = some ((0 : Nat) : Int) from rfl, HT.sIx_nat, HT.sIx_nat]
  show (⟨((a.drop (min 0 a.length)).take (min a.length a.length - min 0 a.length)).toArray⟩ : Str) = ⟨a.toArray⟩
  rw [Nat.zero_min, List.drop_zero, Nat.min_self, Nat.sub_zero, List.take_length]
/-! a promise at a higher level -/
theorem FnG.mono {P : Program} {w : World} {K : PySem.W.Frag} {mg : Str → Option Value} {base : Heap} {CX : CXT} {j k : Nat} {f : Addr} {fd : FuncData} {ps : List Str} {sp : Sp} (F : FnG P w K mg base CX j f fd ps sp) (h : j ≤ k) : FnG P w K mg base CX k f fd ps sp :=
  ⟨F.len, fun A outer s H args us vs Q E hr => F.run A outer s H args us vs Q E (hr.mono h)⟩
theorem Use.mono {P : Program} {w : World} {K : PySem.W.Frag} {mg : Str → Option Value} {base : Heap} {CX : CXT} {x : Str} {j k : Nat} {ps : List Str} {sp : Sp} (U : Use P w K mg base CX x j ps sp) (h : j ≤ k) : Use P w K mg base CX x k ps sp := by
  obtain ⟨f, fd, ok, r⟩ := U.ex
  exact ⟨f, fd, ok.mono h, r⟩
/-! the signs that a program may hold -/
def okC (c : Nat) : Bool := c == 10 || (decide (32 ≤ c) && decide (c ≤ 126) && c != 37)
theorem okC_lt {c : Nat} (h : okC c = true) : c < 128 := by
  simp [okC] at h; omega
theorem lstrip_sp (a : List Nat) : Txt.lstripChars (S a) (S [32]) = S (a.dropWhile (· == 32)) := by
  have e1 : (S a).cps.toList.takeWhile (S [32]).cps.contains = a.takeWhile (· == 32) := by
    show a.takeWhile _ = _
    congr 1
    funext c
    show #[32].contains c = _
    simp [Array.contains, BEq.comm]
  have el : (a.takeWhile (· == 32)).length ≤ a.length := (List.takeWhile_prefix _).length_le
  have ed : a.drop (a.takeWhile (· == 32)).length = a.dropWhile (· == 32) := by
    have h := List.takeWhile_append_dropWhile (p := (· == 32)) (l := a)
    have : (a.takeWhile (· == 32) ++ a.dropWhile (· == 32)).drop (a.takeWhile (· == 32)).length = a.dropWhile (· == 32) := List.drop_left
    rwa [h] at this
  have e0 : stripLo (S [32]).cps.contains true (S a) = (a.takeWhile (· == 32)).length := by
    unfold stripLo
    rw [if_pos rfl, e1] <;> rfl
  have e3 : stripHi (S [32]).cps.contains false (S a) (a.takeWhile (· == 32)).length = (S a).length := by
    unfold stripHi
    rw [if_neg Bool.false_ne_true]
  unfold Txt.lstripChars Txt.stripBy stripSame stripped
  rw [e0, e3]
  split
  · rename_i h
    simp at h
    have : (a.takeWhile (· == 32)).length = 0 := by simpa using h
    rw [this, List.drop_zero] at ed
    rw [← ed]
  · show (⟨a.toArray.extract (a.takeWhile (· == 32)).length (S a).length⟩ : Str) = _
    rw [S_len, ← ed]
    congr 1
    apply Array.toList_inj.mp
    simp only [Array.toList_extract, List.extract_eq_drop_take]
    exact List.take_of_length_le (by rw [List.length_drop]; omega)
/-- z[i:j] by codes -/
theorem cut_S {a : List Nat} {i j : Nat} (hi : i ≤ a.length) (hj : j ≤ a.length) : cutS (S a) (some ((i : Nat) : Int)) (some ((j : Nat) : Int)) = S ((a.drop i).take (j - i)) := by
  unfold cutS
  rw [S_len, HT.sIx_nat, HT.sIx_nat, Nat.min_eq_left hi, Nat.min_eq_left hj]
/-- a line: so many spaces, and perhaps a word -/
def lnT (s : Nat) (w : List Nat) : List Nat := List.replicate s 32 ++ w
theorem lnT_len (s : Nat) (w : List Nat) : (lnT s w).length = s + w.length := by simp [lnT]
theorem lnT_sp {s : Nat} {w : List Nat} {i : Nat} (h : i < s) : (lnT s w)[i]? = some 32 := by
  unfold lnT
  rw [List.getElem?_append_left (by simpa using h), List.getElem?_replicate, if_pos h]
theorem lnT_w {s : Nat} {w : List Nat} {i : Nat} : (lnT s w)[s + i]? = w[i]? := by
  unfold lnT
  rw [List.getElem?_append_right (by simp), List.length_replicate, Nat.add_sub_cancel_left]
theorem lnT_drop (s : Nat) (w : List Nat) : (lnT s w).drop s = w := by
  unfold lnT
  rw [List.drop_append_of_le_length (by simp)]
  simp
/-- a while by an invariant that carries its measure -/
theorem while_upN {c : TT} {tb : TS} {D : Ends} {σ : L2.St} {H : Hp} (W : Nat → L2.St → Hp → Prop) (h0 : ∃ m, W m σ H)
    (hs : ∀ m σ H, W m σ H → c σ H fun b H1 => if b = true then tb { D with nx := fun σ' H' => ∃ m', m' < m ∧ W m' σ' H', ct := fun σ' H' => ∃ m', m' < m ∧ W m' σ' H', bk := D.nx } σ H1 else D.nx σ H1) : tWhile (tUp c) tb D σ H := by
  refine ⟨W, h0, fun m σ H w => ⟨_, hs m σ H w, fun b H1 h => ?_⟩⟩
  cases b with
  | false => exact h
  | true => exact ⟨_, fun σ' H' q => q, h⟩
end LK

set_option Elab.async false
set_option linter.all false
set_option maxRecDepth 100000
set_option maxHeartbeats 4000000
set_option exponentiation.threshold 3000
/-! What several laws share: boxes and lists beside changes of other objects. -/
namespace LK
open PySem PySem.Spec PyProof.Rows L2
section
variable {K : PySem.W.Frag}
theorem BoxAt.ne_new {H : Hp} {p dl b : Addr} (B : BoxAt H p dl) (h : H b = none) : b ≠ p ∧ b ≠ dl := by
  obtain ⟨xs, g⟩ := B.at_
  obtain ⟨ys, g2⟩ := B.dg
  exact ⟨fun e => (by subst e; rw [h] at g; cases g), fun e => (by subst e; rw [h] at g2; cases g2)⟩
theorem BoxAt.kp {H H' : Hp} {p dl : Addr} (B : BoxAt H p dl) (h : ∀ b o, b = p ∨ b = dl → H b = some o → H' b = some o) : BoxAt H' p dl := by
  obtain ⟨ds, k, a, b, c, d⟩ := B
  exact ⟨ds, k, h _ _ (.inl rfl) a, b, h _ _ (.inr rfl) c, d⟩
theorem BoxAt.keep' {H H' : Hp} {p dl l : Addr} (B : BoxAt H p dl) (k : Keep l H H') (h1 : l ≠ p) (h2 : l ≠ dl) : BoxAt H' p dl :=
  B.kp fun b o hb e => k b o e (by
    rcases hb with rfl | rfl
    · exact Ne.symm h1
    · exact Ne.symm h2)
theorem BoxAt.keep2 {H H' : Hp} {p dl l m : Addr} (B : BoxAt H p dl) (k : ∀ b o, H b = some o → b ≠ l → b ≠ m → H' b = some o) (h1 : l ≠ p) (h2 : l ≠ dl) (h3 : m ≠ p) (h4 : m ≠ dl) : BoxAt H' p dl :=
  B.kp fun b o hb e => by
    rcases hb with rfl | rfl
    · exact k _ _ e (Ne.symm h1) (Ne.symm h3)
    · exact k _ _ e (Ne.symm h2) (Ne.symm h4)
theorem KeepT.ins {p C dx : Addr} {H : Hp} {o : HO} {fs : List (Str × V)} (hp : H p = some (.ins C dx fs)) : KeepT K H (L2.upd H p o) := fun a xs h => by
  rcases h with (h | ⟨o', h⟩) | h
  · exact .inl (.inl (by rw [upd_ne (ne_of h hp (by intro z; cases z))]; exact h))
  · exact .inl (.inr ⟨o', by rw [upd_ne (ne_of h hp (by intro z; cases z))]; exact h⟩)
  · exact .inr h
theorem listAt_ins {p C dx l : Addr} {H : Hp} {o : HO} {fs : List (Str × V)} {ds : List PyData} (h : ListAt K H l ds) (hp : H p = some (.ins C dx fs)) : ListAt K (upd H p o) l ds := by
  obtain ⟨xs, e, a⟩ := h
  exact ⟨xs, by rw [upd_ne (ne_of e hp (by intro z; cases z))]; exact e, DtAll.keepT (KeepT.ins hp) a⟩
theorem Low.zero : Low "" := fun c hc => by
  have e : ("" : Str).cps.toList = [] := by decide +kernel
  rw [e] at hc; cases hc
theorem DtAll.take {H : Hp} : ∀ (n : Nat) {vs : List V} {ds : List PyData}, DtAll K H vs ds → DtAll K H (vs.take n) (ds.take n)
  | 0, _, _, _ => .nil
  | _ + 1, _, _, .nil => .nil
  | n + 1, _, _, .cons h a => .cons h (DtAll.take n a)
theorem len_start0 : (startD []).length = 17 := by decide
theorem sm_start0 : ∀ d ∈ startD [], Sm d 5 150000 := fun d hd => sm_start (hs := []) (L := 0) (by simp) (by simp) d hd
theorem sm_heap {ds : List PyData} (h : ds.length ≤ 30) (sm : ∀ d ∈ ds, Sm d 5 150000) : ShowOk (.list ds) := (Sm.lst ((SmAll.many sm).mem (m := 30) (M := 4500000) h (by omega))).show (by decide) (by decide)
theorem ListAt.dp {H : Hp} {l : Addr} {ds : List PyData} (h : ListAt K H l ds) : Dp K H (.ref l) (.list ds) := let ⟨_, e, a⟩ := h; .lst (SqL.of e) a.dp
end
theorem FnG.or {P : Program} {w : World} {K : PySem.W.Frag} {mg : Str → Option Value} {base : Heap} {CX : CXT} {k : Nat} {f : Addr} {fd : FuncData} {ps : List Str} {sp sp' : Sp} (A : FnG P w K mg base CX k f fd ps sp) (B : FnG P w K mg base CX k f fd ps sp') :
    FnG P w K mg base CX k f fd ps (fun vs H Q E => sp vs H Q E ∨ sp' vs H Q E) where
  len := fun vs H Q E h => h.elim (A.len vs H Q E) (B.len vs H Q E)
  run := fun A' outer s H args us vs Q E hr hg he hb hv h => h.elim (A.run A' outer s H args us vs Q E hr hg he hb hv) (B.run A' outer s H args us vs Q E hr hg he hb hv)
/-- start_heap of a list of names -/
def spStartL (K : PySem.W.Frag) : Sp := fun vs H Q _ => ∃ (t : Addr) (hs : List Str), vs = [.ref t] ∧ SqL K H t (hs.map V.str) ∧ hs.length ≤ 1000 ∧
  ∀ (p : Addr) (H' : Hp), H p = none → Same H H' → ListAt K H' p (startD hs) → Q (.ref p) H'
def spStart2 (K : PySem.W.Frag) : Sp := fun vs H Q E => spStart K vs H Q E ∨ spStartL K vs H Q E
theorem ip_fdiv {X : Cx} : PIp X .FloorDiv (rI CDiv fun i j => .int (i / j)) := fun pins s σ H x y v u Q I r1 r2 h => iop_fdiv pins s σ H x y v u Q I r1 r2 h
theorem none_back0 {p np : Addr} {H H' : Hp} (K1 : Keep p H H') (B : ∃ xs, H' p = some (.lst xs)) (h : H' np = none) : H np = none := by
  cases e : H np with
  | none => rfl
  | some o =>
    by_cases ep : np = p
    · subst ep
      obtain ⟨xs, g⟩ := B
      rw [g] at h; cases h
    · rw [K1 _ _ e ep] at h; cases h
end LK

set_option Elab.async false
set_option linter.all false
set_option maxRecDepth 100000
set_option maxHeartbeats 4000000
/-! dicts of the top: what a literal dict of the program gives, read where it stands. -/
namespace LK
open PySem PySem.Spec PyProof.Rows L2
/-- at a lies a dict of the top with these entries -/
def KDct (P : Program) (w : World) (K : PySem.W.Frag) (a : Addr) (kvs : List (Key × V)) : Prop := (a == sysModules) = false ∧ ∃ vs, KV kvs vs ∧ ∀ h : Heap, K.In h → h.DictOf (mixKind P w) a vs
def tDGetK (P : Program) (w : World) (K : PySem.W.Frag) (td ty : TE) : TE := fun σ H Q => td σ H fun x H1 => ty σ H1 fun y H2 => ∃ a kvs k v, x = .ref a ∧ KDct P w K a kvs ∧ y = kV k ∧ valV kvs k = some v ∧ Q v H2
def tDInK (P : Program) (w : World) (K : PySem.W.Frag) (ty td : TE) : TE := fun σ H Q => ty σ H fun y H1 => td σ H1 fun x H2 => ∃ a kvs k, x = .ref a ∧ KDct P w K a kvs ∧ y = kV k ∧ Q (.bl (valV kvs k).isSome) H2
section
variable {X : Cx} {o i : Expr} {pos : Pos} {td ty : TE}
theorem pe_dgetK (ho : PE X o td) (hi : PE X i ty) (hs : NoSl i) : PE X (.Subscript o i pos) (tDGetK X.prog X.w X.K td ty) := by
  refine ⟨fun pins s σ H Q I h => ?_⟩
  refine subD_of PySem.F.slot_dict_getitem.lookup hs (thn (ho.run pins s σ H _ I h) fun u s1 ⟨x, H1, I1, rx, q1⟩ => thn (hi.run pins s1 σ H1 _ I1 q1) fun iv s2 ⟨y, H2, I2, ry, a, kvs, k, v, ex, ⟨hsys, vs, rel, dd⟩, ey, l, q2⟩ => ?_)
  subst ex ey
  obtain rfl : u = Value.ref a := rx
  have dd := dd _ I2.kIn
  refine ⟨dd.typeIs, ?_⟩
  obtain ⟨w', hw, rw'⟩ := RelO.some_of (v := v) (o := valueAt vs k) (by rw [← l]; exact rel.val k)
  exact wpAny_getItem_of (kV_is ry) dd.mapOf hw ⟨v, H2, I2.tok _, rw', q2⟩
theorem pc_dinK (hi : PE X i ty) (ho : PE X o td) : PC X .In i o (tDInK X.prog X.w X.K ty td) := by
  refine ⟨fun pins s σ H Q I h => ?_⟩
  refine thn (hi.run pins s σ H _ I h) fun iv s1 ⟨y, H1, I1, ry, q1⟩ => thn (ho.run pins s1 σ H1 _ I1 q1) fun u s2 ⟨x, H2, I2, rx, a, kvs, k, ex, ⟨hsys, vs, rel, dd⟩, ey, q2⟩ => ?_
  subst ex ey
  obtain rfl : u = Value.ref a := rx
  have dd := dd _ I2.kIn
  refine wpAny_in_of (kV_is ry) hsys dd.mapOf ?_
  rw [← (rel.val k).isSome_eq]
  exact ⟨.bl _, H2, I2.tok _, rfl, q2⟩
end
/-! its fact from the top -/
def HasDct (P : Program) (w : World) (K : PySem.W.Frag) (x : Str) (kvs : List (Key × V)) : Prop := ∃ a, PySem.W.nsIn K mainGlobals x = some (some (.ref a)) ∧ KDct P w K a kvs
structure UseD (P : Program) (w : World) (K : PySem.W.Frag) (mg : Str → Option Value) (x : Str) (kvs : List (Key × V)) : Prop where
  ex : ∃ a, mg x = some (.ref a) ∧ KDct P w K a kvs
/-- entries whose keys and values are texts -/
inductive DEnt (w : World) : List DictEntry → List (Str × Str) → Prop
  | nil : DEnt w [] []
  | cons {e : DictEntry} {es : List DictEntry} {k v : Str} {ps : List (Str × Str)} {t t' : Tok} : e.key = .str k t → e.hash = hashStr w k → e.val = .str v t' → DEnt w es ps → DEnt w (e :: es) ((k, v) :: ps)
def txtKV (ps : List (Str × Str)) : List (Key × V) := ps.map fun p => (.inr p.1, .str p.2)
theorem DEnt.pairs {P : Program} {w : World} : ∀ {es : List DictEntry} {ps : List (Str × Str)}, DEnt w es ps → ∃ vs : List (Key × Value), KV (txtKV ps) vs ∧ PySem.Pairs (mixKind P w) es vs ∧ vs.map (·.1) = ps.map (fun p => (Sum.inr p.1 : Key)) ∧ ∀ e ∈ es, ∃ k, (mixKind P w).is k e.key = true ∧ e.hash = (mixKind P w).hash k
  | _, _, .nil => ⟨[], .nil, .nil, rfl, fun _ h => by cases h⟩
  | _, _, .cons (k := k) (v := v) (t := t) (t' := t') hk hh hv r => by
    obtain ⟨vs, a, b, c, d⟩ := DEnt.pairs (P := P) r
    refine ⟨(.inr k, .str v t') :: vs, .cons ⟨rfl, ⟨_, rfl⟩⟩ a, .cons (by rw [hk]; exact mixKind_str P w k t) hv b, by rw [List.map_cons, c]; rfl, fun e he => ?_⟩
    rcases List.mem_cons.mp he with rfl | he
    · exact ⟨.inr k, by rw [hk]; exact mixKind_str P w k t, hh⟩
    · exact d e he
theorem nodup_inr : ∀ {xs : List Str}, xs.Nodup → (xs.map (Sum.inr : Str → Key)).Nodup
  | [], _ => .nil
  | x :: r, h => by
    obtain ⟨h1, h2⟩ := List.nodup_cons.mp h
    refine List.nodup_cons.mpr ⟨fun hm => ?_, nodup_inr h2⟩
    obtain ⟨y, hy, e⟩ := List.mem_map.mp hm
    exact h1 (Sum.inr.inj e ▸ hy)
theorem HasDct.mk' {P : Program} {w : World} {K : PySem.W.Frag} {x : Str} {ps : List (Str × Str)} {a : Addr} {es : Array DictEntry} {ep : Nat} (h : PySem.W.nsIn K mainGlobals x = some (some (.ref a)))
    (b : K.lookup a = some { cls := .type "dict", data := .dict es ep }) (hs : (a == sysModules) = false) (c : DEnt w es.toList ps) (nd : (ps.map (·.1)).Nodup) : HasDct P w K x (txtKV ps) := by
  obtain ⟨vs, v1, v2, v3, v4⟩ := DEnt.pairs (P := P) c
  refine ⟨a, h, hs, vs, v1, fun hh hK => ⟨_, es, ep, hK a _ b, ⟨rfl, rfl, rfl⟩, rfl, fun e he => v4 e (Array.mem_toList_iff.mpr he), v2, ?_⟩⟩
  rw [v3]
  have : ps.map (fun p => (Sum.inr p.1 : Key)) = (ps.map (·.1)).map Sum.inr := by rw [List.map_map]; rfl
  rw [this]
  exact nodup_inr nd
theorem HasDct.g {P : Program} {w : World} {K : PySem.W.Frag} {mg : Str → Option Value} {h : Heap} {x : Str} {kvs : List (Key × V)} (D : HasDct P w K x kvs) (X : K.In h) (G : h.Ns mainGlobals mg) : UseD P w K mg x kvs := by
  obtain ⟨a, e, k⟩ := D
  exact ⟨a, PySem.W.mg_of X G e, k⟩
end LK

set_option Elab.async false
set_option linter.all false
set_option maxRecDepth 100000
set_option maxHeartbeats 4000000
/-! Defs held by names and by dicts of the top: action = D[k]; action(x). The keys and the length of a dict of the top. -/
namespace LK
open PySem PySem.Spec PyProof.Rows L2
/-! ### a def that a local holds -/
def tCallV (X : Cx) (k : Nat) (i : Nat) (t : TA) : TE := fun σ H Q => ∃ (f : Addr) (fd : FuncData) (ps : List Str) (sp : Sp), σ[i]? = some (some (.ref f)) ∧ FnG X.prog X.w X.K X.mg X.base CX0 k f fd ps sp ∧ PySem.W.keepIn X.K (.ref f) = true ∧ Binds X.K fd ps [] ∧
  t σ H fun vs H1 => sp vs H1 Q E0
section
variable {X : Cx} {k i : Nat} {x : Str} {p pos : Pos} {e : Expr} {es : List Expr} {t : TA}
theorem pe_callV (hv : PE X (.Name x p) (tVar i)) (hr : Room k X.A) (gd : X.A.guards = some []) (ha : PA X (e :: es) t)
    (he : starEach (e :: es) X.env = (false, eval e X.env) :: starEach es X.env := by rfl) (hpl : (backTo pos (starEach es X.env)).any (·.1) = false := by rfl) : PE X (.Call (.Name x p) (e :: es) [] pos) (tCallV X k i t) := by
  refine ⟨fun pins s σ H Q I ⟨f, fd, ps, sp, eσ, F, kp, hb, h⟩ => ?_⟩
  refine wpAny_Call_Name_kw (thn (hv.run pins s σ H (fun v H' => v = V.ref f ∧ H' = H) I ⟨_, eσ, rfl, rfl⟩) fun u s1 ⟨v, H', I1, rv, ev, eH⟩ => ?_)
  subst ev eH
  obtain rfl : u = Value.ref f := rv
  exact PySem.W.callWith_K (h₀ := X.base) I1.ok.mod.kin kp (thn (ha.run pos pins s1 σ _ _ I1 h) fun us s2 ⟨vs, H2, I2, r, q⟩ => ⟨I2.kIn, run_fnG F hr gd hb pass0 I2 r q⟩) he hpl
end
/-! ### defs by name and place -/
def HasFnA (K : PySem.W.Frag) (x : Str) (st : Stmt) (f : Addr) : Prop := ∃ (oc : Value) (od an : Option Addr) (kV doc pm cdv ct : Value) (osl : Array (Option Value)),
  PySem.W.nsIn K mainGlobals x = some (some (.ref f)) ∧ K.lookup f = some ⟨oc, od, .func (PySem.W.fnOf x x (defArgs st) (defBody st) (defScope st) .none kV doc pm an cdv ct), osl⟩ ∧
  PySem.W.codeIn K cdv x = true ∧ PySem.W.keepIn K (.ref f) = true
theorem HasFnA.mk' {K : PySem.W.Frag} {x : Str} {st : Stmt} {f : Addr} {oc : Value} {od an : Option Addr} {kV doc pm cdv ct : Value} {osl : Array (Option Value)} (a : PySem.W.nsIn K mainGlobals x = some (some (.ref f)))
    (b : K.lookup f = some ⟨oc, od, .func (PySem.W.fnOf x x (defArgs st) (defBody st) (defScope st) .none kV doc pm an cdv ct), osl⟩) (c : PySem.W.codeIn K cdv x = true) (d : PySem.W.keepIn K (.ref f) = true) : HasFnA K x st f := ⟨oc, od, an, kV, doc, pm, cdv, ct, osl, a, b, c, d⟩
theorem HasFnA.fn {K : PySem.W.Frag} {x : Str} {st : Stmt} {f : Addr} (h : HasFnA K x st f) : HasFn K x st := by
  obtain ⟨oc, od, an, kV, doc, pm, cdv, ct, osl, a, b, c, d⟩ := h
  exact ⟨f, oc, od, an, kV, doc, pm, cdv, ct, osl, a, b, c, d⟩
structure UseA (P : Program) (w : World) (K : PySem.W.Frag) (mg : Str → Option Value) (base : Heap) (x : Str) (k : Nat) (ps : List Str) (sp : Sp) (f : Addr) : Prop where
  ex : ∃ fd : FuncData, FnG P w K mg base CX0 k f fd ps sp ∧ mg x = some (.ref f) ∧ PySem.W.keepIn K (.ref f) = true ∧ Binds K fd ps []
section
variable {P : Program} {w : World} {K : PySem.W.Frag} {mg : Str → Option Value} {base h : Heap}
theorem UseA.use {x : Str} {k : Nat} {ps : List Str} {sp : Sp} {f : Addr} (U : UseA P w K mg base x k ps sp f) : Use P w K mg base CX0 x k ps sp := by
  obtain ⟨fd, r⟩ := U.ex
  exact ⟨f, fd, r⟩
theorem mk_useA {x : Str} {st : Stmt} {k : Nat} {ps : List Str} {sp : Sp} {f : Addr} (F : HasFnA K x st f) (X : K.In h) (G : h.Ns mainGlobals mg)
    (hb : ∀ (kV doc pm : Value) (an : Option Addr) (cdv ct : Value) (us : List Value), us.length = ps.length → bindArgs (PySem.W.fnOf x x (defArgs st) (defBody st) (defScope st) .none kV doc pm an cdv ct) ⟨us, []⟩ = pure (ps.zip us))
    (ok : ∀ (f : Addr) (fd : FuncData), Fun K x x st f fd → FnG P w K mg base CX0 k f fd ps sp) : UseA P w K mg base x k ps sp f := by
  obtain ⟨oc, od, an, kV, doc, pm, cdv, ct, osl, e, l, c, kp⟩ := F
  have Fn := fun_mk (st := st) l c kp
  exact ⟨_, ok f _ Fn, PySem.W.mg_of X G e, kp, Fn.binds hb⟩
end
/-! ### a dict of the top whose values are defs -/
inductive FEnt (w : World) : List DictEntry → List (Str × Addr) → Prop
  | nil : FEnt w [] []
  | cons {e : DictEntry} {es : List DictEntry} {k : Str} {v : Addr} {ps : List (Str × Addr)} {t : Tok} : e.key = .str k t → e.hash = hashStr w k → e.val = .ref v → FEnt w es ps → FEnt w (e :: es) ((k, v) :: ps)
def fnKV (ps : List (Str × Addr)) : List (Key × V) := ps.map fun p => (.inr p.1, .ref p.2)
theorem FEnt.pairs {P : Program} {w : World} : ∀ {es : List DictEntry} {ps : List (Str × Addr)}, FEnt w es ps → ∃ vs : List (Key × Value), KV (fnKV ps) vs ∧ PySem.Pairs (mixKind P w) es vs ∧ vs.map (·.1) = ps.map (fun p => (Sum.inr p.1 : Key)) ∧ ∀ e ∈ es, ∃ k, (mixKind P w).is k e.key = true ∧ e.hash = (mixKind P w).hash k
  | _, _, .nil => ⟨[], .nil, .nil, rfl, fun _ h => by cases h⟩
  | _, _, .cons (k := k) (v := v) (t := t) hk hh hv r => by
    obtain ⟨vs, a, b, c, d⟩ := FEnt.pairs (P := P) r
    refine ⟨(.inr k, .ref v) :: vs, .cons ⟨rfl, rfl⟩ a, .cons (by rw [hk]; exact mixKind_str P w k t) hv b, by rw [List.map_cons, c]; rfl, fun e he => ?_⟩
    rcases List.mem_cons.mp he with rfl | he
    · exact ⟨.inr k, by rw [hk]; exact mixKind_str P w k t, hh⟩
    · exact d e he
theorem HasDct.mkF {P : Program} {w : World} {K : PySem.W.Frag} {x : Str} {ps : List (Str × Addr)} {a : Addr} {es : Array DictEntry} {ep : Nat} (h : PySem.W.nsIn K mainGlobals x = some (some (.ref a)))
    (b : K.lookup a = some { cls := .type "dict", data := .dict es ep }) (hs : (a == sysModules) = false) (c : FEnt w es.toList ps) (nd : (ps.map (·.1)).Nodup) : HasDct P w K x (fnKV ps) := by
  obtain ⟨vs, v1, v2, v3, v4⟩ := FEnt.pairs (P := P) c
  refine ⟨a, h, hs, vs, v1, fun hh hK => ⟨_, es, ep, hK a _ b, ⟨rfl, rfl, rfl⟩, rfl, fun e he => v4 e (Array.mem_toList_iff.mpr he), v2, ?_⟩⟩
  rw [v3]
  have : ps.map (fun p => (Sum.inr p.1 : Key)) = (ps.map (·.1)).map Sum.inr := by rw [List.map_map]; rfl
  rw [this]
  exact nodup_inr nd
/-! ### list(D), len(D) -/
def rListK (P : Program) (w : World) (K : PySem.W.Frag) : List V → Hp → VK → Prop := fun xs H Q => ∃ p kvs, xs = [.ref p] ∧ KDct P w K p kvs ∧ kvs.length ≤ 1000 ∧ ∀ q, H q = none → Q (.ref q) (upd H q (.lst (kvs.map fun kv => kV kv.1)))
theorem call_listK {X : Cx} (hc : X.calm = true) : CallR X (.type "list") (rListK X.prog X.w X.K) := by
  intro pins s σ H xs us Q I r h
  obtain ⟨p, kvs, rfl, ⟨hsys, vs, rel, dd⟩, hz, q⟩ := h
  obtain ⟨u, rfl, rx⟩ := vals1 r
  obtain rfl : u = Value.ref p := rx
  obtain ⟨ep, hat⟩ := (dd _ I.kIn).dictAt
  have hl : kvs.length = vs.length := Paired.length rel
  have hz2 : vs.length ≤ sizeLine := by rw [← hl]; exact Nat.le_trans hz (by decide)
  refine PySem.W.kdl_call (PySem.W.kdl_dict (knd := mixKind X.prog X.w) (kvs := vs) (ep := ep) hsys) (I.ok.hd hc) hat hz2 fun h2 tk acc c kk hS it => ?_
  have ok : ObjOk X.prog X.w (upd H s.heap.objs.size (.lst (kvs.map fun kv => kV kv.1))) h2 s.heap.objs.size (.lst (kvs.map fun kv => kV kv.1)) := by
    refine ⟨by rw [List.length_map, hl]; exact hz2, acc.toList, c, ?_, by rw [Array.toArray_toList]; exact hS⟩
    have el : acc.toList.length = acc.size := by simp
    refine vals_of_at (by rw [List.length_map, el, it.1, hl]) fun j x y h1 h2 => ?_
    obtain ⟨k, z, hkz, hi⟩ := it.2 j y (by rw [← Array.getElem?_toList]; exact h2)
    have e1 : (kvs.map (·.1))[j]? = some k := by
      rw [KV.keys rel, List.getElem?_map, hkz]
      rfl
    have e3 : (kvs.map fun kv => kV kv.1) = (kvs.map (·.1)).map kV := by rw [List.map_map]; rfl
    rw [e3, List.getElem?_map, e1] at h1
    cases h1
    exact keyIs_rel hi
  exact ⟨.ref s.heap.objs.size, _, I.laid kk (Nat.le_refl _) ok, rfl, q _ (I.hok.fresh (Nat.le_refl _))⟩
theorem call_lenDK {X : Cx} : CallR X (.builtin "len") (fun xs H Q => ∃ p kvs, xs = [V.ref p] ∧ KDct X.prog X.w X.K p kvs ∧ kvs.length ≤ 1000 ∧ Q (.int (kvs.length : Nat)) H) := by
  intro pins s σ H xs us Q I r h
  obtain ⟨p, kvs, rfl, ⟨hsys, vs, rel, dd⟩, hz, q⟩ := h
  obtain ⟨u, rfl, rx⟩ := vals1 r
  obtain rfl : u = Value.ref p := rx
  have hl : kvs.length = vs.length := Paired.length rel
  refine call_len_dict hsys (dd _ I.kIn) (by rw [← hl]; omega) ?_
  exact ⟨.int (kvs.length : Nat), H, I.tok _, ⟨_, by rw [hl]⟩, q⟩
end LK

set_option Elab.async false
set_option linter.all false
set_option maxRecDepth 100000
set_option maxHeartbeats 4000000
/-! for k in D, D a dict of the top; dicts of the top whose values are tuples of the top -/
namespace LK
open PySem PySem.Spec PyProof.Rows L2
/-- a dict of the top, its object written out -/
def KDctI (P : Program) (w : World) (K : PySem.W.Frag) (a : Addr) (kvs : List (Key × V)) : Prop := KDct P w K a kvs ∧ ∃ (es : Array DictEntry) (ep : Nat), K.lookup a = some { cls := .type "dict", data := .dict es ep }
def HasDctI (P : Program) (w : World) (K : PySem.W.Frag) (x : Str) (kvs : List (Key × V)) : Prop := ∃ a, PySem.W.nsIn K mainGlobals x = some (some (.ref a)) ∧ KDctI P w K a kvs
structure UseI (P : Program) (w : World) (K : PySem.W.Frag) (mg : Str → Option Value) (x : Str) (kvs : List (Key × V)) : Prop where
  ex : ∃ a, mg x = some (.ref a) ∧ KDctI P w K a kvs
theorem HasDctI.g {P : Program} {w : World} {K : PySem.W.Frag} {mg : Str → Option Value} {h : Heap} {x : Str} {kvs : List (Key × V)} (D : HasDctI P w K x kvs) (X : K.In h) (G : h.Ns mainGlobals mg) : UseI P w K mg x kvs := by
  obtain ⟨a, e, k⟩ := D
  exact ⟨a, PySem.W.mg_of X G e, k⟩
theorem HasDct.i {P : Program} {w : World} {K : PySem.W.Frag} {x : Str} {kvs : List (Key × V)} {a : Addr} {es : Array DictEntry} {ep : Nat} (D : HasDct P w K x kvs) (h : PySem.W.nsIn K mainGlobals x = some (some (.ref a)))
    (b : K.lookup a = some { cls := .type "dict", data := .dict es ep }) : HasDctI P w K x kvs := by
  obtain ⟨a', e, k⟩ := D
  rw [h] at e
  cases e
  exact ⟨a, h, k, es, ep, b⟩
/-- the keys of the dict of the top at a -/
def ItkK (a : Addr) (kvs : List (Key × V)) : It :=
  ⟨fun i _ => i < kvs.length, fun i H x H' => H' = H ∧ ∃ k v, kvs[i]? = some (k, v) ∧ x = kV k, fun i _ => kvs.length ≤ i⟩
theorem KDctI.at {P : Program} {w : World} {K : PySem.W.Frag} {a : Addr} {kvs : List (Key × V)} (D : KDctI P w K a kvs) : ∃ (es : Array DictEntry) (ep : Nat) (vs : List (Key × Value)), (a == sysModules) = false ∧ KV kvs vs ∧
    ∀ h : Heap, K.In h → es.size = kvs.length ∧ h.get? a = some { cls := .type "dict", data := .dict es ep } ∧ h.DictAt (mixKind P w) a vs ep := by
  obtain ⟨⟨hs, vs, rel, dd⟩, es, ep, lk⟩ := D
  refine ⟨es, ep, vs, hs, rel, fun h hK => ?_⟩
  obtain ⟨o, es', ep', ho, hx, hd, r⟩ := dd h hK
  have e := hK a _ lk
  rw [ho] at e
  cases e
  cases hd
  have l1 := r.2.1.length
  have l2 : kvs.length = vs.length := Paired.length rel
  rw [Array.length_toList] at l1
  exact ⟨by omega, ho, _, _, ho, hx, rfl, r⟩
section
variable {P : Program} {w : World} {K : PySem.W.Frag} {tg : Expr} {a : Addr} {es : Array DictEntry} {ep : Nat} {kvs : List (Key × V)} {vs : List (Key × Value)}
theorem turn_keysK (it : Addr) (kv : KV kvs vs) (at_ : ∀ h : Heap, K.In h → es.size = kvs.length ∧ h.get? a = some { cls := .type "dict", data := .dict es ep } ∧ h.DictAt (mixKind P w) a vs ep) :
    Turn P w K tg (ItkK a kvs) [it] it (fun i h => h.IsKeyIter it a i kvs.length ep) where
  mem := by simp
  obj := fun i h st b hb => by
    have e : b = it := by simpa using hb
    subst e
    obtain ⟨oi, e, c, dd⟩ := st
    exact ⟨oi, e, fun v z => by rw [dd] at z; cases z⟩
  keep := fun i h h' st k => st.at fun oi e => k it (by simp) oi e
  item := by
    intro X hP hw hK hc i pins s σ H E I hf st hg
    subst hP hw hK
    obtain ⟨f0, f1, f2, f3, f4, f5⟩ := hf it (by simp)
    obtain ⟨hsz, hgd, hm⟩ := at_ _ I.kIn
    obtain ⟨⟨k, v⟩, hkv⟩ : ∃ p, kvs[i]? = some p := ⟨kvs[i], List.getElem?_eq_getElem hg⟩
    obtain ⟨u, hu, ru⟩ := kv_get kv hkv
    have hl : kvs.length = vs.length := Paired.length kv
    rw [hl] at st
    refine wpAny_pyNext_dict_item st hm hu fun key h' hkey st' sb => ?_
    have I1 : Inv X pins σ H { s with heap := h' } := I.turned (t' := s.toks) (fun b ob hb e => (sb.2 b hb).trans e) f0 f1 f3 f4 f5
    obtain ⟨oi, e, c, dd⟩ := id st'
    refine ⟨key, rfl, go_of (s := { s with heap := h' }) e c dd (by decide) ⟨kV k, H, I1, relV_key (show keyIs k key = true from hkey), ⟨rfl, k, v, hkv, rfl⟩, ?_, fun b hb => (hf b hb).1⟩⟩
    show h'.IsKeyIter it a (i + 1) kvs.length _
    rw [hl]
    exact st'
  done := by
    intro X hP hw hK hc i pins s σ H E I hf st hg
    subst hP hw hK
    obtain ⟨f0, f1, f2, f3, f4, f5⟩ := hf it (by simp)
    obtain ⟨hsz, hgd, hm⟩ := at_ _ I.kIn
    exact next_key_end (I.ok.hd hc) st hgd rfl hsz hg fun h' eb => ⟨rfl, I.turned (t' := s.toks) (fun b ob hb e => eb b ob hb e) f0 f1 f3 f4 f5⟩
  self := fun A i s Q E st h => wpAny_pyIter_keyiter st h
end
def iKeysK (P : Program) (w : World) (K : PySem.W.Frag) (td : TE) : TI := fun σ H R => td σ H fun x H1 => ∃ a kvs, x = .ref a ∧ KDctI P w K a kvs ∧ R (ItkK a kvs) H1
theorem pi_keysK {X : Cx} {tg e : Expr} {td : TE} (he : PE X e td) : PI X tg e (iKeysK X.prog X.w X.K td) := by
  refine ⟨fun pins s σ H R I h => ?_⟩
  refine thn (he.run pins s σ H _ I h) fun u s1 ⟨x, H1, I1, rx, a, kvs, ex, D, q⟩ => ?_
  subst ex
  obtain rfl : u = Value.ref a := rx
  obtain ⟨es, ep, vs, hs, kv, at_⟩ := D.at
  obtain ⟨hsz, hgd, hm⟩ := at_ _ I1.kIn
  refine iter_keys hs hgd ⟨rfl, rfl, rfl⟩ rfl (pi_one (tk := s1.toks) I1 _ (turn_keysK _ kv at_) ⟨_, Heap.get?_push_size _ rfl, rfl, ?_⟩ q)
  rw [hsz] <;> rfl
theorem walk_keysK {a : Addr} {kvs : List (Key × V)} : Walk (ItkK a kvs) kvs.length (fun _ => True) (fun i H x H' => H' = H ∧ ∃ k v, kvs[i]? = some (k, v) ∧ x = kV k) :=
  ⟨fun _ _ hi _ => hi, fun _ _ => Nat.le_refl _, fun _ _ _ _ _ _ y => y⟩
/-! ### dicts of the top whose values are tuples of the top -/
inductive TEnt (w : World) (K : PySem.W.Frag) : List DictEntry → List (Str × List V) → List (Str × Addr) → Prop
  | nil : TEnt w K [] [] []
  | cons {e : DictEntry} {es : List DictEntry} {k : Str} {a : Addr} {xs : List V} {ps : List (Str × List V)} {qs : List (Str × Addr)} {t : Tok} {od : Option Addr} {its : Array Value} {n : Nat} {sl : Array (Option Value)} :
      e.key = .str k t → e.hash = hashStr w k → e.val = .ref a → K.lookup a = some ⟨.type "tuple", od, .seq its n, sl⟩ → its.size ≤ sizeLine → Vals xs its.toList → TEnt w K es ps qs → TEnt w K (e :: es) ((k, xs) :: ps) ((k, a) :: qs)
theorem TEnt.f {w : World} {K : PySem.W.Frag} : ∀ {es : List DictEntry} {ps : List (Str × List V)} {qs : List (Str × Addr)}, TEnt w K es ps qs → FEnt w es qs ∧ ps.map (·.1) = qs.map (·.1) ∧ Paired (fun q p => KTup K q.2 p.2) qs ps
  | _, _, _, .nil => ⟨.nil, rfl, .nil⟩
  | _, _, _, .cons h1 h2 h3 h4 h5 h6 r => by
    obtain ⟨a, b, c⟩ := r.f
    exact ⟨.cons h1 h2 h3 a, by rw [List.map_cons, List.map_cons, b], .cons ⟨_, _, _, _, h4, h5, h6⟩ c⟩
/-- the dict x of the top: each key's value is a tuple of the top -/
def HasTupD (P : Program) (w : World) (K : PySem.W.Frag) (x : Str) (ps : List (Str × List V)) : Prop := ∃ qs : List (Str × Addr), HasDctI P w K x (fnKV qs) ∧ ps.map (·.1) = qs.map (·.1) ∧ Paired (fun q p => KTup K q.2 p.2) qs ps
structure UseT (P : Program) (w : World) (K : PySem.W.Frag) (mg : Str → Option Value) (x : Str) (ps : List (Str × List V)) : Prop where
  ex : ∃ qs : List (Str × Addr), UseI P w K mg x (fnKV qs) ∧ ps.map (·.1) = qs.map (·.1) ∧ Paired (fun q p => KTup K q.2 p.2) qs ps
theorem HasTupD.g {P : Program} {w : World} {K : PySem.W.Frag} {mg : Str → Option Value} {h : Heap} {x : Str} {ps : List (Str × List V)} (D : HasTupD P w K x ps) (X : K.In h) (G : h.Ns mainGlobals mg) : UseT P w K mg x ps := by
  obtain ⟨qs, a, b, c⟩ := D
  exact ⟨qs, a.g X G, b, c⟩
theorem HasTupD.mk' {P : Program} {w : World} {K : PySem.W.Frag} {x : Str} {ps : List (Str × List V)} {qs : List (Str × Addr)} {a : Addr} {es : Array DictEntry} {ep : Nat} (h : PySem.W.nsIn K mainGlobals x = some (some (.ref a)))
    (b : K.lookup a = some { cls := .type "dict", data := .dict es ep }) (hs : (a == sysModules) = false) (c : TEnt w K es.toList ps qs) (nd : (ps.map (·.1)).Nodup) : HasTupD P w K x ps := by
  obtain ⟨c1, c2, c3⟩ := c.f
  exact ⟨qs, (HasDct.mkF (P := P) h b hs c1 (c2 ▸ nd)).i h b, c2, c3⟩
end LK
namespace LK
open PySem PySem.Spec PyProof.Rows L2
/-! a name of the top that is bound to a def of another name -/
def HasFnN (K : PySem.W.Frag) (x y : Str) (st : Stmt) : Prop := ∃ (f : Addr) (oc : Value) (od an : Option Addr) (kV doc pm cdv ct : Value) (osl : Array (Option Value)),
  PySem.W.nsIn K mainGlobals x = some (some (.ref f)) ∧ K.lookup f = some ⟨oc, od, .func (PySem.W.fnOf y y (defArgs st) (defBody st) (defScope st) .none kV doc pm an cdv ct), osl⟩ ∧
  PySem.W.codeIn K cdv y = true ∧ PySem.W.keepIn K (.ref f) = true
theorem HasFnN.mk' {K : PySem.W.Frag} {x y : Str} {st : Stmt} {f : Addr} {oc : Value} {od an : Option Addr} {kV doc pm cdv ct : Value} {osl : Array (Option Value)} (a : PySem.W.nsIn K mainGlobals x = some (some (.ref f)))
    (b : K.lookup f = some ⟨oc, od, .func (PySem.W.fnOf y y (defArgs st) (defBody st) (defScope st) .none kV doc pm an cdv ct), osl⟩) (c : PySem.W.codeIn K cdv y = true) (d : PySem.W.keepIn K (.ref f) = true) : HasFnN K x y st :=
  ⟨f, oc, od, an, kV, doc, pm, cdv, ct, osl, a, b, c, d⟩
theorem HasFn.n {K : PySem.W.Frag} {x : Str} {st : Stmt} (F : HasFn K x st) : HasFnN K x x st := F
section
variable {P : Program} {w : World} {K : PySem.W.Frag} {mg : Str → Option Value} {base h : Heap} {CX : CXT}
theorem mk_useY {x y : Str} {st : Stmt} {k : Nat} {ps : List Str} {sp : Sp} (F : HasFnN K x y st) (X : K.In h) (G : h.Ns mainGlobals mg)
    (hb : ∀ (kV doc pm : Value) (an : Option Addr) (cdv ct : Value) (us : List Value), us.length = ps.length → bindArgs (PySem.W.fnOf y y (defArgs st) (defBody st) (defScope st) .none kV doc pm an cdv ct) ⟨us, []⟩ = pure (ps.zip us))
    (ok : ∀ (f : Addr) (fd : FuncData), Fun K y y st f fd → FnG P w K mg base CX k f fd ps sp) : Use P w K mg base CX x k ps sp := by
  obtain ⟨f, oc, od, an, kV, doc, pm, cdv, ct, osl, e, l, c, kp⟩ := F
  have Fn := fun_mk (st := st) l c kp
  exact ⟨f, _, ok f _ Fn, PySem.W.mg_of X G e, kp, Fn.binds hb⟩
/-- defs that call one another: a promise by depth; at each depth all of them, from the depth before -/
theorem mk_useG {x y : Str} {st : Stmt} {ps : List Str} (sp : Nat → Sp) (k0 kn : Nat) (F : HasFnN K x y st) (X : K.In h) (G : h.Ns mainGlobals mg)
    (hb : ∀ (kV doc pm : Value) (an : Option Addr) (cdv ct : Value) (us : List Value), us.length = ps.length → bindArgs (PySem.W.fnOf y y (defArgs st) (defBody st) (defScope st) .none kV doc pm an cdv ct) ⟨us, []⟩ = pure (ps.zip us))
    (h0 : ∀ vs H Q E, ¬ sp 0 vs H Q E)
    (ok : ∀ (n : Nat), Use P w K mg base CX x (k0 + kn * n) ps (sp n) → ∀ (f : Addr) (fd : FuncData), Fun K y y st f fd → FnG P w K mg base CX (k0 + kn * (n + 1)) f fd ps (sp (n + 1))) : ∀ n, Use P w K mg base CX x (k0 + kn * n) ps (sp n)
  | 0 => by
    obtain ⟨f, oc, od, an, kV, doc, pm, cdv, ct, osl, e, l, c, kp⟩ := F
    have Fn := fun_mk (st := st) l c kp
    exact ⟨f, _, ⟨fun vs H Q E s => absurd s (h0 vs H Q E), fun _ _ _ _ _ _ vs Q E _ _ _ _ _ s => absurd s (h0 _ _ _ _)⟩, PySem.W.mg_of X G e, kp, Fn.binds hb⟩
  | n + 1 => mk_useY F X G hb (ok n (mk_useG sp k0 kn F X G hb h0 ok n))
end
end LK
namespace LK
open PySem PySem.Spec PyProof.Rows L2
/-! a nested tuple of the top, as data -/
def HasDat (K : PySem.W.Frag) (x : Str) (d : PyData) : Prop := ∃ a, PySem.W.nsIn K mainGlobals x = some (some (.ref a)) ∧ ∀ H, Dt K H (.ref a) d
def GDat (K : PySem.W.Frag) (mg : Str → Option Value) (x : Str) (d : PyData) : Prop := ∃ a, mg x = some (.ref a) ∧ ∀ H, Dt K H (.ref a) d
theorem HasDat.g {K : PySem.W.Frag} {mg : Str → Option Value} {h : Heap} {x : Str} {d : PyData} (i : HasDat K x d) (X : K.In h) (G : h.Ns mainGlobals mg) : GDat K mg x d := by
  obtain ⟨a, e, r⟩ := i
  exact ⟨a, PySem.W.mg_of X G e, r⟩
theorem KTup.dt {K : PySem.W.Frag} {a : Addr} {xs : List V} {ds : List PyData} (h : KTup K a xs) (H : Hp) (d : DtAll K H xs ds) : Dt K H (.ref a) (.tuple ds) := .tup (h.sq H) d
theorem HasDat.mk2 {K : PySem.W.Frag} {x s z : Str} {a b : Addr} {od od2 : Option Addr} {its its2 : Array Value} {n n2 : Nat} {sl sl2 : Array (Option Value)} (h : PySem.W.nsIn K mainGlobals x = some (some (.ref a)))
    (h1 : K.lookup a = some ⟨.type "tuple", od, .seq its n, sl⟩) (z1 : its.size ≤ sizeLine) (v1 : Vals [.str s, .ref b] its.toList) (h2 : K.lookup b = some ⟨.type "tuple", od2, .seq its2 n2, sl2⟩) (z2 : its2.size ≤ sizeLine) (v2 : Vals [.str z] its2.toList) :
    HasDat K x (.tuple [.str s, .tuple [.str z]]) :=
  ⟨a, h, fun H => KTup.dt ⟨_, _, _, _, h1, z1, v1⟩ H (.cons (.str _) (.cons (KTup.dt ⟨_, _, _, _, h2, z2, v2⟩ H (.cons (.str _) .nil)) .nil))⟩
def tGD (K : PySem.W.Frag) (d : PyData) : TE := fun _ H Q => ∀ v, (∀ H, Dt K H v d) → Q v H
theorem pe_globD {X : Cx} {x : Str} {pos : Pos} {d : PyData} (h : GDat X.K X.mg x d) (hg : Gl X x) (hd : (x == ("__debug__" : Str)) = false := by decide) : PE X (.Name x pos) (tGD X.K d) := by
  obtain ⟨a, e, r⟩ := h
  exact ⟨fun pins s σ H Q I q => (pe_glob (v := .ref a) hg e rfl hd).run pins s σ H Q I (q (.ref a) r)⟩
end LK

set_option linter.all false
namespace LK
section
open PySem PySem.Spec PyProof.Rows L2
theorem FnG.up {P : Program} {w : World} {K : PySem.W.Frag} {mg : Str → Option Value} {base : Heap} {CX : CXT} {k k' : Nat} {f : Addr} {fd : FuncData} {ps : List Str} {sp : Sp} (F : FnG P w K mg base CX k f fd ps sp) (h : k ≤ k') : FnG P w K mg base CX k' f fd ps sp :=
  ⟨F.len, fun A outer s H args us vs Q E hr => F.run A outer s H args us vs Q E (hr.mono h)⟩
theorem Use.up {P : Program} {w : World} {K : PySem.W.Frag} {mg : Str → Option Value} {base : Heap} {CX : CXT} {k k' : Nat} {x : Str} {ps : List Str} {sp : Sp} (U : Use P w K mg base CX x k ps sp) (h : k ≤ k') : Use P w K mg base CX x k' ps sp := by
  obtain ⟨f, fd, F, r⟩ := U.ex
  exact ⟨f, fd, F.up h, r⟩
theorem HasDctI.mkF' {P : Program} {w : World} {K : PySem.W.Frag} {x : Str} {qs : List (Str × Addr)} {a : Addr} {es : Array DictEntry} {ep : Nat} (h : PySem.W.nsIn K mainGlobals x = some (some (.ref a)))
    (b : K.lookup a = some { cls := .type "dict", data := .dict es ep }) (hs : (a == sysModules) = false) (c : FEnt w es.toList qs) (nd : (qs.map (·.1)).Nodup) : HasDctI P w K x (fnKV qs) :=
  (HasDct.mkF (P := P) h b hs c nd).i h b
end
end LK

set_option Elab.async false
set_option linter.all false
set_option maxRecDepth 100000
set_option maxHeartbeats 4000000
/-! list(reversed(x)) of a tuple -/
namespace LK
open PySem PySem.Spec PyProof.Rows L2 SX
theorem nolen_rt : typeLookup (.type "reversed") "__len__" = pure none := by rw [typeLookup_type, builtinLookup_eq_fast]; kernel_rfl
theorem slot_rt_hint : Slot "reversed" "__length_hint__" "reversed.__length_hint__" :=
  .of (owner := "reversed") (n := "__length_hint__") (by rw [typeLookup_type, builtinLookup_eq_fast]; kernel_rfl) (by decide +kernel) (by decide +kernel) (by decide +kernel)
    (by first | exact .inl (by decide +kernel) | exact .inr (by decide +kernel)) (by rw [isSubtype_type]; kernel_rfl)
theorem entry_rt_hint : entryFor table "reversed.__length_hint__" = some Builtin.«reversed.__length_hint__» := entryFor_of_tree (by kernel_rfl)
theorem args_rt_hint (a : Value) : argsOk "reversed.__length_hint__" ⟨[a], []⟩ := by
  unfold argsOk; rw [signature?_of (id := "reversed.__length_hint__") (n := ['_', '_', 't', 'n', 'i', 'h', '_', 'h', 't', 'g', 'n', 'e', 'l', '_', '_']) (o := ['d', 'e', 's', 'r', 'e', 'v', 'e', 'r']) (by kernel_rfl) RT.owner_rt]; kernel_rfl
section
variable {prog : Program} {w : World} {A : Around} {E : Value → Shared → Prop} {s : Shared}
theorem hint_rt {it t : Addr} {items : Array Value} {Q : Bool → Shared → Prop} (hit : RT.IsRt s.heap it t ((items.size : Int) - 1)) (ht : IsTup s.heap t items) (hn : items.size ≤ sizeLine)
    (hQ : ∀ b tk, Q b { s with toks := tk }) : wpAny (model prog w) A (Builtin.List.listLengthHint (.ref it)) Q E s := by
  have hT : s.TypeIs (.ref it) "reversed" := hit.typeIs
  obtain ⟨o, ho, hc, hd⟩ := id hit
  unfold Builtin.List.listLengthHint
  refine wpAny_bind (wpAny_specialOf hT nolen_rt ?_)
  show wpAny _ _ (specialOf (Value.ref it) (Str.ofString "__length_hint__") >>= _) _ _ _
  refine wpAny_bind (wpAny_specialOf hT slot_rt_hint.lookup ?_)
  generalize hid : ("reversed.__length_hint__" : String) = id0
  wp_delta
  rw [show splitId id0 = some ("reversed", "__length_hint__") from by subst hid; decide +kernel]
  subst hid
  refine wpAny_bind (wpAny_isInstance (b := true) hT (by rw [isSubtype_type]; kernel_rfl) ?_)
  rw [if_neg (by decide)]
  rw [if_neg (by decide +kernel)]
  refine wpAny_bind (wpAny_rule ?_)
  refine wpAny_bind (wpAny_of_eq (slot_rt_hint.bind (.ref it)) ?_)
  refine wpAny_bind (wpAny_attempt (wpAny_call_entry slot_rt_hint hT entry_rt_hint ?_ (args_rt_hint _)))
  unfold Builtin.«reversed.__length_hint__»
  refine wpAny_bind (wpAny_of_eq (a := Value.ref it) rfl ?_)
  refine wpAny_bind (wpAny_field ho hd (x := .ref t) rfl ?_)
  rw [if_neg (show ¬ ((Value.ref t == Value.none) = true) from Bool.false_ne_true)]
  refine wpAny_bind (len_tuple ht (by rw [sizeLine_eq] at hn; omega) ?_)
  refine wpAny_bind (wpAny_of_eq (a := some ((items.size : Nat) : Int)) rfl ?_)
  refine wpAny_bind (wpAny_field (s := { s with toks := s.toks + 1 + 1 }) ho hd (x := rawInt ((items.size : Int) - 1)) rfl ?_)
  show wpAny _ _ (if ((items.size : Nat) : Int) < (items.size : Int) - 1 + 1 then _ else _) _ _ _
  rw [if_neg (by omega)]
  have e1 : (items.size : Int) - 1 + 1 = ((items.size : Nat) : Int) := by omega
  rw [e1]
  have hz := hn
  rw [sizeLine_eq] at hz
  unfold retInt
  refine wpAny_bind (wpAny_mkInt ?_)
  refine wpAny_pure ⟨_, rfl, ?_⟩
  dsimp only
  have f0 : ¬ (((items.size : Nat) : Int) < 0) := Int.not_lt.mpr (Int.natCast_nonneg _)
  have f1 : Builtin.List.listFitsIndex ((items.size : Nat) : Int) = true := by
    unfold Builtin.List.listFitsIndex
    rw [Bool.and_eq_true]
    exact ⟨decide_eq_true (by omega), decide_eq_true (by omega)⟩
  have f2 : Builtin.List.listTooLong ((items.size : Nat) : Int).toNat = false := by
    unfold Builtin.List.listTooLong
    rw [Int.toNat_natCast]
    exact decide_eq_false (Nat.not_lt.mpr hn)
  have f3 : ∀ tk, asInt? (Value.int ((items.size : Nat) : Int) tk) = pure (some ((items.size : Nat) : Int)) := fun _ => rfl
  generalize ((items.size : Nat) : Int) = N at f0 f1 f2 f3 ⊢
  rw [f3]
  refine wpAny_bind (wpAny_pure ?_)
  dsimp only
  rw [f1, if_neg (show ¬ ((!true) = true) by decide), if_neg f0, f2, if_neg Bool.false_ne_true]
  exact wpAny_pure (hQ _ _)
theorem walks_rt {t it : Addr} {items : Array Value} (hh : A.handled = none) (hne : t ≠ it) (hn : items.size ≤ sizeLine) :
    Walks prog w A it [it, t] [it] items.size (fun i v => items[items.size - 1 - i]? = some v) (fun i h => i ≤ items.size ∧ RT.IsRt h it t ((items.size : Int) - 1 - (i : Nat)) ∧ IsTup h t items) where
  sub := fun b hb => by rw [List.mem_singleton.mp hb]; simp
  frame := fun i h h' st hk => ⟨st.1, st.2.1.at fun o e => hk it (by simp) o e, let ⟨o, ho, r⟩ := st.2.2; ⟨o, hk t (by simp) o ho, r⟩⟩
  item := fun i s Q E hi st hQ => by
    have e1 : (items.size : Int) - 1 - ((i : Nat) : Int) = ((items.size - 1 - i : Nat) : Int) := by omega
    have st2 := st.2.1
    rw [e1] at st2
    have hx : items[items.size - 1 - i]? = some (items[items.size - 1 - i]'(by omega)) := Array.getElem?_eq_getElem (by omega)
    refine RT.next_rt_item st2 st.2.2 hx hn fun h' hit' sb => ?_
    have e2 : ((items.size - 1 - i : Nat) : Int) - 1 = (items.size : Int) - 1 - ((i + 1 : Nat) : Int) := by omega
    rw [e2] at hit'
    exact hQ _ h' _ hx ⟨hi, hit', let ⟨o, ho, r⟩ := st.2.2; ⟨o, (sb.2 t hne).trans ho, r⟩⟩ fun b o hb e => (sb.2 b (fun h => hb (by simp [h]))).trans e
  done := fun s Q E st hQ => by
    have st2 := st.2.1
    rw [show (items.size : Int) - 1 - ((items.size : Nat) : Int) = -1 by omega] at st2
    exact RT.next_rt_end hh st2 fun h' he => hQ h' s.toks fun b o hb e => he b o (fun h => hb (by simp [h])) e
  self := fun i s Q E st h => RT.iter_rt st.2.1 h
theorem extend_rt {R : Result → Shared → Prop} {it t S : Addr} {items : Array Value} (res : Value) (c₀ : Nat) (hh : A.handled = none) (hit : RT.IsRt s.heap it t ((items.size : Int) - 1)) (ht : IsTup s.heap t items) (hne : t ≠ it) (hn : items.size ≤ sizeLine) (hSi : S ≠ it) (hSt : S ≠ t)
    (hS : s.heap.get? S = some { cls := .type "list", data := .seq #[] c₀ })
    (hR : ∀ h' tk acc' c', (∀ b o, b ≠ S → b ≠ it → s.heap.get? b = some o → h'.get? b = some o) → h'.get? S = some { cls := .type "list", dict := none, data := .seq acc' c', slots := #[] } → ItemsOf (fun i v => items[items.size - 1 - i]? = some v) acc' items.size → R (.ok (.ret res)) { s with heap := h', toks := tk }) :
    wpAny (model prog w) A.in1 (Builtin.List.listExtendWith (.ref S) (.ref it) res)
      (fun fin s' => match fin with | .done f => R (.ok f) s' | .again c' => c'.quiet = true ∧ codeAny (model prog w) A c' R s') (fun e s' => R (.error e) s') s := by
  have W := walks_rt (prog := prog) (w := w) (A := A.in1) (items := items) hh hne hn
  have hSf : S ∉ [it, t] := by simp only [List.mem_cons, List.not_mem_nil, or_false, not_or]; exact ⟨hSi, hSt⟩
  have key : ∀ (h : Heap) (c₁ tk : Nat), (∀ b o, b ≠ S → s.heap.get? b = some o → h.get? b = some o) →
      h.get? S = some { cls := .type "list", data := .seq #[] c₁ } → codeAny (model prog w) A (.builtin "list.extend.loop" ⟨[.ref S, .ref it, res], []⟩) R { s with heap := h, toks := tk } := by
    intro h c₁ tk hk hS₁
    have hst : (fun (i : Nat) (h : Heap) => i ≤ items.size ∧ RT.IsRt h it t ((items.size : Int) - 1 - (i : Nat)) ∧ IsTup h t items) 0 h :=
      ⟨Nat.zero_le _, by rw [show (items.size : Int) - 1 - ((0 : Nat) : Int) = (items.size : Int) - 1 by omega]; exact hit.at fun o e => hk it o (Ne.symm hSi) e, let ⟨o, ho, r⟩ := ht; ⟨o, hk t o (Ne.symm hSt) ho, r⟩⟩
    refine codeAny_extend_loopS W.toS hn S hSf res items.size 0 _ #[] c₁ rfl (Nat.zero_le _) hst hS₁ (ItemsOf.nil _) fun s' acc' c' hm hS' hacc => ?_
    rw [Moved.eq_with hm]
    refine hR s'.heap s'.toks acc' c' (fun b o hb hb2 e => hm.heap b o (fun hmem => ?_) (hk b o hb e)) hS' hacc
    rcases List.mem_cons.mp hmem with e' | hmem
    · exact hb e'
    · exact hb2 (List.mem_singleton.mp hmem)
  have hT : s.TypeIs (.ref it) "reversed" := hit.typeIs
  have h1 : Builtin.List.listSameRef (.ref S) (.ref it) = false := by simp [Builtin.List.listSameRef, hSi]
  unfold Builtin.List.listExtendWith
  refine wpAny_bind (wpAny_typeOf hT ?_)
  rw [if_neg (by rw [h1]; decide)]
  refine wpAny_bind (RT.iter_rt hit ?_)
  refine wpAny_bind (wpAny_holding (hint_rt hit ht hn fun b tk => ?_))
  refine wpAny_ite_split (fun _ => ?_) (fun _ => wpAny_pure ⟨plainId_quiet PySem.F.plain_extend_loop _, key _ c₀ _ (fun b o _ e => e) hS⟩)
  refine wpAny_bind (wpAny_rule ?_)
  refine wpAny_bind ?_
  show wpAny _ _ (updateSeq S (·.push .none) >>= fun _ => updateSeq S (·.pop)) _ _ _
  refine wpAny_bind (wpAny_updateSeq (s := { s with toks := tk }) hS rfl ?_)
  have hS₂ := Heap.get?_update_self (Obj.mapSeq (·.push Value.none)) hS rfl
  refine wpAny_updateSeq (hz := by seq_fits) hS₂ rfl ?_
  have hS₃ := Heap.get?_update_self (Obj.mapSeq (·.pop)) hS₂ rfl
  refine wpAny_pure ⟨plainId_quiet PySem.F.plain_extend_loop _, key _ _ _ (fun b o hb e => ?_) hS₃⟩
  exact (Heap.get?_update_other _ _ (Ne.symm hb)).trans ((Heap.get?_update_other _ _ (Ne.symm hb)).trans e)
theorem call_listRt {it t : Addr} {items : Array Value} {Q : Value → Shared → Prop} (hh : A.handled = none) (hit : RT.IsRt s.heap it t ((items.size : Int) - 1)) (ht : IsTup s.heap t items) (hne : t ≠ it) (hn : items.size ≤ sizeLine)
    (hQ : ∀ h' tk acc' c', (∀ b o, b ≠ it → s.heap.get? b = some o → h'.get? b = some o) → h'.get? s.heap.objs.size = some { cls := .type "list", dict := none, data := .seq acc' c', slots := #[] } → ItemsOf (fun i v => items[items.size - 1 - i]? = some v) acc' items.size → Q (.ref s.heap.objs.size) { s with heap := h', toks := tk }) :
    wpAny (model prog w) A (call (.type "list") [.ref it]) Q E s := by
  refine callType_codes (Q₁ := fun obj s₁ => obj = .ref s.heap.objs.size ∧ s₁ = { s with heap := s.heap.push { cls := .type "list", data := .seq #[] } }) PySem.F.called_list (PySem.F.typeCall_list_1 _) PySem.F.entry_list_init
    (code_list_new _ ⟨rfl, rfl⟩) fun obj s₁ h₁ => ?_
  obtain ⟨rfl, rfl⟩ := h₁
  have hS : (s.heap.push { cls := .type "list", data := .seq #[] }).get? s.heap.objs.size = some { cls := .type "list", data := .seq #[] } := Heap.get?_push_size _ rfl
  have li : it < s.heap.objs.size := let ⟨_, e, _⟩ := hit; Heap.lt_size e
  have lt : t < s.heap.objs.size := let ⟨_, e, _⟩ := ht; Heap.lt_size e
  refine ⟨⟨_, hS, rfl⟩, PySem.F.args_list_init_2 _ _, ?_⟩
  show wpAny _ _ (do let old ← Builtin.List.listItems (.ref s.heap.objs.size); Builtin.List.listUpdate (.ref s.heap.objs.size) (fun _ => #[]); letGo old.toList.reverse; Builtin.List.listExtendWith (.ref s.heap.objs.size) (.ref it) .none) _ _ _
  refine wpAny_bind ?_
  unfold Builtin.List.listItems
  refine wpAny_bind (wpAny_seqItems hS rfl (wpAny_pure ?_))
  show wpAny _ _ (updateSeq s.heap.objs.size (fun _ => #[]) >>= fun _ => letGo (#[] : Array Value).toList.reverse >>= fun _ => Builtin.List.listExtendWith (.ref s.heap.objs.size) (.ref it) .none) _ _ _
  refine wpAny_bind (wpAny_updateSeq hS rfl ?_)
  have hS₂ := Heap.get?_update_self (Obj.mapSeq (fun _ => (#[] : Array Value))) hS rfl
  have oth : ∀ b o, b ≠ s.heap.objs.size → s.heap.get? b = some o → ((s.heap.push { cls := .type "list", data := .seq #[] }).update s.heap.objs.size (Obj.mapSeq (fun _ => (#[] : Array Value)))).get? b = some o :=
    fun b o hb e => (Heap.get?_update_other _ _ (Ne.symm hb)).trans (Heap.get?_push_of_some _ e)
  refine wpAny_bind (wpAny_letGo ?_)
  refine extend_rt (A := A.in1) .none _ hh (hit.at fun o e => oth it o (Nat.ne_of_lt li) e) (let ⟨o, ho, r⟩ := ht; ⟨o, oth t o (Nat.ne_of_lt lt) ho, r⟩) hne hn (Nat.ne_of_gt li) (Nat.ne_of_gt lt) hS₂ fun h' tk acc' c' hk hS' hacc => ?_
  exact ⟨rfl, hQ h' tk acc' c' (fun b o hb e => hk b o (Nat.ne_of_lt (Heap.lt_size e)) hb (oth b o (Nat.ne_of_lt (Heap.lt_size e)) e)) hS' hacc⟩
end
def tListRev (K : PySem.W.Frag) (te : TE) : TE := fun σ H Q => te σ H fun v H1 => ∃ (a : Addr) (xs : List V), v = .ref a ∧ SqT K H1 a xs ∧ ∀ q, H1 q = none → Q (.ref q) (L2.upd H1 q (.lst xs.reverse))
theorem pe_listRevT {X : Cx} {e : Expr} {te : TE} {p p2 pos pos2 : Pos} (hc : X.calm = true) (hg : Gl X "list") (hm : X.mg "list" = none) (hg2 : Gl X "reversed") (hm2 : X.mg "reversed" = none) (he : PE X e te)
    (hs : starEach [e] X.env = (false, eval e X.env) :: starEach [] X.env := by rfl)
    (hs2 : starEach [.Call (.Name "reversed" p2) [e] [] pos2] X.env = (false, eval (.Call (.Name "reversed" p2) [e] [] pos2) X.env) :: starEach [] X.env := by rfl) :
    PE X (.Call (.Name "list" p) [.Call (.Name "reversed" p2) [e] [] pos2] [] pos) (tListRev X.K te) := by
  refine ⟨fun pins s σ H Q I h => ?_⟩
  refine Call_ (ld_blt I hg hm PyProof.Rows.boot_list (PyProof.Rows.callWith_type1 (args_cons (Call_ (ld_blt I hg2 hm2 PyProof.Rows.boot_reversed (PyProof.Rows.callWith_type1 (args_cons (thn (he.run pins s σ H _ I h) fun u s1 ⟨v, H1, I1, r1, q1⟩ => args_nil ?_) hs) hs rfl))) hs2) hs2 rfl))
  obtain ⟨a, xs, ev, hq, q⟩ := q1
  subst ev
  obtain rfl : u = Value.ref a := r1
  obtain ⟨its, rv, p', hz⟩ := I1.tuple hq
  have hn : its.toArray.size ≤ sizeLine := by rw [List.size_toArray, ← rv.length]; exact hz
  refine RT.call_reversed_tup p' (fun A E Q k => len_tuple p' (by rw [sizeLine_eq] at hn; omega) k) (args_nil ?_)
  have k0 : ∀ b o, s1.heap.get? b = some o → (s1.heap.push (RT.rtObj a ((its.toArray.size : Int) - 1))).get? b = some o := fun b o e => Heap.get?_push_of_some _ e
  have I2 : Inv X pins σ H1 { s1 with heap := s1.heap.push (RT.rtObj a ((its.toArray.size : Int) - 1)), toks := s1.toks + 1 + 1 } := I1.kept (t' := s1.toks + 1 + 1) k0
  obtain ⟨f0, f1, f2, f3, f4, f5⟩ := I1.fpOk (H' := H1) (b := s1.heap.objs.size) (Nat.le_refl _) (I1.hok.fresh (Nat.le_refl _))
  obtain ⟨oa, hoa, _⟩ := id p'
  have hne : a ≠ s1.heap.objs.size := Nat.ne_of_lt (Heap.lt_size hoa)
  refine call_listRt (s := { s1 with heap := s1.heap.push (RT.rtObj a ((its.toArray.size : Int) - 1)), toks := s1.toks + 1 + 1 }) (I1.ok.hd hc) ⟨_, Heap.get?_push_size _ rfl, rfl, rfl⟩ (p'.keeps k0) hne hn fun h' tk acc c hk hS' hi => ?_
  have szp : (s1.heap.push (RT.rtObj a ((its.toArray.size : Int) - 1))).objs.size = s1.heap.objs.size + 1 := Heap.size_push ..
  have kk : ∀ b o, s1.heap.get? b = some o → h'.get? b = some o := fun b o e => hk b o (Nat.ne_of_lt (Heap.lt_size e)) (k0 b o e)
  have le : s1.heap.objs.size ≤ (s1.heap.push (RT.rtObj a ((its.toArray.size : Int) - 1))).objs.size := by rw [szp]; exact Nat.le_succ _
  refine ⟨.ref (s1.heap.push (RT.rtObj a ((its.toArray.size : Int) - 1))).objs.size, L2.upd H1 _ (.lst xs.reverse), I1.laid (t' := tk) kk le (show ObjOk X.prog X.w _ _ _ (.lst xs.reverse) from ⟨by rw [List.length_reverse]; exact hz, acc.toList, c, RT.vals_rev rv hi, ?_⟩), rfl, q _ (I1.hok.fresh le)⟩
  rw [Array.toArray_toList]
  exact hS'
end LK

set_option Elab.async false
set_option linter.all false
set_option maxRecDepth 100000
set_option maxHeartbeats 4000000
/-! list(reversed(x)) of a list -/
namespace LK
open PySem PySem.Spec PyProof.Rows L2 SX
section
variable {prog : Program} {w : World} {A : Around} {E : Value → Shared → Prop} {s : Shared}
theorem extend_lr {R : Result → Shared → Prop} {it t S : Addr} {items : Array Value} (res : Value) (c₀ : Nat) (hh : A.handled = none) (hit : s.heap.IsRevIter it t ((items.size : Int) - 1)) (ht : s.heap.IsList t items) (hne : t ≠ it) (hn : items.size ≤ sizeLine) (hSi : S ≠ it) (hSt : S ≠ t)
    (hS : s.heap.get? S = some { cls := .type "list", data := .seq #[] c₀ })
    (hR : ∀ h' tk acc' c', (∀ b o, b ≠ S → b ≠ it → s.heap.get? b = some o → h'.get? b = some o) → h'.get? S = some { cls := .type "list", dict := none, data := .seq acc' c', slots := #[] } → ItemsOf (fun i v => items[items.size - 1 - i]? = some v) acc' items.size → R (.ok (.ret res)) { s with heap := h', toks := tk }) :
    wpAny (model prog w) A.in1 (Builtin.List.listExtendWith (.ref S) (.ref it) res)
      (fun fin s' => match fin with | .done f => R (.ok f) s' | .again c' => c'.quiet = true ∧ codeAny (model prog w) A c' R s') (fun e s' => R (.error e) s') s := by
  have W := (Walks.listRev (prog := prog) (w := w) (A := A.in1) hh it t hne items).toS
  have hSf : S ∉ [it, t] := by simp only [List.mem_cons, List.not_mem_nil, or_false, not_or]; exact ⟨hSi, hSt⟩
  have hT : s.TypeIs (.ref it) "list_reverseiterator" := hit.typeIs
  have h1 : Builtin.List.listSameRef (.ref S) (.ref it) = false := by simp [Builtin.List.listSameRef, hSi]
  unfold Builtin.List.listExtendWith
  refine wpAny_bind (wpAny_typeOf hT ?_)
  rw [if_neg (by rw [h1]; decide)]
  refine wpAny_bind (wpAny_pyIter_revIter hit ?_)
  refine wpAny_bind (wpAny_holding ?_)
  unfold Builtin.List.listLengthHint
  refine wpAny_bind (wpAny_specialOf hT RT.nolen_lri ?_)
  show wpAny _ A.in1 (specialOf (Value.ref it) (Str.ofString "__length_hint__") >>= _) _ _ _
  refine wpAny_bind (wpAny_specialOf hT RT.hint_lri ?_)
  generalize hid : ("list_reverseiterator.__length_hint__" : String) = id0
  wp_delta
  rw [show splitId id0 = some ("list_reverseiterator", "__length_hint__") from by subst hid; decide +kernel]
  subst hid
  refine wpAny_bind (wpAny_isInstance (b := true) hT (by rw [isSubtype_type]; kernel_rfl) ?_)
  refine wpAny_pure ?_
  rw [if_neg (by decide)]
  have e0 : ((items.size : Nat) : Int) - 1 - ((0 : Nat) : Int) = (items.size : Int) - 1 := by omega
  refine wpAny_pure ⟨plainId_quiet PySem.F.plain_extend_loop _, codeAny_extend_loopS W hn S hSf res items.size 0 _ _ _ rfl (Nat.zero_le _) ⟨Nat.zero_le _, by rw [e0]; exact hit, ht⟩ hS (ItemsOf.nil _) fun s' acc' c' hm hS' hacc => ?_⟩
  rw [Moved.eq_with hm]
  refine hR s'.heap s'.toks acc' c' (fun b o hb hb2 e => hm.heap b o (fun hmem => ?_) e) hS' hacc
  rcases List.mem_cons.mp hmem with e' | hmem
  · exact hb e'
  · exact hb2 (List.mem_singleton.mp hmem)
theorem call_listLr {it t : Addr} {items : Array Value} {Q : Value → Shared → Prop} (hh : A.handled = none) (hit : s.heap.IsRevIter it t ((items.size : Int) - 1)) (ht : s.heap.IsList t items) (hne : t ≠ it) (hn : items.size ≤ sizeLine)
    (hQ : ∀ h' tk acc' c', (∀ b o, b ≠ it → s.heap.get? b = some o → h'.get? b = some o) → h'.get? s.heap.objs.size = some { cls := .type "list", dict := none, data := .seq acc' c', slots := #[] } → ItemsOf (fun i v => items[items.size - 1 - i]? = some v) acc' items.size → Q (.ref s.heap.objs.size) { s with heap := h', toks := tk }) :
    wpAny (model prog w) A (call (.type "list") [.ref it]) Q E s := by
  refine callType_codes (Q₁ := fun obj s₁ => obj = .ref s.heap.objs.size ∧ s₁ = { s with heap := s.heap.push { cls := .type "list", data := .seq #[] } }) PySem.F.called_list (PySem.F.typeCall_list_1 _) PySem.F.entry_list_init
    (code_list_new _ ⟨rfl, rfl⟩) fun obj s₁ h₁ => ?_
  obtain ⟨rfl, rfl⟩ := h₁
  have hS : (s.heap.push { cls := .type "list", data := .seq #[] }).get? s.heap.objs.size = some { cls := .type "list", data := .seq #[] } := Heap.get?_push_size _ rfl
  have li : it < s.heap.objs.size := let ⟨_, e, _⟩ := hit; Heap.lt_size e
  have lt : t < s.heap.objs.size := let ⟨_, e, _⟩ := id ht; Heap.lt_size e
  refine ⟨⟨_, hS, rfl⟩, PySem.F.args_list_init_2 _ _, ?_⟩
  show wpAny _ _ (do let old ← Builtin.List.listItems (.ref s.heap.objs.size); Builtin.List.listUpdate (.ref s.heap.objs.size) (fun _ => #[]); letGo old.toList.reverse; Builtin.List.listExtendWith (.ref s.heap.objs.size) (.ref it) .none) _ _ _
  refine wpAny_bind ?_
  unfold Builtin.List.listItems
  refine wpAny_bind (wpAny_seqItems hS rfl (wpAny_pure ?_))
  show wpAny _ _ (updateSeq s.heap.objs.size (fun _ => #[]) >>= fun _ => letGo (#[] : Array Value).toList.reverse >>= fun _ => Builtin.List.listExtendWith (.ref s.heap.objs.size) (.ref it) .none) _ _ _
  refine wpAny_bind (wpAny_updateSeq hS rfl ?_)
  have hS₂ := Heap.get?_update_self (Obj.mapSeq (fun _ => (#[] : Array Value))) hS rfl
  have oth : ∀ b o, b ≠ s.heap.objs.size → s.heap.get? b = some o → ((s.heap.push { cls := .type "list", data := .seq #[] }).update s.heap.objs.size (Obj.mapSeq (fun _ => (#[] : Array Value)))).get? b = some o :=
    fun b o hb e => (Heap.get?_update_other _ _ (Ne.symm hb)).trans (Heap.get?_push_of_some _ e)
  refine wpAny_bind (wpAny_letGo ?_)
  refine extend_lr (A := A.in1) .none _ hh (hit.at fun o e => oth it o (Nat.ne_of_lt li) e) (let ⟨o, ho, r⟩ := ht; ⟨o, oth t o (Nat.ne_of_lt lt) ho, r⟩) hne hn (Nat.ne_of_gt li) (Nat.ne_of_gt lt) hS₂ fun h' tk acc' c' hk hS' hacc => ?_
  exact ⟨rfl, hQ h' tk acc' c' (fun b o hb e => hk b o (Nat.ne_of_lt (Heap.lt_size e)) hb (oth b o (Nat.ne_of_lt (Heap.lt_size e)) e)) hS' hacc⟩
end
def tListRevL (K : PySem.W.Frag) (te : TE) : TE := fun σ H Q => te σ H fun v H1 => ∃ (a : Addr) (xs : List V), v = .ref a ∧ SqL K H1 a xs ∧ ∀ q, H1 q = none → Q (.ref q) (L2.upd H1 q (.lst xs.reverse))
theorem pe_listRevL {X : Cx} {e : Expr} {te : TE} {p p2 pos pos2 : Pos} (hc : X.calm = true) (hg : Gl X "list") (hm : X.mg "list" = none) (hg2 : Gl X "reversed") (hm2 : X.mg "reversed" = none) (he : PE X e te)
    (hs : starEach [e] X.env = (false, eval e X.env) :: starEach [] X.env := by rfl)
    (hs2 : starEach [.Call (.Name "reversed" p2) [e] [] pos2] X.env = (false, eval (.Call (.Name "reversed" p2) [e] [] pos2) X.env) :: starEach [] X.env := by rfl) :
    PE X (.Call (.Name "list" p) [.Call (.Name "reversed" p2) [e] [] pos2] [] pos) (tListRevL X.K te) := by
  refine ⟨fun pins s σ H Q I h => ?_⟩
  refine Call_ (ld_blt I hg hm PyProof.Rows.boot_list (PyProof.Rows.callWith_type1 (args_cons (Call_ (ld_blt I hg2 hm2 PyProof.Rows.boot_reversed (PyProof.Rows.callWith_type1 (args_cons (thn (he.run pins s σ H _ I h) fun u s1 ⟨v, H1, I1, r1, q1⟩ => args_nil ?_) hs) hs rfl))) hs2) hs2 rfl))
  obtain ⟨a, xs, ev, hq, q⟩ := q1
  subst ev
  obtain rfl : u = Value.ref a := r1
  obtain ⟨its, rv, p', hz⟩ := I1.list hq
  refine call_reversed_list p'.isList (args_nil ?_)
  have k0 : ∀ b o, s1.heap.get? b = some o → (s1.heap.push (revObj a ((its.toArray.size : Int) - 1))).get? b = some o := fun b o e => Heap.get?_push_of_some _ e
  have hl := p'.isList
  obtain ⟨ol, hol, _⟩ := id hl
  have hne : a ≠ s1.heap.objs.size := Nat.ne_of_lt (Heap.lt_size hol)
  have hn : its.toArray.size ≤ sizeLine := by rw [List.size_toArray, ← rv.length]; exact hz
  refine call_listLr (s := { s1 with heap := s1.heap.push (revObj a ((its.toArray.size : Int) - 1)) }) (I1.ok.hd hc) ⟨_, Heap.get?_push_size _ rfl, rfl, rfl⟩ (hl.push _) hne hn fun h' tk acc c hk hS' hi => ?_
  have szp : (s1.heap.push (revObj a ((its.toArray.size : Int) - 1))).objs.size = s1.heap.objs.size + 1 := Heap.size_push ..
  have kk : ∀ b o, s1.heap.get? b = some o → h'.get? b = some o := fun b o e => hk b o (Nat.ne_of_lt (Heap.lt_size e)) (k0 b o e)
  have le : s1.heap.objs.size ≤ (s1.heap.push (revObj a ((its.toArray.size : Int) - 1))).objs.size := by rw [szp]; exact Nat.le_succ _
  refine ⟨.ref (s1.heap.push (revObj a ((its.toArray.size : Int) - 1))).objs.size, L2.upd H1 _ (.lst xs.reverse), I1.laid (t' := tk) kk le (show ObjOk X.prog X.w _ _ _ (.lst xs.reverse) from ⟨by rw [List.length_reverse]; exact hz, acc.toList, c, RT.vals_rev rv hi, ?_⟩), rfl, q _ (I1.hok.fresh le)⟩
  rw [Array.toArray_toList]
  exact hS'
end LK

set_option linter.all false
namespace LK
open PySem PySem.Spec PyProof.Rows L2
/-- str of a whole number or a boolean -/
inductive StrOf : V → Str → Prop
  | int {i : Int} : i.natAbs.log2 < 1920 → StrOf (.int i) (toString i)
  | bl {b : Bool} : StrOf (.bl b) (if b = true then "True" else "False")
theorem call_strBI {X : Cx} : CallR X (.type "str") (fun xs H Q => ∃ v z, xs = [v] ∧ StrOf v z ∧ Q (.str z) H) := by
  intro pins s σ H xs us Q I r h
  obtain ⟨v, z, rfl, hz, q⟩ := h
  cases hz with
  | int hl =>
    obtain ⟨u, rfl, t, rfl⟩ := vals1 r
    exact PySem.P.str_of_int hl ⟨.str _, H, I.tok _, ⟨_, rfl⟩, q⟩
  | bl =>
    obtain ⟨u, rfl, r1⟩ := vals1 r
    cases r1
    rename_i b
    cases b <;> exact PySem.P.str_of_bool ⟨.str _, H, I.tok _, ⟨_, rfl⟩, q⟩
/-- x += text -/
theorem ip_add_str {X : Cx} : PIp X .Add (fun x y H Q => ∃ i j, x = .str i ∧ y = .str j ∧ i.length + j.length ≤ sizeLine ∧ Q (.str (i ++ j)) H) := fun pins s σ H x y v u Q I r1 r2 h => iop_add_str pins s σ H x y v u Q I r1 r2 h
end LK


set_option Elab.async false
set_option linter.all false
set_option maxRecDepth 100000
set_option maxHeartbeats 4000000
set_option exponentiation.threshold 3000
namespace K23
open PySem PySem.Spec PyProof.Rows LK SX L2
def top (i : Nat) : Stmt := PySem.Challenge.pw_pyhold_k23_unlike_kinds.main.body.getD i (.Pass ⟨0, 0, 0, 0⟩)
structure Txt (K : PySem.W.Frag) (mg : Str → Option Value) : Prop where
  c_TYPE_ERROR : GInt mg "TYPE_ERROR" 10
  c_CLASSES : GTup K mg "CLASSES" (clsNames.map V.str)
  c_BASES : GTup K mg "BASES" (clsBases.map V.int)
  c_BUILT : GTup K mg "BUILT" (builtNames.map V.str)
  b_len : mg "len" = none
  b_int : mg "int" = none
  b_range : mg "range" = none
  b_list : mg "list" = none
  b_tuple : mg "tuple" = none
  b_repr : mg "repr" = none
  b_enumerate : mg "enumerate" = none
  b_zip : mg "zip" = none
  b_set : mg "set" = none
abbrev s_law_cell : Stmt := top 77
abbrev N_law_cell : List Str := ["script", "k"]
abbrev P_law_cell : List Str := ["script", "k"]
theorem sc_law_cell : FnScope N_law_cell P_law_cell (defScope s_law_cell) := ⟨rfl, rfl, rfl, by decide +kernel, rfl, by decide +kernel, by decide +kernel⟩
abbrev s_law_digits : Stmt := top 78
abbrev N_law_digits : List Str := ["script", "first", "last", "digits", "k", "cell", "turn", "seed"]
abbrev P_law_digits : List Str := ["script", "first", "last"]
theorem sc_law_digits : FnScope N_law_digits P_law_digits (defScope s_law_digits) := ⟨rfl, rfl, rfl, by decide +kernel, rfl, by decide +kernel, by decide +kernel⟩
abbrev s_law_draw : Stmt := top 79
abbrev N_law_draw : List Str := ["box", "many", "at"]
abbrev P_law_draw : List Str := ["box", "many"]
theorem sc_law_draw : FnScope N_law_draw P_law_draw (defScope s_law_draw) := ⟨rfl, rfl, rfl, by decide +kernel, rfl, by decide +kernel, by decide +kernel⟩
section
variable {P : Program} {w : World} {K : PySem.W.Frag} {mg : Str → Option Value} {base : Heap}
theorem ok_draw {f : Addr} {fd : FuncData} (F : Fun K "_law_draw" "_law_draw" s_law_draw f fd) (T : Txt K mg) : FnG P w K mg base CX0 1 f fd P_law_draw (spDraw K) := by
  refine okG0 F sc_law_draw (fun vs H Q E h => ?_) fun cdv A outer s H vs Q E hr hg h => ?_
  · obtain ⟨p, dl, m, rfl, _⟩ := h
    rfl
  · obtain ⟨p, dl, m, rfl, B, hm, k⟩ := h
    obtain ⟨ds, n, hp, hn, hd, hl, hds⟩ := id B
    refine ⟨_, (pss_cons (ps_set (i := 2) sc_law_draw.nd rfl (Or.inl rfl) (pe_ix ix_list (pv 0) pe_int (fun _ _ => rfl)))
  (pss_cons (ps_asg (pe_op op_add (pv 2) pe_int) (pg_sub (pv 0) pe_int set_list))
  (pss_cons (ps_if (pt_cmpR op_lt (pv 2) (pe_callB call_len (by rfl) T.b_len PySem.boot_len (pa_cons (pe_ix ix_list (pv 0) pe_int (fun _ _ => rfl)) pa_nil)) (nomark _))
   (pss_one (ps_ret (pe_op op_mod (pe_callTy call_int1 (by rfl) T.b_int (by decide +kernel) (pa_cons (pe_ix ix_list (pe_ix ix_list (pv 0) pe_int (fun _ _ => rfl)) (pv 2) (fun _ _ => rfl)) pa_nil)) (pv 1))))
   pss_nil)
  (pss_one (ps_ret pe_int))))), ?_⟩
    -- at = box[1]; box[1] = at + 1
    refine ⟨_, rfl, p, _, _, _, rfl, rfl, SqL.of hp, rfl, ?_⟩
    refine ⟨_, rfl, _, _, rfl, rfl, _, rfl, p, _, _, _, rfl, rfl, hp, rfl, ?_⟩
    have npd : dl ≠ p := by
      intro e
      subst e
      rw [hp] at hd
      have e := HO.lst.inj (Option.some.inj hd)
      cases ds with
      | nil => cases e
      | cons d ds => cases (List.cons.inj e).1
    have B' : BoxAt (upd H p (.lst [.ref dl, .int (n + 1)])) p dl := ⟨ds, n + 1, upd_same, by omega, by rw [upd_ne npd]; exact hd, hl, hds⟩
    have kp : Keep p H (upd H p (.lst [.ref dl, .int (n + 1)])) := fun b o e hb => by rw [upd_ne hb]; exact e
    have hd' : upd H p (.lst [.ref dl, .int (n + 1)]) dl = some (.lst (ds.map V.int)) := by rw [upd_ne npd]; exact hd
    -- if at < len(box[0])
    refine ⟨_, rfl, _, rfl, p, _, _, _, rfl, rfl, SqL.of upd_same, rfl, _, _, rfl, .inl ⟨_, SqL.of hd', rfl⟩, ?_⟩
    refine ⟨_, _, rfl, rfl, _, rfl, ?_⟩
    refine ite2 (fun c => ?_) fun c => ?_
    · have c1 : n < (ds.length : Int) := by simpa using c
      have c2 : n.toNat < ds.length := by omega
      have mem := hds _ (List.getElem_mem c2)
      refine ⟨_, rfl, p, _, _, _, rfl, rfl, SqL.of upd_same, rfl, _, rfl, dl, _, _, .int ds[n.toNat], rfl, rfl, SqL.of hd', ?_, .inl ⟨_, rfl, ?_⟩⟩
      · have e : n = ((n.toNat : Nat) : Int) := by omega
        exact at_of e (by simp [c2])
      · refine ⟨_, rfl, _, _, rfl, rfl, hm, ?_⟩
        exact k _ _ (Int.emod_nonneg _ (by omega)) (Int.emod_lt_of_pos _ hm) B' kp
    · exact k 0 _ (Int.le_refl 0) hm B' kp
theorem ok_cell {f : Addr} {fd : FuncData} (F : Fun K "_law_cell" "_law_cell" s_law_cell f fd) (T : Txt K mg) : FnG P w K mg base CX0 1 f fd P_law_cell (spCell K) := by
  refine okG0 F sc_law_cell (fun vs H Q E h => ?_) fun cdv A outer s H vs Q E hr hg h => ?_
  · obtain ⟨a, ns, i, rfl, _⟩ := h
    rfl
  · obtain ⟨a, ns, i, rfl, hs, hi, k⟩ := h
    refine ⟨_, (pss_cons (ps_if (pt_cmpR op_lt (pv 1) (pe_callB call_len (by rfl) T.b_len PySem.boot_len (pa_cons (pv 0) pa_nil)) (nomark _))
   (pss_one (ps_ret (pe_ix ix_list (pv 0) (pv 1) (fun _ _ => rfl))))
   pss_nil)
  (pss_one (ps_ret pe_int))), ?_⟩
    refine ⟨_, rfl, _, rfl, _, _, rfl, .inl ⟨_, hs, rfl⟩, _, _, rfl, rfl, _, rfl, ?_⟩
    refine ite3 (fun c => ?_) fun _ => k 0
    have c1 : i < (ns.length : Int) := by simpa using c
    have c2 : i.toNat < ns.length := by omega
    exact ⟨_, rfl, _, rfl, a, _, _, .int ns[i.toNat], rfl, rfl, hs, at_of (show i = ((i.toNat : Nat) : Int) by omega) (by simp [c2]), k _⟩
theorem ok_digits {f : Addr} {fd : FuncData} (F : Fun K "_law_digits" "_law_digits" s_law_digits f fd) (T : Txt K mg) (U_law_cell : Use P w K mg base CX0 "_law_cell" 1 P_law_cell (spCell K)) : FnG P w K mg base CX0 2 f fd P_law_digits (spDigits K) := by
  refine okG0 F sc_law_digits (fun vs H Q E h => ?_) fun cdv A outer s H vs Q E hr hg h => ?_
  · obtain ⟨a, ns, lo, hi, rfl, _⟩ := h
    rfl
  · obtain ⟨a, ns, lo, hi, rfl, hs, hlo, hhi, k⟩ := h
    refine ⟨_, (pss_cons (ps_set (i := 3) sc_law_digits.nd rfl (Or.inl rfl) (pe_lst pa_nil))
  (pss_cons (ps_for PassesOwn.never rfl (pi_range2 (by rfl) T.b_range (pa_cons (pv 1) (pa_cons (pv 2) pa_nil))) (pg_name (i := 4) sc_law_digits.nd rfl (Or.inl rfl))
   (pss_cons (ps_set (i := 5) sc_law_digits.nd rfl (Or.inl rfl) (pe_use U_law_cell (hr.mono (by decide)) hg rfl (pa_cons (pv 0) (pa_cons (pv 4) pa_nil))))
  (C8.pss_cut (ps_if (pt_cmpR op_lt (pv 5) pe_int (nomark _))
   (pss_one (ps_set (i := 5) sc_law_digits.nd rfl (Or.inl rfl) (pe_op op_sub pe_int (pe_op op_mul pe_int (pv 5)))))
   pss_nil)
  (pss_one (ps_if (pt_cmpR op_ge (pv 5) (pe_op op_pow pe_int pe_int) (nomark _))
   (pss_one (ps_for PassesOwn.never rfl (pi_range1 (by rfl) T.b_range (pa_cons pe_int pa_nil)) (pg_name (i := 6) sc_law_digits.nd rfl (Or.inl rfl))
   (pss_one (ps_if (pt_cmpR op_gt (pv 5) pe_int (nomark _))
   (pss_cons (ps_expr (pe_bm PySem.F.plainAttrs_list PySem.F.slot_list_append PySem.F.type_list_append mt_append (pv 3) (pa_cons (pe_op op_mod (pe_callTy call_int1 (by rfl) T.b_int (by decide +kernel) (pa_cons (pv 5) pa_nil)) pe_int) pa_nil)))
  (pss_one (ps_set (i := 5) sc_law_digits.nd rfl (Or.inl rfl) (pe_op op_fdiv (pv 5) pe_int))))
   pss_nil))))
   (pss_cons (ps_set (i := 7) sc_law_digits.nd rfl (Or.inl rfl) (pe_op op_mod (pe_callTy call_int1 (by rfl) T.b_int (by decide +kernel) (pa_cons (pe_op op_add (pe_op op_add (pe_op op_mul (pv 5) pe_int) (pe_op op_mul (pv 4) pe_int)) pe_int) pa_nil)) pe_int))
  (pss_one (ps_for PassesOwn.never rfl (pi_range1 (by rfl) T.b_range (pa_cons pe_int pa_nil)) (pg_name (i := 6) sc_law_digits.nd rfl (Or.inl rfl))
   (pss_cons (ps_set (i := 7) sc_law_digits.nd rfl (Or.inl rfl) (pe_op op_mod (pe_callTy call_int1 (by rfl) T.b_int (by decide +kernel) (pa_cons (pe_op op_add (pe_op op_add (pe_op op_mul (pv 7) pe_int) (pe_op op_mul pe_int (pv 6))) pe_int) pa_nil)) pe_int))
  (pss_one (ps_expr (pe_bm PySem.F.plainAttrs_list PySem.F.slot_list_append PySem.F.type_list_append mt_append (pv 3) (pa_cons (pe_op op_mod (pe_callTy call_int1 (by rfl) T.b_int (by decide +kernel) (pa_cons (pe_op op_fdiv (pv 7) pe_int) pa_nil)) pe_int) pa_nil)))))))))))))
  (pss_one (ps_ret (pv 3))))), ?_⟩
    refine ⟨by decide, fun dl nd => ?_⟩
    have sz : (4000 : Nat) < sizeLine := by decide
    -- for k in range(first, last)
    refine ⟨_, rfl, _, rfl, _, _, rfl, ⟨by omega, by omega, by omega, by omega⟩, ?_⟩
    refine for_range (lo := (lo : Int)) (n := ((hi : Int) - (lo : Int)).toNat) (fun i σ H1 => ∃ x5 x6 x7 x4, σ = [some (.ref a), some (.int lo), some (.int hi), some (.ref dl), x4, x5, x6, x7] ∧ DigAt H H1 dl (60 * i)) ?_ ?_ ?_
    · exact ⟨none, none, none, none, rfl, [], upd_same, by simp, by simp, Same.new nd⟩
    · rintro i σ H1 hi' ⟨x5, x6, x7, x4, rfl, D⟩
      have S1 : Same H H1 := let ⟨_, _, _, _, z⟩ := D; z
      -- cell = _law_cell(script, k)
      refine ⟨_, rfl, _, rfl, a, ns, _, rfl, S1.seq hs, by omega, fun cell => ?_⟩
      -- if cell < 0: cell = 1 - 2 * cell
      refine ⟨fun σ H2 => ∃ c : Int, σ = [some (.ref a), some (.int lo), some (.int hi), some (.ref dl), some (.int ((lo : Int) + i)), some (.int c), x6, x7] ∧ H2 = H1, ?_, ?_⟩
      · refine ⟨_, rfl, _, _, rfl, rfl, _, rfl, ?_⟩
        refine ite3 (fun _ => ?_) fun _ => ⟨cell, rfl, rfl⟩
        exact ⟨_, rfl, _, _, rfl, rfl, .inl ⟨by decide, by decide⟩, _, _, rfl, rfl, _, rfl, rfl⟩
      · rintro _ _ ⟨c, rfl, rfl⟩
        -- if cell >= 10 ** 18
        refine ⟨_, rfl, _, _, rfl, rfl, ⟨by decide, by decide, by decide⟩, _, _, rfl, rfl, _, rfl, ?_⟩
        refine ite3 (fun hc => ?_) fun hc => ?_
        · refine ⟨_, rfl, by decide, by decide, ?_⟩
          refine for_range (lo := 0) (n := 60) (fun j σ H1 => ∃ (c : Int) (y6 : Option V), σ = [some (.ref a), some (.int lo), some (.int hi), some (.ref dl), some (.int ((lo : Int) + i)), some (.int c), y6, x7] ∧ DigAt H H1 dl (60 * i + j)) ⟨c, x6, rfl, D⟩ ?_ ?_
          · rintro j σ H2 hj ⟨c, y6, rfl, D2⟩
            obtain ⟨ds, hd, hl, _⟩ := id D2
            refine ⟨_, rfl, _, _, rfl, rfl, _, rfl, ?_⟩
            refine ite3 (fun hp => ?_) fun _ => ⟨c, _, rfl, D2.mono (by omega)⟩
            have hp : 0 < c := by simpa using hp
            refine ⟨_, rfl, .inl ⟨rfl, _, SqL.of hd⟩, _, rfl, .inl ⟨_, rfl, _, _, rfl, rfl, (by show (0 : Int) < 1000; decide), dl, _, _, rfl, rfl, hd, (by simp; omega), ?_⟩⟩
            refine ⟨_, rfl, _, _, rfl, rfl, ⟨by decide, by decide⟩, ?_⟩
            exact ⟨_, _, rfl, D2.add hd nd (Int.emod_nonneg _ (by decide)) (Int.emod_lt_of_pos _ (by decide))⟩
          · rintro σ H2 ⟨c, y6, rfl, D2⟩
            exact ⟨_, _, _, _, rfl, D2.mono (by omega)⟩
        · refine ⟨_, rfl, _, _, rfl, rfl, .inr ⟨by decide, by decide⟩, _, rfl, _, _, rfl, rfl, .inr ⟨by decide, by decide⟩, _, _, rfl, rfl, _, _, rfl, rfl, .inl ⟨_, rfl, _, _, rfl, rfl, (by show (0 : Int) < 2147483647; decide), ?_⟩⟩
          refine ⟨_, rfl, by decide, by decide, ?_⟩
          refine for_range (lo := 0) (n := 12) (fun j σ H1 => ∃ (sd : Int) (y6 : Option V), σ = [some (.ref a), some (.int lo), some (.int hi), some (.ref dl), some (.int ((lo : Int) + i)), some (.int c), y6, some (.int sd)] ∧ DigAt H H1 dl (60 * i + j)) ⟨_, x6, rfl, D⟩ ?_ ?_
          · rintro j σ H2 hj ⟨sd, y6, rfl, D2⟩
            obtain ⟨ds, hd, hl, _⟩ := id D2
            refine ⟨_, rfl, _, _, rfl, rfl, .inr ⟨by decide, by decide⟩, _, rfl, _, _, rfl, rfl, .inl ⟨by decide, by decide⟩, _, _, rfl, rfl, _, _, rfl, rfl, .inl ⟨_, rfl, _, _, rfl, rfl, (by show (0 : Int) < 2147483647; decide), ?_⟩⟩
            refine ⟨_, rfl, .inl ⟨rfl, _, SqL.of hd⟩, _, rfl, _, _, rfl, rfl, ⟨by decide, by decide⟩, .inl ⟨_, rfl, _, _, rfl, rfl, (by show (0 : Int) < 1000; decide), dl, _, _, rfl, rfl, hd, (by simp; omega), ?_⟩⟩
            exact ⟨_, _, rfl, D2.add hd nd (Int.emod_nonneg _ (by decide)) (Int.emod_lt_of_pos _ (by decide))⟩
          · rintro σ H2 ⟨sd, y6, rfl, D2⟩
            exact ⟨_, _, _, _, rfl, D2.mono (by omega)⟩
    · rintro σ H1 ⟨x5, x6, x7, x4, rfl, D⟩
      exact ⟨_, rfl, k dl H1 nd (D.mono (by omega))⟩
end

abbrev s_law_same : Stmt := top 82
abbrev N_law_same : List Str := ["actual", "due"]
abbrev P_law_same : List Str := ["actual", "due"]
theorem sc_law_same : FnScope N_law_same P_law_same (defScope s_law_same) := ⟨rfl, rfl, rfl, by decide +kernel, rfl, by decide +kernel, by decide +kernel⟩
section
variable {P : Program} {w : World} {K : PySem.W.Frag} {mg : Str → Option Value} {base : Heap}
theorem ok_same {f : Addr} {fd : FuncData} (F : Fun K "_law_same" "_law_same" s_law_same f fd) (T : Txt K mg) : FnG P w K mg base CX0 1 f fd P_law_same (spSame K) := by
  refine okG0 F sc_law_same (fun vs H Q E h => ?_) fun cdv A outer s H vs Q E hr hg h => ?_
  · obtain ⟨x, y, d, rfl, _⟩ := h
    rfl
  · obtain ⟨x, y, d, rfl, hx, hy, hs, k⟩ := h
    refine ⟨_, (pss_one (ps_ret (pe_cmpR op_eq (pe_callB (call_repr_data hg hr.units) (by rfl) T.b_repr (by decide +kernel) (pa_cons (pv 0) pa_nil)) (pe_callB (call_repr_data hg hr.units) (by rfl) T.b_repr (by decide +kernel) (pa_cons (pv 1) pa_nil)) (nomark _)))), ?_⟩
    refine ⟨_, rfl, _, d, rfl, hx, hs, _, rfl, _, d, rfl, hy, hs, rfl, ?_⟩
    rw [decide_eq_true rfl]
    exact k
end

section
/-! data whose texts are texts and that are not deep -/
def Shp (n : Nat) (d : PyData) : Prop := d.canLay0 = true ∧ d.depth ≤ n
theorem Shp.all {n : Nat} : ∀ {ds : List PyData}, (∀ d ∈ ds, Shp n d) → PyData.canLayAll0 ds = true ∧ PyData.depthAll ds ≤ n
  | [], _ => ⟨rfl, Nat.zero_le _⟩
  | d :: r, h => by
    obtain ⟨a, b⟩ := h d (by simp)
    obtain ⟨c, e⟩ := Shp.all (ds := r) fun x hx => h x (List.mem_cons_of_mem _ hx)
    exact ⟨by simp only [PyData.canLayAll0, a, c]; rfl, Nat.max_le.mpr ⟨b, e⟩⟩
theorem Shp.tup {n : Nat} {ds : List PyData} (h : ∀ d ∈ ds, Shp n d) : Shp (n + 1) (.tuple ds) := by
  obtain ⟨a, b⟩ := Shp.all h
  exact ⟨by simp only [PyData.canLay0]; exact a, show PyData.depthAll ds + 1 ≤ n + 1 by omega⟩
theorem Shp.lst {n : Nat} {ds : List PyData} (h : ∀ d ∈ ds, Shp n d) : Shp (n + 1) (.list ds) := by
  obtain ⟨a, b⟩ := Shp.all h
  exact ⟨by simp only [PyData.canLay0]; exact a, show PyData.depthAll ds + 1 ≤ n + 1 by omega⟩
theorem Shp.sh {n : Nat} {d : PyData} (h : Shp n d) (hn : n ≤ 64) : SeqAt.shaped d = true := by
  unfold SeqAt.shaped
  rw [h.1, decide_eq_true (Nat.le_trans h.2 hn)]; rfl
theorem Shp.mono {n m : Nat} {d : PyData} (h : Shp n d) (l : n ≤ m) : Shp m d := ⟨h.1, Nat.le_trans h.2 l⟩
theorem Shp.str {n : Nat} {x : Str} (h : PyData.canLay0 (.str x) = true) : Shp n (.str x) := ⟨h, Nat.zero_le _⟩
theorem Shp.int (n : Nat) (i : Int) : Shp n (.int i) := ⟨rfl, Nat.zero_le _⟩
theorem Shp.bool (n : Nat) (b : Bool) : Shp n (.bool b) := ⟨rfl, Nat.zero_le _⟩
theorem Shp.nil : Shp 1 (.tuple []) := Shp.tup (n := 0) fun _ h => by cases h
theorem Shp.cons2 {n : Nat} {d : PyData} {ds : List PyData} (h : Shp n d) (t : ∀ x ∈ ds, Shp n x) : ∀ x ∈ d :: ds, Shp n x := fun x hx => by
  rcases List.mem_cons.mp hx with rfl | hx
  · exact h
  · exact t x hx
theorem Shp.none2 {n : Nat} : ∀ x ∈ ([] : List PyData), Shp n x := fun _ h => by cases h
theorem Shp.strS {n : Nat} {a : List Nat} (h : ∀ c ∈ a, c < 128) : Shp n (.str (S a)) := by
  refine Shp.str ?_
  rw [PyData.canLay0]
  exact Array.all_eq_true_iff_forall_mem.mpr fun c hc => by
    have := h c (by simpa [S] using hc)
    exact decide_eq_true (by omega)
end

abbrev s_object_kind : Stmt := top 20
abbrev N_object_kind : List Str := ["heap", "value"]
abbrev P_object_kind : List Str := ["heap", "value"]
theorem sc_object_kind : FnScope N_object_kind P_object_kind (defScope s_object_kind) := ⟨rfl, rfl, rfl, by decide +kernel, rfl, by decide +kernel, by decide +kernel⟩
section
variable {P : Program} {w : World} {K : PySem.W.Frag} {mg : Str → Option Value} {base : Heap}
inductive KindIs (hds : List PyData) : PyData → Str → Prop
  | plain {z : Str} {rest : List PyData} : V.str z ≠ V.str "ref" → KindIs hds (.tuple (.str z :: rest)) ""
  | obj {k : Nat} {kd : Str} {rest : List PyData} : hds[k]? = some (.tuple (.str kd :: rest)) → KindIs hds (.tuple [.str "ref", .int (k : Nat)]) kd
def spKind (K : PySem.W.Frag) : Sp := fun vs H Q _ => ∃ (hp : Addr) (hds : List PyData) (v : V) (d : PyData) (kd : Str), vs = [.ref hp, v] ∧ ListAt K H hp hds ∧ Dt K H v d ∧ KindIs hds d kd ∧ Q (.str kd) H
theorem ok_kind {f : Addr} {fd : FuncData} (F : Fun K "object_kind" "object_kind" s_object_kind f fd) (T : Txt K mg) : FnG P w K mg base CX0 1 f fd P_object_kind (spKind K) := by
  refine okG0 F sc_object_kind (fun vs H Q E h => ?_) fun cdv A outer s H vs Q E hr hg h => ?_
  · obtain ⟨hp, hds, v, d, kd, rfl, _⟩ := h
    rfl
  · obtain ⟨hp, hds, v, d, kd, rfl, ⟨xs, hx, ax⟩, hd, hk, k⟩ := h
    refine ⟨_, (pss_cons (ps_if (pt_cmpR op_ne (pe_ix ix_tup (pv 1) pe_int (fun _ _ => rfl)) pe_str (nomark _))
   (pss_one (ps_ret pe_str))
   pss_nil)
  (pss_one (ps_ret (pe_ix ix_tup (pe_ix ix_list (pv 0) (pe_ix ix_tup (pv 1) pe_int (fun _ _ => rfl)) (fun _ _ => rfl)) pe_int (fun _ _ => rfl))))), ?_⟩
    cases hk with
    | plain hz =>
      obtain ⟨q, ws, rfl, hs, _⟩ := hd.head
      exact ⟨_, rfl, q, _, _, _, rfl, rfl, hs, at0, rfl, _, rfl, iteTb (by rw [decide_eq_false hz]; rfl) k⟩
    | @obj i _ rest hh =>
      obtain ⟨q, y, rfl, hs, h2⟩ := hd.pair
      cases h2.int_inv
      obtain ⟨o, ho, dO⟩ := ax.get hh
      obtain ⟨qo, zs, rfl, hso, _⟩ := dO.head
      refine ⟨_, rfl, q, _, _, _, rfl, rfl, hs, at0, rfl, _, rfl, iteFb (by decide +kernel) ?_⟩
      exact ⟨_, rfl, _, rfl, q, _, _, _, rfl, rfl, hs, at1, hp, _, _, _, rfl, rfl, SqL.of hx, atI_nat ho, qo, _, _, _, rfl, rfl, hso, at0, k⟩
end

abbrev s_kind_name : Stmt := top 17
abbrev N_kind_name : List Str := ["heap", "value", "found"]
abbrev P_kind_name : List Str := ["heap", "value"]
theorem sc_kind_name : FnScope N_kind_name P_kind_name (defScope s_kind_name) := ⟨rfl, rfl, rfl, by decide +kernel, rfl, by decide +kernel, by decide +kernel⟩
section
variable {P : Program} {w : World} {K : PySem.W.Frag} {mg : Str → Option Value} {base : Heap}
abbrev vks : List (Str × Str) := [("none", "NoneType"), ("bool", "bool"), ("int", "int"), ("text", "str"), ("span", "range"), ("built", "builtin"), ("host", "host")]
abbrev oks : List (Str × Str) := [("list", "list"), ("tuple", "tuple"), ("dict", "dict"), ("scope", "scope"), ("func", "function"), ("class", "class"), ("bound", "method"), ("iter", "iterator"), ("gen", "generator")]
def refD (j : Nat) : PyData := .tuple [.str "ref", .int (j : Nat)]
/-- the name of a value's kind -/
inductive NameOf (hds : List PyData) : PyData → Str → Prop
  | oth (j : Nat) (z : Str) (r : List PyData) (t : Str) : hds[j]? = some (.tuple (.str z :: r)) → z ≠ "inst" → valV (txtKV oks) (.inr z) = some (.str t) → NameOf hds (refD j) t
  | inst (j i : Nat) (r r2 : List PyData) (c : PyData) (n : Str) : hds[j]? = some (.tuple (.str "inst" :: .int (i : Nat) :: r)) → hds[i]? = some (.tuple (c :: .str n :: r2)) → NameOf hds (refD j) n
  | val (z : Str) (r : List PyData) (t : Str) : z ≠ "ref" → valV (txtKV vks) (.inr z) = some (.str t) → NameOf hds (.tuple (.str z :: r)) t
theorem dec_str {a b : Str} (h : a ≠ b) : decide (V.str a = V.str b) = false := decide_eq_false fun e => h (V.str.inj e)
theorem dec_str1 (a : Str) : decide (V.str a = V.str a) = true := decide_eq_true rfl
theorem hd_at {H : Hp} {hp : Addr} {hds : List PyData} {j : Nat} {d : PyData} (L : ListAt K H hp hds) (h : hds[j]? = some d) : ∃ xs y, H hp = some (.lst xs) ∧ atI xs ((j : Nat) : Int) = some y ∧ Dt K H y d := by
  obtain ⟨xs, e, a⟩ := L
  obtain ⟨y, hy, dy⟩ := a.get h
  exact ⟨xs, y, e, atI_nat hy, dy⟩
theorem dt_two {H : Hp} {v : V} {a b : PyData} {r : List PyData} (h : Dt K H v (.tuple (a :: b :: r))) : ∃ q x y ws, v = .ref q ∧ SqT K H q (x :: y :: ws) ∧ Dt K H x a ∧ Dt K H y b := by
  cases h with
  | tup hs ha =>
    cases ha with
    | cons h1 h2 =>
      cases h2 with
      | cons h3 h4 => exact ⟨_, _, _, _, rfl, hs, h1, h3⟩
theorem dt_str {H : Hp} {v : V} {z : Str} (h : Dt K H v (.str z)) : v = .str z := by cases h; rfl
def spKName (K : PySem.W.Frag) : Sp := fun vs H Q _ => ∃ hp hds v d t, vs = [.ref hp, v] ∧ ListAt K H hp hds ∧ Dt K H v d ∧ NameOf hds d t ∧ Q (.str t) H
theorem ok_kname {f : Addr} {fd : FuncData} (F : Fun K "kind_name" "kind_name" s_kind_name f fd) (T : Txt K mg) (U_VALUE_KINDS : UseD P w K mg "VALUE_KINDS" (txtKV vks)) (U_OBJECT_KINDS : UseD P w K mg "OBJECT_KINDS" (txtKV oks)) : FnG P w K mg base CX0 1 f fd P_kind_name (spKName K) := by
  refine okG0 F sc_kind_name (fun vs H Q E h => ?_) fun cdv A outer s H vs Q E hr hg h => ?_
  · obtain ⟨hp, hds, v, d, t, rfl, _⟩ := h
    rfl
  · obtain ⟨hp, hds, v, d, t, rfl, L, dv, hk, k⟩ := h
    obtain ⟨aD_VALUE_KINDS, gD_VALUE_KINDS, kD1⟩ := U_VALUE_KINDS.ex
    obtain ⟨aD_OBJECT_KINDS, gD_OBJECT_KINDS, kD2⟩ := U_OBJECT_KINDS.ex
    refine ⟨_, (pss_cons (ps_if (pt_cmpR op_ne (pe_ix ix_tup (pv 1) pe_int (fun _ _ => rfl)) pe_str (nomark _))
   (pss_one (ps_ret (pe_dgetK (pe_glob (v := .ref aD_VALUE_KINDS) (by rfl) gD_VALUE_KINDS rfl) (pe_ix ix_tup (pv 1) pe_int (fun _ _ => rfl)) (fun _ _ => rfl))))
   pss_nil)
  (pss_cons (ps_set (i := 2) sc_kind_name.nd rfl (Or.inl rfl) (pe_ix ix_list (pv 0) (pe_ix ix_tup (pv 1) pe_int (fun _ _ => rfl)) (fun _ _ => rfl)))
  (pss_cons (ps_if (pt_cmpR op_eq (pe_ix ix_tup (pv 2) pe_int (fun _ _ => rfl)) pe_str (nomark _))
   (pss_one (ps_ret (pe_ix ix_tup (pe_ix ix_list (pv 0) (pe_ix ix_tup (pv 2) pe_int (fun _ _ => rfl)) (fun _ _ => rfl)) pe_int (fun _ _ => rfl))))
   pss_nil)
  (pss_one (ps_ret (pe_dgetK (pe_glob (v := .ref aD_OBJECT_KINDS) (by rfl) gD_OBJECT_KINDS rfl) (pe_ix ix_tup (pv 2) pe_int (fun _ _ => rfl)) (fun _ _ => rfl))))))), ?_⟩
    cases hk with
    | oth j z r t ho hi ht =>
      obtain ⟨q, x, rfl, hq, hx⟩ := Dt.pair dv
      cases hx.int_inv
      obtain ⟨zs, y, ez, hy, dy⟩ := hd_at L ho
      obtain ⟨q2, ws, rfl, hq2, _⟩ := dy.head
      refine ⟨_, rfl, q, _, _, _, rfl, rfl, hq, at0, rfl, _, rfl, iteFb (by decide +kernel) ?_⟩
      refine ⟨_, rfl, _, rfl, q, _, _, _, rfl, rfl, hq, at1, hp, _, _, _, rfl, rfl, SqL.of ez, hy, ?_⟩
      refine ⟨_, rfl, q2, _, _, _, rfl, rfl, hq2, at0, rfl, _, rfl, iteFb (dec_str hi) ?_⟩
      exact ⟨_, rfl, q2, _, _, _, rfl, rfl, hq2, at0, aD_OBJECT_KINDS, _, .inr z, _, rfl, kD2, rfl, ht, k⟩
    | inst j i r r2 c n ho hi =>
      obtain ⟨q, x, rfl, hq, hx⟩ := Dt.pair dv
      cases hx.int_inv
      obtain ⟨zs, y, ez, hy, dy⟩ := hd_at L ho
      obtain ⟨q2, u, u2, ws, rfl, hq2, du, du2⟩ := dt_two dy
      cases dt_str du
      cases du2.int_inv
      obtain ⟨zs', y', ez', hy', dy'⟩ := hd_at L hi
      obtain ⟨q3, u', u3, ws', rfl, hq3, du', du3⟩ := dt_two dy'
      cases dt_str du3
      refine ⟨_, rfl, q, _, _, _, rfl, rfl, hq, at0, rfl, _, rfl, iteFb (by decide +kernel) ?_⟩
      refine ⟨_, rfl, _, rfl, q, _, _, _, rfl, rfl, hq, at1, hp, _, _, _, rfl, rfl, SqL.of ez, hy, ?_⟩
      refine ⟨_, rfl, q2, _, _, _, rfl, rfl, hq2, at0, rfl, _, rfl, iteTb (dec_str1 _) ?_⟩
      exact ⟨_, rfl, _, rfl, q2, _, _, _, rfl, rfl, hq2, at1, hp, _, _, _, rfl, rfl, SqL.of ez', hy', q3, _, _, _, rfl, rfl, hq3, at1, k⟩
    | val z r t hz ht =>
      obtain ⟨q, ws, rfl, hq, _⟩ := Dt.head dv
      refine ⟨_, rfl, q, _, _, _, rfl, rfl, hq, at0, rfl, _, rfl, iteTb (by rw [dec_str hz]; rfl) ?_⟩
      exact ⟨_, rfl, q, _, _, _, rfl, rfl, hq, at0, aD_VALUE_KINDS, _, .inr z, _, rfl, kD1, rfl, ht, k⟩
end

section
variable {P : Program} {w : World} {K : PySem.W.Frag} {mg : Str → Option Value} {base : Heap}
theorem strlen_cat (a b : Str) : (a ++ b).length = a.length + b.length := by
  show (a.cps ++ b.cps).size = _
  rw [Array.size_append]; rfl
theorem ss_le {n : Nat} (h : n ≤ 100000) : n ≤ sizeLine := Nat.le_trans h (by decide)
theorem js_lt {n : Nat} (h : n ≤ 5000) : n < sizeLine := Nat.lt_of_le_of_lt h (by decide)
theorem dtAll_rev {H : Hp} : ∀ {ds : List PyData} {vs : List V}, DtAll K H vs ds → DtAll K H vs.reverse ds.reverse
  | [], vs, h => by rw [h.nil_inv]; exact .nil
  | d :: ds, vs, h => by
    obtain ⟨v, ws, rfl, dv, hw⟩ := DtAll.cons_inv h
    rw [List.reverse_cons, List.reverse_cons]
    exact DtAll.app (dtAll_rev hw) (.cons dv .nil)
theorem same_none' {H H1 : Hp} {l : Addr} (S : Same H H1) (h : H1 l = none) : H l = none := by
  cases e : H l with
  | none => rfl
  | some o => have := S _ _ e; rw [h] at this; cases this
theorem dt_pr {H : Hp} {v : V} {a b : PyData} (h : Dt K H v (.tuple [a, b])) : ∃ q x y, v = .ref q ∧ SqT K H q [x, y] ∧ Dt K H x a ∧ Dt K H y b := by
  cases h with
  | tup hs ha =>
    cases ha with
    | cons h1 h2 =>
      cases h2 with
      | cons h3 h4 =>
        cases h4
        exact ⟨_, _, _, rfl, hs, h1, h3⟩
theorem dtAll_snoc {H : Hp} : ∀ {ds : List PyData} {d : PyData} {ws : List V}, DtAll K H ws (ds ++ [d]) → ∃ ws0 y, ws = ws0 ++ [y] ∧ DtAll K H ws0 ds ∧ Dt K H y d
  | [], d, ws, h => by
    cases h with
    | cons h1 h2 => cases h2; exact ⟨[], _, rfl, .nil, h1⟩
  | e :: ds, d, ws, h => by
    cases h with
    | cons h1 h2 =>
      obtain ⟨ws0, y, rfl, a, b⟩ := dtAll_snoc h2
      exact ⟨_ :: ws0, y, rfl, .cons h1 a, b⟩
theorem js_lt10 {n : Nat} (h : n ≤ 10000) : n < sizeLine := Nat.lt_of_le_of_lt h (by decide)
theorem inV_strs {x : Str} (ys : List Str) : inV (.str x) (ys.map V.str) = decide (x ∈ ys) := by
  unfold inV
  induction ys with
  | nil => rfl
  | cons y r ih =>
    rw [List.map_cons, List.any_cons, ih]
    have : eqV (.str y) (.str x) = decide (y = x) := by
      show (y == x) = _
      by_cases e : y = x
      · subst e; simp
      · simp [e]
    rw [this]
    by_cases e : y = x
    · subst e; simp
    · have : x ≠ y := fun h => e h.symm
      simp [e, this]
end

abbrev s_start_heap : Stmt := top 10
abbrev N_start_heap : List Str := ["hosts", "variables", "at", "name", "heap", "base"]
abbrev P_start_heap : List Str := ["hosts"]
theorem sc_start_heap : FnScope N_start_heap P_start_heap (defScope s_start_heap) := ⟨rfl, rfl, rfl, by decide +kernel, rfl, by decide +kernel, by decide +kernel⟩
section
variable {P : Program} {w : World} {K : PySem.W.Frag} {mg : Str → Option Value} {base : Heap}
theorem ok_start {f : Addr} {fd : FuncData} (F : Fun K "start_heap" "start_heap" s_start_heap f fd) (T : Txt K mg) : FnG P w K mg base CX0 1 f fd P_start_heap (spStart K) := by
  refine okG0 F sc_start_heap (fun vs H Q E h => ?_) fun cdv A outer s H vs Q E hr hg h => ?_
  · obtain ⟨t, hs, rfl, _⟩ := h
    rfl
  · obtain ⟨t, hs, rfl, ht, hl, k⟩ := h
    refine ⟨_, (pss_cons (ps_setLc (i := 1) (own := [("at", 2), ("name", 3)]) (g := (gTup K 2 (gCons (gName 2) (gCons (gName 3) gNil)))) rfl sc_start_heap.nd rfl rfl (sw_true rfl rfl rfl (by decide +kernel)) (pi_enumT (by rfl) T.b_enumerate (pa_cons (pe_globT T.c_CLASSES (by rfl)) pa_nil)) (blkOk_by (N := N_start_heap) (sc := defScope s_start_heap) (by decide +kernel)) (fun _ _ _ _ _ => (pg_tup (by rfl) (pgs_cons (pg_name (i := 2) sc_start_heap.nd rfl (Or.inl rfl)) (pgs_cons (pg_name (i := 3) sc_start_heap.nd rfl (Or.inl rfl)) pgs_nil)))) (fun _ _ _ _ _ => pts_nil) (fun _ _ _ _ _ => (pe_tup (pa_cons (pv 3) (pa_cons (pe_tup (pa_cons pe_str (pa_cons (pe_op op_add (pv 2) pe_int) pa_nil))) pa_nil)))))
  (pss_cons (ps_expr (pe_bm PySem.F.plainAttrs_list PySem.F.slot_list_extend PySem.F.type_list_extend mt_extend (pv 1) (pa_cons (pe_lc (own := [("name", 3)]) (g := (gName 3)) rfl sc_start_heap.nd (pi_tup (pe_globT T.c_BUILT (by rfl))) (blkOk_by (N := N_start_heap) (sc := defScope s_start_heap) (by decide +kernel)) (fun _ _ _ _ _ => (pg_name (i := 3) sc_start_heap.nd rfl (Or.inl rfl))) (fun _ _ _ _ _ => pts_nil) (fun _ _ _ _ _ => (pe_tup (pa_cons (pv 3) (pa_cons (pe_tup (pa_cons pe_str (pa_cons (pv 3) pa_nil))) pa_nil))))) pa_nil)))
  (pss_cons (ps_expr (pe_bm PySem.F.plainAttrs_list PySem.F.slot_list_extend PySem.F.type_list_extend mt_extend (pv 1) (pa_cons (pe_lc (own := [("name", 3)]) (g := (gName 3)) rfl sc_start_heap.nd (pi_tup (pv 0)) (blkOk_by (N := N_start_heap) (sc := defScope s_start_heap) (by decide +kernel)) (fun _ _ _ _ _ => (pg_name (i := 3) sc_start_heap.nd rfl (Or.inl rfl))) (fun _ _ _ _ _ => pts_nil) (fun _ _ _ _ _ => (pe_tup (pa_cons (pv 3) (pa_cons (pe_tup (pa_cons pe_str (pa_cons (pv 3) pa_nil))) pa_nil))))) pa_nil)))
  (pss_cons (ps_set (i := 4) sc_start_heap.nd rfl (Or.inl rfl) (pe_lst (pa_cons (pe_tup (pa_cons pe_str (pa_cons (pe_callTy call_tuple_of (by rfl) T.b_tuple (by decide +kernel) (pa_cons (pv 1) pa_nil)) (pa_cons (pe_tup pa_nil) (pa_cons (pe_tup pa_nil) (pa_cons (pe_un un_neg pe_int) (pa_cons pe_bl pa_nil))))))) pa_nil)))
  (pss_cons (ps_for PassesOwn.never rfl (RZ.pi_zipA (by rfl) T.b_zip (pa_cons (pe_globT T.c_CLASSES (by rfl)) (pa_cons (pe_globT T.c_BASES (by rfl)) pa_nil))) (pg_tup (by rfl) (pgs_cons (pg_name (i := 3) sc_start_heap.nd rfl (Or.inl rfl)) (pgs_cons (pg_name (i := 5) sc_start_heap.nd rfl (Or.inl rfl)) pgs_nil)))
   (pss_one (ps_expr (pe_bm PySem.F.plainAttrs_list PySem.F.slot_list_append PySem.F.type_list_append mt_append (pv 4) (pa_cons (pe_tup (pa_cons pe_str (pa_cons (pv 3) (pa_cons (pv 5) (pa_cons (pe_tup pa_nil) pa_nil))))) pa_nil)))))
  (pss_one (ps_ret (pv 4)))))))), ?_⟩
    -- the classes' names
    refine fun ac kc => ⟨ac, _, rfl, kc.sq _, fun D hD => ?_⟩
    refine lc_dt (K := K) (walk_enumT (xs := clsNames.map V.str)) hD clsVars (by simp [clsVars]) (by decide) (fun H' _ => kc.sq _) ?_ ?_ mono_tup2
    · rintro i x H1 H2 d Nx hi hd S1 _ ⟨u, x1, x2, rfl, hu, rfl, e1, e2⟩ q
      cases e1
      refine ⟨u, _, rfl, SqT.of upd_same, rfl, _, _, rfl, _, _, rfl, rfl, rfl, ?_⟩
      refine ⟨_, rfl, _, rfl, _, _, rfl, rfl, sz_2, fun z hz => ⟨sz_2, fun y hy => q _ _ ((Same.new hu).trans ((Same.new hz).trans (Same.new hy))) ?_⟩⟩
      have hn : ∃ n, x2 = .str n ∧ d = clsVar i n := by
        have e2 : (clsNames.map V.str)[i]? = some x2 := e2
        rw [List.getElem?_map] at e2
        have hd : (clsNames.mapIdx clsVar)[i]? = some d := hd
        rw [List.getElem?_mapIdx] at hd
        cases en : clsNames[i]? with
        | none => rw [en] at e2; cases e2
        | some n => rw [en] at e2 hd; exact ⟨n, (Option.some.inj e2).symm, (Option.some.inj hd).symm⟩
      obtain ⟨n, rfl, rfl⟩ := hn
      exact Dt.made hy (.cons (.str _) (.cons (Dt.made hz (.cons (.str _) (.cons (.int _) .nil))) .nil))
    intro H1 vs1 S1 d1 a1
    -- the built-in functions' names
    refine ⟨_, rfl, .inl ⟨rfl, _, SqL.of d1⟩, fun ab kb => ⟨ab, rfl, ⟨_, kb.sq _⟩, fun D2 hD2 => ?_⟩⟩
    refine lc_dt (K := K) (walk_tup (xs := builtNames.map V.str)) hD2 (builtNames.map (nameVar "built")) (by simp) (by decide) (fun H' _ => kb.sq _) ?_ ?_ mono_name
    · rintro i x H3 H4 d Nx hi hd S3 _ ⟨rfl, e2⟩ q
      refine ⟨rfl, _, rfl, _, rfl, sz_2, fun z hz => ⟨sz_2, fun y hy => q _ _ ((Same.new hz).trans (Same.new hy)) ?_⟩⟩
      have hn : ∃ n, x = .str n ∧ d = nameVar "built" n := by
        rw [List.getElem?_map] at e2 hd
        cases en : builtNames[i]? with
        | none => rw [en] at e2; cases e2
        | some n => rw [en] at e2 hd; exact ⟨n, (Option.some.inj e2).symm, (Option.some.inj hd).symm⟩
      obtain ⟨n, rfl, rfl⟩ := hn
      exact Dt.made hy (.cons (.str _) (.cons (Dt.made hz (.cons (.str _) (.cons (.str _) .nil))) .nil))
    intro H2 vs2 S2 d2 a2
    have d1' := S2 _ _ d1
    have n2 : D ≠ D2 := ne_of_none d1 hD2
    have l1 : vs1.length = 16 := by rw [a1.length]; decide
    have l2 : vs2.length = 13 := by rw [a2.length]; decide
    refine ⟨D, D2, vs1, vs2, rfl, rfl, d1', d2, by rw [l1, l2]; decide, ?_⟩
    have kt3 : KeepT K H2 (upd H2 D (.lst (vs1 ++ vs2))) := KeepT.upd d1'
    have a12 := DtAll.app (DtAll.keepT (KeepT.trans (Same.keepT S2) kt3) a1) (DtAll.keepT kt3 a2)
    have S3 : Same H (upd H2 D (.lst (vs1 ++ vs2))) := fun b o e => by rw [upd_ne (ne_of_none e hD)]; exact S2 _ _ (S1 _ _ e)
    have d3 : upd H2 D (.lst (vs1 ++ vs2)) D = some (.lst (vs1 ++ vs2)) := upd_same
    generalize upd H2 D (.lst (vs1 ++ vs2)) = H3 at a12 S3 d3 ⊢
    -- the host's functions
    refine ⟨_, rfl, .inl ⟨rfl, _, SqL.of d3⟩, _, rfl, t, rfl, ⟨_, SqT.mono ht S3⟩, fun D4 hD4 => ?_⟩
    refine lc_dt (K := K) (walk_tup (xs := hs.map V.str)) hD4 (hs.map (nameVar "host")) (by simp) (Nat.lt_of_le_of_lt (by simpa using hl) (show 1000 < sizeLine by decide)) (fun H' S => SqT.mono ht (S3.trans S)) ?_ ?_ mono_name
    · rintro i x H4 H5 d Nx hi hd S4 _ ⟨rfl, e2⟩ q
      refine ⟨rfl, _, rfl, _, rfl, sz_2, fun z hz => ⟨sz_2, fun y hy => q _ _ ((Same.new hz).trans (Same.new hy)) ?_⟩⟩
      have hn : ∃ n, x = .str n ∧ d = nameVar "host" n := by
        rw [List.getElem?_map] at e2 hd
        cases en : hs[i]? with
        | none => rw [en] at e2; cases e2
        | some n => rw [en] at e2 hd; exact ⟨n, (Option.some.inj e2).symm, (Option.some.inj hd).symm⟩
      obtain ⟨n, rfl, rfl⟩ := hn
      exact Dt.made hy (.cons (.str _) (.cons (Dt.made hz (.cons (.str _) (.cons (.str _) .nil))) .nil))
    intro H4 vs4 S4 d4 a4
    have d3' := S4 _ _ d3
    have l4 : vs4.length ≤ 1000 := by rw [a4.length]; simpa using hl
    refine ⟨D, D4, vs1 ++ vs2, vs4, rfl, rfl, d3', d4, ?_, ?_⟩
    · rw [List.length_append, l1, l2]; exact Nat.le_trans (Nat.add_le_add_left l4 _) (by decide)
    have kt5 : KeepT K H4 (upd H4 D (.lst (vs1 ++ vs2 ++ vs4))) := KeepT.upd d3'
    have a14 := DtAll.app (DtAll.keepT (KeepT.trans (Same.keepT S4) kt5) a12) (DtAll.keepT kt5 a4)
    have S5 : Same H (upd H4 D (.lst (vs1 ++ vs2 ++ vs4))) := fun b o e => by rw [upd_ne (ne_of_none e hD)]; exact S4 _ _ (S3 _ _ e)
    have d5 : upd H4 D (.lst (vs1 ++ vs2 ++ vs4)) D = some (.lst (vs1 ++ vs2 ++ vs4)) := upd_same
    generalize upd H4 D (.lst (vs1 ++ vs2 ++ vs4)) = H5 at a14 S5 d5 ⊢
    -- heap = [("scope", ..)]
    refine ⟨_, rfl, D, _, rfl, .inl ⟨SqL.of d5, fun t1 h1 => ⟨sz_0, fun t2 h2 => ⟨sz_0, fun t3 h3 => ⟨_, rfl, (by show 6 ≤ sizeLine; decide), fun t4 h4 => ⟨sz_1, fun hp hhp => ?_⟩⟩⟩⟩⟩⟩
    have v1 : Dt K (upd H5 t1 (.tup (vs1 ++ vs2 ++ vs4))) (.ref t1) (.tuple (startVars hs)) := Dt.made h1 a14
    have v2 := Dt.mono (Same.new (o := .tup []) h2) v1
    have v3 := Dt.mono (Same.new (o := .tup []) h3) v2
    have w2 : Dt K (upd (upd H5 t1 (.tup (vs1 ++ vs2 ++ vs4))) t2 (.tup [])) (.ref t2) (.tuple []) := Dt.made h2 .nil
    have w3 := Dt.mono (Same.new (o := .tup []) h3) w2
    have w4 : Dt K (upd (upd (upd H5 t1 (.tup (vs1 ++ vs2 ++ vs4))) t2 (.tup [])) t3 (.tup [])) (.ref t3) (.tuple []) := Dt.made h3 .nil
    have v4 := Dt.mono (Same.new (o := .lst [.ref t4]) hhp) (Dt.made h4 (.cons (.str "scope") (.cons v3 (.cons w3 (.cons w4 (.cons (.int (-1)) (.cons (.bl false) .nil)))))))
    have S6 := S5.trans ((Same.new h1).trans ((Same.new h2).trans ((Same.new h3).trans ((Same.new (o := .tup [.str "scope", .ref t1, .ref t2, .ref t3, .int (-1), .bl false]) h4).trans (Same.new (o := .lst [.ref t4]) hhp)))))
    have nh : H hp = none := Same.free (S5.trans ((Same.new h1).trans ((Same.new h2).trans ((Same.new h3).trans (Same.new (o := .tup [.str "scope", .ref t1, .ref t2, .ref t3, .int (-1), .bl false]) h4))))) hhp
    refine fun ac2 kc2 => fun ab2 kb2 => ⟨ac2, ab2, _, _, rfl, .inr ⟨kc2.sq _, kb2.sq _, ?_⟩⟩
    refine RZ.for_zipT (xs := clsNames.map V.str) (ys := clsBases.map V.int) rfl (fun i σ H' => ∃ y3 y5, σ = [some (.ref t), some (.ref D), none, y3, some (.ref hp), y5] ∧ Same H H' ∧ ListAt K H' hp (PyData.tuple [.str "scope", .tuple (startVars hs), .tuple [], .tuple [], .int (-1), .bool false] :: (List.zipWith clsObj clsNames clsBases).take i))
      ⟨none, none, rfl, S6, _, upd_same, .cons v4 .nil⟩ (fun _ _ _ _ => ⟨kc2.sq _, kb2.sq _⟩) ?_ ?_
    · rintro i x y T1 σ H6 hx hy ⟨y3, y5, rfl, S7, xs, hxs, ax⟩ hT1
      have xs1 := Same.new (o := .tup [x, y]) hT1 _ _ hxs
      refine ⟨T1, _, rfl, SqT.of upd_same, rfl, _, _, rfl, _, _, rfl, rfl, _, rfl, .inl ⟨rfl, _, SqL.of xs1⟩, _, rfl, _, rfl, sz_0, fun u hu => ⟨sz_4, fun z hz => ?_⟩⟩
      have hn : ∃ n b, x = .str n ∧ y = .int b ∧ (List.zipWith clsObj clsNames clsBases)[i]? = some (clsObj n b) := by
        rw [List.getElem?_map] at hx hy
        cases en : clsNames[i]? with
        | none => rw [en] at hx; cases hx
        | some n =>
          cases eb : clsBases[i]? with
          | none => rw [eb] at hy; cases hy
          | some b =>
            rw [en] at hx; rw [eb] at hy
            exact ⟨n, b, (Option.some.inj hx).symm, (Option.some.inj hy).symm, by rw [List.getElem?_zipWith, en, eb]⟩
      obtain ⟨n, b, rfl, rfl, he⟩ := hn
      have S8 := (Same.new (o := .tup [.str n, .int b]) hT1).trans ((Same.new (o := .tup []) hu).trans (Same.new (o := .tup [.str "class", .str n, .int b, .ref u]) hz))
      have xs2 := S8 _ _ hxs
      have dz : Dt K _ (.ref z) (clsObj n b) := Dt.made hz (.cons (.str "class") (.cons (.str n) (.cons (.int b) (.cons (Dt.made hu .nil) .nil))))
      have ax2 := DtAll.mono S8 ax
      generalize upd (upd (upd H6 T1 _) u _) z _ = H7 at S8 xs2 dz ax2
      have lx : xs.length ≤ 1 + 16 := by
        rw [ax.length]
        have := List.length_take_le' i (List.zipWith clsObj clsNames clsBases)
        have e16 : (List.zipWith clsObj clsNames clsBases).length = 16 := by decide
        simp only [List.length_cons]
        omega
      refine ⟨hp, xs, .ref z, rfl, rfl, xs2, Nat.lt_of_le_of_lt lx (by decide), _, _, rfl, fun q o e => ?_, _, upd_same, ?_⟩
      · rw [upd_ne (ne_of_none e nh)]
        exact S8 _ _ (S7 _ _ e)
      · rw [List.take_succ, he, ← List.cons_append]
        exact DtAll.app (DtAll.keepT (KeepT.upd xs2) ax2) (.cons (Dt.keepT (KeepT.upd xs2) dz) .nil)
    · rintro σ H6 ⟨y3, y5, rfl, S7, ax⟩
      exact ⟨_, rfl, k hp H6 nh S7 ax⟩
end

section
--SPLIT
end
abbrev s_is_number : Stmt := top 19
abbrev N_is_number : List Str := ["value"]
abbrev P_is_number : List Str := ["value"]
theorem sc_is_number : FnScope N_is_number P_is_number (defScope s_is_number) := ⟨rfl, rfl, rfl, by decide +kernel, rfl, by decide +kernel, by decide +kernel⟩
abbrev s_same_leaf : Stmt := top 24
abbrev N_same_leaf : List Str := ["a", "b"]
abbrev P_same_leaf : List Str := ["a", "b"]
theorem sc_same_leaf : FnScope N_same_leaf P_same_leaf (defScope s_same_leaf) := ⟨rfl, rfl, rfl, by decide +kernel, rfl, by decide +kernel, by decide +kernel⟩
section
/-! values and rows of a heap -/
inductive Vl
  | non | bool (b : Bool) | int (i : Int) | text (z : Str) | span (a b : Int) | ref (k : Nat) | built (n : Str) | host (n : Str)
  deriving DecidableEq
def vlD : Vl → PyData
  | .non => .tuple [.str "none"]
  | .bool b => .tuple [.str "bool", .bool b]
  | .int i => .tuple [.str "int", .int i]
  | .text z => .tuple [.str "text", .str z]
  | .span a b => .tuple [.str "span", .int a, .int b]
  | .ref k => .tuple [.str "ref", .int (k : Nat)]
  | .built n => .tuple [.str "built", .str n]
  | .host n => .tuple [.str "host", .str n]
def kn : Vl → Nat
  | .non => 0 | .bool _ => 1 | .int _ => 2 | .text _ => 3 | .span _ _ => 4 | .ref _ => 5 | .built _ => 6 | .host _ => 7
def nmK : Nat → Str
  | 0 => "none" | 1 => "bool" | 2 => "int" | 3 => "text" | 4 => "span" | 5 => "ref" | 6 => "built" | _ => "host"
def knd (x : Vl) : Str := nmK (kn x)
theorem kn_lt (x : Vl) : kn x < 8 := by cases x <;> simp [kn]
theorem nmK_inj : ∀ i < 8, ∀ j < 8, i ≠ j → nmK i ≠ nmK j := by decide +kernel
theorem knd_ne {x y : Vl} (h : kn x ≠ kn y) : knd x ≠ knd y := nmK_inj _ (kn_lt x) _ (kn_lt y) h
theorem knd_is (x : Vl) (n : Nat) (hn : n < 8) : decide (V.str (knd x) = V.str (nmK n)) = decide (kn x = n) := by
  by_cases h : kn x = n
  · rw [decide_eq_true h, ← h]; exact decide_eq_true rfl
  · rw [decide_eq_false h]; exact decide_eq_false fun e => nmK_inj _ (kn_lt x) _ hn h (V.str.inj e)
def resD : Vl → List PyData
  | .non => [] | .bool b => [.bool b] | .int i => [.int i] | .text z => [.str z] | .span a b => [.int a, .int b] | .ref k => [.int (k : Nat)] | .built n => [.str n] | .host n => [.str n]
theorem vlD_eq (x : Vl) : vlD x = .tuple (.str (knd x) :: resD x) := by cases x <;> rfl
def numV : Vl → Option Int
  | .bool b => some (if b then 1 else 0)
  | .int i => some i
  | _ => none
def slx (x y : Vl) : Bool := match numV x, numV y with
  | some i, some j => decide (i = j)
  | _, _ => decide (x = y)
def sl (x y : Vl) : Bool := match x, y with
  | .span a b, .span c d => if a = b then decide (c = d) else decide (a = c ∧ b = d)
  | x, y => slx x y
/-- what == can take -/
def vOk : Vl → Prop
  | .text z => PyData.canLay0 (.str z) = true
  | .built n => PyData.canLay0 (.str n) = true
  | .host n => PyData.canLay0 (.str n) = true
  | _ => True
theorem vOk.shp {x : Vl} (h : vOk x) : Shp 1 (vlD x) := by
  have s : ∀ z : Str, PyData.canLay0 (.str z) = true → Shp 0 (.str z) := fun z h => Shp.str h
  cases x with
  | non => exact Shp.tup (Shp.cons2 (s _ (by decide +kernel)) Shp.none2)
  | bool b => exact Shp.tup (Shp.cons2 (s _ (by decide +kernel)) (Shp.cons2 (Shp.bool 0 b) Shp.none2))
  | int i => exact Shp.tup (Shp.cons2 (s _ (by decide +kernel)) (Shp.cons2 (Shp.int 0 i) Shp.none2))
  | text z => exact Shp.tup (Shp.cons2 (s _ (by decide +kernel)) (Shp.cons2 (s z h) Shp.none2))
  | span a b => exact Shp.tup (Shp.cons2 (s _ (by decide +kernel)) (Shp.cons2 (Shp.int 0 a) (Shp.cons2 (Shp.int 0 b) Shp.none2)))
  | ref k => exact Shp.tup (Shp.cons2 (s _ (by decide +kernel)) (Shp.cons2 (Shp.int 0 _) Shp.none2))
  | built n => exact Shp.tup (Shp.cons2 (s _ (by decide +kernel)) (Shp.cons2 (s n h) Shp.none2))
  | host n => exact Shp.tup (Shp.cons2 (s _ (by decide +kernel)) (Shp.cons2 (s n h) Shp.none2))
theorem bD {α : Type} [BEq α] [LawfulBEq α] [DecidableEq α] (a b : α) : (a == b) = decide (a = b) := by
  by_cases e : a = b
  · subst e; simp
  · simp [e]
theorem kndNe : ∀ x y : Vl, kn x ≠ kn y → PyData.eqv (vlD x) (vlD y) = false := fun x y h => by
  rw [vlD_eq, vlD_eq]
  show (PyData.eqv (.str (knd x)) (.str (knd y)) && _) = false
  have : PyData.eqv (.str (knd x)) (.str (knd y)) = false := by
    show (knd x == knd y) = false
    simpa using knd_ne h
  rw [this]
  rfl
theorem eqv_vl (x y : Vl) (h : numV x = none ∨ numV y = none) : PyData.eqv (vlD x) (vlD y) = decide (x = y) := by
  by_cases hk : kn x = kn y
  · cases x <;> cases y <;> first | (simp [kn] at hk; done) | skip
    · rfl
    · rcases h with h | h <;> cases h
    · rcases h with h | h <;> cases h
    · simp [vlD, PyData.eqv, PyData.eqvAll, bD]
    · simp [vlD, PyData.eqv, PyData.eqvAll, bD]
    · rename_i a b
      simp [vlD, PyData.eqv, PyData.eqvAll, bD]
      omega
    · simp [vlD, PyData.eqv, PyData.eqvAll, bD]
    · simp [vlD, PyData.eqv, PyData.eqvAll, bD]
  · rw [kndNe x y hk, decide_eq_false fun e => hk (by rw [e])]
theorem sl_num {x y : Vl} {i j : Int} (hx : numV x = some i) (hy : numV y = some j) : sl x y = decide (i = j) := by
  cases x <;> cases hx <;> cases y <;> cases hy <;> rfl
theorem sl_oth {x y : Vl} (h : numV x = none ∨ numV y = none) (hs : ∀ a b c d, x = .span a b → y = .span c d → a ≠ b) : sl x y = decide (x = y) := by
  unfold sl
  split
  · rename_i a b c d
    rw [if_neg (hs a b c d rfl rfl)]
    simp
  · unfold slx
    rcases h with h | h
    · rw [h]
    · rw [h]; split <;> first | rfl | (rename_i h2; cases h2)
end
section
variable {P : Program} {w : World} {K : PySem.W.Frag} {mg : Str → Option Value} {base : Heap}
theorem dvl {H : Hp} {v : V} {x : Vl} (h : Dt K H v (vlD x)) : ∃ q ws, v = .ref q ∧ SqT K H q (.str (knd x) :: ws) ∧ DtAll K H ws (resD x) := by
  rw [vlD_eq] at h
  cases h with
  | tup hs ha =>
    cases ha with
    | cons h1 h2 =>
      cases dt_str h1
      exact ⟨_, _, rfl, hs, h2⟩
def spIsNumV (K : PySem.W.Frag) : Sp := fun vs H Q _ => ∃ (v : V) (x : Vl), vs = [v] ∧ Dt K H v (vlD x) ∧ ∀ H', Same H H' → Q (.bl (numV x).isSome) H'
theorem ok_isnumV {f : Addr} {fd : FuncData} (F : Fun K "is_number" "is_number" s_is_number f fd) (T : Txt K mg) : FnG P w K mg base CX0 1 f fd P_is_number (spIsNumV K) := by
  refine okG0 F sc_is_number (fun vs H Q E h => ?_) fun cdv A outer s H vs Q E hr hg h => ?_
  · obtain ⟨v, x, rfl, _⟩ := h
    rfl
  · obtain ⟨v, x, rfl, hd, k⟩ := h
    obtain ⟨q, ws, rfl, hs, _⟩ := dvl hd
    have e0 : ∀ i < 8, inV (V.str (nmK i)) [V.str "int", V.str "bool"] = (i == 1 || i == 2) := by decide +kernel
    have e : inV (V.str (knd x)) [V.str "int", V.str "bool"] = (numV x).isSome := (e0 _ (kn_lt x)).trans (by cases x <;> rfl)
    refine ⟨_, (pss_one (ps_ret (pe_cmpR op_in_seq (pe_ix ix_tup (pv 0) pe_int (fun _ _ => rfl)) (pe_tup (pa_cons pe_str (pa_cons pe_str pa_nil))) (by rfl)))), ?_⟩
    refine ⟨_, rfl, q, _, _, _, rfl, rfl, hs, at0, sz_2, fun u hu => ⟨u, _, rfl, .inr (SqT.of upd_same), rfl, rfl, ?_⟩⟩
    rw [if_neg Bool.false_ne_true, e]
    exact k _ (Same.new hu)
def spSameLeaf (K : PySem.W.Frag) : Sp := fun vs H Q _ => ∃ (v u : V) (x y : Vl), vs = [v, u] ∧ Dt K H v (vlD x) ∧ Dt K H u (vlD y) ∧ vOk x ∧ vOk y ∧ ∀ H', Same H H' → Q (.bl (sl x y)) H'
theorem num_d {x : Vl} {i : Int} (h : numV x = some i) : ∃ d, resD x = [d] ∧ Shp 0 d ∧ ((d = .int i) ∨ ∃ b, d = .bool b ∧ i = if b then 1 else 0) := by
  cases x <;> cases h
  · exact ⟨_, rfl, Shp.bool 0 _, .inr ⟨_, rfl, rfl⟩⟩
  · exact ⟨_, rfl, Shp.int 0 _, .inl rfl⟩
theorem ok_sameleaf {f : Addr} {fd : FuncData} (F : Fun K "same_leaf" "same_leaf" s_same_leaf f fd) (T : Txt K mg) (U_is_number : Use P w K mg base CX0 "is_number" 1 P_is_number (spIsNumV K)) : FnG P w K mg base CX0 2 f fd P_same_leaf (spSameLeaf K) := by
  refine okG0 F sc_same_leaf (fun vs H Q E h => ?_) fun cdv A outer s H vs Q E hr hg h => ?_
  · obtain ⟨v, u, x, y, rfl, _⟩ := h
    rfl
  · obtain ⟨v, u, x, y, rfl, hx, hy, ox, oy, k⟩ := h
    refine ⟨_, (C8.pss_cut (ps_if (PW.pt (pw_and (pt_val (pe_use U_is_number (hr.mono (by decide)) hg rfl (pa_cons (pv 0) pa_nil))) (pw_and1 (pt_val (pe_use U_is_number (hr.mono (by decide)) hg rfl (pa_cons (pv 1) pa_nil))))))
   (pss_one (ps_ret (pe_cmpR (op_eqD hr.units) (pe_ix ix_tup (pv 0) pe_int (fun _ _ => rfl)) (pe_ix ix_tup (pv 1) pe_int (fun _ _ => rfl)) (nomark _))))
   pss_nil)
  (C8.pss_cut (ps_if (PW.pt (pw_and (pt_cmpR op_eq (pe_ix ix_tup (pv 0) pe_int (fun _ _ => rfl)) pe_str (nomark _)) (pw_and (pt_cmpR op_eq (pe_ix ix_tup (pv 1) pe_int (fun _ _ => rfl)) pe_str (nomark _)) (pw_and1 (pt_cmpR (op_eqD hr.units) (pe_ix ix_tup (pv 0) pe_int (fun _ _ => rfl)) (pe_ix ix_tup (pv 0) pe_int (fun _ _ => rfl)) (nomark _))))))
   (pss_one (ps_ret (pe_cmpR (op_eqD hr.units) (pe_ix ix_tup (pv 1) pe_int (fun _ _ => rfl)) (pe_ix ix_tup (pv 1) pe_int (fun _ _ => rfl)) (nomark _))))
   pss_nil)
  (pss_one (ps_ret (pe_cmpR (op_eqD hr.units) (pv 0) (pv 1) (nomark _)))))), ?_⟩
    obtain ⟨q1, w1, rfl, hs1, da1⟩ := dvl hx
    obtain ⟨q2, w2, rfl, hs2, da2⟩ := dvl hy
    refine ⟨fun σ H1 => σ = [some (.ref q1), some (.ref q2)] ∧ Same H H1 ∧ (numV x = none ∨ numV y = none), ?_, ?_⟩
    · refine ⟨_, rfl, _, x, rfl, hx, fun H1 S1 => ⟨_, rfl, ?_⟩⟩
      cases hnx : numV x with
      | none => exact iteFb rfl ⟨rfl, S1, .inl rfl⟩
      | some i =>
        refine iteTb rfl ⟨_, rfl, _, y, rfl, hy.mono S1, fun H2 S2 => ⟨_, rfl, ?_⟩⟩
        cases hny : numV y with
        | none => exact iteFb rfl ⟨rfl, S1.trans S2, .inr rfl⟩
        | some j =>
          refine iteTb rfl ?_
          obtain ⟨d, ed, sd, hd⟩ := num_d hnx
          obtain ⟨e, ee, se, he⟩ := num_d hny
          rw [ed] at da1
          rw [ee] at da2
          obtain ⟨v1, _, rfl, dv1, _⟩ := da1.cons_inv
          obtain ⟨v2, _, rfl, dv2, _⟩ := da2.cons_inv
          have S := S1.trans S2
          refine ⟨_, rfl, q1, _, _, _, rfl, rfl, Same.tupl S hs1, at1, _, rfl, q2, _, _, _, rfl, rfl, Same.tupl S hs2, at1, d, e, (dv1.mono S).dp, (dv2.mono S).dp, sd.sh (by decide), se.sh (by decide), ?_⟩
          have eq : PyData.eqv d e = sl x y := by
            rw [sl_num hnx hny]
            rcases hd with rfl | ⟨b, rfl, rfl⟩ <;> rcases he with rfl | ⟨c, rfl, rfl⟩
            · exact bD _ _
            · exact bD _ _
            · exact bD _ _
            · show (b == c) = _
              cases b <;> cases c <;> rfl
          rw [eq]
          exact k _ S
    rintro _ H1 ⟨rfl, S1, hno⟩
    refine ⟨fun σ H2 => σ = [some (.ref q1), some (.ref q2)] ∧ Same H H2 ∧ ∀ a b c d, x = .span a b → y = .span c d → a ≠ b, ?_, ?_⟩
    · refine ⟨_, rfl, q1, _, _, _, rfl, rfl, Same.tupl S1 hs1, at0, rfl, _, rfl, ?_⟩
      by_cases c1 : kn x = 4
      · refine iteTb ((knd_is x 4 (by decide)).trans (decide_eq_true c1)) ?_
        refine ⟨_, rfl, q2, _, _, _, rfl, rfl, Same.tupl S1 hs2, at0, rfl, _, rfl, ?_⟩
        by_cases c2 : kn y = 4
        · refine iteTb ((knd_is y 4 (by decide)).trans (decide_eq_true c2)) ?_
          cases x with
          | span a b =>
            cases y with
            | span c d =>
              obtain ⟨v1, _, rfl, dv1, da1⟩ := da1.cons_inv
              obtain ⟨v2, _, rfl, dv2, da1⟩ := da1.cons_inv
              obtain ⟨u1, _, rfl, du1, da2⟩ := da2.cons_inv
              obtain ⟨u2, _, rfl, du2, da2⟩ := da2.cons_inv
              refine ⟨_, rfl, q1, _, _, _, rfl, rfl, Same.tupl S1 hs1, at1, _, rfl, q1, _, _, _, rfl, rfl, Same.tupl S1 hs1, at2, .int a, .int b, (dv1.mono S1).dp, (dv2.mono S1).dp, rfl, rfl, _, rfl, ?_⟩
              have e1 : PyData.eqv (.int a) (.int b) = decide (a = b) := bD _ _
              rw [e1]
              refine ite3 (fun hc => ?_) fun hc => ?_
              · have hab := of_decide_eq_true hc
                refine ⟨_, rfl, q2, _, _, _, rfl, rfl, Same.tupl S1 hs2, at1, _, rfl, q2, _, _, _, rfl, rfl, Same.tupl S1 hs2, at2, .int _, .int d, (du1.mono S1).dp, (du2.mono S1).dp, rfl, rfl, ?_⟩
                have e2 : ∀ c : Int, PyData.eqv (.int c) (.int d) = decide (c = d) := fun c => bD _ _
                rw [e2]
                have e3 : sl (.span a b) (.span c d) = decide (c = d) := by show (if a = b then decide (c = d) else decide (a = c ∧ b = d)) = _; rw [if_pos hab]
                rw [← e3]
                exact k _ S1
              · exact ⟨rfl, S1, fun a' b' c' d' h _ => by cases h; exact of_decide_eq_false hc⟩
            | _ => simp [kn] at c2
          | _ => simp [kn] at c1
        · exact iteFb ((knd_is y 4 (by decide)).trans (decide_eq_false c2)) (iteFb rfl ⟨rfl, S1, fun _ _ _ _ _ h => absurd (by rw [h]; rfl) c2⟩)
      · exact iteFb ((knd_is x 4 (by decide)).trans (decide_eq_false c1)) (iteFb rfl ⟨rfl, S1, fun _ _ _ _ h _ => absurd (by rw [h]; rfl) c1⟩)
    · rintro _ H2 ⟨rfl, S2, hsp⟩
      refine ⟨_, rfl, _, rfl, _, _, (hx.mono S2).dp, (hy.mono S2).dp, ox.shp.sh (by decide), oy.shp.sh (by decide), ?_⟩
      rw [eqv_vl x y hno, ← sl_oth hno hsp]
      exact k _ S2
end

section
--SPLIT
end
abbrev s_refusal : Stmt := top 75
abbrev N_refusal : List Str := ["heap", "words", "value"]
abbrev P_refusal : List Str := ["heap", "words", "value"]
theorem sc_refusal : FnScope N_refusal P_refusal (defScope s_refusal) := ⟨rfl, rfl, rfl, by decide +kernel, rfl, by decide +kernel, by decide +kernel⟩
abbrev s_row_kind : Stmt := top 21
abbrev N_row_kind : List Str := ["heap", "value", "kind"]
abbrev P_row_kind : List Str := ["heap", "value"]
theorem sc_row_kind : FnScope N_row_kind P_row_kind (defScope s_row_kind) := ⟨rfl, rfl, rfl, by decide +kernel, rfl, by decide +kernel, by decide +kernel⟩
abbrev s_unsupported : Stmt := top 25
abbrev N_unsupported : List Str := ["heap", "op", "a", "b", "kinds"]
abbrev P_unsupported : List Str := ["heap", "op", "a", "b"]
theorem sc_unsupported : FnScope N_unsupported P_unsupported (defScope s_unsupported) := ⟨rfl, rfl, rfl, by decide +kernel, rfl, by decide +kernel, by decide +kernel⟩
abbrev s_negated : Stmt := top 50
abbrev N_negated : List Str := ["heap", "a"]
abbrev P_negated : List Str := ["heap", "a"]
theorem sc_negated : FnScope N_negated P_negated (defScope s_negated) := ⟨rfl, rfl, rfl, by decide +kernel, rfl, by decide +kernel, by decide +kernel⟩
abbrev s_length : Stmt := top 18
abbrev N_length : List Str := ["heap", "value", "size"]
abbrev P_length : List Str := ["heap", "value"]
theorem sc_length : FnScope N_length P_length (defScope s_length) := ⟨rfl, rfl, rfl, by decide +kernel, rfl, by decide +kernel, by decide +kernel⟩
abbrev s_item : Stmt := top 63
abbrev N_item : List Str := ["heap", "a", "index", "entries", "outcome"]
abbrev P_item : List Str := ["heap", "a", "index"]
theorem sc_item : FnScope N_item P_item (defScope s_item) := ⟨rfl, rfl, rfl, by decide +kernel, rfl, by decide +kernel, by decide +kernel⟩
abbrev s_part : Stmt := top 64
abbrev N_part : List Str := ["heap", "a", "low", "high", "kind", "row", "bound", "first", "last"]
abbrev P_part : List Str := ["heap", "a", "low", "high"]
theorem sc_part : FnScope N_part P_part (defScope s_part) := ⟨rfl, rfl, rfl, by decide +kernel, rfl, by decide +kernel, by decide +kernel⟩
abbrev s_put_item : Stmt := top 65
abbrev N_put_item : List Str := ["heap", "a", "index", "value", "kind", "items", "outcome", "at"]
abbrev P_put_item : List Str := ["heap", "a", "index", "value"]
theorem sc_put_item : FnScope N_put_item P_put_item (defScope s_put_item) := ⟨rfl, rfl, rfl, by decide +kernel, rfl, by decide +kernel, by decide +kernel⟩
abbrev s_drop_item : Stmt := top 66
abbrev N_drop_item : List Str := ["heap", "a", "index", "kind", "rows", "outcome", "at"]
abbrev P_drop_item : List Str := ["heap", "a", "index"]
theorem sc_drop_item : FnScope N_drop_item P_drop_item (defScope s_drop_item) := ⟨rfl, rfl, rfl, by decide +kernel, rfl, by decide +kernel, by decide +kernel⟩
abbrev s_binary : Stmt := top 49
abbrev N_binary : List Str := ["heap", "op", "a", "b"]
abbrev P_binary : List Str := ["heap", "op", "a", "b"]
theorem sc_binary : FnScope N_binary P_binary (defScope s_binary) := ⟨rfl, rfl, rfl, by decide +kernel, rfl, by decide +kernel, by decide +kernel⟩
abbrev s_both_rows : Stmt := top 44
abbrev N_both_rows : List Str := ["heap", "a", "b", "kind"]
abbrev P_both_rows : List Str := ["heap", "a", "b"]
theorem sc_both_rows : FnScope N_both_rows P_both_rows (defScope s_both_rows) := ⟨rfl, rfl, rfl, by decide +kernel, rfl, by decide +kernel, by decide +kernel⟩
abbrev s_order : Stmt := top 43
abbrev N_order : List Str := ["heap", "op", "a", "b", "met", "unequal", "one", "other", "place"]
abbrev P_order : List Str := ["heap", "op", "a", "b"]
theorem sc_order : FnScope N_order P_order (defScope s_order) := ⟨rfl, rfl, rfl, by decide +kernel, rfl, by decide +kernel, by decide +kernel⟩
abbrev s_membership : Stmt := top 47
abbrev N_membership : List Str := ["heap", "a", "b", "kind", "each", "outcome"]
abbrev P_membership : List Str := ["heap", "a", "b"]
theorem sc_membership : FnScope N_membership P_membership (defScope s_membership) := ⟨rfl, rfl, rfl, by decide +kernel, rfl, by decide +kernel, by decide +kernel⟩
abbrev s_opposite : Stmt := top 36
abbrev N_opposite : List Str := ["outcome"]
abbrev P_opposite : List Str := ["outcome"]
theorem sc_opposite : FnScope N_opposite P_opposite (defScope s_opposite) := ⟨rfl, rfl, rfl, by decide +kernel, rfl, by decide +kernel, by decide +kernel⟩
abbrev s_compare : Stmt := top 33
abbrev N_compare : List Str := ["heap", "op", "a", "b"]
abbrev P_compare : List Str := ["heap", "op", "a", "b"]
theorem sc_compare : FnScope N_compare P_compare (defScope s_compare) := ⟨rfl, rfl, rfl, by decide +kernel, rfl, by decide +kernel, by decide +kernel⟩
section
def raiseD (n : Int) (z : Str) : PyData := .tuple [.str "raise", .int n, .str z]
def rk (x : Vl) (kd : Str) : Str := if kn x = 3 then "text" else if kd ∈ (["tuple", "list"] : List Str) then kd else ""
def unsT (op t u : Str) : Str := (("unsupported operands for " ++ op) ++ ": ") ++ ((t ++ " and ") ++ u)
/-- a value, its kind's name and its object's kind -/
structure Va (hds : List PyData) (x : Vl) (t kd : Str) : Prop where
  nm : NameOf hds (vlD x) t
  kd : KindIs hds (vlD x) kd
  len : t.length ≤ 100
end
section
variable {P : Program} {w : World} {K : PySem.W.Frag} {mg : Str → Option Value} {base : Heap}
def spRefuse (K : PySem.W.Frag) : Sp := fun vs H Q _ => ∃ (hp : Addr) (hds : List PyData) (ws : Str) (v : V) (d : PyData) (t : Str), vs = [.ref hp, .str ws, v] ∧ ListAt K H hp hds ∧ Dt K H v d ∧ NameOf hds d t ∧ ws.length ≤ 100 ∧ t.length ≤ 1000 ∧ ∀ u H', Same H H' → Dt K H' u (raiseD 10 ((ws ++ ": ") ++ t)) → Q u H'
theorem ok_refuse {f : Addr} {fd : FuncData} (F : Fun K "_refusal" "_refusal" s_refusal f fd) (T : Txt K mg) (U_kind_name : Use P w K mg base CX0 "kind_name" 1 P_kind_name (spKName K)) : FnG P w K mg base CX0 2 f fd P_refusal (spRefuse K) := by
  refine okG0 F sc_refusal (fun vs H Q E h => ?_) fun cdv A outer s H vs Q E hr hg h => ?_
  · obtain ⟨hp, hds, ws, v, d, t, rfl, _⟩ := h
    rfl
  · obtain ⟨hp, hds, ws, v, d, t, rfl, L, dv, hk, hl, ht, k⟩ := h
    refine ⟨_, (pss_one (ps_ret (pe_tup (pa_cons pe_str (pa_cons (pe_globI T.c_TYPE_ERROR (by rfl)) (pa_cons (pe_op op_add_str (pe_op op_add_str (pv 1) pe_str) (pe_use U_kind_name (hr.mono (by decide)) hg rfl (pa_cons (pv 0) (pa_cons (pv 2) pa_nil)))) pa_nil)))))), ?_⟩
    have ln : (": " : Str).length = 2 := rfl
    refine ⟨_, rfl, _, _, rfl, rfl, ss_le (by rw [ln]; omega), _, rfl, _, rfl, hp, _, v, _, t, rfl, L, dv, hk, _, _, rfl, rfl, ss_le (by rw [strlen_cat, ln]; omega), sz_3, fun u hu => ?_⟩
    exact k _ _ (Same.new hu) (Dt.made hu (.cons (.str _) (.cons (.int _) (.cons (.str _) .nil))))
def spRowKind (K : PySem.W.Frag) : Sp := fun vs H Q _ => ∃ (hp : Addr) (hds : List PyData) (v : V) (x : Vl) (kd : Str), vs = [.ref hp, v] ∧ ListAt K H hp hds ∧ Dt K H v (vlD x) ∧ KindIs hds (vlD x) kd ∧ ∀ H', Same H H' → Q (.str (rk x kd)) H'
theorem ok_rowkind {f : Addr} {fd : FuncData} (F : Fun K "row_kind" "row_kind" s_row_kind f fd) (T : Txt K mg) (U_object_kind : Use P w K mg base CX0 "object_kind" 1 P_object_kind (spKind K)) : FnG P w K mg base CX0 2 f fd P_row_kind (spRowKind K) := by
  refine okG0 F sc_row_kind (fun vs H Q E h => ?_) fun cdv A outer s H vs Q E hr hg h => ?_
  · obtain ⟨hp, hds, v, x, kd, rfl, _⟩ := h
    rfl
  · obtain ⟨hp, hds, v, x, kd, rfl, L, dv, hk, k⟩ := h
    refine ⟨_, (pss_cons (ps_if (pt_cmpR op_eq (pe_ix ix_tup (pv 1) pe_int (fun _ _ => rfl)) pe_str (nomark _))
   (pss_one (ps_ret pe_str))
   pss_nil)
  (pss_cons (ps_set (i := 2) sc_row_kind.nd rfl (Or.inl rfl) (pe_use U_object_kind (hr.mono (by decide)) hg rfl (pa_cons (pv 0) (pa_cons (pv 1) pa_nil))))
  (pss_cons (ps_if (pt_cmpR op_in_seq (pv 2) (pe_tup (pa_cons pe_str (pa_cons pe_str pa_nil))) (by rfl))
   (pss_one (ps_ret (pv 2)))
   pss_nil)
  (pss_one (ps_ret pe_str))))), ?_⟩
    have dv0 := dv
    obtain ⟨q, ws, rfl, hq, _⟩ := dvl dv0
    refine ⟨_, rfl, q, _, _, _, rfl, rfl, hq, at0, rfl, _, rfl, ?_⟩
    by_cases c : kn x = 3
    · refine iteTb ((knd_is x 3 (by decide)).trans (decide_eq_true c)) ?_
      have e : rk x kd = "text" := if_pos c
      rw [e] at k
      exact k _ (Same.refl _)
    · refine iteFb ((knd_is x 3 (by decide)).trans (decide_eq_false c)) ?_
      have e : rk x kd = if kd ∈ (["tuple", "list"] : List Str) then kd else "" := if_neg c
      refine ⟨_, rfl, _, rfl, hp, hds, _, _, kd, rfl, L, dv, hk, _, rfl, sz_2, fun u hu => ⟨u, _, rfl, .inr (SqT.of upd_same), rfl, rfl, _, rfl, ?_⟩⟩
      rw [if_neg Bool.false_ne_true, show [V.str "tuple", V.str "list"] = (["tuple", "list"] : List Str).map V.str from rfl, inV_strs]
      by_cases c2 : kd ∈ (["tuple", "list"] : List Str)
      · refine iteTb (decide_eq_true c2) ⟨_, rfl, ?_⟩
        rw [if_pos c2] at e
        rw [e] at k
        exact k _ (Same.new hu)
      · refine iteFb (decide_eq_false c2) ?_
        rw [if_neg c2] at e
        rw [e] at k
        exact k _ (Same.new hu)
def spUns (K : PySem.W.Frag) : Sp := fun vs H Q _ => ∃ (hp : Addr) (hds : List PyData) (op : Str) (v v2 : V) (d d2 : PyData) (t t2 : Str), vs = [.ref hp, .str op, v, v2] ∧ ListAt K H hp hds ∧ Dt K H v d ∧ Dt K H v2 d2 ∧ NameOf hds d t ∧ NameOf hds d2 t2 ∧ op.length ≤ 100 ∧ t.length ≤ 100 ∧ t2.length ≤ 100 ∧ ∀ u H', Same H H' → Dt K H' u (raiseD 10 (unsT op t t2)) → Q u H'
theorem ok_uns {f : Addr} {fd : FuncData} (F : Fun K "unsupported" "unsupported" s_unsupported f fd) (T : Txt K mg) (U_kind_name : Use P w K mg base CX0 "kind_name" 1 P_kind_name (spKName K)) : FnG P w K mg base CX0 2 f fd P_unsupported (spUns K) := by
  refine okG0 F sc_unsupported (fun vs H Q E h => ?_) fun cdv A outer s H vs Q E hr hg h => ?_
  · obtain ⟨hp, hds, op, v, v2, d, d2, t, t2, rfl, _⟩ := h
    rfl
  · obtain ⟨hp, hds, op, v, v2, d, d2, t, t2, rfl, L, dv, dv2, n1, n2, lo, lt, lt2, k⟩ := h
    refine ⟨_, (pss_cons (ps_set (i := 4) sc_unsupported.nd rfl (Or.inl rfl) (pe_op op_add_str (pe_op op_add_str (pe_use U_kind_name (hr.mono (by decide)) hg rfl (pa_cons (pv 0) (pa_cons (pv 2) pa_nil))) pe_str) (pe_use U_kind_name (hr.mono (by decide)) hg rfl (pa_cons (pv 0) (pa_cons (pv 3) pa_nil)))))
  (pss_one (ps_ret (pe_tup (pa_cons pe_str (pa_cons (pe_globI T.c_TYPE_ERROR (by rfl)) (pa_cons (pe_op op_add_str (pe_op op_add_str (pe_op op_add_str pe_str (pv 1)) pe_str) (pv 4)) pa_nil))))))), ?_⟩
    have l1 : (" and " : Str).length = 5 := rfl
    have l2 : ("unsupported operands for " : Str).length = 25 := rfl
    have l3 : (": " : Str).length = 2 := rfl
    refine ⟨_, rfl, _, rfl, hp, _, v, _, t, rfl, L, dv, n1, _, _, rfl, rfl, ss_le (by rw [l1]; omega), _, rfl, _, rfl, hp, _, v2, _, t2, rfl, L, dv2, n2, _, _, rfl, rfl, ss_le (by rw [strlen_cat, l1]; omega), ?_⟩
    refine ⟨_, rfl, _, _, rfl, rfl, ss_le (by rw [l2]; omega), _, _, rfl, rfl, ss_le (by rw [strlen_cat, l2, l3]; omega), _, rfl, _, _, rfl, rfl, ss_le (by rw [strlen_cat, strlen_cat, strlen_cat, strlen_cat, l1, l2, l3]; omega), sz_3, fun u hu => ?_⟩
    exact k _ _ (Same.new hu) (Dt.made hu (.cons (.str _) (.cons (.int _) (.cons (.str _) .nil))))
end

section
--SPLIT
end
section
variable {P : Program} {w : World} {K : PySem.W.Frag} {mg : Str → Option Value} {base : Heap}
/-- one value refused -/
def spOne (K : PySem.W.Frag) (C : Vl → Str → Prop) (ws : Str) : Sp := fun vs H Q _ => ∃ (hp : Addr) (hds : List PyData) (v : V) (x : Vl) (t kd : Str), vs = [.ref hp, v] ∧ ListAt K H hp hds ∧ Dt K H v (vlD x) ∧ Va hds x t kd ∧ C x kd ∧ ∀ u H', Same H H' → Dt K H' u (raiseD 10 (ws ++ t)) → Q u H'
def spTwo (K : PySem.W.Frag) (C : Vl → Str → Prop) (ws : Str) : Sp := fun vs H Q _ => ∃ (hp : Addr) (hds : List PyData) (v v2 : V) (x : Vl) (t kd : Str), vs = [.ref hp, v, v2] ∧ ListAt K H hp hds ∧ Dt K H v (vlD x) ∧ Va hds x t kd ∧ C x kd ∧ ∀ u H', Same H H' → Dt K H' u (raiseD 10 ((ws ++ ": ") ++ t)) → Q u H'
def spThree (K : PySem.W.Frag) (C : Vl → Str → Prop) (ws : Str) : Sp := fun vs H Q _ => ∃ (hp : Addr) (hds : List PyData) (v v2 v3 : V) (x : Vl) (t kd : Str), vs = [.ref hp, v, v2, v3] ∧ ListAt K H hp hds ∧ Dt K H v (vlD x) ∧ Va hds x t kd ∧ C x kd ∧ ∀ u H', Same H H' → Dt K H' u (raiseD 10 ((ws ++ ": ") ++ t)) → Q u H'
theorem ok_neg {f : Addr} {fd : FuncData} (F : Fun K "negated" "negated" s_negated f fd) (T : Txt K mg) (U_is_number : Use P w K mg base CX0 "is_number" 1 P_is_number (spIsNumV K)) (U_kind_name : Use P w K mg base CX0 "kind_name" 1 P_kind_name (spKName K)) : FnG P w K mg base CX0 2 f fd P_negated (spOne K (fun x _ => numV x = none) "unsupported operand for -: ") := by
  refine okG0 F sc_negated (fun vs H Q E h => ?_) fun cdv A outer s H vs Q E hr hg h => ?_
  · obtain ⟨hp, hds, v, x, t, kd, rfl, _⟩ := h
    rfl
  · obtain ⟨hp, hds, v, x, t, kd, rfl, L, dv, hv, hc, k⟩ := h
    refine ⟨_, (pss_cons (ps_if (pt_val (pe_use U_is_number (hr.mono (by decide)) hg rfl (pa_cons (pv 1) pa_nil)))
   pss_never
   pss_nil)
  (pss_one (ps_ret (pe_tup (pa_cons pe_str (pa_cons (pe_globI T.c_TYPE_ERROR (by rfl)) (pa_cons (pe_op op_add_str pe_str (pe_use U_kind_name (hr.mono (by decide)) hg rfl (pa_cons (pv 0) (pa_cons (pv 1) pa_nil)))) pa_nil))))))), ?_⟩
    have l1 : ("unsupported operand for -: " : Str).length = 27 := rfl
    have := hv.len
    refine ⟨_, rfl, v, x, rfl, dv, fun H1 S1 => ⟨_, rfl, ?_⟩⟩
    refine iteFb (by rw [hc]; rfl) ?_
    refine ⟨_, rfl, _, rfl, hp, hds, v, _, t, rfl, listAt_mono L S1, dv.mono S1, hv.nm, _, _, rfl, rfl, ss_le (by rw [l1]; omega), sz_3, fun u hu => ?_⟩
    exact k _ _ (S1.trans (Same.new hu)) (Dt.made hu (.cons (.str _) (.cons (.int _) (.cons (.str _) .nil))))
theorem ok_len {f : Addr} {fd : FuncData} (F : Fun K "length" "length" s_length f fd) (T : Txt K mg) (U_object_kind : Use P w K mg base CX0 "object_kind" 1 P_object_kind (spKind K)) (U_kind_name : Use P w K mg base CX0 "kind_name" 1 P_kind_name (spKName K)) : FnG P w K mg base CX0 2 f fd P_length (spOne K (fun x kd => kn x ≠ 4 ∧ kn x ≠ 3 ∧ kd ∉ (["tuple", "list", "dict"] : List Str)) "no length: ") := by
  refine okG0 F sc_length (fun vs H Q E h => ?_) fun cdv A outer s H vs Q E hr hg h => ?_
  · obtain ⟨hp, hds, v, x, t, kd, rfl, _⟩ := h
    rfl
  · obtain ⟨hp, hds, v, x, t, kd, rfl, L, dv, hv, ⟨c4, c3, cd⟩, k⟩ := h
    refine ⟨_, (pss_cons (ps_if (pt_cmpR op_eq (pe_ix ix_tup (pv 1) pe_int (fun _ _ => rfl)) pe_str (nomark _))
   pss_never
   pss_nil)
  (pss_cons (ps_if (pt_cmpR op_eq (pe_ix ix_tup (pv 1) pe_int (fun _ _ => rfl)) pe_str (nomark _))
   pss_never
   pss_nil)
  (pss_cons (ps_if (pt_cmpR op_in_seq (pe_use U_object_kind (hr.mono (by decide)) hg rfl (pa_cons (pv 0) (pa_cons (pv 1) pa_nil))) (pe_tup (pa_cons pe_str (pa_cons pe_str (pa_cons pe_str pa_nil)))) (by rfl))
   pss_never
   pss_nil)
  (pss_one (ps_ret (pe_tup (pa_cons pe_str (pa_cons (pe_globI T.c_TYPE_ERROR (by rfl)) (pa_cons (pe_op op_add_str pe_str (pe_use U_kind_name (hr.mono (by decide)) hg rfl (pa_cons (pv 0) (pa_cons (pv 1) pa_nil)))) pa_nil))))))))), ?_⟩
    have l1 : ("no length: " : Str).length = 11 := rfl
    have := hv.len
    have dv0 := dv
    obtain ⟨q, ws, rfl, hq, _⟩ := dvl dv0
    refine ⟨_, rfl, q, _, _, _, rfl, rfl, hq, at0, rfl, _, rfl, iteFb ((knd_is x 4 (by decide)).trans (decide_eq_false c4)) ?_⟩
    refine ⟨_, rfl, q, _, _, _, rfl, rfl, hq, at0, rfl, _, rfl, iteFb ((knd_is x 3 (by decide)).trans (decide_eq_false c3)) ?_⟩
    refine ⟨_, rfl, _, rfl, hp, hds, _, _, kd, rfl, L, dv, hv.kd, sz_3, fun u hu => ⟨u, _, rfl, .inr (SqT.of upd_same), rfl, rfl, _, rfl, ?_⟩⟩
    rw [if_neg Bool.false_ne_true, show [V.str "tuple", V.str "list", V.str "dict"] = (["tuple", "list", "dict"] : List Str).map V.str from rfl, inV_strs]
    have S1 := Same.new (o := .tup [V.str "tuple", V.str "list", V.str "dict"]) hu
    refine iteFb (decide_eq_false cd) ?_
    refine ⟨_, rfl, _, rfl, hp, hds, _, _, t, rfl, listAt_mono L S1, dv.mono S1, hv.nm, _, _, rfl, rfl, ss_le (by rw [l1]; omega), sz_3, fun u hu => ?_⟩
    exact k _ _ (S1.trans (Same.new hu)) (Dt.made hu (.cons (.str _) (.cons (.int _) (.cons (.str _) .nil))))
theorem ok_item {f : Addr} {fd : FuncData} (F : Fun K "item" "item" s_item f fd) (T : Txt K mg) (U_object_kind : Use P w K mg base CX0 "object_kind" 1 P_object_kind (spKind K)) (U_row_kind : Use P w K mg base CX0 "row_kind" 2 P_row_kind (spRowKind K)) (U_refusal : Use P w K mg base CX0 "_refusal" 2 P_refusal (spRefuse K)) : FnG P w K mg base CX0 3 f fd P_item (spTwo K (fun x kd => kd ≠ "dict" ∧ kn x ≠ 4 ∧ rk x kd = "") "no items") := by
  refine okG0 F sc_item (fun vs H Q E h => ?_) fun cdv A outer s H vs Q E hr hg h => ?_
  · obtain ⟨hp, hds, v, v2, x, t, kd, rfl, _⟩ := h
    rfl
  · obtain ⟨hp, hds, v, v2, x, t, kd, rfl, L, dv, hv, ⟨cd, c4, cr⟩, k⟩ := h
    refine ⟨_, (pss_cons (ps_if (pt_cmpR op_eq (pe_use U_object_kind (hr.mono (by decide)) hg rfl (pa_cons (pv 0) (pa_cons (pv 1) pa_nil))) pe_str (nomark _))
   pss_never
   pss_nil)
  (pss_cons (ps_if (PW.pt (pw_and (pt_cmpR op_ne (pe_ix ix_tup (pv 1) pe_int (fun _ _ => rfl)) pe_str (nomark _)) (pw_and1 (pt_cmpR op_eq (pe_use U_row_kind (hr.mono (by decide)) hg rfl (pa_cons (pv 0) (pa_cons (pv 1) pa_nil))) pe_str (nomark _)))))
   (pss_one (ps_ret (pe_use U_refusal (hr.mono (by decide)) hg rfl (pa_cons (pv 0) (pa_cons pe_str (pa_cons (pv 1) pa_nil))))))
   pss_nil)
  pss_never)), ?_⟩
    have := hv.len
    have dv0 := dv
    obtain ⟨q, ws, rfl, hq, _⟩ := dvl dv0
    refine ⟨_, rfl, _, rfl, hp, hds, _, _, kd, rfl, L, dv, hv.kd, rfl, _, rfl, iteFb (dec_str cd) ?_⟩
    refine ⟨_, rfl, q, _, _, _, rfl, rfl, hq, at0, rfl, _, rfl, iteTb (by show (!decide (V.str (knd x) = V.str (nmK 4))) = true; rw [knd_is x 4 (by decide), decide_eq_false c4]; rfl) ?_⟩
    refine ⟨_, rfl, _, rfl, hp, hds, _, x, kd, rfl, L, dv, hv.kd, fun H1 S1 => ⟨rfl, _, rfl, iteTb (by rw [cr]; rfl) ?_⟩⟩
    exact ⟨_, rfl, _, rfl, hp, hds, _, _, _, t, rfl, listAt_mono L S1, dv.mono S1, hv.nm, by decide +kernel, by omega, fun u H' S2 d => k _ _ (S1.trans S2) d⟩
theorem ok_part {f : Addr} {fd : FuncData} (F : Fun K "part" "part" s_part f fd) (T : Txt K mg) (U_row_kind : Use P w K mg base CX0 "row_kind" 2 P_row_kind (spRowKind K)) (U_refusal : Use P w K mg base CX0 "_refusal" 2 P_refusal (spRefuse K)) : FnG P w K mg base CX0 3 f fd P_part (spThree K (fun x kd => rk x kd = "") "no slices") := by
  refine okG0 F sc_part (fun vs H Q E h => ?_) fun cdv A outer s H vs Q E hr hg h => ?_
  · obtain ⟨hp, hds, v, v2, v3, x, t, kd, rfl, _⟩ := h
    rfl
  · obtain ⟨hp, hds, v, v2, v3, x, t, kd, rfl, L, dv, hv, cr, k⟩ := h
    refine ⟨_, (pss_cons (ps_set (i := 4) sc_part.nd rfl (Or.inl rfl) (pe_use U_row_kind (hr.mono (by decide)) hg rfl (pa_cons (pv 0) (pa_cons (pv 1) pa_nil))))
  (pss_cons (ps_if (pt_cmpR op_eq (pv 4) pe_str (nomark _))
   (pss_one (ps_ret (pe_use U_refusal (hr.mono (by decide)) hg rfl (pa_cons (pv 0) (pa_cons pe_str (pa_cons (pv 1) pa_nil))))))
   pss_nil)
  pss_never)), ?_⟩
    have := hv.len
    refine ⟨_, rfl, _, rfl, hp, hds, _, x, kd, rfl, L, dv, hv.kd, fun H1 S1 => ⟨_, rfl, rfl, _, rfl, iteTb (by rw [cr]; rfl) ?_⟩⟩
    exact ⟨_, rfl, _, rfl, hp, hds, _, _, _, t, rfl, listAt_mono L S1, dv.mono S1, hv.nm, by decide +kernel, by omega, fun u H' S2 d => k _ _ (S1.trans S2) d⟩
theorem ok_put {f : Addr} {fd : FuncData} (F : Fun K "put_item" "put_item" s_put_item f fd) (T : Txt K mg) (U_object_kind : Use P w K mg base CX0 "object_kind" 1 P_object_kind (spKind K)) (U_refusal : Use P w K mg base CX0 "_refusal" 2 P_refusal (spRefuse K)) : FnG P w K mg base CX0 3 f fd P_put_item (spThree K (fun _ kd => kd ≠ "list" ∧ kd ≠ "dict") "items cannot be set") := by
  refine okG0 F sc_put_item (fun vs H Q E h => ?_) fun cdv A outer s H vs Q E hr hg h => ?_
  · obtain ⟨hp, hds, v, v2, v3, x, t, kd, rfl, _⟩ := h
    rfl
  · obtain ⟨hp, hds, v, v2, v3, x, t, kd, rfl, L, dv, hv, ⟨c1, c2⟩, k⟩ := h
    refine ⟨_, (pss_cons (ps_set (i := 4) sc_put_item.nd rfl (Or.inl rfl) (pe_use U_object_kind (hr.mono (by decide)) hg rfl (pa_cons (pv 0) (pa_cons (pv 1) pa_nil))))
  (pss_cons (ps_if (pt_cmpR op_eq (pv 4) pe_str (nomark _))
   pss_never
   pss_nil)
  (pss_cons (ps_if (pt_cmpR op_eq (pv 4) pe_str (nomark _))
   pss_never
   pss_nil)
  (pss_one (ps_ret (pe_use U_refusal (hr.mono (by decide)) hg rfl (pa_cons (pv 0) (pa_cons pe_str (pa_cons (pv 1) pa_nil))))))))), ?_⟩
    have := hv.len
    refine ⟨_, rfl, _, rfl, hp, hds, _, _, kd, rfl, L, dv, hv.kd, _, rfl, rfl, _, rfl, iteFb (dec_str c1) ?_⟩
    refine ⟨_, rfl, rfl, _, rfl, iteFb (dec_str c2) ?_⟩
    exact ⟨_, rfl, _, rfl, hp, hds, _, _, _, t, rfl, L, dv, hv.nm, by decide +kernel, by omega, k⟩
theorem ok_drop {f : Addr} {fd : FuncData} (F : Fun K "drop_item" "drop_item" s_drop_item f fd) (T : Txt K mg) (U_object_kind : Use P w K mg base CX0 "object_kind" 1 P_object_kind (spKind K)) (U_refusal : Use P w K mg base CX0 "_refusal" 2 P_refusal (spRefuse K)) : FnG P w K mg base CX0 3 f fd P_drop_item (spTwo K (fun _ kd => kd ∉ (["list", "dict"] : List Str)) "items cannot be deleted") := by
  refine okG0 F sc_drop_item (fun vs H Q E h => ?_) fun cdv A outer s H vs Q E hr hg h => ?_
  · obtain ⟨hp, hds, v, v2, x, t, kd, rfl, _⟩ := h
    rfl
  · obtain ⟨hp, hds, v, v2, x, t, kd, rfl, L, dv, hv, cd, k⟩ := h
    refine ⟨_, (pss_cons (ps_set (i := 3) sc_drop_item.nd rfl (Or.inl rfl) (pe_use U_object_kind (hr.mono (by decide)) hg rfl (pa_cons (pv 0) (pa_cons (pv 1) pa_nil))))
  (pss_cons (ps_if (pt_cmpR op_notIn_seq (pv 3) (pe_tup (pa_cons pe_str (pa_cons pe_str pa_nil))) (by rfl))
   (pss_one (ps_ret (pe_use U_refusal (hr.mono (by decide)) hg rfl (pa_cons (pv 0) (pa_cons pe_str (pa_cons (pv 1) pa_nil))))))
   pss_nil)
  pss_never)), ?_⟩
    have := hv.len
    refine ⟨_, rfl, _, rfl, hp, hds, _, _, kd, rfl, L, dv, hv.kd, _, rfl, sz_2, fun u hu => ⟨u, _, rfl, .inr (SqT.of upd_same), rfl, rfl, _, rfl, ?_⟩⟩
    rw [if_pos rfl, show [V.str "list", V.str "dict"] = (["list", "dict"] : List Str).map V.str from rfl, inV_strs]
    have S1 := Same.new (o := .tup [V.str "list", V.str "dict"]) hu
    refine iteTb (by rw [decide_eq_false cd]; rfl) ?_
    exact ⟨_, rfl, _, rfl, hp, hds, _, _, _, t, rfl, listAt_mono L S1, dv.mono S1, hv.nm, by decide +kernel, by omega, fun u H' S2 d => k _ _ (S1.trans S2) d⟩
end

section
--SPLIT
end
section
/-- two values that binary refuses -/
structure BinBad (op : Str) (x y : Vl) (kx ky : Str) : Prop where
  num : numV x = none ∨ numV y = none
  plus : op = "+" → rk x kx = "" ∨ rk x kx ≠ rk y ky
  tim1 : op = "*" → rk x kx = "" ∨ numV y = none
  tim2 : op = "*" → rk y ky = "" ∨ numV x = none
structure OrdBad (x y : Vl) (kx ky : Str) : Prop where
  num : numV x = none ∨ numV y = none
  text : kn x ≠ 3 ∨ kn y ≠ 3
  rows : kx ∈ (["tuple", "list"] : List Str) → ky ≠ kx
structure MemBad (x y : Vl) (ky : Str) : Prop where
  text : kn x ≠ 3 ∨ kn y ≠ 3
  span : kn y ≠ 4
  row : ky ∉ (["tuple", "list"] : List Str)
  dict : ky ≠ "dict"
def CmpBad (op : Str) (x y : Vl) (kx ky : Str) : Prop := ((op = "in" ∨ op = "notin") ∧ MemBad x y ky) ∨ (op ∈ (["<", "<=", ">", ">="] : List Str) ∧ OrdBad x y kx ky)
def opW (op : Str) : Str := if op = "notin" then "in" else op
end
section
variable {P : Program} {w : World} {K : PySem.W.Frag} {mg : Str → Option Value} {base : Heap}
def spBin (K : PySem.W.Frag) (C : Str → Vl → Vl → Str → Str → Prop) (g : Str → Str) : Sp := fun vs H Q _ => ∃ (hp : Addr) (hds : List PyData) (op : Str) (v v2 : V) (x y : Vl) (t t2 kx ky : Str), vs = [.ref hp, .str op, v, v2] ∧ ListAt K H hp hds ∧ Dt K H v (vlD x) ∧ Dt K H v2 (vlD y) ∧ Va hds x t kx ∧ Va hds y t2 ky ∧ op.length ≤ 100 ∧ C op x y kx ky ∧ ∀ u H', Same H H' → Dt K H' u (raiseD 10 (unsT (g op) t t2)) → Q u H'
theorem ok_binary {f : Addr} {fd : FuncData} (F : Fun K "binary" "binary" s_binary f fd) (T : Txt K mg) (U_is_number : Use P w K mg base CX0 "is_number" 1 P_is_number (spIsNumV K)) (U_row_kind : Use P w K mg base CX0 "row_kind" 2 P_row_kind (spRowKind K)) (U_unsupported : Use P w K mg base CX0 "unsupported" 2 P_unsupported (spUns K)) : FnG P w K mg base CX0 3 f fd P_binary (spBin K BinBad id) := by
  refine okG0 F sc_binary (fun vs H Q E h => ?_) fun cdv A outer s H vs Q E hr hg h => ?_
  · obtain ⟨hp, hds, op, v, v2, x, y, t, t2, kx, ky, rfl, _⟩ := h
    rfl
  · obtain ⟨hp, hds, op, v, v2, x, y, t, t2, kx, ky, rfl, L, dv, dv2, hx, hy, lo, hc, k⟩ := h
    refine ⟨_, (C8.pss_cut (ps_if (PW.pt (pw_and (pt_val (pe_use U_is_number (hr.mono (by decide)) hg rfl (pa_cons (pv 2) pa_nil))) (pw_and1 (pt_val (pe_use U_is_number (hr.mono (by decide)) hg rfl (pa_cons (pv 3) pa_nil))))))
   pss_never
   pss_nil)
  (C8.pss_cut (ps_if (PW.pt (pw_and (pt_cmpR op_eq (pv 1) pe_str (nomark _)) (pw_and (pt_cmpR op_ne (pe_use U_row_kind (hr.mono (by decide)) hg rfl (pa_cons (pv 0) (pa_cons (pv 2) pa_nil))) pe_str (nomark _)) (pw_and1 (pt_cmpR op_eq (pe_use U_row_kind (hr.mono (by decide)) hg rfl (pa_cons (pv 0) (pa_cons (pv 2) pa_nil))) (pe_use U_row_kind (hr.mono (by decide)) hg rfl (pa_cons (pv 0) (pa_cons (pv 3) pa_nil))) (nomark _))))))
   pss_never
   pss_nil)
  (C8.pss_cut (ps_if (PW.pt (pw_and (pt_cmpR op_eq (pv 1) pe_str (nomark _)) (pw_and (pt_cmpR op_ne (pe_use U_row_kind (hr.mono (by decide)) hg rfl (pa_cons (pv 0) (pa_cons (pv 2) pa_nil))) pe_str (nomark _)) (pw_and1 (pt_val (pe_use U_is_number (hr.mono (by decide)) hg rfl (pa_cons (pv 3) pa_nil)))))))
   pss_never
   pss_nil)
  (C8.pss_cut (ps_if (PW.pt (pw_and (pt_cmpR op_eq (pv 1) pe_str (nomark _)) (pw_and (pt_cmpR op_ne (pe_use U_row_kind (hr.mono (by decide)) hg rfl (pa_cons (pv 0) (pa_cons (pv 3) pa_nil))) pe_str (nomark _)) (pw_and1 (pt_val (pe_use U_is_number (hr.mono (by decide)) hg rfl (pa_cons (pv 2) pa_nil)))))))
   pss_never
   pss_nil)
  (pss_one (ps_ret (pe_use U_unsupported (hr.mono (by decide)) hg rfl (pa_cons (pv 0) (pa_cons (pv 1) (pa_cons (pv 2) (pa_cons (pv 3) pa_nil))))))))))), ?_⟩
    refine ⟨fun σ H1 => σ = [some (.ref hp), some (.str op), some v, some v2] ∧ Same H H1, ?_, ?_⟩
    · refine ⟨_, rfl, v, x, rfl, dv, fun H1 S1 => ⟨_, rfl, ?_⟩⟩
      cases hnx : numV x with
      | none => exact iteFb rfl (iteFb rfl ⟨rfl, S1⟩)
      | some i =>
        refine iteTb rfl ⟨_, rfl, _, y, rfl, dv2.mono S1, fun H2 S2 => ⟨_, rfl, ?_⟩⟩
        have hny : numV y = none := hc.num.resolve_left (by rw [hnx]; exact fun h => by cases h)
        exact iteFb (by rw [hny]; rfl) ⟨rfl, S1.trans S2⟩
    rintro _ H1 ⟨rfl, S1⟩
    refine ⟨fun σ H1 => σ = [some (.ref hp), some (.str op), some v, some v2] ∧ Same H H1, ?_, ?_⟩
    · refine ⟨_, rfl, rfl, _, rfl, ?_⟩
      by_cases c : op = "+"
      · refine iteTb (decide_eq_true (by rw [c])) ?_
        refine ⟨_, rfl, _, rfl, hp, hds, _, x, kx, rfl, listAt_mono L S1, dv.mono S1, hx.kd, fun H2 S2 => ⟨rfl, _, rfl, ?_⟩⟩
        have S12 := S1.trans S2
        by_cases c2 : rk x kx = ""
        · exact iteFb (by rw [c2]; rfl) (iteFb rfl ⟨rfl, S12⟩)
        · refine iteTb (by rw [show decide (V.str (rk x kx) = V.str "") = false from dec_str c2]; rfl) ?_
          refine ⟨_, rfl, _, rfl, hp, hds, _, x, kx, rfl, listAt_mono L S12, dv.mono S12, hx.kd, fun H3 S3 => ?_⟩
          have S13 := S12.trans S3
          refine ⟨_, rfl, _, rfl, hp, hds, _, y, ky, rfl, listAt_mono L S13, dv2.mono S13, hy.kd, fun H4 S4 => ⟨rfl, _, rfl, ?_⟩⟩
          exact iteFb (dec_str ((hc.plus c).resolve_left c2)) ⟨rfl, S13.trans S4⟩
      · exact iteFb (dec_str c) (iteFb rfl ⟨rfl, S1⟩)
    rintro _ H1 ⟨rfl, S1⟩
    refine ⟨fun σ H1 => σ = [some (.ref hp), some (.str op), some v, some v2] ∧ Same H H1, ?_, ?_⟩
    · refine ⟨_, rfl, rfl, _, rfl, ?_⟩
      by_cases c : op = "*"
      · refine iteTb (decide_eq_true (by rw [c])) ?_
        refine ⟨_, rfl, _, rfl, hp, hds, _, x, kx, rfl, listAt_mono L S1, dv.mono S1, hx.kd, fun H2 S2 => ⟨rfl, _, rfl, ?_⟩⟩
        have S12 := S1.trans S2
        by_cases c2 : rk x kx = ""
        · exact iteFb (by rw [c2]; rfl) (iteFb rfl ⟨rfl, S12⟩)
        · refine iteTb (by rw [show decide (V.str (rk x kx) = V.str "") = false from dec_str c2]; rfl) ?_
          refine ⟨_, rfl, _, y, rfl, dv2.mono S12, fun H3 S3 => ⟨_, rfl, ?_⟩⟩
          exact iteFb (by rw [(hc.tim1 c).resolve_left c2]; rfl) ⟨rfl, S12.trans S3⟩
      · exact iteFb (dec_str c) (iteFb rfl ⟨rfl, S1⟩)
    rintro _ H1 ⟨rfl, S1⟩
    refine ⟨fun σ H1 => σ = [some (.ref hp), some (.str op), some v, some v2] ∧ Same H H1, ?_, ?_⟩
    · refine ⟨_, rfl, rfl, _, rfl, ?_⟩
      by_cases c : op = "*"
      · refine iteTb (decide_eq_true (by rw [c])) ?_
        refine ⟨_, rfl, _, rfl, hp, hds, _, y, ky, rfl, listAt_mono L S1, dv2.mono S1, hy.kd, fun H2 S2 => ⟨rfl, _, rfl, ?_⟩⟩
        have S12 := S1.trans S2
        by_cases c2 : rk y ky = ""
        · exact iteFb (by rw [c2]; rfl) (iteFb rfl ⟨rfl, S12⟩)
        · refine iteTb (by rw [show decide (V.str (rk y ky) = V.str "") = false from dec_str c2]; rfl) ?_
          refine ⟨_, rfl, _, x, rfl, dv.mono S12, fun H3 S3 => ⟨_, rfl, ?_⟩⟩
          exact iteFb (by rw [(hc.tim2 c).resolve_left c2]; rfl) ⟨rfl, S12.trans S3⟩
      · exact iteFb (dec_str c) (iteFb rfl ⟨rfl, S1⟩)
    rintro _ H1 ⟨rfl, S1⟩
    exact ⟨_, rfl, _, rfl, _, rfl, _, rfl, hp, hds, op, _, _, _, _, t, t2, rfl, listAt_mono L S1, dv.mono S1, dv2.mono S1, hx.nm, hy.nm, lo, hx.len, hy.len, fun u H' S2 d => k _ _ (S1.trans S2) d⟩
def spBoth (K : PySem.W.Frag) : Sp := fun vs H Q _ => ∃ (hp : Addr) (hds : List PyData) (v v2 : V) (x y : Vl) (kx ky : Str), vs = [.ref hp, v, v2] ∧ ListAt K H hp hds ∧ Dt K H v (vlD x) ∧ Dt K H v2 (vlD y) ∧ KindIs hds (vlD x) kx ∧ KindIs hds (vlD y) ky ∧ (kx ∈ (["tuple", "list"] : List Str) → ky ≠ kx) ∧ ∀ H', Same H H' → Q (.bl false) H'
theorem ok_both {f : Addr} {fd : FuncData} (F : Fun K "_both_rows" "_both_rows" s_both_rows f fd) (T : Txt K mg) (U_object_kind : Use P w K mg base CX0 "object_kind" 1 P_object_kind (spKind K)) : FnG P w K mg base CX0 2 f fd P_both_rows (spBoth K) := by
  refine okG0 F sc_both_rows (fun vs H Q E h => ?_) fun cdv A outer s H vs Q E hr hg h => ?_
  · obtain ⟨hp, hds, v, v2, x, y, kx, ky, rfl, _⟩ := h
    rfl
  · obtain ⟨hp, hds, v, v2, x, y, kx, ky, rfl, L, dv, dv2, hx, hy, hc, k⟩ := h
    refine ⟨_, (pss_cons (ps_set (i := 3) sc_both_rows.nd rfl (Or.inl rfl) (pe_use U_object_kind (hr.mono (by decide)) hg rfl (pa_cons (pv 0) (pa_cons (pv 1) pa_nil))))
  (pss_one (ps_ret (pe_and (pe_cmpR op_in_seq (pv 3) (pe_tup (pa_cons pe_str (pa_cons pe_str pa_nil))) (by rfl)) (pe_one (pe_cmpR op_eq (pe_use U_object_kind (hr.mono (by decide)) hg rfl (pa_cons (pv 0) (pa_cons (pv 2) pa_nil))) (pv 3) (nomark _))))))), ?_⟩
    refine ⟨_, rfl, _, rfl, hp, hds, _, _, kx, rfl, L, dv, hx, _, rfl, sz_2, fun u hu => ⟨u, _, rfl, .inr (SqT.of upd_same), rfl, rfl, _, rfl, ?_⟩⟩
    rw [if_neg Bool.false_ne_true, show [V.str "tuple", V.str "list"] = (["tuple", "list"] : List Str).map V.str from rfl, inV_strs]
    have S1 := Same.new (o := .tup [V.str "tuple", V.str "list"]) hu
    by_cases c : kx ∈ (["tuple", "list"] : List Str)
    · refine iteTb (decide_eq_true c) ?_
      refine ⟨_, rfl, _, rfl, hp, hds, _, _, ky, rfl, listAt_mono L S1, dv2.mono S1, hy, _, rfl, rfl, ?_⟩
      rw [show decide (V.str ky = V.str kx) = false from dec_str (hc c)]
      exact k _ S1
    · rw [decide_eq_false c]
      exact iteFb rfl (k _ S1)
theorem ok_order {f : Addr} {fd : FuncData} (F : Fun K "_order" "_order" s_order f fd) (T : Txt K mg) (U_is_number : Use P w K mg base CX0 "is_number" 1 P_is_number (spIsNumV K)) (U_both_rows : Use P w K mg base CX0 "_both_rows" 2 P_both_rows (spBoth K)) (U_unsupported : Use P w K mg base CX0 "unsupported" 2 P_unsupported (spUns K)) : FnG P w K mg base CX0 3 f fd P_order (spBin K (fun _ => OrdBad) id) := by
  refine okG0 F sc_order (fun vs H Q E h => ?_) fun cdv A outer s H vs Q E hr hg h => ?_
  · obtain ⟨hp, hds, op, v, v2, x, y, t, t2, kx, ky, rfl, _⟩ := h
    rfl
  · obtain ⟨hp, hds, op, v, v2, x, y, t, t2, kx, ky, rfl, L, dv, dv2, hx, hy, lo, hc, k⟩ := h
    have hu : (A.deeper (envOfC "_order" (defScope s_order) s.heap.objs.size f cdv)).units + 1 < cLine := Nat.lt_of_le_of_lt (by omega) hr.units
    refine ⟨_, (pss_cons (ps_set (i := 4) sc_order.nd rfl (Or.inl rfl) (pe_callTy0 cr_set0K (by rfl) T.b_set (by decide +kernel)))
  (pss_cons (ps_set (i := 5) sc_order.nd rfl (Or.inl rfl) pe_dnewK)
  (C8.pss_cut (ps_while PassesOwn.never (pt_up (PW.pt (pw_and (pt_val (pe_use U_both_rows (hr.mono (by decide)) hg rfl (pa_cons (pv 0) (pa_cons (pv 2) (pa_cons (pv 3) pa_nil))))) (pw_and1 (pt_cmp (pc_dnotin hu (pe_tup (pa_cons (pv 2) (pa_cons (pv 3) pa_nil))) (pv 4)))))))
   pss_never)
  (C8.pss_cut (ps_if (PW.pt (pw_or (PW.pt (pw_and (pt_val (pe_use U_is_number (hr.mono (by decide)) hg rfl (pa_cons (pv 2) pa_nil))) (pw_and1 (pt_val (pe_use U_is_number (hr.mono (by decide)) hg rfl (pa_cons (pv 3) pa_nil)))))) (pw_or1 (PW.pt (pw_and (pt_cmpR op_eq (pe_ix ix_tup (pv 2) pe_int (fun _ _ => rfl)) pe_str (nomark _)) (pw_and1 (pt_cmpR op_eq (pe_ix ix_tup (pv 3) pe_int (fun _ _ => rfl)) pe_str (nomark _))))))))
   pss_never
   pss_nil)
  (pss_one (ps_ret (pe_use U_unsupported (hr.mono (by decide)) hg rfl (pa_cons (pv 0) (pa_cons (pv 1) (pa_cons (pv 2) (pa_cons (pv 3) pa_nil))))))))))), ?_⟩
    refine ⟨rfl, fun p hp0 => fun p2 hp2 => ?_⟩
    have S0 : Same H (upd (upd H p (SetK (cxOf CX0 P w K mg base N_order (Str.ofString "_order") (defScope s_order) f cdv A outer s H E).nox.prog (cxOf CX0 P w K mg base N_order (Str.ofString "_order") (defScope s_order) f cdv A outer s H E).nox.w p (fun x => false) 0)) p2 (.dK [])) := (Same.new hp0).trans (Same.new hp2)
    generalize upd (upd H p (SetK (cxOf CX0 P w K mg base N_order (Str.ofString "_order") (defScope s_order) f cdv A outer s H E).nox.prog (cxOf CX0 P w K mg base N_order (Str.ofString "_order") (defScope s_order) f cdv A outer s H E).nox.w p (fun x => false) 0)) p2 (.dK []) = H0 at S0
    refine ⟨fun σ H1 => σ = [some (.ref hp), some (.str op), some v, some v2, some (.ref p), some (.ref p2), none, none, none] ∧ Same H H1, ?_, ?_⟩
    · refine while_up (fun σ H1 => σ = [some (.ref hp), some (.str op), some v, some v2, some (.ref p), some (.ref p2), none, none, none] ∧ Same H H1) (fun _ _ => 0) ⟨rfl, S0⟩ ?_
      rintro _ H1 ⟨rfl, S1⟩
      refine ⟨_, rfl, _, rfl, _, rfl, hp, hds, v, v2, x, y, kx, ky, rfl, listAt_mono L S1, dv.mono S1, dv2.mono S1, hx.kd, hy.kd, hc.rows, fun H2 S2 => ⟨_, rfl, iteFb rfl ?_⟩⟩
      exact ⟨rfl, S1.trans S2⟩
    rintro _ H1 ⟨rfl, S1⟩
    refine ⟨fun σ H1 => σ = [some (.ref hp), some (.str op), some v, some v2, some (.ref p), some (.ref p2), none, none, none] ∧ Same H H1, ?_, ?_⟩
    · obtain ⟨q1, w1, e1, hq1, _⟩ := dvl dv
      obtain ⟨q2, w2, e2, hq2, _⟩ := dvl dv2
      have e : ∀ {b : Bool} {Q1 : Bool → Hp → Prop} {H2 : Hp}, b = false → Same H H2 → (Same H H2 → Q1 false H2) → (tAnd (tTest (tOp rEq (tOp (rIxT K) (tVar 2) (tC (V.int 0))) (tC (V.str (Str.ofString "text"))))) (tTest (tOp rEq (tOp (rIxT K) (tVar 3) (tC (V.int 0))) (tC (V.str (Str.ofString "text")))))) [some (.ref hp), some (.str op), some v, some v2, some (.ref p), some (.ref p2), none, none, none] H2 Q1 := fun {b Q1 H2} _ S2 q => by
        subst e1 e2
        refine ⟨_, rfl, q1, _, _, _, rfl, rfl, Same.tupl S2 hq1, at0, rfl, _, rfl, ?_⟩
        by_cases c : kn x = 3
        · refine iteTb ((knd_is x 3 (by decide)).trans (decide_eq_true c)) ?_
          refine ⟨_, rfl, q2, _, _, _, rfl, rfl, Same.tupl S2 hq2, at0, rfl, _, rfl, ?_⟩
          rw [show decide (V.str (knd y) = V.str (Str.ofString "text")) = false from (knd_is y 3 (by decide)).trans (decide_eq_false (hc.text.resolve_left (fun h => h c)))]
          exact q S2
        · exact iteFb ((knd_is x 3 (by decide)).trans (decide_eq_false c)) (q S2)
      refine ⟨_, rfl, v, x, rfl, dv.mono S1, fun H2 S2 => ⟨_, rfl, ?_⟩⟩
      have S12 := S1.trans S2
      cases hnx : numV x with
      | none => exact iteFb rfl (iteFb rfl (e (b := false) rfl S12 fun S => iteFb rfl ⟨rfl, S⟩))
      | some i =>
        refine iteTb rfl ⟨_, rfl, _, y, rfl, dv2.mono S12, fun H3 S3 => ⟨_, rfl, ?_⟩⟩
        have hny : numV y = none := hc.num.resolve_left (by rw [hnx]; exact fun h => by cases h)
        exact iteFb (by rw [hny]; rfl) (e (b := false) rfl (S12.trans S3) fun S => iteFb rfl ⟨rfl, S⟩)
    rintro _ H1 ⟨rfl, S1⟩
    exact ⟨_, rfl, _, rfl, _, rfl, _, rfl, hp, hds, op, _, _, _, _, t, t2, rfl, listAt_mono L S1, dv.mono S1, dv2.mono S1, hx.nm, hy.nm, lo, hx.len, hy.len, fun u H' S2 d => k _ _ (S1.trans S2) d⟩
def spMem (K : PySem.W.Frag) : Sp := fun vs H Q _ => ∃ (hp : Addr) (hds : List PyData) (v v2 : V) (x y : Vl) (t t2 kx ky : Str), vs = [.ref hp, v, v2] ∧ ListAt K H hp hds ∧ Dt K H v (vlD x) ∧ Dt K H v2 (vlD y) ∧ Va hds x t kx ∧ Va hds y t2 ky ∧ MemBad x y ky ∧ ∀ u H', Same H H' → Dt K H' u (raiseD 10 (unsT "in" t t2)) → Q u H'
theorem ok_mem {f : Addr} {fd : FuncData} (F : Fun K "_membership" "_membership" s_membership f fd) (T : Txt K mg) (U_object_kind : Use P w K mg base CX0 "object_kind" 1 P_object_kind (spKind K)) (U_unsupported : Use P w K mg base CX0 "unsupported" 2 P_unsupported (spUns K)) : FnG P w K mg base CX0 3 f fd P_membership (spMem K) := by
  refine okG0 F sc_membership (fun vs H Q E h => ?_) fun cdv A outer s H vs Q E hr hg h => ?_
  · obtain ⟨hp, hds, v, v2, x, y, t, t2, kx, ky, rfl, _⟩ := h
    rfl
  · obtain ⟨hp, hds, v, v2, x, y, t, t2, kx, ky, rfl, L, dv, dv2, hx, hy, hc, k⟩ := h
    refine ⟨_, (C8.pss_cut (ps_if (PW.pt (pw_and (pt_cmpR op_eq (pe_ix ix_tup (pv 2) pe_int (fun _ _ => rfl)) pe_str (nomark _)) (pw_and1 (pt_cmpR op_eq (pe_ix ix_tup (pv 1) pe_int (fun _ _ => rfl)) pe_str (nomark _)))))
   pss_never
   pss_nil)
  (pss_cons (ps_if (pt_cmpR op_eq (pe_ix ix_tup (pv 2) pe_int (fun _ _ => rfl)) pe_str (nomark _))
   pss_never
   pss_nil)
  (pss_cons (ps_set (i := 3) sc_membership.nd rfl (Or.inl rfl) (pe_use U_object_kind (hr.mono (by decide)) hg rfl (pa_cons (pv 0) (pa_cons (pv 2) pa_nil))))
  (pss_cons (ps_if (pt_cmpR op_in_seq (pv 3) (pe_tup (pa_cons pe_str (pa_cons pe_str pa_nil))) (by rfl))
   pss_never
   pss_nil)
  (pss_cons (ps_if (pt_cmpR op_eq (pv 3) pe_str (nomark _))
   pss_never
   pss_nil)
  (pss_one (ps_ret (pe_use U_unsupported (hr.mono (by decide)) hg rfl (pa_cons (pv 0) (pa_cons pe_str (pa_cons (pv 1) (pa_cons (pv 2) pa_nil)))))))))))), ?_⟩
    have dv0 := dv
    have dv20 := dv2
    obtain ⟨q1, w1, rfl, hq1, _⟩ := dvl dv0
    obtain ⟨q2, w2, rfl, hq2, _⟩ := dvl dv20
    refine ⟨fun σ H1 => σ = [some (.ref hp), some (.ref q1), some (.ref q2), none, none, none] ∧ H1 = H, ?_, ?_⟩
    · refine ⟨_, rfl, q2, _, _, _, rfl, rfl, hq2, at0, rfl, _, rfl, ?_⟩
      by_cases c : kn y = 3
      · refine iteTb ((knd_is y 3 (by decide)).trans (decide_eq_true c)) ?_
        refine ⟨_, rfl, q1, _, _, _, rfl, rfl, hq1, at0, rfl, _, rfl, ?_⟩
        exact iteFb ((knd_is x 3 (by decide)).trans (decide_eq_false (hc.text.resolve_right (fun h => h c)))) ⟨rfl, rfl⟩
      · exact iteFb ((knd_is y 3 (by decide)).trans (decide_eq_false c)) (iteFb rfl ⟨rfl, rfl⟩)
    rintro _ _ ⟨rfl, rfl⟩
    refine ⟨_, rfl, q2, _, _, _, rfl, rfl, hq2, at0, rfl, _, rfl, iteFb ((knd_is y 4 (by decide)).trans (decide_eq_false hc.span)) ?_⟩
    refine ⟨_, rfl, _, rfl, hp, hds, _, _, ky, rfl, L, dv2, hy.kd, _, rfl, sz_2, fun u hu => ⟨u, _, rfl, .inr (SqT.of upd_same), rfl, rfl, _, rfl, ?_⟩⟩
    rw [if_neg Bool.false_ne_true, show [V.str "tuple", V.str "list"] = (["tuple", "list"] : List Str).map V.str from rfl, inV_strs]
    have S1 := Same.new (o := .tup [V.str "tuple", V.str "list"]) hu
    refine iteFb (decide_eq_false hc.row) ?_
    refine ⟨_, rfl, rfl, _, rfl, iteFb (dec_str hc.dict) ?_⟩
    exact ⟨_, rfl, _, rfl, _, rfl, hp, hds, _, _, _, _, _, t, t2, rfl, listAt_mono L S1, dv.mono S1, dv2.mono S1, hx.nm, hy.nm, by decide +kernel, hx.len, hy.len, fun u H' S2 d => k _ _ (S1.trans S2) d⟩
def spOpp (K : PySem.W.Frag) : Sp := fun vs H Q _ => ∃ (v : V) (n : Int) (z : Str), vs = [v] ∧ Dt K H v (raiseD n z) ∧ Q v H
theorem ok_opp {f : Addr} {fd : FuncData} (F : Fun K "_opposite" "_opposite" s_opposite f fd) (T : Txt K mg) : FnG P w K mg base CX0 1 f fd P_opposite (spOpp K) := by
  refine okG0 F sc_opposite (fun vs H Q E h => ?_) fun cdv A outer s H vs Q E hr hg h => ?_
  · obtain ⟨v, n, z, rfl, _⟩ := h
    rfl
  · obtain ⟨v, n, z, rfl, dv, k⟩ := h
    refine ⟨_, (pss_cons (ps_if (pt_cmpR op_eq (pe_ix ix_tup (pv 0) pe_int (fun _ _ => rfl)) pe_str (nomark _))
   (pss_one (ps_ret (pv 0)))
   pss_nil)
  pss_never), ?_⟩
    obtain ⟨q1, w1, rfl, hq1, _⟩ := dv.head
    exact ⟨_, rfl, q1, _, _, _, rfl, rfl, hq1, at0, rfl, _, rfl, iteTb rfl ⟨_, rfl, k⟩⟩
theorem ok_cmp {f : Addr} {fd : FuncData} (F : Fun K "compare" "compare" s_compare f fd) (T : Txt K mg) (U_order : Use P w K mg base CX0 "_order" 3 P_order (spBin K (fun _ => OrdBad) id)) (U_membership : Use P w K mg base CX0 "_membership" 3 P_membership (spMem K)) (U_opposite : Use P w K mg base CX0 "_opposite" 1 P_opposite (spOpp K)) : FnG P w K mg base CX0 4 f fd P_compare (spBin K CmpBad opW) := by
  refine okG0 F sc_compare (fun vs H Q E h => ?_) fun cdv A outer s H vs Q E hr hg h => ?_
  · obtain ⟨hp, hds, op, v, v2, x, y, t, t2, kx, ky, rfl, _⟩ := h
    rfl
  · obtain ⟨hp, hds, op, v, v2, x, y, t, t2, kx, ky, rfl, L, dv, dv2, hx, hy, lo, hc, k⟩ := h
    refine ⟨_, (C8.pss_cut (ps_if (pt_cmpR op_in_seq (pv 1) (pe_tup (pa_cons pe_str (pa_cons pe_str pa_nil))) (by rfl))
   pss_never
   pss_nil)
  (C8.pss_cut (ps_if (pt_cmpR op_in_seq (pv 1) (pe_tup (pa_cons pe_str (pa_cons pe_str pa_nil))) (by rfl))
   pss_never
   pss_nil)
  (pss_cons (ps_if (pt_cmpR op_eq (pv 1) pe_str (nomark _))
   (pss_one (ps_ret (pe_use U_membership (hr.mono (by decide)) hg rfl (pa_cons (pv 0) (pa_cons (pv 2) (pa_cons (pv 3) pa_nil))))))
   pss_nil)
  (pss_cons (ps_if (pt_cmpR op_eq (pv 1) pe_str (nomark _))
   (pss_one (ps_ret (pe_use U_opposite (hr.mono (by decide)) hg rfl (pa_cons (pe_use U_membership (hr.mono (by decide)) hg rfl (pa_cons (pv 0) (pa_cons (pv 2) (pa_cons (pv 3) pa_nil)))) pa_nil))))
   pss_nil)
  (pss_one (ps_ret (pe_use U_order (hr.mono (by decide)) hg rfl (pa_cons (pv 0) (pa_cons (pv 1) (pa_cons (pv 2) (pa_cons (pv 3) pa_nil))))))))))), ?_⟩
    have hop : op ∈ (["in", "notin", "<", "<=", ">", ">="] : List Str) := by
      rcases hc with ⟨h | h, _⟩ | ⟨h, _⟩
      · rw [h]; decide +kernel
      · rw [h]; decide +kernel
      · exact List.mem_cons_of_mem _ (List.mem_cons_of_mem _ h)
    have no1 : inV (V.str op) [V.str "==", V.str "!="] = false := (by decide +kernel : ∀ o ∈ (["in", "notin", "<", "<=", ">", ">="] : List Str), inV (V.str o) [V.str "==", V.str "!="] = false) op hop
    have no2 : inV (V.str op) [V.str "is", V.str "isnot"] = false := (by decide +kernel : ∀ o ∈ (["in", "notin", "<", "<=", ">", ">="] : List Str), inV (V.str o) [V.str "is", V.str "isnot"] = false) op hop
    refine ⟨fun σ H1 => σ = [some (.ref hp), some (.str op), some v, some v2] ∧ Same H H1, ?_, ?_⟩
    · refine ⟨_, rfl, sz_2, fun u hu => ⟨u, _, rfl, .inr (SqT.of upd_same), rfl, rfl, _, rfl, ?_⟩⟩
      rw [if_neg Bool.false_ne_true, no1]
      exact iteFb rfl ⟨rfl, Same.new hu⟩
    rintro _ H1 ⟨rfl, S1⟩
    refine ⟨fun σ H1 => σ = [some (.ref hp), some (.str op), some v, some v2] ∧ Same H H1, ?_, ?_⟩
    · refine ⟨_, rfl, sz_2, fun u hu => ⟨u, _, rfl, .inr (SqT.of upd_same), rfl, rfl, _, rfl, ?_⟩⟩
      rw [if_neg Bool.false_ne_true, no2]
      exact iteFb rfl ⟨rfl, S1.trans (Same.new hu)⟩
    rintro _ H1 ⟨rfl, S1⟩
    refine ⟨_, rfl, rfl, _, rfl, ?_⟩
    by_cases c1 : op = "in"
    · subst c1
      obtain ⟨_, hm⟩ := hc.resolve_right (fun h => absurd h.1 (by decide +kernel))
      refine iteTb rfl ?_
      exact ⟨_, rfl, _, rfl, _, rfl, hp, hds, _, _, x, y, t, t2, kx, ky, rfl, listAt_mono L S1, dv.mono S1, dv2.mono S1, hx, hy, hm, fun u H' S2 d => k _ _ (S1.trans S2) d⟩
    refine iteFb (dec_str c1) ⟨_, rfl, rfl, _, rfl, ?_⟩
    by_cases c2 : op = "notin"
    · subst c2
      obtain ⟨_, hm⟩ := hc.resolve_right (fun h => absurd h.1 (by decide +kernel))
      refine iteTb rfl ?_
      exact ⟨_, rfl, _, rfl, _, rfl, hp, hds, _, _, x, y, t, t2, kx, ky, rfl, listAt_mono L S1, dv.mono S1, dv2.mono S1, hx, hy, hm, fun u H' S2 d => ⟨_, _, _, rfl, d, k _ _ (S1.trans S2) d⟩⟩
    · obtain ⟨_, hm⟩ := hc.resolve_left (fun h => by rcases h.1 with h | h; exact c1 h; exact c2 h)
      have e : opW op = op := if_neg c2
      rw [e] at k
      refine iteFb (dec_str c2) ?_
      exact ⟨_, rfl, _, rfl, _, rfl, _, rfl, hp, hds, _, _, _, x, y, t, t2, kx, ky, rfl, listAt_mono L S1, dv.mono S1, dv2.mono S1, hx, hy, lo, hm, fun u H' S2 d => k _ _ (S1.trans S2) d⟩
end

section
--SPLIT
end
abbrev s_law_values : Stmt := top 83
abbrev N_law_values : List Str := ["heap", "first", "values", "names", "k"]
abbrev P_law_values : List Str := ["heap"]
theorem sc_law_values : FnScope N_law_values P_law_values (defScope s_law_values) := ⟨rfl, rfl, rfl, by decide +kernel, rfl, by decide +kernel, by decide +kernel⟩
abbrev s_law_means : Stmt := top 84
abbrev N_law_means : List Str := ["op", "a", "b", "whole", "rows"]
abbrev P_law_means : List Str := ["op", "a", "b"]
theorem sc_law_means : FnScope N_law_means P_law_means (defScope s_law_means) := ⟨rfl, rfl, rfl, by decide +kernel, rfl, by decide +kernel, by decide +kernel⟩
abbrev s_law_singles : Stmt := top 85
abbrev N_law_singles : List Str := ["heap", "a", "kind", "index"]
abbrev P_law_singles : List Str := ["heap", "a", "kind"]
theorem sc_law_singles : FnScope N_law_singles P_law_singles (defScope s_law_singles) := ⟨rfl, rfl, rfl, by decide +kernel, rfl, by decide +kernel, by decide +kernel⟩
section
def emp : PyData := .tuple []
def objs9 : List PyData := [.tuple [.str "list", emp], .tuple [.str "tuple", emp], .tuple [.str "dict", emp],
  .tuple [.str "func", .str "ff", emp, emp, .tuple [.tuple [.str "pass", .int 1]], .tuple [emp, emp, .bool false], .int 0],
  .tuple [.str "class", .str "Kind", .int 1, emp], .tuple [.str "inst", .int 21, emp], .tuple [.str "bound", .tuple [.str "ref", .int 22], .tuple [.str "ref", .int 20]],
  .tuple [.str "iter", .tuple [.str "text", .str "ab"], .int 0, .int 2], .tuple [.str "gen", .str "gg", .str "over", emp]]
def hds : List PyData := startD ["ask"] ++ objs9
def vals7 : List Vl := [.non, .bool true, .int 7, .text "t", .span 1 4, .built "len", .host "ask"]
def refs (n : Nat) : List Vl := (List.range n).map fun k => .ref (17 + k)
def names7 : List Str := ["NoneType", "bool", "int", "str", "range", "builtin", "host"]
def names18 : List Str := (names7 ++ (["list", "tuple", "dict", "function", "class", "Kind", "method", "iterator", "generator"] : List Str)) ++ (["scope", "class"] : List Str)
def vals (c : Nat) : List Vl := (vals7 ++ refs 9) ++ [.ref 0, .ref (1 + c)]
theorem lenS : (startD ["ask"]).length = 17 := by decide +kernel
end
section
variable {P : Program} {w : World} {K : PySem.W.Frag} {mg : Str → Option Value} {base : Heap}
def HpI (K : PySem.W.Frag) (hp : Addr) (H H' : Hp) (i : Nat) : Prop := Keep hp H H' ∧ ListAt K H' hp (startD ["ask"] ++ objs9.take i)
theorem HpI.step {hp : Addr} {H H1 H2 : Hp} {i : Nat} {xs : List V} {v : V} {d : PyData} (h : HpI K hp H H1 i) (S : Same H1 H2) (e : H2 hp = some (.lst xs)) (hd : Dt K H2 v d) (ho : objs9[i]? = some d) : HpI K hp H (upd H2 hp (.lst (xs ++ [v]))) (i + 1) := by
  refine ⟨fun b o hb ne => by rw [upd_ne ne]; exact S _ _ (h.1 _ _ hb ne), ?_⟩
  have := listAt_app (listAt_mono h.2 S) e hd
  rw [List.append_assoc] at this
  rw [List.take_succ, ho]
  exact this
def spLVals (K : PySem.W.Frag) : Sp := fun vs H Q _ => ∃ (hp : Addr), vs = [.ref hp] ∧ ListAt K H hp (startD ["ask"]) ∧
  ∀ r vl nl H', Keep hp H H' → ListAt K H' hp hds → H r = none → H vl = none → H' r = some (.lst [.ref vl, .ref nl]) → ListAt K H' vl ((vals7 ++ refs 9).map vlD) → H' nl = some (.lst (names18.map V.str)) → Q (.ref r) H'
theorem ok_lvals {f : Addr} {fd : FuncData} (F : Fun K "_law_values" "_law_values" s_law_values f fd) (T : Txt K mg) : FnG P w K mg base CX0 1 f fd P_law_values (spLVals K) := by
  refine okG0 F sc_law_values (fun vs H Q E h => ?_) fun cdv A outer s H vs Q E hr hg h => ?_
  · obtain ⟨hp, rfl, _⟩ := h
    rfl
  · obtain ⟨hp, rfl, L, k⟩ := h
    refine ⟨_, (pss_cons (ps_set (i := 1) sc_law_values.nd rfl (Or.inl rfl) (pe_callB call_len (by rfl) T.b_len PySem.boot_len (pa_cons (pv 0) pa_nil)))
  (C8.pss_cut (ps_expr (pe_bm PySem.F.plainAttrs_list PySem.F.slot_list_append PySem.F.type_list_append mt_append (pv 0) (pa_cons (pe_tup (pa_cons pe_str (pa_cons (pe_tup pa_nil) pa_nil))) pa_nil)))
  (C8.pss_cut (ps_expr (pe_bm PySem.F.plainAttrs_list PySem.F.slot_list_append PySem.F.type_list_append mt_append (pv 0) (pa_cons (pe_tup (pa_cons pe_str (pa_cons (pe_tup pa_nil) pa_nil))) pa_nil)))
  (C8.pss_cut (ps_expr (pe_bm PySem.F.plainAttrs_list PySem.F.slot_list_append PySem.F.type_list_append mt_append (pv 0) (pa_cons (pe_tup (pa_cons pe_str (pa_cons (pe_tup pa_nil) pa_nil))) pa_nil)))
  (C8.pss_cut (ps_expr (pe_bm PySem.F.plainAttrs_list PySem.F.slot_list_append PySem.F.type_list_append mt_append (pv 0) (pa_cons (pe_tup (pa_cons pe_str (pa_cons pe_str (pa_cons (pe_tup pa_nil) (pa_cons (pe_tup pa_nil) (pa_cons (pe_tup (pa_cons (pe_tup (pa_cons pe_str (pa_cons pe_int pa_nil))) pa_nil)) (pa_cons (pe_tup (pa_cons (pe_tup pa_nil) (pa_cons (pe_tup pa_nil) (pa_cons pe_bl pa_nil)))) (pa_cons pe_int pa_nil)))))))) pa_nil)))
  (C8.pss_cut (ps_expr (pe_bm PySem.F.plainAttrs_list PySem.F.slot_list_append PySem.F.type_list_append mt_append (pv 0) (pa_cons (pe_tup (pa_cons pe_str (pa_cons pe_str (pa_cons pe_int (pa_cons (pe_tup pa_nil) pa_nil))))) pa_nil)))
  (C8.pss_cut (ps_expr (pe_bm PySem.F.plainAttrs_list PySem.F.slot_list_append PySem.F.type_list_append mt_append (pv 0) (pa_cons (pe_tup (pa_cons pe_str (pa_cons (pe_op op_add (pv 1) pe_int) (pa_cons (pe_tup pa_nil) pa_nil)))) pa_nil)))
  (C8.pss_cut (ps_expr (pe_bm PySem.F.plainAttrs_list PySem.F.slot_list_append PySem.F.type_list_append mt_append (pv 0) (pa_cons (pe_tup (pa_cons pe_str (pa_cons (pe_tup (pa_cons pe_str (pa_cons (pe_op op_add (pv 1) pe_int) pa_nil))) (pa_cons (pe_tup (pa_cons pe_str (pa_cons (pe_op op_add (pv 1) pe_int) pa_nil))) pa_nil)))) pa_nil)))
  (C8.pss_cut (ps_expr (pe_bm PySem.F.plainAttrs_list PySem.F.slot_list_append PySem.F.type_list_append mt_append (pv 0) (pa_cons (pe_tup (pa_cons pe_str (pa_cons (pe_tup (pa_cons pe_str (pa_cons pe_str pa_nil))) (pa_cons pe_int (pa_cons pe_int pa_nil))))) pa_nil)))
  (C8.pss_cut (ps_expr (pe_bm PySem.F.plainAttrs_list PySem.F.slot_list_append PySem.F.type_list_append mt_append (pv 0) (pa_cons (pe_tup (pa_cons pe_str (pa_cons pe_str (pa_cons pe_str (pa_cons (pe_tup pa_nil) pa_nil))))) pa_nil)))
  (pss_cons (ps_set (i := 2) sc_law_values.nd rfl (Or.inl rfl) (pe_lst (pa_cons (pe_tup (pa_cons pe_str pa_nil)) (pa_cons (pe_tup (pa_cons pe_str (pa_cons pe_bl pa_nil))) (pa_cons (pe_tup (pa_cons pe_str (pa_cons pe_int pa_nil))) (pa_cons (pe_tup (pa_cons pe_str (pa_cons pe_str pa_nil))) (pa_cons (pe_tup (pa_cons pe_str (pa_cons pe_int (pa_cons pe_int pa_nil)))) (pa_cons (pe_tup (pa_cons pe_str (pa_cons pe_str pa_nil))) (pa_cons (pe_tup (pa_cons pe_str (pa_cons pe_str pa_nil))) pa_nil)))))))))
  (pss_cons (ps_set (i := 3) sc_law_values.nd rfl (Or.inl rfl) (pe_lst (pa_cons pe_str (pa_cons pe_str (pa_cons pe_str (pa_cons pe_str (pa_cons pe_str (pa_cons pe_str (pa_cons pe_str pa_nil)))))))))
  (C8.pss_cut (ps_for PassesOwn.never rfl (pi_range1 (by rfl) T.b_range (pa_cons pe_int pa_nil)) (pg_name (i := 4) sc_law_values.nd rfl (Or.inl rfl))
   (pss_one (ps_expr (pe_bm PySem.F.plainAttrs_list PySem.F.slot_list_append PySem.F.type_list_append mt_append (pv 2) (pa_cons (pe_tup (pa_cons pe_str (pa_cons (pe_op op_add (pv 1) (pv 4)) pa_nil))) pa_nil)))))
  (pss_cons (ps_set (i := 3) sc_law_values.nd rfl (Or.inl rfl) (pe_op op_cat (pv 3) (pe_lst (pa_cons pe_str (pa_cons pe_str (pa_cons pe_str (pa_cons pe_str (pa_cons pe_str (pa_cons pe_str (pa_cons pe_str (pa_cons pe_str (pa_cons pe_str pa_nil))))))))))))
  (pss_one (ps_ret (pe_lst (pa_cons (pv 2) (pa_cons (pe_op op_cat (pv 3) (pe_lst (pa_cons pe_str (pa_cons pe_str pa_nil)))) pa_nil))))))))))))))))))), ?_⟩
    have lx : ∀ {H1 : Hp} {i : Nat} {xs : List V}, ListAt K H1 hp (startD ["ask"] ++ objs9.take i) → H1 hp = some (.lst xs) → xs.length < sizeLine := fun {H1 i xs} L e => by
      obtain ⟨ys, ey, ay⟩ := L
      rw [e] at ey
      cases ey
      have := ay.length
      have l9 : (objs9.take i).length ≤ 9 := List.length_take_le' _ _
      rw [List.length_append, lenS] at this
      exact js_lt (by omega)
    obtain ⟨x0, e0, a0⟩ := id L
    have l0 : x0.length = 17 := by rw [a0.length]; exact lenS
    refine ⟨_, rfl, _, 17, rfl, .inl ⟨_, SqL.of e0, l0.symm⟩, ?_⟩
    clear a0 e0 l0
    have I0 : HpI K hp H H 0 := ⟨Keep.refl _ _, by show ListAt K H hp (startD ["ask"] ++ []); rw [List.append_nil]; exact L⟩
    refine ⟨fun σ H1 => σ = [some (.ref hp), some (.int 17), none, none, none] ∧ HpI K hp H H1 1, ?_, ?_⟩
    · obtain ⟨xs, ex, _⟩ := id I0.2
      refine ⟨_, rfl, .inl ⟨rfl, _, SqL.of ex⟩, sz_0, fun u hu => ⟨sz_2, fun z hz => ?_⟩⟩
      have S_u : Same H (upd H u (.tup [])) := Same.new hu
      have D_u := Dt.made (K := K) hu .nil
      have S_z : Same (upd H u (.tup [])) (upd (upd H u (.tup [])) z (.tup [.str "list", .ref u])) := Same.new hz
      have D_z := Dt.made (K := K) hz (.cons (.str "list") (.cons D_u .nil))
      replace D_u := D_u.mono S_z
      have S := (S_u).trans S_z
      exact ⟨hp, xs, _, rfl, rfl, S _ _ ex, lx I0.2 ex, rfl, I0.step S (S _ _ ex) D_z rfl⟩
    rintro _ G1 ⟨rfl, I1⟩
    refine ⟨fun σ H1 => σ = [some (.ref hp), some (.int 17), none, none, none] ∧ HpI K hp H H1 2, ?_, ?_⟩
    · obtain ⟨xs, ex, _⟩ := id I1.2
      refine ⟨_, rfl, .inl ⟨rfl, _, SqL.of ex⟩, sz_0, fun u hu => ⟨sz_2, fun z hz => ?_⟩⟩
      have S_u : Same G1 (upd G1 u (.tup [])) := Same.new hu
      have D_u := Dt.made (K := K) hu .nil
      have S_z : Same (upd G1 u (.tup [])) (upd (upd G1 u (.tup [])) z (.tup [.str "tuple", .ref u])) := Same.new hz
      have D_z := Dt.made (K := K) hz (.cons (.str "tuple") (.cons D_u .nil))
      replace D_u := D_u.mono S_z
      have S := (S_u).trans S_z
      exact ⟨hp, xs, _, rfl, rfl, S _ _ ex, lx I1.2 ex, rfl, I1.step S (S _ _ ex) D_z rfl⟩
    rintro _ G2 ⟨rfl, I2⟩
    clear I1
    refine ⟨fun σ H1 => σ = [some (.ref hp), some (.int 17), none, none, none] ∧ HpI K hp H H1 3, ?_, ?_⟩
    · obtain ⟨xs, ex, _⟩ := id I2.2
      refine ⟨_, rfl, .inl ⟨rfl, _, SqL.of ex⟩, sz_0, fun u hu => ⟨sz_2, fun z hz => ?_⟩⟩
      have S_u : Same G2 (upd G2 u (.tup [])) := Same.new hu
      have D_u := Dt.made (K := K) hu .nil
      have S_z : Same (upd G2 u (.tup [])) (upd (upd G2 u (.tup [])) z (.tup [.str "dict", .ref u])) := Same.new hz
      have D_z := Dt.made (K := K) hz (.cons (.str "dict") (.cons D_u .nil))
      replace D_u := D_u.mono S_z
      have S := (S_u).trans S_z
      exact ⟨hp, xs, _, rfl, rfl, S _ _ ex, lx I2.2 ex, rfl, I2.step S (S _ _ ex) D_z rfl⟩
    rintro _ G3 ⟨rfl, I3⟩
    clear I2
    refine ⟨fun σ H1 => σ = [some (.ref hp), some (.int 17), none, none, none] ∧ HpI K hp H H1 4, ?_, ?_⟩
    · obtain ⟨xs, ex, _⟩ := id I3.2
      refine ⟨_, rfl, .inl ⟨rfl, _, SqL.of ex⟩, sz_0, fun a ha => ⟨sz_0, fun b hb => ⟨sz_2, fun c hc => ⟨sz_1, fun d hd => ⟨sz_0, fun e he => ⟨sz_0, fun g hg => ⟨sz_3, fun j hj => ⟨(by show 7 ≤ sizeLine; decide), fun z hz => ?_⟩⟩⟩⟩⟩⟩⟩⟩
      have S_a : Same G3 (upd G3 a (.tup [])) := Same.new ha
      have D_a := Dt.made (K := K) ha .nil
      have S_b : Same (upd G3 a (.tup [])) (upd (upd G3 a (.tup [])) b (.tup [])) := Same.new hb
      have D_b := Dt.made (K := K) hb .nil
      replace D_a := D_a.mono S_b
      have S_c : Same (upd (upd G3 a (.tup [])) b (.tup [])) (upd (upd (upd G3 a (.tup [])) b (.tup [])) c (.tup [.str "pass", .int 1])) := Same.new hc
      have D_c := Dt.made (K := K) hc (.cons (.str "pass") (.cons (.int 1) .nil))
      replace D_a := D_a.mono S_c
      replace D_b := D_b.mono S_c
      have S_d : Same (upd (upd (upd G3 a (.tup [])) b (.tup [])) c (.tup [.str "pass", .int 1])) (upd (upd (upd (upd G3 a (.tup [])) b (.tup [])) c (.tup [.str "pass", .int 1])) d (.tup [.ref c])) := Same.new hd
      have D_d := Dt.made (K := K) hd (.cons D_c .nil)
      replace D_a := D_a.mono S_d
      replace D_b := D_b.mono S_d
      replace D_c := D_c.mono S_d
      have S_e : Same (upd (upd (upd (upd G3 a (.tup [])) b (.tup [])) c (.tup [.str "pass", .int 1])) d (.tup [.ref c])) (upd (upd (upd (upd (upd G3 a (.tup [])) b (.tup [])) c (.tup [.str "pass", .int 1])) d (.tup [.ref c])) e (.tup [])) := Same.new he
      have D_e := Dt.made (K := K) he .nil
      replace D_a := D_a.mono S_e
      replace D_b := D_b.mono S_e
      replace D_c := D_c.mono S_e
      replace D_d := D_d.mono S_e
      have S_g : Same (upd (upd (upd (upd (upd G3 a (.tup [])) b (.tup [])) c (.tup [.str "pass", .int 1])) d (.tup [.ref c])) e (.tup [])) (upd (upd (upd (upd (upd (upd G3 a (.tup [])) b (.tup [])) c (.tup [.str "pass", .int 1])) d (.tup [.ref c])) e (.tup [])) g (.tup [])) := Same.new hg
      have D_g := Dt.made (K := K) hg .nil
      replace D_a := D_a.mono S_g
      replace D_b := D_b.mono S_g
      replace D_c := D_c.mono S_g
      replace D_d := D_d.mono S_g
      replace D_e := D_e.mono S_g
      have S_j : Same (upd (upd (upd (upd (upd (upd G3 a (.tup [])) b (.tup [])) c (.tup [.str "pass", .int 1])) d (.tup [.ref c])) e (.tup [])) g (.tup [])) (upd (upd (upd (upd (upd (upd (upd G3 a (.tup [])) b (.tup [])) c (.tup [.str "pass", .int 1])) d (.tup [.ref c])) e (.tup [])) g (.tup [])) j (.tup [.ref e, .ref g, .bl false])) := Same.new hj
      have D_j := Dt.made (K := K) hj (.cons D_e (.cons D_g (.cons (.bl false) .nil)))
      replace D_a := D_a.mono S_j
      replace D_b := D_b.mono S_j
      replace D_c := D_c.mono S_j
      replace D_d := D_d.mono S_j
      replace D_e := D_e.mono S_j
      replace D_g := D_g.mono S_j
      have S_z : Same (upd (upd (upd (upd (upd (upd (upd G3 a (.tup [])) b (.tup [])) c (.tup [.str "pass", .int 1])) d (.tup [.ref c])) e (.tup [])) g (.tup [])) j (.tup [.ref e, .ref g, .bl false])) (upd (upd (upd (upd (upd (upd (upd (upd G3 a (.tup [])) b (.tup [])) c (.tup [.str "pass", .int 1])) d (.tup [.ref c])) e (.tup [])) g (.tup [])) j (.tup [.ref e, .ref g, .bl false])) z (.tup [.str "func", .str "ff", .ref a, .ref b, .ref d, .ref j, .int 0])) := Same.new hz
      have D_z := Dt.made (K := K) hz (.cons (.str "func") (.cons (.str "ff") (.cons D_a (.cons D_b (.cons D_d (.cons D_j (.cons (.int 0) .nil)))))))
      replace D_a := D_a.mono S_z
      replace D_b := D_b.mono S_z
      replace D_c := D_c.mono S_z
      replace D_d := D_d.mono S_z
      replace D_e := D_e.mono S_z
      replace D_g := D_g.mono S_z
      replace D_j := D_j.mono S_z
      have S := (((((((S_a).trans S_b).trans S_c).trans S_d).trans S_e).trans S_g).trans S_j).trans S_z
      exact ⟨hp, xs, _, rfl, rfl, S _ _ ex, lx I3.2 ex, rfl, I3.step S (S _ _ ex) D_z rfl⟩
    rintro _ G4 ⟨rfl, I4⟩
    clear I3
    refine ⟨fun σ H1 => σ = [some (.ref hp), some (.int 17), none, none, none] ∧ HpI K hp H H1 5, ?_, ?_⟩
    · obtain ⟨xs, ex, _⟩ := id I4.2
      refine ⟨_, rfl, .inl ⟨rfl, _, SqL.of ex⟩, sz_0, fun u hu => ⟨sz_4, fun z hz => ?_⟩⟩
      have S_u : Same G4 (upd G4 u (.tup [])) := Same.new hu
      have D_u := Dt.made (K := K) hu .nil
      have S_z : Same (upd G4 u (.tup [])) (upd (upd G4 u (.tup [])) z (.tup [.str "class", .str "Kind", .int 1, .ref u])) := Same.new hz
      have D_z := Dt.made (K := K) hz (.cons (.str "class") (.cons (.str "Kind") (.cons (.int 1) (.cons D_u .nil))))
      replace D_u := D_u.mono S_z
      have S := (S_u).trans S_z
      exact ⟨hp, xs, _, rfl, rfl, S _ _ ex, lx I4.2 ex, rfl, I4.step S (S _ _ ex) D_z rfl⟩
    rintro _ G5 ⟨rfl, I5⟩
    clear I4
    refine ⟨fun σ H1 => σ = [some (.ref hp), some (.int 17), none, none, none] ∧ HpI K hp H H1 6, ?_, ?_⟩
    · obtain ⟨xs, ex, _⟩ := id I5.2
      refine ⟨_, rfl, .inl ⟨rfl, _, SqL.of ex⟩, _, rfl, _, _, rfl, rfl, sz_0, fun u hu => ⟨sz_3, fun z hz => ?_⟩⟩
      have S_u : Same G5 (upd G5 u (.tup [])) := Same.new hu
      have D_u := Dt.made (K := K) hu .nil
      have S_z : Same (upd G5 u (.tup [])) (upd (upd G5 u (.tup [])) z (.tup [.str "inst", .int 21, .ref u])) := Same.new hz
      have D_z := Dt.made (K := K) hz (.cons (.str "inst") (.cons (.int 21) (.cons D_u .nil)))
      replace D_u := D_u.mono S_z
      have S := (S_u).trans S_z
      exact ⟨hp, xs, _, rfl, rfl, S _ _ ex, lx I5.2 ex, rfl, I5.step S (S _ _ ex) D_z rfl⟩
    rintro _ G6 ⟨rfl, I6⟩
    clear I5
    refine ⟨fun σ H1 => σ = [some (.ref hp), some (.int 17), none, none, none] ∧ HpI K hp H H1 7, ?_, ?_⟩
    · obtain ⟨xs, ex, _⟩ := id I6.2
      refine ⟨_, rfl, .inl ⟨rfl, _, SqL.of ex⟩, _, rfl, _, _, rfl, rfl, sz_2, fun u hu => ⟨_, rfl, _, _, rfl, rfl, sz_2, fun b hb => ⟨sz_3, fun z hz => ?_⟩⟩⟩
      have S_u : Same G6 (upd G6 u (.tup [.str "ref", .int 22])) := Same.new hu
      have D_u := Dt.made (K := K) hu (.cons (.str "ref") (.cons (.int 22) .nil))
      have S_b : Same (upd G6 u (.tup [.str "ref", .int 22])) (upd (upd G6 u (.tup [.str "ref", .int 22])) b (.tup [.str "ref", .int 20])) := Same.new hb
      have D_b := Dt.made (K := K) hb (.cons (.str "ref") (.cons (.int 20) .nil))
      replace D_u := D_u.mono S_b
      have S_z : Same (upd (upd G6 u (.tup [.str "ref", .int 22])) b (.tup [.str "ref", .int 20])) (upd (upd (upd G6 u (.tup [.str "ref", .int 22])) b (.tup [.str "ref", .int 20])) z (.tup [.str "bound", .ref u, .ref b])) := Same.new hz
      have D_z := Dt.made (K := K) hz (.cons (.str "bound") (.cons D_u (.cons D_b .nil)))
      replace D_u := D_u.mono S_z
      replace D_b := D_b.mono S_z
      have S := ((S_u).trans S_b).trans S_z
      exact ⟨hp, xs, _, rfl, rfl, S _ _ ex, lx I6.2 ex, rfl, I6.step S (S _ _ ex) D_z rfl⟩
    rintro _ G7 ⟨rfl, I7⟩
    clear I6
    refine ⟨fun σ H1 => σ = [some (.ref hp), some (.int 17), none, none, none] ∧ HpI K hp H H1 8, ?_, ?_⟩
    · obtain ⟨xs, ex, _⟩ := id I7.2
      refine ⟨_, rfl, .inl ⟨rfl, _, SqL.of ex⟩, sz_2, fun u hu => ⟨sz_4, fun z hz => ?_⟩⟩
      have S_u : Same G7 (upd G7 u (.tup [.str "text", .str "ab"])) := Same.new hu
      have D_u := Dt.made (K := K) hu (.cons (.str "text") (.cons (.str "ab") .nil))
      have S_z : Same (upd G7 u (.tup [.str "text", .str "ab"])) (upd (upd G7 u (.tup [.str "text", .str "ab"])) z (.tup [.str "iter", .ref u, .int 0, .int 2])) := Same.new hz
      have D_z := Dt.made (K := K) hz (.cons (.str "iter") (.cons D_u (.cons (.int 0) (.cons (.int 2) .nil))))
      replace D_u := D_u.mono S_z
      have S := (S_u).trans S_z
      exact ⟨hp, xs, _, rfl, rfl, S _ _ ex, lx I7.2 ex, rfl, I7.step S (S _ _ ex) D_z rfl⟩
    rintro _ G8 ⟨rfl, I8⟩
    clear I7
    refine ⟨fun σ H1 => σ = [some (.ref hp), some (.int 17), none, none, none] ∧ HpI K hp H H1 9, ?_, ?_⟩
    · obtain ⟨xs, ex, _⟩ := id I8.2
      refine ⟨_, rfl, .inl ⟨rfl, _, SqL.of ex⟩, sz_0, fun u hu => ⟨sz_4, fun z hz => ?_⟩⟩
      have S_u : Same G8 (upd G8 u (.tup [])) := Same.new hu
      have D_u := Dt.made (K := K) hu .nil
      have S_z : Same (upd G8 u (.tup [])) (upd (upd G8 u (.tup [])) z (.tup [.str "gen", .str "gg", .str "over", .ref u])) := Same.new hz
      have D_z := Dt.made (K := K) hz (.cons (.str "gen") (.cons (.str "gg") (.cons (.str "over") (.cons D_u .nil))))
      replace D_u := D_u.mono S_z
      have S := (S_u).trans S_z
      exact ⟨hp, xs, _, rfl, rfl, S _ _ ex, lx I8.2 ex, rfl, I8.step S (S _ _ ex) D_z rfl⟩
    rintro _ G9 ⟨rfl, I9⟩
    clear I8
    -- values, names
    refine ⟨sz_1, fun a ha => ⟨sz_2, fun b hb => ⟨sz_2, fun c hc => ⟨sz_2, fun d hd => ⟨sz_3, fun m hm => ⟨sz_2, fun j hj => ⟨sz_2, fun o ho => ⟨(by show 7 ≤ sizeLine; decide), fun vl hvl => ⟨(by show 7 ≤ sizeLine; decide), fun nl hnl => ?_⟩⟩⟩⟩⟩⟩⟩⟩⟩
    have S_a : Same G9 (upd G9 a (.tup [.str "none"])) := Same.new ha
    have D_a := Dt.made (K := K) ha (.cons (.str "none") .nil)
    have S_b : Same (upd G9 a (.tup [.str "none"])) (upd (upd G9 a (.tup [.str "none"])) b (.tup [.str "bool", .bl true])) := Same.new hb
    have D_b := Dt.made (K := K) hb (.cons (.str "bool") (.cons (.bl true) .nil))
    replace D_a := D_a.mono S_b
    have S_c : Same (upd (upd G9 a (.tup [.str "none"])) b (.tup [.str "bool", .bl true])) (upd (upd (upd G9 a (.tup [.str "none"])) b (.tup [.str "bool", .bl true])) c (.tup [.str "int", .int 7])) := Same.new hc
    have D_c := Dt.made (K := K) hc (.cons (.str "int") (.cons (.int 7) .nil))
    replace D_a := D_a.mono S_c
    replace D_b := D_b.mono S_c
    have S_d : Same (upd (upd (upd G9 a (.tup [.str "none"])) b (.tup [.str "bool", .bl true])) c (.tup [.str "int", .int 7])) (upd (upd (upd (upd G9 a (.tup [.str "none"])) b (.tup [.str "bool", .bl true])) c (.tup [.str "int", .int 7])) d (.tup [.str "text", .str "t"])) := Same.new hd
    have D_d := Dt.made (K := K) hd (.cons (.str "text") (.cons (.str "t") .nil))
    replace D_a := D_a.mono S_d
    replace D_b := D_b.mono S_d
    replace D_c := D_c.mono S_d
    have S_m : Same (upd (upd (upd (upd G9 a (.tup [.str "none"])) b (.tup [.str "bool", .bl true])) c (.tup [.str "int", .int 7])) d (.tup [.str "text", .str "t"])) (upd (upd (upd (upd (upd G9 a (.tup [.str "none"])) b (.tup [.str "bool", .bl true])) c (.tup [.str "int", .int 7])) d (.tup [.str "text", .str "t"])) m (.tup [.str "span", .int 1, .int 4])) := Same.new hm
    have D_m := Dt.made (K := K) hm (.cons (.str "span") (.cons (.int 1) (.cons (.int 4) .nil)))
    replace D_a := D_a.mono S_m
    replace D_b := D_b.mono S_m
    replace D_c := D_c.mono S_m
    replace D_d := D_d.mono S_m
    have S_j : Same (upd (upd (upd (upd (upd G9 a (.tup [.str "none"])) b (.tup [.str "bool", .bl true])) c (.tup [.str "int", .int 7])) d (.tup [.str "text", .str "t"])) m (.tup [.str "span", .int 1, .int 4])) (upd (upd (upd (upd (upd (upd G9 a (.tup [.str "none"])) b (.tup [.str "bool", .bl true])) c (.tup [.str "int", .int 7])) d (.tup [.str "text", .str "t"])) m (.tup [.str "span", .int 1, .int 4])) j (.tup [.str "built", .str "len"])) := Same.new hj
    have D_j := Dt.made (K := K) hj (.cons (.str "built") (.cons (.str "len") .nil))
    replace D_a := D_a.mono S_j
    replace D_b := D_b.mono S_j
    replace D_c := D_c.mono S_j
    replace D_d := D_d.mono S_j
    replace D_m := D_m.mono S_j
    have S_o : Same (upd (upd (upd (upd (upd (upd G9 a (.tup [.str "none"])) b (.tup [.str "bool", .bl true])) c (.tup [.str "int", .int 7])) d (.tup [.str "text", .str "t"])) m (.tup [.str "span", .int 1, .int 4])) j (.tup [.str "built", .str "len"])) (upd (upd (upd (upd (upd (upd (upd G9 a (.tup [.str "none"])) b (.tup [.str "bool", .bl true])) c (.tup [.str "int", .int 7])) d (.tup [.str "text", .str "t"])) m (.tup [.str "span", .int 1, .int 4])) j (.tup [.str "built", .str "len"])) o (.tup [.str "host", .str "ask"])) := Same.new ho
    have D_o := Dt.made (K := K) ho (.cons (.str "host") (.cons (.str "ask") .nil))
    replace D_a := D_a.mono S_o
    replace D_b := D_b.mono S_o
    replace D_c := D_c.mono S_o
    replace D_d := D_d.mono S_o
    replace D_m := D_m.mono S_o
    replace D_j := D_j.mono S_o
    have S := ((((((S_a).trans S_b).trans S_c).trans S_d).trans S_m).trans S_j).trans S_o
    have A7 : DtAll K _ [.ref a, .ref b, .ref c, .ref d, .ref m, .ref j, .ref o] (vals7.map vlD) := (.cons D_a (.cons D_b (.cons D_c (.cons D_d (.cons D_m (.cons D_j (.cons D_o .nil)))))))
    clear S_a D_a S_b D_b S_c D_c S_d D_d S_m D_m S_j D_j S_o D_o
    generalize (upd (upd (upd (upd (upd (upd (upd G9 a (.tup [.str "none"])) b (.tup [.str "bool", .bl true])) c (.tup [.str "int", .int 7])) d (.tup [.str "text", .str "t"])) m (.tup [.str "span", .int 1, .int 4])) j (.tup [.str "built", .str "len"])) o (.tup [.str "host", .str "ask"])) = G10 at S A7 hvl hnl ⊢
    have L10 : ListAt K G10 hp hds := listAt_mono I9.2 S
    have K10 : Keep hp H G10 := fun b o e ne => S _ _ (I9.1 _ _ e ne)
    have hpv : hp ≠ vl := by obtain ⟨zs, ez, _⟩ := L10; exact ne_of_none ez hvl
    have V10 := listAt_made (K := K) hvl A7
    have vn : vl ≠ nl := by obtain ⟨zs, ez, _⟩ := V10; exact ne_of_none ez hnl
    have Sv := Same.new (o := .lst [.ref a, .ref b, .ref c, .ref d, .ref m, .ref j, .ref o]) hvl
    have Sn := Same.new (o := .lst (names7.map V.str)) hnl
    have L11 := listAt_mono (listAt_mono L10 Sv) Sn
    have V11 := listAt_mono V10 Sn
    have hpn : hp ≠ nl := by obtain ⟨zs, ez, _⟩ := listAt_mono L10 Sv; exact ne_of_none ez hnl
    have K11 : Keep hp H (upd (upd G10 vl (.lst [.ref a, .ref b, .ref c, .ref d, .ref m, .ref j, .ref o])) nl (.lst (names7.map V.str))) := fun b o e ne => Sn _ _ (Sv _ _ (K10 _ _ e ne))
    have N11 : upd (upd G10 vl (.lst [.ref a, .ref b, .ref c, .ref d, .ref m, .ref j, .ref o])) nl (.lst (names7.map V.str)) nl = some (.lst (names7.map V.str)) := upd_same
    have nv : H vl = none := by
      cases ev : H vl with
      | none => rfl
      | some o => have := K10 _ _ ev (fun h => hpv h.symm); rw [hvl] at this; cases this
    change tSeq _ _ _ _ (upd (upd G10 vl (.lst [.ref a, .ref b, .ref c, .ref d, .ref m, .ref j, .ref o])) nl (.lst (names7.map V.str)))
    generalize upd (upd G10 vl (.lst [.ref a, .ref b, .ref c, .ref d, .ref m, .ref j, .ref o])) nl (.lst (names7.map V.str)) = G11 at L11 V11 K11 N11 ⊢
    clear Sv Sn V10 L10 K10 A7 S hvl hnl I9
    refine ⟨fun σ H1 => (∃ x4, σ = [some (.ref hp), some (.int 17), some (.ref vl), some (.ref nl), x4]) ∧ Keep hp H H1 ∧ ListAt K H1 hp hds ∧ ListAt K H1 vl ((vals7 ++ refs 9).map vlD) ∧ H1 nl = some (.lst (names7.map V.str)), ?_, ?_⟩
    · refine ⟨_, rfl, by decide, by decide, ?_⟩
      refine for_range (lo := 0) (n := 9) (fun i σ H1 => (∃ x4, σ = [some (.ref hp), some (.int 17), some (.ref vl), some (.ref nl), x4]) ∧ Keep hp H H1 ∧ ListAt K H1 hp hds ∧ ListAt K H1 vl ((vals7 ++ refs i).map vlD) ∧ H1 nl = some (.lst (names7.map V.str))) ⟨⟨_, rfl⟩, K11, L11, V11, N11⟩ ?_ ?_
      · rintro i σ H1 hi ⟨⟨x4, rfl⟩, K1, L1, V1, N1⟩
        obtain ⟨zs, ez, az⟩ := id V1
        have lz := az.length
        have lz2 : zs.length < sizeLine := js_lt (by rw [lz]; simp [refs, vals7]; omega)
        refine ⟨_, rfl, .inl ⟨rfl, _, SqL.of ez⟩, _, rfl, _, rfl, _, _, rfl, rfl, sz_2, fun u hu => ?_⟩
        have S := Same.new (o := .tup [.str "ref", .int (17 + (0 + (i : Int)))]) hu
        have du : Dt K (upd H1 u (.tup [.str "ref", .int (17 + (0 + (i : Int)))])) (.ref u) (vlD (.ref (17 + i))) := by
          have e : ((17 + i : Nat) : Int) = 17 + (0 + (i : Int)) := by omega
          show Dt K _ _ (.tuple [.str "ref", .int ((17 + i : Nat) : Int)])
          rw [e]
          exact Dt.made (K := K) hu (.cons (.str "ref") (.cons (.int (17 + (0 + (i : Int)))) .nil))
        refine ⟨vl, zs, _, rfl, rfl, S _ _ ez, lz2, ⟨_, rfl⟩, ?_, listAt_upd (listAt_mono L1 S) hpv (S _ _ ez), ?_, ?_⟩
        · intro b o eb ne
          have nb : b ≠ vl := fun h => by rw [h, nv] at eb; cases eb
          rw [upd_ne nb]
          exact S _ _ (K1 _ _ eb ne)
        · have e : (vals7 ++ refs (i + 1)).map vlD = (vals7 ++ refs i).map vlD ++ [vlD (.ref (17 + i))] := by
            simp [refs, List.range_succ]
          rw [e]
          exact listAt_app (listAt_mono V1 S) (S _ _ ez) du
        · rw [upd_ne (fun h => vn h.symm)]
          exact S _ _ N1
      · rintro σ H1 h
        exact h
    rintro _ G12 ⟨⟨x4, rfl⟩, K12, L12, V12, N12⟩
    refine ⟨_, rfl, (by show 9 ≤ sizeLine; decide), fun bl hbl => ⟨nl, bl, _, _, rfl, rfl, Same.new hbl _ _ N12, upd_same, (by show 16 ≤ sizeLine; decide), fun n2 hn2 => ?_⟩⟩
    refine ⟨_, rfl, _, rfl, sz_2, fun b2 hb2 => ⟨n2, b2, _, _, rfl, rfl, Same.new hb2 _ _ upd_same, upd_same, (by show 18 ≤ sizeLine; decide), fun n3 hn3 => ⟨sz_2, fun r hr => ?_⟩⟩⟩
    have S3 := (((Same.new hbl).trans (Same.new hn2)).trans (Same.new hb2)).trans (Same.new (o := .lst (names18.map V.str)) hn3)
    have S := S3.trans (Same.new (o := .lst [V.ref vl, V.ref n3]) hr)
    have nr : H r = none := by
      cases er : H r with
      | none => rfl
      | some o =>
        by_cases c : r = hp
        · subst c
          obtain ⟨zs, ez, _⟩ := L12
          exact absurd (hr.symm.trans (S3 _ _ ez)) (fun h => by cases h)
        · exact absurd (hr.symm.trans (S3 _ _ (K12 _ _ er c))) (fun h => by cases h)
    exact k r vl n3 _ (fun b o e ne => S _ _ (K12 _ _ e ne)) (listAt_mono L12 S) nr nv upd_same (listAt_mono V12 S) (Same.new hr _ _ upd_same)
end

section
--SPLIT
end
section
def opsL : List Str := ["+", "-", "*", "//", "mod", "<", "<=", ">", ">=", "in", "notin"]
def wh : List Str := ["int", "bool"]
def rowl : List Str := ["str", "tuple", "list"]
def meansB (op a b : Str) : Bool :=
  if a ∈ wh ∧ b ∈ wh then !decide (op ∈ (["in", "notin"] : List Str))
  else if op ∈ (["<", "<=", ">", ">="] : List Str) then decide (a = b) && decide (a ∈ rowl)
  else if op ∈ (["in", "notin"] : List Str) then decide (b ∈ (["tuple", "list", "dict", "range"] : List Str)) || (decide (a = "str") && decide (b = "str"))
  else if op = "+" then decide (a = b) && decide (a ∈ rowl)
  else decide (op = "*") && ((decide (a ∈ rowl) && decide (b ∈ wh)) || (decide (a ∈ wh) && decide (b ∈ rowl)))
/-- what the law's single readings ask -/
structure Sing (x : Vl) (t kd : Str) : Prop where
  num : t ∉ wh → numV x = none
  row : t ∉ (["str", "tuple", "list", "dict", "range"] : List Str) → (kn x ≠ 4 ∧ kn x ≠ 3 ∧ kd ∉ (["tuple", "list", "dict"] : List Str)) ∧ kd ≠ "dict" ∧ kn x ≠ 4 ∧ rk x kd = ""
  slice : t ∉ (["str", "tuple", "list"] : List Str) → rk x kd = ""
  put : t ∉ (["list", "dict"] : List Str) → (kd ≠ "list" ∧ kd ≠ "dict") ∧ kd ∉ (["list", "dict"] : List Str)
theorem sm_r {z : Str} (hz : shortS z = true) : ShowOk (raiseD 10 z) :=
  (Sm.tup (.cons (Sm.short (n := "raise") (by decide +kernel)) (.cons (Sm.int (i := 10) (Nat.lt_of_lt_of_le (show (10 : Int).natAbs < 2 ^ 20 by decide) (Nat.pow_le_pow_right (by decide) (by decide)))) (.cons (Sm.short hz) .nil)))).show (by decide) (by decide)
theorem sm_ws : ∀ t ∈ names18, shortS ("unsupported operand for -: " ++ t) = true ∧ shortS ("no length: " ++ t) = true ∧ shortS (("no items" ++ ": ") ++ t) = true ∧ shortS (("no slices" ++ ": ") ++ t) = true ∧ shortS (("items cannot be set" ++ ": ") ++ t) = true ∧ shortS (("items cannot be deleted" ++ ": ") ++ t) = true := by decide +kernel
end
section
variable {P : Program} {w : World} {K : PySem.W.Frag} {mg : Str → Option Value} {base : Heap}
def spMeans (K : PySem.W.Frag) : Sp := fun vs H Q _ => ∃ (op a b : Str), vs = [.str op, .str a, .str b] ∧ op ∈ opsL ∧ ∀ H', Same H H' → Q (.bl (meansB op a b)) H'
theorem ok_means {f : Addr} {fd : FuncData} (F : Fun K "_law_means" "_law_means" s_law_means f fd) (T : Txt K mg) : FnG P w K mg base CX0 1 f fd P_law_means (spMeans K) := by
  refine okG0 F sc_law_means (fun vs H Q E h => ?_) fun cdv A outer s H vs Q E hr hg h => ?_
  · obtain ⟨op, a, b, rfl, _⟩ := h
    rfl
  · obtain ⟨op, a, b, rfl, ho, k⟩ := h
    refine ⟨_, (pss_cons (ps_set (i := 3) sc_law_means.nd rfl (Or.inl rfl) (pe_lst (pa_cons pe_str (pa_cons pe_str pa_nil))))
  (pss_cons (ps_set (i := 4) sc_law_means.nd rfl (Or.inl rfl) (pe_lst (pa_cons pe_str (pa_cons pe_str (pa_cons pe_str pa_nil)))))
  (pss_cons (ps_if (pt_cmpR op_in_seq (pv 0) (pe_tup (pa_cons pe_str (pa_cons pe_str (pa_cons pe_str (pa_cons pe_str pa_nil))))) (by rfl))
   pss_never
   pss_nil)
  (C8.pss_cut (ps_if (PW.pt (pw_and (pt_cmpR op_in_seq (pv 1) (pv 3) (by rfl)) (pw_and1 (pt_cmpR op_in_seq (pv 2) (pv 3) (by rfl)))))
   (pss_one (ps_ret (pe_cmpR op_notIn_seq (pv 0) (pe_tup (pa_cons pe_str (pa_cons pe_str pa_nil))) (by rfl))))
   pss_nil)
  (C8.pss_cut (ps_if (pt_cmpR op_in_seq (pv 0) (pe_tup (pa_cons pe_str (pa_cons pe_str (pa_cons pe_str (pa_cons pe_str pa_nil))))) (by rfl))
   (pss_one (ps_ret (pe_and (pe_cmpR op_eq (pv 1) (pv 2) (nomark _)) (pe_one (pe_cmpR op_in_seq (pv 1) (pv 4) (by rfl))))))
   pss_nil)
  (C8.pss_cut (ps_if (pt_cmpR op_in_seq (pv 0) (pe_tup (pa_cons pe_str (pa_cons pe_str pa_nil))) (by rfl))
   (pss_one (ps_ret (pe_or (pe_cmpR op_in_seq (pv 2) (pe_tup (pa_cons pe_str (pa_cons pe_str (pa_cons pe_str (pa_cons pe_str pa_nil))))) (by rfl)) (pe_one (pe_and (pe_cmpR op_eq (pv 1) pe_str (nomark _)) (pe_one (pe_cmpR op_eq (pv 2) pe_str (nomark _))))))))
   pss_nil)
  (C8.pss_cut (ps_if (pt_cmpR op_eq (pv 0) pe_str (nomark _))
   (pss_one (ps_ret (pe_and (pe_cmpR op_eq (pv 1) (pv 2) (nomark _)) (pe_one (pe_cmpR op_in_seq (pv 1) (pv 4) (by rfl))))))
   pss_nil)
  (pss_one (ps_ret (pe_and (pe_cmpR op_eq (pv 0) pe_str (nomark _)) (pe_one (pe_or (pe_and (pe_cmpR op_in_seq (pv 1) (pv 4) (by rfl)) (pe_one (pe_cmpR op_in_seq (pv 2) (pv 3) (by rfl)))) (pe_one (pe_and (pe_cmpR op_in_seq (pv 1) (pv 3) (by rfl)) (pe_one (pe_cmpR op_in_seq (pv 2) (pv 4) (by rfl))))))))))))))))), ?_⟩
    refine ⟨sz_2, fun wl hwl => ⟨sz_3, fun rl hrl => ⟨_, rfl, sz_4, fun u hu => ⟨u, _, rfl, .inr (SqT.of upd_same), rfl, rfl, _, rfl, ?_⟩⟩⟩⟩
    have no1 : inV (V.str op) [V.str "==", V.str "!=", V.str "is", V.str "isnot"] = false := (by decide +kernel : ∀ o ∈ opsL, inV (V.str o) [V.str "==", V.str "!=", V.str "is", V.str "isnot"] = false) op ho
    rw [if_neg Bool.false_ne_true, no1]
    refine iteFb rfl ?_
    have S1 : Same H (upd (upd (upd H wl (.lst (wh.map V.str))) rl (.lst (rowl.map V.str))) u (.tup [V.str "==", V.str "!=", V.str "is", V.str "isnot"])) := ((Same.new hwl).trans (Same.new hrl)).trans (Same.new hu)
    have W1 : SqL K (upd (upd (upd H wl (.lst (wh.map V.str))) rl (.lst (rowl.map V.str))) u (.tup [V.str "==", V.str "!=", V.str "is", V.str "isnot"])) wl (wh.map V.str) := SqL.of (Same.new hu _ _ (Same.new hrl _ _ upd_same))
    have R1 : SqL K (upd (upd (upd H wl (.lst (wh.map V.str))) rl (.lst (rowl.map V.str))) u (.tup [V.str "==", V.str "!=", V.str "is", V.str "isnot"])) rl (rowl.map V.str) := SqL.of (Same.new hu _ _ upd_same)
    change tSeq _ _ _ _ (upd (upd (upd H wl (.lst (wh.map V.str))) rl (.lst (rowl.map V.str))) u (.tup [V.str "==", V.str "!=", V.str "is", V.str "isnot"]))
    generalize upd (upd (upd H wl (.lst (wh.map V.str))) rl (.lst (rowl.map V.str))) u (.tup [V.str "==", V.str "!=", V.str "is", V.str "isnot"]) = H1 at S1 W1 R1 ⊢
    clear hwl hrl hu
    have iw : ∀ z, inV (V.str z) (wh.map V.str) = decide (z ∈ wh) := fun z => inV_strs _
    have ir : ∀ z, inV (V.str z) (rowl.map V.str) = decide (z ∈ rowl) := fun z => inV_strs _
    have eqd : ∀ {x y : Str}, decide (V.str x = V.str y) = decide (x = y) := fun {x y} => by
      by_cases c : x = y
      · rw [c, decide_eq_true rfl, decide_eq_true rfl]
      · rw [dec_str c, decide_eq_false c]
    have tup4 : [V.str "<", V.str "<=", V.str ">", V.str ">="] = (["<", "<=", ">", ">="] : List Str).map V.str := rfl
    have tup2 : [V.str "in", V.str "notin"] = (["in", "notin"] : List Str).map V.str := rfl
    have tupc : [V.str "tuple", V.str "list", V.str "dict", V.str "range"] = (["tuple", "list", "dict", "range"] : List Str).map V.str := rfl
    let σ0 : L2.St := [some (.str op), some (.str a), some (.str b), some (.ref wl), some (.ref rl)]
    have SW : ∀ {H2 : Hp}, Same H1 H2 → SqL K H2 wl (wh.map V.str) := fun S => SqL.mono W1 S
    have SR : ∀ {H2 : Hp}, Same H1 H2 → SqL K H2 rl (rowl.map V.str) := fun S => SqL.mono R1 S
    have mb : meansB op a b = meansB op a b := rfl
    refine ⟨fun σ H2 => (σ = σ0 ∧ Same H1 H2) ∧ ¬ (a ∈ wh ∧ b ∈ wh), ?_, ?_⟩
    · refine ⟨_, rfl, _, rfl, wl, _, rfl, .inl W1, rfl, rfl, _, rfl, ?_⟩
      rw [if_neg Bool.false_ne_true, iw]
      by_cases c1 : a ∈ wh
      · refine iteTb (decide_eq_true c1) ⟨_, rfl, _, rfl, wl, _, rfl, .inl W1, rfl, rfl, _, rfl, ?_⟩
        rw [if_neg Bool.false_ne_true, iw]
        by_cases c2 : b ∈ wh
        · refine iteTb (decide_eq_true c2) ⟨_, rfl, sz_2, fun u hu => ⟨u, _, rfl, .inr (SqT.of upd_same), rfl, rfl, ?_⟩⟩
          rw [if_pos rfl, tup2, inV_strs]
          have e : meansB op a b = !decide (op ∈ (["in", "notin"] : List Str)) := if_pos ⟨c1, c2⟩
          rw [← e]
          exact k _ (S1.trans (Same.new hu))
        · exact iteFb (decide_eq_false c2) ⟨⟨rfl, Same.refl _⟩, fun h => c2 h.2⟩
      · exact iteFb (decide_eq_false c1) (iteFb rfl ⟨⟨rfl, Same.refl _⟩, fun h => c1 h.1⟩)
    rintro _ H2 ⟨⟨rfl, S2⟩, n1⟩
    have m1 : meansB op a b = if op ∈ (["<", "<=", ">", ">="] : List Str) then decide (a = b) && decide (a ∈ rowl)
      else if op ∈ (["in", "notin"] : List Str) then decide (b ∈ (["tuple", "list", "dict", "range"] : List Str)) || (decide (a = "str") && decide (b = "str"))
      else if op = "+" then decide (a = b) && decide (a ∈ rowl)
      else decide (op = "*") && ((decide (a ∈ rowl) && decide (b ∈ wh)) || (decide (a ∈ wh) && decide (b ∈ rowl))) := if_neg n1
    have both : ∀ {H3 : Hp} {Q2 : VK}, Same H1 H3 → Q2 (.bl (decide (a = b) && decide (a ∈ rowl))) H3 → tAndV (tOp rEq (tVar 1) (tVar 2)) (tOp (rIn K false) (tVar 1) (tVar 4)) σ0 H3 Q2 := fun {H3 Q2} S3 q => by
      refine ⟨_, rfl, _, rfl, rfl, _, rfl, ?_⟩
      rw [eqd]
      by_cases c : a = b
      · refine iteTb (decide_eq_true c) ⟨_, rfl, _, rfl, rl, _, rfl, .inl (SR S3), rfl, rfl, ?_⟩
        rw [if_neg Bool.false_ne_true, ir]
        rw [decide_eq_true c, Bool.true_and] at q
        exact q
      · rw [decide_eq_false c, Bool.false_and] at q
        exact iteFb (decide_eq_false c) q
    refine ⟨fun σ H2 => (σ = σ0 ∧ Same H1 H2) ∧ op ∉ (["<", "<=", ">", ">="] : List Str), ?_, ?_⟩
    · refine ⟨_, rfl, sz_4, fun u hu => ⟨u, _, rfl, .inr (SqT.of upd_same), rfl, rfl, _, rfl, ?_⟩⟩
      rw [if_neg Bool.false_ne_true, tup4, inV_strs]
      have S3 := S2.trans (Same.new (o := .tup ((["<", "<=", ">", ">="] : List Str).map V.str)) hu)
      by_cases c : op ∈ (["<", "<=", ">", ">="] : List Str)
      · refine iteTb (decide_eq_true c) (both S3 ?_)
        rw [if_pos c] at m1
        rw [← m1]
        exact k _ (S1.trans S3)
      · exact iteFb (decide_eq_false c) ⟨⟨rfl, S3⟩, c⟩
    rintro _ H3 ⟨⟨rfl, S3⟩, n2⟩
    rw [if_neg n2] at m1
    refine ⟨fun σ H2 => (σ = σ0 ∧ Same H1 H2) ∧ op ∉ (["in", "notin"] : List Str), ?_, ?_⟩
    · refine ⟨_, rfl, sz_2, fun u hu => ⟨u, _, rfl, .inr (SqT.of upd_same), rfl, rfl, _, rfl, ?_⟩⟩
      rw [if_neg Bool.false_ne_true, tup2, inV_strs]
      have S4 := S3.trans (Same.new (o := .tup ((["in", "notin"] : List Str).map V.str)) hu)
      by_cases c : op ∈ (["in", "notin"] : List Str)
      · rw [if_pos c] at m1
        refine iteTb (decide_eq_true c) ⟨_, rfl, sz_4, fun u2 hu2 => ⟨u2, _, rfl, .inr (SqT.of upd_same), rfl, rfl, _, rfl, ?_⟩⟩
        rw [if_neg Bool.false_ne_true, tupc, inV_strs]
        have S5 := S1.trans (S4.trans (Same.new (o := .tup ((["tuple", "list", "dict", "range"] : List Str).map V.str)) hu2))
        by_cases c2 : b ∈ (["tuple", "list", "dict", "range"] : List Str)
        · rw [decide_eq_true c2, Bool.true_or] at m1
          rw [m1] at k
          exact iteTb (decide_eq_true c2) (k _ S5)
        · rw [decide_eq_false c2, Bool.false_or] at m1
          refine iteFb (decide_eq_false c2) ⟨_, rfl, rfl, _, rfl, ?_⟩
          rw [show decide (V.str a = V.str "str") = decide (a = "str") from eqd]
          by_cases c3 : a = "str"
          · rw [decide_eq_true c3, Bool.true_and] at m1
            refine iteTb (decide_eq_true c3) ⟨_, rfl, rfl, ?_⟩
            rw [show decide (V.str b = V.str "str") = decide (b = "str") from eqd, ← m1]
            exact k _ S5
          · rw [decide_eq_false c3, Bool.false_and] at m1
            rw [m1] at k
            exact iteFb (decide_eq_false c3) (k _ S5)
      · exact iteFb (decide_eq_false c) ⟨⟨rfl, S4⟩, c⟩
    rintro _ H4 ⟨⟨rfl, S4⟩, n3⟩
    rw [if_neg n3] at m1
    refine ⟨fun σ H2 => (σ = σ0 ∧ Same H1 H2) ∧ op ≠ "+", ?_, ?_⟩
    · refine ⟨_, rfl, rfl, _, rfl, ?_⟩
      rw [show decide (V.str op = V.str "+") = decide (op = "+") from eqd]
      by_cases c : op = "+"
      · rw [if_pos c] at m1
        refine iteTb (decide_eq_true c) (both S4 ?_)
        rw [← m1]
        exact k _ (S1.trans S4)
      · exact iteFb (decide_eq_false c) ⟨⟨rfl, S4⟩, c⟩
    rintro _ H5 ⟨⟨rfl, S5⟩, n4⟩
    rw [if_neg n4] at m1
    have S6 := S1.trans S5
    refine ⟨_, rfl, rfl, _, rfl, ?_⟩
    rw [show decide (V.str op = V.str "*") = decide (op = "*") from eqd]
    by_cases c : op = "*"
    · rw [decide_eq_true c, Bool.true_and] at m1
      refine iteTb (decide_eq_true c) ?_
      have two : ∀ {H3 : Hp} {Q2 : VK}, Same H1 H3 → Q2 (.bl (decide (a ∈ rowl) && decide (b ∈ wh))) H3 → tAndV (tOp (rIn K false) (tVar 1) (tVar 4)) (tOp (rIn K false) (tVar 2) (tVar 3)) σ0 H3 Q2 := fun {H3 Q2} S3 q => by
        refine ⟨_, rfl, _, rfl, rl, _, rfl, .inl (SR S3), rfl, rfl, _, rfl, ?_⟩
        rw [if_neg Bool.false_ne_true, ir]
        by_cases c : a ∈ rowl
        · refine iteTb (decide_eq_true c) ⟨_, rfl, _, rfl, wl, _, rfl, .inl (SW S3), rfl, rfl, ?_⟩
          rw [if_neg Bool.false_ne_true, iw]
          rw [decide_eq_true c, Bool.true_and] at q
          exact q
        · rw [decide_eq_false c, Bool.false_and] at q
          exact iteFb (decide_eq_false c) q
      have two' : ∀ {H3 : Hp} {Q2 : VK}, Same H1 H3 → Q2 (.bl (decide (a ∈ wh) && decide (b ∈ rowl))) H3 → tAndV (tOp (rIn K false) (tVar 1) (tVar 3)) (tOp (rIn K false) (tVar 2) (tVar 4)) σ0 H3 Q2 := fun {H3 Q2} S3 q => by
        refine ⟨_, rfl, _, rfl, wl, _, rfl, .inl (SW S3), rfl, rfl, _, rfl, ?_⟩
        rw [if_neg Bool.false_ne_true, iw]
        by_cases c : a ∈ wh
        · refine iteTb (decide_eq_true c) ⟨_, rfl, _, rfl, rl, _, rfl, .inl (SR S3), rfl, rfl, ?_⟩
          rw [if_neg Bool.false_ne_true, ir]
          rw [decide_eq_true c, Bool.true_and] at q
          exact q
        · rw [decide_eq_false c, Bool.false_and] at q
          exact iteFb (decide_eq_false c) q
      refine two S5 ⟨_, rfl, ?_⟩
      cases c5 : (decide (a ∈ rowl) && decide (b ∈ wh)) with
      | true =>
        rw [c5, Bool.true_or] at m1
        rw [m1] at k
        exact iteTb rfl (k _ S6)
      | false =>
        rw [c5, Bool.false_or] at m1
        refine iteFb rfl (two' S5 ?_)
        rw [← m1]
        exact k _ S6
    · rw [decide_eq_false c, Bool.false_and] at m1
      rw [m1] at k
      exact iteFb (decide_eq_false c) (k _ S6)
def spSing (K : PySem.W.Frag) : Sp := fun vs H Q _ => ∃ (hp : Addr) (hds : List PyData) (v : V) (x : Vl) (t kd : Str), vs = [.ref hp, v, .str t] ∧ ListAt K H hp hds ∧ Dt K H v (vlD x) ∧ Va hds x t kd ∧ t ∈ names18 ∧ Sing x t kd ∧ ∀ H', Same H H' → Q (.bl true) H'
theorem ok_sing {f : Addr} {fd : FuncData} (F : Fun K "_law_singles" "_law_singles" s_law_singles f fd) (T : Txt K mg) (U_law_same : Use P w K mg base CX0 "_law_same" 1 P_law_same (spSame K))
    (U_negated : Use P w K mg base CX0 "negated" 2 P_negated (spOne K (fun x _ => numV x = none) "unsupported operand for -: ")) (U_length : Use P w K mg base CX0 "length" 2 P_length (spOne K (fun x kd => kn x ≠ 4 ∧ kn x ≠ 3 ∧ kd ∉ (["tuple", "list", "dict"] : List Str)) "no length: "))
    (U_item : Use P w K mg base CX0 "item" 3 P_item (spTwo K (fun x kd => kd ≠ "dict" ∧ kn x ≠ 4 ∧ rk x kd = "") "no items")) (U_part : Use P w K mg base CX0 "part" 3 P_part (spThree K (fun x kd => rk x kd = "") "no slices"))
    (U_put_item : Use P w K mg base CX0 "put_item" 3 P_put_item (spThree K (fun _ kd => kd ≠ "list" ∧ kd ≠ "dict") "items cannot be set")) (U_drop_item : Use P w K mg base CX0 "drop_item" 3 P_drop_item (spTwo K (fun _ kd => kd ∉ (["list", "dict"] : List Str)) "items cannot be deleted")) : FnG P w K mg base CX0 4 f fd P_law_singles (spSing K) := by
  refine okG0 F sc_law_singles (fun vs H Q E h => ?_) fun cdv A outer s H vs Q E hr hg h => ?_
  · obtain ⟨hp, hds, v, x, t, kd, rfl, _⟩ := h
    rfl
  · obtain ⟨hp, hds, v, x, t, kd, rfl, L, dv, hv, ht, hs, k⟩ := h
    refine ⟨_, (pss_cons (ps_set (i := 3) sc_law_singles.nd rfl (Or.inl rfl) (pe_tup (pa_cons pe_str (pa_cons pe_int pa_nil))))
  (C8.pss_cut (ps_if (pt_cmpR op_notIn_seq (pv 2) (pe_tup (pa_cons pe_str (pa_cons pe_str pa_nil))) (by rfl))
   (pss_one (ps_if (pt_not (pt_val (pe_use U_law_same (hr.mono (by decide)) hg rfl (pa_cons (pe_use U_negated (hr.mono (by decide)) hg rfl (pa_cons (pv 0) (pa_cons (pv 1) pa_nil))) (pa_cons (pe_tup (pa_cons pe_str (pa_cons pe_int (pa_cons (pe_op op_add_str pe_str (pv 2)) pa_nil)))) pa_nil)))))
   pss_never
   pss_nil))
   pss_nil)
  (C8.pss_cut (ps_if (pt_cmpR op_notIn_seq (pv 2) (pe_tup (pa_cons pe_str (pa_cons pe_str (pa_cons pe_str (pa_cons pe_str (pa_cons pe_str pa_nil)))))) (by rfl))
   (pss_cons (ps_if (pt_not (pt_val (pe_use U_law_same (hr.mono (by decide)) hg rfl (pa_cons (pe_use U_length (hr.mono (by decide)) hg rfl (pa_cons (pv 0) (pa_cons (pv 1) pa_nil))) (pa_cons (pe_tup (pa_cons pe_str (pa_cons pe_int (pa_cons (pe_op op_add_str pe_str (pv 2)) pa_nil)))) pa_nil)))))
   pss_never
   pss_nil)
  (pss_one (ps_if (pt_not (pt_val (pe_use U_law_same (hr.mono (by decide)) hg rfl (pa_cons (pe_use U_item (hr.mono (by decide)) hg rfl (pa_cons (pv 0) (pa_cons (pv 1) (pa_cons (pv 3) pa_nil)))) (pa_cons (pe_tup (pa_cons pe_str (pa_cons pe_int (pa_cons (pe_op op_add_str pe_str (pv 2)) pa_nil)))) pa_nil)))))
   pss_never
   pss_nil)))
   pss_nil)
  (C8.pss_cut (ps_if (pt_cmpR op_notIn_seq (pv 2) (pe_tup (pa_cons pe_str (pa_cons pe_str (pa_cons pe_str pa_nil)))) (by rfl))
   (pss_one (ps_if (pt_not (pt_val (pe_use U_law_same (hr.mono (by decide)) hg rfl (pa_cons (pe_use U_part (hr.mono (by decide)) hg rfl (pa_cons (pv 0) (pa_cons (pv 1) (pa_cons (pv 3) (pa_cons (pv 3) pa_nil))))) (pa_cons (pe_tup (pa_cons pe_str (pa_cons pe_int (pa_cons (pe_op op_add_str pe_str (pv 2)) pa_nil)))) pa_nil)))))
   pss_never
   pss_nil))
   pss_nil)
  (C8.pss_cut (ps_if (pt_cmpR op_notIn_seq (pv 2) (pe_tup (pa_cons pe_str (pa_cons pe_str pa_nil))) (by rfl))
   (pss_cons (ps_if (pt_not (pt_val (pe_use U_law_same (hr.mono (by decide)) hg rfl (pa_cons (pe_use U_put_item (hr.mono (by decide)) hg rfl (pa_cons (pv 0) (pa_cons (pv 1) (pa_cons (pv 3) (pa_cons (pv 3) pa_nil))))) (pa_cons (pe_tup (pa_cons pe_str (pa_cons pe_int (pa_cons (pe_op op_add_str pe_str (pv 2)) pa_nil)))) pa_nil)))))
   pss_never
   pss_nil)
  (pss_one (ps_if (pt_not (pt_val (pe_use U_law_same (hr.mono (by decide)) hg rfl (pa_cons (pe_use U_drop_item (hr.mono (by decide)) hg rfl (pa_cons (pv 0) (pa_cons (pv 1) (pa_cons (pv 3) pa_nil)))) (pa_cons (pe_tup (pa_cons pe_str (pa_cons pe_int (pa_cons (pe_op op_add_str pe_str (pv 2)) pa_nil)))) pa_nil)))))
   pss_never
   pss_nil)))
   pss_nil)
  (pss_one (ps_ret pe_bl))))))), ?_⟩
    refine ⟨sz_2, fun ix hix => ?_⟩
    have sw := sm_ws t ht
    rw [show ("no items" : Str) ++ ": " = "no items: " by decide +kernel, show ("no slices" : Str) ++ ": " = "no slices: " by decide +kernel, show ("items cannot be set" : Str) ++ ": " = "items cannot be set: " by decide +kernel, show ("items cannot be deleted" : Str) ++ ": " = "items cannot be deleted: " by decide +kernel] at sw
    have S0 : Same H (upd H ix (.tup [.str "int", .int 0])) := Same.new hix
    refine ⟨fun σ H2 => σ = [some (.ref hp), some v, some (.str t), some (.ref ix)] ∧ Same H H2, ?_, ?_⟩
    · refine ⟨_, rfl, sz_2, fun u hu => ⟨u, _, rfl, .inr (SqT.of upd_same), rfl, rfl, _, rfl, ?_⟩⟩
      rw [if_pos rfl, show [V.str "int", V.str "bool"] = (["int", "bool"] : List Str).map V.str from rfl, inV_strs]
      have B1 := S0.trans (Same.new (o := .tup ((["int", "bool"] : List Str).map V.str)) hu)
      by_cases c : t ∈ (["int", "bool"] : List Str)
      · exact iteFb (by rw [decide_eq_true c]; rfl) ⟨rfl, B1⟩
      refine iteTb (by rw [decide_eq_false c]; rfl) ?_
      refine ⟨_, rfl, _, rfl, hp, hds, v, x, t, kd, rfl, listAt_mono L B1, dv.mono B1, hv, hs.num c, fun u11 G11 T11 du11 => ⟨_, rfl, _, _, rfl, rfl, ss_le (by have := hv.len; have h9 : ("unsupported operand for -: " : Str).length ≤ 100 := (by decide +kernel); omega), sz_3, fun z11 hz11 => ?_⟩⟩
      have Z11 : Same G11 (upd G11 z11 (.tup [.str "raise", .int 10, .str ("unsupported operand for -: " ++ t)])) := Same.new hz11
      have dz11 := Dt.made (K := K) hz11 (.cons (.str "raise") (.cons (.int 10) (.cons (.str ("unsupported operand for -: " ++ t)) .nil)))
      refine ⟨u11, .ref z11, raiseD 10 ("unsupported operand for -: " ++ t), rfl, (du11.mono Z11).dp, dz11.dp, sm_r (sw.1), true, rfl, iteFb rfl ?_⟩
      have S11 := (B1.trans T11).trans Z11
      exact ⟨rfl, S11⟩
    rintro _ H1 ⟨rfl, S1⟩
    refine ⟨fun σ H2 => σ = [some (.ref hp), some v, some (.str t), some (.ref ix)] ∧ Same H H2, ?_, ?_⟩
    · refine ⟨_, rfl, (by show 5 ≤ sizeLine; decide), fun u hu => ⟨u, _, rfl, .inr (SqT.of upd_same), rfl, rfl, _, rfl, ?_⟩⟩
      rw [if_pos rfl, show [V.str "str", V.str "tuple", V.str "list", V.str "dict", V.str "range"] = (["str", "tuple", "list", "dict", "range"] : List Str).map V.str from rfl, inV_strs]
      have B2 := S1.trans (Same.new (o := .tup ((["str", "tuple", "list", "dict", "range"] : List Str).map V.str)) hu)
      by_cases c : t ∈ (["str", "tuple", "list", "dict", "range"] : List Str)
      · exact iteFb (by rw [decide_eq_true c]; rfl) ⟨rfl, B2⟩
      refine iteTb (by rw [decide_eq_false c]; rfl) ?_
      refine ⟨_, rfl, _, rfl, hp, hds, v, x, t, kd, rfl, listAt_mono L B2, dv.mono B2, hv, (hs.row c).1, fun u21 G21 T21 du21 => ⟨_, rfl, _, _, rfl, rfl, ss_le (by have := hv.len; have h9 : ("no length: " : Str).length ≤ 100 := (by decide +kernel); omega), sz_3, fun z21 hz21 => ?_⟩⟩
      have Z21 : Same G21 (upd G21 z21 (.tup [.str "raise", .int 10, .str ("no length: " ++ t)])) := Same.new hz21
      have dz21 := Dt.made (K := K) hz21 (.cons (.str "raise") (.cons (.int 10) (.cons (.str ("no length: " ++ t)) .nil)))
      refine ⟨u21, .ref z21, raiseD 10 ("no length: " ++ t), rfl, (du21.mono Z21).dp, dz21.dp, sm_r (sw.2.1), true, rfl, iteFb rfl ?_⟩
      have S21 := (B2.trans T21).trans Z21
      refine ⟨_, rfl, _, rfl, _, rfl, hp, hds, v, _, x, t, kd, rfl, listAt_mono L S21, dv.mono S21, hv, (hs.row c).2, fun u22 G22 T22 du22 => ⟨_, rfl, _, _, rfl, rfl, ss_le (by have := hv.len; have h9 : ("no items: " : Str).length ≤ 100 := (by decide +kernel); omega), sz_3, fun z22 hz22 => ?_⟩⟩
      have Z22 : Same G22 (upd G22 z22 (.tup [.str "raise", .int 10, .str ("no items: " ++ t)])) := Same.new hz22
      have dz22 := Dt.made (K := K) hz22 (.cons (.str "raise") (.cons (.int 10) (.cons (.str ("no items: " ++ t)) .nil)))
      rw [show ("no items" : Str) ++ ": " = "no items: " by decide +kernel] at du22
      refine ⟨u22, .ref z22, raiseD 10 ("no items: " ++ t), rfl, (du22.mono Z22).dp, dz22.dp, sm_r (sw.2.2.1), true, rfl, iteFb rfl ?_⟩
      have S22 := (S21.trans T22).trans Z22
      exact ⟨rfl, S22⟩
    rintro _ H2 ⟨rfl, S2⟩
    refine ⟨fun σ H2 => σ = [some (.ref hp), some v, some (.str t), some (.ref ix)] ∧ Same H H2, ?_, ?_⟩
    · refine ⟨_, rfl, sz_3, fun u hu => ⟨u, _, rfl, .inr (SqT.of upd_same), rfl, rfl, _, rfl, ?_⟩⟩
      rw [if_pos rfl, show [V.str "str", V.str "tuple", V.str "list"] = (["str", "tuple", "list"] : List Str).map V.str from rfl, inV_strs]
      have B3 := S2.trans (Same.new (o := .tup ((["str", "tuple", "list"] : List Str).map V.str)) hu)
      by_cases c : t ∈ (["str", "tuple", "list"] : List Str)
      · exact iteFb (by rw [decide_eq_true c]; rfl) ⟨rfl, B3⟩
      refine iteTb (by rw [decide_eq_false c]; rfl) ?_
      refine ⟨_, rfl, _, rfl, _, rfl, _, rfl, hp, hds, v, _, _, x, t, kd, rfl, listAt_mono L B3, dv.mono B3, hv, hs.slice c, fun u31 G31 T31 du31 => ⟨_, rfl, _, _, rfl, rfl, ss_le (by have := hv.len; have h9 : ("no slices: " : Str).length ≤ 100 := (by decide +kernel); omega), sz_3, fun z31 hz31 => ?_⟩⟩
      have Z31 : Same G31 (upd G31 z31 (.tup [.str "raise", .int 10, .str ("no slices: " ++ t)])) := Same.new hz31
      have dz31 := Dt.made (K := K) hz31 (.cons (.str "raise") (.cons (.int 10) (.cons (.str ("no slices: " ++ t)) .nil)))
      rw [show ("no slices" : Str) ++ ": " = "no slices: " by decide +kernel] at du31
      refine ⟨u31, .ref z31, raiseD 10 ("no slices: " ++ t), rfl, (du31.mono Z31).dp, dz31.dp, sm_r (sw.2.2.2.1), true, rfl, iteFb rfl ?_⟩
      have S31 := (B3.trans T31).trans Z31
      exact ⟨rfl, S31⟩
    rintro _ H3 ⟨rfl, S3⟩
    refine ⟨fun σ H2 => σ = [some (.ref hp), some v, some (.str t), some (.ref ix)] ∧ Same H H2, ?_, ?_⟩
    · refine ⟨_, rfl, sz_2, fun u hu => ⟨u, _, rfl, .inr (SqT.of upd_same), rfl, rfl, _, rfl, ?_⟩⟩
      rw [if_pos rfl, show [V.str "list", V.str "dict"] = (["list", "dict"] : List Str).map V.str from rfl, inV_strs]
      have B4 := S3.trans (Same.new (o := .tup ((["list", "dict"] : List Str).map V.str)) hu)
      by_cases c : t ∈ (["list", "dict"] : List Str)
      · exact iteFb (by rw [decide_eq_true c]; rfl) ⟨rfl, B4⟩
      refine iteTb (by rw [decide_eq_false c]; rfl) ?_
      refine ⟨_, rfl, _, rfl, _, rfl, _, rfl, hp, hds, v, _, _, x, t, kd, rfl, listAt_mono L B4, dv.mono B4, hv, (hs.put c).1, fun u41 G41 T41 du41 => ⟨_, rfl, _, _, rfl, rfl, ss_le (by have := hv.len; have h9 : ("items cannot be set: " : Str).length ≤ 100 := (by decide +kernel); omega), sz_3, fun z41 hz41 => ?_⟩⟩
      have Z41 : Same G41 (upd G41 z41 (.tup [.str "raise", .int 10, .str ("items cannot be set: " ++ t)])) := Same.new hz41
      have dz41 := Dt.made (K := K) hz41 (.cons (.str "raise") (.cons (.int 10) (.cons (.str ("items cannot be set: " ++ t)) .nil)))
      rw [show ("items cannot be set" : Str) ++ ": " = "items cannot be set: " by decide +kernel] at du41
      refine ⟨u41, .ref z41, raiseD 10 ("items cannot be set: " ++ t), rfl, (du41.mono Z41).dp, dz41.dp, sm_r (sw.2.2.2.2.1), true, rfl, iteFb rfl ?_⟩
      have S41 := (B4.trans T41).trans Z41
      refine ⟨_, rfl, _, rfl, _, rfl, hp, hds, v, _, x, t, kd, rfl, listAt_mono L S41, dv.mono S41, hv, (hs.put c).2, fun u42 G42 T42 du42 => ⟨_, rfl, _, _, rfl, rfl, ss_le (by have := hv.len; have h9 : ("items cannot be deleted: " : Str).length ≤ 100 := (by decide +kernel); omega), sz_3, fun z42 hz42 => ?_⟩⟩
      have Z42 : Same G42 (upd G42 z42 (.tup [.str "raise", .int 10, .str ("items cannot be deleted: " ++ t)])) := Same.new hz42
      have dz42 := Dt.made (K := K) hz42 (.cons (.str "raise") (.cons (.int 10) (.cons (.str ("items cannot be deleted: " ++ t)) .nil)))
      rw [show ("items cannot be deleted" : Str) ++ ": " = "items cannot be deleted: " by decide +kernel] at du42
      refine ⟨u42, .ref z42, raiseD 10 ("items cannot be deleted: " ++ t), rfl, (du42.mono Z42).dp, dz42.dp, sm_r (sw.2.2.2.2.2), true, rfl, iteFb rfl ?_⟩
      have S42 := (S41.trans T42).trans Z42
      exact ⟨rfl, S42⟩
    rintro _ H4 ⟨rfl, S4⟩
    exact k _ S4
end

section
--SPLIT
end
abbrev s_law : Stmt := top 86
abbrev N_law : List Str := ["script", "box", "heap", "given", "values", "kept", "turn", "at", "to", "one", "two", "op", "actual", "words"]
abbrev P_law : List Str := ["script"]
theorem sc_law : FnScope N_law P_law (defScope s_law) := ⟨rfl, rfl, rfl, by decide +kernel, rfl, by decide +kernel, by decide +kernel⟩
section
def tab : List (Nat × Bool × Str) := [(0, false, ""), (1, true, ""), (2, true, ""), (3, false, ""), (4, false, ""), (6, false, ""), (7, false, ""), (5, false, "list"), (5, false, "tuple"), (5, false, "dict"), (5, false, "func"), (5, false, "class"), (5, false, "inst"), (5, false, "bound"), (5, false, "iter"), (5, false, "gen"), (5, false, "scope"), (5, false, "class")]
def rkN (n : Nat) (kd : Str) : Str := if n = 3 then "text" else if kd ∈ (["tuple", "list"] : List Str) then kd else ""
def tb (i : Nat) : Nat × Bool × Str := tab.getD i (0, false, "")
def nm (i : Nat) : Str := names18.getD i ""
def arith : List Str := ["+", "-", "*", "//", "mod"]
def binB (op : Str) (x y : Nat × Bool × Str) : Bool :=
  !(x.2.1 && y.2.1) && (decide (op ≠ "+") || decide (rkN x.1 x.2.2 = "") || decide (rkN x.1 x.2.2 ≠ rkN y.1 y.2.2)) && (decide (op ≠ "*") || decide (rkN x.1 x.2.2 = "") || !y.2.1) && (decide (op ≠ "*") || decide (rkN y.1 y.2.2 = "") || !x.2.1)
def ordB (x y : Nat × Bool × Str) : Bool := !(x.2.1 && y.2.1) && (decide (x.1 ≠ 3) || decide (y.1 ≠ 3)) && (decide (x.2.2 ∉ (["tuple", "list"] : List Str)) || decide (y.2.2 ≠ x.2.2))
def memB (x y : Nat × Bool × Str) : Bool := (decide (x.1 ≠ 3) || decide (y.1 ≠ 3)) && decide (y.1 ≠ 4) && decide (y.2.2 ∉ (["tuple", "list"] : List Str)) && decide (y.2.2 ≠ "dict")
def okB (op : Str) (x y : Nat × Bool × Str) : Bool := if op ∈ arith then binB op x y else if op = "in" ∨ op = "notin" then memB x y else decide (op ∈ (["<", "<=", ">", ">="] : List Str)) && ordB x y
def pairsB : Bool := (List.range 18).all fun i => (List.range 18).all fun j => opsL.all fun op => meansB op (nm i) (nm j) || okB op (tb i) (tb j)
theorem pairs : pairsB = true := by decide +kernel
def singB (t : Str) (x : Nat × Bool × Str) : Bool :=
  (decide (t ∈ wh) || !x.2.1) && (decide (t ∈ (["str", "tuple", "list", "dict", "range"] : List Str)) || (decide (x.1 ≠ 4) && decide (x.1 ≠ 3) && decide (x.2.2 ∉ (["tuple", "list", "dict"] : List Str)) && decide (x.2.2 ≠ "dict") && decide (rkN x.1 x.2.2 = ""))) && (decide (t ∈ (["str", "tuple", "list"] : List Str)) || decide (rkN x.1 x.2.2 = "")) && (decide (t ∈ (["list", "dict"] : List Str)) || (decide (x.2.2 ≠ "list") && decide (x.2.2 ≠ "dict") && decide (x.2.2 ∉ (["list", "dict"] : List Str))))
theorem sings : ∀ i < 18, singB (nm i) (tb i) = true := by decide +kernel
/-- a value's row of the table -/
structure Ro (x : Vl) (kd : Str) (r : Nat × Bool × Str) : Prop where
  kn : kn x = r.1
  num : (numV x).isSome = r.2.1
  kd : kd = r.2.2
theorem Ro.rk {x : Vl} {kd : Str} {r : Nat × Bool × Str} (h : Ro x kd r) : rk x kd = rkN r.1 r.2.2 := by
  unfold K23.rk rkN
  rw [h.kn, h.kd]
theorem Ro.nn {x : Vl} {kd : Str} {r : Nat × Bool × Str} (h : Ro x kd r) (e : r.2.1 = false) : numV x = none := by
  have := h.num
  rw [e] at this
  exact Option.not_isSome_iff_eq_none.mp (by rw [this]; exact Bool.false_ne_true)
theorem bin_of {op : Str} {x y : Vl} {kx ky : Str} {r q : Nat × Bool × Str} (h1 : Ro x kx r) (h2 : Ro y ky q) (h : binB op r q = true) : BinBad op x y kx ky := by
  unfold binB at h
  simp only [Bool.and_eq_true, Bool.or_eq_true, decide_eq_true_eq, Bool.not_eq_true', Bool.and_eq_false_iff] at h
  obtain ⟨⟨⟨a, b⟩, c⟩, d⟩ := h
  refine ⟨a.imp h1.nn h2.nn, fun e => ?_, fun e => ?_, fun e => ?_⟩
  · rw [h1.rk, h2.rk]
    rcases b with (b | b) | b
    · exact absurd e b
    · exact .inl b
    · exact .inr b
  · rw [h1.rk]
    rcases c with (c | c) | c
    · exact absurd e c
    · exact .inl c
    · exact .inr (h2.nn c)
  · rw [h2.rk]
    rcases d with (d | d) | d
    · exact absurd e d
    · exact .inl d
    · exact .inr (h1.nn d)
theorem ord_of {x y : Vl} {kx ky : Str} {r q : Nat × Bool × Str} (h1 : Ro x kx r) (h2 : Ro y ky q) (h : ordB r q = true) : OrdBad x y kx ky := by
  unfold ordB at h
  simp only [Bool.and_eq_true, Bool.or_eq_true, decide_eq_true_eq, Bool.not_eq_true', Bool.and_eq_false_iff] at h
  obtain ⟨⟨a, b⟩, c⟩ := h
  refine ⟨a.imp h1.nn h2.nn, by rw [h1.kn, h2.kn]; exact b, fun e => ?_⟩
  rw [h1.kd] at e ⊢
  rw [h2.kd]
  exact c.resolve_left (fun h => h e)
theorem mem_of {x y : Vl} {kx ky : Str} {r q : Nat × Bool × Str} (h1 : Ro x kx r) (h2 : Ro y ky q) (h : memB r q = true) : MemBad x y ky := by
  unfold memB at h
  simp only [Bool.and_eq_true, Bool.or_eq_true, decide_eq_true_eq] at h
  obtain ⟨⟨⟨a, b⟩, c⟩, d⟩ := h
  exact ⟨by rw [h1.kn, h2.kn]; exact a, by rw [h2.kn]; exact b, by rw [h2.kd]; exact c, by rw [h2.kd]; exact d⟩
theorem sing_of {x : Vl} {t kx : Str} {r : Nat × Bool × Str} (h1 : Ro x kx r) (h : singB t r = true) : Sing x t kx := by
  unfold singB at h
  simp only [Bool.and_eq_true, Bool.or_eq_true, decide_eq_true_eq, Bool.not_eq_true'] at h
  obtain ⟨⟨⟨a, b⟩, c⟩, d⟩ := h
  refine ⟨fun e => h1.nn (a.resolve_left e), fun e => ?_, fun e => ?_, fun e => ?_⟩
  · obtain ⟨⟨⟨⟨b1, b2⟩, b3⟩, b4⟩, b5⟩ := b.resolve_left e
    rw [h1.rk, h1.kn, h1.kd]
    exact ⟨⟨b1, b2, b3⟩, b4, b1, b5⟩
  · rw [h1.rk]
    exact c.resolve_left e
  · rw [h1.kd]
    obtain ⟨⟨d1, d2⟩, d3⟩ := d.resolve_left e
    exact ⟨⟨d1, d2⟩, d3⟩
theorem pair_of {op : Str} {i j : Nat} {x y : Vl} {kx ky : Str} (hi : i < 18) (hj : j < 18) (ho : op ∈ opsL) (hm : meansB op (nm i) (nm j) = false) (h1 : Ro x kx (tb i)) (h2 : Ro y ky (tb j)) : (op ∈ arith ∧ BinBad op x y kx ky) ∨ (op ∉ arith ∧ CmpBad op x y kx ky) := by
  have h := pairs
  unfold pairsB at h
  rw [List.all_eq_true] at h
  have h := h i (List.mem_range.mpr hi)
  rw [List.all_eq_true] at h
  have h := h j (List.mem_range.mpr hj)
  rw [List.all_eq_true] at h
  have h := h op ho
  rw [hm, Bool.false_or] at h
  unfold okB at h
  by_cases c : op ∈ arith
  · rw [if_pos c] at h
    exact .inl ⟨c, bin_of h1 h2 h⟩
  · rw [if_neg c] at h
    by_cases c2 : op = "in" ∨ op = "notin"
    · rw [if_pos c2] at h
      exact .inr ⟨c, .inl ⟨c2, mem_of h1 h2 h⟩⟩
    · rw [if_neg c2, Bool.and_eq_true] at h
      exact .inr ⟨c, .inr ⟨of_decide_eq_true h.1, ord_of h1 h2 h.2⟩⟩
end

section
--SPLIT
end
section
theorem hds_hi {j : Nat} {d : PyData} (h : objs9[j]? = some d) : hds[17 + j]? = some d := by
  unfold hds
  rw [List.getElem?_append_right (by rw [lenS]; omega), lenS, show 17 + j - 17 = j by omega]
  exact h
theorem hds_lo {j : Nat} {d : PyData} (h : (startD ["ask"])[j]? = some d) : hds[j]? = some d := by
  unfold hds
  rw [List.getElem?_append_left (List.getElem?_eq_some_iff.mp h).1]
  exact h
theorem va_oth {j : Nat} {z t : Str} {r : List PyData} (h : hds[j]? = some (.tuple (.str z :: r))) (hz : z ≠ "inst") (ht : valV (txtKV oks) (.inr z) = some (.str t)) (hl : t.length ≤ 100) : Va hds (.ref j) t z := ⟨.oth j z r t h hz ht, .obj h, hl⟩
theorem va_val {x : Vl} {z t : Str} {r : List PyData} (h : vlD x = .tuple (.str z :: r)) (hz : z ≠ "ref") (ht : valV (txtKV vks) (.inr z) = some (.str t)) (hl : t.length ≤ 100) : Va hds x t "" := ⟨by rw [h]; exact .val z r t hz ht, by rw [h]; exact .plain (fun e => hz (V.str.inj e)), hl⟩
theorem vfact {c : Nat} (hc : c < 16) : ∀ i < 18, ∃ x kd, (vals c)[i]? = some x ∧ names18[i]? = some (nm i) ∧ nm i ∈ names18 ∧ Va hds x (nm i) kd ∧ Ro x kd (tb i) := by
  have nmm : ∀ i < 18, names18[i]? = some (nm i) ∧ nm i ∈ names18 := by decide +kernel
  intro i hi
  obtain ⟨n1, n2⟩ := nmm i hi
  suffices h : ∃ x kd, (vals c)[i]? = some x ∧ Va hds x (nm i) kd ∧ Ro x kd (tb i) by
    obtain ⟨x, kd, a, b, d⟩ := h
    exact ⟨x, kd, a, n1, n2, b, d⟩
  match i, hi with
  | 0, _ => exact ⟨_, "", rfl, va_val (r := []) rfl (by decide +kernel) rfl (by decide +kernel), rfl, rfl, rfl⟩
  | 1, _ => exact ⟨_, "", rfl, va_val (r := [_]) rfl (by decide +kernel) rfl (by decide +kernel), rfl, rfl, rfl⟩
  | 2, _ => exact ⟨_, "", rfl, va_val (r := [_]) rfl (by decide +kernel) rfl (by decide +kernel), rfl, rfl, rfl⟩
  | 3, _ => exact ⟨_, "", rfl, va_val (r := [_]) rfl (by decide +kernel) rfl (by decide +kernel), rfl, rfl, rfl⟩
  | 4, _ => exact ⟨_, "", rfl, va_val (r := [_, _]) rfl (by decide +kernel) rfl (by decide +kernel), rfl, rfl, rfl⟩
  | 5, _ => exact ⟨_, "", rfl, va_val (r := [_]) rfl (by decide +kernel) rfl (by decide +kernel), rfl, rfl, rfl⟩
  | 6, _ => exact ⟨_, "", rfl, va_val (r := [_]) rfl (by decide +kernel) rfl (by decide +kernel), rfl, rfl, rfl⟩
  | 7, _ => exact ⟨_, "list", rfl, va_oth (hds_hi (j := 0) rfl) (by decide +kernel) rfl (by decide +kernel), rfl, rfl, rfl⟩
  | 8, _ => exact ⟨_, "tuple", rfl, va_oth (hds_hi (j := 1) rfl) (by decide +kernel) rfl (by decide +kernel), rfl, rfl, rfl⟩
  | 9, _ => exact ⟨_, "dict", rfl, va_oth (hds_hi (j := 2) rfl) (by decide +kernel) rfl (by decide +kernel), rfl, rfl, rfl⟩
  | 10, _ => exact ⟨_, "func", rfl, va_oth (hds_hi (j := 3) rfl) (by decide +kernel) rfl (by decide +kernel), rfl, rfl, rfl⟩
  | 11, _ => exact ⟨_, "class", rfl, va_oth (hds_hi (j := 4) rfl) (by decide +kernel) rfl (by decide +kernel), rfl, rfl, rfl⟩
  | 12, _ => exact ⟨_, "inst", rfl, ⟨.inst 22 21 _ _ _ "Kind" (hds_hi (j := 5) rfl) (hds_hi (j := 4) rfl), .obj (hds_hi (j := 5) rfl), by decide +kernel⟩, rfl, rfl, rfl⟩
  | 13, _ => exact ⟨_, "bound", rfl, va_oth (hds_hi (j := 6) rfl) (by decide +kernel) rfl (by decide +kernel), rfl, rfl, rfl⟩
  | 14, _ => exact ⟨_, "iter", rfl, va_oth (hds_hi (j := 7) rfl) (by decide +kernel) rfl (by decide +kernel), rfl, rfl, rfl⟩
  | 15, _ => exact ⟨_, "gen", rfl, va_oth (hds_hi (j := 8) rfl) (by decide +kernel) rfl (by decide +kernel), rfl, rfl, rfl⟩
  | 16, _ => exact ⟨_, "scope", rfl, va_oth (hds_lo (j := 0) rfl) (by decide +kernel) rfl (by decide +kernel), rfl, rfl, rfl⟩
  | 17, _ =>
    obtain ⟨rest, h⟩ := start_cls (hs := ["ask"]) (k := 1 + c) (by omega) (by omega)
    exact ⟨_, "class", rfl, va_oth (hds_lo h) (by decide +kernel) rfl (by decide +kernel), rfl, rfl, rfl⟩
theorem str_assoc (a b c : Str) : (a ++ b) ++ c = a ++ (b ++ c) := by
  show Str.mk _ = Str.mk _
  congr 1
  exact Array.append_assoc ..
theorem words_is (op t u : Str) : ((("unsupported operands for " ++ op) ++ ": ") ++ t) ++ " and " ++ u = unsT op t u := by
  unfold unsT
  rw [str_assoc, str_assoc, str_assoc t]
theorem repl_op : ∀ op ∈ opsL, Txt.replace op "notin" "in" = opW op ∧ (op ∈ arith → opW op = op) ∧ op.length ≤ 100 ∧ (opW op).length ≤ 100 := by decide +kernel
def chOk (z : Str) : Bool := z.cps.toList.all fun c => decide (c < 16 ^ 8)
theorem chOk_cat {a b : Str} (h1 : chOk a = true) (h2 : chOk b = true) : chOk (a ++ b) = true := by
  unfold chOk at *
  rw [show (a ++ b).cps.toList = a.cps.toList ++ b.cps.toList from Array.toList_append, List.all_append, h1, h2]
  rfl
theorem ch_nm : ∀ i < 18, chOk (nm i) = true ∧ (nm i).length ≤ 100 := by decide +kernel
theorem ch_op : ∀ op ∈ opsL, chOk (opW op) = true := by decide +kernel
theorem sm_uns {op : Str} {i j : Nat} (ho : op ∈ opsL) (hi : i < 18) (hj : j < 18) : ShowOk (raiseD 10 (unsT (opW op) (nm i) (nm j))) := by
  have hc : chOk (unsT (opW op) (nm i) (nm j)) = true := chOk_cat (chOk_cat (chOk_cat (by decide +kernel) (ch_op op ho)) (by decide +kernel)) (chOk_cat (chOk_cat (ch_nm i hi).1 (by decide +kernel)) (ch_nm j hj).1)
  have hl : (unsT (opW op) (nm i) (nm j)).length ≤ 400 := by
    unfold unsT
    have h1 := (ch_nm i hi).2
    have h2 := (ch_nm j hj).2
    have h3 := (repl_op op ho).2.2.2
    have e1 : ("unsupported operands for " : Str).length = 25 := by decide +kernel
    have e2 : (": " : Str).length = 2 := by decide +kernel
    have e3 : (" and " : Str).length = 5 := by decide +kernel
    rw [strlen_cat, strlen_cat, strlen_cat, strlen_cat, strlen_cat, e1, e2, e3]
    omega
  exact (Sm.tup (.cons (Sm.short (n := "raise") (by decide +kernel)) (.cons (Sm.int (i := 10) (Nat.lt_of_lt_of_le (show (10 : Int).natAbs < 2 ^ 20 by decide) (Nat.pow_le_pow_right (by decide) (by decide)))) (.cons (Sm.str hl (strOk _ hc)) .nil)))).show (by decide) (by decide)
theorem sm_objs : ∀ d ∈ objs9, d.showable = true ∧ d.depth ≤ 5 ∧ d.shown.length ≤ 155000 := by decide +kernel
theorem sm_hds : ShowOk (.list hds) := by
  have h1 : ∀ d ∈ hds, Sm d 5 155000 := fun d hd => by
    rcases List.mem_append.mp hd with h | h
    · exact sm_start (hs := ["ask"]) (L := 1) (by decide +kernel) (by decide) d h
    · obtain ⟨a, b, c⟩ := sm_objs d h
      exact ⟨a, b, c⟩
  refine (Sm.lst (SmAll.many h1)).show (by decide) ?_
  rw [show hds.length = 26 by decide +kernel]
  decide
def spLaw (K : PySem.W.Frag) : Sp := fun vs H Q _ => ∃ (a : Addr) (ns : List Int), vs = [.ref a] ∧ SqL K H a (ns.map V.int) ∧ ns.length ≤ 63 ∧ ∀ H', Q (.bl true) H'
end
section
variable {X : Cx} {e : Expr} {te : TE} {x : Str} {j : Nat} {p pos : Pos}
/-- a written text ahead: a token is out when the other side is read -/
theorem pe_opT {op : Operator} {r : R2} (ho : OpR X (binaryOp op) r) (he : PET X e te) : PE X (.BinOp (.Constant (.str x) j p) op e pos) (tOp r (tC (.str x)) te) := by
  refine ⟨fun pins s σ H Q I h => ?_⟩
  refine wpAny_BinOp (Calls.Constant_str ?_)
  exact thn (he pins { s with toks := s.toks + 1 } σ H _ (by show 1 ≤ s.toks + 1; omega) (I.tok _) h) fun u s2 ⟨y, H2, I2, r2, q2⟩ => ho pins s2 σ H2 (.str x) y _ u Q I2 ⟨_, rfl⟩ r2 q2
end
section
--SPLIT
end
section
variable {P : Program} {w : World} {K : PySem.W.Frag} {mg : Str → Option Value} {base : Heap}
/-- what the law's turns keep -/
structure Wl (K : PySem.W.Frag) (p dl hp va g vl nl : Addr) (c : Nat) (H : Hp) : Prop where
  bx : BoxAt H p dl
  hl : ListAt K H hp hds
  vv : ListAt K H va ((vals c).map vlD)
  gg : H g = some (.lst [.ref vl, .ref nl])
  nn : H nl = some (.lst (names18.map V.str))
theorem Wl.same {p dl hp va g vl nl : Addr} {c : Nat} {H H' : Hp} (h : Wl K p dl hp va g vl nl c H) (S : Same H H') : Wl K p dl hp va g vl nl c H' := ⟨h.bx.same S, listAt_mono h.hl S, listAt_mono h.vv S, S _ _ h.gg, S _ _ h.nn⟩
theorem Wl.keep {p dl hp va g vl nl : Addr} {c : Nat} {H H' : Hp} (h : Wl K p dl hp va g vl nl c H) (B : BoxAt H' p dl) (k : Keep p H H') (ne : hp ≠ p ∧ va ≠ p ∧ g ≠ p ∧ nl ≠ p) : Wl K p dl hp va g vl nl c H' :=
  ⟨B, listAt_keep h.hl k ne.1 h.bx.at_, listAt_keep h.vv k ne.2.1 h.bx.at_, k _ _ h.gg ne.2.2.1, k _ _ h.nn ne.2.2.2⟩
theorem ok_law {f : Addr} {fd : FuncData} (F : Fun K "law" "law" s_law f fd) (T : Txt K mg) (U_law_digits : Use P w K mg base CX0 "_law_digits" 2 P_law_digits (spDigits K)) (U_law_draw : Use P w K mg base CX0 "_law_draw" 1 P_law_draw (spDraw K)) (U_start_heap : Use P w K mg base CX0 "start_heap" 1 P_start_heap (spStart K))
    (U_law_values : Use P w K mg base CX0 "_law_values" 1 P_law_values (spLVals K)) (U_kind_name : Use P w K mg base CX0 "kind_name" 1 P_kind_name (spKName K)) (U_law_singles : Use P w K mg base CX0 "_law_singles" 4 P_law_singles (spSing K)) (U_law_means : Use P w K mg base CX0 "_law_means" 1 P_law_means (spMeans K))
    (U_binary : Use P w K mg base CX0 "binary" 3 P_binary (spBin K BinBad id)) (U_compare : Use P w K mg base CX0 "compare" 4 P_compare (spBin K CmpBad opW)) (U_law_same : Use P w K mg base CX0 "_law_same" 1 P_law_same (spSame K)) : FnG P w K mg base CX0 5 f fd P_law (spLaw K) := by
  refine okG0 F sc_law (fun vs H Q E h => ?_) fun cdv A outer s H vs Q E hr hg h => ?_
  · obtain ⟨a, ns, rfl, _⟩ := h
    rfl
  · obtain ⟨a, ns, rfl, hs, hn, k⟩ := h
    refine ⟨_, (pss_cons (ps_set (i := 1) sc_law.nd rfl (Or.inl rfl) (pe_lst (pa_cons (pe_use U_law_digits (hr.mono (by decide)) hg rfl (pa_cons (pv 0) (pa_cons pe_int (pa_cons pe_int pa_nil)))) (pa_cons pe_int pa_nil))))
  (pss_cons (ps_set (i := 2) sc_law.nd rfl (Or.inl rfl) (pe_use U_start_heap (hr.mono (by decide)) hg rfl (pa_cons (pe_tup (pa_cons pe_str pa_nil)) pa_nil)))
  (pss_cons (ps_set (i := 3) sc_law.nd rfl (Or.inl rfl) (pe_use U_law_values (hr.mono (by decide)) hg rfl (pa_cons (pv 2) pa_nil)))
  (pss_cons (ps_set (i := 4) sc_law.nd rfl (Or.inl rfl) (pe_op op_cat (pe_ix ix_list (pv 3) pe_int (fun _ _ => rfl)) (pe_lst (pa_cons (pe_tup (pa_cons pe_str (pa_cons pe_int pa_nil))) (pa_cons (pe_tup (pa_cons pe_str (pa_cons (pe_op op_add pe_int (pe_use U_law_draw (hr.mono (by decide)) hg rfl (pa_cons (pv 1) (pa_cons pe_int pa_nil)))) pa_nil))) pa_nil)))))
  (pss_cons (ps_set (i := 5) sc_law.nd rfl (Or.inl rfl) (pe_callB (call_repr_data hg hr.units) (by rfl) T.b_repr (by decide +kernel) (pa_cons (pv 2) pa_nil)))
  (pss_cons (ps_for PassesOwn.never rfl (pi_range1 (by rfl) T.b_range (pa_cons pe_int pa_nil)) (pg_name (i := 6) sc_law.nd rfl (Or.inl rfl))
   (pss_cons (ps_set (i := 7) sc_law.nd rfl (Or.inl rfl) (pe_use U_law_draw (hr.mono (by decide)) hg rfl (pa_cons (pv 1) (pa_cons pe_int pa_nil))))
  (pss_cons (ps_set (i := 8) sc_law.nd rfl (Or.inl rfl) (pe_use U_law_draw (hr.mono (by decide)) hg rfl (pa_cons (pv 1) (pa_cons pe_int pa_nil))))
  (pss_cons (ps_set (i := 9) sc_law.nd rfl (Or.inl rfl) (pe_ix ix_list (pe_ix ix_list (pv 3) pe_int (fun _ _ => rfl)) (pv 7) (fun _ _ => rfl)))
  (pss_cons (ps_set (i := 10) sc_law.nd rfl (Or.inl rfl) (pe_ix ix_list (pe_ix ix_list (pv 3) pe_int (fun _ _ => rfl)) (pv 8) (fun _ _ => rfl)))
  (C8.pss_cut (ps_if (PW.pt (pw_or (pt_cmpR op_ne (pe_use U_kind_name (hr.mono (by decide)) hg rfl (pa_cons (pv 2) (pa_cons (pe_ix ix_list (pv 4) (pv 7) (fun _ _ => rfl)) pa_nil))) (pv 9) (nomark _)) (pw_or1 (pt_not (pt_val (pe_use U_law_singles (hr.mono (by decide)) hg rfl (pa_cons (pv 2) (pa_cons (pe_ix ix_list (pv 4) (pv 7) (fun _ _ => rfl)) (pa_cons (pv 9) pa_nil)))))))))
   pss_never
   pss_nil)
  (pss_one (ps_for PassesOwn.never rfl (pi_list (pe_lst (pa_cons pe_str (pa_cons pe_str (pa_cons pe_str (pa_cons pe_str (pa_cons pe_str (pa_cons pe_str (pa_cons pe_str (pa_cons pe_str (pa_cons pe_str (pa_cons pe_str (pa_cons pe_str pa_nil))))))))))))) (pg_name (i := 11) sc_law.nd rfl (Or.inl rfl))
   (pss_one (ps_if (pt_not (pt_val (pe_use U_law_means (hr.mono (by decide)) hg rfl (pa_cons (pv 11) (pa_cons (pv 9) (pa_cons (pv 10) pa_nil))))))
   (C8.pss_cut (ps_if (pt_cmpR op_in_seq (pv 11) (pe_tup (pa_cons pe_str (pa_cons pe_str (pa_cons pe_str (pa_cons pe_str (pa_cons pe_str pa_nil)))))) (by rfl))
   (pss_one (ps_set (i := 12) sc_law.nd rfl (Or.inl rfl) (pe_use U_binary (hr.mono (by decide)) hg rfl (pa_cons (pv 2) (pa_cons (pv 11) (pa_cons (pe_ix ix_list (pv 4) (pv 7) (fun _ _ => rfl)) (pa_cons (pe_ix ix_list (pv 4) (pv 8) (fun _ _ => rfl)) pa_nil)))))))
   (pss_one (ps_set (i := 12) sc_law.nd rfl (Or.inl rfl) (pe_use U_compare (hr.mono (by decide)) hg rfl (pa_cons (pv 2) (pa_cons (pv 11) (pa_cons (pe_ix ix_list (pv 4) (pv 7) (fun _ _ => rfl)) (pa_cons (pe_ix ix_list (pv 4) (pv 8) (fun _ _ => rfl)) pa_nil))))))))
  (pss_cons (ps_set (i := 13) sc_law.nd rfl (Or.inl rfl) (pe_op op_add_str (pe_op op_add_str (pe_op op_add_str (pe_op op_add_str (pe_opT op_add_str (CwR.pet_replC (pv 11) (by decide +kernel))) pe_str) (pv 9)) pe_str) (pv 10)))
  (pss_one (ps_if (pt_not (pt_val (pe_use U_law_same (hr.mono (by decide)) hg rfl (pa_cons (pv 12) (pa_cons (pe_tup (pa_cons pe_str (pa_cons pe_int (pa_cons (pv 13) pa_nil)))) pa_nil)))))
   pss_never
   pss_nil))))
   pss_nil))))))))))
  (pss_one (ps_ret (pe_cmpR op_eq (pe_callB (call_repr_data hg hr.units) (by rfl) T.b_repr (by decide +kernel) (pa_cons (pv 2) pa_nil)) (pv 5) (nomark _)))))))))), ?_⟩
    refine ⟨_, rfl, a, ns, 0, 63, rfl, hs, by decide, by decide, fun dl H1 nd D => ?_⟩
    obtain ⟨ds, hd, hl, hdr, S1⟩ := D
    refine ⟨sz_2, fun p hp => ?_⟩
    have B0 : BoxAt (upd H1 p (.lst [.ref dl, .int 0])) p dl := ⟨ds, 0, upd_same, by decide, by rw [upd_ne (ne_of_none hd hp)]; exact hd, hl, hdr⟩
    generalize upd H1 p (.lst [.ref dl, .int 0]) = H2 at B0
    refine ⟨sz_1, fun t0 ht0 => ⟨t0, ["ask"], rfl, SqT.of upd_same, by decide, fun hp0 H3 nh S3 L3 => ?_⟩⟩
    have B2 := B0.same (Same.new (o := .tup [.str "ask"]) ht0)
    have nph : hp0 ≠ p ∧ hp0 ≠ dl := B2.ne_new nh
    have B3 := B2.same S3
    clear B2 S3
    refine ⟨_, rfl, hp0, rfl, L3, fun g vl nl H4 K4 L4 ng nv G4 V4 N4 => ?_⟩
    have npg := B3.ne_new ng
    have npv := B3.ne_new nv
    have B4 : BoxAt H4 p dl := by
      obtain ⟨ds', k', b1, b2, b3, b4, b5⟩ := B3
      exact ⟨ds', k', K4 _ _ b1 (fun e => nph.1 e.symm), b2, K4 _ _ b3 (fun e => nph.2 e.symm), b4, b5⟩
    have npn : nl ≠ p := fun e => by
      obtain ⟨ds', k', b1, _⟩ := B4
      rw [e, b1] at N4
      have := congrArg List.length (HO.lst.inj (Option.some.inj N4))
      exact absurd (show 2 = 18 from this) (by decide)
    clear B3 L3 K4
    obtain ⟨zv, ezv, azv⟩ := id V4
    have lzv : zv.length = 16 := azv.length
    refine ⟨_, rfl, g, _, _, _, rfl, rfl, SqL.of G4, at0, sz_2, fun u1 hu1 => ?_⟩
    have Su := Same.new (o := .tup [.str "ref", .int 0]) hu1
    have du1 := Dt.made (K := K) hu1 (.cons (.str "ref") (.cons (.int 0) .nil))
    refine ⟨_, rfl, p, dl, 16, rfl, B4.same Su, by decide, fun c0 H5 c00 c01 B5 K5 => ⟨_, _, rfl, rfl, sz_2, fun u2 hu2 => ⟨sz_2, fun bl hbl => ?_⟩⟩⟩
    obtain ⟨c, rfl⟩ := Int.eq_ofNat_of_zero_le c00
    have hc : c < 16 := by omega
    have Bat := (B4.same Su).at_
    have L5 := listAt_keep (listAt_mono L4 Su) K5 nph.1 Bat
    have A5 := (azv.mono Su).keepT (K5.keepT Bat)
    have E5 := K5 _ _ (Su _ _ ezv) npv.1
    have G5 := K5 _ _ (Su _ _ G4) npg.1
    have N5 := K5 _ _ (Su _ _ N4) npn
    have D1 := du1.keepT (K5.keepT Bat)
    clear B4 L4 V4 azv ezv G4 N4 K5 du1 Su
    have S2 := Same.new (o := .tup [.str "ref", .int (1 + (c : Int))]) hu2
    have D2 : Dt K (upd H5 u2 (.tup [.str "ref", .int (1 + (c : Int))])) (.ref u2) (vlD (.ref (1 + c))) := by
      have e : ((1 + c : Nat) : Int) = 1 + (c : Int) := by omega
      show Dt K _ _ (.tuple [.str "ref", .int ((1 + c : Nat) : Int)])
      rw [e]
      exact Dt.made (K := K) hu2 (.cons (.str "ref") (.cons (.int (1 + (c : Int))) .nil))
    have S3 := Same.new (o := .lst [.ref u1, .ref u2]) hbl
    refine ⟨vl, bl, _, _, rfl, rfl, S3 _ _ (S2 _ _ E5), upd_same, (by show zv.length + 2 ≤ sizeLine; rw [lzv]; decide), fun va hva => ?_⟩
    have S4 := Same.new (o := .lst (zv ++ [.ref u1, .ref u2])) hva
    have S24 := (S2.trans S3).trans S4
    have nva := ((B5.same S2).same S3).ne_new hva
    have AL : DtAll K (upd (upd (upd H5 u2 (.tup [.str "ref", .int (1 + (c : Int))])) bl (.lst [.ref u1, .ref u2])) va (.lst (zv ++ [.ref u1, .ref u2]))) (zv ++ [.ref u1, .ref u2]) ((vals c).map vlD) := by
      have := DtAll.app (A5.mono S24) (.cons (D1.mono S24) (.cons ((D2.mono S3).mono S4) .nil))
      rw [show (vals c).map vlD = (vals7 ++ refs 9).map vlD ++ [vlD (.ref 0), vlD (.ref (1 + c))] from List.map_append]
      exact this
    have W7 : Wl K p dl hp0 va g vl nl c (upd (upd (upd H5 u2 (.tup [.str "ref", .int (1 + (c : Int))])) bl (.lst [.ref u1, .ref u2])) va (.lst (zv ++ [.ref u1, .ref u2]))) := ⟨B5.same S24, listAt_mono L5 S24, ⟨_, upd_same, AL⟩, S24 _ _ G5, S24 _ _ N5⟩
    have EV : (upd (upd (upd H5 u2 (.tup [.str "ref", .int (1 + (c : Int))])) bl (.lst [.ref u1, .ref u2])) va (.lst (zv ++ [.ref u1, .ref u2]))) va = some (.lst (zv ++ [.ref u1, .ref u2])) := upd_same
    have ne4 : hp0 ≠ p ∧ va ≠ p ∧ g ≠ p ∧ nl ≠ p := ⟨nph.1, nva.1, npg.1, npn⟩
    change tSeq _ _ _ _ (upd (upd (upd H5 u2 (.tup [.str "ref", .int (1 + (c : Int))])) bl (.lst [.ref u1, .ref u2])) va (.lst (zv ++ [.ref u1, .ref u2])))
    generalize upd (upd (upd H5 u2 (.tup [.str "ref", .int (1 + (c : Int))])) bl (.lst [.ref u1, .ref u2])) va (.lst (zv ++ [.ref u1, .ref u2])) = H7 at W7 EV ⊢
    clear AL S24 S4 S3 S2 D2 D1 A5 L5 G5 N5 E5 B5 hva hbl hu2 hu1 nva
    generalize zv ++ [.ref u1, .ref u2] = zs at EV
    have dL : ∀ {H' : Hp}, ListAt K H' hp0 hds → Dp K H' (.ref hp0) (.list hds) := fun L => let ⟨xs, e, a⟩ := L; .lst (SqL.of e) a.dp
    refine ⟨_, rfl, _, _, rfl, dL W7.hl, sm_hds, ?_⟩
    refine ⟨_, rfl, by decide, by decide, ?_⟩
    refine for_range (lo := 0) (n := 12) (fun _ σ H8 => (∃ x6 x7 x8 x9 x10 x11 x12 x13, σ = [some (.ref a), some (.ref p), some (.ref hp0), some (.ref g), some (.ref va), some (.str (PyData.list hds).shown), x6, x7, x8, x9, x10, x11, x12, x13]) ∧ Wl K p dl hp0 va g vl nl c H8 ∧ H8 va = some (.lst zs)) ⟨⟨_, _, _, _, _, _, _, _, rfl⟩, W7, EV⟩ ?_ ?_
    · rintro n σ H8 _ ⟨⟨x6, x7, x8, x9, x10, x11, x12, x13, rfl⟩, W8, EV8⟩
      refine ⟨_, rfl, p, dl, 18, rfl, W8.bx, by decide, fun r1 H9 r10 r11 B9 K9 => ⟨_, rfl, p, dl, 18, rfl, B9, by decide, fun r2 H10 r20 r21 B10 K10 => ?_⟩⟩
      have W9 := W8.keep B9 K9 ne4
      have W10 := W9.keep B10 K10 ne4
      have EV10 := K10 _ _ (K9 _ _ EV8 ne4.2.1) ne4.2.1
      clear W8 W9 EV8 K9 K10 B9 B10
      obtain ⟨i, rfl⟩ := Int.eq_ofNat_of_zero_le r10
      obtain ⟨j, rfl⟩ := Int.eq_ofNat_of_zero_le r20
      have hi : i < 18 := by omega
      have hj : j < 18 := by omega
      obtain ⟨x, kx, vx, nx, mx, hx, rx⟩ := vfact hc i hi
      obtain ⟨y, ky, vy, ny, my, hy, ry⟩ := vfact hc j hj
      have n1 : (names18.map V.str)[i]? = some (.str (nm i)) := by rw [List.getElem?_map, nx]; rfl
      have n2 : (names18.map V.str)[j]? = some (.str (nm j)) := by rw [List.getElem?_map, ny]; rfl
      refine ⟨_, rfl, g, _, _, _, rfl, rfl, SqL.of W10.gg, at1, _, rfl, nl, _, _, _, rfl, rfl, SqL.of W10.nn, atI_nat n1, ?_⟩
      refine ⟨_, rfl, g, _, _, _, rfl, rfl, SqL.of W10.gg, at1, _, rfl, nl, _, _, _, rfl, rfl, SqL.of W10.nn, atI_nat n2, ?_⟩
      have getv : ∀ {H' : Hp} {i : Nat} {x : Vl}, Wl K p dl hp0 va g vl nl c H' → H' va = some (.lst zs) → (vals c)[i]? = some x → ∃ v, zs[i]? = some v ∧ Dt K H' v (vlD x) := fun {H' i x} W e h => by
        obtain ⟨ys, ey, ay⟩ := W.vv
        rw [e] at ey
        cases ey
        exact ay.get (by rw [List.getElem?_map, h]; rfl)
      obtain ⟨v, hv, dv⟩ := getv W10 EV10 vx
      obtain ⟨v2, hv2, dv2⟩ := getv W10 EV10 vy
      refine ⟨fun σ H11 => σ = [some (.ref a), some (.ref p), some (.ref hp0), some (.ref g), some (.ref va), some (.str (PyData.list hds).shown), some (.int (0 + (n : Int))), some (.int (i : Int)), some (.int (j : Int)), some (.str (nm i)), some (.str (nm j)), x11, x12, x13] ∧ Same H10 H11, ?_, ?_⟩
      · refine ⟨_, rfl, _, rfl, _, rfl, va, _, _, _, rfl, rfl, SqL.of EV10, atI_nat hv, hp0, hds, v, _, nm i, rfl, W10.hl, dv, hx.nm, _, rfl, rfl, _, rfl, ?_⟩
        refine iteFb (by rw [show decide (V.str (nm i) = V.str (nm i)) = true from decide_eq_true rfl]; rfl) ?_
        refine ⟨_, rfl, _, rfl, _, rfl, va, _, _, _, rfl, rfl, SqL.of EV10, atI_nat hv, _, rfl, hp0, hds, v, x, nm i, kx, rfl, W10.hl, dv, hx, mx, sing_of rx (sings i hi), fun H11 S11 => ⟨true, rfl, iteFb rfl ⟨rfl, S11⟩⟩⟩
      rintro _ H11 ⟨rfl, S11⟩
      refine ⟨(by show 11 ≤ sizeLine; decide), fun ol hol => ⟨ol, rfl, ⟨_, SqL.of upd_same⟩, ?_⟩⟩
      have S12 := S11.trans (Same.new (o := .lst (opsL.map V.str)) hol)
      have EO : upd H11 ol (.lst (opsL.map V.str)) ol = some (.lst (opsL.map V.str)) := upd_same
      refine for_it (walk_list (xs := opsL.map V.str)) (fun _ σ H13 => (∃ x11 x12 x13, σ = [some (.ref a), some (.ref p), some (.ref hp0), some (.ref g), some (.ref va), some (.str (PyData.list hds).shown), some (.int (0 + (n : Int))), some (.int (i : Int)), some (.int (j : Int)), some (.str (nm i)), some (.str (nm j)), x11, x12, x13]) ∧ Same H10 H13 ∧ H13 ol = some (.lst (opsL.map V.str))) ⟨⟨_, _, _, rfl⟩, S12, EO⟩ (fun _ _ _ _ h => let ⟨_, _, e⟩ := h; SqL.of e) ?_ ?_
      · rintro m vo σ H13 H14 _ ⟨⟨x11, x12, x13, rfl⟩, S13, EO13⟩ ⟨rfl, hvo⟩
        have ho : ∃ op, vo = .str op ∧ op ∈ opsL := by
          have hvo : (opsL.map V.str)[m]? = some vo := hvo
          rw [List.getElem?_map] at hvo
          obtain ⟨op, ho, e⟩ := Option.map_eq_some_iff.mp hvo
          exact ⟨op, e.symm, List.mem_of_getElem? ho⟩
        obtain ⟨op, rfl, mo⟩ := ho
        obtain ⟨ro1, ro2, ro3, ro4⟩ := repl_op op mo
        refine ⟨_, rfl, _, rfl, _, rfl, op, nm i, nm j, rfl, mo, fun H15 S15 => ⟨_, rfl, ?_⟩⟩
        have T15 := S13.trans S15
        have EO15 := S15 _ _ EO13
        cases hm : meansB op (nm i) (nm j) with
        | true => exact iteFb rfl ⟨⟨_, _, _, rfl⟩, T15, EO15⟩
        | false =>
          refine iteTb rfl ?_
          refine ⟨fun σ H16 => ∃ u, σ = [some (.ref a), some (.ref p), some (.ref hp0), some (.ref g), some (.ref va), some (.str (PyData.list hds).shown), some (.int (0 + (n : Int))), some (.int (i : Int)), some (.int (j : Int)), some (.str (nm i)), some (.str (nm j)), some (.str op), some u, x13] ∧ Same H10 H16 ∧ H16 ol = some (.lst (opsL.map V.str)) ∧ Dt K H16 u (raiseD 10 (unsT (opW op) (nm i) (nm j))), ?_, ?_⟩
          · refine ⟨_, rfl, (by show 5 ≤ sizeLine; decide), fun u hu => ⟨u, _, rfl, .inr (SqT.of upd_same), rfl, rfl, _, rfl, ?_⟩⟩
            rw [if_neg Bool.false_ne_true, show [V.str "+", V.str "-", V.str "*", V.str "//", V.str "mod"] = arith.map V.str from rfl, inV_strs]
            have S16 := Same.new (o := .tup (arith.map V.str)) hu
            have T16 := T15.trans S16
            have W16 := W10.same T16
            have EV16 := T16 _ _ EV10
            rcases pair_of hi hj mo hm rx ry with ⟨c1, hb⟩ | ⟨c1, hb⟩
            · refine iteTb (decide_eq_true c1) ?_
              refine ⟨_, rfl, _, rfl, _, rfl, _, rfl, va, _, _, _, rfl, rfl, SqL.of EV16, atI_nat hv, _, rfl, _, rfl, va, _, _, _, rfl, rfl, SqL.of EV16, atI_nat hv2, hp0, hds, op, v, v2, x, y, nm i, nm j, kx, ky, rfl, W16.hl, dv.mono T16, dv2.mono T16, hx, hy, ro3, hb, fun r H17 S17 d => ⟨r, rfl, T16.trans S17, S17 _ _ (S16 _ _ EO15), ?_⟩⟩
              rw [ro2 c1]
              exact d
            · refine iteFb (decide_eq_false c1) ?_
              exact ⟨_, rfl, _, rfl, _, rfl, _, rfl, va, _, _, _, rfl, rfl, SqL.of EV16, atI_nat hv, _, rfl, _, rfl, va, _, _, _, rfl, rfl, SqL.of EV16, atI_nat hv2, hp0, hds, op, v, v2, x, y, nm i, nm j, kx, ky, rfl, W16.hl, dv.mono T16, dv2.mono T16, hx, hy, ro3, hb, fun r H17 S17 d => ⟨r, rfl, T16.trans S17, S17 _ _ (S16 _ _ EO15), d⟩⟩
          rintro _ H16 ⟨u, rfl, T16, EO16, du⟩
          have li := (ch_nm i hi).2
          have lj := (ch_nm j hj).2
          have e1 : ("unsupported operands for " : Str).length = 25 := by decide +kernel
          have e2 : (": " : Str).length = 2 := by decide +kernel
          have e3 : (" and " : Str).length = 5 := by decide +kernel
          have e4 : ("in" : Str).length = 2 := by decide +kernel
          refine ⟨_, rfl, op, rfl, (by rw [e4]; omega), _, _, rfl, rfl, ss_le (by rw [ro1, e1]; omega), _, _, rfl, rfl, ss_le (by rw [ro1, strlen_cat, e1, e2]; omega), _, rfl, _, _, rfl, rfl, ss_le (by rw [ro1, strlen_cat, strlen_cat, e1, e2]; omega), _, _, rfl, rfl, ss_le (by rw [ro1, strlen_cat, strlen_cat, strlen_cat, e1, e2, e3]; omega), _, rfl, _, _, rfl, rfl, ss_le (by rw [ro1, strlen_cat, strlen_cat, strlen_cat, strlen_cat, e1, e2, e3]; omega), ?_⟩
          refine ⟨_, rfl, _, rfl, sz_3, fun z hz => ?_⟩
          have Sz := Same.new (o := .tup [.str "raise", .int 10, .str (((((("unsupported operands for " : Str) ++ Txt.replace op "notin" "in") ++ ": ") ++ nm i) ++ " and ") ++ nm j)]) hz
          have dz := Dt.made (K := K) hz (.cons (.str "raise") (.cons (.int 10) (.cons (.str (((((("unsupported operands for " : Str) ++ Txt.replace op "notin" "in") ++ ": ") ++ nm i) ++ " and ") ++ nm j)) .nil)))
          rw [ro1, words_is] at Sz
          have dz' : Dt K (upd H16 z (.tup [.str "raise", .int 10, .str (((((("unsupported operands for " : Str) ++ Txt.replace op "notin" "in") ++ ": ") ++ nm i) ++ " and ") ++ nm j)])) (.ref z) (raiseD 10 (unsT (opW op) (nm i) (nm j))) := by
            rw [← words_is, ← ro1]
            exact dz
          rw [← words_is, ← ro1] at Sz
          refine ⟨u, .ref z, raiseD 10 (unsT (opW op) (nm i) (nm j)), rfl, (du.mono Sz).dp, dz'.dp, sm_uns mo hi hj, true, rfl, iteFb rfl ?_⟩
          exact ⟨⟨_, _, _, rfl⟩, T16.trans Sz, Sz _ _ EO16⟩
      · rintro σ H13 ⟨⟨x11, x12, x13, rfl⟩, S13, _⟩
        exact ⟨⟨_, _, _, _, _, _, _, _, rfl⟩, W10.same S13, S13 _ _ EV10⟩
    · rintro σ H8 ⟨⟨x6, x7, x8, x9, x10, x11, x12, x13, rfl⟩, W8, EV8⟩
      refine ⟨_, rfl, _, _, rfl, dL W8.hl, sm_hds, _, rfl, rfl, ?_⟩
      rw [decide_eq_true rfl]
      exact k _
end

theorem walk_mk {l : PySem.W.OpenLaw} {w : World} {K : PySem.W.Frag} {h : Heap} {mg : Str → Option Value} {fa : Addr} (X : K.In h) (G : h.Ns mainGlobals mg) (hfa : mg "law" = some (.ref fa))
    (f0 : HasFn K "_law_cell" s_law_cell)
    (f1 : HasFn K "_law_digits" s_law_digits)
    (f2 : HasFn K "_law_draw" s_law_draw)
    (f3 : HasFn K "start_heap" s_start_heap)
    (f4 : HasFn K "_law_values" s_law_values)
    (f5 : HasFn K "kind_name" s_kind_name)
    (f6 : HasFn K "_law_same" s_law_same)
    (f7 : HasFn K "is_number" s_is_number)
    (f8 : HasFn K "negated" s_negated)
    (f9 : HasFn K "object_kind" s_object_kind)
    (f10 : HasFn K "length" s_length)
    (f11 : HasFn K "row_kind" s_row_kind)
    (f12 : HasFn K "_refusal" s_refusal)
    (f13 : HasFn K "item" s_item)
    (f14 : HasFn K "part" s_part)
    (f15 : HasFn K "put_item" s_put_item)
    (f16 : HasFn K "drop_item" s_drop_item)
    (f17 : HasFn K "_law_singles" s_law_singles)
    (f18 : HasFn K "_law_means" s_law_means)
    (f19 : HasFn K "unsupported" s_unsupported)
    (f20 : HasFn K "binary" s_binary)
    (f21 : HasFn K "_both_rows" s_both_rows)
    (f22 : HasFn K "_order" s_order)
    (f23 : HasFn K "_membership" s_membership)
    (f24 : HasFn K "_opposite" s_opposite)
    (f25 : HasFn K "compare" s_compare)
    (f26 : HasFn K "law" s_law)
    (c0 : HasInt K "TYPE_ERROR" 10)
    (c1 : HasTup K "CLASSES" (clsNames.map V.str))
    (c2 : HasTup K "BASES" (clsBases.map V.int))
    (c3 : HasTup K "BUILT" (builtNames.map V.str))
    (b_len : PySem.W.nsIn K mainGlobals "len" = some none)
    (b_int : PySem.W.nsIn K mainGlobals "int" = some none)
    (b_range : PySem.W.nsIn K mainGlobals "range" = some none)
    (b_list : PySem.W.nsIn K mainGlobals "list" = some none)
    (b_tuple : PySem.W.nsIn K mainGlobals "tuple" = some none)
    (b_repr : PySem.W.nsIn K mainGlobals "repr" = some none)
    (b_enumerate : PySem.W.nsIn K mainGlobals "enumerate" = some none)
    (b_zip : PySem.W.nsIn K mainGlobals "zip" = some none)
    (b_set : PySem.W.nsIn K mainGlobals "set" = some none)
    (d_VALUE_KINDS : HasDct l.prog w K "VALUE_KINDS" (txtKV vks))
    (d_OBJECT_KINDS : HasDct l.prog w K "OBJECT_KINDS" (txtKV oks)) :
    ∃ fd : FuncData, (∀ (s : Shared) (v : Value), BindsTo s fd ⟨[v], []⟩ [("script", v)]) ∧ ∀ base : Heap, K.In base → base.Ns mainGlobals mg → FnG l.prog w K mg base CX0 5 fa fd ["script"] (spLaw K) := by
  have T : Txt K mg := ⟨c0.g X G, c1.g X G, c2.g X G, c3.g X G, PySem.W.mg_none_of X G b_len, PySem.W.mg_none_of X G b_int, PySem.W.mg_none_of X G b_range, PySem.W.mg_none_of X G b_list, PySem.W.mg_none_of X G b_tuple, PySem.W.mg_none_of X G b_repr, PySem.W.mg_none_of X G b_enumerate, PySem.W.mg_none_of X G b_zip, PySem.W.mg_none_of X G b_set⟩
  refine law_use f26 X G hfa (fun _ _ _ _ _ _ _ => rfl) fun base X' G' fd F => ?_
  have U_VALUE_KINDS : UseD l.prog w K mg "VALUE_KINDS" _ := d_VALUE_KINDS.g X G
  have U_OBJECT_KINDS : UseD l.prog w K mg "OBJECT_KINDS" _ := d_OBJECT_KINDS.g X G
  have U_law_cell := mk_use (P := l.prog) (w := w) (mg := mg) (base := base) f0 X G (fun _ _ _ _ _ _ us hl => match us, hl with | [_, _], _ => rfl) fun f fd F => ok_cell F T
  have U_law_digits := mk_use (P := l.prog) (w := w) (mg := mg) (base := base) f1 X G (fun _ _ _ _ _ _ us hl => match us, hl with | [_, _, _], _ => rfl) fun f fd F => ok_digits F T (Use.up U_law_cell (by omega))
  have U_law_draw := mk_use (P := l.prog) (w := w) (mg := mg) (base := base) f2 X G (fun _ _ _ _ _ _ us hl => match us, hl with | [_, _], _ => rfl) fun f fd F => ok_draw F T
  have U_start_heap := mk_use (P := l.prog) (w := w) (mg := mg) (base := base) f3 X G (fun _ _ _ _ _ _ us hl => match us, hl with | [_], _ => rfl) fun f fd F => ok_start F T
  have U_law_values := mk_use (P := l.prog) (w := w) (mg := mg) (base := base) f4 X G (fun _ _ _ _ _ _ us hl => match us, hl with | [_], _ => rfl) fun f fd F => ok_lvals F T
  have U_kind_name := mk_use (P := l.prog) (w := w) (mg := mg) (base := base) f5 X G (fun _ _ _ _ _ _ us hl => match us, hl with | [_, _], _ => rfl) fun f fd F => ok_kname F T U_VALUE_KINDS U_OBJECT_KINDS
  have U_law_same := mk_use (P := l.prog) (w := w) (mg := mg) (base := base) f6 X G (fun _ _ _ _ _ _ us hl => match us, hl with | [_, _], _ => rfl) fun f fd F => ok_same F T
  have U_is_number := mk_use (P := l.prog) (w := w) (mg := mg) (base := base) f7 X G (fun _ _ _ _ _ _ us hl => match us, hl with | [_], _ => rfl) fun f fd F => ok_isnumV F T
  have U_negated := mk_use (P := l.prog) (w := w) (mg := mg) (base := base) f8 X G (fun _ _ _ _ _ _ us hl => match us, hl with | [_, _], _ => rfl) fun f fd F => ok_neg F T (Use.up U_is_number (by omega)) (Use.up U_kind_name (by omega))
  have U_object_kind := mk_use (P := l.prog) (w := w) (mg := mg) (base := base) f9 X G (fun _ _ _ _ _ _ us hl => match us, hl with | [_, _], _ => rfl) fun f fd F => ok_kind F T
  have U_length := mk_use (P := l.prog) (w := w) (mg := mg) (base := base) f10 X G (fun _ _ _ _ _ _ us hl => match us, hl with | [_, _], _ => rfl) fun f fd F => ok_len F T (Use.up U_object_kind (by omega)) (Use.up U_kind_name (by omega))
  have U_row_kind := mk_use (P := l.prog) (w := w) (mg := mg) (base := base) f11 X G (fun _ _ _ _ _ _ us hl => match us, hl with | [_, _], _ => rfl) fun f fd F => ok_rowkind F T (Use.up U_object_kind (by omega))
  have U_refusal := mk_use (P := l.prog) (w := w) (mg := mg) (base := base) f12 X G (fun _ _ _ _ _ _ us hl => match us, hl with | [_, _, _], _ => rfl) fun f fd F => ok_refuse F T (Use.up U_kind_name (by omega))
  have U_item := mk_use (P := l.prog) (w := w) (mg := mg) (base := base) f13 X G (fun _ _ _ _ _ _ us hl => match us, hl with | [_, _, _], _ => rfl) fun f fd F => ok_item F T (Use.up U_object_kind (by omega)) (Use.up U_row_kind (by omega)) (Use.up U_refusal (by omega))
  have U_part := mk_use (P := l.prog) (w := w) (mg := mg) (base := base) f14 X G (fun _ _ _ _ _ _ us hl => match us, hl with | [_, _, _, _], _ => rfl) fun f fd F => ok_part F T (Use.up U_row_kind (by omega)) (Use.up U_refusal (by omega))
  have U_put_item := mk_use (P := l.prog) (w := w) (mg := mg) (base := base) f15 X G (fun _ _ _ _ _ _ us hl => match us, hl with | [_, _, _, _], _ => rfl) fun f fd F => ok_put F T (Use.up U_object_kind (by omega)) (Use.up U_refusal (by omega))
  have U_drop_item := mk_use (P := l.prog) (w := w) (mg := mg) (base := base) f16 X G (fun _ _ _ _ _ _ us hl => match us, hl with | [_, _, _], _ => rfl) fun f fd F => ok_drop F T (Use.up U_object_kind (by omega)) (Use.up U_refusal (by omega))
  have U_law_singles := mk_use (P := l.prog) (w := w) (mg := mg) (base := base) f17 X G (fun _ _ _ _ _ _ us hl => match us, hl with | [_, _, _], _ => rfl) fun f fd F => ok_sing F T (Use.up U_law_same (by omega)) (Use.up U_negated (by omega)) (Use.up U_length (by omega)) (Use.up U_item (by omega)) (Use.up U_part (by omega)) (Use.up U_put_item (by omega)) (Use.up U_drop_item (by omega))
  have U_law_means := mk_use (P := l.prog) (w := w) (mg := mg) (base := base) f18 X G (fun _ _ _ _ _ _ us hl => match us, hl with | [_, _, _], _ => rfl) fun f fd F => ok_means F T
  have U_unsupported := mk_use (P := l.prog) (w := w) (mg := mg) (base := base) f19 X G (fun _ _ _ _ _ _ us hl => match us, hl with | [_, _, _, _], _ => rfl) fun f fd F => ok_uns F T (Use.up U_kind_name (by omega))
  have U_binary := mk_use (P := l.prog) (w := w) (mg := mg) (base := base) f20 X G (fun _ _ _ _ _ _ us hl => match us, hl with | [_, _, _, _], _ => rfl) fun f fd F => ok_binary F T (Use.up U_is_number (by omega)) (Use.up U_row_kind (by omega)) (Use.up U_unsupported (by omega))
  have U_both_rows := mk_use (P := l.prog) (w := w) (mg := mg) (base := base) f21 X G (fun _ _ _ _ _ _ us hl => match us, hl with | [_, _, _], _ => rfl) fun f fd F => ok_both F T (Use.up U_object_kind (by omega))
  have U_order := mk_use (P := l.prog) (w := w) (mg := mg) (base := base) f22 X G (fun _ _ _ _ _ _ us hl => match us, hl with | [_, _, _, _], _ => rfl) fun f fd F => ok_order F T (Use.up U_is_number (by omega)) (Use.up U_both_rows (by omega)) (Use.up U_unsupported (by omega))
  have U_membership := mk_use (P := l.prog) (w := w) (mg := mg) (base := base) f23 X G (fun _ _ _ _ _ _ us hl => match us, hl with | [_, _, _], _ => rfl) fun f fd F => ok_mem F T (Use.up U_object_kind (by omega)) (Use.up U_unsupported (by omega))
  have U_opposite := mk_use (P := l.prog) (w := w) (mg := mg) (base := base) f24 X G (fun _ _ _ _ _ _ us hl => match us, hl with | [_], _ => rfl) fun f fd F => ok_opp F T
  have U_compare := mk_use (P := l.prog) (w := w) (mg := mg) (base := base) f25 X G (fun _ _ _ _ _ _ us hl => match us, hl with | [_, _, _, _], _ => rfl) fun f fd F => ok_cmp F T (Use.up U_order (by omega)) (Use.up U_membership (by omega)) (Use.up U_opposite (by omega))
  exact ok_law F T (Use.up U_law_digits (by omega)) (Use.up U_law_draw (by omega)) (Use.up U_start_heap (by omega)) (Use.up U_law_values (by omega)) (Use.up U_kind_name (by omega)) (Use.up U_law_singles (by omega)) (Use.up U_law_means (by omega)) (Use.up U_binary (by omega)) (Use.up U_compare (by omega)) (Use.up U_law_same (by omega))
end K23
open PySem PySem.W PyProof.Rows
set_option maxRecDepth 100000 in
set_option maxHeartbeats 0 in
theorem PySem.Challenge.cw_pyhold_k23_unlike_kinds_holds : PySem.Challenge.rw_pyhold_k23_unlike_kinds.Holds := by
  w_on; o_law; k_head; (case hw => w_witness2)
  k_fill
  refine LK.walkG (l := PySem.Challenge.rw_pyhold_k23_unlike_kinds) (n := 63) (k := 5) (x := "script") (CX := L2.CX0) (sp := K23.spLaw) rfl (by decide) rfl ⟨rfl, by decide, by decide⟩ (fun w h Y => PySem.W.kIn_of Y) ?F (fun K H a ns hl _ hS => ⟨a, ns, rfl, hS, hl, fun _ => rfl⟩) (fun _ _ _ _ z => z)
  case F =>
    intro w mg fa h KX G hmg
    refine' K23.walk_mk KX G hmg ?f0 ?f1 ?f2 ?f3 ?f4 ?f5 ?f6 ?f7 ?f8 ?f9 ?f10 ?f11 ?f12 ?f13 ?f14 ?f15 ?f16 ?f17 ?f18 ?f19 ?f20 ?f21 ?f22 ?f23 ?f24 ?f25 ?f26 ?c0 ?c1 ?c2 ?c3 ?b_len ?b_int ?b_range ?b_list ?b_tuple ?b_repr ?b_enumerate ?b_zip ?b_set ?d_VALUE_KINDS ?d_OBJECT_KINDS
    case f0 => refine' LK.HasFn.mk' ?a ?b ?c ?d; (case a => k_is); (case b => k_is); (case c => k_is); (case d => k_is)
    case f1 => refine' LK.HasFn.mk' ?a ?b ?c ?d; (case a => k_is); (case b => k_is); (case c => k_is); (case d => k_is)
    case f2 => refine' LK.HasFn.mk' ?a ?b ?c ?d; (case a => k_is); (case b => k_is); (case c => k_is); (case d => k_is)
    case f3 => refine' LK.HasFn.mk' ?a ?b ?c ?d; (case a => k_is); (case b => k_is); (case c => k_is); (case d => k_is)
    case f4 => refine' LK.HasFn.mk' ?a ?b ?c ?d; (case a => k_is); (case b => k_is); (case c => k_is); (case d => k_is)
    case f5 => refine' LK.HasFn.mk' ?a ?b ?c ?d; (case a => k_is); (case b => k_is); (case c => k_is); (case d => k_is)
    case f6 => refine' LK.HasFn.mk' ?a ?b ?c ?d; (case a => k_is); (case b => k_is); (case c => k_is); (case d => k_is)
    case f7 => refine' LK.HasFn.mk' ?a ?b ?c ?d; (case a => k_is); (case b => k_is); (case c => k_is); (case d => k_is)
    case f8 => refine' LK.HasFn.mk' ?a ?b ?c ?d; (case a => k_is); (case b => k_is); (case c => k_is); (case d => k_is)
    case f9 => refine' LK.HasFn.mk' ?a ?b ?c ?d; (case a => k_is); (case b => k_is); (case c => k_is); (case d => k_is)
    case f10 => refine' LK.HasFn.mk' ?a ?b ?c ?d; (case a => k_is); (case b => k_is); (case c => k_is); (case d => k_is)
    case f11 => refine' LK.HasFn.mk' ?a ?b ?c ?d; (case a => k_is); (case b => k_is); (case c => k_is); (case d => k_is)
    case f12 => refine' LK.HasFn.mk' ?a ?b ?c ?d; (case a => k_is); (case b => k_is); (case c => k_is); (case d => k_is)
    case f13 => refine' LK.HasFn.mk' ?a ?b ?c ?d; (case a => k_is); (case b => k_is); (case c => k_is); (case d => k_is)
    case f14 => refine' LK.HasFn.mk' ?a ?b ?c ?d; (case a => k_is); (case b => k_is); (case c => k_is); (case d => k_is)
    case f15 => refine' LK.HasFn.mk' ?a ?b ?c ?d; (case a => k_is); (case b => k_is); (case c => k_is); (case d => k_is)
    case f16 => refine' LK.HasFn.mk' ?a ?b ?c ?d; (case a => k_is); (case b => k_is); (case c => k_is); (case d => k_is)
    case f17 => refine' LK.HasFn.mk' ?a ?b ?c ?d; (case a => k_is); (case b => k_is); (case c => k_is); (case d => k_is)
    case f18 => refine' LK.HasFn.mk' ?a ?b ?c ?d; (case a => k_is); (case b => k_is); (case c => k_is); (case d => k_is)
    case f19 => refine' LK.HasFn.mk' ?a ?b ?c ?d; (case a => k_is); (case b => k_is); (case c => k_is); (case d => k_is)
    case f20 => refine' LK.HasFn.mk' ?a ?b ?c ?d; (case a => k_is); (case b => k_is); (case c => k_is); (case d => k_is)
    case f21 => refine' LK.HasFn.mk' ?a ?b ?c ?d; (case a => k_is); (case b => k_is); (case c => k_is); (case d => k_is)
    case f22 => refine' LK.HasFn.mk' ?a ?b ?c ?d; (case a => k_is); (case b => k_is); (case c => k_is); (case d => k_is)
    case f23 => refine' LK.HasFn.mk' ?a ?b ?c ?d; (case a => k_is); (case b => k_is); (case c => k_is); (case d => k_is)
    case f24 => refine' LK.HasFn.mk' ?a ?b ?c ?d; (case a => k_is); (case b => k_is); (case c => k_is); (case d => k_is)
    case f25 => refine' LK.HasFn.mk' ?a ?b ?c ?d; (case a => k_is); (case b => k_is); (case c => k_is); (case d => k_is)
    case f26 => refine' LK.HasFn.mk' ?a ?b ?c ?d; (case a => k_is); (case b => k_is); (case c => k_is); (case d => k_is)
    case c0 => refine' LK.HasInt.mk' ?a ?b; (case a => k_is); (case b => decide +kernel)
    case c1 => refine' LK.HasTup.mk' ?a ?b ?c ?d; (case a => k_is); (case b => k_is); (case c => decide); (case d => repeat (first | exact .nil | refine .cons ⟨_, rfl⟩ ?_))
    case c2 => refine' LK.HasTup.mk' ?a ?b ?c ?d; (case a => k_is); (case b => k_is); (case c => decide); (case d => repeat (first | exact .nil | refine .cons ⟨_, rfl⟩ ?_))
    case c3 => refine' LK.HasTup.mk' ?a ?b ?c ?d; (case a => k_is); (case b => k_is); (case c => decide); (case d => repeat (first | exact .nil | refine .cons ⟨_, rfl⟩ ?_))
    case b_len => k_is
    case b_int => k_is
    case b_range => k_is
    case b_list => k_is
    case b_tuple => k_is
    case b_repr => k_is
    case b_enumerate => k_is
    case b_zip => k_is
    case b_set => k_is
    case d_VALUE_KINDS => refine' LK.HasDct.mk' ?a ?b ?c ?d ?e; (case a => k_is); (case b => k_is); (case c => rfl); (case d => repeat (first | exact .nil | refine .cons rfl rfl rfl ?_)); (case e => decide +kernel)
    case d_OBJECT_KINDS => refine' LK.HasDct.mk' ?a ?b ?c ?d ?e; (case a => k_is); (case b => k_is); (case c => rfl); (case d => repeat (first | exact .nil | refine .cons rfl rfl rfl ?_)); (case e => decide +kernel)


