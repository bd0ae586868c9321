import PyProof.Rows.All
import Wide.All
import OpenK.AllK
import Wide.FinOn
import HandS.ForMost
import HandS.Wide
import HandS.WideMore
import HandS.TupAny
import HandS.TupLen
import HandS.Evl
import HandS.Codes
import PyProof.ReprLen
import PyProof.StrLawsRepr
import HandS.Walk
import HandS.Zip
import KE.GoesMore
import HandS.Style
import HandS.TupMul
import PyProof.StrOps2
import HandS.IsInst
import HandS.StrMore
import HandS.Dict
import PySem.Challenge.RW_pyhold_k32_attributes_in_order
set_option Elab.async false
set_option linter.all false
set_option maxRecDepth 100000
set_option maxHeartbeats 4000000
/-! A layer of one's own over the hand layer: defs by name, data, the helpers that the laws share. -/
namespace LK
open PySem PySem.Spec PyProof.Rows L2

/-! ### a def's promise where nothing is being shown (repr asks who is) -/
structure FnG (P : Program) (w : World) (K : PySem.W.Frag) (mg : Str → Option Value) (base : Heap) (CX : CXT) (k : Nat) (f : Addr) (fd : FuncData) (ps : List Str) (sp : Sp) : Prop where
  len : ∀ vs H Q E, sp vs H Q E → vs.length = ps.length
  run : ∀ (A : Around) (outer : List Env) (s : Shared) (H : Hp) (args : Args) (us : List Value) (vs : List V) (Q : VK) (E : XK), Room k A → A.guards = some [] →
    Env0 P w K mg base A outer s H → BindsTo s fd args (ps.zip us) → Vals vs us → sp vs H Q E → codeAny (model P w) A (.call (.ref f) args) (CR CX outer P w H s Q E) s
section
variable {P : Program} {w : World} {K : PySem.W.Frag} {mg : Str → Option Value} {base : Heap} {CX : CXT}
theorem FnG.imp {k : Nat} {f : Addr} {fd : FuncData} {ps : List Str} {sp sp' : Sp} (F : FnG P w K mg base CX k f fd ps sp) (h : ∀ vs H Q E, sp' vs H Q E → sp vs H Q E) : FnG P w K mg base CX k f fd ps sp' where
  len := fun vs H Q E q => F.len vs H Q E (h vs H Q E q)
  run := fun A outer s H args us vs Q E hr hg he hb hv hs => F.run A outer s H args us vs Q E hr hg he hb hv (h vs H Q E hs)
/-- the rule for a def: its body as a term of rules, and the reading of that term -/
theorem okG {x qual : Str} {st : Stmt} {f : Addr} {fd : FuncData} {N ps : List Str} {k : Nat} {sp : Sp} (F : Fun K x qual st f fd) (S : FnScope N ps (defScope st)) (len : ∀ vs H Q E, sp vs H Q E → vs.length = ps.length)
    (body : ∀ (cdv : Value) (A : Around) (outer : List Env) (s : Shared) (H : Hp) (vs : List V) (Q : VK) (E : XK), Room k (A.deeper (envOfC qual (defScope st) s.heap.objs.size f cdv)) →
      (A.deeper (envOfC qual (defScope st) s.heap.objs.size f cdv)).guards = some [] → sp vs H Q E →
      ∃ t, PSs (cxOf CX P w K mg base N qual (defScope st) f cdv A outer s H E) (defBody st) t ∧ t { nx := fun _ H' => Q .non H', rt := Q } (start N vs) H) :
    FnG P w K mg base CX (k + 1) f fd ps sp := by
  obtain ⟨oc, od, kV, doc, pm, an, cdv, ct, osl, rfl, lk, hcd⟩ := F.ex
  refine ⟨len, fun A outer s H args us vs Q E hr hgd e0 hb r hsp => ?_⟩
  have inn : K.In s.heap := e0.mod.kin.keeps fun b o e => (e0.bs b o e).1
  refine codeAny_call_function hr.depth (inn _ _ lk) rfl S.co S.gen rfl (PySem.W.codeRec_of inn hcd) (hb _ _ _ _ ?_)
  refine wpAny_newFunctionEnv_cells S.kind (fun y hy => ?_) fun env he s1 made => ?_
  · obtain ⟨n, v⟩ := y
    exact (S.par n (List.of_mem_zip hy).1).elim .inl fun q => .inr ⟨q, PySem.W.cellsFrom_some _ _ _ (.inl q)⟩
  · subst he
    have lim : s.heap.NoLimit := e0.mod.nolimit.keeps fun b o e => (e0.bs b o e).1
    refine ⟨lim.keeps made.toInCall.keep, codeAny_func ?_⟩
    obtain ⟨t, ht, hq⟩ := body cdv A outer s H vs Q E (hr.deeper _) hgd hsp
    refine wpAny_mono (ht.run [] s1 (start N vs) H _ (inv_start S hr.hd e0 (len _ _ _ _ hsp) r made) hq) (fun fl s' hs => ?_) fun e s' hs => hs
    cases fl with
    | ret u => exact let ⟨v, _, H', J, rv, q⟩ := hs; ⟨v, H', J.os, J.bare, J.base, J.hok, rv, q⟩
    | next => exact let ⟨_, H', J, q⟩ := hs; ⟨V.non, H', J.os, J.bare, J.base, J.hok, rfl, q⟩
    | brk => exact let ⟨_, _, _, q⟩ := hs; q.elim
    | cont => exact let ⟨_, _, _, q⟩ := hs; q.elim
/-- .. whose body lets no exception out -/
theorem okG0 {x qual : Str} {st : Stmt} {f : Addr} {fd : FuncData} {N ps : List Str} {k : Nat} {sp : Sp} (F : Fun K x qual st f fd) (S : FnScope N ps (defScope st)) (len : ∀ vs H Q E, sp vs H Q E → vs.length = ps.length)
    (body : ∀ (cdv : Value) (A : Around) (outer : List Env) (s : Shared) (H : Hp) (vs : List V) (Q : VK) (E : XK), Room k (A.deeper (envOfC qual (defScope st) s.heap.objs.size f cdv)) →
      (A.deeper (envOfC qual (defScope st) s.heap.objs.size f cdv)).guards = some [] → sp vs H Q E →
      ∃ t, PSs (cxOf CX0 P w K mg base N qual (defScope st) f cdv A outer s H E).nox (defBody st) t ∧ t { nx := fun _ H' => Q .non H', rt := Q } (start N vs) H) :
    FnG P w K mg base CX0 (k + 1) f fd ps sp :=
  okG F S len fun cdv A outer s H vs Q E hr hg hs => let ⟨t, ht, q⟩ := body cdv A outer s H vs Q E hr hg hs; ⟨t, ht.nox, q⟩
end
section
variable {X : Cx} {CX : CXT} {k : Nat} {f : Addr} {fd : FuncData} {ps : List Str} {sp : Sp} {E : XK} {x : Str} {p pos : Pos} {e : Expr} {es : List Expr} {t : TA}
theorem run_fnG {pins : List (Addr × Obj)} {σ : L2.St} {H : Hp} {s : Shared} {Q : VK} {us : List Value} {vs : List V} (F : FnG X.prog X.w X.K X.mg X.base CX k f fd ps sp) (hr : Room k X.A) (hg : X.A.guards = some []) (hb : Binds X.K fd ps [])
    (hx : Passes CX X E) (I : Inv X pins σ H s) (r : Vals vs us) (h : sp vs H Q E) : wpAny (model X.prog X.w) X.A (call (.ref f) us) (EP X pins σ Q) X.xe s := by
  have hl : (us ++ []).length = ps.length := by rw [List.append_nil, ← r.length, F.len _ _ _ _ h]
  have hbs := hb s us I.kIn hl
  rw [List.append_nil] at hbs
  refine wpAny_call (codeAny_mono (F.run X.A X.stack s H ⟨us, []⟩ us vs Q E hr hg I.env0 hbs r h) fun res s' hq => ?_)
  match res, hq with
  | .error e, hq => exact hx pins σ H s e s' I hq
  | .ok (.ret u), hq => exact I.after hq
  | .ok .next, hq => exact hq.elim
  | .ok .brk, hq => exact hq.elim
  | .ok .cont, hq => exact hq.elim
end

/-! ### defs of the text, by name -/
/-- what the top has left of the def x, whose statement is st -/
def HasFn (K : PySem.W.Frag) (x : Str) (st : Stmt) : Prop := ∃ (f : Addr) (oc : Value) (od an : Option Addr) (kV doc pm cdv ct : Value) (osl : Array (Option Value)),
  PySem.W.nsIn K mainGlobals x = some (some (.ref f)) ∧ K.lookup f = some ⟨oc, od, .func (PySem.W.fnOf x x (defArgs st) (defBody st) (defScope st) .none kV doc pm an cdv ct), osl⟩ ∧
  PySem.W.codeIn K cdv x = true ∧ PySem.W.keepIn K (.ref f) = true
/-- the def x may be called: its promise sp, by level k -/
structure Use (P : Program) (w : World) (K : PySem.W.Frag) (mg : Str → Option Value) (base : Heap) (CX : CXT) (x : Str) (k : Nat) (ps : List Str) (sp : Sp) : Prop where
  ex : ∃ (f : Addr) (fd : FuncData), FnG P w K mg base CX k f fd ps sp ∧ mg x = some (.ref f) ∧ PySem.W.keepIn K (.ref f) = true ∧ Binds K fd ps []
section
variable {P : Program} {w : World} {K : PySem.W.Frag} {mg : Str → Option Value} {base h : Heap} {CX : CXT}
theorem mk_use {x : Str} {st : Stmt} {k : Nat} {ps : List Str} {sp : Sp} (F : HasFn K x st) (X : K.In h) (G : h.Ns mainGlobals mg)
    (hb : ∀ (kV doc pm : Value) (an : Option Addr) (cdv ct : Value) (us : List Value), us.length = ps.length → bindArgs (PySem.W.fnOf x x (defArgs st) (defBody st) (defScope st) .none kV doc pm an cdv ct) ⟨us, []⟩ = pure (ps.zip us))
    (ok : ∀ (f : Addr) (fd : FuncData), Fun K x x st f fd → FnG P w K mg base CX k f fd ps sp) : Use P w K mg base CX x k ps sp := by
  obtain ⟨f, oc, od, an, kV, doc, pm, cdv, ct, osl, e, l, c, kp⟩ := F
  have Fn := fun_mk (st := st) l c kp
  exact ⟨f, _, ok f _ Fn, PySem.W.mg_of X G e, kp, Fn.binds hb⟩
theorem Use.imp {x : Str} {k : Nat} {ps : List Str} {sp sp' : Sp} (U : Use P w K mg base CX x k ps sp) (h : ∀ vs H Q E, sp' vs H Q E → sp vs H Q E) : Use P w K mg base CX x k ps sp' := by
  obtain ⟨f, fd, ok, r⟩ := U.ex
  exact ⟨f, fd, ok.imp h, r⟩
end
section
variable {X : Cx} {CX : CXT} {E : XK} {k : Nat} {x : Str} {ps : List Str} {sp : Sp} {p pos : Pos} {e : Expr} {es : List Expr} {t : TA}
theorem pe_useX (U : Use X.prog X.w X.K X.mg X.base CX x k ps sp) (hx : Passes CX X E) (hr : Room k X.A) (gd : X.A.guards = some []) (hg : Gl X x) (ha : PA X (e :: es) t) (hdb : (x == ("__debug__" : Str)) = false := by decide)
    (he : starEach (e :: es) X.env = (false, eval e X.env) :: starEach es X.env := by rfl) (hpl : (backTo pos (starEach es X.env)).any (·.1) = false := by rfl) : PE X (.Call (.Name x p) (e :: es) [] pos) (fun σ H Q => t σ H fun vs H1 => sp vs H1 Q E) := by
  obtain ⟨f, fd, ok, hm, kp, hb⟩ := U.ex
  refine ⟨fun pins s σ H Q I h => wpAny_Call_Name_kw (ld_glob I hg hm ?_ hdb)⟩
  exact PySem.W.callWith_K (h₀ := X.base) I.ok.mod.kin kp (thn (ha.run pos pins s σ H _ I h) fun us s1 ⟨vs, H1, I1, r, q⟩ => ⟨I1.kIn, run_fnG ok hr gd hb hx I1 r q⟩) he hpl
def tUse (sp : Sp) (E : XK) (t : TA) : TE := fun σ H Q => t σ H fun vs H1 => sp vs H1 Q E
theorem pe_use (U : Use X.prog X.w X.K X.mg X.base CX0 x k ps sp) (hr : Room k X.A) (gd : X.A.guards = some []) (hg : Gl X x) (ha : PA X (e :: es) t) (hdb : (x == ("__debug__" : Str)) = false := by decide)
    (he : starEach (e :: es) X.env = (false, eval e X.env) :: starEach es X.env := by rfl) (hpl : (backTo pos (starEach es X.env)).any (·.1) = false := by rfl) : PE X (.Call (.Name x p) (e :: es) [] pos) (tUse sp E0 t) := pe_useX U pass0 hr gd hg ha hdb he hpl
theorem pe_use0 (U : Use X.prog X.w X.K X.mg X.base CX0 x k ps sp) (hr : Room k X.A) (gd : X.A.guards = some []) (hg : Gl X x) (hdb : (x == ("__debug__" : Str)) = false := by decide) : PE X (.Call (.Name x p) [] [] pos) (tUse sp E0 tNil) := by
  obtain ⟨f, fd, ok, hm, kp, hb⟩ := U.ex
  exact ⟨fun pins s σ H Q I h => wpAny_Call_Name_kw (ld_glob I hg hm (PySem.W.callWith_K0 I.kIn kp (run_fnG (us := []) ok hr gd hb pass0 I .nil h)) hdb)⟩
end

/-! ### what stays -/
theorem Same.new {H : Hp} {p : Addr} {o : HO} (h : H p = none) : Same H (upd H p o) := fun b u e => by
  rw [upd_ne (ne_of_none e h)]; exact e
theorem Same.rd {H H' : Hp} {a : Addr} {u : HO} (e : Same H H') (h : Rd H a u) : Rd H' a u := by
  rcases h with h | ⟨o, h⟩
  · exact .inl (e _ _ h)
  · exact .inr ⟨o, e _ _ h⟩
theorem Same.tupl {K : PySem.W.Frag} {H H' : Hp} {a : Addr} {xs : List V} (e : Same H H') (h : SqT K H a xs) : SqT K H' a xs := by
  rcases h with h | h
  · exact .inl (Same.rd e h)
  · exact .inr h
theorem SqT.mono {K : PySem.W.Frag} {H H' : Hp} {a : Addr} {xs : List V} (h : SqT K H a xs) (e : Same H H') : SqT K H' a xs := Same.tupl e h
theorem SqL.mono {K : PySem.W.Frag} {H H' : Hp} {a : Addr} {xs : List V} (h : SqL K H a xs) (e : Same H H') : SqL K H' a xs := e.seq h

/-! ### data: none, bools, ints, texts, tuples (and lists that stand still) -/
mutual
theorem Dp.mono {K : PySem.W.Frag} {H H' : Hp} (e : Same H H') : ∀ {v : V} {d : PyData}, Dp K H v d → Dp K H' v d
  | _, _, .non => .non
  | _, _, .bl b => .bl b
  | _, _, .int i => .int i
  | _, _, .str x => .str x
  | _, _, .lst h a => .lst (e.seq h) (DpAll.mono e a)
  | _, _, .tup h a => .tup (Same.tupl e h) (DpAll.mono e a)
theorem DpAll.mono {K : PySem.W.Frag} {H H' : Hp} (e : Same H H') : ∀ {vs : List V} {ds : List PyData}, DpAll K H vs ds → DpAll K H' vs ds
  | _, _, .nil => .nil
  | _, _, .cons h a => .cons (Dp.mono e h) (DpAll.mono e a)
end
/-- a tuple just made -/
theorem Dp.made {K : PySem.W.Frag} {H : Hp} {p : Addr} {xs : List V} {ds : List PyData} (hp : H p = none) (h : DpAll K H xs ds) : Dp K (upd H p (.tup xs)) (.ref p) (.tuple ds) :=
  .tup (SqT.of upd_same) (DpAll.mono (Same.new hp) h)
theorem DpAll.length {K : PySem.W.Frag} {H : Hp} : ∀ {vs : List V} {ds : List PyData}, DpAll K H vs ds → vs.length = ds.length
  | _, _, .nil => rfl
  | _, _, .cons _ t => by simp [DpAll.length t]
theorem DpAll.app {K : PySem.W.Frag} {H : Hp} : ∀ {vs ws : List V} {ds es : List PyData}, DpAll K H vs ds → DpAll K H ws es → DpAll K H (vs ++ ws) (ds ++ es)
  | _, _, _, _, .nil, t => t
  | _, _, _, _, .cons h a, t => .cons h (DpAll.app a t)

/-! ### repr of data -/
mutual
theorem Dp.noDict {K : PySem.W.Frag} {H : Hp} : ∀ {v : V} {d : PyData}, Dp K H v d → d.hasDict = false
  | _, _, .non => rfl
  | _, _, .bl _ => rfl
  | _, _, .int _ => rfl
  | _, _, .str _ => rfl
  | _, _, .lst _ a => by simp only [PyData.hasDict]; exact DpAll.noDict a
  | _, _, .tup _ a => by simp only [PyData.hasDict]; exact DpAll.noDict a
theorem DpAll.noDict {K : PySem.W.Frag} {H : Hp} : ∀ {vs : List V} {ds : List PyData}, DpAll K H vs ds → PyData.hasDictAll ds = false
  | _, _, .nil => rfl
  | _, _, .cons h a => by simp only [PyData.hasDictAll, Dp.noDict h, DpAll.noDict a, Bool.or_self]
end
/-- what repr asks of data -/
structure ShowOk (d : PyData) : Prop where
  ok : d.showable = true
  dp : d.depth ≤ 60
  sz : d.shown.length ≤ sizeLine
def rRepr (K : PySem.W.Frag) : List V → Hp → VK → Prop := fun xs H Q => ∃ v d, xs = [v] ∧ Dp K H v d ∧ ShowOk d ∧ Q (.str d.shown) H
section
variable {X : Cx}
theorem call_repr_data (hg : X.A.guards = some []) (hu : X.A.units + 64 < cLine) : CallR X (.builtin "repr") (rRepr X.K) := by
  intro pins s σ H xs us Q I r h
  obtain ⟨v, d, rfl, hd, ⟨hs, hdp, hsz⟩, q⟩ := h
  obtain ⟨u, rfl, rv⟩ := vals1 r
  obtain ⟨as, rr⟩ := Dp.reads I d v u hd rv
  have nd := Dp.noDict hd
  cases d with
  | none => cases rr; exact PySem.P.repr_of_none ⟨.str _, H, I.tok _, ⟨_, rfl⟩, q⟩
  | bool b => cases rr; exact PySem.P.repr_of_bool ⟨.str _, H, I.tok _, ⟨_, rfl⟩, by simpa [PyData.shown] using q⟩
  | int i => cases rr; exact PySem.P.repr_of_int (of_decide_eq_true (by simpa [PyData.showable] using hs)) ⟨.str _, H, I.tok _, ⟨_, rfl⟩, by simpa [PyData.shown] using q⟩
  | str x => cases rr; exact PySem.P.repr_of_str (hsz := by simpa [PyData.shown] using hsz) ⟨.str _, H, I.tok _, ⟨_, rfl⟩, by simpa [PyData.shown] using q⟩
  | list ds =>
    obtain ⟨a, rfl⟩ := PyProof.Rows.isRef_of_reads rr rfl
    exact repr_of_reads' rr hs (PyData.noDict_hsm nd) hg (by omega) (fun _ _ e => e) (fun h' u tk hk => ⟨.str _, H, I.kept hk, ⟨_, rfl⟩, q⟩) hsz
  | tuple ds =>
    obtain ⟨a, rfl⟩ := PyProof.Rows.isRef_of_reads rr rfl
    exact repr_of_reads' rr hs (PyData.noDict_hsm nd) hg (by omega) (fun _ _ e => e) (fun h' u tk hk => ⟨.str _, H, I.kept hk, ⟨_, rfl⟩, q⟩) hsz
  | dict kv => cases hd
end

/-! ### the law's own call -/
/-- the heap behind the top, seen with the script at a locked, or with nothing tracked -/
theorem law_callG {P : Program} {w : World} {K : PySem.W.Frag} {mg mb : Str → Option Value} {CX : CXT} {k : Nat} {fa a : Addr} {fd : FuncData} {x : Str} {sp : Sp} {s₁ : Shared} {vs : List Value} {ns : List Int}
    (inn : K.In s₁.heap) (hns : s₁.heap.Ns mainGlobals mg) (hb : s₁.heap.Ns builtinsNs mb) (hbb : ∀ x : Str, x ≠ "__name__" → mb x = bootBuiltins x) (hlim : s₁.heap.NoLimit) (hgens : s₁.gens = #[])
    (ha : s₁.heap.get? a = some { cls := .type "list", data := .seq vs.toArray }) (hi : IntsAre vs ns) (hl : ns.length ≤ sizeLine) (hr : Room k callerA)
    (F : ∀ base : Heap, K.In base → base.Ns mainGlobals mg → FnG P w K mg base CX k fa fd [x] sp) (hbind : ∀ (s : Shared) (u : Value), BindsTo s fd ⟨[u], []⟩ [(x, u)])
    (hsp : ∀ H : Hp, Only H → SqL K H a (ns.map V.int) → sp [.ref a] H (fun v _ => v = .bl true) fun _ _ _ => False)
    (hCX : ∀ H e s', CX [] H s₁ (fun _ _ _ => False) e s' → False) :
    codeAny (model P w) callerA (.call (.ref fa) ⟨[.ref a], []⟩) (fun r s' => r = .ok (.ret (.bool true)) ∧ OldK s₁.heap s'.heap ∧ s'.os = s₁.os ∧ AllBare s'.gens) s₁ := by
  have rv := vals_ints hi
  have run : ∀ H : Hp, Only H → SqL K H a (ns.map V.int) → HOk P w H s₁.heap → (∀ b u, H b = some u → b = a ∧ K.lookup a = none) →
      codeAny (model P w) callerA (.call (.ref fa) ⟨[.ref a], []⟩) (fun r s' => r = .ok (.ret (.bool true)) ∧ OldK s₁.heap s'.heap ∧ s'.os = s₁.os ∧ AllBare s'.gens) s₁ := by
    intro H only hS hok at_a
    -- what is no list stays in the base
    have free : ∀ {b : Addr} {o : Obj}, s₁.heap.get? b = some o → (∀ its n, o.data ≠ .seq its n) → H b = none := fun {b o} e hd => by
      cases q : H b with
      | none => rfl
      | some u =>
        obtain ⟨rfl, _⟩ := at_a b u q
        rw [ha] at e; cases e
        exact absurd rfl (hd _ _)
    have names : ∀ {b : Addr} {m : Str → Option Value}, s₁.heap.Ns b m → (hidT s₁.heap H).Ns b m := fun {b m} hn => by
      obtain ⟨o, es, ep, e, d, r⟩ := hn
      exact ⟨o, es, ep, hidT_get e (free e fun its n z => by rw [d] at z; cases z), d, r⟩
    have inb : K.In (hidT s₁.heap H) := fun b o e => by
      refine hidT_get (inn b o e) ?_
      cases q : H b with
      | none => rfl
      | some u =>
        obtain ⟨rfl, hk⟩ := at_a b u q
        rw [e] at hk; cases hk
    have md : Mod K mg (hidT s₁.heap H) := by
      obtain ⟨mc, h1, h2⟩ := hlim
      exact ⟨inb, names hns, ⟨mb, names hb, hbb⟩, ⟨mc, names h1, h2⟩⟩
    have none_in : ∀ b : Addr, b ∉ ([] : List Addr) := fun b z => nomatch z
    have e0 : Env0 P w K mg (hidT s₁.heap H) callerA [] s₁ H := ⟨rfl, md, fun b o e => of_hidT e, Nat.le_of_eq (hidT_size _ _), trivial, fun b z => absurd z (none_in b), hok, .of_eq hgens⟩
    refine codeAny_mono ((F _ inb (names hns)).run callerA [] s₁ H ⟨[.ref a], []⟩ [.ref a] [.ref a] _ _ hr rfl e0 (hbind s₁ (.ref a)) (.cons rfl .nil) (hsp H only hS)) fun r s' h => ?_
    match r, h with
    | .error e, h => exact (hCX H e s' h).elim
    | .ok .next, h => exact False.elim h
    | .ok .brk, h => exact False.elim h
    | .ok .cont, h => exact False.elim h
    | .ok (.ret u), h =>
      obtain ⟨v, H', os, bare, un, hok', r', q⟩ := h
      obtain rfl : v = V.bl true := q
      obtain rfl : u = Value.bool true := r'
      refine ⟨rfl, OldK.of_keep fun b o e => ?_, os, bare⟩
      cases q : H b with
      | none => exact un.keep b o e q (none_in b) (none_in b)
      | some u =>
        rcases only b with z | ⟨ob, xs, z⟩
        · rw [q] at z; cases z
        · have e1 : s₁.heap.get? b = some ob := (hok b _ z).1
          rw [e] at e1; cases e1
          exact (hok' b _ (un.frzs b o _ z)).1
  cases hk : K.lookup a with
  | some o =>
    have e := inn a o hk
    rw [ha] at e; cases e
    have sz : vs.toArray.size ≤ sizeLine := by rw [List.size_toArray, hi.length]; exact hl
    exact run (fun _ => none) (fun _ => .inl rfl) (.inr ⟨_, vs.toArray, _, hk, rfl, rfl, rfl, sz, by simpa using rv⟩) (fun b u z => nomatch (show (none : Option HO) = some u from z)) fun b u z => nomatch (show (none : Option HO) = some u from z)
  | none =>
    let u0 : HO := .frz { cls := .type "list", data := .seq vs.toArray } (.lst (ns.map V.int))
    have at1 : ∀ b u, upd (fun _ => none) a u0 b = some u → b = a ∧ u = u0 := fun b u z => by
      by_cases hb : b = a
      · subst hb; rw [upd_same] at z; exact ⟨rfl, (Option.some.inj z).symm⟩
      · rw [upd_ne hb] at z; cases z
    refine run (upd (fun _ => none) a u0) (fun b => ?_) (.inl (.inr ⟨_, upd_same⟩)) (fun b u z => ?_) fun b u z => ⟨(at1 b u z).1, hk⟩
    · by_cases hb : b = a
      · subst hb; exact .inr ⟨_, _, upd_same⟩
      · exact .inl (by rw [upd_ne hb])
    · obtain ⟨rfl, rfl⟩ := at1 b u z
      exact ⟨ha, by rw [List.length_map]; exact hl, vs, _, rv, ha⟩
theorem walkG {l : PySem.W.OpenLaw} {n k : Nat} {q : Program} {loose : List Str} {XP : (Str → Option Value) → Heap → Prop} {YP : World → Heap → Prop} {d : DefRec} {K : Params → PySem.W.Frag} {CX : CXT} {sp : PySem.W.Frag → Sp} {x : Str}
    (hn : l.most = some n) (hn2 : n ≤ sizeLine) (hdf : d.params.defaults = []) (hr : Room k callerA)
    (hY : ∀ (w : World) (h : Heap), YP w h → (K w.params).In h)
    (F : ∀ (w : World) (mg : Str → Option Value) (fa : Addr) (h : Heap), (K w.params).In h → h.Ns mainGlobals mg → mg d.name = some (.ref fa) →
      ∃ fd : FuncData, (∀ (s : Shared) (u : Value), BindsTo s fd ⟨[u], []⟩ [(x, u)]) ∧
        ∀ base : Heap, (K w.params).In base → base.Ns mainGlobals mg → FnG l.prog w (K w.params) mg base CX k fa fd [x] (sp (K w.params)))
    (hsp : ∀ (K : PySem.W.Frag) (H : Hp) (a : Addr) (ns : List Int), ns.length ≤ n → Only H → SqL K H a (ns.map V.int) → sp K [.ref a] H (fun v _ => v = .bl true) fun _ _ _ => False)
    (hCX : ∀ (H : Hp) (s : Shared) (e : Value) (s' : Shared), CX [] H s (fun _ _ _ => False) e s' → False) :
    PySem.W.WalkO q loose XP YP l.row.toRowW d [] (fun f vs => PySem.call f vs) :=
  Att.attach_call hn hdf fun w s₀ s₁ mg mb fa o pm cd doc a vs ns G Y ho hd hcd hmg hobj hints hlen hg =>
    let ⟨fd, hb, hF⟩ := F w mg fa _ (hY w _ Y) G.T.g hmg
    law_callG (hY w _ Y) G.T.g G.T.b G.T.builtins G.T.nolimit hg hobj hints (Nat.le_trans hlen hn2) hr hF hb (fun H hO hS => hsp (K w.params) H a ns hlen hO hS) fun H e s' => hCX H s₁ e s'
/-- from the top's facts: the law's def and its arguments -/
theorem law_use {P : Program} {w : World} {K : PySem.W.Frag} {mg : Str → Option Value} {h : Heap} {CX : CXT} {k : Nat} {fa : Addr} {st : Stmt} {x : Str} {sp : Sp} (L : HasFn K "law" st) (X : K.In h) (G : h.Ns mainGlobals mg) (hfa : mg "law" = some (.ref fa))
    (hb : ∀ (kV doc pm : Value) (an : Option Addr) (cdv ct v : Value), bindArgs (PySem.W.fnOf "law" "law" (defArgs st) (defBody st) (defScope st) .none kV doc pm an cdv ct) ⟨[v], []⟩ = pure [(x, v)])
    (ok : ∀ base : Heap, K.In base → base.Ns mainGlobals mg → ∀ fd, Fun K "law" "law" st fa fd → FnG P w K mg base CX k fa fd [x] sp) :
    ∃ fd : FuncData, (∀ (s : Shared) (v : Value), BindsTo s fd ⟨[v], []⟩ [(x, v)]) ∧ ∀ base : Heap, K.In base → base.Ns mainGlobals mg → FnG P w K mg base CX k fa fd [x] sp := by
  obtain ⟨f, oc, od, an, kV, doc, pm, cdv, ct, osl, e, l, c, kp⟩ := L
  have z := hfa.symm.trans (PySem.W.mg_of X G e)
  cases z
  have Fn := fun_mk (st := st) l c kp
  exact ⟨_, fun s v => .of_eq (hb ..), fun base h1 h2 => ok base h1 h2 _ Fn⟩

/-! ### tests whose answer is known -/
theorem iteFb {c : Bool} {A B : Prop} (h : c = false) (b : B) : if c = true then A else B := by rw [h]; exact iteF b
theorem iteTb {c : Bool} {A B : Prop} (h : c = true) (a : A) : if c = true then A else B := by rw [h]; exact iteT a
theorem ite3 {c : Bool} {A B : Prop} (h1 : c = true → A) (h2 : c = false → B) : if c = true then A else B := by
  cases c with
  | true => exact iteT (h1 rfl)
  | false => exact iteF (h2 rfl)

/-! ### constants of the top -/
def HasInt (K : PySem.W.Frag) (x : Str) (n : Int) : Prop := ∃ (t : Tok) (m : Int), PySem.W.nsIn K mainGlobals x = some (some (.int m t)) ∧ m = n
def KTup (K : PySem.W.Frag) (a : Addr) (xs : List V) : Prop := ∃ (od : Option Addr) (its : Array Value) (n : Nat) (sl : Array (Option Value)), K.lookup a = some ⟨.type "tuple", od, .seq its n, sl⟩ ∧ its.size ≤ sizeLine ∧ Vals xs its.toList
def HasTup (K : PySem.W.Frag) (x : Str) (xs : List V) : Prop := ∃ a, PySem.W.nsIn K mainGlobals x = some (some (.ref a)) ∧ KTup K a xs
theorem KTup.sq {K : PySem.W.Frag} {a : Addr} {xs : List V} (h : KTup K a xs) (H : Hp) : SqT K H a xs := by
  obtain ⟨od, its, n, sl, e, z, v⟩ := h
  exact .inr ⟨_, its, n, e, rfl, rfl, z, v⟩
/-- the module's names, as the defs see them -/
def GInt (mg : Str → Option Value) (x : Str) (n : Int) : Prop := ∃ t, mg x = some (.int n t)
def GTup (K : PySem.W.Frag) (mg : Str → Option Value) (x : Str) (xs : List V) : Prop := ∃ a, mg x = some (.ref a) ∧ KTup K a xs
theorem HasInt.g {K : PySem.W.Frag} {mg : Str → Option Value} {h : Heap} {x : Str} {n : Int} (i : HasInt K x n) (X : K.In h) (G : h.Ns mainGlobals mg) : GInt mg x n := by
  obtain ⟨t, m, e, rfl⟩ := i
  exact ⟨t, PySem.W.mg_of X G e⟩
theorem HasTup.g {K : PySem.W.Frag} {mg : Str → Option Value} {h : Heap} {x : Str} {xs : List V} (i : HasTup K x xs) (X : K.In h) (G : h.Ns mainGlobals mg) : GTup K mg x xs := by
  obtain ⟨a, e, k⟩ := i
  exact ⟨a, PySem.W.mg_of X G e, k⟩
section
variable {X : Cx} {x : Str} {pos : Pos}
theorem pe_globI {n : Int} (h : GInt X.mg x n) (hg : Gl X x) (hd : (x == ("__debug__" : Str)) = false := by decide) : PE X (.Name x pos) (tC (.int n)) := by
  obtain ⟨t, e⟩ := h
  exact pe_glob hg e ⟨t, rfl⟩ hd
/-- a tuple of the top: it is read as xs, wherever it stands -/
def tGT (K : PySem.W.Frag) (xs : List V) : TE := fun _ H Q => ∀ a, KTup K a xs → Q (.ref a) H
theorem pe_globT {xs : List V} (h : GTup X.K X.mg x xs) (hg : Gl X x) (hd : (x == ("__debug__" : Str)) = false := by decide) : PE X (.Name x pos) (tGT X.K xs) := by
  obtain ⟨a, e, k⟩ := h
  exact ⟨fun pins s σ H Q I q => (pe_glob (v := .ref a) hg e rfl hd).run pins s σ H Q I (q a k)⟩
end

/-! ### // by any divisor but 0 -/
def CDivX (_ j : Int) : Prop := j ≠ 0 ∧ j.natAbs.log2 < 9000
theorem op_fdivX {X : Cx} : OpR X (binaryOp .FloorDiv) (rI CDivX fun i j => .int (i.fdiv j)) := opI fun _ _ _ _ _ _ _ hc q => floordiv_int hc.1 q (.inl (PyProof.noPylong_of_log2 hc.2))
theorem fdiv_le_pos (i : Int) {j : Int} (hj : 0 < j) : (i.fdiv j).natAbs ≤ i.natAbs + 1 := by
  have e := Int.mul_fdiv_add_fmod i j
  have h0 := Int.fmod_nonneg_of_pos i hj
  have h1 := Int.fmod_lt_of_pos i hj
  have a : (i.fdiv j).natAbs ≤ (j * i.fdiv j).natAbs := by
    rw [Int.natAbs_mul]; exact Nat.le_mul_of_pos_left _ (by omega)
  by_cases hi : 0 ≤ i
  · have : 0 ≤ i.fdiv j := Int.fdiv_nonneg hi (by omega)
    have : 0 ≤ j * i.fdiv j := Int.mul_nonneg (by omega) this
    omega
  · have q : i.fdiv j ≤ -1 := by
      by_cases z : 0 ≤ i.fdiv j
      · have := Int.mul_nonneg (show 0 ≤ j by omega) z
        omega
      · omega
    have r : -1 + i ≤ i.fdiv j := by
      have : i.fdiv j * (j - 1) ≤ (-1) * (j - 1) := Int.mul_le_mul_of_nonneg_right q (by omega)
      have e2 : j * i.fdiv j = i.fdiv j * (j - 1) + i.fdiv j := by rw [Int.mul_sub, Int.mul_one, Int.mul_comm]; omega
      omega
    omega
theorem fdiv_le (i j : Int) : (i.fdiv j).natAbs ≤ i.natAbs + 1 := by
  by_cases h : 0 < j
  · exact fdiv_le_pos i h
  · by_cases h2 : j = 0
    · subst h2; rw [Int.fdiv_zero]; omega
    · have e : i.fdiv j = (-i).fdiv (-j) := by rw [Int.neg_fdiv_neg]
      have := fdiv_le_pos (-i) (show 0 < -j by omega)
      rw [e]; omega

/-! ### how long a shown thing is at most -/
structure Sm (d : PyData) (dp N : Nat) : Prop where
  ok : d.showable = true
  dp : d.depth ≤ dp
  sz : d.shown.length ≤ N
structure SmAll (ds : List PyData) (dp n N : Nat) : Prop where
  ok : PyData.showableAll ds = true
  dp : PyData.depthAll ds ≤ dp
  len : ds.length ≤ n
  sz : ((PyData.shownAll ds).map (·.length)).sum ≤ N
theorem Sm.show {d : PyData} {dp N : Nat} (h : Sm d dp N) (h1 : dp ≤ 60) (h2 : N ≤ sizeLine) : ShowOk d := ⟨h.ok, Nat.le_trans h.dp h1, Nat.le_trans h.sz h2⟩
theorem Sm.mono {d : PyData} {dp N dp' N' : Nat} (h : Sm d dp N) (h1 : dp ≤ dp') (h2 : N ≤ N') : Sm d dp' N' := ⟨h.ok, Nat.le_trans h.dp h1, Nat.le_trans h.sz h2⟩
theorem shownAll_length : ∀ ds : List PyData, (PyData.shownAll ds).length = ds.length
  | [] => rfl
  | d :: ds => by simp [PyData.shownAll, shownAll_length ds]
theorem Sm.int {i : Int} (h : i.natAbs < 2 ^ 1900) : Sm (.int i) 0 2000 := by
  have hl : i.natAbs.log2 < 1900 := PySem.Flt.log2_lt_of (by decide) h
  refine ⟨?_, Nat.le_refl 0, ?_⟩
  · simp only [PyData.showable, decide_eq_true_eq]; omega
  · have e := int_text_length_le (k := 1900) (by decide) hl
    show (Str.ofString (toString i)).length ≤ 2000
    rw [PySem.ofString_length]; omega
theorem Sm.bool (b : Bool) : Sm (.bool b) 0 10 := ⟨rfl, Nat.le_refl 0, by cases b <;> decide +kernel⟩
theorem Sm.none : Sm .none 0 10 := ⟨rfl, Nat.le_refl 0, by decide +kernel⟩
theorem Sm.str {x : Str} {n : Nat} (h : x.length ≤ n) (hc : ∀ c ∈ x.cps.toList, c < 16 ^ 8) : Sm (.str x) 0 (10 * n + 2) := ⟨rfl, Nat.le_refl 0, by
  have e := PySem.StrLaws.reprText_len x hc
  show (reprText x).length ≤ _
  omega⟩
theorem SmAll.nil : SmAll [] 0 0 0 := ⟨rfl, Nat.le_refl 0, Nat.le_refl 0, Nat.le_refl 0⟩
theorem SmAll.cons {d : PyData} {ds : List PyData} {dp dp' n N M : Nat} (h : Sm d dp N) (t : SmAll ds dp' n M) : SmAll (d :: ds) (max dp dp') (n + 1) (N + M) := by
  have h1 := h.dp
  have h2 := t.dp
  refine ⟨by simp [PyData.showableAll, h.ok, t.ok], ?_, by have := t.len; simp; omega, ?_⟩
  · simp only [PyData.depthAll]; omega
  · have := h.sz
    have := t.sz
    simp only [PyData.shownAll, List.map_cons, List.sum_cons]; omega
theorem Sm.tup {ds : List PyData} {dp n N : Nat} (h : SmAll ds dp n N) : Sm (.tuple ds) (dp + 1) (N + 2 * n + 3) := by
  refine ⟨by simpa [PyData.showable] using h.ok, by simp only [PyData.depth]; have := h.dp; omega, ?_⟩
  have e := tupleText_len_le (PyData.shownAll ds)
  have := h.sz
  have := h.len
  rw [shownAll_length] at e
  show (tupleText (PyData.shownAll ds)).length ≤ _
  omega
theorem Sm.lst {ds : List PyData} {dp n N : Nat} (h : SmAll ds dp n N) : Sm (.list ds) (dp + 1) (N + 2 * n + 3) := by
  refine ⟨by simpa [PyData.showable] using h.ok, by simp only [PyData.depth]; have := h.dp; omega, ?_⟩
  have e := listText_len_le (PyData.shownAll ds)
  have := h.sz
  have := h.len
  rw [shownAll_length] at e
  show (listText (PyData.shownAll ds)).length ≤ _
  omega
theorem SmAll.many {dp N : Nat} : ∀ {ds : List PyData}, (∀ d ∈ ds, Sm d dp N) → SmAll ds dp ds.length (N * ds.length)
  | [], _ => ⟨rfl, Nat.zero_le _, Nat.le_refl 0, Nat.zero_le _⟩
  | d :: ds, h => by
    have t := SmAll.cons (h d (by simp)) (SmAll.many (fun e he => h e (List.mem_cons_of_mem _ he)))
    rw [Nat.max_self] at t
    refine ⟨t.ok, t.dp, t.len, Nat.le_trans t.sz ?_⟩
    rw [List.length_cons, Nat.mul_succ]; omega
theorem sz_0 : (0 : Nat) ≤ sizeLine := by decide
theorem sz_1 : (1 : Nat) ≤ sizeLine := by decide
theorem sz_2 : (2 : Nat) ≤ sizeLine := by decide
theorem sz_3 : (3 : Nat) ≤ sizeLine := by decide
theorem sz_4 : (4 : Nat) ≤ sizeLine := by decide
theorem sz_5 : (5 : Nat) ≤ sizeLine := by decide
/-! ### the ends: each premise a fact that k_is finds -/
theorem HasFn.mk' {K : PySem.W.Frag} {x : Str} {st : Stmt} {f : Addr} {oc : Value} {od an : Option Addr} {kV doc pm cdv ct : Value} {osl : Array (Option Value)} (a : PySem.W.nsIn K mainGlobals x = some (some (.ref f)))
    (b : K.lookup f = some ⟨oc, od, .func (PySem.W.fnOf x x (defArgs st) (defBody st) (defScope st) .none kV doc pm an cdv ct), osl⟩) (c : PySem.W.codeIn K cdv x = true) (d : PySem.W.keepIn K (.ref f) = true) : HasFn K x st :=
  ⟨f, oc, od, an, kV, doc, pm, cdv, ct, osl, a, b, c, d⟩
theorem HasInt.mk' {K : PySem.W.Frag} {x : Str} {n m : Int} {t : Tok} (a : PySem.W.nsIn K mainGlobals x = some (some (.int m t))) (e : m = n) : HasInt K x n := ⟨t, m, a, e⟩
theorem HasTup.mk' {K : PySem.W.Frag} {x : Str} {xs : List V} {a : Addr} {od : Option Addr} {its : Array Value} {n : Nat} {sl : Array (Option Value)} (h : PySem.W.nsIn K mainGlobals x = some (some (.ref a)))
    (b : K.lookup a = some ⟨.type "tuple", od, .seq its n, sl⟩) (z : its.size ≤ sizeLine) (v : Vals xs its.toList) : HasTup K x xs := ⟨a, h, od, its, n, sl, b, z, v⟩
/-! ### what the laws' helpers promise -/
/-! the digits and the place -/
def BoxAt (H : Hp) (p dl : Addr) : Prop := ∃ (ds : List Int) (k : Int), H p = some (.lst [.ref dl, .int k]) ∧ 0 ≤ k ∧ H dl = some (.lst (ds.map V.int)) ∧ ds.length ≤ 4000 ∧ ∀ d ∈ ds, 0 ≤ d ∧ d < 1000
theorem BoxAt.at_ {H : Hp} {p dl : Addr} (h : BoxAt H p dl) : ∃ xs, H p = some (.lst xs) := let ⟨_, _, a, _⟩ := h; ⟨_, a⟩
theorem BoxAt.dg {H : Hp} {p dl : Addr} (h : BoxAt H p dl) : ∃ xs, H dl = some (.lst xs) := let ⟨_, _, _, _, c, _⟩ := h; ⟨_, c⟩
def Keep (p : Addr) (H H' : Hp) : Prop := ∀ b o, H b = some o → b ≠ p → H' b = some o
def spDraw (K : PySem.W.Frag) : Sp := fun vs H Q _ => ∃ (p dl : Addr) (m : Int), vs = [.ref p, .int m] ∧ BoxAt H p dl ∧ 0 < m ∧ ∀ r H', 0 ≤ r → r < m → BoxAt H' p dl → Keep p H H' → Q (.int r) H'
def spCell (K : PySem.W.Frag) : Sp := fun vs H Q _ => ∃ (a : Addr) (ns : List Int) (i : Int), vs = [.ref a, .int i] ∧ SqL K H a (ns.map V.int) ∧ 0 ≤ i ∧ ∀ r, Q (.int r) H
def DigAt (H0 H : Hp) (dl : Addr) (n : Nat) : Prop := ∃ ds : List Int, H dl = some (.lst (ds.map V.int)) ∧ ds.length ≤ n ∧ (∀ d ∈ ds, 0 ≤ d ∧ d < 1000) ∧ Same H0 H
theorem DigAt.mono {H0 H : Hp} {dl : Addr} {n m : Nat} (h : DigAt H0 H dl n) (l : n ≤ m) : DigAt H0 H dl m := let ⟨ds, a, b, c, d⟩ := h; ⟨ds, a, by omega, c, d⟩
theorem DigAt.add {H0 H : Hp} {dl : Addr} {n : Nat} {r : Int} {xs : List V} (h : DigAt H0 H dl n) (hx : H dl = some (.lst xs)) (nd : H0 dl = none) (h0 : 0 ≤ r) (h1 : r < 1000) : DigAt H0 (upd H dl (.lst (xs ++ [.int r]))) dl (n + 1) := by
  obtain ⟨ds, a, b, c, d⟩ := h
  rw [hx] at a
  obtain rfl := HO.lst.inj (Option.some.inj a)
  refine ⟨ds ++ [r], by rw [upd_same, List.map_append]; rfl, by simp; omega, fun z hz => ?_, fun q o e => by rw [upd_ne (ne_of_none e nd)]; exact d q o e⟩
  rcases List.mem_append.mp hz with hz | hz
  · exact c z hz
  · have : z = r := by simpa using hz
    omega
def spDigits (K : PySem.W.Frag) : Sp := fun vs H Q _ => ∃ (a : Addr) (ns : List Int) (lo hi : Nat), vs = [.ref a, .int lo, .int hi] ∧ SqL K H a (ns.map V.int) ∧ lo ≤ hi ∧ hi ≤ 64 ∧
  ∀ (p : Addr) (H' : Hp), H p = none → DigAt H H' p 4000 → Q (.ref p) H'
def spBound : Sp := fun vs H Q _ => vs = [] ∧ Q (.int (2 ^ 256)) H
theorem Keep.trans {p : Addr} {H H1 H2 : Hp} (a : Keep p H H1) (b : Keep p H1 H2) : Keep p H H2 := fun c o h ne => b c o (a c o h ne) ne
theorem Keep.refl (p : Addr) (H : Hp) : Keep p H H := fun _ _ h _ => h
def Sgn (z : Int) : Prop := z = 1 ∨ z = -1
theorem Sgn.mul {z n : Int} (h : Sgn z) : (z * n).natAbs = n.natAbs := by
  rcases h with rfl | rfl <;> omega
theorem Sgn.wide {z n : Int} (h : Sgn z) (hn : n.natAbs < 2 ^ 300) : CMulW z n := wide_mul (a := 2) (b := 300) (by rcases h with rfl | rfl <;> decide) hn (by decide) (by decide) (by decide)
def spNumber (K : PySem.W.Frag) : Sp := fun vs H Q _ => ∃ (p dl : Addr), vs = [.ref p] ∧ BoxAt H p dl ∧ ∀ (n : Int) H', n.natAbs < 2 ^ 260 → BoxAt H' p dl → Keep p H H' → Q (.int n) H'
def spSame (K : PySem.W.Frag) : Sp := fun vs H Q _ => ∃ (x y : V) (d : PyData), vs = [x, y] ∧ Dp K H x d ∧ Dp K H y d ∧ ShowOk d ∧ Q (.bl true) H
theorem Same.keep {p : Addr} {H H' : Hp} (e : Same H H') : Keep p H H' := fun b o h _ => e b o h
theorem BoxAt.same {p dl : Addr} {H H' : Hp} (h : BoxAt H p dl) (e : Same H H') : BoxAt H' p dl := by
  obtain ⟨ds, k, a, b, c, d⟩ := h
  exact ⟨ds, k, e _ _ a, b, e _ _ c, d⟩
theorem BoxAt.upd {p dl l : Addr} {H : Hp} {o : HO} (h : BoxAt H p dl) (h1 : l ≠ p) (h2 : l ≠ dl) : BoxAt (L2.upd H l o) p dl := by
  obtain ⟨ds, k, a, b, c, d⟩ := h
  exact ⟨ds, k, by rw [upd_ne (Ne.symm h1)]; exact a, b, by rw [upd_ne (Ne.symm h2)]; exact c, d⟩
theorem strOk (s : Str) (h : s.cps.toList.all (fun c => decide (c < 16 ^ 8)) = true) : ∀ c ∈ s.cps.toList, c < 16 ^ 8 := fun c hc => of_decide_eq_true (List.all_eq_true.mp h c hc)

/-! ### data without lists: what no change of a list can reach -/
mutual
inductive Dt (K : PySem.W.Frag) (H : Hp) : V → PyData → Prop
  | non : Dt K H .non .none
  | bl (b : Bool) : Dt K H (.bl b) (.bool b)
  | int (i : Int) : Dt K H (.int i) (.int i)
  | str (x : Str) : Dt K H (.str x) (.str x)
  | tup {a : Addr} {xs : List V} {ds : List PyData} : SqT K H a xs → DtAll K H xs ds → Dt K H (.ref a) (.tuple ds)
inductive DtAll (K : PySem.W.Frag) (H : Hp) : List V → List PyData → Prop
  | nil : DtAll K H [] []
  | cons {v : V} {vs : List V} {d : PyData} {ds : List PyData} : Dt K H v d → DtAll K H vs ds → DtAll K H (v :: vs) (d :: ds)
end
mutual
theorem Dt.dp {K : PySem.W.Frag} {H : Hp} : ∀ {v : V} {d : PyData}, Dt K H v d → Dp K H v d
  | _, _, .non => .non
  | _, _, .bl b => .bl b
  | _, _, .int i => .int i
  | _, _, .str x => .str x
  | _, _, .tup h a => .tup h (DtAll.dp a)
theorem DtAll.dp {K : PySem.W.Frag} {H : Hp} : ∀ {vs : List V} {ds : List PyData}, DtAll K H vs ds → DpAll K H vs ds
  | _, _, .nil => .nil
  | _, _, .cons h a => .cons (Dt.dp h) (DtAll.dp a)
end
/-- every tuple that H reads H' reads as well -/
def KeepT (K : PySem.W.Frag) (H H' : Hp) : Prop := ∀ a xs, SqT K H a xs → SqT K H' a xs
mutual
theorem Dt.keepT {K : PySem.W.Frag} {H H' : Hp} (e : KeepT K H H') : ∀ {v : V} {d : PyData}, Dt K H v d → Dt K H' v d
  | _, _, .non => .non
  | _, _, .bl b => .bl b
  | _, _, .int i => .int i
  | _, _, .str x => .str x
  | _, _, .tup h a => .tup (e _ _ h) (DtAll.keepT e a)
theorem DtAll.keepT {K : PySem.W.Frag} {H H' : Hp} (e : KeepT K H H') : ∀ {vs : List V} {ds : List PyData}, DtAll K H vs ds → DtAll K H' vs ds
  | _, _, .nil => .nil
  | _, _, .cons h a => .cons (Dt.keepT e h) (DtAll.keepT e a)
end
theorem KeepT.refl (K : PySem.W.Frag) (H : Hp) : KeepT K H H := fun _ _ h => h
theorem KeepT.trans {K : PySem.W.Frag} {H H1 H2 : Hp} (a : KeepT K H H1) (b : KeepT K H1 H2) : KeepT K H H2 := fun c xs h => b c xs (a c xs h)
theorem Same.keepT {K : PySem.W.Frag} {H H' : Hp} (e : Same H H') : KeepT K H H' := fun _ _ h => Same.tupl e h
theorem Keep.keepT {K : PySem.W.Frag} {p : Addr} {H H' : Hp} (e : Keep p H H') (hp : ∃ xs, H p = some (.lst xs)) : KeepT K H H' := fun a xs h => by
  obtain ⟨ys, hp⟩ := hp
  rcases h with (h | ⟨o, h⟩) | h
  · exact .inl (.inl (e _ _ h (ne_of h hp (by intro z; cases z))))
  · exact .inl (.inr ⟨o, e _ _ h (ne_of h hp (by intro z; cases z))⟩)
  · exact .inr h
theorem KeepT.upd {K : PySem.W.Frag} {p : Addr} {H : Hp} {o : HO} {xs : List V} (hp : H p = some (.lst xs)) : KeepT K H (upd H p o) :=
  Keep.keepT (p := p) (fun b u e hb => by rw [upd_ne hb]; exact e) ⟨xs, hp⟩
theorem Dt.mono {K : PySem.W.Frag} {H H' : Hp} {v : V} {d : PyData} (e : Same H H') (h : Dt K H v d) : Dt K H' v d := h.keepT (Same.keepT e)
theorem DtAll.mono {K : PySem.W.Frag} {H H' : Hp} {v : List V} {d : List PyData} (e : Same H H') (h : DtAll K H v d) : DtAll K H' v d := h.keepT (Same.keepT e)
theorem Dt.made {K : PySem.W.Frag} {H : Hp} {p : Addr} {xs : List V} {ds : List PyData} (hp : H p = none) (h : DtAll K H xs ds) : Dt K (L2.upd H p (.tup xs)) (.ref p) (.tuple ds) := .tup (SqT.of upd_same) (DtAll.mono (Same.new hp) h)
theorem DtAll.length {K : PySem.W.Frag} {H : Hp} {vs : List V} {ds : List PyData} (h : DtAll K H vs ds) : vs.length = ds.length := LK.DpAll.length h.dp
theorem DtAll.app {K : PySem.W.Frag} {H : Hp} : ∀ {vs ws : List V} {ds es : List PyData}, DtAll K H vs ds → DtAll K H ws es → DtAll K H (vs ++ ws) (ds ++ es)
  | _, _, _, _, .nil, t => t
  | _, _, _, _, .cons h a, t => .cons h (DtAll.app a t)
theorem DtAll.get {K : PySem.W.Frag} {H : Hp} : ∀ {vs : List V} {ds : List PyData} {i : Nat} {d : PyData}, DtAll K H vs ds → ds[i]? = some d → ∃ v, vs[i]? = some v ∧ Dt K H v d
  | _, _, 0, _, .cons h _, e => ⟨_, rfl, Option.some.inj e ▸ h⟩
  | _, _, i + 1, _, .cons _ a, e => DtAll.get (i := i) a e
theorem DtAll.getV {K : PySem.W.Frag} {H : Hp} : ∀ {vs : List V} {ds : List PyData} {i : Nat} {v : V}, DtAll K H vs ds → vs[i]? = some v → ∃ d, ds[i]? = some d ∧ Dt K H v d
  | _, _, 0, _, .cons h _, e => ⟨_, rfl, Option.some.inj e ▸ h⟩
  | _, _, i + 1, _, .cons _ a, e => DtAll.getV (i := i) a e
theorem Dt.tuple_inv {K : PySem.W.Frag} {H : Hp} {v : V} {ds : List PyData} (h : Dt K H v (.tuple ds)) : ∃ a xs, v = .ref a ∧ SqT K H a xs ∧ DtAll K H xs ds := by
  cases h with
  | tup h a => exact ⟨_, _, rfl, h, a⟩
theorem DtAll.cons_inv {K : PySem.W.Frag} {H : Hp} {vs : List V} {d : PyData} {ds : List PyData} (h : DtAll K H vs (d :: ds)) : ∃ v ws, vs = v :: ws ∧ Dt K H v d ∧ DtAll K H ws ds := by
  cases h with
  | cons h a => exact ⟨_, _, rfl, h, a⟩
theorem DtAll.nil_inv {K : PySem.W.Frag} {H : Hp} {vs : List V} (h : DtAll K H vs []) : vs = [] := by cases h; rfl
theorem Dt.int_inv {K : PySem.W.Frag} {H : Hp} {v : V} {i : Int} (h : Dt K H v (.int i)) : v = .int i := by cases h; rfl
theorem Dt.str_inv {K : PySem.W.Frag} {H : Hp} {v : V} {x : Str} (h : Dt K H v (.str x)) : v = .str x := by cases h; rfl
theorem Dt.bool_inv {K : PySem.W.Frag} {H : Hp} {v : V} {b : Bool} (h : Dt K H v (.bool b)) : v = .bl b := by cases h; rfl
theorem dtStrs {K : PySem.W.Frag} {H : Hp} : ∀ xs : List Str, DtAll K H (xs.map V.str) (xs.map PyData.str)
  | [] => .nil
  | x :: xs => .cons (.str x) (dtStrs xs)
end LK

set_option Elab.async false
set_option linter.all false
set_option maxRecDepth 100000
set_option maxHeartbeats 4000000
/-! enumerate of a tuple. -/
namespace LK
open PySem PySem.Spec PyProof.Rows L2
open AutoSeq1 (wpAny_loadPart')
open Sem (wp)
def enumObj (it : Addr) : Obj := { cls := .type "enumerate", data := .fields #[.none, .bool false, .ref it, rawInt 0, .none, .none] }
def tupIt (t : Addr) : Obj := { cls := .type "tuple_iterator", data := .fields #[.ref t, .int 0 0] }
theorem meets_enumT (t : Addr) (items : Array Value) (n : Nat) (dct : Option Addr) (sl : Array (Option Value)) :
    Meets (Builtin.«enumerate.__new__» ⟨[.type "enumerate", .ref t], []⟩) (fun _ R s => s.heap.get? t = some { cls := .type "tuple", dict := dct, data := .seq items n, slots := sl } ∧
      R (.ok (.ret (.ref (s.heap.push (tupIt t)).objs.size))) { s with heap := (s.heap.push (tupIt t)).push (enumObj s.heap.objs.size) }) :=
  .of_wp fun prog w A R s h => by
    obtain ⟨hp, g, d, tk, os⟩ := s
    obtain ⟨hl, h⟩ := h
    have hsub := sub_enumerate
    have hT : Heap.IsTuple (Shared.heap ⟨hp, g, d, tk, os⟩) t items := ⟨_, hl, rfl, n, rfl⟩
    wp_walk using wpAny_loadPart' hl
    refine wpAny_stack_any fun st => wpAny_pure ?_
    split
    · rename_i c _ _ _ _ _
      cases (c == Value.type "enumerate") <;> (wp_walk using wpAny_loadPart' hl, wpAny_pyIter_tuple hT; exact ⟨_, rfl, h⟩)
    · wp_walk using wpAny_loadPart' hl, wpAny_pyIter_tuple hT
      exact ⟨_, rfl, h⟩
section
variable {prog : Program} {w : World} {A : Around} {E : Value → Shared → Prop} {s : Shared}
theorem call_enumT {t : Addr} {items : Array Value} {Q : Value → Shared → Prop} (hT : s.heap.IsTuple t items)
    (h : ∀ h', IsEnum h' (s.heap.objs.size + 1) s.heap.objs.size 0 .none → h'.IsTupleIter s.heap.objs.size t 0 → (∀ b o, s.heap.get? b = some o → h'.get? b = some o) → Q (.ref (s.heap.objs.size + 1)) { s with heap := h' }) :
    wpAny (model prog w) A (call (.type "enumerate") [.ref t]) Q E s := by
  obtain ⟨⟨c, dct, dt, sl⟩, hl, hc, n, hd⟩ := hT
  obtain rfl : c = .type "tuple" := hc
  obtain rfl : dt = .seq items n := hd
  refine callType_new F.called_enumerate (by decide) (F.typeCall_enumerate_1 _) (F.newCall_enumerate_1 _) (fun obj => F.args_object_init_2 obj _) F.entry_enumerate_new (meets_enumT t items n dct sl) ⟨hl, ?_⟩
  have hz : (s.heap.push (tupIt t)).objs.size = s.heap.objs.size + 1 := Heap.size_push ..
  have he : IsEnum ((s.heap.push (tupIt t)).push (enumObj s.heap.objs.size)) (s.heap.objs.size + 1) s.heap.objs.size 0 .none := by
    have q := Heap.get?_push_size (s.heap.push (tupIt t)) (o := enumObj s.heap.objs.size) rfl
    rw [hz] at q
    exact q
  show _ ∧ _
  rw [hz]
  exact ⟨⟨_, he, rfl⟩, h _ he (Heap.get?_push_of_some _ (Heap.get?_push_size _ rfl) |> fun q => ⟨_, q, rfl, rfl⟩) fun b o x => Heap.get?_push_of_some _ (Heap.get?_push_of_some _ x)⟩
end
/-- the tuple at a, each item in a new pair with its place -/
def IteT (K : PySem.W.Frag) (a : Addr) : It where
  go := fun i H => ∃ (xs : List V) (x : V), SqT K H a xs ∧ xs[i]? = some x
  yld := fun i H v H' => ∃ T x, v = .ref T ∧ H T = none ∧ H' = upd H T (.tup [.int (i : Nat), x]) ∧ ∀ xs, SqT K H a xs → xs[i]? = some x
  stop := fun i H => ∃ xs : List V, SqT K H a xs ∧ xs.length = i
theorem turn_enumT {P : Program} {w : World} {K : PySem.W.Frag} {elts : List Expr} {kk : Nat} {tpos : Pos} (a e it : Addr) :
    Turn P w K (.Tuple elts kk tpos) (IteT K a) [e, it] e (fun i h => (∃ old, IsEnum h e it ((i : Nat) : Int) old) ∧ h.IsTupleIter it a i ∧ e ≠ it) where
  mem := List.mem_cons_self
  obj := fun i h st b hb => by
    obtain ⟨⟨old, he⟩, ⟨o, ho, hc, hd⟩, _⟩ := st
    have hb : b = e ∨ b = it := by simpa using hb
    rcases hb with rfl | rfl
    · exact ⟨_, he, fun v q => nomatch q⟩
    · exact ⟨o, ho, fun v q => by rw [hd] at q; cases q⟩
  keep := fun i h h' st k => by
    obtain ⟨⟨old, he⟩, hi, hne⟩ := st
    exact ⟨⟨old, k e (by simp) _ he⟩, hi.at fun o q => k it (by simp) o q, hne⟩
  item := by
    intro X hP hw hK hc i pins s σ H E I hf st hg
    subst hP hw hK
    obtain ⟨⟨old, he⟩, hit, hne⟩ := st
    obtain ⟨xs, x, hq, hx⟩ := hg
    obtain ⟨its, rv, p, hz⟩ := I.tuple hq
    obtain ⟨u, hu, ru⟩ := rv.get hx
    have hel : e < s.heap.objs.size := Heap.lt_size he
    have hil : it < s.heap.objs.size := by obtain ⟨_, q, _⟩ := hit; exact Heap.lt_size q
    have hat : a ≠ it := by
      intro z
      subst z
      obtain ⟨o, q1, c1, _⟩ := hit
      obtain ⟨o', q2, c2, _⟩ := p
      rw [q1] at q2; cases q2
      exact absurd (Value.type.inj (c1.symm.trans c2)) (by decide)
    have D := Draws.tuple (prog := X.prog) (w := X.w) (A := X.A.in1) (I.ok.hd hc) it a hat its.toArray
    have Dst : (fun i (h : Heap) => h.IsTupleIter it a i ∧ h.IsTuple a its.toArray) i s.heap := ⟨hit, p⟩
    have eat : e ≠ a := by
      intro z
      subst z
      obtain ⟨o', q2, c2, _⟩ := p
      rw [he] at q2; cases q2
      exact absurd (Value.type.inj c2) (by decide)
    have hi : i < its.toArray.size := by
      have := (List.getElem?_eq_some_iff.mp hu).1
      simpa using this
    refine wpAny_pyNext_enum_itemD D he Dst hi hne (by simp [hne, eat]) fun v h' tk hv ho hst hT hsz hk => ?_
    obtain rfl : v = u := by
      have hv : its.toArray[i]? = some v := hv
      rw [show its.toArray[i]? = some u by simpa using hu] at hv
      exact (Option.some.inj hv).symm
    refine ⟨_, rfl, wpAny_letOwnedTupleGo_enum (s := { s with heap := h', toks := tk + 1 }) ho fun h'' he' sb => ?_⟩
    have hT2 := (sb.2 _ (Nat.ne_of_gt hel)).trans hT
    have new : ObjOk X.prog X.w (upd H s.heap.objs.size (.tup [.int (i : Nat), x])) h'' s.heap.objs.size (.tup [.int (i : Nat), x]) :=
      ⟨by show 2 ≤ sizeLine; decide, [.int i tk, v], .cons ⟨_, rfl⟩ (.cons ru .nil), ⟨_, hT2, rfl, _, rfl⟩⟩
    have I1 : Inv X pins σ (upd H s.heap.objs.size (.tup [.int (i : Nat), x])) { s with heap := h'', toks := tk + 1 } :=
      I.turnedNew (ch := [e, it]) (fun b ob hb q => (sb.2 b (fun z => hb (by simp [z]))).trans (hk b ob (fun z => hb (by simp [z])) (fun z => hb (by simp [z])) q)) hf (Nat.le_refl _) new
    refine ⟨.ref s.heap.objs.size, _, I1, rfl, ⟨_, x, rfl, I.hok.fresh (Nat.le_refl _), rfl, fun ys hy => by rw [I.tuple_inj hy hq]; exact hx⟩, ⟨⟨v, ?_⟩, hst.1.at fun o q => (sb.2 it (Ne.symm hne)).trans q, hne⟩, fun b hb => ?_⟩
    · rw [show ((i + 1 : Nat) : Int) = (i : Int) + 1 by omega]
      exact he'
    · have hb' : b < s.heap.objs.size := by
        have z : b = e ∨ b = it := by simpa using hb
        rcases z with rfl | rfl <;> assumption
      rw [upd_ne (Nat.ne_of_lt hb')]
      exact (hf b hb).1
  done := by
    intro X hP hw hK hc i pins s σ H E I hf st hg
    subst hP hw hK
    obtain ⟨⟨old, he⟩, hit, hne⟩ := st
    obtain ⟨xs, hq, hx⟩ := hg
    obtain ⟨its, rv, p, hz⟩ := I.tuple hq
    obtain ⟨f0, f1, f2, f3, f4, f5⟩ := hf it (by simp)
    have hl := rv.length
    have hat : a ≠ it := by
      intro z
      subst z
      obtain ⟨o, q1, c1, _⟩ := hit
      obtain ⟨o', q2, c2, _⟩ := p
      rw [q1] at q2; cases q2
      exact absurd (Value.type.inj (c1.symm.trans c2)) (by decide)
    have D := Draws.tuple (prog := X.prog) (w := X.w) (A := X.A.in1) (I.ok.hd hc) it a hat its.toArray
    have hn : i = its.toArray.size := by simp; omega
    subst hn
    exact wpAny_pyNext_enum_endD D he ⟨hit, p⟩ fun h' eb => ⟨rfl, I.turned (t' := s.toks) (fun b o hb q => eb b o hb q) f0 f1 f3 f4 f5⟩
  self := fun A i s Q E st h => let ⟨⟨_, he⟩, _⟩ := st; wpAny_pyIter_enum he h
def iEnumT (K : PySem.W.Frag) (ta : TA) : TI := fun σ H R => ta σ H fun vs H1 => ∃ a xs, vs = [.ref a] ∧ SqT K H1 a xs ∧ R (IteT K a) H1
theorem pi_enumT {X : Cx} {e : Expr} {ta : TA} {p pos tpos : Pos} {elts : List Expr} {kk : Nat} (hg : Gl X "enumerate") (hm : X.mg "enumerate" = none) (ha : PA X [e] ta) (hs : starEach [e] X.env = [(false, eval e X.env)] := by rfl) :
    PI X (.Tuple elts kk tpos) (.Call (.Name "enumerate" p) [e] [] pos) (iEnumT X.K ta) := by
  refine ⟨fun pins s σ H R I h => ?_⟩
  refine Call_ (ld_blt I hg hm boot_enumerate (PyProof.Rows.callWith_type1 (thn (ha.run pos pins s σ H _ I h) fun us s1 ⟨vs, H1, I1, r1, q1⟩ => ?_) hs rfl))
  obtain ⟨a, xs, rfl, hq, q⟩ := q1
  cases r1 with
  | cons r rr =>
    cases rr
    cases r
    obtain ⟨its, rv, p', hz⟩ := I1.tuple hq
    refine call_enumT (show s1.heap.IsTuple a its.toArray from p') fun h' he hit hk => wpAny_pyIter_enum he ?_
    refine ⟨s1.heap.objs.size + 1, [s1.heap.objs.size + 1, s1.heap.objs.size], _, _, H1, rfl, I1.kept (t' := s1.toks) hk, turn_enumT a (s1.heap.objs.size + 1) s1.heap.objs.size, ⟨⟨.none, he⟩, hit, Nat.succ_ne_self _⟩, fun b hb => ?_, q⟩
    have hle : s1.heap.objs.size ≤ b := by
      have z : b = s1.heap.objs.size + 1 ∨ b = s1.heap.objs.size := by simpa using hb
      rcases z with rfl | rfl <;> omega
    exact I1.fpOk hle (I1.hok.fresh hle)
theorem walk_enumT {K : PySem.W.Frag} {a : Addr} {xs : List V} : Walk (IteT K a) xs.length (fun H => SqT K H a xs) (YPair (fun i => some (.int (i : Nat))) (fun i => xs[i]?)) := by
  refine ⟨fun i _ hi q => ⟨xs, xs[i], q, by simp [hi]⟩, fun _ q => ⟨xs, q, rfl⟩, fun i H v H' _ q y => ?_⟩
  obtain ⟨T, x, h1, h2, h3, h4⟩ := y
  exact ⟨T, .int (i : Nat), x, h1, h2, h3, rfl, h4 xs q⟩

/-! ### comprehensions whose items are data -/
theorem tYes_of {σ : L2.St} {H : Hp} {P R : Hp → Prop} (h : P H) : tYes σ H fun b H3 => if b = true then P H3 else R H3 := by
  show (if true = true then P H else R H)
  rw [if_pos rfl]
  exact h
/-- each turn gives data and leaves what stood; no test -/
theorem lc_dt {K : PySem.W.Frag} {J : It} {n : Nat} {G : Hp → Prop} {Y : Nat → Hp → V → Hp → Prop} (w : Walk J n G Y) {g : TG} {te : TE} {vs : List Nat} {σ : L2.St} {H : Hp} {D : Addr} {Qd : Hp → Prop} (hD : H D = none) (ds : List PyData) (hn : ds.length = n) (hz : n < sizeLine)
    (hG : ∀ H', Same H H' → G H')
    (hs : ∀ i x H1 H2 d (Nx : V → Hp → Prop), i < n → ds[i]? = some d → Same H H1 → (∃ acc, H1 D = some (.lst acc)) → Y i H1 x H2 → (∀ y H5, Same H1 H5 → Dt K H5 y d → Nx y H5) →
      g x (wipe σ vs) H2 fun σ2 H3 => wipe σ2 vs = wipe σ vs ∧ te σ2 H3 Nx)
    (hd : ∀ H' acc, Same H H' → H' D = some (.lst acc) → DtAll K H' acc ds → Qd H')
    (mono : ∀ x σ H Q Q', (∀ σ' H', Q σ' H' → Q' σ' H') → g x σ H Q → g x σ H Q') :
    ∃ W : Nat → Nat → Hp → Prop, (∃ m, W 0 m (upd H D (.lst []))) ∧ ∀ i m H, W i m H →
      (J.stop i H ∧ Qd H) ∨ (J.go i H ∧ ∃ Nx : Hp → Prop, (∀ H', Nx H' → ∃ m', m' < m ∧ W (i + 1) m' H') ∧ ∀ x H', J.yld i H x H' → g x (wipe σ vs) H' fun σ2 H2 => wipe σ2 vs = wipe σ vs ∧ tYes σ2 H2 fun b H3 =>
        if b = true then te σ2 H3 fun y H4 => ∃ acc, H4 D = some (.lst acc) ∧ acc.length < sizeLine ∧ Nx (upd H4 D (.lst (acc ++ [y]))) else Nx H3) := by
  refine lc_it w (fun i H' => ∃ acc, H' D = some (.lst acc) ∧ DtAll K H' acc (ds.take i) ∧ Same H H') ⟨[], upd_same, .nil, Same.new hD⟩ (fun i H' _ h => let ⟨_, _, _, s⟩ := h; hG H' s) (fun i x H1 H2 hi h y => ?_) fun H' h => ?_
  · obtain ⟨acc, a1, a2, a3⟩ := h
    have hi' : i < ds.length := by omega
    have hg := hs i x H1 H2 ds[i] (fun y H4 => ∃ acc, H4 D = some (.lst acc) ∧ acc.length < sizeLine ∧ ∃ acc', upd H4 D (.lst (acc ++ [y])) D = some (.lst acc') ∧ DtAll K (upd H4 D (.lst (acc ++ [y]))) acc' (ds.take (i + 1)) ∧ Same H (upd H4 D (.lst (acc ++ [y]))))
      hi (List.getElem?_eq_getElem hi') a3 ⟨acc, a1⟩ y fun y H5 s hy => ?_
    · exact mono _ _ _ _ _ (fun σ2 H3 q => ⟨q.1, tYes_of q.2⟩) hg
    · have b1 := s _ _ a1
      have kt : KeepT K H5 (upd H5 D (.lst (acc ++ [y]))) := KeepT.upd b1
      refine ⟨acc, b1, ?_, _, upd_same, ?_, fun b o e => ?_⟩
      · rw [a2.length, List.length_take]; omega
      · rw [List.take_succ, List.getElem?_eq_getElem hi']
        exact DtAll.app (DtAll.keepT (KeepT.trans (Same.keepT s) kt) a2) (.cons (Dt.keepT kt hy) .nil)
      · rw [upd_ne (ne_of_none e hD)]
        exact s _ _ (a3 _ _ e)
  · obtain ⟨acc, a1, a2, a3⟩ := h
    rw [← hn, List.take_length] at a2
    exact hd H' acc a3 a1 a2
theorem mono_name {i : Nat} : ∀ x (σ : L2.St) (H : Hp) (Q Q' : L2.St → Hp → Prop), (∀ σ' H', Q σ' H' → Q' σ' H') → gName i x σ H Q → gName i x σ H Q' := fun _ _ _ _ _ h q => h _ _ q
theorem mono_tup2 {K : PySem.W.Frag} {i j n : Nat} : ∀ x (σ : L2.St) (H : Hp) (Q Q' : L2.St → Hp → Prop), (∀ σ' H', Q σ' H' → Q' σ' H') → gTup K n (gCons (gName i) (gCons (gName j) gNil)) x σ H Q → gTup K n (gCons (gName i) (gCons (gName j) gNil)) x σ H Q' := by
  rintro x σ H Q Q' h ⟨a, xs, e1, e2, e3, v, r, e4, v', r', e5, e6, q⟩
  exact ⟨a, xs, e1, e2, e3, v, r, e4, v', r', e5, e6, h _ _ q⟩
end LK

set_option Elab.async false
set_option linter.all false
set_option maxRecDepth 100000
set_option maxHeartbeats 4000000
set_option exponentiation.threshold 3000
/-! More rules: text * int, two rules at one place, what == says of data. -/
namespace LK
open PySem PySem.Spec PyProof.Rows L2
theorem at_of' {α : Type} {xs : List α} {z : Int} {j : Nat} {v : α} (e : z = (j : Int)) (h : xs[j]? = some v) : atI xs z = some v := by
  rw [e]
  exact atI_nat h
/-- z repeated k times, by its codes -/
def repC (z : List Nat) (k : Int) : List Nat := (List.replicate k.toNat z).flatten
def repS (z : Str) (k : Int) : Str := ⟨(repC z.cps.toList k).toArray⟩
theorem repC_length (z : List Nat) (k : Int) : (repC z k).length = k.toNat * z.length := by simp [repC]
theorem foldl_arr (z : Array Nat) : ∀ (n : Nat) (acc : Array Nat), (List.replicate n z).foldl (· ++ ·) acc = acc ++ (List.replicate n z.toList).flatten.toArray
  | 0, acc => by simp
  | n + 1, acc => by
    rw [List.replicate_succ, List.foldl_cons, foldl_arr z n, List.replicate_succ, List.flatten_cons]
    apply Array.ext'
    simp
def rRepS : R2 := fun x y H Q => ∃ (z : Str) (k : Int), x = .str z ∧ y = .int k ∧ -1000000000000 ≤ k ∧ k < 1000000000000 ∧ z.length * k.toNat ≤ 1000000 ∧ Q (.str (repS z k)) H
theorem repS_arr (z : Str) (k : Int) : (⟨(List.replicate k.toNat z.cps).foldl (· ++ ·) #[]⟩ : Str) = repS z k := by
  rw [foldl_arr]
  simp [repS, repC]
theorem op_rep_str {X : Cx} : OpR X (binaryOp .Mult) rRepS := by
  intro pins s σ H x y v u Q I rx ry h
  obtain ⟨z, k, rfl, rfl, h1, h2, h3, q⟩ := h
  obtain ⟨t, rfl⟩ := rx
  obtain ⟨t', rfl⟩ := ry
  have szl : (1000000 : Nat) ≤ sizeLine := by decide
  have e1 : ¬ k < 1 → k = (k.toNat : Int) := fun h => by omega
  refine PySem.P.mul_str ?_ (fun hk hz => ?_) (fun hk hz => ?_) ?_
  · rw [decide_eq_false (by omega), decide_eq_false (by omega)]; rfl
  · have e0 : z.length ≠ 0 := fun e => by rw [e] at hz; simp at hz
    have hd : (9223372036854775807 : Int) / k ≥ 1000000 := by
      apply Int.le_ediv_of_mul_le (by omega)
      have hlen : k.toNat ≤ 1000000 := Nat.le_trans (Nat.le_mul_of_pos_left _ (by omega)) h3
      omega
    have hl : z.length ≤ 1000000 := Nat.le_trans (Nat.le_mul_of_pos_right _ (by omega)) h3
    show ¬ ((z.length : Int) > 9223372036854775807 / k)
    omega
  · unfold Builtin.Str.tooLong
    simp
    omega
  · split
    · rename_i hk
      have e : repS z k = Str.empty := by
        have : k.toNat = 0 := by omega
        simp [repS, repC, this]; rfl
      refine ⟨by decide, .str _, H, I.tok _, ⟨_, rfl⟩, ?_⟩
      rw [← e]; exact q
    · rename_i hk
      split
      · rename_i hz
        have e : repS z k = z := by
          rcases Bool.or_eq_true_iff.mp hz with h | h
          · have : k = 1 := by simpa using h
            subst this
            simp [repS, repC]
          · have : z.cps.toList = [] := by
              have : z.cps.size = 0 := by simpa [Str.length] using h
              exact List.eq_nil_of_length_eq_zero (by simpa using this)
            have e2 : (List.replicate k.toNat ([] : List Nat)).flatten = [] := by simp
            unfold repS repC
            rw [this, e2]
            cases z with
            | mk c =>
              have : c = #[] := Array.toList_inj.mp (by simpa using this)
              subst this; rfl
        refine ⟨.str _, H, I, ⟨t, rfl⟩, ?_⟩
        rw [← e]; exact q
      · rw [repS_arr]
        refine ⟨?_, .str _, H, I.tok _, ⟨_, rfl⟩, q⟩
        show (repC z.cps.toList k).toArray.size ≤ sizeLine
        rw [List.size_toArray, repC_length]
        have : z.cps.toList.length = z.length := by simp [Str.length]
        rw [this, Nat.mul_comm]; omega
/-! ### the objects at the beginning -/
def clsNames : List Str := ["Exception", "ArithmeticError", "ZeroDivisionError", "OverflowError", "LookupError", "IndexError", "KeyError", "NameError", "AttributeError", "TypeError", "ValueError", "StopIteration", "RuntimeError", "RecursionError", "MemoryError", "HostError"]
def clsBases : List Int := [-1, 1, 2, 2, 1, 5, 5, 1, 1, 1, 1, 1, 1, 13, 1, 1]
def builtNames : List Str := ["print", "len", "range", "repr", "str", "int", "list", "tuple", "dict", "iter", "next", "isinstance", "abs"]
def clsVar (i : Nat) (n : Str) : PyData := .tuple [.str n, .tuple [.str "ref", .int ((i : Int) + 1)]]
def nameVar (k n : Str) : PyData := .tuple [.str n, .tuple [.str k, .str n]]
def clsObj (n : Str) (b : Int) : PyData := .tuple [.str "class", .str n, .int b, .tuple []]
def clsVars : List PyData := clsNames.mapIdx clsVar
def startVars (hs : List Str) : List PyData := clsVars ++ builtNames.map (nameVar "built") ++ hs.map (nameVar "host")
def startD (hs : List Str) : List PyData := .tuple [.str "scope", .tuple (startVars hs), .tuple [], .tuple [], .int (-1), .bool false] :: List.zipWith clsObj clsNames clsBases
/-- a list at p, of the data ds -/
def ListAt (K : PySem.W.Frag) (H : Hp) (p : Addr) (ds : List PyData) : Prop := ∃ xs, H p = some (.lst xs) ∧ DtAll K H xs ds
def spStart (K : PySem.W.Frag) : Sp := fun vs H Q _ => ∃ (t : Addr) (hs : List Str), vs = [.ref t] ∧ SqT K H t (hs.map V.str) ∧ hs.length ≤ 1000 ∧
  ∀ (p : Addr) (H' : Hp), H p = none → Same H H' → ListAt K H' p (startD hs) → Q (.ref p) H'
theorem at0 {α : Type} {x : α} {ws : List α} : atI (x :: ws) 0 = some x := at_of' (j := 0) rfl rfl
theorem at1 {α : Type} {x y : α} {ws : List α} : atI (x :: y :: ws) 1 = some y := at_of' (j := 1) rfl rfl
theorem at2 {α : Type} {x y z : α} {ws : List α} : atI (x :: y :: z :: ws) 2 = some z := at_of' (j := 2) rfl rfl
/-- a written pair, triple as it is read -/
theorem Dt.head {K : PySem.W.Frag} {H : Hp} {v : V} {z : Str} {rest : List PyData} (h : Dt K H v (.tuple (.str z :: rest))) : ∃ a ws, v = .ref a ∧ SqT K H a (.str z :: ws) ∧ DtAll K H ws rest := by
  obtain ⟨q, xs, rfl, hs, ha⟩ := h.tuple_inv
  obtain ⟨x, ws, rfl, h1, hw⟩ := ha.cons_inv
  cases h1.str_inv
  exact ⟨q, ws, rfl, hs, hw⟩
theorem Dt.pair {K : PySem.W.Frag} {H : Hp} {v : V} {z : Str} {d : PyData} (h : Dt K H v (.tuple [.str z, d])) : ∃ a x, v = .ref a ∧ SqT K H a [.str z, x] ∧ Dt K H x d := by
  obtain ⟨a, ws, rfl, hs, hw⟩ := h.head
  obtain ⟨x, ws', rfl, h1, hn⟩ := hw.cons_inv
  cases hn.nil_inv
  exact ⟨a, x, rfl, hs, h1⟩
theorem Dt.triple {K : PySem.W.Frag} {H : Hp} {v : V} {z : Str} {d e : PyData} (h : Dt K H v (.tuple [.str z, d, e])) : ∃ a x y, v = .ref a ∧ SqT K H a [.str z, x, y] ∧ Dt K H x d ∧ Dt K H y e := by
  obtain ⟨a, ws, rfl, hs, hw⟩ := h.head
  obtain ⟨x, ws', rfl, h1, hn⟩ := hw.cons_inv
  obtain ⟨y, ws'', rfl, h2, hn2⟩ := hn.cons_inv
  cases hn2.nil_inv
  exact ⟨a, x, y, rfl, hs, h1, h2⟩
theorem listAt_mono {K : PySem.W.Frag} {H H' : Hp} {p : Addr} {ds : List PyData} (h : ListAt K H p ds) (e : Same H H') : ListAt K H' p ds := by
  obtain ⟨xs, hx, ax⟩ := h
  exact ⟨xs, e _ _ hx, DtAll.mono e ax⟩
theorem eqv_nil (ds : List PyData) : PyData.eqv (.tuple ds) (.tuple []) = ds.isEmpty := by
  cases ds <;> simp [PyData.eqv, PyData.eqvAll]
theorem listAt_upd {K : PySem.W.Frag} {H : Hp} {l l' : Addr} {ds : List PyData} {xs : List V} {o : HO} (h : ListAt K H l ds) (ne : l ≠ l') (hl : H l' = some (.lst xs)) : ListAt K (upd H l' o) l ds := by
  obtain ⟨ys, hy, ay⟩ := h
  exact ⟨ys, by rw [upd_ne ne]; exact hy, DtAll.keepT (KeepT.upd hl) ay⟩
theorem listAt_app {K : PySem.W.Frag} {H : Hp} {l : Addr} {ds : List PyData} {xs : List V} {v : V} {d : PyData} (h : ListAt K H l ds) (hl : H l = some (.lst xs)) (hd : Dt K H v d) : ListAt K (upd H l (.lst (xs ++ [v]))) l (ds ++ [d]) := by
  obtain ⟨ys, hy, ay⟩ := h
  rw [hl] at hy
  obtain rfl := HO.lst.inj (Option.some.inj hy)
  exact ⟨_, upd_same, DtAll.app (DtAll.keepT (KeepT.upd hl) ay) (.cons (Dt.keepT (KeepT.upd hl) hd) .nil)⟩
theorem listAt_keep {K : PySem.W.Frag} {H H' : Hp} {l p : Addr} {ds : List PyData} (h : ListAt K H l ds) (e : Keep p H H') (ne : l ≠ p) (hp : ∃ xs, H p = some (.lst xs)) : ListAt K H' l ds := by
  obtain ⟨ys, hy, ay⟩ := h
  exact ⟨ys, e _ _ hy ne, DtAll.keepT (Keep.keepT e hp) ay⟩
theorem listAt_made {K : PySem.W.Frag} {H : Hp} {l : Addr} {xs : List V} {ds : List PyData} (hl : H l = none) (h : DtAll K H xs ds) : ListAt K (upd H l (.lst xs)) l ds := ⟨xs, upd_same, DtAll.mono (Same.new hl) h⟩
/-! how long the objects at the beginning are, shown -/
def shortS (n : Str) : Bool := decide (n.length ≤ 40) && n.cps.toList.all (fun c => decide (c < 16 ^ 8))
theorem Sm.short {n : Str} (h : shortS n = true) : Sm (.str n) 0 500 := by
  obtain ⟨h1, h2⟩ := Bool.and_eq_true_iff.mp h
  exact (Sm.str (of_decide_eq_true h1) (strOk n h2)).mono (by decide) (by decide)
theorem cls_short : ∀ n ∈ clsNames, shortS n = true := by decide +kernel
theorem built_short : ∀ n ∈ builtNames, shortS n = true := by decide +kernel
theorem Sm.nm {k n : Str} (hk : shortS k = true) (hn : shortS n = true) : Sm (nameVar k n) 3 4000 :=
  (Sm.tup (.cons (Sm.short hn) (.cons (Sm.tup (.cons (Sm.short hk) (.cons (Sm.short hn) .nil))) .nil))).mono (by decide) (by decide)
theorem Sm.cv {i : Nat} {n : Str} (hi : i < 1000) (hn : shortS n = true) : Sm (clsVar i n) 3 4000 :=
  (Sm.tup (.cons (Sm.short hn) (.cons (Sm.tup (.cons (Sm.short (n := "ref") (by decide +kernel)) (.cons (Sm.int (Nat.lt_of_lt_of_le (show ((i : Int) + 1).natAbs < 2 ^ 20 by omega) (Nat.pow_le_pow_right (by decide) (by decide)))) .nil))) .nil))).mono (by decide) (by decide)
theorem Sm.co {b : Int} {n : Str} (hb : b.natAbs < 1000) (hn : shortS n = true) : Sm (clsObj n b) 3 4000 :=
  (Sm.tup (.cons (Sm.short (n := "class") (by decide +kernel)) (.cons (Sm.short hn) (.cons (Sm.int (Nat.lt_of_lt_of_le (show b.natAbs < 2 ^ 20 by omega) (Nat.pow_le_pow_right (by decide) (by decide)))) (.cons (Sm.tup .nil) .nil))))).mono (by decide) (by decide)
theorem SmAll.mem {ds : List PyData} {dp n N m M : Nat} (h : SmAll ds dp n N) (h1 : n ≤ m) (h2 : N ≤ M) : SmAll ds dp m M := ⟨h.ok, h.dp, Nat.le_trans h.len h1, Nat.le_trans h.sz h2⟩
theorem sm_vars {hs : List Str} {L : Nat} (h : ∀ n ∈ hs, shortS n = true) (hl : hs.length ≤ L) : SmAll (startVars hs) 3 (29 + L) (4000 * (29 + L)) := by
  have h1 : ∀ d ∈ startVars hs, Sm d 3 4000 := fun d hd => by
    rcases List.mem_append.mp hd with hd | hd
    · rcases List.mem_append.mp hd with hd | hd
      · obtain ⟨i, hi, rfl⟩ := List.mem_mapIdx.mp hd
        exact Sm.cv (Nat.lt_trans hi (by decide)) (cls_short _ (List.getElem_mem hi))
      · obtain ⟨n, hn, rfl⟩ := List.mem_map.mp hd
        exact Sm.nm (by decide +kernel) (built_short n hn)
    · obtain ⟨n, hn, rfl⟩ := List.mem_map.mp hd
      exact Sm.nm (by decide +kernel) (h n hn)
  have hlen : (startVars hs).length = 29 + hs.length := by
    simp only [startVars, List.length_append, List.length_map]
    have : clsVars.length = 16 := by decide
    have : builtNames.length = 13 := by decide
    omega
  exact (SmAll.many h1).mem (by omega) (by omega)
theorem sm_start {hs : List Str} {L : Nat} (h : ∀ n ∈ hs, shortS n = true) (hl : hs.length ≤ L) : ∀ d ∈ startD hs, Sm d 5 (5000 * (30 + L)) := fun d hd => by
  rcases List.mem_cons.mp hd with rfl | hd
  · exact (Sm.tup (.cons (Sm.short (n := "scope") (by decide +kernel)) (.cons (Sm.tup (sm_vars h hl)) (.cons (Sm.tup .nil) (.cons (Sm.tup .nil) (.cons (Sm.int (by decide)) (.cons (Sm.bool false) .nil))))))).mono (by decide) (by omega)
  · have : ∃ n b, d = clsObj n b ∧ n ∈ clsNames ∧ b.natAbs < 1000 := by
      have key : ∀ q ∈ List.zip clsNames clsBases, q.1 ∈ clsNames ∧ q.2.natAbs < 1000 := by decide +kernel
      rw [← List.map_uncurry_zip_eq_zipWith] at hd
      obtain ⟨q, hq, rfl⟩ := List.mem_map.mp hd
      exact ⟨q.1, q.2, rfl, key q hq⟩
    obtain ⟨n, b, rfl, hn, hb⟩ := this
    exact (Sm.co hb (cls_short n hn)).mono (by decide) (by omega)
theorem start_cls {hs : List Str} {k : Nat} (h1 : 1 ≤ k) (h2 : k ≤ 16) : ∃ rest, (startD hs)[k]? = some (.tuple (.str "class" :: rest)) := by
  obtain ⟨j, rfl⟩ : ∃ j, k = j + 1 := ⟨k - 1, by omega⟩
  have l1 : clsNames.length = 16 := by decide
  have l2 : clsBases.length = 16 := by decide
  refine ⟨[.str clsNames[j]!, .int clsBases[j]!, .tuple []], ?_⟩
  have e1 : clsNames[j]? = some clsNames[j]! := by rw [List.getElem!_eq_getElem?_getD]; rw [List.getElem?_eq_getElem (by omega)]; rfl
  have e2 : clsBases[j]? = some clsBases[j]! := by rw [List.getElem!_eq_getElem?_getD]; rw [List.getElem?_eq_getElem (by omega)]; rfl
  show (List.zipWith clsObj clsNames clsBases)[j]? = _
  rw [List.getElem?_zipWith, e1, e2]
  rfl
end LK

set_option Elab.async false
set_option linter.all false
set_option maxRecDepth 100000
set_option maxHeartbeats 4000000
set_option exponentiation.threshold 3000
/-! tuple * 1; rows: texts or tuples at one place; the type of what is read as a tuple; data equal to itself. -/
namespace LK
open PySem PySem.Spec PyProof.Rows L2
theorem tuple_mul1 (l : Addr) (items : Array Value) (n : Nat) (dd : Option Addr) (sl : Array (Option Value)) (u : Tok) :
    Meets (Builtin.«tuple.__mul__» ⟨[.ref l, .int 1 u], []⟩) (fun _ R s => s.heap.get? l = some { cls := .type "tuple", dict := dd, data := .seq items n, slots := sl } ∧ R (.ok (.ret (Value.ref l))) s) :=
  .of_wp fun prog w A R s h => by
    obtain ⟨hp, g, d, tk, os⟩ := s
    obtain ⟨hl, h⟩ := h
    have f1 := AutoSeq1.idx_int
    have c0 : (decide ((1 : Int) < -(2 ^ 63)) || decide ((1 : Int) ≥ 2 ^ 63)) = false := by decide
    have c1 : (items.isEmpty || (1 : Int) == 1) = true := by simp
    wp_walk using wpAny_loadPart' hl
    exact ⟨_, rfl, h⟩
/-- a tuple times an int from 1 to 1000 -/
def rRepTA (K : PySem.W.Frag) : R2 := fun x y H Q => ∃ l k xs, x = .ref l ∧ y = .int k ∧ SqT K H l xs ∧ xs ≠ [] ∧ 1 ≤ k ∧ k ≤ 1000 ∧ xs.length ≤ 1000 ∧ (k = 1 → Q (.ref l) H) ∧ (k ≠ 1 → ∀ p, H p = none → Q (.ref p) (upd H p (.tup (List.replicate k.toNat xs).flatten)))
section
variable {X : Cx}
theorem op_repTA : OpR X (binaryOp .Mult) (rRepTA X.K) := by
  intro pins s σ H x y v u Q I rx ry h
  obtain ⟨l, k, xs, rfl, rfl, hT, hne, h1, h2, hz, q1, q2⟩ := h
  by_cases hk : k = 1
  · subst hk
    cases rx
    obtain ⟨t, rfl⟩ := ry
    obtain ⟨its, r, ⟨⟨cls, dd, data, sl⟩, ho, hc, n, hd⟩, hs⟩ := I.tuple hT
    simp only at hc hd
    subst hc hd
    refine wpAny_binaryOp_repeat_ref (T := "tuple") (U := "int") (by decide) ⟨_, ho, rfl⟩ (fun s' => typeIs_int s' 1 t) noFill_tuple_mul F.fills_int_mul F.slot_int_rmul repeat_tuple F.slot_int_index.lookup
      (call_meets F.slot_int_rmul (typeIs_int s 1 t) F.entry_int_rmul (F.args_int_rmul_2 _ _) (int_rmul_tuple 1 t l its.toArray n dd sl)
        ⟨ho, rfl, ⟨_, ho, rfl⟩, call_meets F.slot_tuple_mul ⟨_, ho, rfl⟩ F.entry_tuple_mul (F.args_tuple_mul_2 _ _) (tuple_mul1 l its.toArray n dd sl t) ⟨ho, ?_⟩⟩)
    exact ⟨.ref l, H, I, rfl, q1 rfl⟩
  · exact op_repT pins s σ H _ _ v u Q I rx ry ⟨l, k, xs, rfl, rfl, hT, hne, by omega, h2, hz, q2 hk⟩
end
theorem SqT.tyX {K : PySem.W.Frag} {H : Hp} {a : Addr} {xs : List V} (h : SqT K H a xs) : TyX K H (.ref a) (.type "tuple") := by
  rcases h with (h | ⟨o, h⟩) | ⟨o, its, n, e, c, _⟩
  · exact .base (.tup h)
  · exact .fTuple h
  · exact .kTuple e c
/-! ### data equal to itself -/
mutual
theorem eqv_self : ∀ {d : PyData}, d.canLay0 = true → PyData.eqv d d = true
  | .none, _ => by simp [PyData.eqv]
  | .bool _, _ => by simp [PyData.eqv]
  | .int _, _ => by simp [PyData.eqv]
  | .str _, _ => by simp [PyData.eqv]
  | .list xs, h => by rw [PyData.eqv]; exact eqvAll_self (by simpa [PyData.canLay0] using h)
  | .tuple xs, h => by rw [PyData.eqv]; exact eqvAll_self (by simpa [PyData.canLay0] using h)
  | .dict _, h => absurd h (by simp [PyData.canLay0])
theorem eqvAll_self : ∀ {xs : List PyData}, PyData.canLayAll0 xs = true → PyData.eqvAll xs xs = true
  | [], _ => by simp [PyData.eqvAll]
  | x :: xs, h => by
    rw [PyData.canLayAll0, Bool.and_eq_true] at h
    rw [PyData.eqvAll, eqv_self h.1, eqvAll_self h.2]; rfl
end
theorem canLayAll0_of {ds : List PyData} (h : ∀ d ∈ ds, d.canLay0 = true) : PyData.canLayAll0 ds = true := by
  induction ds with
  | nil => rfl
  | cons d ds ih => rw [PyData.canLayAll0, h d (by simp), ih fun e he => h e (List.mem_cons_of_mem _ he)]; rfl
theorem depthAll_of {ds : List PyData} {n : Nat} (h : ∀ d ∈ ds, d.depth ≤ n) : PyData.depthAll ds ≤ n := by
  induction ds with
  | nil => exact Nat.zero_le _
  | cons d ds ih => rw [PyData.depthAll]; exact Nat.max_le.mpr ⟨h d (by simp), ih fun e he => h e (List.mem_cons_of_mem _ he)⟩
/-! ### rows: a text, or a tuple of small ints -/
def Item (d : PyData) : Prop := ∃ i : Int, d = .tuple [.str "int", .int i] ∧ 0 ≤ i ∧ i < 11
def Low (z : Str) : Prop := ∀ c ∈ z.cps.toList, c < 128
inductive Row : Bool → PyData → Nat → Prop
  | txt {z : Str} {n : Nat} : z.length = n → Low z → Row true (.str z) n
  | tup {ds : List PyData} {n : Nat} : ds.length = n → (∀ d ∈ ds, Item d) → Row false (.tuple ds) n
def catD : PyData → PyData → PyData
  | .str a, .str b => .str (a ++ b)
  | .tuple a, .tuple b => .tuple (a ++ b)
  | a, _ => a
def repD (d : PyData) (k : Int) : PyData := match d with
  | .str a => .str (repS a k)
  | .tuple a => .tuple (List.replicate k.toNat a).flatten
  | a => a
def noneD : PyData → PyData
  | .str a => .str (cutS a none (some 0))
  | .tuple _ => .tuple []
  | a => a
theorem len_app (a b : Str) : (a ++ b).length = a.length + b.length := strLen_append a b
theorem len_rep (z : Str) (k : Int) : (repS z k).length = z.length * k.toNat := by
  show (repC z.cps.toList k).toArray.size = _
  rw [List.size_toArray, repC_length, Nat.mul_comm]
  simp [Str.length]
theorem Low.app {a b : Str} (h : Low a) (g : Low b) : Low (a ++ b) := by
  intro c hc
  have e : (a ++ b).cps.toList = a.cps.toList ++ b.cps.toList := by
    show (a.cps ++ b.cps).toList = _
    simp
  rw [e] at hc
  rcases List.mem_append.mp hc with hc | hc
  · exact h c hc
  · exact g c hc
theorem Low.rep {a : Str} (h : Low a) (k : Int) : Low (repS a k) := by
  intro c hc
  have hc : c ∈ (List.replicate k.toNat a.cps.toList).flatten := by simpa [repS, repC] using hc
  obtain ⟨l, hl, hcl⟩ := List.mem_flatten.mp hc
  exact h c (List.eq_of_mem_replicate hl ▸ hcl)
theorem Low.cut {a : Str} (h : Low a) (lo hi : Option Int) : Low (cutS a lo hi) := by
  intro c hc
  have hc : c ∈ (a.cps.toList.drop (HT.sIx a.length 0 lo)).take (HT.sIx a.length a.length hi - HT.sIx a.length 0 lo) := hc
  exact h c (List.mem_of_mem_drop (List.mem_of_mem_take hc))
theorem cut_to (a : Str) (m : Nat) : (cutS a none (some (m : Int))).length ≤ m := by
  show ((a.cps.toList.drop (HT.sIx a.length 0 none)).take (HT.sIx a.length a.length (some (m : Int)) - HT.sIx a.length 0 none)).toArray.size ≤ m
  rw [List.size_toArray, List.length_take, HT.sIx_nat]
  omega
theorem Row.cat {t : Bool} {a b : PyData} {n m : Nat} (h : Row t a n) (g : Row t b m) : Row t (catD a b) (n + m) := by
  cases h with
  | txt e l =>
    cases g with
    | txt e2 l2 => exact .txt (by rw [len_app, e, e2]) (l.app l2)
  | tup e l =>
    cases g with
    | tup e2 l2 => exact .tup (by rw [List.length_append, e, e2]) fun d hd => (List.mem_append.mp hd).elim (l d) (l2 d)
theorem Row.rep {t : Bool} {a : PyData} {n : Nat} (h : Row t a n) (k : Int) : Row t (repD a k) (n * k.toNat) := by
  cases h with
  | txt e l => exact .txt (by rw [len_rep, e]) (l.rep k)
  | tup e l =>
    refine .tup (by rw [PyProof.Rows.lm_len_rep_flat, e, Nat.mul_comm]) fun d hd => ?_
    obtain ⟨x, hx, hdx⟩ := List.mem_flatten.mp hd
    exact l d (List.eq_of_mem_replicate hx ▸ hdx)
theorem Row.none {t : Bool} {a : PyData} {n : Nat} (h : Row t a n) : Row t (noneD a) 0 := by
  cases h with
  | @txt z _ e l => exact .txt (Nat.le_zero.mp (cut_to z 0)) (l.cut _ _)
  | tup e l => exact .tup rfl fun d hd => by cases hd
theorem Item.sm {d : PyData} (h : Item d) : Sm d 1 3000 := by
  obtain ⟨i, rfl, h0, h1⟩ := h
  exact (Sm.tup (.cons (Sm.short (n := "int") (by decide +kernel)) (.cons (Sm.int (Nat.lt_of_lt_of_le (show i.natAbs < 2 ^ 20 by omega) (Nat.pow_le_pow_right (by decide) (by decide)))) .nil))).mono (by decide) (by decide)
theorem Row.sm {t : Bool} {d : PyData} {n : Nat} (h : Row t d n) (hn : n ≤ 1000) : Sm d 2 3100000 := by
  cases h with
  | txt e l => exact (Sm.str (n := 1000) (by omega) fun c hc => Nat.lt_of_lt_of_le (l c hc) (by decide)).mono (by decide) (by decide)
  | tup e l => exact (Sm.tup ((SmAll.many fun d hd => (l d hd).sm).mem (m := 1000) (M := 3000000) (by omega) (by omega))).mono (by decide) (by decide)
theorem Row.lay {t : Bool} {d : PyData} {n : Nat} (h : Row t d n) : d.canLay0 = true := by
  cases h with
  | @txt z _ e l =>
    rw [PyData.canLay0]
    exact Array.all_eq_true_iff_forall_mem.mpr fun c hc => by
      have := l c (Array.mem_toList_iff.mpr hc)
      exact decide_eq_true (by omega)
  | tup e l =>
    rw [PyData.canLay0]
    exact canLayAll0_of fun d hd => by obtain ⟨i, rfl, _⟩ := l d hd; simp only [PyData.canLay0, PyData.canLayAll0, Bool.and_true]; decide +kernel
section
variable {X : Cx}
/-- a + b, two rows -/
def rCatD (K : PySem.W.Frag) : R2 := fun x y H Q => ∃ (t : Bool) (a b : PyData) (n m : Nat), Row t a n ∧ Row t b m ∧ Dt K H x a ∧ Dt K H y b ∧ n + m ≤ 2000 ∧ ∀ v H', Same H H' → Dt K H' v (catD a b) → Q v H'
theorem op_catD : OpR X (binaryOp .Add) (rCatD X.K) := by
  intro pins s σ H x y v u Q I rx ry h
  obtain ⟨t, a, b, n, m, ha, hb, da, db, hz, q⟩ := h
  cases ha with
  | txt e l =>
    cases hb with
    | txt e2 l2 =>
      cases da.str_inv; cases db.str_inv
      exact op_add_str pins s σ H _ _ v u Q I rx ry ⟨_, _, rfl, rfl, by rw [e, e2]; exact Nat.le_trans hz (by decide), q _ _ (Same.refl _) (.str _)⟩
  | @tup ds _ e l =>
    cases hb with
    | @tup es _ e2 l2 =>
      obtain ⟨p, xs, rfl, hs, ax⟩ := da.tuple_inv
      obtain ⟨p2, ys, rfl, hs2, ay⟩ := db.tuple_inv
      have lx := ax.length
      have ly := ay.length
      refine op_catA pins s σ H _ _ v u Q I rx ry ⟨p, p2, xs, ys, rfl, rfl, hs, hs2, by rw [lx, ly, e, e2]; exact Nat.le_trans hz (by decide), fun h0 => ?_, fun _ h0 => ?_, fun _ _ z hz => ?_⟩
      · subst h0
        have : ds = [] := List.eq_nil_of_length_eq_zero (by rw [← lx]; rfl)
        subst this
        exact q _ _ (Same.refl _) db
      · subst h0
        have : es = [] := List.eq_nil_of_length_eq_zero (by rw [← ly]; rfl)
        subst this
        refine q _ _ (Same.refl _) ?_
        show Dt X.K H (.ref p) (.tuple (ds ++ []))
        rw [List.append_nil]; exact da
      · exact q _ _ (Same.new hz) (Dt.made hz (DtAll.app ax ay))
/-- a * k, a row and an int -/
def rRepD (K : PySem.W.Frag) : R2 := fun x y H Q => ∃ (t : Bool) (a : PyData) (n : Nat) (k : Int), Row t a n ∧ Dt K H x a ∧ y = .int k ∧ 1 ≤ n ∧ 1 ≤ k ∧ n * k ≤ 1000 ∧ ∀ v H', Same H H' → Dt K H' v (repD a k) → Q v H'
theorem dtRep {K : PySem.W.Frag} {H : Hp} {xs : List V} {ds : List PyData} (h : DtAll K H xs ds) : ∀ m : Nat, DtAll K H (List.replicate m xs).flatten (List.replicate m ds).flatten
  | 0 => .nil
  | m + 1 => by
    rw [List.replicate_succ, List.flatten_cons, List.replicate_succ, List.flatten_cons]
    exact DtAll.app h (dtRep h m)
theorem op_repD : OpR X (binaryOp .Mult) (rRepD X.K) := by
  intro pins s σ H x y v u Q I rx ry h
  obtain ⟨t, a, n, k, ha, da, rfl, hn, hk, hz, q⟩ := h
  have k1 : k ≤ 1000 := by
    have : 1 * k ≤ n * k := Int.mul_le_mul_of_nonneg_right (by omega) (by omega)
    omega
  have n1 : n ≤ 1000 := by
    have : (n : Int) * 1 ≤ n * k := Int.mul_le_mul_of_nonneg_left hk (by omega)
    omega
  cases ha with
  | txt e l =>
    cases da.str_inv
    refine op_rep_str pins s σ H _ _ v u Q I rx ry ⟨_, k, rfl, rfl, by omega, by omega, ?_, q _ _ (Same.refl _) (.str _)⟩
    rw [e]
    exact Nat.le_trans (Nat.mul_le_mul n1 (show k.toNat ≤ 1000 by omega)) (by decide)
  | @tup ds _ e l =>
    obtain ⟨p, xs, rfl, hs, ax⟩ := da.tuple_inv
    have lx := ax.length
    refine op_repTA pins s σ H _ _ v u Q I rx ry ⟨p, k, xs, rfl, rfl, hs, fun z => ?_, hk, k1, by omega, fun h1 => ?_, fun h1 z hz => ?_⟩
    · subst z
      rw [List.length_nil] at lx
      omega
    · subst h1
      refine q _ _ (Same.refl _) ?_
      show Dt X.K H (.ref p) (.tuple (List.replicate 1 ds).flatten)
      rw [show (List.replicate 1 ds).flatten = ds by simp]
      exact da
    · exact q _ _ (Same.new hz) (Dt.made hz (dtRep ax _))
/-- a[:0], a row -/
def rNoneD (K : PySem.W.Frag) : V → Option Int → Option Int → Hp → VK → Prop := fun x lo hi H Q => ∃ (t : Bool) (a : PyData) (n : Nat), Row t a n ∧ Dt K H x a ∧ n ≤ 2000 ∧ lo = none ∧ hi = some 0 ∧ ∀ v H', Same H H' → Dt K H' v (noneD a) → Q v H'
theorem sl_noneD : SlR X (rNoneD X.K) := by
  intro pins s σ H x v vl vu lo hi sl Q I rx hs pl pu h
  obtain ⟨t, a, n, ha, da, hn, rfl, rfl, q⟩ := h
  cases ha with
  | txt e l =>
    cases da.str_inv
    exact sl_str pins s σ H _ v vl vu _ _ sl Q I rx hs pl pu ⟨_, rfl, by rw [e]; exact Nat.le_trans hn (by decide), q _ _ (Same.refl _) (.str _)⟩
  | @tup ds _ e l =>
    obtain ⟨p, xs, rfl, hq, ax⟩ := da.tuple_inv
    have lx := ax.length
    refine sl_tupA pins s σ H _ v vl vu _ _ sl Q I rx hs pl pu ⟨p, xs, rfl, hq, fun hw => ?_, fun _ z hz => ?_⟩
    · have h0 : ds.length = 0 := by
        have := hw.2
        rw [show (some (0 : Int)) = some ((0 : Nat) : Int) from rfl, HT.sIx_nat] at this
        omega
      have := List.eq_nil_of_length_eq_zero h0
      subst this
      exact q _ _ (Same.refl _) da
    · refine q _ _ (Same.new hz) (Dt.made hz ?_)
      have : cutV xs none (some 0) = [] := by
        apply List.eq_nil_of_length_eq_zero
        unfold cutV
        rw [List.length_take, show (some (0 : Int)) = some ((0 : Nat) : Int) from rfl, HT.sIx_nat]
        omega
      rw [this]
      exact .nil
/-- len(a), a row -/
def rLenD (K : PySem.W.Frag) : List V → Hp → VK → Prop := fun vs H Q => ∃ (v : V) (t : Bool) (a : PyData) (n : Nat), vs = [v] ∧ Row t a n ∧ Dt K H v a ∧ n ≤ 2000 ∧ Q (.int (n : Int)) H
theorem call_lenD' : CallR X (.builtin "len") (rLenD X.K) := by
  intro pins s σ H xs us Q I r h
  obtain ⟨v, t, a, n, rfl, ha, da, hn, q⟩ := h
  cases ha with
  | txt e l =>
    cases da.str_inv
    exact call_len pins s σ H _ us Q I r ⟨_, n, rfl, ⟨by rw [e]; exact Nat.le_trans hn (by decide), e.symm⟩, q⟩
  | @tup ds _ e l =>
    obtain ⟨p, ys, rfl, hq, ax⟩ := da.tuple_inv
    exact call_len pins s σ H _ us Q I r ⟨_, n, rfl, .inr ⟨_, hq, by rw [ax.length, e]⟩, q⟩
end
end LK

set_option Elab.async false
set_option linter.all false
set_option maxRecDepth 100000
set_option maxHeartbeats 4000000
set_option exponentiation.threshold 3000
/-! Letters, digits, underscores; texts of the top. -/
namespace LK
open PySem PySem.Spec PyProof.Rows L2 SX
def isD (c : Nat) : Bool := decide (48 ≤ c) && decide (c ≤ 57)
def isL (c : Nat) : Bool := (decide (65 ≤ c) && decide (c ≤ 90)) || (decide (97 ≤ c) && decide (c ≤ 122)) || c == 95
def isW (c : Nat) : Bool := isD c || isL c
theorem isW_lt {c : Nat} (h : isW c = true) : c < 128 := by
  simp [isW, isD, isL] at h; omega
theorem uni_alpha : ∀ c < 128, Unicode.isAlpha c = (isL c && c != 95) := by decide +kernel
theorem uni_digit : ∀ c < 128, Unicode.isDigit c = isD c := by decide +kernel
theorem uni_alnum : ∀ c < 128, Unicode.isAlnum c = (isW c && c != 95) := by decide +kernel
theorem alpha1 {c : Nat} (h : c < 128) : Txt.isalpha (S [c]) = (isL c && c != 95) := by
  show (decide ((S [c]).length > 0) && (S [c]).cps.all Unicode.isAlpha) = _
  rw [S_len]; simp [S, uni_alpha c h]
theorem digit1 {c : Nat} (h : c < 128) : Txt.isdigit (S [c]) = isD c := by
  show (decide ((S [c]).length > 0) && (S [c]).cps.all Unicode.isDigit) = _
  rw [S_len]; simp [S, uni_digit c h]
theorem alnum1 {c : Nat} (h : c < 128) : Txt.isalnum (S [c]) = (isW c && c != 95) := by
  show (decide ((S [c]).length > 0) && (S [c]).cps.all Unicode.isAlnum) = _
  rw [S_len]; simp [S, uni_alnum c h]
theorem digitS {a : List Nat} (h : ∀ c ∈ a, c < 128) (hne : a ≠ []) : Txt.isdigit (S a) = a.all isD := by
  show (decide ((S a).length > 0) && (S a).cps.all Unicode.isDigit) = _
  have : 0 < a.length := List.length_pos_iff.mpr hne
  rw [S_len, decide_eq_true this, Bool.true_and]
  show a.toArray.all Unicode.isDigit = _
  rw [List.all_toArray]
  apply Bool.eq_iff_iff.mpr
  rw [List.all_eq_true, List.all_eq_true]
  exact ⟨fun g c hc => uni_digit c (h c hc) ▸ g c hc, fun g c hc => (uni_digit c (h c hc)).symm ▸ g c hc⟩
/-! texts of the top -/
def GStr (mg : Str → Option Value) (x : Str) (z : Str) : Prop := ∃ t, mg x = some (.str z t)
def HasStr (K : PySem.W.Frag) (x : Str) (p : Str → Prop) : Prop := ∃ (z : Str) (t : Tok), PySem.W.nsIn K mainGlobals x = some (some (.str z t)) ∧ p z
theorem HasStr.mk' {K : PySem.W.Frag} {x : Str} {p : Str → Prop} {z : Str} {t : Tok} (a : PySem.W.nsIn K mainGlobals x = some (some (.str z t))) (b : p z) : HasStr K x p := ⟨z, t, a, b⟩
theorem HasStr.g {K : PySem.W.Frag} {mg : Str → Option Value} {h : Heap} {x : Str} {p : Str → Prop} (i : HasStr K x p) (X : K.In h) (G : h.Ns mainGlobals mg) : ∃ z, GStr mg x z ∧ p z := by
  obtain ⟨z, t, e, hp⟩ := i
  exact ⟨z, ⟨t, PySem.W.mg_of X G e⟩, hp⟩
theorem pe_globS {X : Cx} {x z : Str} {pos : Pos} (h : GStr X.mg x z) (hg : Gl X x) (hd : (x == ("__debug__" : Str)) = false := by decide) : PE X (.Name x pos) (tC (.str z)) := by
  obtain ⟨t, e⟩ := h
  exact pe_glob hg e ⟨t, rfl⟩ hd
theorem split1 {a : List Nat} {c : Nat} (h : c ∉ a) (hc : c < 256) : Txt.split (S a) (S [c]) = [S a] := by
  rw [split_S (by simp) (by simpa using hc)]
  have := SX.spl_join (c := c) (sep := []) (parts := [a]) (by simp) (by simpa using h)
  have e : TL.joinL [c] [a] = a := by simp [TL.joinL]
  rw [e] at this
  rw [this]; rfl
theorem lstrip1 {a : List Nat} {b : List Nat} (h : ∀ c, a.head? = some c → c ∉ b) : Txt.lstripChars (S a) (S b) = S a := by
  have e1 : (S a).cps.toList.takeWhile (S b).cps.contains = [] := tw0 a fun c hc => by
    have := h c hc
    show b.toArray.contains c = false
    rw [List.contains_toArray]
    simpa using this
  have e0 : stripLo (S b).cps.contains true (S a) = 0 := by
    unfold stripLo
    rw [if_pos rfl, e1] <;> rfl
  have e3 : stripHi (S b).cps.contains false (S a) 0 = (S a).length := by
    unfold stripHi
    rw [if_neg Bool.false_ne_true]
  unfold Txt.lstripChars Txt.stripBy stripSame
  rw [e0, e3]
  exact if_pos (by simp)
/-! while, its test's reading made monotone -/
def tUp (c : TT) : TT := fun σ H Q => ∃ P : Bool → Hp → Prop, c σ H P ∧ ∀ b H1, P b H1 → Q b H1
theorem pt_up {X : Cx} {e : Expr} {c : TT} (h : PT X e c) : PT X e (tUp c) :=
  ⟨fun pins s σ H Q I ⟨P, hP, k⟩ => thn (h.run pins s σ H P I hP) fun b s1 ⟨H1, I1, q⟩ => ⟨H1, I1, k _ _ q⟩⟩
theorem while_up {c : TT} {tb : TS} {D : Ends} {σ : L2.St} {H : Hp} (Pv : L2.St → Hp → Prop) (μ : L2.St → Hp → Nat) (h0 : Pv σ H)
    (hs : ∀ σ H, Pv σ H → c σ H fun b H1 => if b = true then tb { D with nx := fun σ' H' => Pv σ' H' ∧ μ σ' H' < μ σ H, ct := fun σ' H' => Pv σ' H' ∧ μ σ' H' < μ σ H, bk := D.nx } σ H1 else D.nx σ H1) : tWhile (tUp c) tb D σ H :=
  while_by Pv μ h0 (fun σ H p => ⟨_, hs σ H p, fun _ _ h => h⟩) (fun σ H Q Q' hq ⟨P, hP, k⟩ => ⟨P, hP, fun b H1 h => hq b H1 (k b H1 h)⟩)
theorem nl_S : ("\n" : Str) = S [10] := by decide +kernel
theorem us_S : ("_" : Str) = S [95] := by decide +kernel
theorem sp_S : (" " : Str) = S [32] := by decide +kernel
theorem hash_S : ("#" : Str) = S [35] := by decide +kernel
theorem sign_eq {c d : Nat} : decide (V.str ⟨#[c]⟩ = V.str (S [d])) = decide (c = d) := by
  by_cases h : c = d
  · subst h; rw [decide_eq_true rfl, decide_eq_true rfl]
  · rw [decide_eq_false h, decide_eq_false]
    intro e
    have := S_inj (a := [c]) (b := [d]) (V.str.inj e)
    exact h (by simpa using this)
theorem str_eq {a b : List Nat} : decide (V.str (S a) = V.str (S b)) = decide (a = b) := by
  by_cases h : a = b
  · subst h; rw [decide_eq_true rfl, decide_eq_true rfl]
  · rw [decide_eq_false h, decide_eq_false]
    intro e
    exact h (S_inj (V.str.inj e))
theorem starts1 {c d : Nat} {r : List Nat} : Txt.startswith (S (c :: r)) (S [d]) = decide (c = d) := by
  show (decide (0 + (S [d]).length ≤ (S (c :: r)).length) && ((c :: r).toArray.extract 0 (0 + (S [d]).length) == [d].toArray)) = _
  rw [S_len, S_len]
  have e : (c :: r).toArray.extract 0 (0 + [d].length) = #[c] := by simp
  rw [e]
  by_cases h : c = d
  · subst h; simp
  · simp [h]
theorem at_S {a : List Nat} {j c : Nat} (h : a[j]? = some c) : atI (S a).cps.toList (j : Int) = some c := atI_nat h
theorem cut_all {a : List Nat} : cutS (S a) (some 0) (some ((a.length : Nat) : Int)) = S a := by
  unfold cutS
  rw [S_len, show (some (0 : Int)) = some ((0 : Nat) : Int) from rfl, HT.sIx_nat, HT.sIx_nat]
  show (⟨((a.drop (min 0 a.length)).take (min a.length a.length - min 0 a.length)).toArray⟩ : Str) = ⟨a.toArray⟩
  rw [Nat.zero_min, List.drop_zero, Nat.min_self, Nat.sub_zero, List.take_length]
/-! a promise at a higher level -/
theorem FnG.mono {P : Program} {w : World} {K : PySem.W.Frag} {mg : Str → Option Value} {base : Heap} {CX : CXT} {j k : Nat} {f : Addr} {fd : FuncData} {ps : List Str} {sp : Sp} (F : FnG P w K mg base CX j f fd ps sp) (h : j ≤ k) : FnG P w K mg base CX k f fd ps sp :=
  ⟨F.len, fun A outer s H args us vs Q E hr => F.run A outer s H args us vs Q E (hr.mono h)⟩
theorem Use.mono {P : Program} {w : World} {K : PySem.W.Frag} {mg : Str → Option Value} {base : Heap} {CX : CXT} {x : Str} {j k : Nat} {ps : List Str} {sp : Sp} (U : Use P w K mg base CX x j ps sp) (h : j ≤ k) : Use P w K mg base CX x k ps sp := by
  obtain ⟨f, fd, ok, r⟩ := U.ex
  exact ⟨f, fd, ok.mono h, r⟩
/-! the signs that a program may hold -/
def okC (c : Nat) : Bool := c == 10 || (decide (32 ≤ c) && decide (c ≤ 126) && c != 37)
theorem okC_lt {c : Nat} (h : okC c = true) : c < 128 := by
  simp [okC] at h; omega
theorem lstrip_sp (a : List Nat) : Txt.lstripChars (S a) (S [32]) = S (a.dropWhile (· == 32)) := by
  have e1 : (S a).cps.toList.takeWhile (S [32]).cps.contains = a.takeWhile (· == 32) := by
    show a.takeWhile _ = _
    congr 1
    funext c
    show #[32].contains c = _
    simp [Array.contains, BEq.comm]
  have el : (a.takeWhile (· == 32)).length ≤ a.length := (List.takeWhile_prefix _).length_le
  have ed : a.drop (a.takeWhile (· == 32)).length = a.dropWhile (· == 32) := by
    have h := List.takeWhile_append_dropWhile (p := (· == 32)) (l := a)
    have : (a.takeWhile (· == 32) ++ a.dropWhile (· == 32)).drop (a.takeWhile (· == 32)).length = a.dropWhile (· == 32) := List.drop_left
    rwa [h] at this
  have e0 : stripLo (S [32]).cps.contains true (S a) = (a.takeWhile (· == 32)).length := by
    unfold stripLo
    rw [if_pos rfl, e1] <;> rfl
  have e3 : stripHi (S [32]).cps.contains false (S a) (a.takeWhile (· == 32)).length = (S a).length := by
    unfold stripHi
    rw [if_neg Bool.false_ne_true]
  unfold Txt.lstripChars Txt.stripBy stripSame stripped
  rw [e0, e3]
  split
  · rename_i h
    simp at h
    have : (a.takeWhile (· == 32)).length = 0 := by simpa using h
    rw [this, List.drop_zero] at ed
    rw [← ed]
  · show (⟨a.toArray.extract (a.takeWhile (· == 32)).length (S a).length⟩ : Str) = _
    rw [S_len, ← ed]
    congr 1
    apply Array.toList_inj.mp
    simp only [Array.toList_extract, List.extract_eq_drop_take]
    exact List.take_of_length_le (by rw [List.length_drop]; omega)
/-- z[i:j] by codes -/
theorem cut_S {a : List Nat} {i j : Nat} (hi : i ≤ a.length) (hj : j ≤ a.length) : cutS (S a) (some ((i : Nat) : Int)) (some ((j : Nat) : Int)) = S ((a.drop i).take (j - i)) := by
  unfold cutS
  rw [S_len, HT.sIx_nat, HT.sIx_nat, Nat.min_eq_left hi, Nat.min_eq_left hj]
/-- a line: so many spaces, and perhaps a word -/
def lnT (s : Nat) (w : List Nat) : List Nat := List.replicate s 32 ++ w
theorem lnT_len (s : Nat) (w : List Nat) : (lnT s w).length = s + w.length := by simp [lnT]
theorem lnT_sp {s : Nat} {w : List Nat} {i : Nat} (h : i < s) : (lnT s w)[i]? = some 32 := by
  unfold lnT
  rw [List.getElem?_append_left (by simpa using h), List.getElem?_replicate, if_pos h]
theorem lnT_w {s : Nat} {w : List Nat} {i : Nat} : (lnT s w)[s + i]? = w[i]? := by
  unfold lnT
  rw [List.getElem?_append_right (by simp), List.length_replicate, Nat.add_sub_cancel_left]
theorem lnT_drop (s : Nat) (w : List Nat) : (lnT s w).drop s = w := by
  unfold lnT
  rw [List.drop_append_of_le_length (by simp)]
  simp
end LK

set_option Elab.async false
set_option linter.all false
set_option maxRecDepth 100000
set_option maxHeartbeats 4000000
/-! dicts of the top: what a literal dict of the program gives, read where it stands. -/
namespace LK
open PySem PySem.Spec PyProof.Rows L2
/-- at a lies a dict of the top with these entries -/
def KDct (P : Program) (w : World) (K : PySem.W.Frag) (a : Addr) (kvs : List (Key × V)) : Prop := (a == sysModules) = false ∧ ∃ vs, KV kvs vs ∧ ∀ h : Heap, K.In h → h.DictOf (mixKind P w) a vs
def tDGetK (P : Program) (w : World) (K : PySem.W.Frag) (td ty : TE) : TE := fun σ H Q => td σ H fun x H1 => ty σ H1 fun y H2 => ∃ a kvs k v, x = .ref a ∧ KDct P w K a kvs ∧ y = kV k ∧ valV kvs k = some v ∧ Q v H2
def tDInK (P : Program) (w : World) (K : PySem.W.Frag) (ty td : TE) : TE := fun σ H Q => ty σ H fun y H1 => td σ H1 fun x H2 => ∃ a kvs k, x = .ref a ∧ KDct P w K a kvs ∧ y = kV k ∧ Q (.bl (valV kvs k).isSome) H2
section
variable {X : Cx} {o i : Expr} {pos : Pos} {td ty : TE}
theorem pe_dgetK (ho : PE X o td) (hi : PE X i ty) (hs : NoSl i) : PE X (.Subscript o i pos) (tDGetK X.prog X.w X.K td ty) := by
  refine ⟨fun pins s σ H Q I h => ?_⟩
  refine subD_of PySem.F.slot_dict_getitem.lookup hs (thn (ho.run pins s σ H _ I h) fun u s1 ⟨x, H1, I1, rx, q1⟩ => thn (hi.run pins s1 σ H1 _ I1 q1) fun iv s2 ⟨y, H2, I2, ry, a, kvs, k, v, ex, ⟨hsys, vs, rel, dd⟩, ey, l, q2⟩ => ?_)
  subst ex ey
  obtain rfl : u = Value.ref a := rx
  have dd := dd _ I2.kIn
  refine ⟨dd.typeIs, ?_⟩
  obtain ⟨w', hw, rw'⟩ := RelO.some_of (v := v) (o := valueAt vs k) (by rw [← l]; exact rel.val k)
  exact wpAny_getItem_of (kV_is ry) dd.mapOf hw ⟨v, H2, I2.tok _, rw', q2⟩
theorem pc_dinK (hi : PE X i ty) (ho : PE X o td) : PC X .In i o (tDInK X.prog X.w X.K ty td) := by
  refine ⟨fun pins s σ H Q I h => ?_⟩
  refine thn (hi.run pins s σ H _ I h) fun iv s1 ⟨y, H1, I1, ry, q1⟩ => thn (ho.run pins s1 σ H1 _ I1 q1) fun u s2 ⟨x, H2, I2, rx, a, kvs, k, ex, ⟨hsys, vs, rel, dd⟩, ey, q2⟩ => ?_
  subst ex ey
  obtain rfl : u = Value.ref a := rx
  have dd := dd _ I2.kIn
  refine wpAny_in_of (kV_is ry) hsys dd.mapOf ?_
  rw [← (rel.val k).isSome_eq]
  exact ⟨.bl _, H2, I2.tok _, rfl, q2⟩
end
/-! its fact from the top -/
def HasDct (P : Program) (w : World) (K : PySem.W.Frag) (x : Str) (kvs : List (Key × V)) : Prop := ∃ a, PySem.W.nsIn K mainGlobals x = some (some (.ref a)) ∧ KDct P w K a kvs
structure UseD (P : Program) (w : World) (K : PySem.W.Frag) (mg : Str → Option Value) (x : Str) (kvs : List (Key × V)) : Prop where
  ex : ∃ a, mg x = some (.ref a) ∧ KDct P w K a kvs
/-- entries whose keys and values are texts -/
inductive DEnt (w : World) : List DictEntry → List (Str × Str) → Prop
  | nil : DEnt w [] []
  | cons {e : DictEntry} {es : List DictEntry} {k v : Str} {ps : List (Str × Str)} {t t' : Tok} : e.key = .str k t → e.hash = hashStr w k → e.val = .str v t' → DEnt w es ps → DEnt w (e :: es) ((k, v) :: ps)
def txtKV (ps : List (Str × Str)) : List (Key × V) := ps.map fun p => (.inr p.1, .str p.2)
theorem DEnt.pairs {P : Program} {w : World} : ∀ {es : List DictEntry} {ps : List (Str × Str)}, DEnt w es ps → ∃ vs : List (Key × Value), KV (txtKV ps) vs ∧ PySem.Pairs (mixKind P w) es vs ∧ vs.map (·.1) = ps.map (fun p => (Sum.inr p.1 : Key)) ∧ ∀ e ∈ es, ∃ k, (mixKind P w).is k e.key = true ∧ e.hash = (mixKind P w).hash k
  | _, _, .nil => ⟨[], .nil, .nil, rfl, fun _ h => by cases h⟩
  | _, _, .cons (k := k) (v := v) (t := t) (t' := t') hk hh hv r => by
    obtain ⟨vs, a, b, c, d⟩ := DEnt.pairs (P := P) r
    refine ⟨(.inr k, .str v t') :: vs, .cons ⟨rfl, ⟨_, rfl⟩⟩ a, .cons (by rw [hk]; exact mixKind_str P w k t) hv b, by rw [List.map_cons, c]; rfl, fun e he => ?_⟩
    rcases List.mem_cons.mp he with rfl | he
    · exact ⟨.inr k, by rw [hk]; exact mixKind_str P w k t, hh⟩
    · exact d e he
theorem nodup_inr : ∀ {xs : List Str}, xs.Nodup → (xs.map (Sum.inr : Str → Key)).Nodup
  | [], _ => .nil
  | x :: r, h => by
    obtain ⟨h1, h2⟩ := List.nodup_cons.mp h
    refine List.nodup_cons.mpr ⟨fun hm => ?_, nodup_inr h2⟩
    obtain ⟨y, hy, e⟩ := List.mem_map.mp hm
    exact h1 (Sum.inr.inj e ▸ hy)
theorem HasDct.mk' {P : Program} {w : World} {K : PySem.W.Frag} {x : Str} {ps : List (Str × Str)} {a : Addr} {es : Array DictEntry} {ep : Nat} (h : PySem.W.nsIn K mainGlobals x = some (some (.ref a)))
    (b : K.lookup a = some { cls := .type "dict", data := .dict es ep }) (hs : (a == sysModules) = false) (c : DEnt w es.toList ps) (nd : (ps.map (·.1)).Nodup) : HasDct P w K x (txtKV ps) := by
  obtain ⟨vs, v1, v2, v3, v4⟩ := DEnt.pairs (P := P) c
  refine ⟨a, h, hs, vs, v1, fun hh hK => ⟨_, es, ep, hK a _ b, ⟨rfl, rfl, rfl⟩, rfl, fun e he => v4 e (Array.mem_toList_iff.mpr he), v2, ?_⟩⟩
  rw [v3]
  have : ps.map (fun p => (Sum.inr p.1 : Key)) = (ps.map (·.1)).map Sum.inr := by rw [List.map_map]; rfl
  rw [this]
  exact nodup_inr nd
theorem HasDct.g {P : Program} {w : World} {K : PySem.W.Frag} {mg : Str → Option Value} {h : Heap} {x : Str} {kvs : List (Key × V)} (D : HasDct P w K x kvs) (X : K.In h) (G : h.Ns mainGlobals mg) : UseD P w K mg x kvs := by
  obtain ⟨a, e, k⟩ := D
  exact ⟨a, PySem.W.mg_of X G e, k⟩
end LK

set_option Elab.async false
set_option linter.all false
set_option maxRecDepth 100000
set_option maxHeartbeats 4000000
/-! dicts of the top: D.get(k, x); dicts of which the keys alone are told -/
namespace LK
open PySem PySem.Spec PyProof.Rows L2
def tDGet2K (P : Program) (w : World) (K : PySem.W.Frag) (td ty tx : TE) : TE := fun σ H Q => td σ H fun x H1 => ∃ a kvs, x = .ref a ∧ KDct P w K a kvs ∧ ty σ H1 fun y H2 => tx σ H2 fun z H3 => ∃ k, y = kV k ∧ Q ((valV kvs k).getD z) H3
theorem pe_dget2K {X : Cx} {o e f : Expr} {apos cpos : Pos} {td ty tx : TE} (ho : PE X o td) (he : PE X e ty) (hf : PE X f tx) (m : M2 X o "get" apos e f cpos) : PE X (.Call (.Attribute o "get" apos) [e, f] [] cpos) (tDGet2K X.prog X.w X.K td ty tx) := by
  refine ⟨fun pins s σ H Q I h => ?_⟩
  refine wpAny_Call_method m.base m.few m.line PySem.F.plainAttrs_dict PySem.F.slot_dict_get PySem.F.type_dict_get (thn (ho.run pins s σ H _ I h) fun u s1 ⟨x, H1, I1, rx, a, kvs, ex, ⟨hsys, vs, rel, dd0⟩, q1⟩ => ?_)
  subst ex
  obtain rfl : u = Value.ref a := rx
  have dd1 := dd0 _ I1.kIn
  refine ⟨dd1.typeIs, fun b q => ?_, ?_⟩
  · cases q
    obtain ⟨ob, _, _, h1, h2, _⟩ := dd1
    exact ⟨ob, h1, h2.2.1⟩
  rw [m.trees]
  refine Calls.callWith_builtin rfl (Calls.evalArgs_plain (Calls.spliced_cons (thn (he.run pins s1 σ H1 _ I1 q1) fun iv s2 ⟨y, H2, I2, ry, q2⟩ =>
    Calls.spliced_cons (thn (hf.run pins s2 σ H2 _ I2 q2) fun fv s3 ⟨z, H3, I3, rz, k, ey, q3⟩ => Calls.spliced_nil ?_))))
  subst ey
  have dd := dd0 _ I3.kIn
  refine call_meetsIn PySem.F.slot_dict_get dd.typeIs PySem.F.entry_dict_get (PySem.F.args_dict_get_3 _ _ _) (meets_dict_get_default (mixKind X.prog X.w) a (kV_is ry) hsys fv) ⟨_, dd.mapOf, ?_⟩
  exact ⟨_, H3, I3.tok _, (rel.val k).getD rz, q3⟩
def tNotInM (P : Program) (w : World) (K : PySem.W.Frag) (ty td : TE) : TE := fun σ H Q => ty σ H fun y H1 => td σ H1 fun x H2 => ∃ a kvs k, x = .ref a ∧ KDct P w K a kvs ∧ y = kV k ∧ Q (.bl (!(valV kvs k).isSome)) H2
theorem pc_dnotinM {X : Cx} {o i : Expr} {td ty : TE} (hi : PE X i ty) (ho : PE X o td) : PC X .NotIn i o (tNotInM X.prog X.w X.K ty td) := by
  refine ⟨fun pins s σ H Q I h => ?_⟩
  refine thn (hi.run pins s σ H _ I h) fun iv s1 ⟨y, H1, I1, ry, q1⟩ => thn (ho.run pins s1 σ H1 _ I1 q1) fun u s2 ⟨x, H2, I2, rx, a, kvs, k, ex, ⟨low, vs, rel, dd⟩, ey, q2⟩ => ?_
  subst ex ey
  obtain rfl : u = Value.ref a := rx
  have dd := dd _ I2.kIn
  refine wpAny_notIn_of (kV_is ry) low dd.mapOf ?_
  rw [← (rel.val k).isSome_eq]
  exact ⟨.bl _, H2, I2.tok _, rfl, q2⟩
/-! a dict whose values are objects of the top: its keys alone -/
inductive DEntR (w : World) : List DictEntry → List Str → Prop
  | nil : DEntR w [] []
  | cons {e : DictEntry} {es : List DictEntry} {k : Str} {b : Addr} {ps : List Str} {t : Tok} : e.key = .str k t → e.hash = hashStr w k → e.val = .ref b → DEntR w es ps → DEntR w (e :: es) (k :: ps)
theorem DEntR.pairs {P : Program} {w : World} : ∀ {es : List DictEntry} {ps : List Str}, DEntR w es ps → ∃ (kvs : List (Key × V)) (vs : List (Key × Value)), kvs.map (·.1) = ps.map (fun p => (Sum.inr p : Key)) ∧ KV kvs vs ∧ PySem.Pairs (mixKind P w) es vs ∧ vs.map (·.1) = ps.map (fun p => (Sum.inr p : Key)) ∧ ∀ e ∈ es, ∃ k, (mixKind P w).is k e.key = true ∧ e.hash = (mixKind P w).hash k
  | _, _, .nil => ⟨[], [], rfl, .nil, .nil, rfl, fun _ h => by cases h⟩
  | _, _, .cons (k := k) (b := b) (t := t) hk hh hv r => by
    obtain ⟨kvs, vs, z, a, b', c, d⟩ := DEntR.pairs (P := P) r
    refine ⟨(.inr k, .ref b) :: kvs, (.inr k, .ref b) :: vs, by rw [List.map_cons, z]; rfl, .cons ⟨rfl, rfl⟩ a, .cons (by rw [hk]; exact mixKind_str P w k t) hv b', by rw [List.map_cons, c]; rfl, fun e he => ?_⟩
    rcases List.mem_cons.mp he with rfl | he
    · exact ⟨.inr k, by rw [hk]; exact mixKind_str P w k t, hh⟩
    · exact d e he
def HasKeys (P : Program) (w : World) (K : PySem.W.Frag) (x : Str) (ps : List Str) : Prop := ∃ kvs, kvs.map (·.1) = ps.map (fun p => (Sum.inr p : Key)) ∧ HasDct P w K x kvs
theorem HasKeys.mk' {P : Program} {w : World} {K : PySem.W.Frag} {x : Str} {ps : List Str} {a : Addr} {es : Array DictEntry} {ep : Nat} (h : PySem.W.nsIn K mainGlobals x = some (some (.ref a)))
    (b : K.lookup a = some { cls := .type "dict", data := .dict es ep }) (hs : (a == sysModules) = false) (c : DEntR w es.toList ps) (nd : ps.Nodup) : HasKeys P w K x ps := by
  obtain ⟨kvs, vs, z, v1, v2, v3, v4⟩ := DEntR.pairs (P := P) c
  refine ⟨kvs, z, a, h, hs, vs, v1, fun hh hK => ⟨_, es, ep, hK a _ b, ⟨rfl, rfl, rfl⟩, rfl, fun e he => v4 e (Array.mem_toList_iff.mpr he), v2, ?_⟩⟩
  rw [v3]
  exact nodup_inr nd
structure UseK (P : Program) (w : World) (K : PySem.W.Frag) (mg : Str → Option Value) (x : Str) (ps : List Str) : Prop where
  ex : ∃ a kvs, mg x = some (.ref a) ∧ KDct P w K a kvs ∧ ∀ z : Str, (valV kvs (.inr z)).isSome = decide (z ∈ ps)
theorem valV_keys {z : Str} : ∀ {ps : List Str} {kvs : List (Key × V)}, kvs.map (·.1) = ps.map (fun p => (Sum.inr p : Key)) → (valV kvs (.inr z)).isSome = decide (z ∈ ps)
  | [], [], _ => rfl
  | [], p :: r, h => by cases h
  | x :: ps, [], h => by cases h
  | x :: ps, (k, v) :: r, h => by
    obtain ⟨h1, h2⟩ := List.cons.inj h
    have ih := valV_keys (ps := ps) (z := z) h2
    have h1 : k = Sum.inr x := h1
    subst h1
    unfold valV at ih ⊢
    rw [List.find?_cons]
    by_cases e : x = z
    · subst e
      simp
    · have e1 : ¬ (Sum.inr x : Key) = Sum.inr z := fun h => e (Sum.inr.inj h)
      have e2 : ¬ z = x := fun h => e h.symm
      rw [show decide ((Sum.inr x, v).1 = (Sum.inr z : Key)) = false from decide_eq_false e1]
      simp only [List.mem_cons, e2, false_or]
      exact ih
theorem HasKeys.g {P : Program} {w : World} {K : PySem.W.Frag} {mg : Str → Option Value} {h : Heap} {x : Str} {ps : List Str} (D : HasKeys P w K x ps) (X : K.In h) (G : h.Ns mainGlobals mg) : UseK P w K mg x ps := by
  obtain ⟨kvs, z, D⟩ := D
  obtain ⟨a, e, k⟩ := (D.g X G).ex
  exact ⟨a, kvs, e, k, fun _ => valV_keys z⟩
end LK

set_option Elab.async false
set_option linter.all false
set_option maxRecDepth 100000
set_option maxHeartbeats 4000000
set_option exponentiation.threshold 3000
namespace K32
open PySem PySem.Spec PyProof.Rows LK SX
open L2
def sigs : List Str := (["print", "len", "range", "repr", "str", "int", "list", "tuple", "dict", "iter", "next", "isinstance", "abs", "str.find", "str.replace", "str.split", "str.join", "str.startswith", "str.endswith", "str.strip"] : List Str) ++ (["str.upper", "str.lower", "str.isdigit", "list.append", "list.pop", "list.insert", "list.remove", "list.index", "list.count", "list.extend", "list.reverse", "list.copy", "list.clear", "tuple.index", "tuple.count", "dict.get", "dict.pop", "dict.setdefault", "dict.update", "dict.keys", "dict.values", "dict.items", "dict.copy", "dict.clear", "gen.send", "gen.close"] : List Str)
def top (i : Nat) : Stmt := PySem.Challenge.pw_pyhold_k32_attributes_in_order.main.body.getD i (.Pass ⟨0, 0, 0, 0⟩)
structure Txt (K : PySem.W.Frag) (mg : Str → Option Value) : Prop where
  c_ATTRIBUTE_ERROR : GInt mg "ATTRIBUTE_ERROR" 9
  b_len : mg "len" = none
  b_int : mg "int" = none
  b_range : mg "range" = none
  b_list : mg "list" = none
  b_tuple : mg "tuple" = none
  b_repr : mg "repr" = none
  b_str : mg "str" = none
abbrev s_law_cell : Stmt := top 21
abbrev N_law_cell : List Str := ["script", "k"]
abbrev P_law_cell : List Str := ["script", "k"]
theorem sc_law_cell : FnScope N_law_cell P_law_cell (defScope s_law_cell) := ⟨rfl, rfl, rfl, by decide +kernel, rfl, by decide +kernel, by decide +kernel⟩
abbrev s_law_digits : Stmt := top 22
abbrev N_law_digits : List Str := ["script", "first", "last", "digits", "k", "cell", "turn", "seed"]
abbrev P_law_digits : List Str := ["script", "first", "last"]
theorem sc_law_digits : FnScope N_law_digits P_law_digits (defScope s_law_digits) := ⟨rfl, rfl, rfl, by decide +kernel, rfl, by decide +kernel, by decide +kernel⟩
abbrev s_law_draw : Stmt := top 23
abbrev N_law_draw : List Str := ["box", "many", "at"]
abbrev P_law_draw : List Str := ["box", "many"]
theorem sc_law_draw : FnScope N_law_draw P_law_draw (defScope s_law_draw) := ⟨rfl, rfl, rfl, by decide +kernel, rfl, by decide +kernel, by decide +kernel⟩
section
variable {P : Program} {w : World} {K : PySem.W.Frag} {mg : Str → Option Value} {base : Heap}
theorem ok_draw {f : Addr} {fd : FuncData} (F : Fun K "_law_draw" "_law_draw" s_law_draw f fd) (T : Txt K mg) : FnG P w K mg base CX0 1 f fd P_law_draw (spDraw K) := by
  refine okG0 F sc_law_draw (fun vs H Q E h => ?_) fun cdv A outer s H vs Q E hr hg h => ?_
  · obtain ⟨p, dl, m, rfl, _⟩ := h
    rfl
  · obtain ⟨p, dl, m, rfl, B, hm, k⟩ := h
    obtain ⟨ds, n, hp, hn, hd, hl, hds⟩ := id B
    refine ⟨_, (pss_cons (ps_set (i := 2) sc_law_draw.nd rfl (Or.inl rfl) (pe_ix ix_list (pv 0) pe_int (fun _ _ => rfl)))
  (pss_cons (ps_asg (pe_op op_add (pv 2) pe_int) (pg_sub (pv 0) pe_int set_list))
  (pss_cons (ps_if (pt_cmpR op_lt (pv 2) (pe_callB call_len (by rfl) T.b_len PySem.boot_len (pa_cons (pe_ix ix_list (pv 0) pe_int (fun _ _ => rfl)) pa_nil)) (nomark _))
   (pss_one (ps_ret (pe_op op_mod (pe_callTy call_int1 (by rfl) T.b_int (by decide +kernel) (pa_cons (pe_ix ix_list (pe_ix ix_list (pv 0) pe_int (fun _ _ => rfl)) (pv 2) (fun _ _ => rfl)) pa_nil)) (pv 1))))
   pss_nil)
  (pss_one (ps_ret (pe_op op_mod (pe_callTy call_int1 (by rfl) T.b_int (by decide +kernel) (pa_cons (pe_op op_add (pe_op op_mul (pv 2) pe_int) pe_int) pa_nil)) (pv 1))))))), ?_⟩
    -- at = box[1]; box[1] = at + 1
    refine ⟨_, rfl, p, _, _, _, rfl, rfl, SqL.of hp, rfl, ?_⟩
    refine ⟨_, rfl, _, _, rfl, rfl, _, rfl, p, _, _, _, rfl, rfl, hp, rfl, ?_⟩
    have npd : dl ≠ p := by
      intro e
      subst e
      rw [hp] at hd
      have e := HO.lst.inj (Option.some.inj hd)
      cases ds with
      | nil => cases e
      | cons d ds => cases (List.cons.inj e).1
    have B' : BoxAt (upd H p (.lst [.ref dl, .int (n + 1)])) p dl := ⟨ds, n + 1, upd_same, by omega, by rw [upd_ne npd]; exact hd, hl, hds⟩
    have kp : Keep p H (upd H p (.lst [.ref dl, .int (n + 1)])) := fun b o e hb => by rw [upd_ne hb]; exact e
    have hd' : upd H p (.lst [.ref dl, .int (n + 1)]) dl = some (.lst (ds.map V.int)) := by rw [upd_ne npd]; exact hd
    -- if at < len(box[0])
    refine ⟨_, rfl, _, rfl, p, _, _, _, rfl, rfl, SqL.of upd_same, rfl, _, _, rfl, .inl ⟨_, SqL.of hd', rfl⟩, ?_⟩
    refine ⟨_, _, rfl, rfl, _, rfl, ?_⟩
    refine ite2 (fun c => ?_) fun c => ?_
    · have c1 : n < (ds.length : Int) := by simpa using c
      have c2 : n.toNat < ds.length := by omega
      have mem := hds _ (List.getElem_mem c2)
      refine ⟨_, rfl, p, _, _, _, rfl, rfl, SqL.of upd_same, rfl, _, rfl, dl, _, _, .int ds[n.toNat], rfl, rfl, SqL.of hd', ?_, .inl ⟨_, rfl, ?_⟩⟩
      · have e : n = ((n.toNat : Nat) : Int) := by omega
        exact at_of e (by simp [c2])
      · refine ⟨_, rfl, _, _, rfl, rfl, hm, ?_⟩
        exact k _ _ (Int.emod_nonneg _ (by omega)) (Int.emod_lt_of_pos _ hm) B' kp
    · refine ⟨_, rfl, _, _, rfl, rfl, .inr ⟨by decide, by decide⟩, _, _, rfl, rfl, .inl ⟨_, rfl, _, rfl, _, _, rfl, rfl, hm, ?_⟩⟩
      exact k _ _ (Int.emod_nonneg _ (by omega)) (Int.emod_lt_of_pos _ hm) B' kp
theorem ok_cell {f : Addr} {fd : FuncData} (F : Fun K "_law_cell" "_law_cell" s_law_cell f fd) (T : Txt K mg) : FnG P w K mg base CX0 1 f fd P_law_cell (spCell K) := by
  refine okG0 F sc_law_cell (fun vs H Q E h => ?_) fun cdv A outer s H vs Q E hr hg h => ?_
  · obtain ⟨a, ns, i, rfl, _⟩ := h
    rfl
  · obtain ⟨a, ns, i, rfl, hs, hi, k⟩ := h
    refine ⟨_, (pss_cons (ps_if (pt_cmpR op_lt (pv 1) (pe_callB call_len (by rfl) T.b_len PySem.boot_len (pa_cons (pv 0) pa_nil)) (nomark _))
   (pss_one (ps_ret (pe_ix ix_list (pv 0) (pv 1) (fun _ _ => rfl))))
   pss_nil)
  (pss_one (ps_ret pe_int))), ?_⟩
    refine ⟨_, rfl, _, rfl, _, _, rfl, .inl ⟨_, hs, rfl⟩, _, _, rfl, rfl, _, rfl, ?_⟩
    refine ite3 (fun c => ?_) fun _ => k 0
    have c1 : i < (ns.length : Int) := by simpa using c
    have c2 : i.toNat < ns.length := by omega
    exact ⟨_, rfl, _, rfl, a, _, _, .int ns[i.toNat], rfl, rfl, hs, at_of (show i = ((i.toNat : Nat) : Int) by omega) (by simp [c2]), k _⟩
theorem ok_digits {f : Addr} {fd : FuncData} (F : Fun K "_law_digits" "_law_digits" s_law_digits f fd) (T : Txt K mg) (U_law_cell : Use P w K mg base CX0 "_law_cell" 1 P_law_cell (spCell K)) : FnG P w K mg base CX0 2 f fd P_law_digits (spDigits K) := by
  refine okG0 F sc_law_digits (fun vs H Q E h => ?_) fun cdv A outer s H vs Q E hr hg h => ?_
  · obtain ⟨a, ns, lo, hi, rfl, _⟩ := h
    rfl
  · obtain ⟨a, ns, lo, hi, rfl, hs, hlo, hhi, k⟩ := h
    refine ⟨_, (pss_cons (ps_set (i := 3) sc_law_digits.nd rfl (Or.inl rfl) (pe_lst pa_nil))
  (pss_cons (ps_for PassesOwn.never rfl (pi_range2 (by rfl) T.b_range (pa_cons (pv 1) (pa_cons (pv 2) pa_nil))) (pg_name (i := 4) sc_law_digits.nd rfl (Or.inl rfl))
   (pss_cons (ps_set (i := 5) sc_law_digits.nd rfl (Or.inl rfl) (pe_use U_law_cell (hr.mono (by decide)) hg rfl (pa_cons (pv 0) (pa_cons (pv 4) pa_nil))))
  (C8.pss_cut (ps_if (pt_cmpR op_lt (pv 5) pe_int (nomark _))
   (pss_one (ps_set (i := 5) sc_law_digits.nd rfl (Or.inl rfl) (pe_op op_sub pe_int (pe_op op_mul pe_int (pv 5)))))
   pss_nil)
  (pss_one (ps_if (pt_cmpR op_ge (pv 5) (pe_op op_pow pe_int pe_int) (nomark _))
   (pss_one (ps_for PassesOwn.never rfl (pi_range1 (by rfl) T.b_range (pa_cons pe_int pa_nil)) (pg_name (i := 6) sc_law_digits.nd rfl (Or.inl rfl))
   (pss_one (ps_if (pt_cmpR op_gt (pv 5) pe_int (nomark _))
   (pss_cons (ps_expr (pe_bm PySem.F.plainAttrs_list PySem.F.slot_list_append PySem.F.type_list_append mt_append (pv 3) (pa_cons (pe_op op_mod (pe_callTy call_int1 (by rfl) T.b_int (by decide +kernel) (pa_cons (pv 5) pa_nil)) pe_int) pa_nil)))
  (pss_one (ps_set (i := 5) sc_law_digits.nd rfl (Or.inl rfl) (pe_op op_fdiv (pv 5) pe_int))))
   pss_nil))))
   (pss_cons (ps_set (i := 7) sc_law_digits.nd rfl (Or.inl rfl) (pe_op op_mod (pe_callTy call_int1 (by rfl) T.b_int (by decide +kernel) (pa_cons (pe_op op_add (pe_op op_add (pe_op op_mul (pv 5) pe_int) (pe_op op_mul (pv 4) pe_int)) pe_int) pa_nil)) pe_int))
  (pss_one (ps_for PassesOwn.never rfl (pi_range1 (by rfl) T.b_range (pa_cons pe_int pa_nil)) (pg_name (i := 6) sc_law_digits.nd rfl (Or.inl rfl))
   (pss_cons (ps_set (i := 7) sc_law_digits.nd rfl (Or.inl rfl) (pe_op op_mod (pe_callTy call_int1 (by rfl) T.b_int (by decide +kernel) (pa_cons (pe_op op_add (pe_op op_add (pe_op op_mul (pv 7) pe_int) (pe_op op_mul pe_int (pv 6))) pe_int) pa_nil)) pe_int))
  (pss_one (ps_expr (pe_bm PySem.F.plainAttrs_list PySem.F.slot_list_append PySem.F.type_list_append mt_append (pv 3) (pa_cons (pe_op op_mod (pe_callTy call_int1 (by rfl) T.b_int (by decide +kernel) (pa_cons (pe_op op_fdiv (pv 7) pe_int) pa_nil)) pe_int) pa_nil)))))))))))))
  (pss_one (ps_ret (pv 3))))), ?_⟩
    refine ⟨by decide, fun dl nd => ?_⟩
    have sz : (4000 : Nat) < sizeLine := by decide
    -- for k in range(first, last)
    refine ⟨_, rfl, _, rfl, _, _, rfl, ⟨by omega, by omega, by omega, by omega⟩, ?_⟩
    refine for_range (lo := (lo : Int)) (n := ((hi : Int) - (lo : Int)).toNat) (fun i σ H1 => ∃ x5 x6 x7 x4, σ = [some (.ref a), some (.int lo), some (.int hi), some (.ref dl), x4, x5, x6, x7] ∧ DigAt H H1 dl (60 * i)) ?_ ?_ ?_
    · exact ⟨none, none, none, none, rfl, [], upd_same, by simp, by simp, Same.new nd⟩
    · rintro i σ H1 hi' ⟨x5, x6, x7, x4, rfl, D⟩
      have S1 : Same H H1 := let ⟨_, _, _, _, z⟩ := D; z
      -- cell = _law_cell(script, k)
      refine ⟨_, rfl, _, rfl, a, ns, _, rfl, S1.seq hs, by omega, fun cell => ?_⟩
      -- if cell < 0: cell = 1 - 2 * cell
      refine ⟨fun σ H2 => ∃ c : Int, σ = [some (.ref a), some (.int lo), some (.int hi), some (.ref dl), some (.int ((lo : Int) + i)), some (.int c), x6, x7] ∧ H2 = H1, ?_, ?_⟩
      · refine ⟨_, rfl, _, _, rfl, rfl, _, rfl, ?_⟩
        refine ite3 (fun _ => ?_) fun _ => ⟨cell, rfl, rfl⟩
        exact ⟨_, rfl, _, _, rfl, rfl, .inl ⟨by decide, by decide⟩, _, _, rfl, rfl, _, rfl, rfl⟩
      · rintro _ _ ⟨c, rfl, rfl⟩
        -- if cell >= 10 ** 18
        refine ⟨_, rfl, _, _, rfl, rfl, ⟨by decide, by decide, by decide⟩, _, _, rfl, rfl, _, rfl, ?_⟩
        refine ite3 (fun hc => ?_) fun hc => ?_
        · refine ⟨_, rfl, by decide, by decide, ?_⟩
          refine for_range (lo := 0) (n := 60) (fun j σ H1 => ∃ (c : Int) (y6 : Option V), σ = [some (.ref a), some (.int lo), some (.int hi), some (.ref dl), some (.int ((lo : Int) + i)), some (.int c), y6, x7] ∧ DigAt H H1 dl (60 * i + j)) ⟨c, x6, rfl, D⟩ ?_ ?_
          · rintro j σ H2 hj ⟨c, y6, rfl, D2⟩
            obtain ⟨ds, hd, hl, _⟩ := id D2
            refine ⟨_, rfl, _, _, rfl, rfl, _, rfl, ?_⟩
            refine ite3 (fun hp => ?_) fun _ => ⟨c, _, rfl, D2.mono (by omega)⟩
            have hp : 0 < c := by simpa using hp
            refine ⟨_, rfl, .inl ⟨rfl, _, SqL.of hd⟩, _, rfl, .inl ⟨_, rfl, _, _, rfl, rfl, (by show (0 : Int) < 1000; decide), dl, _, _, rfl, rfl, hd, (by simp; omega), ?_⟩⟩
            refine ⟨_, rfl, _, _, rfl, rfl, ⟨by decide, by decide⟩, ?_⟩
            exact ⟨_, _, rfl, D2.add hd nd (Int.emod_nonneg _ (by decide)) (Int.emod_lt_of_pos _ (by decide))⟩
          · rintro σ H2 ⟨c, y6, rfl, D2⟩
            exact ⟨_, _, _, _, rfl, D2.mono (by omega)⟩
        · refine ⟨_, rfl, _, _, rfl, rfl, .inr ⟨by decide, by decide⟩, _, rfl, _, _, rfl, rfl, .inr ⟨by decide, by decide⟩, _, _, rfl, rfl, _, _, rfl, rfl, .inl ⟨_, rfl, _, _, rfl, rfl, (by show (0 : Int) < 2147483647; decide), ?_⟩⟩
          refine ⟨_, rfl, by decide, by decide, ?_⟩
          refine for_range (lo := 0) (n := 12) (fun j σ H1 => ∃ (sd : Int) (y6 : Option V), σ = [some (.ref a), some (.int lo), some (.int hi), some (.ref dl), some (.int ((lo : Int) + i)), some (.int c), y6, some (.int sd)] ∧ DigAt H H1 dl (60 * i + j)) ⟨_, x6, rfl, D⟩ ?_ ?_
          · rintro j σ H2 hj ⟨sd, y6, rfl, D2⟩
            obtain ⟨ds, hd, hl, _⟩ := id D2
            refine ⟨_, rfl, _, _, rfl, rfl, .inr ⟨by decide, by decide⟩, _, rfl, _, _, rfl, rfl, .inl ⟨by decide, by decide⟩, _, _, rfl, rfl, _, _, rfl, rfl, .inl ⟨_, rfl, _, _, rfl, rfl, (by show (0 : Int) < 2147483647; decide), ?_⟩⟩
            refine ⟨_, rfl, .inl ⟨rfl, _, SqL.of hd⟩, _, rfl, _, _, rfl, rfl, ⟨by decide, by decide⟩, .inl ⟨_, rfl, _, _, rfl, rfl, (by show (0 : Int) < 1000; decide), dl, _, _, rfl, rfl, hd, (by simp; omega), ?_⟩⟩
            exact ⟨_, _, rfl, D2.add hd nd (Int.emod_nonneg _ (by decide)) (Int.emod_lt_of_pos _ (by decide))⟩
          · rintro σ H2 ⟨sd, y6, rfl, D2⟩
            exact ⟨_, _, _, _, rfl, D2.mono (by omega)⟩
    · rintro σ H1 ⟨x5, x6, x7, x4, rfl, D⟩
      exact ⟨_, rfl, k dl H1 nd (D.mono (by omega))⟩
end

section
/-! data whose texts are texts and that are not deep -/
def Shp (n : Nat) (d : PyData) : Prop := d.canLay0 = true ∧ d.depth ≤ n
theorem Shp.all {n : Nat} : ∀ {ds : List PyData}, (∀ d ∈ ds, Shp n d) → PyData.canLayAll0 ds = true ∧ PyData.depthAll ds ≤ n
  | [], _ => ⟨rfl, Nat.zero_le _⟩
  | d :: r, h => by
    obtain ⟨a, b⟩ := h d (by simp)
    obtain ⟨c, e⟩ := Shp.all (ds := r) fun x hx => h x (List.mem_cons_of_mem _ hx)
    exact ⟨by simp only [PyData.canLayAll0, a, c]; rfl, Nat.max_le.mpr ⟨b, e⟩⟩
theorem Shp.tup {n : Nat} {ds : List PyData} (h : ∀ d ∈ ds, Shp n d) : Shp (n + 1) (.tuple ds) := by
  obtain ⟨a, b⟩ := Shp.all h
  exact ⟨by simp only [PyData.canLay0]; exact a, show PyData.depthAll ds + 1 ≤ n + 1 by omega⟩
theorem Shp.lst {n : Nat} {ds : List PyData} (h : ∀ d ∈ ds, Shp n d) : Shp (n + 1) (.list ds) := by
  obtain ⟨a, b⟩ := Shp.all h
  exact ⟨by simp only [PyData.canLay0]; exact a, show PyData.depthAll ds + 1 ≤ n + 1 by omega⟩
theorem Shp.sh {n : Nat} {d : PyData} (h : Shp n d) (hn : n ≤ 64) : SeqAt.shaped d = true := by
  unfold SeqAt.shaped
  rw [h.1, decide_eq_true (Nat.le_trans h.2 hn)]; rfl
theorem Shp.mono {n m : Nat} {d : PyData} (h : Shp n d) (l : n ≤ m) : Shp m d := ⟨h.1, Nat.le_trans h.2 l⟩
theorem Shp.str {n : Nat} {x : Str} (h : PyData.canLay0 (.str x) = true) : Shp n (.str x) := ⟨h, Nat.zero_le _⟩
theorem Shp.int (n : Nat) (i : Int) : Shp n (.int i) := ⟨rfl, Nat.zero_le _⟩
theorem Shp.bool (n : Nat) (b : Bool) : Shp n (.bool b) := ⟨rfl, Nat.zero_le _⟩
theorem Shp.nil : Shp 1 (.tuple []) := Shp.tup (n := 0) fun _ h => by cases h
theorem Shp.cons2 {n : Nat} {d : PyData} {ds : List PyData} (h : Shp n d) (t : ∀ x ∈ ds, Shp n x) : ∀ x ∈ d :: ds, Shp n x := fun x hx => by
  rcases List.mem_cons.mp hx with rfl | hx
  · exact h
  · exact t x hx
theorem Shp.none2 {n : Nat} : ∀ x ∈ ([] : List PyData), Shp n x := fun _ h => by cases h
theorem Shp.strS {n : Nat} {a : List Nat} (h : ∀ c ∈ a, c < 128) : Shp n (.str (S a)) := by
  refine Shp.str ?_
  rw [PyData.canLay0]
  exact Array.all_eq_true_iff_forall_mem.mpr fun c hc => by
    have := h c (by simpa [S] using hc)
    exact decide_eq_true (by omega)
end

abbrev s_law_same : Stmt := top 26
abbrev N_law_same : List Str := ["actual", "due"]
abbrev P_law_same : List Str := ["actual", "due"]
theorem sc_law_same : FnScope N_law_same P_law_same (defScope s_law_same) := ⟨rfl, rfl, rfl, by decide +kernel, rfl, by decide +kernel, by decide +kernel⟩
section
variable {P : Program} {w : World} {K : PySem.W.Frag} {mg : Str → Option Value} {base : Heap}
theorem ok_same {f : Addr} {fd : FuncData} (F : Fun K "_law_same" "_law_same" s_law_same f fd) (T : Txt K mg) : FnG P w K mg base CX0 1 f fd P_law_same (spSame K) := by
  refine okG0 F sc_law_same (fun vs H Q E h => ?_) fun cdv A outer s H vs Q E hr hg h => ?_
  · obtain ⟨x, y, d, rfl, _⟩ := h
    rfl
  · obtain ⟨x, y, d, rfl, hx, hy, hs, k⟩ := h
    refine ⟨_, (pss_one (ps_ret (pe_cmpR op_eq (pe_callB (call_repr_data hg hr.units) (by rfl) T.b_repr (by decide +kernel) (pa_cons (pv 0) pa_nil)) (pe_callB (call_repr_data hg hr.units) (by rfl) T.b_repr (by decide +kernel) (pa_cons (pv 1) pa_nil)) (nomark _)))), ?_⟩
    refine ⟨_, rfl, _, d, rfl, hx, hs, _, rfl, _, d, rfl, hy, hs, rfl, ?_⟩
    rw [decide_eq_true rfl]
    exact k
end

abbrev s_law_names : Stmt := top 24
abbrev N_law_names : List Str := ["box", "letters", "first", "place", "names", "k", "letter"]
abbrev P_law_names : List Str := ["box"]
theorem sc_law_names : FnScope N_law_names P_law_names (defScope s_law_names) := ⟨rfl, rfl, rfl, by decide +kernel, rfl, by decide +kernel, by decide +kernel⟩
abbrev s_law_value : Stmt := top 25
abbrev N_law_value : List Str := ["box", "kind"]
abbrev P_law_value : List Str := ["box"]
theorem sc_law_value : FnScope N_law_value P_law_value (defScope s_law_value) := ⟨rfl, rfl, rfl, by decide +kernel, rfl, by decide +kernel, by decide +kernel⟩
section
variable {P : Program} {w : World} {K : PySem.W.Frag} {mg : Str → Option Value} {base : Heap}
structure NameOk (x : Str) : Prop where
  ex : ∃ a : List Nat, x = S a ∧ a.length ≤ 10 ∧ ∀ c ∈ a, c < 128
  hd : ∃ r, x = S (110 :: r)
theorem NameOk.len {x : Str} (h : NameOk x) : x.length ≤ 10 := by
  obtain ⟨a, rfl, h1, _⟩ := h.ex
  rw [S_len]; exact h1
theorem NameOk.sm {x : Str} (h : NameOk x) : Sm (.str x) 0 200 := by
  obtain ⟨a, rfl, h1, h2⟩ := h.ex
  refine (Sm.str (n := 10) (by rw [S_len]; exact h1) fun c hc => ?_).mono (Nat.le_refl _) (by omega)
  have := h2 c (by simpa [S] using hc)
  omega
theorem NameOk.shp {n : Nat} {x : Str} (h : NameOk x) : Shp n (.str x) := by
  obtain ⟨a, rfl, _, h2⟩ := h.ex
  exact Shp.strS h2
def spNames (K : PySem.W.Frag) : Sp := fun vs H Q _ => ∃ p dl, vs = [.ref p] ∧ BoxAt H p dl ∧ ∀ (np : Addr) (ns : List Str) (H' : Hp), H np = none → BoxAt H' p dl → Keep p H H' → H' np = some (.lst (ns.map V.str)) → ns.length = 8 → (∀ x ∈ ns, NameOk x) → Q (.ref np) H'
def lets : List Nat := ("abcdefghijklmnopqrstuvwxyz" : Str).cps.toList
theorem cut_xyz {r : Int} (h0 : 0 ≤ r) (h1 : r < 4) : ∃ u v : List Nat, cutS "xyz" none (some r) = S u ∧ cutS "xyz" (some r) none = S v ∧ u.length ≤ 3 ∧ v.length ≤ 3 ∧ (∀ c ∈ u, c < 128) ∧ (∀ c ∈ v, c < 128) := by
  obtain ⟨i, rfl⟩ := Int.eq_ofNat_of_zero_le h0
  match i, h1 with
  | 0, _ => exact ⟨[], [120, 121, 122], by decide +kernel, by decide +kernel, by decide, by decide, by decide, by decide⟩
  | 1, _ => exact ⟨[120], [121, 122], by decide +kernel, by decide +kernel, by decide, by decide, by decide, by decide⟩
  | 2, _ => exact ⟨[120, 121], [122], by decide +kernel, by decide +kernel, by decide, by decide, by decide, by decide⟩
  | 3, _ => exact ⟨[120, 121, 122], [], by decide +kernel, by decide +kernel, by decide, by decide, by decide, by decide⟩
  | i + 4, h => omega
theorem none_back {p np : Addr} {H H' : Hp} (K1 : Keep p H H') (B : ∃ xs, H' p = some (.lst xs)) (h : H' np = none) : H np = none := by
  cases e : H np with
  | none => rfl
  | some o =>
    by_cases ep : np = p
    · subst ep
      obtain ⟨xs, g⟩ := B
      rw [g] at h; cases h
    · rw [K1 _ _ e ep] at h; cases h
theorem ok_names {f : Addr} {fd : FuncData} (F : Fun K "_law_names" "_law_names" s_law_names f fd) (T : Txt K mg) (U_law_draw : Use P w K mg base CX0 "_law_draw" 1 P_law_draw (spDraw K)) : FnG P w K mg base CX0 2 f fd P_law_names (spNames K) := by
  refine okG0 F sc_law_names (fun vs H Q E h => ?_) fun cdv A outer s H vs Q E hr hg h => ?_
  · obtain ⟨p, dl, rfl, _⟩ := h
    rfl
  · obtain ⟨p, dl, rfl, B, k⟩ := h
    refine ⟨_, (pss_cons (ps_set (i := 1) sc_law_names.nd rfl (Or.inl rfl) pe_str)
  (pss_cons (ps_set (i := 2) sc_law_names.nd rfl (Or.inl rfl) (pe_use U_law_draw (hr.mono (by decide)) hg rfl (pa_cons (pv 0) (pa_cons pe_int pa_nil))))
  (pss_cons (ps_set (i := 3) sc_law_names.nd rfl (Or.inl rfl) (pe_use U_law_draw (hr.mono (by decide)) hg rfl (pa_cons (pv 0) (pa_cons pe_int pa_nil))))
  (pss_cons (ps_set (i := 4) sc_law_names.nd rfl (Or.inl rfl) (pe_lst pa_nil))
  (pss_cons (ps_for PassesOwn.never rfl (pi_range1 (by rfl) T.b_range (pa_cons pe_int pa_nil)) (pg_name (i := 5) sc_law_names.nd rfl (Or.inl rfl))
   (pss_cons (ps_set (i := 6) sc_law_names.nd rfl (Or.inl rfl) (pe_ix ix_str (pv 1) (pe_op op_mod (pe_callTy call_int1 (by rfl) T.b_int (by decide +kernel) (pa_cons (pe_op op_add (pv 2) (pe_op op_mul pe_int (pv 5))) pa_nil)) pe_int) (fun _ _ => rfl)))
  (pss_one (ps_expr (pe_bm PySem.F.plainAttrs_list PySem.F.slot_list_append PySem.F.type_list_append mt_append (pv 4) (pa_cons (pe_op op_add_str (pe_op op_add_str (pe_op op_add_str pe_str (pe_slice sl_str pe_str po_none (po_some (pv 3)))) (pv 6)) (pe_slice sl_str pe_str (po_some (pv 3)) po_none)) pa_nil))))))
  (pss_one (ps_ret (pv 4)))))))), ?_⟩
    refine ⟨_, rfl, p, dl, 26, rfl, B, by decide, fun t H1 t0 t1 B1 K1 => ?_⟩
    refine ⟨_, rfl, p, dl, 4, rfl, B1, by decide, fun r H2 r0 r1 B2 K2 => ?_⟩
    obtain ⟨u, v, eu, ev, lu, lv, hu, hv⟩ := cut_xyz r0 r1
    refine ⟨sz_0, fun np hnp => ?_⟩
    refine ⟨_, rfl, by decide, by decide, ?_⟩
    have hnp0 : H np = none := none_back (K1.trans K2) B2.at_ hnp
    have npp : np ≠ p := fun e => by subst e; obtain ⟨xs, g⟩ := B2.at_; rw [g] at hnp; cases hnp
    have npd : np ≠ dl := fun e => by subst e; obtain ⟨xs, g⟩ := B2.dg; rw [g] at hnp; cases hnp
    refine for_range (lo := 0) (n := 8) (fun i σ H3 => ∃ (ns : List Str) (x5 x6 : Option V), σ = [some (.ref p), some (.str "abcdefghijklmnopqrstuvwxyz"), some (.int t), some (.int r), some (.ref np), x5, x6] ∧ ns.length = i ∧ (∀ x ∈ ns, NameOk x) ∧ H3 np = some (.lst (ns.map V.str)) ∧ BoxAt H3 p dl ∧ (∀ b o, H2 b = some o → H3 b = some o)) ⟨[], none, none, rfl, rfl, by simp, upd_same, B2.upd npp npd, Same.new hnp⟩ ?_ ?_
    · rintro i σ H3 hi ⟨ns, x5, x6, rfl, hl, hok, en, B3, S3⟩
      have hLets : ("abcdefghijklmnopqrstuvwxyz" : Str) = S lets := by decide +kernel
      have hLl : lets.length = 26 := by decide +kernel
      have hL128 : ∀ c ∈ lets, c < 128 := by decide +kernel
      obtain ⟨j, hj⟩ : ∃ j : Nat, (t + 3 * (0 + (i : Int))) % 26 = (j : Int) := ⟨_, (Int.toNat_of_nonneg (Int.emod_nonneg _ (by decide))).symm⟩
      have hj26 : j < lets.length := by
        have := Int.emod_lt_of_pos (t + 3 * (0 + (i : Int))) (show (0 : Int) < 26 by decide)
        omega
      have hc : lets[j]? = some lets[j] := List.getElem?_eq_getElem hj26
      have hcm := hL128 _ (List.getElem_mem hj26)
      generalize lets[j] = c at hc hcm
      have hq : ("n" : Str) = S [110] := by decide +kernel
      have hc1 : (⟨#[c]⟩ : Str) = S [c] := rfl
      have h3 : ("xyz" : Str).length ≤ sizeLine := by decide +kernel
      have sz : ∀ a b : List Nat, a.length + b.length ≤ 100 → (S a).length + (S b).length ≤ sizeLine := fun a b h => by rw [S_len, S_len]; exact Nat.le_trans h (by decide)
      have e : ("n" : Str) ++ cutS "xyz" none (some r) ++ (⟨#[c]⟩ : Str) ++ cutS "xyz" (some r) none = S ([110] ++ u ++ [c] ++ v) := by
        rw [hq, eu, ev, hc1, S_cat, S_cat, S_cat]
      refine ⟨_, rfl, _, rfl, _, rfl, _, _, rfl, rfl, .inl ⟨by decide, by decide⟩, _, _, rfl, rfl, .inl ⟨_, rfl, _, _, rfl, rfl, (by show (0 : Int) < 26; decide), S lets, (j : Int), c, by rw [hLets], congrArg V.int hj, by rw [S_len, hLl]; decide, at_S hc, ?_⟩⟩
      refine ⟨_, rfl, .inl ⟨rfl, _, SqL.of en⟩, _, rfl, _, rfl, _, rfl, h3, _, _, rfl, rfl, by rw [hq, eu]; exact sz _ _ (by simp; omega), ?_⟩
      refine ⟨_, rfl, _, _, rfl, rfl, by rw [hq, eu, hc1, S_cat]; exact sz _ _ (by simp; omega), ?_⟩
      refine ⟨_, rfl, _, rfl, _, rfl, h3, _, _, rfl, rfl, by rw [hq, eu, ev, hc1, S_cat, S_cat]; exact sz _ _ (by simp; omega), ?_⟩
      refine ⟨np, _, _, rfl, rfl, en, by rw [List.length_map, hl]; exact Nat.lt_of_lt_of_le hi (by decide), ?_⟩
      rw [e]
      refine ⟨ns ++ [S ([110] ++ u ++ [c] ++ v)], _, _, rfl, by simp; omega, fun x hx => ?_, by rw [upd_same, List.map_append]; rfl, B3.upd npp npd, fun b o hb => ?_⟩
      · rcases List.mem_append.mp hx with hx | hx
        · exact hok x hx
        · rw [List.mem_singleton.mp hx]
          refine ⟨⟨_, rfl, by simp; omega, fun d hd => ?_⟩, ⟨_, rfl⟩⟩
          simp only [List.mem_append, List.mem_singleton] at hd
          rcases hd with ((rfl | hd) | rfl) | hd
          · decide
          · exact hu d hd
          · exact hcm
          · exact hv d hd
      · rw [upd_ne (ne_of_none hb hnp)]; exact S3 b o hb
    · rintro σ H3 ⟨ns, x5, x6, rfl, hl, hok, en, B3, S3⟩
      exact ⟨_, rfl, k np ns H3 hnp0 B3 ((K1.trans K2).trans (Same.keep S3)) en hl hok⟩
/-- a drawn value -/
structure VOk (d : PyData) : Prop where
  tup : ∃ z r, d = .tuple (.str z :: r) ∧ z ≠ ""
  sm : Sm d 1 3000
  shp : Shp 1 d
/-- no reference -/
def NRef (d : PyData) : Prop := ∃ z r, d = .tuple (.str z :: r) ∧ z ≠ "ref"
theorem nref {z : Str} {r : List PyData} (h : z ≠ "ref") : NRef (.tuple (.str z :: r)) := ⟨z, r, rfl, h⟩
def spValue (K : PySem.W.Frag) : Sp := fun vs H Q _ => ∃ p dl, vs = [.ref p] ∧ BoxAt H p dl ∧ ∀ v d H', BoxAt H' p dl → Keep p H H' → Dt K H' v d → VOk d → NRef d → Q v H'
theorem vok1 {z x : Str} (h1 : shortS z = true) (h2 : shortS x = true) (h3 : PyData.canLay0 (.str z) = true) (h4 : PyData.canLay0 (.str x) = true) (hz : z ≠ "") : VOk (.tuple [.str z, .str x]) :=
  ⟨⟨_, _, rfl, hz⟩, (Sm.tup (.cons (Sm.short h1) (.cons (Sm.short h2) .nil))).mono (by decide) (by decide), Shp.tup (Shp.cons2 (Shp.str h3) (Shp.cons2 (Shp.str h4) Shp.none2))⟩
theorem ten_val : ∀ n : Nat, NumText.digitsVal (49 :: List.replicate n 48) = 10 ^ n
  | 0 => rfl
  | n + 1 => by
    rw [List.replicate_succ', ← List.cons_append]
    have h : ∀ (cs : List Nat) (c : Nat), NumText.digitsVal (cs ++ [c]) = NumText.digitsVal cs * 10 + (c - 48) := fun cs c => by
      unfold NumText.digitsVal
      rw [List.foldl_append]
      rfl
    rw [h, ten_val n, Nat.pow_succ]
    simp
theorem ten_S (n : Nat) (hn : n ≤ 100) : PySem.intText? (S ([49] ++ List.replicate n 48)) = some ((10 : Int) ^ n) := by
  have h : ([49] ++ List.replicate n 48).all (fun c => decide (48 ≤ c) && decide (c ≤ 57)) = true := List.all_eq_true.mpr fun c hc => by
    rcases List.mem_append.mp hc with hc | hc
    · rw [List.mem_singleton.mp hc]; rfl
    · rw [List.eq_of_mem_replicate hc]; rfl
  rw [int_S h (by simp) (by simp; omega)]
  have e : NumText.digitsVal ([49] ++ List.replicate n 48) = 10 ^ n := ten_val n
  rw [e]
  congr 1
theorem ok_value {f : Addr} {fd : FuncData} (F : Fun K "_law_value" "_law_value" s_law_value f fd) (T : Txt K mg) (U_law_draw : Use P w K mg base CX0 "_law_draw" 1 P_law_draw (spDraw K)) : FnG P w K mg base CX0 2 f fd P_law_value (spValue K) := by
  refine okG0 F sc_law_value (fun vs H Q E h => ?_) fun cdv A outer s H vs Q E hr hg h => ?_
  · obtain ⟨p, dl, rfl, _⟩ := h
    rfl
  · obtain ⟨p, dl, rfl, B, k⟩ := h
    refine ⟨_, (pss_cons (ps_set (i := 1) sc_law_value.nd rfl (Or.inl rfl) (pe_use U_law_draw (hr.mono (by decide)) hg rfl (pa_cons (pv 0) (pa_cons pe_int pa_nil))))
  (pss_cons (ps_if (pt_cmpR op_eq (pv 1) pe_int (nomark _))
   (pss_one (ps_ret (pe_tup (pa_cons pe_str pa_nil))))
   pss_nil)
  (pss_cons (ps_if (pt_cmpR op_eq (pv 1) pe_int (nomark _))
   (pss_one (ps_ret (pe_tup (pa_cons pe_str (pa_cons (pe_cmpR op_eq (pe_use U_law_draw (hr.mono (by decide)) hg rfl (pa_cons (pv 0) (pa_cons pe_int pa_nil))) pe_int (nomark _)) pa_nil)))))
   pss_nil)
  (pss_cons (ps_if (pt_cmpR op_eq (pv 1) pe_int (nomark _))
   (pss_one (ps_ret (pe_tup (pa_cons pe_str (pa_cons (pe_slice sl_str pe_str po_none (po_some (pe_use U_law_draw (hr.mono (by decide)) hg rfl (pa_cons (pv 0) (pa_cons pe_int pa_nil))))) pa_nil)))))
   pss_nil)
  (pss_cons (ps_if (pt_cmpR op_eq (pv 1) pe_int (nomark _))
   (pss_one (ps_ret (pe_tup (pa_cons pe_str (pa_cons (pe_ix ix_list (pe_lst (pa_cons pe_str (pa_cons pe_str (pa_cons pe_str pa_nil)))) (pe_use U_law_draw (hr.mono (by decide)) hg rfl (pa_cons (pv 0) (pa_cons pe_int pa_nil))) (fun _ _ => rfl)) pa_nil)))))
   pss_nil)
  (pss_one (ps_ret (pe_tup (pa_cons pe_str (pa_cons (pe_op op_sub (pe_op op_mulW (pe_use U_law_draw (hr.mono (by decide)) hg rfl (pa_cons (pv 0) (pa_cons pe_int pa_nil))) (pe_callTy call_int_str (by rfl) T.b_int (by decide +kernel) (pa_cons (pe_op op_add_str pe_str (pe_op op_rep_str pe_str (pe_use U_law_draw (hr.mono (by decide)) hg rfl (pa_cons (pv 0) (pa_cons pe_int pa_nil))))) pa_nil))) (pe_use U_law_draw (hr.mono (by decide)) hg rfl (pa_cons (pv 0) (pa_cons pe_int pa_nil)))) pa_nil)))))))))), ?_⟩
    refine ⟨_, rfl, p, dl, 6, rfl, B, by decide, fun kind H1 k0 k1 B1 K1 => ?_⟩
    refine ⟨_, rfl, rfl, _, rfl, ?_⟩
    refine ite3 (fun _ => ?_) fun _ => ?_
    · refine ⟨sz_1, fun u hu => k _ _ _ (B1.same (Same.new hu)) (K1.trans (Same.keep (Same.new hu))) (Dt.made hu (.cons (.str _) .nil)) ⟨⟨_, _, rfl, by decide +kernel⟩, (Sm.tup (.cons (Sm.short (by decide +kernel)) .nil)).mono (by decide) (by decide), Shp.tup (Shp.cons2 (Shp.str (by decide +kernel)) Shp.none2)⟩ (nref (by decide +kernel))⟩
    refine ⟨_, rfl, rfl, _, rfl, ?_⟩
    refine ite3 (fun _ => ?_) fun _ => ?_
    · refine ⟨_, rfl, p, dl, 2, rfl, B1, by decide, fun r H2 r0 r1 B2 K2 => ?_⟩
      refine ⟨rfl, sz_2, fun u hu => k _ _ _ (B2.same (Same.new hu)) ((K1.trans K2).trans (Same.keep (Same.new hu))) (Dt.made hu (.cons (.str _) (.cons (.bl _) .nil))) ⟨⟨_, _, rfl, by decide +kernel⟩, (Sm.tup (.cons (Sm.short (by decide +kernel)) (.cons (Sm.bool _) .nil))).mono (by decide) (by decide), Shp.tup (Shp.cons2 (Shp.str (by decide +kernel)) (Shp.cons2 (Shp.bool _ _) Shp.none2))⟩ (nref (by decide +kernel))⟩
    refine ⟨_, rfl, rfl, _, rfl, ?_⟩
    refine ite3 (fun _ => ?_) fun _ => ?_
    · refine ⟨_, rfl, p, dl, 3, rfl, B1, by decide, fun r H2 r0 r1 B2 K2 => ?_⟩
      obtain ⟨z, ez, z1, z2⟩ : ∃ z, cutS "ab" none (some r) = z ∧ shortS z = true ∧ PyData.canLay0 (.str z) = true := by
        obtain ⟨i, rfl⟩ := Int.eq_ofNat_of_zero_le r0
        match i, r1 with
        | 0, _ => exact ⟨"", by decide +kernel, by decide +kernel, by decide +kernel⟩
        | 1, _ => exact ⟨"a", by decide +kernel, by decide +kernel, by decide +kernel⟩
        | 2, _ => exact ⟨"ab", by decide +kernel, by decide +kernel, by decide +kernel⟩
        | i + 3, h => omega
      refine ⟨_, rfl, _, rfl, by decide +kernel, sz_2, fun u hu => ?_⟩
      rw [ez]
      exact k _ _ _ (B2.same (Same.new hu)) ((K1.trans K2).trans (Same.keep (Same.new hu))) (Dt.made hu (.cons (.str _) (.cons (.str _) .nil))) (vok1 (by decide +kernel) z1 (by decide +kernel) z2 (by decide +kernel)) (nref (by decide +kernel))
    refine ⟨_, rfl, rfl, _, rfl, ?_⟩
    refine ite3 (fun _ => ?_) fun _ => ?_
    · refine ⟨sz_3, fun l hl => ?_⟩
      have S1 := Same.new (o := .lst [.str "len", .str "print", .str "abs"]) hl
      have lp : l ≠ p := fun e => by subst e; obtain ⟨xs, g⟩ := B1.at_; rw [g] at hl; cases hl
      have el := upd_same (H := H1) (a := l) (o := HO.lst [.str "len", .str "print", .str "abs"])
      have B1' := B1.same S1
      generalize upd H1 l _ = H1' at S1 el B1'
      refine ⟨_, rfl, p, dl, 3, rfl, B1', by decide, fun r H2 r0 r1 B2 K2 => ?_⟩
      obtain ⟨z, ez, z1, z2⟩ : ∃ z, atI [V.str "len", V.str "print", V.str "abs"] r = some (.str z) ∧ shortS z = true ∧ PyData.canLay0 (.str z) = true := by
        obtain ⟨i, rfl⟩ := Int.eq_ofNat_of_zero_le r0
        match i, r1 with
        | 0, _ => exact ⟨"len", at0, by decide +kernel, by decide +kernel⟩
        | 1, _ => exact ⟨"print", at1, by decide +kernel, by decide +kernel⟩
        | 2, _ => exact ⟨"abs", at2, by decide +kernel, by decide +kernel⟩
        | i + 3, h => omega
      refine ⟨l, _, _, _, rfl, rfl, SqL.of (K2 _ _ el lp), ez, sz_2, fun u hu => ?_⟩
      exact k _ _ _ (B2.same (Same.new hu)) (((K1.trans (Same.keep S1)).trans K2).trans (Same.keep (Same.new hu))) (Dt.made hu (.cons (.str _) (.cons (.str _) .nil))) (vok1 (by decide +kernel) z1 (by decide +kernel) z2 (by decide +kernel)) (nref (by decide +kernel))
    refine ⟨_, rfl, p, dl, 1000, rfl, B1, by decide, fun r H2 r0 r1 B2 K2 => ?_⟩
    refine ⟨_, rfl, p, dl, 60, rfl, B2, by decide, fun m H3 m0 m1 B3 K3 => ?_⟩
    obtain ⟨n, rfl⟩ := Int.eq_ofNat_of_zero_le m0
    have l0 : ("0" : Str).length = 1 := by decide +kernel
    have e0 : repS "0" (n : Int) = S (List.replicate n 48) := by
      show (⟨(repC ("0" : Str).cps.toList (n : Int)).toArray⟩ : Str) = _
      rw [show ("0" : Str).cps.toList = [48] by decide +kernel]
      have : repC [48] (n : Int) = List.replicate n 48 := by
        show (List.replicate (n : Int).toNat [48]).flatten = List.replicate n 48
        rw [Int.toNat_natCast]
        clear m0 m1
        induction n with
        | zero => rfl
        | succ n ih => rw [List.replicate_succ, List.flatten_cons, ih, List.replicate_succ]; rfl
      rw [this]
    refine ⟨_, _, rfl, rfl, by omega, by omega, by rw [l0]; omega, ?_⟩
    rw [e0, show ("1" : Str) = S [49] by decide +kernel]
    refine ⟨_, _, rfl, rfl, by rw [S_len, S_len]; exact Nat.le_trans (show _ ≤ 100 by simp; omega) (by decide), ?_⟩
    rw [S_cat]
    refine ⟨_, _, rfl, ten_S n (by omega), by rw [S_len]; simp; omega, ?_⟩
    have hb : ((10 : Int) ^ n).natAbs < 2 ^ 250 := by
      have h1 : (10 : Nat) ^ n ≤ 10 ^ 60 := Nat.pow_le_pow_right (by decide) (by omega)
      have h2 : (10 : Nat) ^ 60 < 2 ^ 250 := by decide +kernel
      have h3 : ((10 : Int) ^ n).natAbs = 10 ^ n := by
        rw [Int.natAbs_pow]; rfl
      omega
    refine ⟨_, _, rfl, rfl, wide_mul (a := 10) (b := 250) (by omega) hb (by decide) (by decide) (by decide), ?_⟩
    refine ⟨_, rfl, p, dl, 3, rfl, B3, by decide, fun q H4 q0 q1 B4 K4 => ?_⟩
    refine ⟨_, _, rfl, rfl, sz_2, fun u hu => ?_⟩
    have hi : (r * 10 ^ n - q).natAbs < 2 ^ 1900 := by
      have h1 : (r * 10 ^ n).natAbs < 2 ^ 10 * 2 ^ 250 := by
        rw [Int.natAbs_mul]
        exact Nat.mul_lt_mul'' (by omega) hb
      have h2 : (2 : Nat) ^ 10 * 2 ^ 250 + 3 < 2 ^ 1900 := by decide +kernel
      omega
    exact k _ _ _ (B4.same (Same.new hu)) ((((K1.trans K2).trans K3).trans K4).trans (Same.keep (Same.new hu))) (Dt.made hu (.cons (.str _) (.cons (.int _) .nil))) ⟨⟨_, _, rfl, by decide +kernel⟩, (Sm.tup (.cons (Sm.short (by decide +kernel)) (.cons (Sm.int hi) .nil))).mono (by decide) (by decide), Shp.tup (Shp.cons2 (Shp.str (by decide +kernel)) (Shp.cons2 (Shp.int _ _) Shp.none2))⟩ (nref (by decide +kernel))
end

abbrev s_paired : Stmt := top 2
abbrev N_paired : List Str := ["pairs", "x", "name", "value"]
abbrev P_paired : List Str := ["pairs", "x"]
theorem sc_paired : FnScope N_paired P_paired (defScope s_paired) := ⟨rfl, rfl, rfl, by decide +kernel, rfl, by decide +kernel, by decide +kernel⟩
abbrev s_object_kind : Stmt := top 7
abbrev N_object_kind : List Str := ["heap", "value"]
abbrev P_object_kind : List Str := ["heap", "value"]
theorem sc_object_kind : FnScope N_object_kind P_object_kind (defScope s_object_kind) := ⟨rfl, rfl, rfl, by decide +kernel, rfl, by decide +kernel, by decide +kernel⟩
abbrev s_class_line : Stmt := top 12
abbrev N_class_line : List Str := ["heap", "k", "line"]
abbrev P_class_line : List Str := ["heap", "k"]
theorem sc_class_line : FnScope N_class_line P_class_line (defScope s_class_line) := ⟨rfl, rfl, rfl, by decide +kernel, rfl, by decide +kernel, by decide +kernel⟩
abbrev s_member : Stmt := top 13
abbrev N_member : List Str := ["heap", "k", "x", "each", "found"]
abbrev P_member : List Str := ["heap", "k", "x"]
theorem sc_member : FnScope N_member P_member (defScope s_member) := ⟨rfl, rfl, rfl, by decide +kernel, rfl, by decide +kernel, by decide +kernel⟩
section
variable {P : Program} {w : World} {K : PySem.W.Frag} {mg : Str → Option Value} {base : Heap}
abbrev Ms := List (Str × PyData)
def memD (p : Str × PyData) : PyData := .tuple [.str p.1, p.2]
def find : Ms → Str → Option PyData
  | [], _ => none
  | (y, n) :: r, x => if y = x then some n else find r x
def pairD : Option PyData → PyData
  | some d => d
  | none => .tuple []
theorem find_skip {x : Str} : ∀ {vs : Ms} {i : Nat}, (∀ j, j < i → ∀ p, vs[j]? = some p → p.1 ≠ x) → find vs x = find (vs.drop i) x
  | [], i, _ => by simp
  | (y, n) :: r, 0, _ => by simp
  | (y, n) :: r, i + 1, h => by
    have h0 := h 0 (by omega) (y, n) rfl
    show (if y = x then some n else find r x) = find (r.drop i) x
    rw [if_neg h0]
    exact find_skip fun j hj p hp => h (j + 1) (by omega) p hp
theorem find_mem {x : Str} {d : PyData} : ∀ {vs : Ms}, find vs x = some d → ∃ p ∈ vs, p.2 = d
  | [], h => by cases h
  | (y, n) :: r, h => by
    have h : (if y = x then some n else find r x) = some d := h
    split at h
    · exact ⟨_, List.mem_cons_self, Option.some.inj h⟩
    · obtain ⟨p, hp, e⟩ := find_mem h
      exact ⟨p, List.mem_cons_of_mem _ hp, e⟩
theorem find_at {x : Str} {vs : Ms} {i : Nat} {z : Str} {d : PyData} (hall : ∀ j, j < i → ∀ p, vs[j]? = some p → p.1 ≠ x) (hi : vs[i]? = some (z, d)) (c : z = x) : find vs x = some d := by
  have hl : i < vs.length := (List.getElem?_eq_some_iff.mp hi).1
  rw [find_skip (i := i) hall, List.drop_eq_getElem_cons hl]
  have e : vs[i] = (z, d) := Option.some.inj ((List.getElem?_eq_getElem hl).symm.trans hi)
  rw [e]
  show (if z = x then some d else _) = _
  rw [if_pos c]
theorem all_next {x : Str} {vs : Ms} {i : Nat} {z : Str} {d : PyData} (hall : ∀ j, j < i → ∀ p, vs[j]? = some p → p.1 ≠ x) (hi : vs[i]? = some (z, d)) (c : z ≠ x) : ∀ j, j < i + 1 → ∀ p, vs[j]? = some p → p.1 ≠ x := fun j hj p hp => by
  by_cases e : j = i
  · subst e
    rw [hi] at hp
    obtain rfl := Option.some.inj hp
    exact c
  · exact hall j (by omega) p hp
theorem find_none {x : Str} {vs : Ms} (hall : ∀ j, j < vs.length → ∀ p, vs[j]? = some p → p.1 ≠ x) : find vs x = none := by
  rw [find_skip (i := vs.length) hall, List.drop_length]
  rfl
theorem memD_at {H : Hp} {xs : List V} {ms : Ms} {i : Nat} {y : V} (ha : DtAll K H xs (ms.map memD)) (hy : xs[i]? = some y) : ∃ z d q u, ms[i]? = some (z, d) ∧ y = .ref q ∧ SqT K H q [.str z, u] ∧ Dt K H u d := by
  have hl := ha.length
  rw [List.length_map] at hl
  have hi : i < ms.length := by have := (List.getElem?_eq_some_iff.mp hy).1; omega
  have hvi : ms[i]? = some ms[i] := List.getElem?_eq_getElem hi
  generalize ms[i] = p at hvi
  obtain ⟨z, n⟩ := p
  have hd : (ms.map memD)[i]? = some (memD (z, n)) := by rw [List.getElem?_map, hvi]; rfl
  obtain ⟨y', hy', dy⟩ := ha.get hd
  rw [hy] at hy'
  obtain rfl := Option.some.inj hy'
  obtain ⟨q2, u, rfl, hq2, du⟩ := Dt.pair dy
  exact ⟨z, n, q2, u, hvi, rfl, hq2, du⟩
def spPaired (K : PySem.W.Frag) : Sp := fun vs H Q _ => ∃ v vars x, vs = [v, .str x] ∧ Dt K H v (.tuple (vars.map memD)) ∧ ∀ v' H', Same H H' → Dt K H' v' (pairD (find vars x)) → Q v' H'
theorem ok_paired {f : Addr} {fd : FuncData} (F : Fun K "paired" "paired" s_paired f fd) (T : Txt K mg) : FnG P w K mg base CX0 1 f fd P_paired (spPaired K) := by
  refine okG0 F sc_paired (fun vs H Q E h => ?_) fun cdv A outer s H vs Q E hr hg h => ?_
  · obtain ⟨v, vars, x, rfl, _⟩ := h
    rfl
  · obtain ⟨v, vars, x, rfl, hv, k⟩ := h
    refine ⟨_, (pss_cons (ps_for PassesOwn.never rfl (pi_tup (pv 0)) (pg_tup (by rfl) (pgs_cons (pg_name (i := 2) sc_paired.nd rfl (Or.inl rfl)) (pgs_cons (pg_name (i := 3) sc_paired.nd rfl (Or.inl rfl)) pgs_nil)))
   (pss_one (ps_if (pt_cmpR op_eq (pv 2) (pv 1) (nomark _))
   (pss_one (ps_ret (pv 3)))
   pss_nil)))
  (pss_one (ps_ret (pe_tup pa_nil)))), ?_⟩
    obtain ⟨q, xs, rfl, hq, ha⟩ := hv.tuple_inv
    have hl := ha.length
    rw [List.length_map] at hl
    refine ⟨_, rfl, q, rfl, ⟨_, hq⟩, ?_⟩
    refine for_tup (xs := xs) (fun i σ H1 => ∃ x2 x3, σ = [some (.ref q), some (.str x), x2, x3] ∧ H1 = H ∧ (∀ j, j < i → ∀ p, vars[j]? = some p → p.1 ≠ x)) ⟨none, none, rfl, rfl, by simp⟩ ?_ ?_ ?_
    · rintro i σ H1 hi ⟨x2, x3, rfl, rfl, _⟩
      exact hq
    · rintro i y σ H1 hy ⟨x2, x3, rfl, rfl, hall⟩
      obtain ⟨z, n, q2, u, hvi, rfl, hq2, du⟩ := memD_at ha hy
      refine ⟨q2, _, rfl, hq2, rfl, _, _, rfl, _, _, rfl, rfl, ?_⟩
      refine ⟨_, rfl, _, rfl, rfl, _, rfl, ?_⟩
      refine ite3 (fun c => ?_) fun c => ?_
      · have c := V.str.inj (of_decide_eq_true c)
        rw [find_at hall hvi c] at k
        exact ⟨_, rfl, k _ _ (fun _ _ h => h) du⟩
      · have c := of_decide_eq_false c
        exact ⟨_, _, rfl, rfl, all_next hall hvi fun h => c (congrArg V.str h)⟩
    · rintro σ H1 ⟨x2, x3, rfl, rfl, hall⟩
      rw [find_none (by rw [← hl]; exact hall)] at k
      exact ⟨sz_0, fun u hu => k _ _ (Same.new hu) (Dt.made hu .nil)⟩
/-! objects -/
inductive Ob
  | cls (n : Str) (b : Int) (ms : Ms)
  | inst (k : Int) (ms : Ms)
  | other (z : Str) (r : List PyData)
def obD : Ob → PyData
  | .cls n b ms => .tuple [.str "class", .str n, .int b, .tuple (ms.map memD)]
  | .inst k ms => .tuple [.str "inst", .int k, .tuple (ms.map memD)]
  | .other z r => .tuple (.str z :: r)
def tagOf : Ob → Str
  | .cls _ _ _ => "class"
  | .inst _ _ => "inst"
  | .other z _ => z
theorem obD_inv {H : Hp} {v : V} {o : Ob} (h : Dt K H v (obD o)) : ∃ q ws, v = .ref q ∧ SqT K H q (.str (tagOf o) :: ws) := by
  cases o with
  | cls n b ms => obtain ⟨q, ws, e, hs, _⟩ := Dt.head h; exact ⟨q, ws, e, hs⟩
  | inst k ms => obtain ⟨q, ws, e, hs, _⟩ := Dt.head h; exact ⟨q, ws, e, hs⟩
  | other z r => obtain ⟨q, ws, e, hs, _⟩ := Dt.head h; exact ⟨q, ws, e, hs⟩
theorem cls_inv {H : Hp} {v : V} {n : Str} {b : Int} {ms : Ms} (h : Dt K H v (obD (.cls n b ms))) : ∃ q u, v = .ref q ∧ SqT K H q [.str "class", .str n, .int b, u] ∧ Dt K H u (.tuple (ms.map memD)) := by
  obtain ⟨q, ws, rfl, hs, hw⟩ := Dt.head h
  obtain ⟨x1, ws1, rfl, h1, hw⟩ := hw.cons_inv
  obtain ⟨x2, ws2, rfl, h2, hw⟩ := hw.cons_inv
  obtain ⟨x3, ws3, rfl, h3, hw⟩ := hw.cons_inv
  cases hw.nil_inv
  cases h1.str_inv
  cases h2.int_inv
  exact ⟨q, x3, rfl, hs, h3⟩
theorem inst_inv {H : Hp} {v : V} {k : Int} {ms : Ms} (h : Dt K H v (obD (.inst k ms))) : ∃ q u, v = .ref q ∧ SqT K H q [.str "inst", .int k, u] ∧ Dt K H u (.tuple (ms.map memD)) := by
  obtain ⟨q, ws, rfl, hs, hw⟩ := Dt.head h
  obtain ⟨x1, ws1, rfl, h1, hw⟩ := hw.cons_inv
  obtain ⟨x2, ws2, rfl, h2, hw⟩ := hw.cons_inv
  cases hw.nil_inv
  cases h1.int_inv
  exact ⟨q, x2, rfl, hs, h2⟩
theorem ob_at {H : Hp} {hp : Addr} {obs : List Ob} {j : Nat} {o : Ob} (L : ListAt K H hp (obs.map obD)) (h : obs[j]? = some o) : ∃ zs y, H hp = some (.lst zs) ∧ zs[j]? = some y ∧ Dt K H y (obD o) := by
  obtain ⟨zs, ez, az⟩ := L
  obtain ⟨y, hy, dy⟩ := az.get (show (obs.map obD)[j]? = some (obD o) by rw [List.getElem?_map, h]; rfl)
  exact ⟨zs, y, ez, hy, dy⟩
/-- a value, seen with the objects: the kind of the object that it refers to -/
inductive ValK (obs : List Ob) : PyData → Str → Prop
  | ref (j : Nat) (o : Ob) : obs[j]? = some o → ValK obs (.tuple [.str "ref", .int (j : Nat)]) (tagOf o)
  | val (z : Str) (r : List PyData) : z ≠ "ref" → ValK obs (.tuple (.str z :: r)) ""
def spKind (K : PySem.W.Frag) : Sp := fun vs H Q _ => ∃ hp obs v d t, vs = [.ref hp, v] ∧ ListAt K H hp (obs.map obD) ∧ Dt K H v d ∧ ValK obs d t ∧ Q (.str t) H
theorem ok_kind {f : Addr} {fd : FuncData} (F : Fun K "object_kind" "object_kind" s_object_kind f fd) (T : Txt K mg) : FnG P w K mg base CX0 1 f fd P_object_kind (spKind K) := by
  refine okG0 F sc_object_kind (fun vs H Q E h => ?_) fun cdv A outer s H vs Q E hr hg h => ?_
  · obtain ⟨hp, obs, v, d, t, rfl, _⟩ := h
    rfl
  · obtain ⟨hp, obs, v, d, t, rfl, L, dv, hk, k⟩ := h
    refine ⟨_, (pss_cons (ps_if (pt_cmpR op_ne (pe_ix ix_tup (pv 1) pe_int (fun _ _ => rfl)) pe_str (nomark _))
   (pss_one (ps_ret pe_str))
   pss_nil)
  (pss_one (ps_ret (pe_ix ix_tup (pe_ix ix_list (pv 0) (pe_ix ix_tup (pv 1) pe_int (fun _ _ => rfl)) (fun _ _ => rfl)) pe_int (fun _ _ => rfl))))), ?_⟩
    cases hk with
    | ref j o ho =>
      obtain ⟨q, x, rfl, hq, hx⟩ := Dt.pair dv
      cases hx.int_inv
      obtain ⟨zs, y, ez, hy, dy⟩ := ob_at L ho
      obtain ⟨q2, ws, rfl, hq2⟩ := obD_inv dy
      refine ⟨_, rfl, q, _, _, _, rfl, rfl, hq, at0, rfl, _, rfl, iteFb (by decide +kernel) ?_⟩
      exact ⟨_, rfl, _, rfl, q, _, _, _, rfl, rfl, hq, at1, hp, _, _, _, rfl, rfl, SqL.of ez, atI_nat hy, q2, _, _, _, rfl, rfl, hq2, at0, k⟩
    | val z r hz =>
      obtain ⟨q, ws, rfl, hq, _⟩ := Dt.head dv
      refine ⟨_, rfl, q, _, _, _, rfl, rfl, hq, at0, rfl, _, rfl, iteTb ?_ k⟩
      show (!decide (V.str z = V.str "ref")) = true
      rw [decide_eq_false fun h => hz (V.str.inj h)]; rfl
/-! the line of a class -/
inductive Chain (obs : List Ob) : Int → List Int → Prop
  | stop {k : Int} : k < 0 → Chain obs k []
  | next {k : Nat} {n : Str} {b : Int} {ms : Ms} {r : List Int} : obs[k]? = some (.cls n b ms) → b < (k : Int) → Chain obs b r → Chain obs (k : Nat) ((k : Int) :: r)
theorem Chain.mem {obs : List Ob} {k : Int} {l : List Int} (h : Chain obs k l) : ∀ x ∈ l, ∃ (j : Nat) (n : Str) (b : Int) (ms : Ms), x = (j : Int) ∧ obs[j]? = some (.cls n b ms) := by
  induction h with
  | stop _ => intro x hx; cases hx
  | next hk hb _ ih =>
    intro x hx
    rcases List.mem_cons.mp hx with rfl | hx
    · exact ⟨_, _, _, _, rfl, hk⟩
    · exact ih x hx
theorem Chain.len {obs : List Ob} {k : Int} {l : List Int} (h : Chain obs k l) : (l.length : Int) ≤ k + 1 ∨ k < 0 := by
  induction h with
  | stop h => exact .inr h
  | next hk hb hr ih =>
    left
    rw [List.length_cons]
    rcases ih with ih | ih
    · omega
    · cases hr with
      | stop _ => simp; omega
      | next _ _ _ => omega
def spLine (K : PySem.W.Frag) : Sp := fun vs H Q _ => ∃ hp obs k line, vs = [.ref hp, .int k] ∧ ListAt K H hp (obs.map obD) ∧ Chain obs k line ∧ line.length ≤ 1000 ∧ ∀ a H', Same H H' → SqT K H' a (line.map V.int) → Q (.ref a) H'
theorem ok_line {f : Addr} {fd : FuncData} (F : Fun K "class_line" "class_line" s_class_line f fd) (T : Txt K mg) : FnG P w K mg base CX0 1 f fd P_class_line (spLine K) := by
  refine okG0 F sc_class_line (fun vs H Q E h => ?_) fun cdv A outer s H vs Q E hr hg h => ?_
  · obtain ⟨hp, obs, k0, line, rfl, _⟩ := h
    rfl
  · obtain ⟨hp, obs, k0, line, rfl, L, hc, hll, k⟩ := h
    refine ⟨_, (pss_cons (ps_set (i := 2) sc_class_line.nd rfl (Or.inl rfl) (pe_lst pa_nil))
  (pss_cons (ps_while PassesOwn.never (pt_up (pt_cmpR op_ge (pv 1) pe_int (nomark _)))
   (pss_cons (ps_expr (pe_bm PySem.F.plainAttrs_list PySem.F.slot_list_append PySem.F.type_list_append mt_append (pv 2) (pa_cons (pv 1) pa_nil)))
  (pss_one (ps_set (i := 1) sc_class_line.nd rfl (Or.inl rfl) (pe_ix ix_tup (pe_ix ix_list (pv 0) (pv 1) (fun _ _ => rfl)) pe_int (fun _ _ => rfl))))))
  (pss_one (ps_ret (pe_callTy call_tuple_of (by rfl) T.b_tuple (by decide +kernel) (pa_cons (pv 2) pa_nil)))))), ?_⟩
    refine ⟨sz_0, fun la hla => ?_⟩
    have lah : hp ≠ la := by obtain ⟨zs, ez, _⟩ := L; exact ne_of_none ez hla
    refine while_up (fun σ H1 => ∃ (k1 : Int) (dn rest : List Int), σ = [some (.ref hp), some (.int k1), some (.ref la)] ∧ dn ++ rest = line ∧ Chain obs k1 rest ∧ H1 la = some (.lst (dn.map V.int)) ∧ Same H H1)
      (fun (σ : L2.St) (_ : Hp) => match σ[1]? with | some (some (V.int j)) => (j + 1).toNat | _ => 0) ⟨k0, [], line, rfl, rfl, hc, upd_same, Same.new hla⟩ ?_
    rintro σ H1 ⟨k1, dn, rest, rfl, hdr, hc1, e1, S1⟩
    refine ⟨_, rfl, _, _, rfl, rfl, _, rfl, ?_⟩
    cases hc1 with
    | stop hk =>
      refine iteFb (decide_eq_false (by omega)) ?_
      rw [List.append_nil] at hdr
      subst hdr
      exact ⟨_, rfl, la, _, rfl, .inl ⟨SqL.of e1, fun t ht => k t _ (S1.trans (Same.new ht)) (SqT.of upd_same)⟩⟩
    | @next j n b ms r hj hb hr =>
      refine iteTb (decide_eq_true (by omega)) ?_
      have hdl : dn.length ≤ 1000 := by rw [← hdr, List.length_append] at hll; omega
      refine ⟨_, rfl, .inl ⟨rfl, _, SqL.of e1⟩, _, rfl, la, _, _, rfl, rfl, e1, by rw [List.length_map]; exact Nat.lt_of_le_of_lt hdl (by decide), ?_⟩
      have S2 : Same H (upd H1 la (.lst (dn.map V.int ++ [.int (j : Nat)]))) := fun b o hb => by rw [upd_ne (ne_of_none hb hla)]; exact S1 b o hb
      obtain ⟨zs, y, ez, hy, dy⟩ := ob_at (listAt_mono L S2) hj
      obtain ⟨q, u, rfl, hq, du⟩ := cls_inv dy
      refine ⟨_, rfl, _, rfl, hp, _, _, _, rfl, rfl, SqL.of ez, atI_nat hy, q, _, _, _, rfl, rfl, hq, at2, ?_⟩
      refine ⟨⟨b, dn ++ [(j : Int)], r, rfl, by rw [List.append_assoc]; exact hdr, hr, by rw [upd_same, List.map_append]; rfl, S2⟩, ?_⟩
      show (b + 1).toNat < ((j : Int) + 1).toNat
      omega
/-! members -/
def msOf (obs : List Ob) (k : Int) : Ms := match obs[k.toNat]? with
  | some (.cls _ _ ms) => ms
  | _ => []
def memF (obs : List Ob) : List Int → Str → Option PyData
  | [], _ => none
  | k :: r, x => match find (msOf obs k) x with
    | some d => some d
    | none => memF obs r x
theorem msOf_cls {obs : List Ob} {j : Nat} {n : Str} {b : Int} {ms : Ms} (h : obs[j]? = some (.cls n b ms)) : msOf obs (j : Int) = ms := by
  unfold msOf
  rw [Int.toNat_natCast, h]
theorem eqv_pair {o : Option PyData} (h : ∀ d, o = some d → VOk d) : PyData.eqv (pairD o) (.tuple []) = o.isNone := by
  cases o with
  | none => rw [show pairD none = .tuple [] from rfl, eqv_nil]; rfl
  | some d =>
    obtain ⟨z, r, rfl, _⟩ := (h d rfl).tup
    rw [show pairD (some (PyData.tuple (.str z :: r))) = .tuple (.str z :: r) from rfl, eqv_nil]; rfl
theorem shp_pair {o : Option PyData} (h : ∀ d, o = some d → VOk d) : SeqAt.shaped (pairD o) = true := by
  cases o with
  | none => rfl
  | some d => exact (h d rfl).shp.sh (by decide)
/-- each member of each class is a value -/
def MOk (obs : List Ob) : Prop := ∀ (j : Nat) (n : Str) (b : Int) (ms : Ms), obs[j]? = some (.cls n b ms) → ∀ p ∈ ms, VOk p.2
theorem MOk.find {obs : List Ob} (h : MOk obs) {k : Int} {x : Str} : ∀ d, find (msOf obs k) x = some d → VOk d := fun d hd => by
  obtain ⟨p, hp, rfl⟩ := find_mem hd
  unfold msOf at hp
  split at hp
  · next e => exact h _ _ _ _ e p hp
  · cases hp
theorem memF_ok {obs : List Ob} (h : MOk obs) {x : Str} : ∀ {l : List Int} d, memF obs l x = some d → VOk d
  | [], d, hd => by cases hd
  | k :: r, d, hd => by
    have hd : (match find (msOf obs k) x with | some d => some d | none => memF obs r x) = some d := hd
    cases hf : find (msOf obs k) x with
    | some e => rw [hf] at hd; exact h.find d (hf.trans hd)
    | none => rw [hf] at hd; exact memF_ok h d hd
def spMember (K : PySem.W.Frag) : Sp := fun vs H Q _ => ∃ hp obs k line x, vs = [.ref hp, .int k, .str x] ∧ ListAt K H hp (obs.map obD) ∧ Chain obs k line ∧ line.length ≤ 1000 ∧ MOk obs ∧ ∀ v H', Same H H' → Dt K H' v (pairD (memF obs line x)) → Q v H'
theorem ok_member {f : Addr} {fd : FuncData} (F : Fun K "member" "member" s_member f fd) (T : Txt K mg) (U_class_line : Use P w K mg base CX0 "class_line" 1 P_class_line (spLine K)) (U_paired : Use P w K mg base CX0 "paired" 1 P_paired (spPaired K)) :
    FnG P w K mg base CX0 2 f fd P_member (spMember K) := by
  refine okG0 F sc_member (fun vs H Q E h => ?_) fun cdv A outer s H vs Q E hr hg h => ?_
  · obtain ⟨hp, obs, k0, line, x, rfl, _⟩ := h
    rfl
  · obtain ⟨hp, obs, k0, line, x, rfl, L, hc, hll, hM, k⟩ := h
    refine ⟨_, (pss_cons (ps_for PassesOwn.never rfl (pi_tup (pe_use U_class_line (hr.mono (by decide)) hg rfl (pa_cons (pv 0) (pa_cons (pv 1) pa_nil)))) (pg_name (i := 3) sc_member.nd rfl (Or.inl rfl))
   (pss_cons (ps_set (i := 4) sc_member.nd rfl (Or.inl rfl) (pe_use U_paired (hr.mono (by decide)) hg rfl (pa_cons (pe_ix ix_tup (pe_ix ix_list (pv 0) (pv 3) (fun _ _ => rfl)) pe_int (fun _ _ => rfl)) (pa_cons (pv 2) pa_nil))))
  (pss_one (ps_if (pt_cmpR (op_neD hr.units) (pv 4) (pe_tup pa_nil) (nomark _))
   (pss_one (ps_ret (pv 4)))
   pss_nil))))
  (pss_one (ps_ret (pe_tup pa_nil)))), ?_⟩
    refine ⟨_, rfl, _, rfl, hp, obs, k0, line, rfl, L, hc, hll, fun la H1 S1 hla => ?_⟩
    refine ⟨la, rfl, ⟨_, hla⟩, ?_⟩
    refine for_tup (xs := line.map V.int) (fun i σ H2 => ∃ x3 x4, σ = [some (.ref hp), some (.int k0), some (.str x), x3, x4] ∧ Same H1 H2 ∧ memF obs line x = memF obs (line.drop i) x) ⟨none, none, rfl, fun _ _ h => h, by simp⟩ ?_ ?_ ?_
    · rintro i σ H2 hi ⟨x3, x4, rfl, S2, _⟩
      exact Same.tupl S2 hla
    · rintro i y σ H2 hy ⟨x3, x4, rfl, S2, hm⟩
      rw [List.getElem?_map] at hy
      obtain ⟨e, he, rfl⟩ := Option.map_eq_some_iff.mp hy
      obtain ⟨j, n, b, ms, rfl, hj⟩ := hc.mem e (List.mem_of_getElem? he)
      have hil : i < line.length := (List.getElem?_eq_some_iff.mp he).1
      have hdr : line.drop i = (j : Int) :: line.drop (i + 1) := by
        rw [List.drop_eq_getElem_cons hil]
        congr 1
        exact Option.some.inj ((List.getElem?_eq_getElem hil).symm.trans he)
      have hstep : memF obs (line.drop i) x = (match find ms x with | some d => some d | none => memF obs (line.drop (i + 1)) x) := by
        rw [hdr]
        show (match find (msOf obs (j : Int)) x with | some d => some d | none => memF obs (line.drop (i + 1)) x) = _
        rw [msOf_cls hj]
      rw [hstep] at hm
      have hfok : ∀ d, find ms x = some d → VOk d := fun d hd => hM.find (k := (j : Int)) d (by rw [msOf_cls hj]; exact hd)
      obtain ⟨zs, y, ez, hy2, dy⟩ := ob_at (listAt_mono L (S1.trans S2)) hj
      obtain ⟨q, u, rfl, hq, du⟩ := cls_inv dy
      refine ⟨_, rfl, _, rfl, hp, _, _, _, rfl, rfl, SqL.of ez, atI_nat hy2, q, _, _, _, rfl, rfl, hq, at_of' (j := 3) rfl rfl, _, rfl, u, ms, x, rfl, du, fun v1 H3 S3 d1 => ?_⟩
      refine ⟨_, rfl, sz_0, fun u2 hu2 => ?_⟩
      have S4 := Same.new (o := .tup []) hu2
      refine ⟨_, _, (d1.mono S4).dp, (Dt.made hu2 .nil).dp, shp_pair hfok, rfl, ?_⟩
      rw [eqv_pair hfok]
      cases hf : find ms x with
      | some d =>
        rw [hf] at hm d1
        refine ⟨_, rfl, iteTb rfl ?_⟩
        rw [hm] at k
        exact ⟨_, rfl, k _ _ (((S1.trans S2).trans S3).trans S4) (d1.mono S4)⟩
      | none =>
        rw [hf] at hm
        refine ⟨_, rfl, iteFb rfl ?_⟩
        exact ⟨_, _, rfl, (S2.trans S3).trans S4, hm⟩
    · rintro σ H2 ⟨x3, x4, rfl, S2, hm⟩
      rw [List.length_map, List.drop_length] at hm
      rw [hm] at k
      exact ⟨sz_0, fun u hu => k _ _ ((S1.trans S2).trans (Same.new hu)) (Dt.made hu .nil)⟩
end

abbrev s_kind_name : Stmt := top 6
abbrev N_kind_name : List Str := ["heap", "value", "found"]
abbrev P_kind_name : List Str := ["heap", "value"]
theorem sc_kind_name : FnScope N_kind_name P_kind_name (defScope s_kind_name) := ⟨rfl, rfl, rfl, by decide +kernel, rfl, by decide +kernel, by decide +kernel⟩
abbrev s_no_attribute : Stmt := top 19
abbrev N_no_attribute : List Str := ["heap", "value", "x"]
abbrev P_no_attribute : List Str := ["heap", "value", "x"]
theorem sc_no_attribute : FnScope N_no_attribute P_no_attribute (defScope s_no_attribute) := ⟨rfl, rfl, rfl, by decide +kernel, rfl, by decide +kernel, by decide +kernel⟩
abbrev s_sort_of : Stmt := top 8
abbrev N_sort_of : List Str := ["heap", "value"]
abbrev P_sort_of : List Str := ["heap", "value"]
theorem sc_sort_of : FnScope N_sort_of P_sort_of (defScope s_sort_of) := ⟨rfl, rfl, rfl, by decide +kernel, rfl, by decide +kernel, by decide +kernel⟩
abbrev s_function_member : Stmt := top 15
abbrev N_function_member : List Str := ["heap", "k", "x", "found"]
abbrev P_function_member : List Str := ["heap", "k", "x"]
theorem sc_function_member : FnScope N_function_member P_function_member (defScope s_function_member) := ⟨rfl, rfl, rfl, by decide +kernel, rfl, by decide +kernel, by decide +kernel⟩
abbrev s_bound : Stmt := top 18
abbrev N_bound : List Str := ["heap", "receiver", "function"]
abbrev P_bound : List Str := ["heap", "receiver", "function"]
theorem sc_bound : FnScope N_bound P_bound (defScope s_bound) := ⟨rfl, rfl, rfl, by decide +kernel, rfl, by decide +kernel, by decide +kernel⟩
abbrev s_method_of_kind : Stmt := top 17
abbrev N_method_of_kind : List Str := ["heap", "value", "x", "name"]
abbrev P_method_of_kind : List Str := ["heap", "value", "x"]
theorem sc_method_of_kind : FnScope N_method_of_kind P_method_of_kind (defScope s_method_of_kind) := ⟨rfl, rfl, rfl, by decide +kernel, rfl, by decide +kernel, by decide +kernel⟩
abbrev s_attribute_of_instance : Stmt := top 16
abbrev N_attribute_of_instance : List Str := ["heap", "value", "x", "_", "k", "members", "found", "function"]
abbrev P_attribute_of_instance : List Str := ["heap", "value", "x"]
theorem sc_attribute_of_instance : FnScope N_attribute_of_instance P_attribute_of_instance (defScope s_attribute_of_instance) := ⟨rfl, rfl, rfl, by decide +kernel, rfl, by decide +kernel, by decide +kernel⟩
abbrev s_attribute : Stmt := top 14
abbrev N_attribute : List Str := ["heap", "value", "x", "kind", "found"]
abbrev P_attribute : List Str := ["heap", "value", "x"]
theorem sc_attribute : FnScope N_attribute P_attribute (defScope s_attribute) := ⟨rfl, rfl, rfl, by decide +kernel, rfl, by decide +kernel, by decide +kernel⟩
section
variable {P : Program} {w : World} {K : PySem.W.Frag} {mg : Str → Option Value} {base : Heap}
abbrev vks : List (Str × Str) := [("none", "NoneType"), ("bool", "bool"), ("int", "int"), ("text", "str"), ("span", "range"), ("built", "builtin"), ("host", "host")]
abbrev oks : List (Str × Str) := [("list", "list"), ("tuple", "tuple"), ("dict", "dict"), ("scope", "scope"), ("func", "function"), ("class", "class"), ("bound", "method"), ("iter", "iterator"), ("gen", "generator")]
abbrev mks : List (Str × Str) := [("text", "str"), ("list", "list"), ("tuple", "tuple"), ("dict", "dict"), ("gen", "gen")]
def raiseD (t : Str) : PyData := .tuple [.str "raise", .int 9, .str t]
def refD (j : Nat) : PyData := .tuple [.str "ref", .int (j : Nat)]
theorem strlen_cat (a b : Str) : (a ++ b).length = a.length + b.length := by
  show (a.cps ++ b.cps).size = _
  rw [Array.size_append]; rfl
/-- the name of a value's kind -/
inductive NameIs (obs : List Ob) : PyData → Str → Prop
  | oth (j : Nat) (o : Ob) (t : Str) : obs[j]? = some o → tagOf o ≠ "inst" → valV (txtKV oks) (.inr (tagOf o)) = some (.str t) → NameIs obs (refD j) t
  | inst (j i : Nat) (ms ms' : Ms) (n : Str) (b : Int) : obs[j]? = some (.inst (i : Nat) ms) → obs[i]? = some (.cls n b ms') → NameIs obs (refD j) n
  | val (z : Str) (r : List PyData) (t : Str) : z ≠ "ref" → valV (txtKV vks) (.inr z) = some (.str t) → NameIs obs (.tuple (.str z :: r)) t
theorem dec_str {a b : Str} (h : a ≠ b) : decide (V.str a = V.str b) = false := decide_eq_false fun e => h (V.str.inj e)
theorem dec_str1 (a : Str) : decide (V.str a = V.str a) = true := decide_eq_true rfl
def spKName (K : PySem.W.Frag) : Sp := fun vs H Q _ => ∃ hp obs v d t, vs = [.ref hp, v] ∧ ListAt K H hp (obs.map obD) ∧ Dt K H v d ∧ NameIs obs d t ∧ Q (.str t) H
theorem ok_kname {f : Addr} {fd : FuncData} (F : Fun K "kind_name" "kind_name" s_kind_name f fd) (T : Txt K mg) (U_VALUE_KINDS : UseD P w K mg "VALUE_KINDS" (txtKV vks)) (U_OBJECT_KINDS : UseD P w K mg "OBJECT_KINDS" (txtKV oks)) : FnG P w K mg base CX0 1 f fd P_kind_name (spKName K) := by
  refine okG0 F sc_kind_name (fun vs H Q E h => ?_) fun cdv A outer s H vs Q E hr hg h => ?_
  · obtain ⟨hp, obs, v, d, t, rfl, _⟩ := h
    rfl
  · obtain ⟨hp, obs, v, d, t, rfl, L, dv, hk, k⟩ := h
    obtain ⟨aD_VALUE_KINDS, gD_VALUE_KINDS, kD1⟩ := U_VALUE_KINDS.ex
    obtain ⟨aD_OBJECT_KINDS, gD_OBJECT_KINDS, kD2⟩ := U_OBJECT_KINDS.ex
    refine ⟨_, (pss_cons (ps_if (pt_cmpR op_ne (pe_ix ix_tup (pv 1) pe_int (fun _ _ => rfl)) pe_str (nomark _))
   (pss_one (ps_ret (pe_dgetK (pe_glob (v := .ref aD_VALUE_KINDS) (by rfl) gD_VALUE_KINDS rfl) (pe_ix ix_tup (pv 1) pe_int (fun _ _ => rfl)) (fun _ _ => rfl))))
   pss_nil)
  (pss_cons (ps_set (i := 2) sc_kind_name.nd rfl (Or.inl rfl) (pe_ix ix_list (pv 0) (pe_ix ix_tup (pv 1) pe_int (fun _ _ => rfl)) (fun _ _ => rfl)))
  (pss_cons (ps_if (pt_cmpR op_eq (pe_ix ix_tup (pv 2) pe_int (fun _ _ => rfl)) pe_str (nomark _))
   (pss_one (ps_ret (pe_ix ix_tup (pe_ix ix_list (pv 0) (pe_ix ix_tup (pv 2) pe_int (fun _ _ => rfl)) (fun _ _ => rfl)) pe_int (fun _ _ => rfl))))
   pss_nil)
  (pss_one (ps_ret (pe_dgetK (pe_glob (v := .ref aD_OBJECT_KINDS) (by rfl) gD_OBJECT_KINDS rfl) (pe_ix ix_tup (pv 2) pe_int (fun _ _ => rfl)) (fun _ _ => rfl))))))), ?_⟩
    cases hk with
    | oth j o t ho hi ht =>
      obtain ⟨q, x, rfl, hq, hx⟩ := Dt.pair dv
      cases hx.int_inv
      obtain ⟨zs, y, ez, hy, dy⟩ := ob_at L ho
      obtain ⟨q2, ws, rfl, hq2⟩ := obD_inv dy
      refine ⟨_, rfl, q, _, _, _, rfl, rfl, hq, at0, rfl, _, rfl, iteFb (by decide +kernel) ?_⟩
      refine ⟨_, rfl, _, rfl, q, _, _, _, rfl, rfl, hq, at1, hp, _, _, _, rfl, rfl, SqL.of ez, atI_nat hy, ?_⟩
      refine ⟨_, rfl, q2, _, _, _, rfl, rfl, hq2, at0, rfl, _, rfl, iteFb (dec_str hi) ?_⟩
      exact ⟨_, rfl, q2, _, _, _, rfl, rfl, hq2, at0, aD_OBJECT_KINDS, _, .inr (tagOf o), _, rfl, kD2, rfl, ht, k⟩
    | inst j i ms ms' n b ho hi =>
      obtain ⟨q, x, rfl, hq, hx⟩ := Dt.pair dv
      cases hx.int_inv
      obtain ⟨zs, y, ez, hy, dy⟩ := ob_at L ho
      obtain ⟨q2, u, rfl, hq2, du⟩ := inst_inv dy
      obtain ⟨zs', y', ez', hy', dy'⟩ := ob_at L hi
      obtain ⟨q3, u', rfl, hq3, du'⟩ := cls_inv dy'
      refine ⟨_, rfl, q, _, _, _, rfl, rfl, hq, at0, rfl, _, rfl, iteFb (by decide +kernel) ?_⟩
      refine ⟨_, rfl, _, rfl, q, _, _, _, rfl, rfl, hq, at1, hp, _, _, _, rfl, rfl, SqL.of ez, atI_nat hy, ?_⟩
      refine ⟨_, rfl, q2, _, _, _, rfl, rfl, hq2, at0, rfl, _, rfl, iteTb (dec_str1 _) ?_⟩
      exact ⟨_, rfl, _, rfl, q2, _, _, _, rfl, rfl, hq2, at1, hp, _, _, _, rfl, rfl, SqL.of ez', atI_nat hy', q3, _, _, _, rfl, rfl, hq3, at1, k⟩
    | val z r t hz ht =>
      obtain ⟨q, ws, rfl, hq, _⟩ := Dt.head dv
      refine ⟨_, rfl, q, _, _, _, rfl, rfl, hq, at0, rfl, _, rfl, iteTb (by rw [dec_str hz]; rfl) ?_⟩
      exact ⟨_, rfl, q, _, _, _, rfl, rfl, hq, at0, aD_VALUE_KINDS, _, .inr z, _, rfl, kD1, rfl, ht, k⟩
def spNoAttr (K : PySem.W.Frag) : Sp := fun vs H Q _ => ∃ hp obs v d t x, vs = [.ref hp, v, .str x] ∧ ListAt K H hp (obs.map obD) ∧ Dt K H v d ∧ NameIs obs d t ∧ t.length ≤ 60 ∧ x.length ≤ 100 ∧ ∀ v' H', Same H H' → Dt K H' v' (raiseD (t ++ " has no attribute " ++ x)) → Q v' H'
theorem ok_noattr {f : Addr} {fd : FuncData} (F : Fun K "_no_attribute" "_no_attribute" s_no_attribute f fd) (T : Txt K mg) (U_kind_name : Use P w K mg base CX0 "kind_name" 1 P_kind_name (spKName K)) : FnG P w K mg base CX0 2 f fd P_no_attribute (spNoAttr K) := by
  refine okG0 F sc_no_attribute (fun vs H Q E h => ?_) fun cdv A outer s H vs Q E hr hg h => ?_
  · obtain ⟨hp, obs, v, d, t, x, rfl, _⟩ := h
    rfl
  · obtain ⟨hp, obs, v, d, t, x, rfl, L, dv, hk, hx0, hx, k⟩ := h
    refine ⟨_, (pss_one (ps_ret (pe_tup (pa_cons pe_str (pa_cons (pe_globI T.c_ATTRIBUTE_ERROR (by rfl)) (pa_cons (pe_op op_add_str (pe_op op_add_str (pe_use U_kind_name (hr.mono (by decide)) hg rfl (pa_cons (pv 0) (pa_cons (pv 1) pa_nil))) pe_str) (pv 2)) pa_nil)))))), ?_⟩
    have h18 : (" has no attribute " : Str).length = 18 := by decide +kernel
    refine ⟨_, rfl, _, rfl, hp, obs, v, d, t, rfl, L, dv, hk, ?_⟩
    refine ⟨_, _, rfl, rfl, Nat.le_trans (show _ ≤ 100 by omega) (by decide), ?_⟩
    refine ⟨_, rfl, _, _, rfl, rfl, Nat.le_trans (show _ ≤ 200 by rw [strlen_cat]; omega) (by decide), sz_3, fun u hu => k _ _ (Same.new hu) (Dt.made hu (.cons (.str _) (.cons (.int _) (.cons (.str _) .nil))))⟩
inductive SortIs (obs : List Ob) : PyData → Str → Prop
  | ref (j : Nat) (o : Ob) : obs[j]? = some o → SortIs obs (refD j) (tagOf o)
  | val (z : Str) (r : List PyData) : z ≠ "ref" → SortIs obs (.tuple (.str z :: r)) z
def spSort (K : PySem.W.Frag) : Sp := fun vs H Q _ => ∃ hp obs v d t, vs = [.ref hp, v] ∧ ListAt K H hp (obs.map obD) ∧ Dt K H v d ∧ SortIs obs d t ∧ Q (.str t) H
theorem ok_sort {f : Addr} {fd : FuncData} (F : Fun K "sort_of" "sort_of" s_sort_of f fd) (T : Txt K mg) : FnG P w K mg base CX0 1 f fd P_sort_of (spSort K) := by
  refine okG0 F sc_sort_of (fun vs H Q E h => ?_) fun cdv A outer s H vs Q E hr hg h => ?_
  · obtain ⟨hp, obs, v, d, t, rfl, _⟩ := h
    rfl
  · obtain ⟨hp, obs, v, d, t, rfl, L, dv, hk, k⟩ := h
    refine ⟨_, (pss_cons (ps_if (pt_cmpR op_eq (pe_ix ix_tup (pv 1) pe_int (fun _ _ => rfl)) pe_str (nomark _))
   (pss_one (ps_ret (pe_ix ix_tup (pe_ix ix_list (pv 0) (pe_ix ix_tup (pv 1) pe_int (fun _ _ => rfl)) (fun _ _ => rfl)) pe_int (fun _ _ => rfl))))
   pss_nil)
  (pss_one (ps_ret (pe_ix ix_tup (pv 1) pe_int (fun _ _ => rfl))))), ?_⟩
    cases hk with
    | ref j o ho =>
      obtain ⟨q, x, rfl, hq, hx⟩ := Dt.pair dv
      cases hx.int_inv
      obtain ⟨zs, y, ez, hy, dy⟩ := ob_at L ho
      obtain ⟨q2, ws, rfl, hq2⟩ := obD_inv dy
      refine ⟨_, rfl, q, _, _, _, rfl, rfl, hq, at0, rfl, _, rfl, iteTb (dec_str1 _) ?_⟩
      exact ⟨_, rfl, _, rfl, q, _, _, _, rfl, rfl, hq, at1, hp, _, _, _, rfl, rfl, SqL.of ez, atI_nat hy, q2, _, _, _, rfl, rfl, hq2, at0, k⟩
    | val z r hz =>
      obtain ⟨q, ws, rfl, hq, _⟩ := Dt.head dv
      refine ⟨_, rfl, q, _, _, _, rfl, rfl, hq, at0, rfl, _, rfl, iteFb (dec_str hz) ?_⟩
      exact ⟨_, rfl, q, _, _, _, rfl, rfl, hq, at0, k⟩
/-- the member of a class, if it is a function -/
inductive FnM (obs : List Ob) : Option PyData → Option PyData → Prop
  | none : FnM obs none none
  | fn {d : PyData} : ValK obs d "func" → FnM obs (some d) (some d)
  | no {d : PyData} {t : Str} : ValK obs d t → t ≠ "func" → FnM obs (some d) none
def spFMem (K : PySem.W.Frag) : Sp := fun vs H Q _ => ∃ hp obs k line x r, vs = [.ref hp, .int k, .str x] ∧ ListAt K H hp (obs.map obD) ∧ Chain obs k line ∧ line.length ≤ 1000 ∧ MOk obs ∧ FnM obs (memF obs line x) r ∧ ∀ v H', Same H H' → Dt K H' v (pairD r) → Q v H'
theorem ok_fmem {f : Addr} {fd : FuncData} (F : Fun K "function_member" "function_member" s_function_member f fd) (T : Txt K mg) (U_member : Use P w K mg base CX0 "member" 2 P_member (spMember K)) (U_object_kind : Use P w K mg base CX0 "object_kind" 1 P_object_kind (spKind K)) :
    FnG P w K mg base CX0 3 f fd P_function_member (spFMem K) := by
  refine okG0 F sc_function_member (fun vs H Q E h => ?_) fun cdv A outer s H vs Q E hr hg h => ?_
  · obtain ⟨hp, obs, k0, line, x, r, rfl, _⟩ := h
    rfl
  · obtain ⟨hp, obs, k0, line, x, r, rfl, L, hc, hll, hM, hF, k⟩ := h
    refine ⟨_, (pss_cons (ps_set (i := 3) sc_function_member.nd rfl (Or.inl rfl) (pe_use U_member (hr.mono (by decide)) hg rfl (pa_cons (pv 0) (pa_cons (pv 1) (pa_cons (pv 2) pa_nil)))))
  (pss_cons (ps_if (PW.pt (pw_or (pt_cmpR (op_eqD hr.units) (pv 3) (pe_tup pa_nil) (nomark _)) (pw_or1 (pt_cmpR op_ne (pe_use U_object_kind (hr.mono (by decide)) hg rfl (pa_cons (pv 0) (pa_cons (pv 3) pa_nil))) pe_str (nomark _)))))
   (pss_one (ps_ret (pe_tup pa_nil)))
   pss_nil)
  (pss_one (ps_ret (pv 3))))), ?_⟩
    refine ⟨_, rfl, _, rfl, _, rfl, hp, obs, k0, line, x, rfl, L, hc, hll, hM, fun v1 H1 S1 d1 => ?_⟩
    have hok := fun d hd => memF_ok hM (x := x) (l := line) d hd
    refine ⟨_, rfl, sz_0, fun u2 hu2 => ?_⟩
    have S2 := Same.new (o := .tup []) hu2
    refine ⟨_, _, (d1.mono S2).dp, (Dt.made hu2 .nil).dp, shp_pair hok, rfl, ?_⟩
    rw [eqv_pair hok]
    generalize memF obs line x = mm at hF d1 hok
    cases hF with
    | none =>
      refine ⟨_, rfl, iteTb rfl ?_⟩
      exact ⟨sz_0, fun u hu => k _ _ ((S1.trans S2).trans (Same.new hu)) (Dt.made hu .nil)⟩
    | fn hk =>
      refine ⟨_, rfl, iteFb rfl ?_⟩
      refine ⟨_, rfl, _, rfl, hp, obs, _, _, _, rfl, listAt_mono L (S1.trans S2), d1.mono S2, hk, ?_⟩
      refine ⟨rfl, _, rfl, iteFb (by rw [dec_str1]; rfl) ?_⟩
      exact ⟨_, rfl, k _ _ (S1.trans S2) (d1.mono S2)⟩
    | no hk ht =>
      refine ⟨_, rfl, iteFb rfl ?_⟩
      refine ⟨_, rfl, _, rfl, hp, obs, _, _, _, rfl, listAt_mono L (S1.trans S2), d1.mono S2, hk, ?_⟩
      refine ⟨rfl, _, rfl, iteTb (by rw [dec_str ht]; rfl) ?_⟩
      exact ⟨sz_0, fun u hu => k _ _ ((S1.trans S2).trans (Same.new hu)) (Dt.made hu .nil)⟩
def spBound (K : PySem.W.Frag) : Sp := fun vs H Q _ => ∃ (hp : Addr) (obs : List Ob) (v u : V) (d n : PyData), vs = [.ref hp, v, u] ∧ ListAt K H hp (obs.map obD) ∧ Dt K H v d ∧ Dt K H u n ∧ obs.length ≤ 1000 ∧
  ∀ v' H', ListAt K H' hp ((obs ++ [Ob.other "bound" [d, n]]).map obD) → Keep hp H H' → Dt K H' v' (refD obs.length) → Q v' H'
theorem ok_bound {f : Addr} {fd : FuncData} (F : Fun K "_bound" "_bound" s_bound f fd) (T : Txt K mg) : FnG P w K mg base CX0 1 f fd P_bound (spBound K) := by
  refine okG0 F sc_bound (fun vs H Q E h => ?_) fun cdv A outer s H vs Q E hr hg h => ?_
  · obtain ⟨hp, obs, v, u, d, n, rfl, _⟩ := h
    rfl
  · obtain ⟨hp, obs, v, u, d, n, rfl, L, dv, du, hl, k⟩ := h
    refine ⟨_, (pss_cons (ps_expr (pe_bm PySem.F.plainAttrs_list PySem.F.slot_list_append PySem.F.type_list_append mt_append (pv 0) (pa_cons (pe_tup (pa_cons pe_str (pa_cons (pv 1) (pa_cons (pv 2) pa_nil)))) pa_nil)))
  (pss_one (ps_ret (pe_tup (pa_cons pe_str (pa_cons (pe_op op_sub (pe_callB call_len (by rfl) T.b_len PySem.boot_len (pa_cons (pv 0) pa_nil)) pe_int) pa_nil)))))), ?_⟩
    obtain ⟨zs, ez, az⟩ := id L
    have lz := az.length
    rw [List.length_map] at lz
    refine ⟨_, rfl, .inl ⟨rfl, _, SqL.of ez⟩, _, rfl, _, rfl, sz_3, fun b hb => ?_⟩
    have S1 := Same.new (o := .tup [.str "bound", v, u]) hb
    refine ⟨hp, _, _, rfl, rfl, S1 _ _ ez, Nat.lt_of_le_of_lt (show zs.length ≤ 1000 by omega) (by decide), ?_⟩
    have L2 := listAt_app (listAt_mono L S1) (S1 _ _ ez) (Dt.made hb (.cons (.str _) (.cons dv (.cons du .nil))))
    have K2 : Keep hp H (upd (upd H b (.tup [.str "bound", v, u])) hp (.lst (zs ++ [.ref b]))) := fun c o hc hne => by rw [upd_ne hne]; exact S1 _ _ hc
    refine ⟨_, rfl, _, _, rfl, .inl ⟨_, SqL.of upd_same, rfl⟩, _, _, rfl, rfl, sz_2, fun c hc => ?_⟩
    have S3 := Same.new (o := .tup [.str "ref", .int ((((zs ++ [V.ref b]).length : Nat) : Int) - 1)]) hc
    refine k _ _ ?_ (K2.trans (Same.keep S3)) ?_
    · rw [List.map_append]; exact listAt_mono L2 S3
    · have := Dt.made (K := K) hc (.cons (.str "ref") (.cons (.int ((((zs ++ [V.ref b]).length : Nat) : Int) - 1)) .nil))
      dsimp only
      rw [show ((((zs ++ [V.ref b]).length : Nat) : Int) - 1) = ((obs.length : Nat) : Int) by rw [List.length_append, lz]; simp] at this ⊢
      exact this
inductive AR
  | found (d : PyData)
  | made (fn : PyData)
  | no (t : Str)
def arO (d : PyData) : AR → List Ob
  | .made fn => [Ob.other "bound" [d, fn]]
  | _ => []
/-- what is found, ahead of the refusal -/
def arV (n : Nat) : AR → PyData
  | .found d => d
  | .made _ => refD n
  | .no _ => .tuple []
def arD (n : Nat) (x : Str) : AR → PyData
  | .found d => .tuple [.str "ok", d]
  | .made _ => .tuple [.str "ok", refD n]
  | .no t => raiseD (t ++ " has no attribute " ++ x)
inductive InR (obs : List Ob) (ms : Ms) (line : List Int) (x : Str) (t : Str) : AR → Prop
  | own {d : PyData} : find ms x = some d → VOk d → InR obs ms line x t (.found d)
  | fn {d : PyData} : find ms x = none → memF obs line x = some d → ValK obs d "func" → InR obs ms line x t (.made d)
  | mem {d : PyData} {s : Str} : find ms x = none → memF obs line x = some d → ValK obs d s → s ≠ "func" → InR obs ms line x t (.found d)
  | no : find ms x = none → memF obs line x = none → InR obs ms line x t (.no t)
def spAInst (K : PySem.W.Frag) : Sp := fun vs H Q _ => ∃ (hp : Addr) (obs : List Ob) (v : V) (j : Nat) (c : Int) (ms : Ms) (line : List Int) (x t : Str) (r : AR), vs = [.ref hp, v, .str x] ∧ ListAt K H hp (obs.map obD) ∧ Dt K H v (refD j) ∧ obs[j]? = some (.inst c ms) ∧ Chain obs c line ∧ line.length ≤ 1000 ∧ MOk obs ∧ obs.length ≤ 1000 ∧ InR obs ms line x t r ∧
  ∀ v' H', ListAt K H' hp ((obs ++ arO (refD j) r).map obD) → Keep hp H H' → Dt K H' v' (arV obs.length r) → Q v' H'
theorem ok_ainst {f : Addr} {fd : FuncData} (F : Fun K "_attribute_of_instance" "_attribute_of_instance" s_attribute_of_instance f fd) (T : Txt K mg) (U_paired : Use P w K mg base CX0 "paired" 1 P_paired (spPaired K)) (U_function_member : Use P w K mg base CX0 "function_member" 3 P_function_member (spFMem K))
    (U_bound : Use P w K mg base CX0 "_bound" 1 P_bound (spBound K)) (U_member : Use P w K mg base CX0 "member" 2 P_member (spMember K)) : FnG P w K mg base CX0 4 f fd P_attribute_of_instance (spAInst K) := by
  refine okG0 F sc_attribute_of_instance (fun vs H Q E h => ?_) fun cdv A outer s H vs Q E hr hg h => ?_
  · obtain ⟨hp, obs, v, j, c, ms, line, x, t, r, rfl, _⟩ := h
    rfl
  · obtain ⟨hp, obs, v, j, c, ms, line, x, t, r, rfl, L, dv, ho, hc, hll, hM, hol, hR, k⟩ := h
    refine ⟨_, (pss_cons (ps_asg (pe_ix ix_list (pv 0) (pe_ix ix_tup (pv 1) pe_int (fun _ _ => rfl)) (fun _ _ => rfl)) (pg_tup (by rfl) (pgs_cons (pg_name (i := 3) sc_attribute_of_instance.nd rfl (Or.inl rfl)) (pgs_cons (pg_name (i := 4) sc_attribute_of_instance.nd rfl (Or.inl rfl)) (pgs_cons (pg_name (i := 5) sc_attribute_of_instance.nd rfl (Or.inl rfl)) pgs_nil)))))
  (pss_cons (ps_set (i := 6) sc_attribute_of_instance.nd rfl (Or.inl rfl) (pe_use U_paired (hr.mono (by decide)) hg rfl (pa_cons (pv 5) (pa_cons (pv 2) pa_nil))))
  (pss_cons (ps_if (pt_cmpR (op_neD hr.units) (pv 6) (pe_tup pa_nil) (nomark _))
   (pss_one (ps_ret (pv 6)))
   pss_nil)
  (pss_cons (ps_set (i := 7) sc_attribute_of_instance.nd rfl (Or.inl rfl) (pe_use U_function_member (hr.mono (by decide)) hg rfl (pa_cons (pv 0) (pa_cons (pv 4) (pa_cons (pv 2) pa_nil)))))
  (pss_cons (ps_if (pt_cmpR (op_neD hr.units) (pv 7) (pe_tup pa_nil) (nomark _))
   (pss_one (ps_ret (pe_use U_bound (hr.mono (by decide)) hg rfl (pa_cons (pv 0) (pa_cons (pv 1) (pa_cons (pv 7) pa_nil))))))
   pss_nil)
  (pss_one (ps_ret (pe_use U_member (hr.mono (by decide)) hg rfl (pa_cons (pv 0) (pa_cons (pv 4) (pa_cons (pv 2) pa_nil))))))))))), ?_⟩
    obtain ⟨q, y, rfl, hq, hx⟩ := Dt.pair (id dv)
    cases hx.int_inv
    obtain ⟨zs, y, ez, hy, dy⟩ := ob_at L ho
    obtain ⟨q2, u, rfl, hq2, du⟩ := inst_inv dy
    refine ⟨_, rfl, _, rfl, q, _, _, _, rfl, rfl, hq, at1, hp, _, _, _, rfl, rfl, SqL.of ez, atI_nat hy, q2, _, rfl, hq2, rfl, _, _, rfl, _, _, rfl, _, _, rfl, rfl, ?_⟩
    refine ⟨_, rfl, _, rfl, u, ms, x, rfl, du, fun v1 H1 S1 d1 => ?_⟩
    refine ⟨_, rfl, sz_0, fun u2 hu2 => ?_⟩
    have S2 := Same.new (o := .tup []) hu2
    have hms : ∀ d', find ms x = some d' → VOk d' := fun d' h' => by
      cases hR with
      | own h hv => rw [h'] at h; cases h; exact hv
      | fn h _ _ => rw [h'] at h; cases h
      | mem h _ _ _ => rw [h'] at h; cases h
      | no h _ => rw [h'] at h; cases h
    refine ⟨_, _, (d1.mono S2).dp, (Dt.made hu2 .nil).dp, shp_pair hms, rfl, ?_⟩
    rw [eqv_pair hms]
    have S12 := S1.trans S2
    have fin : ∀ {d : PyData} {v : V} {H' : Hp}, Same H H' → Dt K H' v d → r = .found d → Q v H' := fun S' d' e => by
      subst e
      refine k _ _ ?_ (Same.keep S') d'
      rw [show obs ++ arO (refD j) (.found _) = obs from List.append_nil _]
      exact listAt_mono L S'
    cases hR with
    | @own d h hv =>
      rw [h] at d1 ⊢
      refine ⟨_, rfl, iteTb rfl ?_⟩
      exact ⟨_, rfl, fin S12 (d1.mono S2) rfl⟩
    | @fn d h hm hk =>
      rw [h] at d1 ⊢
      refine ⟨_, rfl, iteFb rfl ?_⟩
      refine ⟨_, rfl, _, rfl, _, rfl, hp, obs, c, line, x, some d, rfl, listAt_mono L S12, hc, hll, hM, by rw [hm]; exact .fn hk, fun v3 H3 S3 d3 => ?_⟩
      have S13 := S12.trans S3
      refine ⟨_, rfl, sz_0, fun u4 hu4 => ?_⟩
      have S4 := Same.new (o := .tup []) hu4
      have hv := memF_ok hM d hm
      refine ⟨_, _, (d3.mono S4).dp, (Dt.made hu4 .nil).dp, hv.shp.sh (by decide), rfl, ?_⟩
      obtain ⟨z, rr, ed, _⟩ := hv.tup
      rw [show pairD (some d) = d from rfl, ed, eqv_nil]
      refine ⟨_, rfl, iteTb rfl ?_⟩
      refine ⟨_, rfl, _, rfl, _, rfl, hp, obs, _, _, _, d, rfl, listAt_mono L (S13.trans S4), dv.mono (S13.trans S4), d3.mono S4, hol, fun v' H' L' K' d' => ?_⟩
      exact k _ _ L' ((Same.keep (S13.trans S4)).trans K') d'
    | @mem d s h hm hk hs =>
      rw [h] at d1 ⊢
      refine ⟨_, rfl, iteFb rfl ?_⟩
      refine ⟨_, rfl, _, rfl, _, rfl, hp, obs, c, line, x, none, rfl, listAt_mono L S12, hc, hll, hM, by rw [hm]; exact .no hk hs, fun v3 H3 S3 d3 => ?_⟩
      have S13 := S12.trans S3
      refine ⟨_, rfl, sz_0, fun u4 hu4 => ?_⟩
      have S4 := Same.new (o := .tup []) hu4
      refine ⟨_, _, (d3.mono S4).dp, (Dt.made hu4 .nil).dp, rfl, rfl, ?_⟩
      rw [show pairD none = .tuple [] from rfl, eqv_nil]
      refine ⟨_, rfl, iteFb rfl ?_⟩
      refine ⟨_, rfl, _, rfl, _, rfl, hp, obs, c, line, x, rfl, listAt_mono L (S13.trans S4), hc, hll, hM, fun v5 H5 S5 d5 => ?_⟩
      rw [hm] at d5
      exact fin ((S13.trans S4).trans S5) d5 rfl
    | no h hm =>
      rw [h] at d1 ⊢
      refine ⟨_, rfl, iteFb rfl ?_⟩
      refine ⟨_, rfl, _, rfl, _, rfl, hp, obs, c, line, x, none, rfl, listAt_mono L S12, hc, hll, hM, by rw [hm]; exact .none, fun v3 H3 S3 d3 => ?_⟩
      have S13 := S12.trans S3
      refine ⟨_, rfl, sz_0, fun u4 hu4 => ?_⟩
      have S4 := Same.new (o := .tup []) hu4
      refine ⟨_, _, (d3.mono S4).dp, (Dt.made hu4 .nil).dp, rfl, rfl, ?_⟩
      rw [show pairD none = .tuple [] from rfl, eqv_nil]
      refine ⟨_, rfl, iteFb rfl ?_⟩
      refine ⟨_, rfl, _, rfl, _, rfl, hp, obs, c, line, x, rfl, listAt_mono L (S13.trans S4), hc, hll, hM, fun v5 H5 S5 d5 => ?_⟩
      rw [hm] at d5
      have S' := (S13.trans S4).trans S5
      refine k _ _ ?_ (Same.keep S') d5
      rw [show obs ++ arO (refD j) (.no t) = obs from List.append_nil _]
      exact listAt_mono L S'
/-- the method of a built-in kind -/
def methN (s x : Str) : Str := (match (valV (txtKV mks) (.inr s)).getD (.str "") with | .str z => z | _ => "") ++ "." ++ x
def builtD (n : Str) : PyData := .tuple [.str "built", .str n]
inductive MeR (obs : List Ob) (d : PyData) (x t : Str) : AR → Prop
  | made {s : Str} : SortIs obs d s → methN s x ∈ sigs → MeR obs d x t (.made (builtD (methN s x)))
  | no {s : Str} : SortIs obs d s → ¬ methN s x ∈ sigs → MeR obs d x t (.no t)
theorem mks_str (s : Str) : ∃ z, (valV (txtKV mks) (.inr s)).getD (.str "") = .str z ∧ z.length ≤ 10 := by
  by_cases h : s ∈ mks.map (·.1)
  · have : ∀ s ∈ mks.map (·.1), (match (valV (txtKV mks) (.inr s)).getD (.str "") with | .str z => decide (z.length ≤ 10) | _ => false) = true := by decide +kernel
    have := this s h
    revert this
    cases (valV (txtKV mks) (.inr s)).getD (.str "") with
    | str z => intro h; exact ⟨z, rfl, of_decide_eq_true h⟩
    | _ => intro h; cases h
  · have e : valV (txtKV mks) (.inr s) = none := by
      have h5 : ∀ k ∈ mks.map (·.1), k ≠ s := fun k hk e => h (e ▸ hk)
      unfold valV
      rw [List.find?_eq_none.mpr fun p hp => ?_]
      · rfl
      · obtain ⟨y, hy, rfl⟩ := List.mem_map.mp hp
        simp only [decide_eq_true_eq]
        exact fun e => h5 y.1 (List.mem_map.mpr ⟨y, hy, rfl⟩) (Sum.inr.inj e)
    rw [e]
    exact ⟨"", rfl, by decide +kernel⟩
def spMeth (K : PySem.W.Frag) : Sp := fun vs H Q _ => ∃ (hp : Addr) (obs : List Ob) (v : V) (d : PyData) (x t : Str) (r : AR), vs = [.ref hp, v, .str x] ∧ ListAt K H hp (obs.map obD) ∧ Dt K H v d ∧ x.length ≤ 100 ∧ obs.length ≤ 1000 ∧ MeR obs d x t r ∧
  ∀ v' H', ListAt K H' hp ((obs ++ arO d r).map obD) → Keep hp H H' → Dt K H' v' (arV obs.length r) → Q v' H'
theorem ok_meth {f : Addr} {fd : FuncData} (F : Fun K "_method_of_kind" "_method_of_kind" s_method_of_kind f fd) (T : Txt K mg) (U_METHOD_KINDS : UseD P w K mg "METHOD_KINDS" (txtKV mks)) (U_SIGNATURES : UseK P w K mg "SIGNATURES" sigs)
    (U_sort_of : Use P w K mg base CX0 "sort_of" 1 P_sort_of (spSort K)) (U_bound : Use P w K mg base CX0 "_bound" 1 P_bound (spBound K)) : FnG P w K mg base CX0 2 f fd P_method_of_kind (spMeth K) := by
  refine okG0 F sc_method_of_kind (fun vs H Q E h => ?_) fun cdv A outer s H vs Q E hr hg h => ?_
  · obtain ⟨hp, obs, v, d, x, t, r, rfl, _⟩ := h
    rfl
  · obtain ⟨hp, obs, v, d, x, t, r, rfl, L, dv, hx, hol, hR, k⟩ := h
    obtain ⟨aD_METHOD_KINDS, gD_METHOD_KINDS, kD1⟩ := U_METHOD_KINDS.ex
    obtain ⟨aD_SIGNATURES, skv, gD_SIGNATURES, kD2, hS⟩ := U_SIGNATURES.ex
    refine ⟨_, (pss_cons (ps_set (i := 3) sc_method_of_kind.nd rfl (Or.inl rfl) (pe_op op_add_str (pe_op op_add_str (pe_dget2K (pe_glob (v := .ref aD_METHOD_KINDS) (by rfl) gD_METHOD_KINDS rfl) (pe_use U_sort_of (hr.mono (by decide)) hg rfl (pa_cons (pv 0) (pa_cons (pv 1) pa_nil))) pe_str ⟨rfl, rfl, rfl, rfl⟩) pe_str) (pv 2)))
  (pss_cons (ps_if (pt_cmp (pc_dnotinM (pv 3) (pe_glob (v := .ref aD_SIGNATURES) (by rfl) gD_SIGNATURES rfl)))
   (pss_one (ps_ret (pe_tup pa_nil)))
   pss_nil)
  (pss_one (ps_ret (pe_use U_bound (hr.mono (by decide)) hg rfl (pa_cons (pv 0) (pa_cons (pv 1) (pa_cons (pe_tup (pa_cons pe_str (pa_cons (pv 3) pa_nil))) pa_nil)))))))), ?_⟩
    obtain ⟨s, hs⟩ : ∃ s, SortIs obs d s := by
      cases hR with
      | made h _ => exact ⟨_, h⟩
      | no h _ => exact ⟨_, h⟩
    have hr2 : (methN s x ∈ sigs ∧ r = .made (builtD (methN s x))) ∨ (¬ methN s x ∈ sigs ∧ r = .no t) := by
      have uniq : ∀ s', SortIs obs d s' → s' = s := fun s' h' => by
        cases hs with
        | ref j o ho =>
          generalize hd : refD j = d at h'
          cases h' with
          | ref j' o' ho' =>
            have e := PyData.tuple.inj hd
            have e2 := PyData.int.inj (List.cons.inj (List.cons.inj e).2).1
            obtain rfl : j = j' := by omega
            rw [ho] at ho'
            cases ho'
            rfl
          | val z r hz =>
            have e := PyData.tuple.inj hd
            exact absurd (PyData.str.inj (List.cons.inj e).1).symm hz
        | val z r hz =>
          generalize hd : PyData.tuple (.str s :: r) = d at h'
          cases h' with
          | ref j o ho =>
            have e := PyData.tuple.inj hd
            exact absurd (PyData.str.inj (List.cons.inj e).1) hz
          | val z' r' hz' => exact (PyData.str.inj (List.cons.inj (PyData.tuple.inj hd)).1).symm
      cases hR with
      | made h h2 => obtain rfl := uniq _ h; exact .inl ⟨h2, rfl⟩
      | no h h2 => obtain rfl := uniq _ h; exact .inr ⟨h2, rfl⟩
    obtain ⟨z, ez, hzl⟩ := mks_str s
    have en : methN s x = z ++ "." ++ x := by unfold methN; rw [ez]
    have h1 : ("." : Str).length = 1 := by decide +kernel
    refine ⟨aD_METHOD_KINDS, _, rfl, kD1, _, rfl, _, rfl, hp, obs, _, d, s, rfl, L, dv, hs, .inr s, rfl, ?_⟩
    rw [ez]
    refine ⟨_, _, rfl, rfl, Nat.le_trans (show _ ≤ 100 by omega) (by decide), ?_⟩
    refine ⟨_, rfl, _, _, rfl, rfl, Nat.le_trans (show _ ≤ 200 by rw [strlen_cat]; omega) (by decide), ?_⟩
    rw [← en]
    refine ⟨_, rfl, aD_SIGNATURES, skv, .inr (methN s x), rfl, kD2, rfl, ?_⟩
    rw [hS]
    rcases hr2 with ⟨hin, rfl⟩ | ⟨hin, rfl⟩
    · refine ⟨_, rfl, iteFb (by rw [decide_eq_true hin]; rfl) ?_⟩
      refine ⟨_, rfl, _, rfl, _, rfl, sz_2, fun u hu => ?_⟩
      have S1 := Same.new (o := .tup [.str "built", .str (methN s x)]) hu
      refine ⟨hp, obs, _, _, d, builtD (methN s x), rfl, listAt_mono L S1, dv.mono S1, Dt.made hu (.cons (.str _) (.cons (.str _) .nil)), hol, fun v' H' L' K' d' => ?_⟩
      exact k _ _ L' ((Same.keep S1).trans K') d'
    · refine ⟨_, rfl, iteTb (by rw [decide_eq_false hin]; rfl) ?_⟩
      refine ⟨sz_0, fun u hu => k _ _ ?_ (Same.keep (Same.new hu)) (Dt.made hu .nil)⟩
      rw [show obs ++ arO d (.no t) = obs from List.append_nil _]
      exact listAt_mono L (Same.new hu)
/-- asking for an attribute -/
inductive AtR (obs : List Ob) (x : Str) : PyData → AR → Prop
  | inst {j : Nat} {c : Int} {ms : Ms} {line : List Int} {t : Str} {r : AR} : obs[j]? = some (.inst c ms) → Chain obs c line → line.length ≤ 1000 → InR obs ms line x t r → NameIs obs (refD j) t → t.length ≤ 60 → AtR obs x (refD j) r
  | clsF {j : Nat} {n : Str} {b : Int} {ms : Ms} {line : List Int} {d : PyData} : obs[j]? = some (.cls n b ms) → Chain obs (j : Nat) line → line.length ≤ 1000 → memF obs line x = some d → AtR obs x (refD j) (.found d)
  | clsN {j : Nat} {n : Str} {b : Int} {ms : Ms} {line : List Int} : obs[j]? = some (.cls n b ms) → Chain obs (j : Nat) line → line.length ≤ 1000 → memF obs line x = none → AtR obs x (refD j) (.no "class")
  | oth {d : PyData} {s t : Str} {r : AR} : ValK obs d s → s ≠ "inst" → s ≠ "class" → MeR obs d x t r → NameIs obs d t → t.length ≤ 60 → AtR obs x d r
def spAttr (K : PySem.W.Frag) : Sp := fun vs H Q _ => ∃ (hp : Addr) (obs : List Ob) (v : V) (d : PyData) (x : Str) (r : AR), vs = [.ref hp, v, .str x] ∧ ListAt K H hp (obs.map obD) ∧ Dt K H v d ∧ MOk obs ∧ x.length ≤ 100 ∧ obs.length ≤ 1000 ∧ AtR obs x d r ∧
  ∀ v' H', ListAt K H' hp ((obs ++ arO d r).map obD) → Keep hp H H' → Dt K H' v' (arD obs.length x r) → Q v' H'
theorem keepR {hp : Addr} {H H' : Hp} {ds : List PyData} (k : Keep hp H H') (L : ListAt K H hp ds) : KeepT K H H' := k.keepT (let ⟨xs, e, _⟩ := L; ⟨xs, e⟩)
theorem ok_attr {f : Addr} {fd : FuncData} (F : Fun K "attribute" "attribute" s_attribute f fd) (T : Txt K mg) (U_object_kind : Use P w K mg base CX0 "object_kind" 1 P_object_kind (spKind K)) (U_attribute_of_instance : Use P w K mg base CX0 "_attribute_of_instance" 4 P_attribute_of_instance (spAInst K))
    (U_member : Use P w K mg base CX0 "member" 2 P_member (spMember K)) (U_method_of_kind : Use P w K mg base CX0 "_method_of_kind" 2 P_method_of_kind (spMeth K)) (U_no_attribute : Use P w K mg base CX0 "_no_attribute" 2 P_no_attribute (spNoAttr K)) :
    FnG P w K mg base CX0 5 f fd P_attribute (spAttr K) := by
  refine okG0 F sc_attribute (fun vs H Q E h => ?_) fun cdv A outer s H vs Q E hr hg h => ?_
  · obtain ⟨hp, obs, v, d, x, r, rfl, _⟩ := h
    rfl
  · obtain ⟨hp, obs, v, d, x, r, rfl, L, dv, hM, hxl, hol, hR, k⟩ := h
    refine ⟨_, (pss_cons (ps_set (i := 3) sc_attribute.nd rfl (Or.inl rfl) (pe_use U_object_kind (hr.mono (by decide)) hg rfl (pa_cons (pv 0) (pa_cons (pv 1) pa_nil))))
  (C8.pss_cut (ps_if (pt_cmpR op_eq (pv 3) pe_str (nomark _))
   (pss_one (ps_set (i := 4) sc_attribute.nd rfl (Or.inl rfl) (pe_use U_attribute_of_instance (hr.mono (by decide)) hg rfl (pa_cons (pv 0) (pa_cons (pv 1) (pa_cons (pv 2) pa_nil))))))
   (pss_one (ps_if (pt_cmpR op_eq (pv 3) pe_str (nomark _))
   (pss_one (ps_set (i := 4) sc_attribute.nd rfl (Or.inl rfl) (pe_use U_member (hr.mono (by decide)) hg rfl (pa_cons (pv 0) (pa_cons (pe_ix ix_tup (pv 1) pe_int (fun _ _ => rfl)) (pa_cons (pv 2) pa_nil))))))
   (pss_one (ps_set (i := 4) sc_attribute.nd rfl (Or.inl rfl) (pe_use U_method_of_kind (hr.mono (by decide)) hg rfl (pa_cons (pv 0) (pa_cons (pv 1) (pa_cons (pv 2) pa_nil)))))))))
  (pss_cons (ps_if (pt_cmpR (op_eqD hr.units) (pv 4) (pe_tup pa_nil) (nomark _))
   (pss_one (ps_ret (pe_use U_no_attribute (hr.mono (by decide)) hg rfl (pa_cons (pv 0) (pa_cons (pv 1) (pa_cons (pv 2) pa_nil))))))
   pss_nil)
  (pss_one (ps_ret (pe_tup (pa_cons pe_str (pa_cons (pv 4) pa_nil)))))))), ?_⟩
    -- its kind
    obtain ⟨s, hk, hs⟩ : ∃ s, ValK obs d s ∧ ((s = "inst" ∧ ∃ j c ms line t, d = refD j ∧ obs[j]? = some (.inst c ms) ∧ Chain obs c line ∧ line.length ≤ 1000 ∧ InR obs ms line x t r) ∨
        (s = "class" ∧ ∃ (j : Nat) (n : Str) (b : Int) (ms : Ms) (line : List Int), d = refD j ∧ obs[j]? = some (.cls n b ms) ∧ Chain obs (j : Nat) line ∧ line.length ≤ 1000 ∧ r = (match memF obs line x with | some d => .found d | none => .no "class")) ∨
        (s ≠ "inst" ∧ s ≠ "class" ∧ ∃ t, MeR obs d x t r)) := by
      cases hR with
      | inst h1 h2 h3 h4 _ _ => exact ⟨"inst", .ref _ _ h1, .inl ⟨rfl, _, _, _, _, _, rfl, h1, h2, h3, h4⟩⟩
      | clsF h1 h2 h3 h4 => exact ⟨"class", .ref _ _ h1, .inr (.inl ⟨rfl, _, _, _, _, _, rfl, h1, h2, h3, by rw [h4]⟩)⟩
      | clsN h1 h2 h3 h4 => exact ⟨"class", .ref _ _ h1, .inr (.inl ⟨rfl, _, _, _, _, _, rfl, h1, h2, h3, by rw [h4]⟩)⟩
      | oth h1 h2 h3 h4 _ _ => exact ⟨_, h1, .inr (.inr ⟨h2, h3, _, h4⟩)⟩
    have hno : ∀ t, r = .no t → NameIs obs d t ∧ t.length ≤ 60 := fun t e => by
      cases hR with
      | inst h1 h2 h3 h4 h5 h6 => cases h4 <;> cases e <;> exact ⟨h5, h6⟩
      | clsF h1 h2 h3 h4 => cases e
      | clsN h1 h2 h3 h4 => cases e; exact ⟨.oth _ _ _ h1 (by show ("class" : Str) ≠ "inst"; decide +kernel) (by show valV (txtKV oks) (.inr "class") = _; decide +kernel), by decide +kernel⟩
      | oth h1 h2 h3 h4 h5 h6 => cases h4 <;> cases e <;> exact ⟨h5, h6⟩
    have hfo : ∀ d', r = .found d' → VOk d' := fun d' e => by
      cases hR with
      | inst h1 h2 h3 h4 h5 h6 =>
        cases h4 with
        | own _ h => cases e; exact h
        | mem _ h _ _ => cases e; exact memF_ok hM _ h
        | fn => cases e
        | no => cases e
      | clsF h1 h2 h3 h4 => cases e; exact memF_ok hM _ h4
      | clsN h1 h2 h3 h4 => cases e
      | oth h1 h2 h3 h4 h5 h6 => cases h4 <;> cases e
    refine ⟨_, rfl, _, rfl, hp, obs, _, d, s, rfl, L, dv, hk, ?_⟩
    refine ⟨fun σ H1 => ∃ v1, σ = [some (.ref hp), some v, some (.str x), some (.str s), some v1] ∧ ListAt K H1 hp ((obs ++ arO d r).map obD) ∧ Keep hp H H1 ∧ Dt K H1 v1 (arV obs.length r), ?_, ?_⟩
    · rcases hs with ⟨rfl, j, c, ms, line, t, rfl, ho, hc, hll, hI⟩ | ⟨rfl, j, n, b, ms, line, rfl, ho, hc, hll, hr2⟩ | ⟨h1, h2, t, hm⟩
      · refine ⟨_, rfl, rfl, _, rfl, iteTb (dec_str1 _) ?_⟩
        exact ⟨_, rfl, _, rfl, _, rfl, hp, obs, _, j, c, ms, line, x, t, r, rfl, L, dv, ho, hc, hll, hM, hol, hI, fun v' H' L' K' d' => ⟨_, rfl, L', K', d'⟩⟩
      · obtain ⟨q, y, rfl, hq, hx⟩ := Dt.pair (id dv)
        cases hx.int_inv
        refine ⟨_, rfl, rfl, _, rfl, iteFb (dec_str (by decide +kernel)) ?_⟩
        refine ⟨_, rfl, rfl, _, rfl, iteTb (dec_str1 _) ?_⟩
        refine ⟨_, rfl, _, rfl, q, _, _, _, rfl, rfl, hq, at1, _, rfl, hp, obs, (j : Nat), line, x, rfl, L, hc, hll, hM, fun v1 H1 S1 d1 => ⟨_, rfl, ?_, Same.keep S1, ?_⟩⟩
        · rw [hr2]
          cases memF obs line x <;> exact (List.append_nil obs).symm ▸ listAt_mono L S1
        · rw [hr2]
          cases hmm : memF obs line x <;> rw [hmm] at d1 <;> exact d1
      · refine ⟨_, rfl, rfl, _, rfl, iteFb (dec_str h1) ?_⟩
        refine ⟨_, rfl, rfl, _, rfl, iteFb (dec_str h2) ?_⟩
        exact ⟨_, rfl, _, rfl, _, rfl, hp, obs, v, d, x, t, r, rfl, L, dv, hxl, hol, hm, fun v' H' L' K' d' => ⟨_, rfl, L', K', d'⟩⟩
    · rintro _ H1 ⟨v1, rfl, L1, K1, d1⟩
      refine ⟨_, rfl, sz_0, fun u2 hu2 => ?_⟩
      have S2 := Same.new (o := .tup []) hu2
      have K2 := K1.trans (Same.keep S2)
      have shp : SeqAt.shaped (arV obs.length r) = true := by
        cases r with
        | found d' => exact (hfo d' rfl).shp.sh (by decide)
        | made _ => exact (Shp.tup (n := 0) (ds := [.str "ref", .int (obs.length : Nat)]) (Shp.cons2 (Shp.str (by decide +kernel)) (Shp.cons2 (Shp.int _ _) Shp.none2))).sh (by decide)
        | no _ => rfl
      refine ⟨_, _, (d1.mono S2).dp, (Dt.made hu2 .nil).dp, shp, rfl, ?_⟩
      cases r with
      | found d' =>
        obtain ⟨z, rr, ed, _⟩ := (hfo d' rfl).tup
        rw [show arV obs.length (.found d') = d' from rfl, ed, eqv_nil]
        refine ⟨_, rfl, iteFb rfl ?_⟩
        refine ⟨_, rfl, sz_2, fun u hu => ?_⟩
        have S3 := Same.new (o := .tup [.str "ok", v1]) hu
        exact k _ _ (listAt_mono L1 (S2.trans S3)) (K2.trans (Same.keep S3)) (Dt.made hu (.cons (.str _) (.cons (d1.mono S2) .nil)))
      | made fn =>
        rw [show arV obs.length (.made fn) = .tuple [.str "ref", .int (obs.length : Nat)] from rfl, eqv_nil]
        refine ⟨_, rfl, iteFb rfl ?_⟩
        refine ⟨_, rfl, sz_2, fun u hu => ?_⟩
        have S3 := Same.new (o := .tup [.str "ok", v1]) hu
        exact k _ _ (listAt_mono L1 (S2.trans S3)) (K2.trans (Same.keep S3)) (Dt.made hu (.cons (.str _) (.cons (d1.mono S2) .nil)))
      | no t =>
        rw [show arV obs.length (.no t) = .tuple [] from rfl, eqv_nil]
        refine ⟨_, rfl, iteTb rfl ?_⟩
        obtain ⟨n1, n2⟩ := hno t rfl
        have L1 : ListAt K H1 hp (obs.map obD) := by
          rw [show obs ++ arO d (.no t) = obs from List.append_nil _] at L1
          exact L1
        refine ⟨_, rfl, _, rfl, _, rfl, hp, obs, v, d, t, x, rfl, listAt_mono L1 S2, dv.keepT (keepR K2 L), n1, n2, hxl, fun v' H' S3 d' => ?_⟩
        refine k _ _ ?_ (K2.trans (Same.keep S3)) d'
        rw [show obs ++ arO d (.no t) = obs from List.append_nil _]
        exact listAt_mono L1 (S2.trans S3)
end

abbrev s_law_pairs : Stmt := top 27
abbrev N_law_pairs : List Str := ["box", "names", "functions", "rows", "k", "name", "pair", "value"]
abbrev P_law_pairs : List Str := ["box", "names", "functions"]
theorem sc_law_pairs : FnScope N_law_pairs P_law_pairs (defScope s_law_pairs) := ⟨rfl, rfl, rfl, by decide +kernel, rfl, by decide +kernel, by decide +kernel⟩
abbrev s_law_found : Stmt := top 28
abbrev N_law_found : List Str := ["heap", "k", "name", "at", "turn", "pair"]
abbrev P_law_found : List Str := ["heap", "k", "name"]
theorem sc_law_found : FnScope N_law_found P_law_found (defScope s_law_found) := ⟨rfl, rfl, rfl, by decide +kernel, rfl, by decide +kernel, by decide +kernel⟩
abbrev s_law_own : Stmt := top 29
abbrev N_law_own : List Str := ["pairs", "name", "pair"]
abbrev P_law_own : List Str := ["pairs", "name"]
theorem sc_law_own : FnScope N_law_own P_law_own (defScope s_law_own) := ⟨rfl, rfl, rfl, by decide +kernel, rfl, by decide +kernel, by decide +kernel⟩
abbrev s_law_due : Stmt := top 30
abbrev N_law_due : List Str := ["heap", "value", "name", "functions", "thing", "found", "bound"]
abbrev P_law_due : List Str := ["heap", "value", "name", "functions"]
theorem sc_law_due : FnScope N_law_due P_law_due (defScope s_law_due) := ⟨rfl, rfl, rfl, by decide +kernel, rfl, by decide +kernel, by decide +kernel⟩
abbrev s_law_builtin : Stmt := top 31
abbrev N_law_builtin : List Str := ["heap", "value", "kind", "name", "has", "before", "told", "words", "word"]
abbrev P_law_builtin : List Str := ["heap", "value", "kind", "name", "has"]
theorem sc_law_builtin : FnScope N_law_builtin P_law_builtin (defScope s_law_builtin) := ⟨rfl, rfl, rfl, by decide +kernel, rfl, by decide +kernel, by decide +kernel⟩
abbrev s_law : Stmt := top 32
abbrev N_law : List Str := ["script", "box", "names", "heap", "k", "classes", "base", "insts", "name", "due", "before", "told", "word", "rows", "row", "value", "thing", "tables"]
abbrev P_law : List Str := ["script"]
theorem sc_law : FnScope N_law P_law (defScope s_law) := ⟨rfl, rfl, rfl, by decide +kernel, rfl, by decide +kernel, by decide +kernel⟩
section
variable {P : Program} {w : World} {K : PySem.W.Frag} {mg : Str → Option Value} {base : Heap}
structure MvOk (d : PyData) : Prop where
  v : VOk d
  k : NRef d ∨ ∃ i : Nat, i < 3 ∧ d = refD i
structure MsOk (ms : Ms) : Prop where
  nm : ∀ p ∈ ms, NameOk p.1
  vl : ∀ p ∈ ms, MvOk p.2
  len : ms.length ≤ 4
theorem sm_ref {i : Nat} (h : i < 1000) : Sm (refD i) 1 3000 :=
  (Sm.tup (.cons (Sm.short (by decide +kernel)) (.cons (Sm.int (i := (i : Int)) (Nat.lt_of_lt_of_le (show ((i : Int)).natAbs < 2 ^ 10 by omega) (Nat.pow_le_pow_right (by decide) (by decide)))) .nil))).mono (by decide) (by decide)
theorem vok_ref {i : Nat} (h : i < 1000) : VOk (refD i) := ⟨⟨_, _, rfl, by decide +kernel⟩, sm_ref h, Shp.tup (Shp.cons2 (Shp.str (by decide +kernel)) (Shp.cons2 (Shp.int _ _) Shp.none2))⟩
theorem flat_strs (ys : List Str) : (ys.map V.str).all flatV = true := by
  rw [List.all_map]
  exact List.all_eq_true.mpr fun _ _ => rfl
abbrev fns : List V := [.int 0, .int 1, .int 2]
def spLPairs (K : PySem.W.Frag) : Sp := fun vs H Q _ => ∃ (p dl np fp : Addr) (ns : List Str), vs = [.ref p, .ref np, .ref fp] ∧ BoxAt H p dl ∧ H np = some (.lst (ns.map V.str)) ∧ ns.length = 8 ∧ (∀ x ∈ ns, NameOk x) ∧ np ≠ p ∧ H fp = some (.lst fns) ∧ fp ≠ p ∧ ∀ v ms H', MsOk ms → Dt K H' v (.tuple (ms.map memD)) → BoxAt H' p dl → Keep p H H' → Q v H'
theorem ok_lpairs {f : Addr} {fd : FuncData} (F : Fun K "_law_pairs" "_law_pairs" s_law_pairs f fd) (T : Txt K mg) (U_law_draw : Use P w K mg base CX0 "_law_draw" 1 P_law_draw (spDraw K)) (U_law_value : Use P w K mg base CX0 "_law_value" 2 P_law_value (spValue K)) : FnG P w K mg base CX0 3 f fd P_law_pairs (spLPairs K) := by
  refine okG0 F sc_law_pairs (fun vs H Q E h => ?_) fun cdv A outer s H vs Q E hr hg h => ?_
  · obtain ⟨p, dl, np, fp, ns, rfl, _⟩ := h
    rfl
  · obtain ⟨p, dl, np, fp, ns, rfl, B, en, hnl, hno, hnp, ef, hfp, k⟩ := h
    refine ⟨_, (pss_cons (ps_set (i := 3) sc_law_pairs.nd rfl (Or.inl rfl) (pe_lst pa_nil))
  (pss_cons (ps_for PassesOwn.never rfl (pi_range1 (by rfl) T.b_range (pa_cons (pe_use U_law_draw (hr.mono (by decide)) hg rfl (pa_cons (pv 0) (pa_cons pe_int pa_nil))) pa_nil)) (pg_name (i := 4) sc_law_pairs.nd rfl (Or.inl rfl))
   (pss_cons (ps_set (i := 5) sc_law_pairs.nd rfl (Or.inl rfl) (pe_ix ix_list (pv 1) (pe_use U_law_draw (hr.mono (by decide)) hg rfl (pa_cons (pv 0) (pa_cons pe_int pa_nil))) (fun _ _ => rfl)))
  (pss_one (ps_if (pt_cmpR op_notIn_seq (pv 5) (pe_lc (own := [("pair", 6)]) (g := (gName 6)) rfl sc_law_pairs.nd (pi_list (pv 3)) (blkOk_by (N := N_law_pairs) (sc := defScope s_law_pairs) (by decide +kernel)) (fun _ _ _ _ _ => (pg_name (i := 6) sc_law_pairs.nd rfl (Or.inl rfl))) (fun _ _ _ _ _ => pts_nil) (fun _ _ _ _ _ => (pe_ix (ix_tup : IxR _ (rIxT K)) (pv 6) pe_int (fun _ _ => rfl)))) (by rfl))
   (pss_cons (ps_set (i := 7) sc_law_pairs.nd rfl (Or.inl rfl) (pe_use U_law_value (hr.mono (by decide)) hg rfl (pa_cons (pv 0) pa_nil)))
  (C8.pss_cut (ps_if (pt_cmpR op_eq (pe_use U_law_draw (hr.mono (by decide)) hg rfl (pa_cons (pv 0) (pa_cons pe_int pa_nil))) pe_int (nomark _))
   (pss_one (ps_set (i := 7) sc_law_pairs.nd rfl (Or.inl rfl) (pe_tup (pa_cons pe_str (pa_cons (pe_ix ix_list (pv 2) (pe_use U_law_draw (hr.mono (by decide)) hg rfl (pa_cons (pv 0) (pa_cons (pe_callB call_len (by rfl) T.b_len PySem.boot_len (pa_cons (pv 2) pa_nil)) pa_nil))) (fun _ _ => rfl)) pa_nil)))))
   pss_nil)
  (pss_one (ps_expr (pe_bm PySem.F.plainAttrs_list PySem.F.slot_list_append PySem.F.type_list_append mt_append (pv 3) (pa_cons (pe_tup (pa_cons (pv 5) (pa_cons (pv 7) pa_nil))) pa_nil))))))
   pss_nil))))
  (pss_one (ps_ret (pe_callTy call_tuple_of (by rfl) T.b_tuple (by decide +kernel) (pa_cons (pv 3) pa_nil)))))), ?_⟩
    refine ⟨sz_0, fun rp hrp => ?_⟩
    have S0 := Same.new (o := .lst []) hrp
    have B0 := B.same S0
    have hrpp : rp ≠ p := fun e => by subst e; obtain ⟨xs, g⟩ := B.at_; rw [g] at hrp; cases hrp
    have hrpd : rp ≠ dl := fun e => by subst e; obtain ⟨xs, g⟩ := B.dg; rw [g] at hrp; cases hrp
    have hrpn : rp ≠ np := fun e => by subst e; rw [en] at hrp; cases hrp
    refine ⟨_, rfl, p, dl, 5, rfl, B0, by decide, fun r H1 r0 r1 B1 K1 => ?_⟩
    obtain ⟨N, rfl⟩ := Int.eq_ofNat_of_zero_le r0
    refine ⟨_, rfl, by omega, by omega, ?_⟩
    rw [show ((N : Nat) : Int).toNat = N from Int.toNat_natCast _]
    refine for_range (lo := 0) (n := N) (fun i σ H2 => ∃ (ms : Ms) (x4 x5 x7 : Option V), σ = [some (.ref p), some (.ref np), some (.ref fp), some (.ref rp), x4, x5, none, x7] ∧ ms.length ≤ i ∧ (∀ p ∈ ms, NameOk p.1) ∧ (∀ p ∈ ms, MvOk p.2) ∧ ListAt K H2 rp (ms.map memD) ∧ BoxAt H2 p dl ∧ Keep p H H2) ⟨[], none, none, none, rfl, by simp, by simp, by simp, ⟨[], K1 _ _ upd_same hrpp, .nil⟩, B1, (Same.keep S0).trans K1⟩ ?_ ?_
    · rintro i σ H2 hi ⟨ms, x4, x5, x7, rfl, hl, hm1, hm2, L2, B2, K2⟩
      refine ⟨_, rfl, _, rfl, p, dl, 6, rfl, B2, by decide, fun r H3 r0 r1 B3 K3 => ?_⟩
      have K23 := K2.trans K3
      obtain ⟨j, rfl⟩ := Int.eq_ofNat_of_zero_le r0
      have hx : ns[j]? = some ns[j] := List.getElem?_eq_getElem (by omega)
      have hxo := hno _ (List.getElem_mem (show j < ns.length by omega))
      generalize ns[j] = x at hx hxo
      have L3 := listAt_keep L2 K3 hrpp B2.at_
      refine ⟨np, _, _, _, rfl, rfl, SqL.of (K23 _ _ en hnp), atI_nat (by rw [List.getElem?_map, hx]; rfl), ?_⟩
      obtain ⟨zs, ez, az⟩ := id L3
      have lz := az.length
      rw [List.length_map] at lz
      refine ⟨_, rfl, _, rfl, rp, rfl, ⟨_, SqL.of ez⟩, fun D hD => ?_⟩
      have hDr : rp ≠ D := ne_of_none ez hD
      refine lc_it (walk_list (xs := zs)) (fun t H' => ∃ ys : List Str, H' D = some (.lst (ys.map V.str)) ∧ ys.length = t ∧ Same H3 H') ⟨[], upd_same, rfl, Same.new hD⟩ (fun _ _ _ h => let ⟨_, _, _, s⟩ := h; SqL.of (s _ _ ez)) ?_ ?_
      · rintro t y H4 H5 ht ⟨ys, eD, hyl, S4⟩ ⟨rfl, hy⟩
        obtain ⟨z, d, q2, u2, hvi, rfl, hq2, du2⟩ := memD_at (DtAll.mono S4 az) hy
        refine ⟨rfl, tYes_of ?_⟩
        refine ⟨_, rfl, q2, _, _, _, rfl, rfl, hq2, at0, ys.map V.str, eD, by rw [List.length_map]; exact Nat.lt_of_le_of_lt (show ys.length ≤ 10 by omega) (by decide), ys ++ [z], by rw [upd_same, List.map_append]; rfl, by simp; omega, fun b o hb => by rw [upd_ne (ne_of_none hb hD)]; exact S4 b o hb⟩
      · rintro H4 ⟨ys, eD, hyl, S4⟩
        refine ⟨D, _, rfl, .inl (SqL.of eD), rfl, flat_strs ys, _, rfl, ?_⟩
        have B4 := B3.same S4
        have K4 := K23.trans (Same.keep S4)
        have L4 := listAt_mono L3 S4
        refine ite3 (fun _ => ?_) fun _ => ⟨ms, _, _, _, rfl, by omega, hm1, hm2, L4, B4, K4⟩
        refine ⟨_, rfl, p, dl, rfl, B4, fun v d H5 B5 K5 dv hv hnr => ?_⟩
        have K45 := K4.trans K5
        have L5 := listAt_keep L4 K5 hrpp B4.at_
        refine ⟨fun σ H6 => ∃ (v : V) (d : PyData), σ = [some (.ref p), some (.ref np), some (.ref fp), some (.ref rp), some (.int (0 + (i : Int))), some (.str x), none, some v] ∧ Dt K H6 v d ∧ MvOk d ∧ ListAt K H6 rp (ms.map memD) ∧ BoxAt H6 p dl ∧ Keep p H H6, ?_, ?_⟩
        · refine ⟨_, rfl, p, dl, 2, rfl, B5, by decide, fun c H6 c0 c1 B6 K6 => ?_⟩
          have K46 := K45.trans K6
          have L6 := listAt_keep L5 K6 hrpp B5.at_
          refine ⟨rfl, _, rfl, ?_⟩
          refine ite3 (fun _ => ?_) fun _ => ⟨v, d, rfl, dv.keepT (K6.keepT B5.at_), ⟨hv, .inl hnr⟩, L6, B6, K46⟩
          have ef6 := K46 _ _ ef hfp
          refine ⟨_, rfl, _, rfl, _, rfl, _, _, rfl, .inl ⟨_, SqL.of ef6, rfl⟩, p, dl, 3, rfl, B6, by decide, fun g H7 g0 g1 B7 K7 => ?_⟩
          have K47 := K46.trans K7
          have L7 := listAt_keep L6 K7 hrpp B6.at_
          obtain ⟨g, rfl⟩ := Int.eq_ofNat_of_zero_le g0
          have hg : (fns)[g]? = some (.int (g : Int)) := by
            match g, g1 with
            | 0, _ => rfl
            | 1, _ => rfl
            | 2, _ => rfl
            | g + 3, h => omega
          refine ⟨fp, _, _, _, rfl, rfl, SqL.of (K47 _ _ ef hfp), atI_nat hg, sz_2, fun u hu => ?_⟩
          have S8 := Same.new (o := .tup [.str "ref", .int (g : Int)]) hu
          exact ⟨_, refD g, rfl, Dt.made hu (.cons (.str _) (.cons (.int _) .nil)), ⟨vok_ref (by omega), .inr ⟨g, by omega, rfl⟩⟩, listAt_mono L7 S8, B7.same S8, K47.trans (Same.keep S8)⟩
        rintro _ H6 ⟨v, d, rfl, dv, hv, L6, B6, K6⟩
        obtain ⟨zs, ez6, az⟩ := id L6
        have lz := az.length
        rw [List.length_map] at lz
        refine ⟨_, rfl, .inl ⟨rfl, _, SqL.of ez6⟩, _, rfl, _, rfl, sz_2, fun u hu => ?_⟩
        have S7 := Same.new (o := .tup [.str x, v]) hu
        have ez7 := S7 _ _ ez6
        refine ⟨rp, _, _, rfl, rfl, ez7, Nat.lt_of_le_of_lt (show zs.length ≤ 10 by omega) (by decide), ?_⟩
        refine ⟨ms ++ [(x, d)], _, _, _, rfl, by simp; omega, fun y hy => ?_, fun y hy => ?_, ?_, (B6.same S7).upd hrpp hrpd, fun b o hb hne => ?_⟩
        · rcases List.mem_append.mp hy with hy | hy
          · exact hm1 y hy
          · rw [List.mem_singleton.mp hy]; exact hxo
        · rcases List.mem_append.mp hy with hy | hy
          · exact hm2 y hy
          · rw [List.mem_singleton.mp hy]; exact hv
        · rw [List.map_append]
          exact listAt_app (listAt_mono L6 S7) ez7 (Dt.made hu (.cons (.str _) (.cons dv .nil)))
        · rw [upd_ne (ne_of_none hb hrp)]
          exact S7 _ _ (K6 b o hb hne)
    · rintro σ H2 ⟨ms, x4, x5, x7, rfl, hl, hm1, hm2, L2, B2, K2⟩
      obtain ⟨zs, ez, az⟩ := id L2
      exact ⟨_, rfl, rp, _, rfl, .inl ⟨SqL.of ez, fun t ht => k _ ms _ ⟨hm1, hm2, by omega⟩ (Dt.made ht az) (B2.same (Same.new ht)) (K2.trans (Same.keep (Same.new ht)))⟩⟩
def spLOwn (K : PySem.W.Frag) : Sp := fun vs H Q _ => ∃ v ms x, vs = [v, .str x] ∧ Dt K H v (.tuple (ms.map memD)) ∧ ∀ v' H', Same H H' → Dt K H' v' (pairD (find ms x)) → Q v' H'
theorem ok_lown {f : Addr} {fd : FuncData} (F : Fun K "_law_own" "_law_own" s_law_own f fd) (T : Txt K mg) : FnG P w K mg base CX0 1 f fd P_law_own (spLOwn K) := by
  refine okG0 F sc_law_own (fun vs H Q E h => ?_) fun cdv A outer s H vs Q E hr hg h => ?_
  · obtain ⟨v, ms, x, rfl, _⟩ := h
    rfl
  · obtain ⟨v, ms, x, rfl, dv, k⟩ := h
    refine ⟨_, (pss_cons (ps_for PassesOwn.never rfl (pi_tup (pv 0)) (pg_name (i := 2) sc_law_own.nd rfl (Or.inl rfl))
   (pss_one (ps_if (pt_cmpR op_eq (pe_ix ix_tup (pv 2) pe_int (fun _ _ => rfl)) (pv 1) (nomark _))
   (pss_one (ps_ret (pe_ix ix_tup (pv 2) pe_int (fun _ _ => rfl))))
   pss_nil)))
  (pss_one (ps_ret (pe_tup pa_nil)))), ?_⟩
    obtain ⟨q3, xs, rfl, hq3, ha⟩ := dv.tuple_inv
    refine ⟨_, rfl, q3, rfl, ⟨_, hq3⟩, ?_⟩
    refine for_tup (xs := xs) (fun t σ H3 => ∃ x2, σ = [some (.ref q3), some (.str x), x2] ∧ H3 = H ∧ (∀ j, j < t → ∀ p, ms[j]? = some p → p.1 ≠ x)) ⟨none, rfl, rfl, by simp⟩ ?_ ?_ ?_
    · rintro t σ H3 ht ⟨x2, rfl, rfl, _⟩
      exact hq3
    · rintro t y σ H3 hy3 ⟨x2, rfl, rfl, hall⟩
      obtain ⟨z, d, q2, u2, hvi, rfl, hq2, du2⟩ := memD_at ha hy3
      refine ⟨_, rfl, q2, _, _, _, rfl, rfl, hq2, at0, _, rfl, rfl, _, rfl, ?_⟩
      refine ite3 (fun c => ?_) fun c => ?_
      · have c := V.str.inj (of_decide_eq_true c)
        rw [find_at hall hvi c] at k
        exact ⟨_, rfl, q2, _, _, _, rfl, rfl, hq2, at1, k _ _ (fun _ _ h => h) du2⟩
      · have c := of_decide_eq_false c
        exact ⟨_, rfl, rfl, all_next hall hvi fun h => c (congrArg V.str h)⟩
    · rintro σ H3 ⟨x2, rfl, rfl, hall⟩
      have hl := ha.length
      rw [List.length_map] at hl
      rw [find_none (by rw [← hl]; exact hall)] at k
      exact ⟨sz_0, fun u hu => k _ _ (Same.new hu) (Dt.made hu .nil)⟩
def spLFound (K : PySem.W.Frag) : Sp := fun vs H Q _ => ∃ hp obs k line x, vs = [.ref hp, .int k, .str x] ∧ ListAt K H hp (obs.map obD) ∧ Chain obs k line ∧ line.length ≤ 8 ∧ ∀ v H', Same H H' → Dt K H' v (pairD (memF obs line x)) → Q v H'
theorem ok_lfound {f : Addr} {fd : FuncData} (F : Fun K "_law_found" "_law_found" s_law_found f fd) (T : Txt K mg) : FnG P w K mg base CX0 1 f fd P_law_found (spLFound K) := by
  refine okG0 F sc_law_found (fun vs H Q E h => ?_) fun cdv A outer s H vs Q E hr hg h => ?_
  · obtain ⟨hp, obs, k0, line, x, rfl, _⟩ := h
    rfl
  · obtain ⟨hp, obs, k0, line, x, rfl, L, hc, hll, k⟩ := h
    refine ⟨_, (pss_cons (ps_set (i := 3) sc_law_found.nd rfl (Or.inl rfl) (pv 1))
  (pss_cons (ps_for PassesOwn.never rfl (pi_range1 (by rfl) T.b_range (pa_cons pe_int pa_nil)) (pg_name (i := 4) sc_law_found.nd rfl (Or.inl rfl))
   (pss_one (ps_if (pt_cmpR op_ge (pv 3) pe_int (nomark _))
   (pss_cons (ps_for PassesOwn.never rfl (pi_tup (pe_ix ix_tup (pe_ix ix_list (pv 0) (pv 3) (fun _ _ => rfl)) pe_int (fun _ _ => rfl))) (pg_name (i := 5) sc_law_found.nd rfl (Or.inl rfl))
   (pss_one (ps_if (pt_cmpR op_eq (pe_ix ix_tup (pv 5) pe_int (fun _ _ => rfl)) (pv 2) (nomark _))
   (pss_one (ps_ret (pe_ix ix_tup (pv 5) pe_int (fun _ _ => rfl))))
   pss_nil)))
  (pss_one (ps_set (i := 3) sc_law_found.nd rfl (Or.inl rfl) (pe_ix ix_tup (pe_ix ix_list (pv 0) (pv 3) (fun _ _ => rfl)) pe_int (fun _ _ => rfl)))))
   pss_nil)))
  (pss_one (ps_ret (pe_tup pa_nil))))), ?_⟩
    refine ⟨_, rfl, _, rfl, by decide, by decide, ?_⟩
    refine for_range (lo := 0) (n := 8) (fun i σ H1 => ∃ (a : Int) (rest : List Int) (x4 x5 : Option V), σ = [some (.ref hp), some (.int k0), some (.str x), some (.int a), x4, x5] ∧ H1 = H ∧ Chain obs a rest ∧ memF obs line x = memF obs rest x ∧ (rest = [] ∨ rest.length + i ≤ 8)) ⟨k0, line, none, none, rfl, rfl, hc, rfl, .inr (by omega)⟩ ?_ ?_
    · rintro i σ H1 hi ⟨a, rest, x4, x5, rfl, rfl, hca, hm, hor⟩
      refine ⟨_, rfl, _, _, rfl, rfl, _, rfl, ?_⟩
      cases hca with
      | stop hk =>
        refine iteFb (decide_eq_false (by omega)) ?_
        exact ⟨a, [], _, _, rfl, rfl, .stop hk, hm, .inl rfl⟩
      | @next j n b ms r hj hb hr =>
        refine iteTb (decide_eq_true (by omega)) ?_
        have hstep : memF obs ((j : Int) :: r) x = (match find ms x with | some d => some d | none => memF obs r x) := by
          show (match find (msOf obs (j : Int)) x with | some d => some d | none => memF obs r x) = _
          rw [msOf_cls hj]
        rw [hstep] at hm
        obtain ⟨zs, y, ez, hy2, dy⟩ := ob_at L hj
        obtain ⟨q, u, rfl, hq, du⟩ := cls_inv dy
        obtain ⟨q3, xs, rfl, hq3, ha⟩ := du.tuple_inv
        refine ⟨_, rfl, _, rfl, hp, _, _, _, rfl, rfl, SqL.of ez, atI_nat hy2, q, _, _, _, rfl, rfl, hq, at_of' (j := 3) rfl rfl, q3, rfl, ⟨_, hq3⟩, ?_⟩
        refine for_tup (xs := xs) (fun t σ H3 => ∃ x5, σ = [some (.ref hp), some (.int k0), some (.str x), some (.int (j : Nat)), some (.int (0 + (i : Int))), x5] ∧ H3 = H1 ∧ (∀ j, j < t → ∀ p, ms[j]? = some p → p.1 ≠ x)) ⟨x5, rfl, rfl, by simp⟩ ?_ ?_ ?_
        · rintro t σ H3 ht ⟨x5, rfl, rfl, _⟩
          exact hq3
        · rintro t y σ H3 hy3 ⟨x5, rfl, rfl, hall⟩
          obtain ⟨z, d, q2, u2, hvi, rfl, hq2, du2⟩ := memD_at ha hy3
          refine ⟨_, rfl, q2, _, _, _, rfl, rfl, hq2, at0, _, rfl, rfl, _, rfl, ?_⟩
          refine ite3 (fun c => ?_) fun c => ?_
          · have c := V.str.inj (of_decide_eq_true c)
            rw [find_at hall hvi c] at hm
            rw [hm] at k
            exact ⟨_, rfl, q2, _, _, _, rfl, rfl, hq2, at1, k _ _ (fun _ _ h => h) du2⟩
          · have c := of_decide_eq_false c
            exact ⟨_, rfl, rfl, all_next hall hvi fun h => c (congrArg V.str h)⟩
        · rintro σ H3 ⟨x5, rfl, rfl, hall⟩
          have hl := ha.length
          rw [List.length_map] at hl
          rw [find_none (by rw [← hl]; exact hall)] at hm
          refine ⟨_, rfl, _, rfl, hp, _, _, _, rfl, rfl, SqL.of ez, atI_nat hy2, q, _, _, _, rfl, rfl, hq, at2, ?_⟩
          refine ⟨b, r, _, _, rfl, rfl, hr, hm, ?_⟩
          rcases hor with h | h
          · cases h
          · rw [List.length_cons] at h; exact .inr (by omega)
    · rintro σ H1 ⟨a, rest, x4, x5, rfl, rfl, hca, hm, hor⟩
      have hr : rest = [] := by
        rcases hor with h | h
        · exact h
        · exact List.eq_nil_of_length_eq_zero (by omega)
      subst hr
      rw [hm] at k
      exact ⟨sz_0, fun u hu => k _ _ (Same.new hu) (Dt.made hu .nil)⟩
/-- what the law finds -/
inductive LR (obs : List Ob) (x : Str) (j : Nat) : AR → Prop
  | own {c : Int} {ms : Ms} {d : PyData} : obs[j]? = some (.inst c ms) → find ms x = some d → MvOk d → LR obs x j (.found d)
  | fn {c : Int} {ms : Ms} {line : List Int} {i : Nat} : obs[j]? = some (.inst c ms) → find ms x = none → Chain obs c line → line.length ≤ 8 → memF obs line x = some (refD i) → i < 3 → LR obs x j (.made (refD i))
  | mem {c : Int} {ms : Ms} {line : List Int} {d : PyData} : obs[j]? = some (.inst c ms) → find ms x = none → Chain obs c line → line.length ≤ 8 → memF obs line x = some d → MvOk d → NRef d → LR obs x j (.found d)
  | no {c : Int} {ms : Ms} {line : List Int} {t : Str} : obs[j]? = some (.inst c ms) → find ms x = none → Chain obs c line → line.length ≤ 8 → memF obs line x = none → LR obs x j (.no t)
  | clsF {n : Str} {b : Int} {ms : Ms} {line : List Int} {d : PyData} : obs[j]? = some (.cls n b ms) → Chain obs (j : Nat) line → line.length ≤ 8 → memF obs line x = some d → MvOk d → LR obs x j (.found d)
  | clsN {n : Str} {b : Int} {ms : Ms} {line : List Int} : obs[j]? = some (.cls n b ms) → Chain obs (j : Nat) line → line.length ≤ 8 → memF obs line x = none → LR obs x j (.no "class")
def dueD (n j : Nat) : AR → List PyData
  | .found d => [.tuple [.str "ok", d]]
  | .made fn => [.tuple [.str "ok", refD n], .tuple [.str "bound", refD j, fn]]
  | .no _ => []
def isMade : AR → Bool
  | .made _ => true
  | _ => false
/-- the thing that the law found -/
def lrV : AR → PyData
  | .found d => d
  | .made fn => fn
  | .no _ => .tuple []
def spLDue (K : PySem.W.Frag) : Sp := fun vs H Q _ => ∃ (hp fp : Addr) (obs : List Ob) (v : V) (j : Nat) (x : Str) (r : AR), vs = [.ref hp, v, .str x, .ref fp] ∧ ListAt K H hp (obs.map obD) ∧ Dt K H v (refD j) ∧ H fp = some (.lst fns) ∧ LR obs x j r ∧
  ∀ a H', Same H H' → ListAt K H' a (dueD obs.length j r) → Q (.ref a) H'
theorem LR.v {obs : List Ob} {x : Str} {j : Nat} {r : AR} (h : LR obs x j r) : (∃ t, r = .no t) ∨ (VOk (lrV r)) := by
  cases h with
  | own _ _ h => exact .inr h.v
  | fn _ _ _ _ _ h => exact .inr (vok_ref (Nat.lt_trans h (by decide)))
  | mem _ _ _ _ _ h _ => exact .inr h.v
  | no => exact .inl ⟨_, rfl⟩
  | clsF _ _ _ _ h => exact .inr h.v
  | clsN => exact .inl ⟨_, rfl⟩
theorem ok_ldue {f : Addr} {fd : FuncData} (F : Fun K "_law_due" "_law_due" s_law_due f fd) (T : Txt K mg) (U_law_own : Use P w K mg base CX0 "_law_own" 1 P_law_own (spLOwn K)) (U_law_found : Use P w K mg base CX0 "_law_found" 1 P_law_found (spLFound K)) : FnG P w K mg base CX0 2 f fd P_law_due (spLDue K) := by
  refine okG0 F sc_law_due (fun vs H Q E h => ?_) fun cdv A outer s H vs Q E hr hg h => ?_
  · obtain ⟨hp, fp, obs, v, j, x, r, rfl, _⟩ := h
    rfl
  · obtain ⟨hp, fp, obs, v, j, x, r, rfl, L, dv, ef, hR, k⟩ := h
    refine ⟨_, (pss_cons (ps_set (i := 4) sc_law_due.nd rfl (Or.inl rfl) (pe_ix ix_list (pv 0) (pe_ix ix_tup (pv 1) pe_int (fun _ _ => rfl)) (fun _ _ => rfl)))
  (pss_cons (ps_set (i := 5) sc_law_due.nd rfl (Or.inl rfl) (pe_tup pa_nil))
  (pss_cons (ps_set (i := 6) sc_law_due.nd rfl (Or.inl rfl) pe_bl)
  (C8.pss_cut (ps_if (pt_cmpR op_eq (pe_ix ix_tup (pv 4) pe_int (fun _ _ => rfl)) pe_str (nomark _))
   (pss_cons (ps_set (i := 5) sc_law_due.nd rfl (Or.inl rfl) (pe_use U_law_own (hr.mono (by decide)) hg rfl (pa_cons (pe_ix ix_tup (pv 4) pe_int (fun _ _ => rfl)) (pa_cons (pv 2) pa_nil))))
  (pss_one (ps_if (pt_cmpR (op_eqD hr.units) (pv 5) (pe_tup pa_nil) (nomark _))
   (pss_cons (ps_set (i := 5) sc_law_due.nd rfl (Or.inl rfl) (pe_use U_law_found (hr.mono (by decide)) hg rfl (pa_cons (pv 0) (pa_cons (pe_ix ix_tup (pv 4) pe_int (fun _ _ => rfl)) (pa_cons (pv 2) pa_nil)))))
  (pss_one (ps_set (i := 6) sc_law_due.nd rfl (Or.inl rfl) (pe_and (pe_cmpR (op_neD hr.units) (pv 5) (pe_tup pa_nil) (nomark _)) (pe_and (pe_cmpR op_eq (pe_ix ix_tup (pv 5) pe_int (fun _ _ => rfl)) pe_str (nomark _)) (pe_one (pe_cmpR op_in_seq (pe_ix ix_tup (pv 5) pe_int (fun _ _ => rfl)) (pv 3) (by rfl))))))))
   pss_nil)))
   (pss_one (ps_if (pt_cmpR op_eq (pe_ix ix_tup (pv 4) pe_int (fun _ _ => rfl)) pe_str (nomark _))
   (pss_one (ps_set (i := 5) sc_law_due.nd rfl (Or.inl rfl) (pe_use U_law_found (hr.mono (by decide)) hg rfl (pa_cons (pv 0) (pa_cons (pe_ix ix_tup (pv 1) pe_int (fun _ _ => rfl)) (pa_cons (pv 2) pa_nil))))))
   pss_nil)))
  (pss_cons (ps_if (pt_val (pv 6))
   (pss_one (ps_ret (pe_lst (pa_cons (pe_tup (pa_cons pe_str (pa_cons (pe_tup (pa_cons pe_str (pa_cons (pe_callB call_len (by rfl) T.b_len PySem.boot_len (pa_cons (pv 0) pa_nil)) pa_nil))) pa_nil))) (pa_cons (pe_tup (pa_cons pe_str (pa_cons (pv 1) (pa_cons (pv 5) pa_nil)))) pa_nil)))))
   pss_nil)
  (pss_cons (ps_if (pt_cmpR (op_neD hr.units) (pv 5) (pe_tup pa_nil) (nomark _))
   (pss_one (ps_ret (pe_lst (pa_cons (pe_tup (pa_cons pe_str (pa_cons (pv 5) pa_nil))) pa_nil))))
   pss_nil)
  (pss_one (ps_ret (pe_lst pa_nil))))))))), ?_⟩
    obtain ⟨q, y, rfl, hq, hx⟩ := Dt.pair (id dv)
    cases hx.int_inv
    have hrv := hR.v
    obtain ⟨o, ho, hK⟩ : ∃ o, obs[j]? = some o ∧ ((∃ c ms, o = .inst c ms ∧ ((∃ d, find ms x = some d ∧ VOk d ∧ r = .found d) ∨ (find ms x = none ∧ ∃ line, Chain obs c line ∧ line.length ≤ 8 ∧
        ((memF obs line x = none ∧ ∃ t, r = .no t) ∨ (∃ d, memF obs line x = some d ∧ VOk d ∧ NRef d ∧ r = .found d) ∨ ∃ i : Nat, memF obs line x = some (refD i) ∧ i < 3 ∧ r = .made (refD i))))) ∨
        (∃ n b ms line, o = .cls n b ms ∧ Chain obs (j : Nat) line ∧ line.length ≤ 8 ∧ pairD (memF obs line x) = lrV r ∧ isMade r = false)) := by
      cases hR with
      | own h1 h2 h3 => exact ⟨_, h1, .inl ⟨_, _, rfl, .inl ⟨_, h2, h3.v, rfl⟩⟩⟩
      | fn h1 h2 h3 h4 h5 h6 => exact ⟨_, h1, .inl ⟨_, _, rfl, .inr ⟨h2, _, h3, h4, .inr (.inr ⟨_, h5, h6, rfl⟩)⟩⟩⟩
      | mem h1 h2 h3 h4 h5 h6 h7 => exact ⟨_, h1, .inl ⟨_, _, rfl, .inr ⟨h2, _, h3, h4, .inr (.inl ⟨_, h5, h6.v, h7, rfl⟩)⟩⟩⟩
      | no h1 h2 h3 h4 h5 => exact ⟨_, h1, .inl ⟨_, _, rfl, .inr ⟨h2, _, h3, h4, .inl ⟨h5, _, rfl⟩⟩⟩⟩
      | clsF h1 h3 h4 h5 h6 => exact ⟨_, h1, .inr ⟨_, _, _, _, rfl, h3, h4, by rw [h5]; rfl, rfl⟩⟩
      | clsN h1 h3 h4 h5 => exact ⟨_, h1, .inr ⟨_, _, _, _, rfl, h3, h4, by rw [h5]; rfl, rfl⟩⟩
    obtain ⟨zs, y, ez, hy, dy⟩ := ob_at L ho
    have lz : zs.length = obs.length := by
      obtain ⟨zs', ez', az⟩ := L
      rw [ez] at ez'
      obtain rfl := HO.lst.inj (Option.some.inj ez')
      have := az.length
      rwa [List.length_map] at this
    obtain ⟨q2, ws, rfl, hq2⟩ := obD_inv (id dy)
    refine ⟨_, rfl, _, rfl, q, _, _, _, rfl, rfl, hq, at1, hp, _, _, _, rfl, rfl, SqL.of ez, atI_nat hy, sz_0, fun u0 hu0 => ?_⟩
    have S0 := Same.new (o := .tup []) hu0
    have d0 : Dt K (upd H u0 (.tup [])) (.ref u0) (.tuple []) := Dt.made hu0 .nil
    refine ⟨fun σ H1 => ∃ fv, σ = [some (.ref hp), some (.ref q), some (.str x), some (.ref fp), some (.ref q2), some fv, some (.bl (isMade r))] ∧ Same H H1 ∧ Dt K H1 fv (lrV r), ?_, ?_⟩
    · rcases hK with ⟨c, ms, rfl, hI⟩ | ⟨n, b, ms, line, rfl, hc, hll, hp1, hp2⟩
      · obtain ⟨q2', u, e2, hq2', du⟩ := inst_inv dy
        cases e2
        refine ⟨_, rfl, q2, _, _, _, rfl, rfl, Same.tupl S0 hq2', at0, rfl, _, rfl, iteTb (dec_str1 _) ?_⟩
        refine ⟨_, rfl, q2, _, _, _, rfl, rfl, Same.tupl S0 hq2', at2, _, rfl, u, ms, x, rfl, du.mono S0, fun v1 H1 S1 d1 => ?_⟩
        have S01 := S0.trans S1
        refine ⟨_, rfl, sz_0, fun u2 hu2 => ?_⟩
        have S2 := Same.new (o := .tup []) hu2
        have hms : ∀ d', find ms x = some d' → VOk d' := fun d' h' => by
          rcases hI with ⟨d, h, hv, _⟩ | ⟨h, _⟩
          · rw [h'] at h; cases h; exact hv
          · rw [h'] at h; cases h
        refine ⟨_, _, (d1.mono S2).dp, (Dt.made hu2 .nil).dp, shp_pair hms, rfl, ?_⟩
        rw [eqv_pair hms]
        rcases hI with ⟨d, hf, hv, rfl⟩ | ⟨hf, line, hc, hll, hl⟩
        · rw [hf] at d1 ⊢
          refine ⟨_, rfl, iteFb rfl ?_⟩
          exact ⟨_, rfl, S01.trans S2, d1.mono S2⟩
        · rw [hf] at d1 ⊢
          refine ⟨_, rfl, iteTb rfl ?_⟩
          have S02 := S01.trans S2
          refine ⟨_, rfl, _, rfl, q2, _, _, _, rfl, rfl, Same.tupl S02 hq2', at1, _, rfl, hp, obs, c, line, x, rfl, listAt_mono L S02, hc, hll, fun v3 H3 S3 d3 => ?_⟩
          have S03 := S02.trans S3
          refine ⟨_, rfl, sz_0, fun u4 hu4 => ?_⟩
          have S4 := Same.new (o := .tup []) hu4
          have S04 := S03.trans S4
          have hmm : ∀ d', memF obs line x = some d' → VOk d' := fun d' h' => by
            rcases hl with ⟨h, _⟩ | ⟨d, h, hv, _⟩ | ⟨i, h, hi, _⟩
            · rw [h'] at h; cases h
            · rw [h'] at h; cases h; exact hv
            · rw [h'] at h; cases h; exact vok_ref (by omega)
          refine ⟨_, _, (d3.mono S4).dp, (Dt.made hu4 .nil).dp, shp_pair hmm, rfl, ?_⟩
          rw [eqv_pair hmm]
          rcases hl with ⟨h, t, rfl⟩ | ⟨d, h, hv, ⟨z, rr, rfl, hz⟩, rfl⟩ | ⟨i, h, hi, rfl⟩
          · rw [h] at d3 ⊢
            refine ⟨_, rfl, iteFb rfl ?_⟩
            exact ⟨_, rfl, S04, d3.mono S4⟩
          · rw [h] at d3 ⊢
            refine ⟨_, rfl, iteTb rfl ?_⟩
            have d3 : Dt K H3 v3 (.tuple (.str z :: rr)) := d3
            obtain ⟨q3, ws3, rfl, hq3, _⟩ := Dt.head d3
            refine ⟨_, rfl, q3, _, _, _, rfl, rfl, Same.tupl S4 hq3, at0, rfl, ?_⟩
            rw [dec_str hz]
            refine ⟨_, rfl, iteFb rfl ?_⟩
            exact ⟨_, rfl, S04, d3.mono S4⟩
          · rw [h] at d3 ⊢
            refine ⟨_, rfl, iteTb rfl ?_⟩
            have d3 : Dt K H3 v3 (refD i) := d3
            obtain ⟨q3, y3, rfl, hq3, hy3⟩ := Dt.pair (id d3)
            cases hy3.int_inv
            refine ⟨_, rfl, q3, _, _, _, rfl, rfl, Same.tupl S4 hq3, at0, rfl, ?_⟩
            rw [dec_str1]
            refine ⟨_, rfl, iteTb rfl ?_⟩
            refine ⟨_, rfl, q3, _, _, _, rfl, rfl, Same.tupl S4 hq3, at1, _, rfl, ?_⟩
            refine ⟨fp, _, rfl, .inl (SqL.of (S04 _ _ ef)), rfl, rfl, ?_⟩
            have e3 : (if false = true then !inV (.int (i : Int)) fns else inV (.int (i : Int)) fns) = true := by
              match i, hi with
              | 0, _ => rfl
              | 1, _ => rfl
              | 2, _ => rfl
              | i + 3, h => omega
            exact ⟨_, congrArg (fun b => [some (V.ref hp), some (V.ref q), some (V.str x), some (V.ref fp), some (V.ref q2), some (V.ref q3), some (V.bl b)]) e3, S04, d3.mono S4⟩
      · refine ⟨_, rfl, q2, _, _, _, rfl, rfl, Same.tupl S0 hq2, at0, rfl, _, rfl, iteFb (dec_str (by show ("class" : Str) ≠ "inst"; decide +kernel)) ?_⟩
        refine ⟨_, rfl, q2, _, _, _, rfl, rfl, Same.tupl S0 hq2, at0, rfl, _, rfl, iteTb (dec_str1 _) ?_⟩
        refine ⟨_, rfl, _, rfl, q, _, _, _, rfl, rfl, Same.tupl S0 hq, at1, _, rfl, hp, obs, (j : Nat), line, x, rfl, listAt_mono L S0, hc, hll, fun v3 H3 S3 d3 => ?_⟩
        rw [hp1] at d3
        exact ⟨_, by rw [hp2]; rfl, S0.trans S3, d3⟩
    · rintro _ H1 ⟨fv, rfl, S1, d1⟩
      refine ⟨_, rfl, isMade r, rfl, ?_⟩
      have e1 := S1 _ _ ez
      cases r with
      | made fn =>
        refine iteTb rfl ?_
        refine ⟨_, rfl, _, _, rfl, .inl ⟨_, SqL.of e1, rfl⟩, sz_2, fun a1 h1 => ⟨sz_2, fun a2 h2 => ⟨_, rfl, _, rfl, sz_3, fun a3 h3 => ⟨sz_2, fun a4 h4 => ?_⟩⟩⟩⟩
        have s1 := Same.new (o := .tup [.str "ref", .int (zs.length : Nat)]) h1
        have b1 : Dt K (upd H1 a1 (.tup [.str "ref", .int (zs.length : Nat)])) (.ref a1) (refD obs.length) := by rw [← lz]; exact Dt.made h1 (.cons (.str _) (.cons (.int _) .nil))
        have s2 := Same.new (o := .tup [.str "ok", .ref a1]) h2
        have b2 := Dt.made h2 (.cons (.str "ok") (.cons b1 .nil))
        have s3 := Same.new (o := .tup [.str "bound", .ref q, fv]) h3
        have b3 := Dt.made (K := K) h3 (.cons (.str "bound") (.cons (dv.mono (S1.trans (s1.trans s2))) (.cons (d1.mono (s1.trans s2)) .nil)))
        have s4 := Same.new (o := .lst [.ref a2, .ref a3]) h4
        exact k a4 _ ((((S1.trans s1).trans s2).trans s3).trans s4) (listAt_made h4 (.cons (b2.mono s3) (.cons b3 .nil)))
      | found d =>
        refine iteFb rfl ?_
        have hv : VOk d := hrv.resolve_left fun ⟨t, e⟩ => by cases e
        refine ⟨_, rfl, sz_0, fun u2 hu2 => ?_⟩
        have S2 := Same.new (o := .tup []) hu2
        refine ⟨_, _, (d1.mono S2).dp, (Dt.made hu2 .nil).dp, hv.shp.sh (by decide), rfl, ?_⟩
        obtain ⟨z, rr, ed, _⟩ := hv.tup
        rw [show lrV (.found d) = d from rfl, ed, eqv_nil]
        refine ⟨_, rfl, iteTb rfl ?_⟩
        refine ⟨_, rfl, sz_2, fun a2 h2 => ⟨sz_1, fun a4 h4 => ?_⟩⟩
        have s2 := Same.new (o := .tup [.str "ok", fv]) h2
        have s4 := Same.new (o := .lst [.ref a2]) h4
        exact k a4 _ (((S1.trans S2).trans s2).trans s4) (listAt_made h4 (.cons (Dt.made h2 (.cons (.str "ok") (.cons (d1.mono S2) .nil))) .nil))
      | no t =>
        refine iteFb rfl ?_
        refine ⟨_, rfl, sz_0, fun u2 hu2 => ?_⟩
        have S2 := Same.new (o := .tup []) hu2
        refine ⟨_, _, (d1.mono S2).dp, (Dt.made hu2 .nil).dp, rfl, rfl, ?_⟩
        rw [show lrV (.no t) = .tuple [] from rfl, eqv_nil]
        refine ⟨_, rfl, iteFb rfl ?_⟩
        exact ⟨sz_0, fun a4 h4 => k a4 _ ((S1.trans S2).trans (Same.new h4)) (listAt_made h4 .nil)⟩
def wordK (z : Str) : Str := if z = "gen" then "generator" else if z = "iter" then "iterator" else z
theorem wordK_get (z : Str) : (valV (mergeK [] [(.inr "gen", .str "generator"), (.inr "iter", .str "iterator")]) (.inr z)).getD (.str z) = .str (wordK z) := by
  unfold wordK
  by_cases h1 : z = "gen"
  · rw [h1, if_pos rfl]; decide +kernel
  · rw [if_neg h1]
    by_cases h2 : z = "iter"
    · rw [h2, if_pos rfl]; decide +kernel
    · rw [if_neg h2]
      have e : mergeK [] [((.inr "gen" : Key), V.str "generator"), (.inr "iter", .str "iterator")] = [(.inr "gen", .str "generator"), (.inr "iter", .str "iterator")] := by decide +kernel
      rw [e]
      unfold valV
      rw [List.find?_cons, show decide ((Sum.inr "gen" : Key) = Sum.inr z) = false from decide_eq_false fun e => h1 (Sum.inr.inj e).symm]
      dsimp only
      rw [List.find?_cons, show decide ((Sum.inr "iter" : Key) = Sum.inr z) = false from decide_eq_false fun e => h2 (Sum.inr.inj e).symm]
      rfl
structure Sx (n : Nat) (x : Str) : Prop where
  len : x.length ≤ n
  ch : ∀ c ∈ x.cps.toList, c < 16 ^ 8
theorem Sx.sm {n : Nat} {x : Str} (h : Sx n x) : Sm (.str x) 0 (10 * n + 2) := Sm.str h.len h.ch
theorem Sx.cat {n m : Nat} {x y : Str} (h : Sx n x) (g : Sx m y) : Sx (n + m) (x ++ y) := ⟨by rw [strlen_cat]; have := h.len; have := g.len; omega, fun c hc => by
  have hc : c ∈ (x.cps ++ y.cps).toList := hc
  rw [Array.toList_append] at hc
  rcases List.mem_append.mp hc with hc | hc
  · exact h.ch c hc
  · exact g.ch c hc⟩
theorem Sx.short {x : Str} (h : shortS x = true) : Sx 40 x := by
  unfold shortS at h
  rw [Bool.and_eq_true] at h
  exact ⟨of_decide_eq_true h.1, fun c hc => of_decide_eq_true (List.all_eq_true.mp h.2 c hc)⟩
def spLBuiltin (K : PySem.W.Frag) : Sp := fun vs H Q _ => ∃ (hp : Addr) (obs : List Ob) (v : V) (d : PyData) (z x : Str) (b : Bool) (r : AR), vs = [.ref hp, v, .str z, .str x, .bl b] ∧ ListAt K H hp (obs.map obD) ∧ Dt K H v d ∧ Sm d 1 3000 ∧ Sx 40 z ∧ Sx 40 x ∧
  MOk obs ∧ obs.length ≤ 100 ∧ AtR obs x d r ∧ (b = true → r = .made (builtD (z ++ "." ++ x))) ∧ (b = false → r = .no (wordK z)) ∧ ∀ H', ListAt K H' hp ((obs ++ arO d r).map obD) → Keep hp H H' → Q (.bl true) H'
theorem show_pairD {z : Str} {d : PyData} (hz : shortS z = true) (h : Sm d 1 3000) : Sm (.tuple [.str z, d]) 2 4000 := (Sm.tup (.cons (Sm.short hz) (.cons h .nil))).mono (by decide) (by decide)
theorem show_ok {d : PyData} {k M : Nat} (h : Sm d k M) (hk : k ≤ 5) (hM : M ≤ 100000) : ShowOk d := (h.mono hk hM).show (by decide) (by decide)
theorem ok_lbuiltin {f : Addr} {fd : FuncData} (F : Fun K "_law_builtin" "_law_builtin" s_law_builtin f fd) (T : Txt K mg) (U_attribute : Use P w K mg base CX0 "attribute" 5 P_attribute (spAttr K)) (U_law_same : Use P w K mg base CX0 "_law_same" 1 P_law_same (spSame K)) : FnG P w K mg base CX0 6 f fd P_law_builtin (spLBuiltin K) := by
  refine okG0 F sc_law_builtin (fun vs H Q E h => ?_) fun cdv A outer s H vs Q E hr hg h => ?_
  · obtain ⟨hp, obs, v, d, z, x, b, r, rfl, _⟩ := h
    rfl
  · obtain ⟨hp, obs, v, d, z, x, b, r, rfl, L, dv, sd, sz', sx, hM, hol, hA, hT, hF, k⟩ := h
    have hu : (A.deeper (envOfC "_law_builtin" (defScope s_law_builtin) s.heap.objs.size f cdv)).units + 1 < cLine := Nat.lt_of_le_of_lt (by omega) hr.units
    refine ⟨_, (pss_cons (ps_set (i := 5) sc_law_builtin.nd rfl (Or.inl rfl) (pe_callB call_len (by rfl) T.b_len PySem.boot_len (pa_cons (pv 0) pa_nil)))
  (pss_cons (ps_set (i := 6) sc_law_builtin.nd rfl (Or.inl rfl) (pe_use U_attribute (hr.mono (by decide)) hg rfl (pa_cons (pv 0) (pa_cons (pv 1) (pa_cons (pv 3) pa_nil)))))
  (pss_cons (ps_if (pt_val (pv 4))
   (pss_cons (ps_if (PW.pt (pw_or (pt_not (pt_val (pe_use U_law_same (hr.mono (by decide)) hg rfl (pa_cons (pv 6) (pa_cons (pe_tup (pa_cons pe_str (pa_cons (pe_tup (pa_cons pe_str (pa_cons (pv 5) pa_nil))) pa_nil))) pa_nil))))) (pw_or1 (pt_cmpR op_ne (pe_callB call_len (by rfl) T.b_len PySem.boot_len (pa_cons (pv 0) pa_nil)) (pe_op op_add (pv 5) pe_int) (nomark _)))))
   (pss_one (ps_ret pe_bl))
   pss_nil)
  (pss_one (ps_ret (pe_use U_law_same (hr.mono (by decide)) hg rfl (pa_cons (pe_ix ix_list (pv 0) (pv 5) (fun _ _ => rfl)) (pa_cons (pe_tup (pa_cons pe_str (pa_cons (pv 1) (pa_cons (pe_tup (pa_cons pe_str (pa_cons (pe_op op_add_str (pe_op op_add_str (pv 2) pe_str) (pv 3)) pa_nil))) pa_nil)))) pa_nil))))))
   pss_nil)
  (pss_cons (ps_set (i := 7) sc_law_builtin.nd rfl (Or.inl rfl) (pe_disp (pps_cons pe_str pe_str (pps_cons pe_str pe_str pps_nil)) rfl rfl (by intro z; cases z) (by decide)))
  (pss_cons (ps_set (i := 8) sc_law_builtin.nd rfl (Or.inl rfl) (pe_dget2 hu (pv 7) (pv 2) (pv 2) ⟨rfl, rfl, rfl, rfl⟩))
  (pss_one (ps_ret (pe_and (pe_use U_law_same (hr.mono (by decide)) hg rfl (pa_cons (pv 6) (pa_cons (pe_tup (pa_cons pe_str (pa_cons pe_int (pa_cons (pe_op op_add_str (pe_op op_add_str (pv 8) pe_str) (pv 3)) pa_nil)))) pa_nil))) (pe_one (pe_cmpR op_eq (pe_callB call_len (by rfl) T.b_len PySem.boot_len (pa_cons (pv 0) pa_nil)) (pv 5) (nomark _))))))))))), ?_⟩
    obtain ⟨zs, ez, az⟩ := id L
    have lzs := az.length
    rw [List.length_map] at lzs
    refine ⟨_, rfl, _, _, rfl, .inl ⟨_, SqL.of ez, rfl⟩, ?_⟩
    refine ⟨_, rfl, _, rfl, _, rfl, hp, obs, v, d, x, r, rfl, L, dv, hM, Nat.le_trans sx.len (by decide), by omega, hA, fun v1 H1 L1 K1 d1 => ?_⟩
    refine ⟨_, rfl, b, rfl, ?_⟩
    have dv1 : Dt K H1 v d := dv.keepT (keepR K1 L)
    have h1 : ("." : Str).length = 1 := by decide +kernel
    have lx := sx.len
    have lz := sz'.len
    cases b with
    | true =>
      obtain rfl := hT rfl
      refine iteTb rfl ?_
      refine ⟨_, rfl, _, rfl, sz_2, fun a ha => ⟨sz_2, fun b hb => ?_⟩⟩
      have s1 := Same.new (o := .tup [.str "ref", .int (zs.length : Nat)]) ha
      have s2 := Same.new (o := .tup [.str "ok", .ref a]) hb
      have b1 : Dt K (upd H1 a (.tup [.str "ref", .int (zs.length : Nat)])) (.ref a) (refD obs.length) := by rw [← lzs]; exact Dt.made ha (.cons (.str _) (.cons (.int _) .nil))
      have b2 := Dt.made hb (.cons (.str "ok") (.cons b1 .nil))
      refine ⟨_, _, _, rfl, (d1.mono (s1.trans s2)).dp, b2.dp, show_ok (show_pairD (by decide +kernel) (sm_ref (by omega))) (by decide) (by decide), ⟨true, rfl, iteFb rfl ?_⟩⟩
      obtain ⟨zs2, ez2, az2⟩ := listAt_mono L1 (s1.trans s2)
      have lzs2 := az2.length
      rw [List.length_map, List.length_append, show (arO d (.made (builtD (z ++ "." ++ x)))).length = 1 from rfl] at lzs2
      refine ⟨_, rfl, _, _, rfl, .inl ⟨_, SqL.of ez2, rfl⟩, _, rfl, _, _, rfl, rfl, rfl, _, rfl, iteFb (by rw [decide_eq_true (congrArg V.int (by omega))]; rfl) ?_⟩
      obtain ⟨y, hy, dy⟩ := az2.get (i := obs.length) (d := .tuple [.str "bound", d, builtD (z ++ "." ++ x)]) (by rw [List.getElem?_map, List.getElem?_append_right (Nat.le_refl _), Nat.sub_self]; rfl)
      refine ⟨_, rfl, _, rfl, hp, _, _, y, rfl, rfl, SqL.of ez2, by rw [lzs]; exact atI_nat hy, _, rfl, _, rfl, _, _, rfl, rfl, Nat.le_trans (show _ ≤ 100 by omega) (by decide), ?_⟩
      refine ⟨_, rfl, _, _, rfl, rfl, Nat.le_trans (show _ ≤ 200 by rw [strlen_cat]; omega) (by decide), ?_⟩
      refine ⟨sz_2, fun a3 h3 => ⟨sz_3, fun a4 h4 => ?_⟩⟩
      have s3 := Same.new (o := .tup [.str "built", .str (z ++ "." ++ x)]) h3
      have s4 := Same.new (o := .tup [.str "bound", v, .ref a3]) h4
      have b3 := Dt.made (K := K) h3 (.cons (.str "built") (.cons (.str (z ++ "." ++ x))   .nil))
      have b4 := Dt.made h4 (.cons (.str "bound") (.cons (dv1.mono ((s1.trans s2).trans s3)) (.cons b3 .nil)))
      refine ⟨_, _, _, rfl, (dy.mono (s3.trans s4)).dp, b4.dp, ?_, ?_⟩
      · refine show_ok (Sm.tup (.cons (Sm.short (by decide +kernel)) (.cons sd (.cons (Sm.tup (.cons (Sm.short (by decide +kernel)) (.cons ((sz'.cat (Sx.short (x := ".") (by decide +kernel))).cat sx).sm .nil))) .nil)))) (by decide) (by decide)
      exact k _ (listAt_mono L1 (((s1.trans s2).trans s3).trans s4)) (K1.trans (Same.keep (((s1.trans s2).trans s3).trans s4)))
    | false =>
      obtain rfl := hF rfl
      refine iteFb rfl ?_
      refine fun dp hdp => ⟨upd_same, [(.inr "gen", .str "generator"), (.inr "iter", .str "iterator")], rfl, by decide, ?_⟩
      have S2 : Same H1 (upd (upd H1 dp (.dK [])) dp (.dK (mergeK [] [(.inr "gen", .str "generator"), (.inr "iter", .str "iterator")]))) := fun b o hb => by
        rw [upd_ne (ne_of_none hb hdp), upd_ne (ne_of_none hb hdp)]; exact hb
      have hget : DGet (upd (upd H1 dp (.dK [])) dp (.dK (mergeK [] [(.inr "gen", .str "generator"), (.inr "iter", .str "iterator")]))) dp (.str z) (valV (mergeK [] [(.inr "gen", .str "generator"), (.inr "iter", .str "iterator")]) (.inr z)) := DGet.k (k := .inr z) upd_same
      have hisd : IsD (upd (upd H1 dp (.dK [])) dp (.dK (mergeK [] [(.inr "gen", .str "generator"), (.inr "iter", .str "iterator")]))) dp := .inl ⟨_, .inl upd_same⟩
      generalize upd (upd H1 dp (.dK [])) dp _ = H2 at S2 hget hisd
      refine ⟨_, rfl, dp, rfl, hisd, _, rfl, _, rfl, _, hget, ?_⟩
      rw [wordK_get]
      have sw : Sx 40 (wordK z) := by
        unfold wordK
        split
        · exact Sx.short (by decide +kernel)
        · split
          · exact Sx.short (by decide +kernel)
          · exact sz'
      have lw := sw.len
      have h18 : (" has no attribute " : Str).length = 18 := by decide +kernel
      refine ⟨_, rfl, _, rfl, _, _, rfl, rfl, Nat.le_trans (show _ ≤ 100 by omega) (by decide), ?_⟩
      refine ⟨_, rfl, _, _, rfl, rfl, Nat.le_trans (show _ ≤ 200 by rw [strlen_cat]; omega) (by decide), sz_3, fun a ha => ?_⟩
      have s3 := Same.new (o := .tup [.str "raise", .int 9, .str (wordK z ++ " has no attribute " ++ x)]) ha
      refine ⟨_, _, _, rfl, (d1.mono (S2.trans s3)).dp, (Dt.made ha (.cons (.str _) (.cons (.int _) (.cons (.str _) .nil)))).dp, ?_, ⟨true, rfl, iteTb rfl ?_⟩⟩
      · exact show_ok (Sm.tup (.cons (Sm.short (by decide +kernel)) (.cons (Sm.int (i := 9) (Nat.lt_of_lt_of_le (show (9 : Int).natAbs < 2 ^ 20 by decide) (Nat.pow_le_pow_right (by decide) (by decide)))) (.cons ((sw.cat (Sx.short (x := " has no attribute ") (by decide +kernel))).cat sx).sm .nil)))) (by decide) (by decide)
      obtain ⟨zs2, ez2, az2⟩ := listAt_mono L1 (S2.trans s3)
      have lzs2 := az2.length
      rw [List.length_map, List.length_append, show (arO d (.no (wordK z))).length = 0 from rfl] at lzs2
      refine ⟨_, rfl, _, _, rfl, .inl ⟨_, SqL.of ez2, rfl⟩, _, rfl, rfl, ?_⟩
      rw [decide_eq_true (congrArg V.int (by omega))]
      exact k _ (listAt_mono L1 (S2.trans s3)) (K1.trans (Same.keep (S2.trans s3)))
/-! the law -/
theorem inV_str (x : Str) (ys : List Str) : inV (.str x) (ys.map V.str) = decide (x ∈ ys) := by
  unfold inV
  induction ys with
  | nil => rfl
  | cons y r ih =>
    rw [List.map_cons, List.any_cons, ih]
    have : eqV (.str y) (.str x) = decide (y = x) := by
      show (y == x) = _
      by_cases e : y = x
      · rw [e, decide_eq_true rfl]; exact beq_self_eq_true x
      · rw [decide_eq_false e]; exact beq_eq_false_iff_ne.mpr e
    rw [this]
    by_cases e : y = x
    · subst e; simp
    · have e' : ¬ x = y := fun h => e h.symm
      simp [e, e']
structure Wb (K : PySem.W.Frag) (H : Hp) (p dl np : Addr) (nms : List Str) (hp : Addr) (obs : List Ob) : Prop where
  box : BoxAt H p dl
  nm : H np = some (.lst (nms.map V.str))
  ob : ListAt K H hp (obs.map obD)
structure Dw (p dl np hp : Addr) : Prop where
  n1 : np ≠ p
  h1 : hp ≠ p
  h2 : hp ≠ dl
  h3 : hp ≠ np
section
variable {H H' : Hp} {p dl np hp : Addr} {nms : List Str} {obs : List Ob}
theorem Wb.draw (X : Wb K H p dl np nms hp obs) (D : Dw p dl np hp) (B : BoxAt H' p dl) (k : Keep p H H') : Wb K H' p dl np nms hp obs :=
  ⟨B, k _ _ X.nm D.n1, listAt_keep X.ob k D.h1 X.box.at_⟩
theorem Wb.same (X : Wb K H p dl np nms hp obs) (e : Same H H') : Wb K H' p dl np nms hp obs :=
  ⟨X.box.same e, e _ _ X.nm, listAt_mono X.ob e⟩
theorem Wb.addO (X : Wb K H p dl np nms hp obs) (D : Dw p dl np hp) {xs : List V} (ex : H hp = some (.lst xs)) {u : Addr} {o : Ob} (h : Dt K H (.ref u) (obD o)) : Wb K (upd H hp (.lst (xs ++ [.ref u]))) p dl np nms hp (obs ++ [o]) :=
  ⟨X.box.upd D.h1 D.h2, by rw [upd_ne (Ne.symm D.h3)]; exact X.nm, by rw [List.map_append]; exact listAt_app X.ob ex h⟩
theorem Wb.put (X : Wb K H p dl np nms hp obs) (D : Dw p dl np hp) {obs' : List Ob} (L : ListAt K H' hp (obs'.map obD)) (k : Keep hp H H') : Wb K H' p dl np nms hp obs' := by
  refine ⟨?_, k _ _ X.nm (Ne.symm D.h3), L⟩
  obtain ⟨ds, at', e1, e2, e3, e4, e5⟩ := X.box
  exact ⟨ds, at', k _ _ e1 (Ne.symm D.h1), e2, k _ _ e3 (Ne.symm D.h2), e4, e5⟩
theorem Wb.len (X : Wb K H p dl np nms hp obs) : ∃ zs, H hp = some (.lst zs) ∧ zs.length = obs.length ∧ DtAll K H zs (obs.map obD) := by
  obtain ⟨zs, e, z⟩ := X.ob
  exact ⟨zs, e, by rw [z.length, List.length_map], z⟩
end
/-- the objects made so far -/
structure CK (obs : List Ob) : Prop where
  cl : ∀ (j : Nat) (n : Str) (b : Int) (ms : Ms), obs[j]? = some (.cls n b ms) → MsOk ms ∧ Sx 10 n ∧ 3 ≤ j ∧ j < 9 ∧ b < (j : Int) ∧ (b = -1 ∨ ∃ (i : Nat) (n' : Str) (b' : Int) (ms' : Ms), b = (i : Int) ∧ obs[i]? = some (.cls n' b' ms'))
  ins : ∀ (j : Nat) (c : Int) (ms : Ms), obs[j]? = some (.inst c ms) → MsOk ms ∧ ∃ (i : Nat) (n : Str) (b : Int) (ms' : Ms), c = (i : Int) ∧ obs[i]? = some (.cls n b ms')
  fn : ∀ i < 3, i < obs.length → ∃ r, obs[i]? = some (.other "func" r)
  sm : ∀ o ∈ obs, Sm (obD o) 4 60000
theorem at_app {obs : List Ob} {o x : Ob} {j : Nat} (h : (obs ++ [o])[j]? = some x) : obs[j]? = some x ∨ (j = obs.length ∧ x = o) := by
  rcases Nat.lt_trichotomy j obs.length with hj | hj | hj
  · rw [List.getElem?_append_left hj] at h; exact .inl h
  · subst hj
    rw [List.getElem?_append_right (Nat.le_refl _), Nat.sub_self] at h
    exact .inr ⟨rfl, (Option.some.inj h).symm⟩
  · rw [List.getElem?_append_right (Nat.le_of_lt hj)] at h
    obtain ⟨m, hm⟩ : ∃ m, j - obs.length = m + 1 := ⟨j - obs.length - 1, by omega⟩
    rw [hm] at h
    cases h
theorem at_old {obs r : List Ob} {x : Ob} {j : Nat} (h : obs[j]? = some x) : (obs ++ r)[j]? = some x := by
  rw [List.getElem?_append_left (List.getElem?_eq_some_iff.mp h).1]; exact h
theorem CK.add {obs : List Ob} {o : Ob} (h : CK obs) (hs : Sm (obD o) 4 60000) (hf : obs.length < 3 → ∃ r, o = .other "func" r)
    (hc : ∀ n b ms, o = .cls n b ms → MsOk ms ∧ Sx 10 n ∧ 3 ≤ obs.length ∧ obs.length < 9 ∧ b < (obs.length : Int) ∧ (b = -1 ∨ ∃ (i : Nat) (n' : Str) (b' : Int) (ms' : Ms), b = (i : Int) ∧ obs[i]? = some (.cls n' b' ms')))
    (hi : ∀ c ms, o = .inst c ms → MsOk ms ∧ ∃ (i : Nat) (n : Str) (b : Int) (ms' : Ms), c = (i : Int) ∧ obs[i]? = some (.cls n b ms')) : CK (obs ++ [o]) := by
  have up : ∀ {b : Int}, (b = -1 ∨ ∃ (i : Nat) (n' : Str) (b' : Int) (ms' : Ms), b = (i : Int) ∧ obs[i]? = some (.cls n' b' ms')) → (b = -1 ∨ ∃ (i : Nat) (n' : Str) (b' : Int) (ms' : Ms), b = (i : Int) ∧ (obs ++ [o])[i]? = some (.cls n' b' ms')) := fun h => by
    rcases h with h | ⟨i, n', b', ms', e, h⟩
    · exact .inl h
    · exact .inr ⟨i, n', b', ms', e, at_old h⟩
  refine ⟨fun j n b ms hj => ?_, fun j c ms hj => ?_, fun i h3 hl => ?_, fun x hx => ?_⟩
  · rcases at_app hj with hj | ⟨rfl, e⟩
    · obtain ⟨a1, a2, a3, a4, a5, a6⟩ := h.cl j n b ms hj
      exact ⟨a1, a2, a3, a4, a5, up a6⟩
    · obtain ⟨a1, a2, a3, a4, a5, a6⟩ := hc n b ms e.symm
      exact ⟨a1, a2, a3, a4, a5, up a6⟩
  · rcases at_app hj with hj | ⟨rfl, e⟩
    · obtain ⟨a1, i, n, b, ms', e, a2⟩ := h.ins j c ms hj
      exact ⟨a1, i, n, b, ms', e, at_old a2⟩
    · obtain ⟨a1, i, n, b, ms', e, a2⟩ := hi c ms e.symm
      exact ⟨a1, i, n, b, ms', e, at_old a2⟩
  · by_cases hlt : i < obs.length
    · obtain ⟨r, hr⟩ := h.fn i h3 hlt
      exact ⟨r, at_old hr⟩
    · have hi : i = obs.length := by rw [List.length_append, List.length_singleton] at hl; omega
      subst hi
      obtain ⟨r, rfl⟩ := hf h3
      exact ⟨r, by rw [List.getElem?_append_right (Nat.le_refl _), Nat.sub_self]; rfl⟩
  · rcases List.mem_append.mp hx with hx | hx
    · exact h.sm x hx
    · rw [List.mem_singleton.mp hx]; exact hs
theorem CK.chain {obs : List Ob} (h : CK obs) : ∀ (m j : Nat), j < m → ∀ n b ms, obs[j]? = some (.cls n b ms) → ∃ line, Chain obs (j : Nat) line ∧ line.length + 2 ≤ j
  | 0, _, hm, _, _, _, _ => absurd hm (Nat.not_lt_zero _)
  | m + 1, j, hm, n, b, ms, hj => by
    obtain ⟨a1, a2, a3, a4, a5, a6⟩ := h.cl j n b ms hj
    rcases a6 with rfl | ⟨i, n', b', ms', rfl, hi⟩
    · exact ⟨[(j : Int)], .next hj (by omega) (.stop (by omega)), by simp; omega⟩
    · obtain ⟨line, hc, hl⟩ := h.chain m i (by omega) n' b' ms' hi
      exact ⟨(j : Int) :: line, .next hj a5 hc, by rw [List.length_cons]; omega⟩
theorem CK.mok {obs : List Ob} (h : CK obs) : MOk obs := fun j n b ms hj p hp => ((h.cl j n b ms hj).1.vl p hp).v
theorem CK.memF {obs : List Ob} (h : CK obs) {x : Str} : ∀ {l : List Int} {d : PyData}, K32.memF obs l x = some d → MvOk d
  | [], d, hd => by cases hd
  | k :: r, d, hd => by
    have hd : (match find (msOf obs k) x with | some d => some d | none => K32.memF obs r x) = some d := hd
    cases hf : find (msOf obs k) x with
    | some e =>
      rw [hf] at hd
      cases hd
      obtain ⟨p, hp, rfl⟩ := find_mem hf
      unfold msOf at hp
      split at hp
      · next e => exact (h.cl _ _ _ _ e).1.vl p hp
      · cases hp
    | none => rw [hf] at hd; exact h.memF hd
theorem CK.kind {obs : List Ob} (h : CK obs) (h3 : 3 ≤ obs.length) {d : PyData} (hd : MvOk d) : (NRef d ∧ ValK obs d "") ∨ ∃ i : Nat, i < 3 ∧ d = refD i ∧ ValK obs d "func" := by
  rcases hd.k with hn | ⟨i, hi, rfl⟩
  · obtain ⟨z, r, rfl, hz⟩ := hn
    exact .inl ⟨⟨z, r, rfl, hz⟩, .val z r hz⟩
  · obtain ⟨r, hr⟩ := h.fn i hi (by omega)
    exact .inr ⟨i, hi, rfl, .ref i _ hr⟩
/-- the word of a refusal -/
inductive WordIs (obs : List Ob) (j : Nat) : Str → Prop
  | cls {n : Str} {b : Int} {ms : Ms} : obs[j]? = some (.cls n b ms) → WordIs obs j "class"
  | inst {i : Nat} {ms ms' : Ms} {n : Str} {b : Int} : obs[j]? = some (.inst (i : Nat) ms) → obs[i]? = some (.cls n b ms') → WordIs obs j n
theorem CK.lr {obs : List Ob} (h : CK obs) (h3 : 3 ≤ obs.length) {x : Str} {j : Nat} {o : Ob} (ho : obs[j]? = some o) (hk : tagOf o = "inst" ∨ tagOf o = "class") (hz : ∀ z r, o = .other z r → False) :
    ∃ r, LR obs x j r ∧ AtR obs x (refD j) r ∧ ∀ t, r = .no t → WordIs obs j t ∧ Sx 10 t := by
  cases o with
  | other z r => exact (hz z r rfl).elim
  | cls n b ms =>
    obtain ⟨a1, a2, a3, a4, a5, a6⟩ := h.cl j n b ms ho
    obtain ⟨line, hc, hl⟩ := h.chain (j + 1) j (Nat.lt_succ_self j) n b ms ho
    cases hm : K32.memF obs line x with
    | some d => exact ⟨.found d, .clsF ho hc (by omega) hm (h.memF hm), .clsF ho hc (by omega) hm, fun t e => by cases e⟩
    | none => exact ⟨.no "class", .clsN ho hc (by omega) hm, .clsN ho hc (by omega) hm, fun t e => by cases e; exact ⟨.cls ho, ⟨by decide +kernel, by decide +kernel⟩⟩⟩
  | inst c ms =>
    obtain ⟨a1, i, n, b, ms', rfl, hi⟩ := h.ins j c ms ho
    obtain ⟨line, hc, hl⟩ := h.chain (i + 1) i (Nat.lt_succ_self i) n b ms' hi
    obtain ⟨b1, b2, b3, b4, b5, b6⟩ := h.cl i n b ms' hi
    have hN : NameIs obs (refD j) n := .inst j i ms ms' n b ho hi
    have hnl : n.length ≤ 60 := Nat.le_trans b2.len (by decide)
    cases hf : find ms x with
    | some d =>
      obtain ⟨p, hp, rfl⟩ := find_mem hf
      have hv := a1.vl p hp
      exact ⟨.found p.2, .own ho hf hv, .inst ho hc (by omega) (.own hf hv.v) hN hnl, fun t e => by cases e⟩
    | none =>
      cases hm : K32.memF obs line x with
      | none => exact ⟨.no n, .no ho hf hc (by omega) hm, .inst ho hc (by omega) (.no hf hm) hN hnl, fun t e => by cases e; exact ⟨.inst ho hi, b2⟩⟩
      | some d =>
        have hv := h.memF hm
        rcases h.kind h3 hv with ⟨h1, h2⟩ | ⟨q, hq, rfl, h2⟩
        · exact ⟨.found d, .mem ho hf hc (by omega) hm hv h1, .inst ho hc (by omega) (.mem hf hm h2 (by decide +kernel)) hN hnl, fun t e => by cases e⟩
        · exact ⟨.made (refD q), .fn ho hf hc (by omega) hm hq, .inst ho hc (by omega) (.fn hf hm h2) hN hnl, fun t e => by cases e⟩
theorem sm_int {b : Int} (hb : b.natAbs < 2 ^ 20) : Sm (.int b) 0 2000 := Sm.int (Nat.lt_of_lt_of_le hb (Nat.pow_le_pow_right (by decide) (by decide)))
theorem MsOk.sm {ms : Ms} (h : MsOk ms) : Sm (.tuple (ms.map memD)) 3 14000 := by
  have h1 : ∀ d ∈ ms.map memD, Sm d 2 3207 := fun d hd => by
    obtain ⟨q, hq, rfl⟩ := List.mem_map.mp hd
    exact (Sm.tup (.cons (h.nm q hq).sm (.cons (h.vl q hq).v.sm .nil))).mono (by decide) (by decide)
  have hl := h.len
  refine (Sm.tup (SmAll.many h1)).mono (by decide) ?_
  rw [List.length_map]
  omega
theorem NameOk.sx {x : Str} (h : NameOk x) : Sx 10 x := by
  obtain ⟨a, rfl, h1, h2⟩ := h.ex
  exact ⟨by rw [S_len]; exact h1, fun c hc => by
    have := h2 c (by simpa [S] using hc)
    omega⟩
def fnOb (z : Str) : Ob := .other "func" [.str z, .tuple [], .tuple [], .tuple [], .tuple [.tuple [], .tuple [], .bool false], .int (-1)]
theorem sm_fn {z : Str} (h : Sx 10 z) : Sm (obD (fnOb z)) 4 60000 :=
  (Sm.tup (.cons (Sm.short (n := "func") (by decide +kernel)) (.cons h.sm (.cons (Sm.tup .nil) (.cons (Sm.tup .nil) (.cons (Sm.tup .nil) (.cons (Sm.tup (.cons (Sm.tup .nil) (.cons (Sm.tup .nil) (.cons (Sm.bool _) .nil)))) (.cons (sm_int (b := -1) (by decide)) .nil)))))))).mono (by decide) (by decide)
theorem sm_cls {n : Str} {b : Int} {ms : Ms} (h : Sx 10 n) (hb : b.natAbs < 2 ^ 20) (hm : MsOk ms) : Sm (obD (.cls n b ms)) 4 60000 :=
  (Sm.tup (.cons (Sm.short (n := "class") (by decide +kernel)) (.cons h.sm (.cons (sm_int hb) (.cons hm.sm .nil))))).mono (by decide) (by decide)
theorem sm_inst {b : Int} {ms : Ms} (hb : b.natAbs < 2 ^ 20) (hm : MsOk ms) : Sm (obD (.inst b ms)) 4 60000 :=
  (Sm.tup (.cons (Sm.short (n := "inst") (by decide +kernel)) (.cons (sm_int hb) (.cons hm.sm .nil)))).mono (by decide) (by decide)
/-- a letter and a number below ten -/
theorem sx_num {z : Str} (hz : Sx 1 z) {n : Nat} (hn : n < 10) : Sx 10 (z ++ Str.ofString (toString ((n : Nat) : Int))) := by
  have h2 : Sx 9 (Str.ofString (toString ((n : Nat) : Int))) := by
    match n, hn with
    | 0, _ | 1, _ | 2, _ | 3, _ | 4, _ | 5, _ | 6, _ | 7, _ | 8, _ | 9, _ => exact ⟨by decide +kernel, by decide +kernel⟩
    | n + 10, h => omega
  exact hz.cat h2
theorem lg {i : Nat} (h : i < 1000) : ((i : Nat) : Int).natAbs.log2 < 1920 := Nat.lt_trans (PySem.Flt.log2_lt_of (k := 100) (by decide) (show i < 2 ^ 100 from Nat.lt_of_lt_of_le h (by decide +kernel))) (by decide)
theorem listDp {H : Hp} {l : Addr} {ds : List PyData} (h : ListAt K H l ds) : Dp K H (.ref l) (.list ds) := let ⟨_, e, a⟩ := h; .lst (SqL.of e) a.dp
def dueE (n j : Nat) (x : Str) (r : AR) : List PyData := match r with
  | .no t => [raiseD (t ++ " has no attribute " ++ x)]
  | r => dueD n j r
theorem dueE_hd (n j : Nat) (x : Str) (r : AR) : ∃ l, dueE n j x r = arD n x r :: l := by cases r <;> exact ⟨_, rfl⟩
theorem show_ar {obs : List Ob} {j : Nat} {x : Str} {r : AR} (h : LR obs x j r) (hl : obs.length ≤ 100) (hx : Sx 10 x) (ht : ∀ t, r = .no t → Sx 10 t) : ShowOk (arD obs.length x r) := by
  have hv := h.v
  cases r with
  | found d => exact show_ok (show_pairD (by decide +kernel) (hv.resolve_left fun ⟨t, e⟩ => by cases e).sm) (by decide) (by decide)
  | made fn => exact show_ok (show_pairD (by decide +kernel) (sm_ref (by omega))) (by decide) (by decide)
  | no t => exact show_ok (Sm.tup (.cons (Sm.short (by decide +kernel)) (.cons (sm_int (b := 9) (by decide)) (.cons (((ht t rfl).cat (Sx.short (x := " has no attribute ") (by decide +kernel))).cat hx).sm .nil)))) (by decide) (by decide)
theorem dtAll_snoc {H : Hp} {d : PyData} : ∀ {ds : List PyData} {zs : List V}, DtAll K H zs (ds ++ [d]) → ∃ ws y, zs = ws ++ [y] ∧ DtAll K H ws ds ∧ Dt K H y d
  | [], zs, h => by
    obtain ⟨y, ws, rfl, h1, h2⟩ := DtAll.cons_inv (ds := []) h
    cases h2.nil_inv
    exact ⟨[], y, rfl, .nil, h1⟩
  | e :: ds, zs, h => by
    obtain ⟨y, ws, rfl, h1, h2⟩ := DtAll.cons_inv (ds := ds ++ [d]) h
    obtain ⟨ws', y', rfl, h3, h4⟩ := dtAll_snoc h2
    exact ⟨y :: ws', y', rfl, .cons h1 h3, h4⟩
theorem MOk.app {obs : List Ob} {z : Str} {r : List PyData} (h : MOk obs) : MOk (obs ++ [.other z r]) := fun j n b ms hj => by
  rcases at_app hj with hj | ⟨_, e⟩
  · exact h j n b ms hj
  · cases e
theorem mok_ar {obs : List Ob} {d : PyData} {r : AR} (h : MOk obs) : MOk (obs ++ arO d r) := by
  cases r with
  | made fn => exact h.app
  | found _ => rw [show obs ++ arO d (.found _) = obs from List.append_nil _]; exact h
  | no _ => rw [show obs ++ arO d (.no _) = obs from List.append_nil _]; exact h
theorem arO_len (d : PyData) (r : AR) : (arO d r).length ≤ 1 := by cases r <;> simp [arO]
def textAb : PyData := .tuple [.str "text", .str "ab"]
/-- a value of a built-in kind kd, the sort st -/
def VF (obs : List Ob) (d : PyData) (kd st : Str) : Prop := (d = textAb ∧ kd = "str" ∧ st = "text") ∨ ∃ (j : Nat) (r : List PyData), d = refD j ∧ j < 900 ∧ obs[j]? = some (.other kd r) ∧ st = kd ∧ kd ∈ ([("list" : Str), "tuple", "dict", "gen", "iter"])
theorem VF.app {obs r : List Ob} {d : PyData} {kd st : Str} (h : VF obs d kd st) : VF (obs ++ r) d kd st := by
  rcases h with h | ⟨j, q, h1, h0, h2, h3⟩
  · exact .inl h
  · exact .inr ⟨j, q, h1, h0, at_old h2, h3⟩
theorem VF.sm {obs : List Ob} {d : PyData} {kd st : Str} (h : VF obs d kd st) : Sm d 1 3000 := by
  rcases h with ⟨rfl, _⟩ | ⟨j, q, rfl, h0, _⟩
  · exact (Sm.tup (.cons (Sm.short (by decide +kernel)) (.cons (Sm.short (by decide +kernel)) .nil))).mono (by decide) (by decide)
  · exact sm_ref (by omega)
theorem VF.sx {obs : List Ob} {d : PyData} {kd st : Str} (h : VF obs d kd st) : Sx 40 kd := by
  rcases h with ⟨_, rfl, _⟩ | ⟨j, q, _, _, _, _, h⟩
  · exact Sx.short (by decide +kernel)
  · have : ∀ k ∈ ([("list" : Str), "tuple", "dict", "gen", "iter"]), shortS k = true := by decide +kernel
    exact Sx.short (this kd h)
theorem VF.at_ {obs : List Ob} {d : PyData} {kd st x : Str} (h : VF obs d kd st) : AtR obs x d (if methN st x ∈ sigs then .made (builtD (methN st x)) else .no (wordK kd)) := by
  rcases h with ⟨rfl, rfl, rfl⟩ | ⟨j, q, rfl, h0, h2, rfl, h3⟩
  · refine .oth (s := "") (t := wordK "str") (.val "text" _ (by decide +kernel)) (by decide +kernel) (by decide +kernel) ?_ (.val "text" _ _ (by decide +kernel) (by decide +kernel)) (by decide +kernel)
    split
    · exact .made (.val "text" _ (by decide +kernel)) ‹_›
    · exact .no (.val "text" _ (by decide +kernel)) ‹_›
  · have ht : tagOf (.other st q) = st := rfl
    have hf : ∀ k ∈ ([("list" : Str), "tuple", "dict", "gen", "iter"]), k ≠ "inst" ∧ k ≠ "class" ∧ valV (txtKV oks) (.inr k) = some (.str (wordK k)) ∧ (wordK k).length ≤ 60 := by decide +kernel
    obtain ⟨f1, f2, f3, f4⟩ := hf st h3
    refine .oth (s := st) (t := wordK st) (.ref j _ h2) f1 f2 ?_ (.oth j _ _ h2 f1 f3) f4
    split
    · exact .made (.ref j _ h2) ‹_›
    · exact .no (.ref j _ h2) ‹_›
def tb (kd : Str) : List Str := if kd = "str" then ["find", "upper"] else if kd = "list" then ["append", "clear", "count"] else if kd = "tuple" then ["index", "count"] else if kd = "dict" then ["setdefault", "clear"] else ["close", "send"]
def rowsT : List (Str × Str × PyData × Str) := [("str", "text", textAb, "find"), ("list", "list", .tuple [], "append"), ("tuple", "tuple", .tuple [], "index"), ("dict", "dict", .tuple [], "setdefault"), ("gen", "gen", .tuple [], "close")]
def rowD (t : Str × Str × PyData × Str) : PyData := .tuple [.str t.1, t.2.2.1, .str t.2.2.2]
theorem meth_eq (kd st x : Str) (h : (valV (txtKV mks) (.inr st)).getD (.str "") = .str kd) : methN st x = kd ++ "." ++ x := by
  unfold methN
  rw [h]
theorem no_n : ∀ z ∈ ([("str" : Str), "list", "tuple", "dict", "gen", ""]), ∀ y ∈ sigs, (z.cps.toList ++ [46, 110]).isPrefixOf y.cps.toList = false := by decide +kernel
theorem no_name {z x : Str} (hz : z ∈ ([("str" : Str), "list", "tuple", "dict", "gen", ""])) (hx : ∃ r, x = S (110 :: r)) : ¬ (z ++ "." ++ x) ∈ sigs := fun h => by
  obtain ⟨r, rfl⟩ := hx
  have := no_n z hz _ h
  have e : (z ++ "." ++ S (110 :: r)).cps.toList = (z.cps.toList ++ [46, 110]) ++ r := by
    show ((z.cps ++ ("." : Str).cps) ++ (S (110 :: r)).cps).toList = _
    rw [Array.toList_append, Array.toList_append, show ("." : Str).cps.toList = [46] by decide +kernel, show (S (110 :: r)).cps.toList = 110 :: r by simp [S]]
    simp
  rw [e, List.isPrefixOf_iff_prefix.mpr (List.prefix_append _ _)] at this
  cases this
theorem row_facts : ∀ t ∈ rowsT, (valV (txtKV mks) (.inr t.2.1)).getD (.str "") = .str t.1 ∧ t.1 ∈ ([("str" : Str), "list", "tuple", "dict", "gen", ""]) ∧ (∀ x ∈ [t.2.2.2, "clear", "upper", "send", "count"], decide (t.1 ++ "." ++ x ∈ sigs) = decide (x ∈ tb t.1) ∧ shortS x = true) ∧ (∀ y ∈ tb t.1, y.cps.toList.head? ≠ some 110) := by decide +kernel
theorem row_in {t : Str × Str × PyData × Str} (ht : t ∈ rowsT) {x x0 : Str} (h0 : NameOk x0) (hx : x ∈ [t.2.2.2, "clear", "upper", "send", "count", x0]) : Sx 40 x ∧ methN t.2.1 x = t.1 ++ "." ++ x ∧ decide (methN t.2.1 x ∈ sigs) = decide (x ∈ tb t.1) := by
  obtain ⟨f1, f2, f3, f4⟩ := row_facts t ht
  have em := meth_eq t.1 t.2.1 x f1
  by_cases h : x ∈ [t.2.2.2, "clear", "upper", "send", "count"]
  · obtain ⟨g1, g2⟩ := f3 x h
    exact ⟨Sx.short g2, em, by rw [em]; exact g1⟩
  · have hx0 : x = x0 := by
      simp only [List.mem_cons, List.not_mem_nil, or_false] at hx h
      rcases hx with hx | hx | hx | hx | hx | hx
      · exact absurd (.inl hx) h
      · exact absurd (.inr (.inl hx)) h
      · exact absurd (.inr (.inr (.inl hx))) h
      · exact absurd (.inr (.inr (.inr (.inl hx)))) h
      · exact absurd (.inr (.inr (.inr (.inr hx)))) h
      · exact hx
    subst hx0
    refine ⟨⟨Nat.le_trans h0.sx.len (by decide), h0.sx.ch⟩, em, ?_⟩
    rw [em, decide_eq_false (no_name f2 h0.hd), decide_eq_false fun hm => ?_]
    obtain ⟨r, e⟩ := h0.hd
    exact f4 x hm (by rw [e]; simp [S])
structure Ph (obs : List Ob) (nc ni : Nat) : Prop where
  ck : CK obs
  len : obs.length = 3 + nc + ni
  cls : ∀ t < nc, ∃ n b ms, obs[3 + t]? = some (.cls n b ms)
  ins : ∀ t < ni, ∃ c ms, obs[3 + nc + t]? = some (.inst c ms)
def spLaw (K : PySem.W.Frag) : Sp := fun vs H Q _ => ∃ (a : Addr) (ns : List Int), vs = [.ref a] ∧ SqL K H a (ns.map V.int) ∧ ns.length ≤ 63 ∧ ∀ H', Q (.bl true) H'
theorem ok_law {f : Addr} {fd : FuncData} (F : Fun K "law" "law" s_law f fd) (T : Txt K mg) (U_law_digits : Use P w K mg base CX0 "_law_digits" 2 P_law_digits (spDigits K)) (U_law_draw : Use P w K mg base CX0 "_law_draw" 1 P_law_draw (spDraw K))
    (U_law_names : Use P w K mg base CX0 "_law_names" 2 P_law_names (spNames K)) (U_law_pairs : Use P w K mg base CX0 "_law_pairs" 3 P_law_pairs (spLPairs K)) (U_law_due : Use P w K mg base CX0 "_law_due" 2 P_law_due (spLDue K))
    (U_attribute : Use P w K mg base CX0 "attribute" 5 P_attribute (spAttr K)) (U_law_same : Use P w K mg base CX0 "_law_same" 1 P_law_same (spSame K)) (U_law_builtin : Use P w K mg base CX0 "_law_builtin" 6 P_law_builtin (spLBuiltin K)) : FnG P w K mg base CX0 7 f fd P_law (spLaw K) := by
  refine okG0 F sc_law (fun vs H Q E h => ?_) fun cdv A outer s H vs Q E hr hg h => ?_
  · obtain ⟨a, ns, rfl, _⟩ := h
    rfl
  · obtain ⟨a, ns, rfl, hs, hn, k⟩ := h
    have hu : (A.deeper (envOfC "law" (defScope s_law) s.heap.objs.size f cdv)).units + 1 < cLine := Nat.lt_of_le_of_lt (by omega) hr.units
    refine ⟨_, (pss_cons (ps_set (i := 1) sc_law.nd rfl (Or.inl rfl) (pe_lst (pa_cons (pe_use U_law_digits (hr.mono (by decide)) hg rfl (pa_cons (pv 0) (pa_cons pe_int (pa_cons pe_int pa_nil)))) (pa_cons pe_int pa_nil))))
  (pss_cons (ps_set (i := 2) sc_law.nd rfl (Or.inl rfl) (pe_use U_law_names (hr.mono (by decide)) hg rfl (pa_cons (pv 1) pa_nil)))
  (pss_cons (ps_set (i := 3) sc_law.nd rfl (Or.inl rfl) (pe_lst pa_nil))
  (pss_cons (ps_for PassesOwn.never rfl (pi_range1 (by rfl) T.b_range (pa_cons pe_int pa_nil)) (pg_name (i := 4) sc_law.nd rfl (Or.inl rfl))
   (pss_one (ps_expr (pe_bm PySem.F.plainAttrs_list PySem.F.slot_list_append PySem.F.type_list_append mt_append (pv 3) (pa_cons (pe_tup (pa_cons pe_str (pa_cons (pe_op op_add_str pe_str (pe_callTy call_str_int (by rfl) T.b_str (by decide +kernel) (pa_cons (pv 4) pa_nil))) (pa_cons (pe_tup pa_nil) (pa_cons (pe_tup pa_nil) (pa_cons (pe_tup pa_nil) (pa_cons (pe_tup (pa_cons (pe_tup pa_nil) (pa_cons (pe_tup pa_nil) (pa_cons pe_bl pa_nil)))) (pa_cons (pe_un un_neg pe_int) pa_nil)))))))) pa_nil)))))
  (pss_cons (ps_set (i := 5) sc_law.nd rfl (Or.inl rfl) (pe_op op_add pe_int (pe_use U_law_draw (hr.mono (by decide)) hg rfl (pa_cons (pv 1) (pa_cons pe_int pa_nil)))))
  (pss_cons (ps_for PassesOwn.never rfl (pi_range1 (by rfl) T.b_range (pa_cons (pv 5) pa_nil)) (pg_name (i := 4) sc_law.nd rfl (Or.inl rfl))
   (pss_cons (ps_set (i := 6) sc_law.nd rfl (Or.inl rfl) (pe_op op_sub (pe_use U_law_draw (hr.mono (by decide)) hg rfl (pa_cons (pv 1) (pa_cons (pe_op op_add (pv 4) pe_int) pa_nil))) pe_int))
  (C8.pss_cut (ps_if (pt_cmpR op_ge (pv 6) pe_int (nomark _))
   (pss_one (ps_set (i := 6) sc_law.nd rfl (Or.inl rfl) (pe_op op_add (pv 6) pe_int)))
   pss_nil)
  (pss_one (ps_expr (pe_bm PySem.F.plainAttrs_list PySem.F.slot_list_append PySem.F.type_list_append mt_append (pv 3) (pa_cons (pe_tup (pa_cons pe_str (pa_cons (pe_op op_add_str pe_str (pe_callTy call_str_int (by rfl) T.b_str (by decide +kernel) (pa_cons (pv 4) pa_nil))) (pa_cons (pv 6) (pa_cons (pe_use U_law_pairs (hr.mono (by decide)) hg rfl (pa_cons (pv 1) (pa_cons (pv 2) (pa_cons (pe_lst (pa_cons pe_int (pa_cons pe_int (pa_cons pe_int pa_nil)))) pa_nil)))) pa_nil))))) pa_nil)))))))
  (pss_cons (ps_set (i := 7) sc_law.nd rfl (Or.inl rfl) (pe_op op_add pe_int (pe_use U_law_draw (hr.mono (by decide)) hg rfl (pa_cons (pv 1) (pa_cons pe_int pa_nil)))))
  (pss_cons (ps_for PassesOwn.never rfl (pi_range1 (by rfl) T.b_range (pa_cons (pv 7) pa_nil)) (pg_name (i := 4) sc_law.nd rfl (Or.inl rfl))
   (pss_one (ps_expr (pe_bm PySem.F.plainAttrs_list PySem.F.slot_list_append PySem.F.type_list_append mt_append (pv 3) (pa_cons (pe_tup (pa_cons pe_str (pa_cons (pe_op op_add pe_int (pe_use U_law_draw (hr.mono (by decide)) hg rfl (pa_cons (pv 1) (pa_cons (pv 5) pa_nil)))) (pa_cons (pe_use U_law_pairs (hr.mono (by decide)) hg rfl (pa_cons (pv 1) (pa_cons (pv 2) (pa_cons (pe_lst (pa_cons pe_int (pa_cons pe_int (pa_cons pe_int pa_nil)))) pa_nil)))) pa_nil)))) pa_nil)))))
  (pss_cons (ps_for PassesOwn.never rfl (pi_range2 (by rfl) T.b_range (pa_cons pe_int (pa_cons (pe_op op_add (pe_op op_add pe_int (pv 5)) (pv 7)) pa_nil))) (pg_name (i := 4) sc_law.nd rfl (Or.inl rfl))
   (pss_one (ps_for PassesOwn.never rfl (pi_list (pv 2)) (pg_name (i := 8) sc_law.nd rfl (Or.inl rfl))
   (pss_cons (ps_set (i := 9) sc_law.nd rfl (Or.inl rfl) (pe_use U_law_due (hr.mono (by decide)) hg rfl (pa_cons (pv 3) (pa_cons (pe_tup (pa_cons pe_str (pa_cons (pv 4) pa_nil))) (pa_cons (pv 8) (pa_cons (pe_lst (pa_cons pe_int (pa_cons pe_int (pa_cons pe_int pa_nil)))) pa_nil))))))
  (pss_cons (ps_set (i := 10) sc_law.nd rfl (Or.inl rfl) (pe_callB (call_repr_data hg hr.units) (by rfl) T.b_repr (by decide +kernel) (pa_cons (pv 3) pa_nil)))
  (pss_cons (ps_set (i := 11) sc_law.nd rfl (Or.inl rfl) (pe_use U_attribute (hr.mono (by decide)) hg rfl (pa_cons (pv 3) (pa_cons (pe_tup (pa_cons pe_str (pa_cons (pv 4) pa_nil))) (pa_cons (pv 8) pa_nil)))))
  (C8.pss_cut (ps_if (pt_cmpR op_eq (pe_callB call_len (by rfl) T.b_len PySem.boot_len (pa_cons (pv 9) pa_nil)) pe_int (nomark _))
   (pss_cons (ps_set (i := 12) sc_law.nd rfl (Or.inl rfl) pe_str)
  (C8.pss_cut (ps_if (pt_cmpR op_eq (pe_ix ix_tup (pe_ix ix_list (pv 3) (pv 4) (fun _ _ => rfl)) pe_int (fun _ _ => rfl)) pe_str (nomark _))
   (pss_one (ps_set (i := 12) sc_law.nd rfl (Or.inl rfl) (pe_ix ix_tup (pe_ix ix_list (pv 3) (pe_ix ix_tup (pe_ix ix_list (pv 3) (pv 4) (fun _ _ => rfl)) pe_int (fun _ _ => rfl)) (fun _ _ => rfl)) pe_int (fun _ _ => rfl))))
   pss_nil)
  (pss_one (ps_set (i := 9) sc_law.nd rfl (Or.inl rfl) (pe_lst (pa_cons (pe_tup (pa_cons pe_str (pa_cons pe_int (pa_cons (pe_op op_add_str (pe_op op_add_str (pv 12) pe_str) (pv 8)) pa_nil)))) pa_nil))))))
   pss_nil)
  (pss_cons (ps_if (pt_not (pt_val (pe_use U_law_same (hr.mono (by decide)) hg rfl (pa_cons (pv 11) (pa_cons (pe_ix ix_list (pv 9) pe_int (fun _ _ => rfl)) pa_nil)))))
   (pss_one (ps_ret pe_bl))
   pss_nil)
  (C8.pss_cut (ps_if (PW.pt (pw_and (pt_cmpR op_eq (pe_callB call_len (by rfl) T.b_len PySem.boot_len (pa_cons (pv 9) pa_nil)) pe_int (nomark _)) (pw_and1 (pt_not (pt_val (pe_use U_law_same (hr.mono (by decide)) hg rfl (pa_cons (pe_bm0 PySem.F.plainAttrs_list PySem.F.slot_list_pop PySem.F.type_list_pop mt_pop (pv 3)) (pa_cons (pe_ix ix_list (pv 9) pe_int (fun _ _ => rfl)) pa_nil))))))))
   (pss_one (ps_ret pe_bl))
   pss_nil)
  (pss_one (ps_if (pt_cmpR op_ne (pe_callB (call_repr_data hg hr.units) (by rfl) T.b_repr (by decide +kernel) (pa_cons (pv 3) pa_nil)) (pv 10) (nomark _))
   (pss_one (ps_ret pe_bl))
   pss_nil)))))))))))
  (pss_cons (ps_set (i := 13) sc_law.nd rfl (Or.inl rfl) (pe_lst (pa_cons (pe_tup (pa_cons pe_str (pa_cons (pe_tup (pa_cons pe_str (pa_cons pe_str pa_nil))) (pa_cons pe_str pa_nil)))) (pa_cons (pe_tup (pa_cons pe_str (pa_cons (pe_tup pa_nil) (pa_cons pe_str pa_nil)))) (pa_cons (pe_tup (pa_cons pe_str (pa_cons (pe_tup pa_nil) (pa_cons pe_str pa_nil)))) (pa_cons (pe_tup (pa_cons pe_str (pa_cons (pe_tup pa_nil) (pa_cons pe_str pa_nil)))) (pa_cons (pe_tup (pa_cons pe_str (pa_cons (pe_tup pa_nil) (pa_cons pe_str pa_nil)))) pa_nil)))))))
  (pss_cons (ps_for PassesOwn.never rfl (pi_list (pv 13)) (pg_name (i := 14) sc_law.nd rfl (Or.inl rfl))
   (pss_cons (ps_set (i := 15) sc_law.nd rfl (Or.inl rfl) (pe_ix ix_tup (pv 14) pe_int (fun _ _ => rfl)))
  (C8.pss_cut (ps_if (pt_cmpR (op_eqD hr.units) (pv 15) (pe_tup pa_nil) (nomark _))
   (pss_cons (ps_set (i := 16) sc_law.nd rfl (Or.inl rfl) (pe_tup (pa_cons (pe_ix ix_tup (pv 14) pe_int (fun _ _ => rfl)) (pa_cons (pe_tup pa_nil) pa_nil))))
  (C8.pss_cut (ps_if (pt_cmpR op_eq (pe_ix ix_tup (pv 14) pe_int (fun _ _ => rfl)) pe_str (nomark _))
   (pss_one (ps_set (i := 16) sc_law.nd rfl (Or.inl rfl) (pe_tup (pa_cons pe_str (pa_cons pe_str (pa_cons pe_str (pa_cons (pe_tup pa_nil) pa_nil)))))))
   pss_nil)
  (pss_cons (ps_expr (pe_bm PySem.F.plainAttrs_list PySem.F.slot_list_append PySem.F.type_list_append mt_append (pv 3) (pa_cons (pv 16) pa_nil)))
  (pss_one (ps_set (i := 15) sc_law.nd rfl (Or.inl rfl) (pe_tup (pa_cons pe_str (pa_cons (pe_op op_sub (pe_callB call_len (by rfl) T.b_len PySem.boot_len (pa_cons (pv 3) pa_nil)) pe_int) pa_nil))))))))
   pss_nil)
  (pss_one (ps_for PassesOwn.never rfl (pi_list (pe_lst (pa_cons (pe_ix ix_tup (pv 14) pe_int (fun _ _ => rfl)) (pa_cons pe_str (pa_cons pe_str (pa_cons pe_str (pa_cons pe_str (pa_cons (pe_ix ix_list (pv 2) pe_int (fun _ _ => rfl)) pa_nil)))))))) (pg_name (i := 8) sc_law.nd rfl (Or.inl rfl))
   (pss_cons (ps_set (i := 17) sc_law.nd rfl (Or.inl rfl) (pe_disp (pps_cons pe_str (pe_slice sl_list (pe_lst (pa_cons pe_str (pa_cons pe_str (pa_cons pe_str pa_nil)))) po_none (po_some pe_int)) (pps_cons pe_str (pe_lst (pa_cons pe_str (pa_cons pe_str (pa_cons pe_str pa_nil)))) (pps_cons pe_str (pe_lst (pa_cons pe_str (pa_cons pe_str pa_nil))) (pps_cons pe_str (pe_lst (pa_cons pe_str (pa_cons pe_str pa_nil))) (pps_cons pe_str (pe_lst (pa_cons pe_str (pa_cons pe_str pa_nil))) pps_nil))))) rfl rfl (by intro z; cases z) (by decide)))
  (pss_one (ps_if (pt_not (pt_val (pe_use U_law_builtin (hr.mono (by decide)) hg rfl (pa_cons (pv 3) (pa_cons (pv 15) (pa_cons (pe_ix ix_tup (pv 14) pe_int (fun _ _ => rfl)) (pa_cons (pv 8) (pa_cons (pe_cmpR op_in_seq (pv 8) (pe_dget hu (pv 17) (pe_ix ix_tup (pv 14) pe_int (fun _ _ => rfl)) (fun _ _ => rfl)) (by rfl)) pa_nil))))))))
   (pss_one (ps_ret pe_bl))
   pss_nil))))))))
  (pss_cons (ps_expr (pe_bm PySem.F.plainAttrs_list PySem.F.slot_list_append PySem.F.type_list_append mt_append (pv 3) (pa_cons (pe_tup (pa_cons pe_str (pa_cons (pe_tup (pa_cons pe_str (pa_cons pe_str pa_nil))) (pa_cons pe_int (pa_cons (pe_un un_neg pe_int) pa_nil))))) pa_nil)))
  (pss_one (ps_ret (pe_and (pe_use U_law_builtin (hr.mono (by decide)) hg rfl (pa_cons (pv 3) (pa_cons (pe_tup (pa_cons pe_str (pa_cons (pe_op op_sub (pe_callB call_len (by rfl) T.b_len PySem.boot_len (pa_cons (pv 3) pa_nil)) pe_int) pa_nil))) (pa_cons pe_str (pa_cons pe_str (pa_cons pe_bl pa_nil)))))) (pe_one (pe_use U_law_same (hr.mono (by decide)) hg rfl (pa_cons (pe_use U_attribute (hr.mono (by decide)) hg rfl (pa_cons (pv 3) (pa_cons (pe_tup (pa_cons pe_str (pa_cons pe_int pa_nil))) (pa_cons (pe_ix ix_list (pv 2) pe_int (fun _ _ => rfl)) pa_nil)))) (pa_cons (pe_tup (pa_cons pe_str (pa_cons pe_int (pa_cons (pe_op op_add_str pe_str (pe_ix ix_list (pv 2) pe_int (fun _ _ => rfl))) pa_nil)))) pa_nil))))))))))))))))))), ?_⟩
    refine ⟨_, rfl, a, ns, 0, 63, rfl, hs, by decide, by decide, fun dl H1 nd D => ?_⟩
    obtain ⟨ds, hd, hl, hds, S1⟩ := D
    refine ⟨sz_2, fun p hp0 => ?_⟩
    have B0 : BoxAt (upd H1 p (.lst [.ref dl, .int 0])) p dl := ⟨ds, 0, upd_same, by decide, by rw [upd_ne (ne_of_none hd hp0)]; exact hd, hl, hds⟩
    generalize upd H1 p (.lst [.ref dl, .int 0]) = H2 at B0
    refine ⟨_, rfl, p, dl, rfl, B0, fun np nms H3 hnp B3 K3 en hnl hno => ?_⟩
    have hnpp : np ≠ p := fun e => by subst e; obtain ⟨xs, g⟩ := B0.at_; rw [g] at hnp; cases hnp
    refine ⟨sz_0, fun hp hhp => ?_⟩
    have ne1 : ∀ {H : Hp} {a b : Addr} {o : HO}, H a = some o → H b = none → b ≠ a := fun h1 h2 e => by subst e; rw [h1] at h2; cases h2
    have Dd : Dw p dl np hp := by
      obtain ⟨bx, hbx⟩ := B3.at_
      obtain ⟨bd, hbd⟩ := B3.dg
      exact ⟨hnpp, ne1 hbx hhp, ne1 hbd hhp, ne1 en hhp⟩
    have X4 : Wb K (upd H3 hp (.lst [])) p dl np nms hp [] := ⟨B3.same (Same.new hhp), Same.new hhp _ _ en, ⟨[], upd_same, .nil⟩⟩
    generalize upd H3 hp (.lst []) = H4 at X4
    clear B3 K3 en hnp B0 hp0 hhp
    -- functions
    refine ⟨_, rfl, by decide, by decide, ?_⟩
    refine for_range (lo := 0) (n := 3) (fun i σ H5 => ∃ (obs : List Ob) (x4 : Option V), σ = [some (.ref a), some (.ref p), some (.ref np), some (.ref hp), x4, none, none, none, none, none, none, none, none, none, none, none, none, none] ∧ Wb K H5 p dl np nms hp obs ∧ CK obs ∧ obs.length = i) ⟨[], none, rfl, X4, ⟨by simp, by simp, by simp, by simp⟩, rfl⟩ ?_ ?_
    · rintro i σ H5 hi ⟨obs, x4, rfl, X5, hck, hol⟩
      obtain ⟨zs, ez, lz, _⟩ := X5.len
      rw [Int.zero_add]
      have hsx := sx_num (z := "f") ⟨by decide +kernel, by decide +kernel⟩ (show i < 10 by omega)
      have hsl := hsx.len
      rw [strlen_cat] at hsl
      refine ⟨_, rfl, .inl ⟨rfl, _, SqL.of ez⟩, _, rfl, _, rfl, lg (by omega), _, _, rfl, rfl, Nat.le_trans hsl (by decide), ?_⟩
      refine ⟨sz_0, fun u1 h1 => ⟨sz_0, fun u2 h2 => ⟨sz_0, fun u3 h3 => ⟨sz_0, fun u4 h4 => ⟨sz_0, fun u5 h5 => ⟨sz_3, fun u6 h6 => ⟨_, rfl, (show 7 ≤ sizeLine by decide), fun u7 h7 => ?_⟩⟩⟩⟩⟩⟩⟩
      have s1 := Same.new (o := .tup []) h1
      have s2 := Same.new (o := .tup []) h2
      have s3 := Same.new (o := .tup []) h3
      have s4 := Same.new (o := .tup []) h4
      have s5 := Same.new (o := .tup []) h5
      have s6 := Same.new (o := .tup [.ref u4, .ref u5, .bl false]) h6
      have d1 := Dt.made (K := K) h1 .nil
      have d2 := Dt.made (K := K) h2 .nil
      have d3 := Dt.made (K := K) h3 .nil
      have d4 := Dt.made (K := K) h4 .nil
      have d5 := Dt.made (K := K) h5 .nil
      have d6 := Dt.made h6 (.cons (d4.mono s5) (.cons d5 (.cons (.bl false) .nil)))
      have s7 := Same.new (o := .tup [.str "func", .str ("f" ++ Str.ofString (toString ((i : Nat) : Int))), .ref u1, .ref u2, .ref u3, .ref u6, .int (-1)]) h7
      have d7 := Dt.made h7 (.cons (.str "func") (.cons (.str ("f" ++ Str.ofString (toString ((i : Nat) : Int)))) (.cons (d1.mono ((((s2.trans s3).trans s4).trans s5).trans s6)) (.cons (d2.mono (((s3.trans s4).trans s5).trans s6)) (.cons (d3.mono ((s4.trans s5).trans s6)) (.cons d6 (.cons (.int (-1)) .nil)))))))
      have sA := (((((s1.trans s2).trans s3).trans s4).trans s5).trans s6).trans s7
      refine ⟨hp, _, _, rfl, rfl, sA _ _ ez, Nat.lt_of_le_of_lt (show zs.length ≤ 10 by omega) (by decide), ?_⟩
      refine ⟨_, _, rfl, (X5.same sA).addO Dd (sA _ _ ez) (o := fnOb ("f" ++ Str.ofString (toString ((i : Nat) : Int)))) d7, hck.add (sm_fn hsx) (fun _ => ⟨_, rfl⟩) (fun _ _ _ e => by cases e) (fun _ _ e => by cases e), by simp [hol]⟩
    · rintro σ H5 ⟨obs, x4, rfl, X5, hck, hol⟩
      have P5 : Ph obs 0 0 := ⟨hck, hol, by simp, by simp⟩
      clear hck hol X4
      refine ⟨_, rfl, p, dl, 6, rfl, X5.box, by decide, fun c H6 c0 c1 B6 K6 => ?_⟩
      have X6 := X5.draw Dd B6 K6
      obtain ⟨nc, hnc⟩ : ∃ nc : Nat, 1 + c = (nc : Int) := ⟨(1 + c).toNat, by omega⟩
      refine ⟨_, _, rfl, rfl, ?_⟩
      dsimp only
      rw [hnc]
      refine ⟨_, rfl, _, rfl, by omega, by omega, ?_⟩
      rw [show ((nc : Nat) : Int).toNat = nc from Int.toNat_natCast _]
      refine for_range (lo := 0) (n := nc) (fun i σ H5 => ∃ (obs : List Ob) (x4 x6 : Option V), σ = [some (.ref a), some (.ref p), some (.ref np), some (.ref hp), x4, some (.int nc), x6, none, none, none, none, none, none, none, none, none, none, none] ∧ Wb K H5 p dl np nms hp obs ∧ Ph obs i 0) ⟨obs, _, none, rfl, X6, P5⟩ ?_ ?_
      · rintro i σ H7 hi ⟨obs, x4, x6, rfl, X7, P7⟩
        refine ⟨_, rfl, _, rfl, _, _, rfl, rfl, p, dl, (0 + (i : Int)) + 1, rfl, X7.box, by omega, fun q H8 q0 q1 B8 K8 => ?_⟩
        refine ⟨_, _, rfl, rfl, ?_⟩
        have X8 := X7.draw Dd B8 K8
        have hol := P7.len
        refine ⟨fun σ H9 => ∃ b : Int, σ = [some (.ref a), some (.ref p), some (.ref np), some (.ref hp), some (.int (0 + (i : Int))), some (.int nc), some (.int b), none, none, none, none, none, none, none, none, none, none, none] ∧ H9 = H8 ∧ (b = -1 ∨ ∃ t : Nat, t < i ∧ b = ((3 + t : Nat) : Int)), ?_, ?_⟩
        · refine ⟨_, rfl, _, _, rfl, rfl, _, rfl, ?_⟩
          refine ite3 (fun c => ?_) fun c => ?_
          · have c := of_decide_eq_true c
            refine ⟨_, rfl, _, _, rfl, rfl, _, rfl, rfl, .inr ⟨(q - 1).toNat, by omega, by omega⟩⟩
          · have c := of_decide_eq_false c
            exact ⟨_, rfl, rfl, .inl (by omega)⟩
        rintro _ H9 ⟨b, rfl, rfl, hb⟩
        obtain ⟨zs, ez, lz, _⟩ := X8.len
        rw [Int.zero_add]
        have hsx := sx_num (z := "K") ⟨by decide +kernel, by decide +kernel⟩ (show i < 10 by omega)
        have hsl := hsx.len
        rw [strlen_cat] at hsl
        refine ⟨_, rfl, .inl ⟨rfl, _, SqL.of ez⟩, _, rfl, _, rfl, lg (by omega), _, _, rfl, rfl, Nat.le_trans hsl (by decide), _, rfl, _, rfl, _, rfl, sz_3, fun fp hfp => ?_⟩
        have s1 := Same.new (o := .lst fns) hfp
        have X9 := X8.same s1
        have efp := upd_same (H := H9) (a := fp) (o := HO.lst fns)
        have hfpp : fp ≠ p := fun e => by subst e; obtain ⟨xs, g⟩ := X8.box.at_; rw [g] at hfp; cases hfp
        refine ⟨p, dl, np, fp, nms, rfl, X9.box, X9.nm, hnl, hno, Dd.n1, efp, hfpp, fun v ms H10 hms dv B10 K10 => ⟨(show 4 ≤ sizeLine by decide), fun u hu => ?_⟩⟩
        have X10 := X9.draw Dd B10 K10
        have s2 := Same.new (o := .tup [.str "class", .str ("K" ++ Str.ofString (toString ((i : Nat) : Int))), .int b, v]) hu
        have ez2 := s2 _ _ (K10 _ _ (s1 _ _ ez) Dd.h1)
        have hbn : b.natAbs < 2 ^ 20 := by rcases hb with rfl | ⟨t, ht, rfl⟩ <;> omega
        have d2 := Dt.made hu (.cons (.str "class") (.cons (.str ("K" ++ Str.ofString (toString ((i : Nat) : Int)))) (.cons (.int b) (.cons dv .nil))))
        refine ⟨hp, _, _, rfl, rfl, ez2, Nat.lt_of_le_of_lt (show zs.length ≤ 20 by omega) (by decide), ?_⟩
        refine ⟨_, _, _, rfl, (X10.same s2).addO Dd ez2 (o := .cls ("K" ++ Str.ofString (toString ((i : Nat) : Int))) b ms) d2, P7.ck.add (sm_cls hsx hbn hms) (fun h => by omega) (fun n' b' ms' e => ?_) (fun _ _ e => by cases e), by simp [hol]; omega, fun t ht => ?_, by simp⟩
        · cases e
          refine ⟨hms, hsx, by omega, by omega, by rcases hb with rfl | ⟨t, ht, rfl⟩ <;> omega, ?_⟩
          rcases hb with rfl | ⟨t, ht, rfl⟩
          · exact .inl rfl
          · obtain ⟨n, b, ms, h⟩ := P7.cls t ht
            exact .inr ⟨3 + t, n, b, ms, rfl, h⟩
        · by_cases hlt : t < i
          · obtain ⟨n, b, ms, h⟩ := P7.cls t hlt
            exact ⟨n, b, ms, at_old h⟩
          · have e : 3 + t = obs.length := by omega
            exact ⟨_, _, _, by rw [e, List.getElem?_append_right (Nat.le_refl _), Nat.sub_self]; rfl⟩
      · clear P5 X6 X5 K6 B6
        rintro σ H5 ⟨obs, x4, x6, rfl, X5, P5⟩
        refine ⟨_, rfl, p, dl, 5, rfl, X5.box, by decide, fun c H6 c0 c1 B6 K6 => ?_⟩
        have X6 := X5.draw Dd B6 K6
        obtain ⟨ni, hni⟩ : ∃ ni : Nat, 1 + c = (ni : Int) := ⟨(1 + c).toNat, by omega⟩
        refine ⟨_, _, rfl, rfl, ?_⟩
        dsimp only
        rw [hni]
        refine ⟨_, rfl, _, rfl, by omega, by omega, ?_⟩
        rw [show ((ni : Nat) : Int).toNat = ni from Int.toNat_natCast _]
        refine for_range (lo := 0) (n := ni) (fun i σ H5 => ∃ (obs : List Ob) (x4 : Option V), σ = [some (.ref a), some (.ref p), some (.ref np), some (.ref hp), x4, some (.int nc), x6, some (.int ni), none, none, none, none, none, none, none, none, none, none] ∧ Wb K H5 p dl np nms hp obs ∧ Ph obs nc i) ⟨obs, _, rfl, X6, P5⟩ ?_ ?_
        · rintro i σ H7 hi ⟨obs, x4, rfl, X7, P7⟩
          obtain ⟨zs, ez, lz, _⟩ := X7.len
          have hol := P7.len
          refine ⟨_, rfl, .inl ⟨rfl, _, SqL.of ez⟩, _, rfl, _, rfl, p, dl, nc, rfl, X7.box, by omega, fun q H8 q0 q1 B8 K8 => ⟨_, _, rfl, rfl, _, rfl, _, rfl, sz_3, fun fp hfp => ?_⟩⟩
          obtain ⟨q, rfl⟩ := Int.eq_ofNat_of_zero_le q0
          have X8 := X7.draw Dd B8 K8
          have s1 := Same.new (o := .lst fns) hfp
          have X9 := X8.same s1
          have efp := upd_same (H := H8) (a := fp) (o := HO.lst fns)
          have hfpp : fp ≠ p := fun e => by subst e; obtain ⟨xs, g⟩ := X8.box.at_; rw [g] at hfp; cases hfp
          refine ⟨p, dl, np, fp, nms, rfl, X9.box, X9.nm, hnl, hno, Dd.n1, efp, hfpp, fun v ms H10 hms dv B10 K10 => ⟨sz_3, fun u hu => ?_⟩⟩
          have X10 := X9.draw Dd B10 K10
          have s2 := Same.new (o := .tup [.str "inst", .int (3 + (q : Int)), v]) hu
          have ez2 := s2 _ _ (K10 _ _ (s1 _ _ (K8 _ _ ez Dd.h1)) Dd.h1)
          have d2 := Dt.made hu (.cons (.str "inst") (.cons (.int (3 + (q : Int))) (.cons dv .nil)))
          refine ⟨hp, _, _, rfl, rfl, ez2, Nat.lt_of_le_of_lt (show zs.length ≤ 20 by omega) (by decide), ?_⟩
          refine ⟨_, _, rfl, (X10.same s2).addO Dd ez2 (o := .inst (3 + (q : Int)) ms) d2, P7.ck.add (sm_inst (by omega) hms) (fun h => by omega) (fun _ _ _ e => by cases e) (fun c' ms' e => ?_), by simp [hol]; omega, fun t ht => ?_, fun t ht => ?_⟩
          · cases e
            obtain ⟨n, b, ms', h⟩ := P7.cls q (by omega)
            exact ⟨hms, 3 + q, n, b, ms', by omega, h⟩
          · obtain ⟨n, b, ms, h⟩ := P7.cls t ht
            exact ⟨n, b, ms, at_old h⟩
          · by_cases hlt : t < i
            · obtain ⟨c, ms, h⟩ := P7.ins t hlt
              exact ⟨c, ms, at_old h⟩
            · have e : 3 + nc + t = obs.length := by omega
              exact ⟨_, _, by rw [e, List.getElem?_append_right (Nat.le_refl _), Nat.sub_self]; rfl⟩
        · clear P5 X6 X5 K6 B6
          rintro σ H5 ⟨obs, x4, rfl, X5, P5⟩
          have hol := P5.len
          have hM := P5.ck.mok
          have hShow : ShowOk (.list (obs.map obD)) := by
            have h1 : ∀ d ∈ obs.map obD, Sm d 4 60000 := fun d hd => by
              obtain ⟨o, ho, rfl⟩ := List.mem_map.mp hd
              exact P5.ck.sm o ho
            refine (Sm.lst (SmAll.many h1)).show (by decide) ?_
            rw [List.length_map]
            exact Nat.le_trans (show _ ≤ 60000 * 14 + 2 * 14 + 3 by omega) (by decide)
          refine ⟨_, rfl, _, _, rfl, rfl, _, rfl, _, _, rfl, rfl, _, _, rfl, ⟨by omega, by omega, by omega, by omega⟩, ?_⟩
          rw [show ((3 + (nc : Int) + (ni : Int)) - 3).toNat = nc + ni from by omega]
          refine for_range (lo := 3) (n := nc + ni) (fun i σ H6 => ∃ (x4 x8 x9 x10 x11 x12 : Option V), σ = [some (.ref a), some (.ref p), some (.ref np), some (.ref hp), x4, some (.int nc), x6, some (.int ni), x8, x9, x10, x11, x12, none, none, none, none, none] ∧ Wb K H6 p dl np nms hp obs) ⟨_, _, _, _, _, _, rfl, X5⟩ ?_ ?_
          · rintro i σ H6 hi ⟨x4, x8, x9, x10, x11, x12, rfl, X6⟩
            rw [show (3 : Int) + (i : Int) = ((3 + i : Nat) : Int) by omega]
            obtain ⟨o, ho, htag, hoz⟩ : ∃ o, obs[3 + i]? = some o ∧ (tagOf o = "inst" ∨ tagOf o = "class") ∧ ∀ z r, o = .other z r → False := by
              by_cases hlt : i < nc
              · obtain ⟨n, b, ms, h⟩ := P5.cls i hlt
                exact ⟨_, h, .inr rfl, fun _ _ e => by cases e⟩
              · obtain ⟨c, ms, h⟩ := P5.ins (i - nc) (by omega)
                rw [show 3 + nc + (i - nc) = 3 + i by omega] at h
                exact ⟨_, h, .inl rfl, fun _ _ e => by cases e⟩
            refine ⟨_, rfl, np, rfl, ⟨_, SqL.of X6.nm⟩, ?_⟩
            refine for_list (xs := nms.map V.str) (fun t σ H7 => ∃ (x8 x9 x10 x11 x12 : Option V), σ = [some (.ref a), some (.ref p), some (.ref np), some (.ref hp), some (.int ((3 + i : Nat) : Int)), some (.int nc), x6, some (.int ni), x8, x9, x10, x11, x12, none, none, none, none, none] ∧ Wb K H7 p dl np nms hp obs) ⟨_, _, _, _, _, rfl, X6⟩ ?_ ?_ ?_
            · rintro t σ H7 ht ⟨x8, x9, x10, x11, x12, rfl, X7⟩
              exact SqL.of X7.nm
            · rintro t y σ H7 hy ⟨x8, x9, x10, x11, x12, rfl, X7⟩
              rw [List.getElem?_map] at hy
              obtain ⟨x, hx, rfl⟩ := Option.map_eq_some_iff.mp hy
              have hxo := hno x (List.mem_of_getElem? hx)
              obtain ⟨r, hLR, hAt, hWd⟩ := P5.ck.lr (x := x) (by omega) ho htag hoz
              refine ⟨_, rfl, _, rfl, sz_2, fun v1 h1 => ⟨_, rfl, sz_3, fun fp hfp => ?_⟩⟩
              have s1 := Same.new (o := .tup [.str "ref", .int ((3 + i : Nat) : Int)]) h1
              have s2 := Same.new (o := .lst fns) hfp
              have d1 : Dt K _ (.ref v1) (refD (3 + i)) := Dt.made h1 (.cons (.str "ref") (.cons (.int ((3 + i : Nat) : Int)) .nil))
              refine ⟨hp, fp, obs, _, 3 + i, x, r, rfl, (X7.same (s1.trans s2)).ob, d1.mono s2, upd_same, hLR, fun da H8 S8 L8 => ?_⟩
              have X8 := X7.same ((s1.trans s2).trans S8)
              clear s1 s2 d1 h1 hfp S8
              have hdh : da ≠ hp := fun e => by
                subst e
                obtain ⟨xs, e1, a1⟩ := L8
                obtain ⟨ys, e2, a2⟩ := X8.ob
                rw [e1] at e2
                obtain rfl := HO.lst.inj (Option.some.inj e2)
                have l1 := a1.length
                have l2 := a2.length
                rw [List.length_map] at l2
                have : (dueD obs.length (3 + i) r).length ≤ 2 := by cases r <;> simp [dueD]
                omega
              refine ⟨_, rfl, _, _, rfl, listDp X8.ob, hShow, ?_⟩
              refine ⟨_, rfl, _, rfl, sz_2, fun v2 h2 => ?_⟩
              have s1 := Same.new (o := .tup [.str "ref", .int ((3 + i : Nat) : Int)]) h2
              have d2 : Dt K _ (.ref v2) (refD (3 + i)) := Dt.made h2 (.cons (.str "ref") (.cons (.int ((3 + i : Nat) : Int)) .nil))
              have X9 := X8.same s1
              have L9 := listAt_mono L8 s1
              have hxl := hxo.sx.len
              refine ⟨_, rfl, hp, obs, _, refD (3 + i), x, r, rfl, X9.ob, d2, hM, by omega, by omega, hAt, fun v' H10 L10 K10 d10 => ?_⟩
              have X10 := X9.put Dd L10 K10
              have L10d := listAt_keep L9 K10 hdh (let ⟨_, e, _⟩ := X9.ob; ⟨_, e⟩)
              clear X8 L8 X9 L9 s1 d2 h2 L10 K10 X7
              have hSa := show_ar hLR (by omega) hxo.sx (fun t e => (hWd t e).2)
              refine ⟨fun σ H11 => ∃ (da : Addr) (x12 : Option V), σ = [some (.ref a), some (.ref p), some (.ref np), some (.ref hp), some (.int ((3 + i : Nat) : Int)), some (.int nc), x6, some (.int ni), some (.str x), some (.ref da), some (.str (PyData.list (obs.map obD)).shown), some v', x12, none, none, none, none, none] ∧ da ≠ hp ∧
                Wb K H11 p dl np nms hp (obs ++ arO (refD (3 + i)) r) ∧ ListAt K H11 da (dueE obs.length (3 + i) x r) ∧ Dt K H11 v' (arD obs.length x r), ?_, ?_⟩
              · obtain ⟨zd, ed, ad⟩ := id L10d
                have ld := ad.length
                refine ⟨_, rfl, _, _, rfl, .inl ⟨_, SqL.of ed, rfl⟩, rfl, _, rfl, ?_⟩
                cases r with
                | found d => exact iteFb (decide_eq_false (fun e => by have := V.int.inj e; rw [ld] at this; exact absurd this (by show ¬ ((1 : Nat) : Int) = 0; decide))) ⟨da, _, rfl, hdh, X10, L10d, d10⟩
                | made fn => exact iteFb (decide_eq_false (fun e => by have := V.int.inj e; rw [ld] at this; exact absurd this (by show ¬ ((2 : Nat) : Int) = 0; decide))) ⟨da, _, rfl, hdh, X10, L10d, d10⟩
                | no t =>
                  obtain ⟨hw, ht⟩ := hWd t rfl
                  refine iteTb (decide_eq_true (congrArg V.int (by rw [ld]; rfl))) ?_
                  have Xo : ListAt K H10 hp (obs.map obD) := by
                    have := X10.ob
                    rwa [show obs ++ arO (refD (3 + i)) (.no t) = obs from List.append_nil _] at this
                  refine ⟨fun σ H11 => σ = [some (.ref a), some (.ref p), some (.ref np), some (.ref hp), some (.int ((3 + i : Nat) : Int)), some (.int nc), x6, some (.int ni), some (.str x), some (.ref da), some (.str (PyData.list (obs.map obD)).shown), some v', some (.str t), none, none, none, none, none] ∧ H11 = H10, ?_, ?_⟩
                  · cases hw with
                    | @cls n b ms h =>
                      obtain ⟨zs, y, ez, hy, dy⟩ := ob_at Xo h
                      obtain ⟨q, u, rfl, hq, du⟩ := cls_inv dy
                      refine ⟨_, rfl, _, rfl, hp, _, _, _, rfl, rfl, SqL.of ez, atI_nat hy, q, _, _, _, rfl, rfl, hq, at0, rfl, _, rfl, iteFb (dec_str (by decide +kernel)) ⟨rfl, rfl⟩⟩
                    | @inst j2 ms ms' n b h h' =>
                      obtain ⟨zs, y, ez, hy, dy⟩ := ob_at Xo h
                      obtain ⟨q, u, rfl, hq, du⟩ := inst_inv dy
                      obtain ⟨zs', y', ez', hy', dy'⟩ := ob_at Xo h'
                      obtain ⟨q', u', rfl, hq', du'⟩ := cls_inv dy'
                      refine ⟨_, rfl, _, rfl, hp, _, _, _, rfl, rfl, SqL.of ez, atI_nat hy, q, _, _, _, rfl, rfl, hq, at0, rfl, _, rfl, iteTb (dec_str1 _) ?_⟩
                      exact ⟨_, rfl, _, rfl, _, rfl, hp, _, _, _, rfl, rfl, SqL.of ez, atI_nat hy, q, _, _, _, rfl, rfl, hq, at1, hp, _, _, _, rfl, rfl, SqL.of ez', atI_nat hy', q', _, _, _, rfl, rfl, hq', at1, rfl, rfl⟩
                  · rintro _ H11 ⟨rfl, rfl⟩
                    have htl := ht.len
                    have h18 : (" has no attribute " : Str).length = 18 := by decide +kernel
                    refine ⟨_, rfl, _, _, rfl, rfl, Nat.le_trans (show _ ≤ 100 by omega) (by decide), _, rfl, _, _, rfl, rfl, Nat.le_trans (show _ ≤ 200 by rw [strlen_cat]; omega) (by decide), sz_3, fun u hu => ⟨sz_1, fun da2 hda2 => ?_⟩⟩
                    have s3 := Same.new (o := .tup [.str "raise", .int 9, .str (t ++ " has no attribute " ++ x)]) hu
                    have s4 := Same.new (o := .lst [.ref u]) hda2
                    have du := Dt.made (K := K) hu (.cons (.str "raise") (.cons (.int 9) (.cons (.str (t ++ " has no attribute " ++ x)) .nil)))
                    exact ⟨da2, _, rfl, (fun e => by subst e; obtain ⟨xs, e, _⟩ := Xo; rw [s3 _ _ e] at hda2; cases hda2), X10.same (s3.trans s4), listAt_made hda2 (.cons du .nil), d10.mono (s3.trans s4)⟩
              clear hdh X10 L10d d10
              rintro _ H11 ⟨da, x12', rfl, hdh, X11, L11, d11⟩
              obtain ⟨l, hl⟩ := dueE_hd obs.length (3 + i) x r
              obtain ⟨zd, ed, ad⟩ := id L11
              have ad' := ad
              rw [hl] at ad'
              obtain ⟨y0, yr, rfl, dy0, _⟩ := ad'.cons_inv
              have ld := ad.length
              refine ⟨_, rfl, _, rfl, da, _, _, _, rfl, rfl, SqL.of ed, at0, _, _, _, rfl, d11.dp, dy0.dp, hSa, ⟨true, rfl, iteFb rfl ?_⟩⟩
              refine ⟨fun σ H12 => σ = [some (.ref a), some (.ref p), some (.ref np), some (.ref hp), some (.int ((3 + i : Nat) : Int)), some (.int nc), x6, some (.int ni), some (.str x), some (.ref da), some (.str (PyData.list (obs.map obD)).shown), some v', x12', none, none, none, none, none] ∧ Wb K H12 p dl np nms hp obs, ?_, ?_⟩
              · refine ⟨_, rfl, _, _, rfl, .inl ⟨_, SqL.of ed, rfl⟩, rfl, _, rfl, ?_⟩
                rw [ld]
                have nope : (dueE obs.length (3 + i) x r).length = 1 → obs ++ arO (refD (3 + i)) r = obs → ∀ {A : Prop}, (if decide (V.int (((dueE obs.length (3 + i) x r).length : Nat) : Int) = V.int 2) = true then A else (fun σ H12 => σ = [some (.ref a), some (.ref p), some (.ref np), some (.ref hp), some (.int ((3 + i : Nat) : Int)), some (.int nc), x6, some (.int ni), some (.str x), some (.ref da), some (.str (PyData.list (obs.map obD)).shown), some v', x12', none, none, none, none, none] ∧ Wb K H12 p dl np nms hp obs) [some (.ref a), some (.ref p), some (.ref np), some (.ref hp), some (.int ((3 + i : Nat) : Int)), some (.int nc), x6, some (.int ni), some (.str x), some (.ref da), some (.str (PyData.list (obs.map obD)).shown), some v', x12', none, none, none, none, none] H11) := fun e1 e2 A => by
                  have X11' := X11
                  rw [e2] at X11'
                  rw [e1]
                  exact iteFb (decide_eq_false fun e => absurd (V.int.inj e) (by decide)) ⟨rfl, X11'⟩
                cases r with
                | found d => exact nope rfl (List.append_nil _)
                | no t => exact nope rfl (List.append_nil _)
                | made fn =>
                  refine iteTb (decide_eq_true rfl) ?_
                  obtain ⟨zs, ez, az⟩ := X11.ob
                  rw [show (obs ++ arO (refD (3 + i)) (.made fn)).map obD = obs.map obD ++ [.tuple [.str "bound", refD (3 + i), fn]] by rw [List.map_append]; rfl] at az
                  obtain ⟨ws, y, rfl, aw, dy⟩ := dtAll_snoc az
                  have ad2 : DtAll K H11 (y0 :: yr) [.tuple [.str "ok", refD obs.length], .tuple [.str "bound", refD (3 + i), fn]] := ad
                  obtain ⟨_, _, e1, _, ad3⟩ := ad2.cons_inv
                  cases e1
                  obtain ⟨y1, yr1, rfl, dy1, ad4⟩ := ad3.cons_inv
                  have L12 := listAt_upd (l' := hp) (o := .lst ws) ⟨_, ed, ad⟩ hdh ez
                  have kT : KeepT K H11 (upd H11 hp (.lst ws)) := KeepT.upd ez
                  have edl : (ws ++ [y]).dropLast = ws := List.dropLast_concat
                  refine ⟨_, rfl, .inl ⟨rfl, _, SqL.of ez⟩, hp, _, y, rfl, rfl, ez, by rw [List.length_append, List.length_singleton, Nat.add_sub_cancel, List.getElem?_append_right (Nat.le_refl _), Nat.sub_self]; rfl, ?_⟩
                  rw [edl]
                  have ed2 : upd H11 hp (.lst ws) da = some (.lst (y0 :: y1 :: yr1)) := by rw [upd_ne hdh]; exact ed
                  have hSb : ShowOk (.tuple [.str "bound", refD (3 + i), fn]) := show_ok (Sm.tup (.cons (Sm.short (by decide +kernel)) (.cons (sm_ref (by omega)) (.cons (hLR.v.resolve_left fun ⟨t, e⟩ => by cases e).sm .nil)))) (by decide) (by decide)
                  refine ⟨_, rfl, da, _, _, _, rfl, rfl, SqL.of ed2, at1, _, _, _, rfl, (dy.keepT kT).dp, (dy1.keepT kT).dp, hSb, ⟨true, rfl, iteFb rfl ?_⟩⟩
                  refine ⟨rfl, X11.box.upd Dd.h1 Dd.h2, by rw [upd_ne (Ne.symm Dd.h3)]; exact X11.nm, ⟨ws, upd_same, aw.keepT kT⟩⟩
              · rintro _ H12 ⟨rfl, X12⟩
                refine ⟨_, rfl, _, _, rfl, listDp X12.ob, hShow, _, rfl, rfl, _, rfl, iteFb (by rw [decide_eq_true rfl]; rfl) ?_⟩
                exact ⟨_, _, _, _, _, rfl, X12⟩
            · rintro σ H7 ⟨x8, x9, x10, x11, x12, rfl, X7⟩
              exact ⟨_, _, _, _, _, _, rfl, X7⟩
          · rintro σ H6 ⟨x4, x8, x9, x10, x11, x12, rfl, X6⟩
            -- the built-in kinds
            refine ⟨sz_2, fun u0 h0 => ⟨sz_3, fun q0 g0 => ⟨sz_0, fun u1 h1 => ⟨sz_3, fun q1 g1 => ⟨sz_0, fun u2 h2 => ⟨sz_3, fun q2 g2 => ⟨sz_0, fun u3 h3 => ⟨sz_3, fun q3 g3 => ⟨sz_0, fun u4 h4 => ⟨sz_3, fun q4 g4 => ⟨(show 5 ≤ sizeLine by decide), fun rp hrp => ?_⟩⟩⟩⟩⟩⟩⟩⟩⟩⟩⟩
            have s0 := Same.new (o := .tup [.str "text", .str "ab"]) h0
            have t0 := Same.new (o := .tup [.str "str", .ref u0, .str "find"]) g0
            have s1 := Same.new (o := .tup []) h1
            have t1 := Same.new (o := .tup [.str "list", .ref u1, .str "append"]) g1
            have s2 := Same.new (o := .tup []) h2
            have t2 := Same.new (o := .tup [.str "tuple", .ref u2, .str "index"]) g2
            have s3 := Same.new (o := .tup []) h3
            have t3 := Same.new (o := .tup [.str "dict", .ref u3, .str "setdefault"]) g3
            have s4 := Same.new (o := .tup []) h4
            have t4 := Same.new (o := .tup [.str "gen", .ref u4, .str "close"]) g4
            have tr := Same.new (o := .lst [.ref q0, .ref q1, .ref q2, .ref q3, .ref q4]) hrp
            have z4 := s4.trans t4
            have z3 := (s3.trans t3).trans z4
            have z2 := (s2.trans t2).trans z3
            have z1 := (s1.trans t1).trans z2
            have d0 := Dt.made g0 (.cons (.str "str") (.cons (Dt.made (K := K) h0 (.cons (.str "text") (.cons (.str "ab") .nil))) (.cons (.str "find") .nil)))
            have d1 := Dt.made g1 (.cons (.str "list") (.cons (Dt.made (K := K) h1 .nil) (.cons (.str "append") .nil)))
            have d2 := Dt.made g2 (.cons (.str "tuple") (.cons (Dt.made (K := K) h2 .nil) (.cons (.str "index") .nil)))
            have d3 := Dt.made g3 (.cons (.str "dict") (.cons (Dt.made (K := K) h3 .nil) (.cons (.str "setdefault") .nil)))
            have d4 := Dt.made g4 (.cons (.str "gen") (.cons (Dt.made (K := K) h4 .nil) (.cons (.str "close") .nil)))
            have LR0 := listAt_made hrp (.cons (d0.mono z1) (.cons (d1.mono z2) (.cons (d2.mono z3) (.cons (d3.mono z4) (.cons d4 .nil)))))
            have X7 := X6.same (((s0.trans t0).trans z1).trans tr)
            have hrh : rp ≠ hp := fun e => by
              subst e
              obtain ⟨xs, e, _⟩ := X6.ob
              rw [((s0.trans t0).trans z1) _ _ e] at hrp
              cases hrp
            have LR1 : ListAt K _ rp (rowsT.map rowD) := LR0
            clear LR0 d0 d1 d2 d3 d4 z1 z2 z3 z4 s0 s1 s2 s3 s4 t0 t1 t2 t3 t4 tr h0 h1 h2 h3 h4 g0 g1 g2 g3 g4 hrp
            generalize upd _ rp _ = H7 at LR1 X7
            obtain ⟨x0, nr, rfl⟩ : ∃ x0 nr, nms = x0 :: nr := by
              cases nms with
              | nil => simp at hnl
              | cons x0 nr => exact ⟨_, _, rfl⟩
            have hx0 := hno x0 (by simp)
            obtain ⟨rws, erp, arp⟩ := id LR1
            refine ⟨_, rfl, rp, rfl, ⟨_, SqL.of erp⟩, ?_⟩
            refine for_list (xs := rws) (fun t σ H8 => ∃ (obs : List Ob) (x8 x14 x15 x16 x17 : Option V), σ = [some (.ref a), some (.ref p), some (.ref np), some (.ref hp), x4, some (.int nc), x6, some (.int ni), x8, x9, x10, x11, x12, some (.ref rp), x14, x15, x16, x17] ∧ Wb K H8 p dl np (x0 :: nr) hp obs ∧ MOk obs ∧ obs.length ≤ 14 + 8 * t ∧ H8 rp = some (.lst rws) ∧ DtAll K H8 rws (rowsT.map rowD)) ⟨obs, _, _, _, _, _, rfl, X7, hM, by omega, erp, arp⟩ ?_ ?_ ?_
            · rintro t σ H8 ht ⟨obs, x8, x14, x15, x16, x17, rfl, X8, hM8, hl8, e8, a8⟩
              exact SqL.of e8
            · rintro t y σ H8 hy ⟨obs, x8, x14, x15, x16, x17, rfl, X8, hM8, hl8, e8, a8⟩
              have ht5 : t < 5 := by
                have := (List.getElem?_eq_some_iff.mp hy).1
                have := a8.length
                simp [rowsT] at this
                omega
              obtain ⟨d, hd, dy⟩ := a8.getV hy
              rw [List.getElem?_map] at hd
              obtain ⟨⟨kd, st, vd, md⟩, hrow, rfl⟩ := Option.map_eq_some_iff.mp hd
              have hin := List.mem_of_getElem? hrow
              obtain ⟨q, vv, mv, rfl, hq, dv, dm⟩ := dy.triple
              cases dm.str_inv
              have hvd : SeqAt.shaped vd = true ∧ ((vd = textAb ∧ kd = "str" ∧ st = "text") ∨ (vd = .tuple [] ∧ st = kd ∧ kd ∈ ([("list" : Str), "tuple", "dict", "gen", "iter"]))) := by
                simp only [rowsT, List.mem_cons, List.not_mem_nil, or_false, Prod.mk.injEq] at hin
                rcases hin with ⟨rfl, rfl, rfl, rfl⟩ | ⟨rfl, rfl, rfl, rfl⟩ | ⟨rfl, rfl, rfl, rfl⟩ | ⟨rfl, rfl, rfl, rfl⟩ | ⟨rfl, rfl, rfl, rfl⟩
                · exact ⟨by decide +kernel, .inl ⟨rfl, rfl, rfl⟩⟩
                · exact ⟨rfl, .inr ⟨rfl, rfl, by simp⟩⟩
                · exact ⟨rfl, .inr ⟨rfl, rfl, by simp⟩⟩
                · exact ⟨rfl, .inr ⟨rfl, rfl, by simp⟩⟩
                · exact ⟨rfl, .inr ⟨rfl, rfl, by simp⟩⟩
              refine ⟨_, rfl, q, _, _, _, rfl, rfl, hq, at1, ?_⟩
              refine ⟨fun σ H9 => ∃ (obs : List Ob) (v : V) (d : PyData) (x16 : Option V), σ = [some (.ref a), some (.ref p), some (.ref np), some (.ref hp), x4, some (.int nc), x6, some (.int ni), x8, x9, x10, x11, x12, some (.ref rp), some (.ref q), some v, x16, x17] ∧ Wb K H9 p dl np (x0 :: nr) hp obs ∧ MOk obs ∧ obs.length ≤ 15 + 8 * t ∧ VF obs d kd st ∧ Dt K H9 v d ∧ H9 rp = some (.lst rws) ∧ DtAll K H9 rws (rowsT.map rowD) ∧ SqT K H9 q [.str kd, vv, .str md], ?_, ?_⟩
              · refine ⟨_, rfl, sz_0, fun u2 hu2 => ?_⟩
                have S2 := Same.new (o := .tup []) hu2
                refine ⟨_, _, (dv.mono S2).dp, (Dt.made hu2 .nil).dp, hvd.1, rfl, ?_⟩
                rcases hvd.2 with ⟨rfl, rfl, rfl⟩ | ⟨rfl, rfl, hk⟩
                · rw [textAb, eqv_nil]
                  refine ⟨_, rfl, iteFb rfl ?_⟩
                  exact ⟨obs, _, textAb, _, rfl, X8.same S2, hM8, by omega, .inl ⟨rfl, rfl, rfl⟩, dv.mono S2, S2 _ _ e8, a8.mono S2, Same.tupl S2 hq⟩
                · rw [eqv_nil]
                  refine ⟨_, rfl, iteTb rfl ?_⟩
                  refine ⟨_, rfl, q, _, _, _, rfl, rfl, Same.tupl S2 hq, at0, sz_0, fun u3 h3 => ⟨sz_2, fun u4 h4 => ?_⟩⟩
                  have S3 := Same.new (o := .tup []) h3
                  have S4 := Same.new (o := .tup [.str st, .ref u3]) h4
                  refine ⟨fun σ H9 => ∃ (tq : Addr) (rr : List PyData), σ = [some (.ref a), some (.ref p), some (.ref np), some (.ref hp), x4, some (.int nc), x6, some (.int ni), x8, x9, x10, x11, x12, some (.ref rp), some (.ref q), some vv, some (.ref tq), x17] ∧ Same H8 H9 ∧ Dt K H9 (.ref tq) (.tuple (.str st :: rr)), ?_, ?_⟩
                  · have S24 := (S2.trans S3).trans S4
                    refine ⟨_, rfl, q, _, _, _, rfl, rfl, Same.tupl S24 hq, at0, rfl, _, rfl, ?_⟩
                    refine ite3 (fun c => ?_) fun _ => ⟨u4, _, rfl, S24, Dt.made h4 (.cons (.str _) (.cons (Dt.made h3 .nil) .nil))⟩
                    have c := V.str.inj (of_decide_eq_true c)
                    refine ⟨sz_0, fun u5 h5 => ⟨(show 4 ≤ sizeLine by decide), fun u6 h6 => ?_⟩⟩
                    have dg := Dt.made (K := K) h6 (.cons (.str "gen") (.cons (.str "g") (.cons (.str "new") (.cons (Dt.made (K := K) h5 .nil) .nil))))
                    refine ⟨u6, [.str "g", .str "new", .tuple []], rfl, (S24.trans (Same.new h5)).trans (Same.new h6), ?_⟩
                    rw [show PyData.str st = .str "gen" from congrArg PyData.str c]
                    exact dg
                  · rintro _ H9 ⟨tq, rr, rfl, S9, dt⟩
                    have X9 := X8.same S9
                    obtain ⟨zs, ez, lz, _⟩ := X9.len
                    refine ⟨_, rfl, .inl ⟨rfl, _, SqL.of ez⟩, _, rfl, hp, _, _, rfl, rfl, ez, Nat.lt_of_le_of_lt (show zs.length ≤ 100 by omega) (by decide), ?_⟩
                    have X10 := X9.addO Dd ez (o := .other st rr) dt
                    have kT : KeepT K H9 (upd H9 hp (.lst (zs ++ [.ref tq]))) := KeepT.upd ez
                    refine ⟨_, rfl, _, _, rfl, .inl ⟨_, SqL.of upd_same, rfl⟩, _, _, rfl, rfl, sz_2, fun c hc => ?_⟩
                    have eI : ((((zs ++ [V.ref tq]).length : Nat) : Int) - 1) = ((obs.length : Nat) : Int) := by rw [List.length_append, List.length_singleton]; omega
                    have S11 := Same.new (o := .tup [.str "ref", .int ((((zs ++ [V.ref tq]).length : Nat) : Int) - 1)]) hc
                    have dc := Dt.made (K := K) hc (.cons (.str "ref") (.cons (.int ((((zs ++ [V.ref tq]).length : Nat) : Int) - 1)) .nil))
                    rw [show PyData.tuple [.str "ref", .int ((((zs ++ [V.ref tq]).length : Nat) : Int) - 1)] = refD obs.length by rw [eI]; rfl] at dc
                    refine ⟨obs ++ [.other st rr], _, refD obs.length, _, rfl, X10.same S11, hM8.app, by simp; omega, .inr ⟨obs.length, rr, rfl, by omega, by rw [List.getElem?_append_right (Nat.le_refl _), Nat.sub_self]; rfl, rfl, hk⟩, dc, ?_, ?_, ?_⟩
                    · exact S11 _ _ (by rw [upd_ne hrh]; exact S9 _ _ e8)
                    · exact (((a8.mono S9).keepT kT).mono S11)
                    · exact Same.tupl S11 (kT _ _ (Same.tupl S9 hq))
              clear X8 hM8 hl8 e8 a8 hq dv dy hy dm hd
              rintro _ H9 ⟨obs, v, d, x16, rfl, X9, hM9, hl9, hVF, dv, e9, a9, hq⟩
              refine ⟨_, rfl, q, _, _, _, rfl, rfl, hq, at2, _, rfl, np, _, _, _, rfl, rfl, SqL.of X9.nm, at0, (show 6 ≤ sizeLine by decide), fun lp hlp => ?_⟩
              have S10 := Same.new (o := .lst [.str md, .str "clear", .str "upper", .str "send", .str "count", .str x0]) hlp
              have hlh : lp ≠ hp := fun e => by
                subst e
                obtain ⟨xs, e, _⟩ := X9.ob
                rw [e] at hlp
                cases hlp
              refine ⟨lp, rfl, ⟨_, SqL.of upd_same⟩, ?_⟩
              have en6 : ([V.str md, .str "clear", .str "upper", .str "send", .str "count", .str x0]) = ([md, "clear", "upper", "send", "count", x0]).map V.str := rfl
              refine for_list (xs := ([md, "clear", "upper", "send", "count", x0]).map V.str) (fun t2 σ H10 => ∃ (obs : List Ob) (x8 x17 : Option V), σ = [some (.ref a), some (.ref p), some (.ref np), some (.ref hp), x4, some (.int nc), x6, some (.int ni), x8, x9, x10, x11, x12, some (.ref rp), some (.ref q), some v, x16, x17] ∧ Wb K H10 p dl np (x0 :: nr) hp obs ∧ MOk obs ∧ obs.length ≤ 15 + 8 * t + t2 ∧ VF obs d kd st ∧ Dt K H10 v d ∧ H10 rp = some (.lst rws) ∧ DtAll K H10 rws (rowsT.map rowD) ∧ SqT K H10 q [.str kd, vv, .str md] ∧ H10 lp = some (.lst (([md, "clear", "upper", "send", "count", x0]).map V.str))) ⟨obs, _, _, rfl, X9.same S10, hM9, by omega, hVF, dv.mono S10, S10 _ _ e9, a9.mono S10, Same.tupl S10 hq, upd_same⟩ ?_ ?_ ?_
              · rintro t2 σ H10 _ ⟨obs, x8, x17, rfl, _, _, _, _, _, _, _, _, e10⟩
                exact SqL.of e10
              · rintro t2 y σ H10 hy ⟨obs, x8, x17, rfl, X10, hM10, hl10, hVF10, dv10, e10, a10, hq10, el10⟩
                rw [List.getElem?_map] at hy
                obtain ⟨x, hx, rfl⟩ := Option.map_eq_some_iff.mp hy
                have hxm := List.mem_of_getElem? hx
                have ht6 : t2 < 6 := (List.getElem?_eq_some_iff.mp hx).1
                obtain ⟨sxx, em, emb⟩ := row_in hin hx0 hxm
                refine fun dp hdp => ⟨sz_3, fun l1 g1 => ⟨_, rfl, l1, _, rfl, SqL.of upd_same, fun l2 g2 => ⟨sz_3, fun l3 g3 => ⟨sz_2, fun l4 g4 => ⟨sz_2, fun l5 g5 => ⟨sz_2, fun l6 g6 => ?_⟩⟩⟩⟩⟩⟩
                have ec : cutV [V.str "find", .str "upper", .str "count"] none (some 2) = [.str "find", .str "upper"] := rfl
                rw [ec] at g3 g4 g5 g6 ⊢
                have sd := Same.new (o := .dK []) hdp
                have s1 := Same.new (o := .lst [.str "find", .str "upper", .str "count"]) g1
                have s2 := Same.new (o := .lst [.str "find", .str "upper"]) g2
                have s3 := Same.new (o := .lst [.str "append", .str "clear", .str "count"]) g3
                have s4 := Same.new (o := .lst [.str "index", .str "count"]) g4
                have s5 := Same.new (o := .lst [.str "setdefault", .str "clear"]) g5
                have s6 := Same.new (o := .lst [.str "close", .str "send"]) g6
                have z1 := ((((s1.trans s2).trans s3).trans s4).trans s5).trans s6
                have ed : _ = some (HO.dK []) := z1 _ _ (upd_same (H := H10) (a := dp) (o := HO.dK []))
                refine ⟨ed, [(.inr "str", .ref l2), (.inr "list", .ref l3), (.inr "tuple", .ref l4), (.inr "dict", .ref l5), (.inr "gen", .ref l6)], rfl, by simp, ?_⟩
                have n2 : l2 ≠ dp := ne1 (s1 _ _ upd_same) g2
                have n3 : l3 ≠ dp := ne1 ((s1.trans s2) _ _ upd_same) g3
                have n4 : l4 ≠ dp := ne1 (((s1.trans s2).trans s3) _ _ upd_same) g4
                have n5 : l5 ≠ dp := ne1 ((((s1.trans s2).trans s3).trans s4) _ _ upd_same) g5
                have n6 : l6 ≠ dp := ne1 (((((s1.trans s2).trans s3).trans s4).trans s5) _ _ upd_same) g6
                have f2 := (((s3.trans s4).trans s5).trans s6) _ _ (upd_same (a := l2) (o := HO.lst [.str "find", .str "upper"]))
                have f3 := ((s4.trans s5).trans s6) _ _ (upd_same (a := l3) (o := HO.lst [.str "append", .str "clear", .str "count"]))
                have f4 := (s5.trans s6) _ _ (upd_same (a := l4) (o := HO.lst [.str "index", .str "count"]))
                have f5 := s6 _ _ (upd_same (a := l5) (o := HO.lst [.str "setdefault", .str "clear"]))
                have f6 := upd_same (H := upd (upd (upd (upd (upd (upd H10 dp (.dK [])) l1 (.lst [.str "find", .str "upper", .str "count"])) l2 (.lst [.str "find", .str "upper"])) l3 (.lst [.str "append", .str "clear", .str "count"])) l4 (.lst [.str "index", .str "count"])) l5 (.lst [.str "setdefault", .str "clear"])) (a := l6) (o := HO.lst [.str "close", .str "send"])
                have zA := sd.trans z1
                clear sd s1 s2 s3 s4 s5 s6 z1 g1 g2 g3 g4 g5 g6
                generalize upd _ l6 _ = Ha at ed f2 f3 f4 f5 f6 zA
                obtain ⟨lq, hget, eq⟩ : ∃ lq, valV (mergeK [] [(.inr "str", .ref l2), (.inr "list", .ref l3), (.inr "tuple", .ref l4), (.inr "dict", .ref l5), (.inr "gen", .ref l6)]) (.inr kd) = some (.ref lq) ∧ upd Ha dp (.dK (mergeK [] [(.inr "str", .ref l2), (.inr "list", .ref l3), (.inr "tuple", .ref l4), (.inr "dict", .ref l5), (.inr "gen", .ref l6)])) lq = some (.lst ((tb kd).map V.str)) := by
                  simp only [rowsT, List.mem_cons, List.not_mem_nil, or_false, Prod.mk.injEq] at hin
                  rcases hin with ⟨rfl, _⟩ | ⟨rfl, _⟩ | ⟨rfl, _⟩ | ⟨rfl, _⟩ | ⟨rfl, _⟩
                  · exact ⟨l2, by rfl, by rw [upd_ne n2]; exact f2⟩
                  · exact ⟨l3, by rfl, by rw [upd_ne n3]; exact f3⟩
                  · exact ⟨l4, by rfl, by rw [upd_ne n4]; exact f4⟩
                  · exact ⟨l5, by rfl, by rw [upd_ne n5]; exact f5⟩
                  · exact ⟨l6, by rfl, by rw [upd_ne n6]; exact f6⟩
                have hget2 : DGet (upd Ha dp (.dK (mergeK [] [(.inr "str", .ref l2), (.inr "list", .ref l3), (.inr "tuple", .ref l4), (.inr "dict", .ref l5), (.inr "gen", .ref l6)]))) dp (.str kd) (some (.ref lq)) := by
                  rw [← hget]
                  exact DGet.k (k := .inr kd) upd_same
                have zB : Same H10 (upd Ha dp (.dK (mergeK [] [(.inr "str", .ref l2), (.inr "list", .ref l3), (.inr "tuple", .ref l4), (.inr "dict", .ref l5), (.inr "gen", .ref l6)]))) := fun b o hb => by
                  rw [upd_ne (ne_of_none hb hdp)]; exact zA b o hb
                generalize upd Ha dp _ = Hb at hget2 zB eq
                have X11 := X10.same zB
                have hbk := hVF10.at_ (x := x)
                rw [em] at hbk emb
                refine ⟨_, rfl, _, rfl, _, rfl, q, _, _, _, rfl, rfl, Same.tupl zB hq10, at0, _, rfl, _, rfl, _, rfl, _, rfl, q, _, _, _, rfl, rfl, Same.tupl zB hq10, at0, dp, _, rfl, hget2, lq, _, rfl, .inl (SqL.of eq), rfl, flat_strs _, ?_⟩
                have eb : (if false = true then !inV (.str x) ((tb kd).map V.str) else inV (.str x) ((tb kd).map V.str)) = decide (x ∈ tb kd) := inV_str x (tb kd)
                rw [eb]
                refine ⟨hp, obs, v, d, kd, x, _, _, rfl, X11.ob, dv10.mono zB, hVF10.sm, hVF10.sx, sxx, hM10, by omega, hbk, fun h => ?_, fun h => ?_, fun H12 L12 K12 => ⟨true, rfl, iteFb rfl ?_⟩⟩
                · rw [h] at emb
                  rw [if_pos (of_decide_eq_true emb)]
                · rw [h] at emb
                  rw [if_neg (of_decide_eq_false emb)]
                have kT := keepR K12 X11.ob
                refine ⟨_, _, _, rfl, X11.put Dd L12 K12, mok_ar hM10, (by rw [List.length_append]; exact Nat.le_trans (Nat.add_le_add_left (arO_len _ _) _) (by omega)), hVF10.app, (dv10.mono zB).keepT kT, K12 _ _ (zB _ _ e10) hrh, (a10.mono zB).keepT kT, kT _ _ (Same.tupl zB hq10), K12 _ _ (zB _ _ el10) hlh⟩
              · rintro σ H10 ⟨obs, x8, x17, rfl, X10, hM10, hl10, hVF10, dv10, e10, a10, hq10, el10⟩
                exact ⟨obs, _, _, _, _, _, rfl, X10, hM10, by simp at hl10; omega, e10, a10⟩
            · rintro σ H8 ⟨obs, x8, x14, x15, x16, x17, rfl, X8, hM8, hl8, e8, a8⟩
              have hl8 : obs.length ≤ 60 := by
                have := a8.length
                simp [rowsT] at this
                omega
              obtain ⟨zs, ez, lz, _⟩ := X8.len
              refine ⟨_, rfl, .inl ⟨rfl, _, SqL.of ez⟩, sz_2, fun u1 h1 => ⟨_, rfl, sz_4, fun u2 h2 => ?_⟩⟩
              have s1 := Same.new (o := .tup [.str "text", .str "a"]) h1
              have s2 := Same.new (o := .tup [.str "iter", .ref u1, .int 0, .int (-1)]) h2
              have d2 := Dt.made (K := K) h2 (.cons (.str "iter") (.cons (Dt.made (K := K) h1 (.cons (.str "text") (.cons (.str "a") .nil))) (.cons (.int 0) (.cons (.int (-1)) .nil))))
              have ez2 := (s1.trans s2) _ _ ez
              refine ⟨hp, _, _, rfl, rfl, ez2, Nat.lt_of_le_of_lt (show zs.length ≤ 100 by omega) (by decide), ?_⟩
              have X9 := (X8.same (s1.trans s2)).addO Dd ez2 (o := .other "iter" [.tuple [.str "text", .str "a"], .int 0, .int (-1)]) d2
              dsimp only
              generalize upd (upd (upd H8 u1 _) u2 _) hp _ = H9 at X9
              clear X8 s1 s2 d2 ez2 ez h1 h2
              obtain ⟨zs, ez, lz, _⟩ := X9.len
              rw [List.length_append, List.length_singleton] at lz
              refine ⟨_, rfl, _, rfl, _, _, rfl, .inl ⟨_, SqL.of ez, rfl⟩, _, _, rfl, rfl, sz_2, fun c hc => ?_⟩
              have eI : (((zs.length : Nat) : Int) - 1) = ((obs.length : Nat) : Int) := by omega
              have S11 := Same.new (o := .tup [.str "ref", .int (((zs.length : Nat) : Int) - 1)]) hc
              have dc := Dt.made (K := K) hc (.cons (.str "ref") (.cons (.int (((zs.length : Nat) : Int) - 1)) .nil))
              rw [show PyData.tuple [.str "ref", .int (((zs.length : Nat) : Int) - 1)] = refD obs.length by rw [eI]; rfl] at dc
              have hVF : VF (obs ++ [.other "iter" [.tuple [.str "text", .str "a"], .int 0, .int (-1)]]) (refD obs.length) "iter" "iter" := .inr ⟨obs.length, _, rfl, by omega, by rw [List.getElem?_append_right (Nat.le_refl _), Nat.sub_self]; rfl, rfl, by simp⟩
              have hA := hVF.at_ (x := "close")
              rw [if_neg (by decide +kernel)] at hA
              have X11 := X9.same S11
              refine ⟨hp, _, _, _, "iter", "close", false, _, rfl, X11.ob, dc, hVF.sm, hVF.sx, Sx.short (by decide +kernel), hM8.app, by simp; omega, hA, (fun h => by cases h), fun _ => rfl, fun H12 L12 K12 => ?_⟩
              have X12 := X11.put Dd L12 K12
              refine ⟨_, rfl, iteTb rfl ?_⟩
              obtain ⟨x1, nr2, rfl⟩ : ∃ x1 nr2, nr = x1 :: nr2 := by
                cases nr with
                | nil => simp at hnl
                | cons x1 nr2 => exact ⟨_, _, rfl⟩
              have hx1 := hno x1 (by simp)
              have l1 := hx1.sx.len
              refine ⟨_, rfl, sz_2, fun u3 h3 => ?_⟩
              have S3 := Same.new (o := .tup [.str "int", .int 1]) h3
              have d3 := Dt.made (K := K) h3 (.cons (.str "int") (.cons (.int 1) .nil))
              have X13 := X12.same S3
              refine ⟨_, rfl, np, _, _, _, rfl, rfl, SqL.of X13.nm, at1, ?_⟩
              have hM13 := mok_ar (d := refD obs.length) (r := .no (wordK "iter")) (hM8.app (z := "iter") (r := [.tuple [.str "text", .str "a"], .int 0, .int (-1)]))
              have hnn : ¬ methN "int" x1 ∈ sigs := by
                rw [meth_eq "" "int" x1 (by decide +kernel)]
                exact no_name (by simp) hx1.hd
              have hA2 : AtR ((obs ++ [Ob.other "iter" [.tuple [.str "text", .str "a"], .int 0, .int (-1)]]) ++ arO (refD obs.length) (.no (wordK "iter"))) x1 (.tuple [.str "int", .int 1]) (.no "int") :=
                .oth (s := "") (.val "int" _ (by decide +kernel)) (by decide +kernel) (by decide +kernel) (.no (.val "int" _ (by decide +kernel)) hnn) (.val "int" _ _ (by decide +kernel) (by decide +kernel)) (by decide +kernel)
              refine ⟨hp, _, _, _, x1, _, rfl, X13.ob, d3, hM13, by omega, by simp [arO]; omega, hA2, fun v' H14 L14 K14 d14 => ?_⟩
              have X14 := X13.put Dd L14 K14
              have h22 : ("int has no attribute " : Str).length = 21 := by decide +kernel
              refine ⟨_, rfl, np, _, _, _, rfl, rfl, SqL.of X14.nm, at1, _, _, rfl, rfl, Nat.le_trans (show _ ≤ 100 by omega) (by decide), sz_3, fun u5 h5 => ?_⟩
              have S5 := Same.new (o := .tup [.str "raise", .int 9, .str ("int has no attribute " ++ x1)]) h5
              have d5 := Dt.made (K := K) h5 (.cons (.str "raise") (.cons (.int 9) (.cons (.str ("int has no attribute " ++ x1)) .nil)))
              have e5 : arD ((obs ++ [Ob.other "iter" [.tuple [.str "text", .str "a"], .int 0, .int (-1)]]) ++ arO (refD obs.length) (.no (wordK "iter"))).length x1 (.no "int") = .tuple [.str "raise", .int 9, .str ("int has no attribute " ++ x1)] := by
                show raiseD (("int" ++ " has no attribute ") ++ x1) = _
                rw [show (("int" : Str) ++ " has no attribute ") = "int has no attribute " by decide +kernel]
                rfl
              rw [e5] at d14
              refine ⟨_, _, _, rfl, (d14.mono S5).dp, d5.dp, ?_, k _⟩
              exact show_ok (Sm.tup (.cons (Sm.short (by decide +kernel)) (.cons (sm_int (b := 9) (by decide)) (.cons ((Sx.short (x := "int has no attribute ") (by decide +kernel)).cat hx1.sx).sm .nil)))) (by decide) (by decide)
end
theorem walk_mk {l : PySem.W.OpenLaw} {w : World} {K : PySem.W.Frag} {h : Heap} {mg : Str → Option Value} {fa : Addr} (X : K.In h) (G : h.Ns mainGlobals mg) (hfa : mg "law" = some (.ref fa))
    (f0 : HasFn K "_law_cell" s_law_cell)
    (f1 : HasFn K "_law_digits" s_law_digits)
    (f2 : HasFn K "_law_draw" s_law_draw)
    (f3 : HasFn K "_law_names" s_law_names)
    (f4 : HasFn K "_law_value" s_law_value)
    (f5 : HasFn K "_law_pairs" s_law_pairs)
    (f6 : HasFn K "_law_own" s_law_own)
    (f7 : HasFn K "_law_found" s_law_found)
    (f8 : HasFn K "_law_due" s_law_due)
    (f9 : HasFn K "object_kind" s_object_kind)
    (f10 : HasFn K "paired" s_paired)
    (f11 : HasFn K "class_line" s_class_line)
    (f12 : HasFn K "member" s_member)
    (f13 : HasFn K "function_member" s_function_member)
    (f14 : HasFn K "_bound" s_bound)
    (f15 : HasFn K "_attribute_of_instance" s_attribute_of_instance)
    (f16 : HasFn K "sort_of" s_sort_of)
    (f17 : HasFn K "_method_of_kind" s_method_of_kind)
    (f18 : HasFn K "kind_name" s_kind_name)
    (f19 : HasFn K "_no_attribute" s_no_attribute)
    (f20 : HasFn K "attribute" s_attribute)
    (f21 : HasFn K "_law_same" s_law_same)
    (f22 : HasFn K "_law_builtin" s_law_builtin)
    (f23 : HasFn K "law" s_law)
    (c0 : HasInt K "ATTRIBUTE_ERROR" 9)
    (b_len : PySem.W.nsIn K mainGlobals "len" = some none)
    (b_int : PySem.W.nsIn K mainGlobals "int" = some none)
    (b_range : PySem.W.nsIn K mainGlobals "range" = some none)
    (b_list : PySem.W.nsIn K mainGlobals "list" = some none)
    (b_tuple : PySem.W.nsIn K mainGlobals "tuple" = some none)
    (b_repr : PySem.W.nsIn K mainGlobals "repr" = some none)
    (b_str : PySem.W.nsIn K mainGlobals "str" = some none)
    (d_METHOD_KINDS : HasDct l.prog w K "METHOD_KINDS" (txtKV [("text", "str"), ("list", "list"), ("tuple", "tuple"), ("dict", "dict"), ("gen", "gen")]))
    (d_SIGNATURES : HasKeys l.prog w K "SIGNATURES" sigs)
    (d_VALUE_KINDS : HasDct l.prog w K "VALUE_KINDS" (txtKV [("none", "NoneType"), ("bool", "bool"), ("int", "int"), ("text", "str"), ("span", "range"), ("built", "builtin"), ("host", "host")]))
    (d_OBJECT_KINDS : HasDct l.prog w K "OBJECT_KINDS" (txtKV [("list", "list"), ("tuple", "tuple"), ("dict", "dict"), ("scope", "scope"), ("func", "function"), ("class", "class"), ("bound", "method"), ("iter", "iterator"), ("gen", "generator")])) :
    ∃ fd : FuncData, (∀ (s : Shared) (v : Value), BindsTo s fd ⟨[v], []⟩ [("script", v)]) ∧ ∀ base : Heap, K.In base → base.Ns mainGlobals mg → FnG l.prog w K mg base CX0 7 fa fd ["script"] (spLaw K) := by
  have T : Txt K mg := ⟨c0.g X G, PySem.W.mg_none_of X G b_len, PySem.W.mg_none_of X G b_int, PySem.W.mg_none_of X G b_range, PySem.W.mg_none_of X G b_list, PySem.W.mg_none_of X G b_tuple, PySem.W.mg_none_of X G b_repr, PySem.W.mg_none_of X G b_str⟩
  refine law_use f23 X G hfa (fun _ _ _ _ _ _ _ => rfl) fun base X' G' fd F => ?_
  have U_METHOD_KINDS : UseD l.prog w K mg "METHOD_KINDS" _ := d_METHOD_KINDS.g X G
  have U_SIGNATURES : UseK l.prog w K mg "SIGNATURES" _ := d_SIGNATURES.g X G
  have U_VALUE_KINDS : UseD l.prog w K mg "VALUE_KINDS" _ := d_VALUE_KINDS.g X G
  have U_OBJECT_KINDS : UseD l.prog w K mg "OBJECT_KINDS" _ := d_OBJECT_KINDS.g X G
  have U_law_cell := mk_use (P := l.prog) (w := w) (mg := mg) (base := base) f0 X G (fun _ _ _ _ _ _ us hl => match us, hl with | [_, _], _ => rfl) fun f fd F => ok_cell F T 
  have U_law_digits := mk_use (P := l.prog) (w := w) (mg := mg) (base := base) f1 X G (fun _ _ _ _ _ _ us hl => match us, hl with | [_, _, _], _ => rfl) fun f fd F => ok_digits F T U_law_cell
  have U_law_draw := mk_use (P := l.prog) (w := w) (mg := mg) (base := base) f2 X G (fun _ _ _ _ _ _ us hl => match us, hl with | [_, _], _ => rfl) fun f fd F => ok_draw F T 
  have U_law_names := mk_use (P := l.prog) (w := w) (mg := mg) (base := base) f3 X G (fun _ _ _ _ _ _ us hl => match us, hl with | [_], _ => rfl) fun f fd F => ok_names F T U_law_draw
  have U_law_value := mk_use (P := l.prog) (w := w) (mg := mg) (base := base) f4 X G (fun _ _ _ _ _ _ us hl => match us, hl with | [_], _ => rfl) fun f fd F => ok_value F T U_law_draw
  have U_law_pairs := mk_use (P := l.prog) (w := w) (mg := mg) (base := base) f5 X G (fun _ _ _ _ _ _ us hl => match us, hl with | [_, _, _], _ => rfl) fun f fd F => ok_lpairs F T U_law_draw U_law_value
  have U_law_own := mk_use (P := l.prog) (w := w) (mg := mg) (base := base) f6 X G (fun _ _ _ _ _ _ us hl => match us, hl with | [_, _], _ => rfl) fun f fd F => ok_lown F T 
  have U_law_found := mk_use (P := l.prog) (w := w) (mg := mg) (base := base) f7 X G (fun _ _ _ _ _ _ us hl => match us, hl with | [_, _, _], _ => rfl) fun f fd F => ok_lfound F T 
  have U_law_due := mk_use (P := l.prog) (w := w) (mg := mg) (base := base) f8 X G (fun _ _ _ _ _ _ us hl => match us, hl with | [_, _, _, _], _ => rfl) fun f fd F => ok_ldue F T U_law_own U_law_found
  have U_object_kind := mk_use (P := l.prog) (w := w) (mg := mg) (base := base) f9 X G (fun _ _ _ _ _ _ us hl => match us, hl with | [_, _], _ => rfl) fun f fd F => ok_kind F T 
  have U_paired := mk_use (P := l.prog) (w := w) (mg := mg) (base := base) f10 X G (fun _ _ _ _ _ _ us hl => match us, hl with | [_, _], _ => rfl) fun f fd F => ok_paired F T 
  have U_class_line := mk_use (P := l.prog) (w := w) (mg := mg) (base := base) f11 X G (fun _ _ _ _ _ _ us hl => match us, hl with | [_, _], _ => rfl) fun f fd F => ok_line F T 
  have U_member := mk_use (P := l.prog) (w := w) (mg := mg) (base := base) f12 X G (fun _ _ _ _ _ _ us hl => match us, hl with | [_, _, _], _ => rfl) fun f fd F => ok_member F T U_class_line U_paired
  have U_function_member := mk_use (P := l.prog) (w := w) (mg := mg) (base := base) f13 X G (fun _ _ _ _ _ _ us hl => match us, hl with | [_, _, _], _ => rfl) fun f fd F => ok_fmem F T U_member U_object_kind
  have U_bound := mk_use (P := l.prog) (w := w) (mg := mg) (base := base) f14 X G (fun _ _ _ _ _ _ us hl => match us, hl with | [_, _, _], _ => rfl) fun f fd F => ok_bound F T 
  have U_attribute_of_instance := mk_use (P := l.prog) (w := w) (mg := mg) (base := base) f15 X G (fun _ _ _ _ _ _ us hl => match us, hl with | [_, _, _], _ => rfl) fun f fd F => ok_ainst F T U_paired U_function_member U_bound U_member
  have U_sort_of := mk_use (P := l.prog) (w := w) (mg := mg) (base := base) f16 X G (fun _ _ _ _ _ _ us hl => match us, hl with | [_, _], _ => rfl) fun f fd F => ok_sort F T 
  have U_method_of_kind := mk_use (P := l.prog) (w := w) (mg := mg) (base := base) f17 X G (fun _ _ _ _ _ _ us hl => match us, hl with | [_, _, _], _ => rfl) fun f fd F => ok_meth F T U_METHOD_KINDS U_SIGNATURES U_sort_of U_bound
  have U_kind_name := mk_use (P := l.prog) (w := w) (mg := mg) (base := base) f18 X G (fun _ _ _ _ _ _ us hl => match us, hl with | [_, _], _ => rfl) fun f fd F => ok_kname F T U_VALUE_KINDS U_OBJECT_KINDS
  have U_no_attribute := mk_use (P := l.prog) (w := w) (mg := mg) (base := base) f19 X G (fun _ _ _ _ _ _ us hl => match us, hl with | [_, _, _], _ => rfl) fun f fd F => ok_noattr F T U_kind_name
  have U_attribute := mk_use (P := l.prog) (w := w) (mg := mg) (base := base) f20 X G (fun _ _ _ _ _ _ us hl => match us, hl with | [_, _, _], _ => rfl) fun f fd F => ok_attr F T U_object_kind U_attribute_of_instance U_member U_method_of_kind U_no_attribute
  have U_law_same := mk_use (P := l.prog) (w := w) (mg := mg) (base := base) f21 X G (fun _ _ _ _ _ _ us hl => match us, hl with | [_, _], _ => rfl) fun f fd F => ok_same F T 
  have U_law_builtin := mk_use (P := l.prog) (w := w) (mg := mg) (base := base) f22 X G (fun _ _ _ _ _ _ us hl => match us, hl with | [_, _, _, _, _], _ => rfl) fun f fd F => ok_lbuiltin F T U_attribute U_law_same
  exact ok_law F T U_law_digits U_law_draw U_law_names U_law_pairs U_law_due U_attribute U_law_same U_law_builtin
end K32
open PySem PySem.W PyProof.Rows
set_option maxRecDepth 100000 in
set_option maxHeartbeats 0 in
theorem PySem.Challenge.cw_pyhold_k32_attributes_in_order_holds : PySem.Challenge.rw_pyhold_k32_attributes_in_order.Holds := by
  w_on; o_law; k_head; (case hw => w_witness2)
  k_fill
  refine LK.walkG (l := PySem.Challenge.rw_pyhold_k32_attributes_in_order) (n := 63) (k := 7) (x := "script") (CX := L2.CX0) (sp := K32.spLaw) rfl (by decide) rfl ⟨rfl, by decide, by decide⟩ (fun w h Y => PySem.W.kIn_of Y) ?F (fun K H a ns hl _ hS => ⟨a, ns, rfl, hS, hl, fun _ => rfl⟩) (fun _ _ _ _ z => z)
  case F =>
    intro w mg fa h KX G hmg
    refine' K32.walk_mk KX G hmg ?f0 ?f1 ?f2 ?f3 ?f4 ?f5 ?f6 ?f7 ?f8 ?f9 ?f10 ?f11 ?f12 ?f13 ?f14 ?f15 ?f16 ?f17 ?f18 ?f19 ?f20 ?f21 ?f22 ?f23 ?c0 ?b_len ?b_int ?b_range ?b_list ?b_tuple ?b_repr ?b_str ?d_METHOD_KINDS ?d_SIGNATURES ?d_VALUE_KINDS ?d_OBJECT_KINDS
    case f0 => refine' LK.HasFn.mk' ?a ?b ?c ?d; (case a => k_is); (case b => k_is); (case c => k_is); (case d => k_is)
    case f1 => refine' LK.HasFn.mk' ?a ?b ?c ?d; (case a => k_is); (case b => k_is); (case c => k_is); (case d => k_is)
    case f2 => refine' LK.HasFn.mk' ?a ?b ?c ?d; (case a => k_is); (case b => k_is); (case c => k_is); (case d => k_is)
    case f3 => refine' LK.HasFn.mk' ?a ?b ?c ?d; (case a => k_is); (case b => k_is); (case c => k_is); (case d => k_is)
    case f4 => refine' LK.HasFn.mk' ?a ?b ?c ?d; (case a => k_is); (case b => k_is); (case c => k_is); (case d => k_is)
    case f5 => refine' LK.HasFn.mk' ?a ?b ?c ?d; (case a => k_is); (case b => k_is); (case c => k_is); (case d => k_is)
    case f6 => refine' LK.HasFn.mk' ?a ?b ?c ?d; (case a => k_is); (case b => k_is); (case c => k_is); (case d => k_is)
    case f7 => refine' LK.HasFn.mk' ?a ?b ?c ?d; (case a => k_is); (case b => k_is); (case c => k_is); (case d => k_is)
    case f8 => refine' LK.HasFn.mk' ?a ?b ?c ?d; (case a => k_is); (case b => k_is); (case c => k_is); (case d => k_is)
    case f9 => refine' LK.HasFn.mk' ?a ?b ?c ?d; (case a => k_is); (case b => k_is); (case c => k_is); (case d => k_is)
    case f10 => refine' LK.HasFn.mk' ?a ?b ?c ?d; (case a => k_is); (case b => k_is); (case c => k_is); (case d => k_is)
    case f11 => refine' LK.HasFn.mk' ?a ?b ?c ?d; (case a => k_is); (case b => k_is); (case c => k_is); (case d => k_is)
    case f12 => refine' LK.HasFn.mk' ?a ?b ?c ?d; (case a => k_is); (case b => k_is); (case c => k_is); (case d => k_is)
    case f13 => refine' LK.HasFn.mk' ?a ?b ?c ?d; (case a => k_is); (case b => k_is); (case c => k_is); (case d => k_is)
    case f14 => refine' LK.HasFn.mk' ?a ?b ?c ?d; (case a => k_is); (case b => k_is); (case c => k_is); (case d => k_is)
    case f15 => refine' LK.HasFn.mk' ?a ?b ?c ?d; (case a => k_is); (case b => k_is); (case c => k_is); (case d => k_is)
    case f16 => refine' LK.HasFn.mk' ?a ?b ?c ?d; (case a => k_is); (case b => k_is); (case c => k_is); (case d => k_is)
    case f17 => refine' LK.HasFn.mk' ?a ?b ?c ?d; (case a => k_is); (case b => k_is); (case c => k_is); (case d => k_is)
    case f18 => refine' LK.HasFn.mk' ?a ?b ?c ?d; (case a => k_is); (case b => k_is); (case c => k_is); (case d => k_is)
    case f19 => refine' LK.HasFn.mk' ?a ?b ?c ?d; (case a => k_is); (case b => k_is); (case c => k_is); (case d => k_is)
    case f20 => refine' LK.HasFn.mk' ?a ?b ?c ?d; (case a => k_is); (case b => k_is); (case c => k_is); (case d => k_is)
    case f21 => refine' LK.HasFn.mk' ?a ?b ?c ?d; (case a => k_is); (case b => k_is); (case c => k_is); (case d => k_is)
    case f22 => refine' LK.HasFn.mk' ?a ?b ?c ?d; (case a => k_is); (case b => k_is); (case c => k_is); (case d => k_is)
    case f23 => refine' LK.HasFn.mk' ?a ?b ?c ?d; (case a => k_is); (case b => k_is); (case c => k_is); (case d => k_is)
    case c0 => refine' LK.HasInt.mk' ?a ?b; (case a => k_is); (case b => decide +kernel)
    case b_len => k_is
    case b_int => k_is
    case b_range => k_is
    case b_list => k_is
    case b_tuple => k_is
    case b_repr => k_is
    case b_str => k_is
    case d_METHOD_KINDS => refine' LK.HasDct.mk' ?a ?b ?c ?d ?e; (case a => k_is); (case b => k_is); (case c => rfl); (case d => repeat (first | exact .nil | refine .cons rfl rfl rfl ?_)); (case e => decide +kernel)
    case d_SIGNATURES => refine' LK.HasKeys.mk' ?a ?b ?c ?d ?e; (case a => k_is); (case b => k_is); (case c => rfl); (case d => repeat (first | exact .nil | refine .cons rfl rfl rfl ?_)); (case e => decide +kernel)
    case d_VALUE_KINDS => refine' LK.HasDct.mk' ?a ?b ?c ?d ?e; (case a => k_is); (case b => k_is); (case c => rfl); (case d => repeat (first | exact .nil | refine .cons rfl rfl rfl ?_)); (case e => decide +kernel)
    case d_OBJECT_KINDS => refine' LK.HasDct.mk' ?a ?b ?c ?d ?e; (case a => k_is); (case b => k_is); (case c => rfl); (case d => repeat (first | exact .nil | refine .cons rfl rfl rfl ?_)); (case e => decide +kernel)


